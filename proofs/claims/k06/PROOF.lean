import PyProof.Rows.All
import Wide.All
import OpenK.AllK
import Wide.FinOn
import PyProof.P3Statements
import PyProof.EqLayable
import KE.KeyNested
import HandS.ForMost
import HandS.ForExc
import HandS.Deep
import HandS.IsInst
import HandS.TupAny
import HandS.Walk
import HandS.Evl
import KE.KDictKeyed
import HandS.TupLen
import HandS.Records
import KE.KDictWalk
import HandS.Iter
import KE.GoesEnum
import HandS.DictComp
import HandS.CallSlots
import HandS.MakeKwOnly
import HandS.RepeatKit
import PyProof.TupleOfSeq
import PyProof.Rows.SortShell
import HandS.ExcInit
import HandS.ExcField
import HandS.ExcIs
import HandS.SetFor
import HandS.SortInts
import HandS.Conv
import HandS.WideBits
import HandS.Strs
import KE.DataCmp
import KE.LtData
import KE.SortData
import KE.DataMinMax
import HandS.TupMul
import HandS.Style
import HandS.Codes
import HandS.Zip
import HandS.RaiseMore
import HandS.More
import PyProof.AutoSeq1
import PySem.Challenge.RW_rulestand_k06_bounds_of_programs
set_option linter.all false
/-! Plain data, and what each construct of a def makes of them: the names of a def are slots; a slot holds a value that may be shared, or a list or dict that nobody else knows (own), or one that the caller lent (bor). -/
namespace Dn
open PySem

inductive D where
  | non | bl (b : Bool) | int (i : Int) | str (x : Str) | tup (xs : List D) | lst (xs : List D) | dic (kvs : List (D × D)) | scr (ns : List Int)
  | obj (cls : Str) (fs : List (Str × D))

mutual
def D.toP : D → PyData
  | .non => .none
  | .bl b => .bool b
  | .int i => .int i
  | .str x => .str x
  | .tup xs => .tuple (toPs xs)
  | .lst xs => .list (toPs xs)
  | .dic _ => .none
  | .scr _ => .none
  | .obj _ _ => .none
def toPs : List D → List PyData
  | [] => []
  | x :: r => x.toP :: toPs r
end
theorem toPs_map : ∀ xs : List D, toPs xs = xs.map D.toP
  | [] => by simp only [toPs, List.map_nil]
  | x :: r => by simp only [toPs, List.map_cons, toPs_map r]
mutual
/-- what == may be asked of: no dicts, no deeper than n -/
def okD : Nat → D → Bool
  | _, .non => true
  | _, .bl _ => true
  | _, .int _ => true
  | _, .str x => x.cps.all fun n => decide (n < 1114112)
  | n + 1, .tup xs => okDs n xs
  | n + 1, .lst xs => okDs n xs
  | 0, .tup _ => false
  | 0, .lst _ => false
  | _, .dic _ => false
  | _, .scr _ => false
  | _, .obj _ _ => false
def okDs : Nat → List D → Bool
  | _, [] => true
  | n, x :: r => okD n x && okDs n r
end
theorem okDs_all (n : Nat) : ∀ xs : List D, okDs n xs = xs.all (okD n)
  | [] => by simp only [okDs, List.all_nil]
  | x :: r => by simp only [okDs, List.all_cons, okDs_all n r]
abbrev D.ok (d : D) : Bool := okD 30 d
/-- Python's == -/
def D.eqv (a b : D) : Bool := PyData.eqv a.toP b.toP

/-- a list or dict that stands in an attribute; a dict of lists -/
inductive Lf where
  | lst (xs : List D) | dic (kvs : List (D × D)) | dicL (kvs : List (D × List D))
@[simp] def dicLd (kvs : List (D × List D)) : List (D × D) := kvs.map fun p => (p.1, .lst p.2)
@[simp] def Lf.d : Lf → D
  | .lst xs => .lst xs
  | .dic kvs => .dic kvs
  | .dicL kvs => .dic (dicLd kvs)
/-- an attribute: a value, or a list or dict of its own -/
inductive Fd where
  | d (x : D) | c (k : Lf)
@[simp] def Fd.fr : Fd → D
  | .d x => x
  | .c k => k.d
/-- what an own (or lent) object holds -/
inductive C where
  | lst (xs : List D) | dic (kvs : List (D × D)) | dicL (kvs : List (D × List D)) | obj (cls : Str) (fs : List (Str × Fd))
@[simp] def Lf.c : Lf → C
  | .lst xs => .lst xs
  | .dic kvs => .dic kvs
  | .dicL kvs => .dicL kvs
@[simp] def C.lf : C → Option Lf
  | .lst xs => some (.lst xs)
  | .dic kvs => some (.dic kvs)
  | .dicL kvs => some (.dicL kvs)
  | .obj _ _ => none
@[simp] def frF (fs : List (Str × Fd)) : List (Str × D) := fs.map fun p => (p.1, p.2.fr)
@[simp] def C.d : C → D
  | .lst xs => .lst xs
  | .dic kvs => .dic kvs
  | .dicL kvs => .dic (dicLd kvs)
  | .obj cls fs => .obj cls (frF fs)
/-- an expression's value: one that may be shared, or an object just made that nobody else knows -/
inductive Rv where
  | d (d : D) | o (c : C)
@[simp] def Rv.fr : Rv → D
  | .d x => x
  | .o c => c.d
structure Err where
  cls : Str
  args : List (Str × D)
/-- exc: the exception that is being handled, by its name -/
inductive Slot where
  | un | val (d : D) | own (c : C) | bor (c : C) | exc (e : Err)
@[simp] def Slot.isC : Slot → Bool
  | .own _ => true
  | .bor _ => true
  | _ => false
@[simp] def Rv.sl : Rv → Slot
  | .d x => .val x
  | .o c => .own c
abbrev Env := List Slot
inductive Res (α : Type) where
  | bad | err (e : Err) (ρ : Env) | ok (a : α) (ρ : Env)
abbrev M (α : Type) := Env → Res α
@[simp] def ret {α : Type} (a : α) : M α := fun ρ => .ok a ρ
@[simp] def bad {α : Type} : M α := fun _ => .bad
@[simp] def bind {α β : Type} (m : M α) (f : α → M β) : M β := fun ρ => match m ρ with
  | .bad => .bad
  | .err e ρ' => .err e ρ'
  | .ok a ρ' => f a ρ'
@[simp] def opt {α : Type} : Option α → M α
  | some a => ret a
  | none => bad
/-- no error comes -/
def quiet {α : Type} (m : M α) : M α := fun ρ => match m ρ with
  | .err _ _ => .bad
  | r => r
abbrev E := M Rv
abbrev T := M Bool
@[simp] def val (m : E) : M D := bind m fun r => ret r.fr

/-! ### expressions -/
@[simp] def eC (d : D) : E := ret (.d d)
/-- a name: an own object is shared from here on -/
@[simp] def eV (i : Nat) : E := fun ρ => match ρ[i]? with
  | some (.val d) => .ok (.d d) ρ
  | some (.own c) => .ok (.d c.d) (ρ.set i (.val c.d))
  | _ => .bad
/-- a name that is not asked again: its own object is handed on -/
@[simp] def eMv (i : Nat) : E := fun ρ => match ρ[i]? with
  | some (.val d) => .ok (.d d) ρ
  | some (.own c) => .ok (.o c) (ρ.set i .un)
  | _ => .bad
/-- what a name holds, to be looked at -/
@[simp] def peek (i : Nat) : M D := fun ρ => match ρ[i]? with
  | some (.val d) => .ok d ρ
  | some (.own c) => .ok c.d ρ
  | some (.bor c) => .ok c.d ρ
  | _ => .bad
/-- .. to be asked for an item -/
@[simp] def C.pk : C → Bool
  | .lst _ => true
  | .dic _ => true
  | _ => false
@[simp] def peekI (i : Nat) : M D := fun ρ => match ρ[i]? with
  | some (.val d) => .ok d ρ
  | some (.own c) => if c.pk then .ok c.d ρ else .bad
  | some (.bor c) => if c.pk then .ok c.d ρ else .bad
  | _ => .bad
@[simp] def e1 (f : D → Option Rv) (a : E) : E := bind (val a) fun x => opt (f x)
@[simp] def e2 (f : D → D → Option Rv) (a b : E) : E := bind (val a) fun x => bind (val b) fun y => opt (f x y)
@[simp] def eIf (t : T) (a b : E) : E := bind t fun k => if k then a else b
@[simp] def tIf (t a b : T) : T := bind t fun k => if k then a else b
@[simp] def tAnd (a b : T) : T := bind a fun k => if k then b else ret false
@[simp] def tOr (a b : T) : T := bind a fun k => if k then ret true else b
@[simp] def tNot (a : T) : T := bind a fun k => ret (!k)
/-- a test as a value, and back -/
@[simp] def eT (t : T) : E := bind t fun k => ret (.d (.bl k))
@[simp] def asB : D → Option Bool
  | .bl b => some b
  | _ => none
@[simp] def tE (m : E) : T := bind (val m) fun x => opt (asB x)
@[simp] def truth : D → Option Bool
  | .non => some false
  | .bl b => some b
  | .int i => some (i != 0)
  | .str x => if x.length ≤ 100000 then some ((x.length : Int) != 0) else none
  | .tup xs => some (!xs.isEmpty)
  | .lst xs => some (!xs.isEmpty)
  | .dic kvs => some (!kvs.isEmpty)
  | .scr _ => none
  | .obj _ _ => none
@[simp] def tTr (m : E) : T := bind (val m) fun x => opt (truth x)
@[simp] def tPk (i : Nat) : T := bind (peek i) fun x => opt (truth x)
@[simp] def t2 (f : D → D → Option Bool) (a b : E) : T := bind (val a) fun x => bind (val b) fun y => opt (f x y)
@[simp] def t1 (f : D → Option Bool) (a : E) : T := bind (val a) fun x => opt (f x)
/-- arguments, from the left -/
@[simp] def args : List E → M (List D)
  | [] => ret []
  | a :: r => bind (val a) fun x => bind (args r) fun xs => ret (x :: xs)
@[simp] def eTup (es : List E) : E := bind (args es) fun xs => if xs.length ≤ 100000 then ret (.d (.tup xs)) else bad
@[simp] def eLst (es : List E) : E := bind (args es) fun xs => if xs.length ≤ 100000 then ret (.o (.lst xs)) else bad
@[simp] def eN (f : List D → Option Rv) (es : List E) : E := bind (args es) fun xs => opt (f xs)

/-- and, or, not of values, all but the last True or False -/
@[simp] def eAnd (a b : E) : E := bind (tE a) fun k => if k then b else ret (.d (.bl false))
@[simp] def eOr (a b : E) : E := bind (tE a) fun k => if k then ret (.d (.bl true)) else b
@[simp] def eNot (a : E) : E := bind (tE a) fun k => ret (.d (.bl !k))
/-- what stands at a name's slot, looked at once the other operand is there -/
@[simp] def hasV : Option Slot → Bool
  | some (.val _) => true
  | some (.own _) => true
  | some (.bor _) => true
  | _ => false
@[simp] def ePk2 (f : D → D → Option D) (i : Nat) (m : E) : E := fun ρ => if hasV ρ[i]? then bind (val m) (fun j ρ' => match peekI i ρ' with
  | .ok x _ => match f x j with
    | some d => .ok (.d d) ρ'
    | none => .bad
  | _ => .bad) ρ else .bad
@[simp] def ePk1 (f : D → Option D) (i : Nat) : E := fun ρ => match peek i ρ with
  | .ok x _ => match f x with
    | some d => .ok (.d d) ρ
    | none => .bad
  | _ => .bad

/-- a test of a value and of what a name holds -/
@[simp] def t2k (f : D → D → Option Bool) (i : Nat) (a : E) : T := bind (val a) fun x ρ => match peek i ρ with
  | .ok y _ => opt (f x y) ρ
  | _ => .bad
/-! ### operations -/
def dOk (n : Nat) : Bool := decide (n ≤ 100000)
@[simp] def oAdd : D → D → Option Rv
  | .int a, .int b => some (.d (.int (a + b)))
  | .str a, .str b => if a.length + b.length ≤ 100000 then some (.d (.str (a ++ b))) else none
  | .tup a, .tup b => if a.length + b.length ≤ 100000 then some (.d (.tup (a ++ b))) else none
  | .lst a, .lst b => if a.length + b.length ≤ 100000 then some (.o (.lst (a ++ b))) else none
  | _, _ => none
@[simp] def oSub : D → D → Option Rv
  | .int a, .int b => some (.d (.int (a - b)))
  | _, _ => none
def mulOk (i j : Int) : Bool := (decide (-(2 ^ 64) < i) && decide (i < 2 ^ 64)) || (decide (-(2 ^ 64) < j) && decide (j < 2 ^ 64))
def oMul : D → D → Option Rv
  | .int a, .int b => if mulOk a b then some (.d (.int (a * b))) else none
  | .lst a, .int b => if 0 ≤ b ∧ b ≤ 100000 ∧ a.length * b.toNat ≤ 100000 then some (.o (.lst (List.replicate b.toNat a).flatten)) else none
  | _, _ => none
@[simp] def oDiv : D → D → Option Rv
  | .int a, .int b => if 0 < b ∧ b < 1073741824 then some (.d (.int (a / b))) else none
  | _, _ => none
@[simp] def oMod : D → D → Option Rv
  | .int a, .int b => if 0 < b then some (.d (.int (a % b))) else none
  | _, _ => none
def oPow : D → D → Option Rv
  | .int a, .int b => if 0 ≤ b ∧ b ≤ 1000000 ∧ a.natAbs < 2 ^ 64 then some (.d (.int (a ^ b.toNat))) else none
  | _, _ => none
@[simp] def oNeg : D → Option Rv
  | .int a => some (.d (.int (-a)))
  | _ => none
@[simp] def oEq (a b : D) : Option Bool := if a.ok && b.ok then some (a.eqv b) else none
@[simp] def oNe (a b : D) : Option Bool := if a.ok && b.ok then some (!a.eqv b) else none
@[simp] def oLt : D → D → Option Bool
  | .int a, .int b => some (decide (a < b))
  | .str a, .str b => some (decide (a.cps.toList < b.cps.toList))
  | _, _ => none
@[simp] def oLe : D → D → Option Bool
  | .int a, .int b => some (decide (a ≤ b))
  | _, _ => none
@[simp] def oGt : D → D → Option Bool
  | .int a, .int b => some (decide (b < a))
  | _, _ => none
@[simp] def oGe : D → D → Option Bool
  | .int a, .int b => some (decide (b ≤ a))
  | _, _ => none
@[simp] def isNon : D → Bool
  | .non => true
  | _ => false
@[simp] def oIsN (a : D) : Option Bool := some (isNon a)
@[simp] def oNotN (a : D) : Option Bool := some (!isNon a)
/-- a < b < c -/
@[simp] def eChain (f g : D → D → Option Bool) (a b c : E) : T :=
  bind (val a) fun x => bind (val b) fun y => bind (opt (f x y)) fun k => if k then bind (val c) fun z => opt (g y z) else ret false
/-- the place of an index -/
def ixAt (n : Nat) (i : Int) : Option Nat := if 0 ≤ i then (if i < n then some i.toNat else none) else if -(n : Int) ≤ i then some (i + n).toNat else none
def dAt {α : Type} (xs : List α) (i : Int) : Option α := (ixAt xs.length i).bind fun j => xs[j]?
def dGet (kvs : List (D × D)) (k : D) : Option D := (kvs.find? fun p => p.1.eqv k).map (·.2)
def dHas (kvs : List (D × D)) (k : D) : Bool := kvs.any fun p => p.1.eqv k
def dPut (kvs : List (D × D)) (k v : D) : List (D × D) := if dHas kvs k then kvs.map fun p => if p.1.eqv k then (p.1, v) else p else kvs ++ [(k, v)]
@[simp] def oIx : D → D → Option Rv
  | .lst xs, .int i => (dAt xs i).map .d
  | .tup xs, .int i => (dAt xs i).map .d
  | .str x, .int i => if x.length ≤ 100000 then (dAt x.cps.toList i).map fun c => .d (.str ⟨#[c]⟩) else none
  | _, _ => none
/-- keys: whole numbers and texts -/
def isKey : D → Bool
  | .int _ => true
  | .str _ => true
  | _ => false
@[simp] theorem isKey_int (i : Int) : isKey (.int i) = true := rfl
@[simp] theorem isKey_str (x : Str) : isKey (.str x) = true := rfl
mutual
/-- keys of any depth -/
def keyN : D → Option NestedKey
  | .non => some .none
  | .bl b => some (.num (if b then 1 else 0))
  | .int i => some (.num i)
  | .str x => some (.text x)
  | .tup xs => (keysN xs).map .tup
  | .lst _ => none
  | .dic _ => none
  | .scr _ => none
  | .obj _ _ => none
def keysN : List D → Option (List NestedKey)
  | [] => some []
  | x :: r => match keyN x, keysN r with
    | some k, some ks => some (k :: ks)
    | _, _ => none
end
/-- a tuple that may be a key -/
def isKeyT : D → Bool
  | .tup xs => match keysN xs with
    | some ks => decide ((NestedKey.tup ks).depth ≤ 8)
    | none => false
  | _ => false
theorem isKeyT_notKey' {d : D} (h : isKeyT d = true) : isKey d = false := by
  cases d <;> first | rfl | cases h
/-- a key of the kind that the dict's keys have -/
def kSame (kvs : List (D × D)) (k : D) : Bool := (isKey k && match kvs with
  | [] => true
  | p :: _ => isKey p.1) || (isKeyT k && match kvs with
  | [] => true
  | p :: _ => !isKey p.1)
@[simp] def oDGet : D → D → Option Rv
  | .dic kvs, k => if kSame kvs k then (dGet kvs k).map .d else none
  | _, _ => none
/-- a[k] of whatever a is -/
@[simp] def oIxA : D → D → Option Rv
  | .dic kvs, k => oDGet (.dic kvs) k
  | x, y => oIx x y
@[simp] def oIxD (x y : D) : Option D := match oIxA x y with
  | some (.d z) => some z
  | _ => none
@[simp] def oDGetD : D → D → D → Option Rv
  | .dic kvs, k, x => if kSame kvs k then some (.d ((dGet kvs k).getD x)) else none
  | _, _, _ => none
@[simp] def oDIn : D → D → Option Bool
  | k, .dic kvs => if kSame kvs k then some (dGet kvs k).isSome else none
  | _, _ => none
def flatD : D → Bool
  | .non => true
  | .bl _ => true
  | .int _ => true
  | .str _ => true
  | _ => false
def oIn : D → D → Option Bool
  | x, .lst ys => if x.ok && (D.lst ys).ok then some (ys.any fun y => y.eqv x) else none
  | x, .tup ys => if flatD x && ys.all flatD then some (ys.any fun y => y.eqv x) else if x.ok && (D.tup ys).ok then some (ys.any fun y => y.eqv x) else none
  | _, _ => none
/-- one sign in a text -/
def oInS : D → D → Option Bool
  | .str x, .str y => match x.cps.toList with
    | [k] => some (decide (k ∈ y.cps.toList))
    | _ => none
  | _, _ => none
@[simp] def oInA (a : D) : D → Option Bool
  | .dic kvs => oDIn a (.dic kvs)
  | .str y => oInS a (.str y)
  | b => oIn a b
@[simp] def oNotInA (a b : D) : Option Bool := (oInA a b).map (!·)
@[simp] def oLen : D → Option Rv
  | .lst xs => some (.d (.int xs.length))
  | .tup xs => some (.d (.int xs.length))
  | .str x => if x.length ≤ 100000 then some (.d (.int x.length)) else none
  | .dic kvs => some (.d (.int kvs.length))
  | _ => none
@[simp] def oLenD (x : D) : Option D := match oLen x with
  | some (.d z) => some z
  | _ => none
@[simp] def oAbs : D → Option Rv
  | .int i => some (.d (.int (if i < 0 then -i else i)))
  | _ => none
@[simp] def oInt : D → Option Rv
  | .int i => some (.d (.int i))
  | .bl b => some (.d (.int (if b then 1 else 0)))
  | _ => none
@[simp] def oMax2 : List D → Option Rv
  | [.int i, .int j] => some (.d (.int (if j > i then j else i)))
  | _ => none
@[simp] def oMin2 : List D → Option Rv
  | [.int i, .int j] => some (.d (.int (if j < i then j else i)))
  | _ => none
@[simp] def asBs : List D → Option (List Bool)
  | [] => some []
  | .bl b :: r => (asBs r).map (b :: ·)
  | _ :: _ => none
@[simp] def asIs : List D → Option (List Int)
  | [] => some []
  | .int b :: r => (asIs r).map (b :: ·)
  | _ :: _ => none
@[simp] def oAll : D → Option Rv
  | .lst xs => (asBs xs).map fun bs => .d (.bl (bs.all id))
  | _ => none
@[simp] def oAny : D → Option Rv
  | .lst xs => (asBs xs).map fun bs => .d (.bl (bs.any id))
  | _ => none
@[simp] def oSum : D → Option Rv
  | .lst xs => (asIs xs).map fun ns => .d (.int ns.sum)
  | _ => none
@[simp] def oList : D → Option Rv
  | .lst xs => some (.o (.lst xs))
  | .tup xs => some (.o (.lst xs))
  | .scr ns => some (.o (.lst (ns.map .int)))
  | _ => none
@[simp] def oTuple : D → Option Rv
  | .lst xs => some (.d (.tup xs))
  | .tup xs => some (.d (.tup xs))
  | _ => none
/-- isinstance: the type's name, and whether it is one of these -/
@[simp] def D.ty : D → String
  | .non => "NoneType"
  | .bl _ => "bool"
  | .int _ => "int"
  | .str _ => "str"
  | .tup _ => "tuple"
  | .lst _ => "list"
  | .dic _ => "dict"
  | .scr _ => "list"
  | .obj _ _ => "object"
def isiT (t c : String) : Bool := t == c || (t == "bool" && c == "int")
@[simp] def noTy : D → Bool
  | .obj _ _ => true
  | .dic _ => true
  | _ => false
@[simp] def oIsi (c : String) (x : D) : Option Rv := if noTy x then none else some (.d (.bl (isiT x.ty c)))
/-- isinstance(e, a class of the program's own that no class is derived from) -/
def oIsC (c : Str) : D → Option Rv
  | .obj k _ => some (.d (.bl (decide (k = c))))
  | _ => some (.d (.bl false))
/-- e.f -/
@[simp] def oAttr (f : Str) : D → Option Rv
  | .obj _ fs => (fs.lookup f).map .d
  | _ => none
@[simp] def oAttrD (f : Str) : D → Option D
  | .obj _ fs => fs.lookup f
  | _ => none
/-- dict(a list of pairs) -/
def asPairs : List D → Option (List (D × D))
  | [] => some []
  | .tup [k, v] :: r => if isKey k then (asPairs r).map ((k, v) :: ·) else none
  | _ :: _ => none
def merge (kvs more : List (D × D)) : List (D × D) := more.foldl (fun acc p => dPut acc p.1 p.2) kvs
def oDictP : D → Option Rv
  | .lst xs => (asPairs xs).map fun ps => .o (.dic (merge [] ps))
  | _ => none

@[simp] def isDic : D → Bool
  | .dic _ => true
  | _ => false
/-- d.get(k, x) -/
@[simp] def eGet2 (a k x : E) : E := bind (val a) fun d => if isDic d then bind (val k) fun y => bind (val x) fun z => opt (oDGetD d y z) else bad
/-- dict displays -/
@[simp] def ePairs : List (E × E) → M (List (D × D))
  | [] => ret []
  | (k, v) :: r => bind (val k) fun x => bind (val v) fun y => bind (ePairs r) fun ps => ret ((x, y) :: ps)
@[simp] def eDisp (ps : List (E × E)) : E := fun ρ => match ePairs ps ρ with
  | .ok kvs ρ' => if kvs.all (fun p => isKey p.1) && decide (kvs.length ≤ 15) then .ok (.o (.dic (merge [] kvs))) ρ' else .bad
  | _ => .bad

/-! ### statements -/
inductive Fl where
  | bad | err (e : Err) (ρ : Env) | nx (ρ : Env) | rt (r : Rv) (ρ : Env) | bk (ρ : Env) | ct (ρ : Env)
abbrev S := Env → Fl
@[simp] def sNil : S := fun ρ => .nx ρ
@[simp] def sSeq (a b : S) : S := fun ρ => match a ρ with
  | .nx ρ' => b ρ'
  | f => f
@[simp] def sBad : S := fun _ => .bad
@[simp] def sBk : S := fun ρ => .bk ρ
@[simp] def sCt : S := fun ρ => .ct ρ
@[simp] def store (ρ : Env) (i : Nat) (s : Slot) : Option Env := match ρ[i]? with
  | some (.bor _) => none
  | some _ => some (ρ.set i s)
  | none => none
@[simp] def runM {α : Type} (m : M α) (k : α → Env → Fl) : S := fun ρ => match m ρ with
  | .bad => .bad
  | .err e ρ' => .err e ρ'
  | .ok a ρ' => k a ρ'
@[simp] def sAsg (i : Nat) (m : E) : S := runM m fun r ρ => match store ρ i r.sl with
  | some ρ' => .nx ρ'
  | none => .bad
@[simp] def sRet (m : E) : S := runM m fun r ρ => .rt r ρ
@[simp] def sRetN : S := fun ρ => .rt (.d .non) ρ
@[simp] def sExp (m : E) : S := runM m fun _ ρ => .nx ρ
@[simp] def sIf (t : T) (a b : S) : S := runM t fun k ρ => if k then a ρ else b ρ
/-- targets -/
abbrev Tg := D → Env → Option Env
@[simp] def gV (i : Nat) : Tg := fun d ρ => store ρ i (.val d)
@[simp] def gVs : List Nat → List D → Env → Option Env
  | [], [], ρ => some ρ
  | i :: is, d :: ds, ρ => (store ρ i (.val d)).bind (gVs is ds)
  | _, _, _ => none
@[simp] def gT (is : List Nat) : Tg := fun d ρ => match d with
  | .tup ds => gVs is ds ρ
  | _ => none
@[simp] def sUnp (is : List Nat) (m : E) : S := runM (val m) fun d ρ => match gT is d ρ with
  | some ρ' => .nx ρ'
  | none => .bad
/-- x += e -/
@[simp] def sAug (f : D → D → Option Rv) (i : Nat) (m : E) : S := fun ρ => match ρ[i]? with
  | some (.val x) => match val m ρ with
    | .bad => .bad
    | .err e ρ' => .err e ρ'
    | .ok y ρ' => match f x y with
      | some (.d z) => match store ρ' i (.val z) with
        | some ρ'' => .nx ρ''
        | none => .bad
      | _ => .bad
  | _ => .bad
/-- what an own or lent object in slot i becomes -/
@[simp] def chg (i : Nat) (f : C → Option C) : S := fun ρ => match ρ[i]? with
  | some (.own c) => match f c with
    | some c' => .nx (ρ.set i (.own c'))
    | none => .bad
  | some (.bor c) => match f c with
    | some c' => .nx (ρ.set i (.bor c'))
    | none => .bad
  | _ => .bad
@[simp] def cApp (d : D) : C → Option C
  | .lst xs => if xs.length < 100000 then some (.lst (xs ++ [d])) else none
  | _ => none
@[simp] def cExt (ds : List D) : C → Option C
  | .lst xs => if xs.length + ds.length ≤ 100000 then some (.lst (xs ++ ds)) else none
  | _ => none
@[simp] def cSetI (i : Int) (d : D) : C → Option C
  | .lst xs => (ixAt xs.length i).map fun j => .lst (xs.set j d)
  | _ => none
@[simp] def cPutK (k d : D) : C → Option C
  | .dic kvs => if kSame kvs k && decide (kvs.length < 100000) then some (.dic (dPut kvs k d)) else none
  | _ => none
def putFd (f : Str) (x : Fd) : List (Str × Fd) → List (Str × Fd)
  | [] => [(f, x)]
  | (g, y) :: r => if g = f then (g, x) :: r else (g, y) :: putFd f x r
/-- self.f = e -/
@[simp] def cSetF (f : Str) (d : D) : C → Option C
  | .obj cls fs => if fs.length < 900 then some (.obj cls (putFd f (.d d) fs)) else none
  | _ => none
@[simp] def isCont : Option Slot → Bool
  | some s => s.isC
  | none => false
@[simp] def isOb : Option Slot → Bool
  | some (.own (.obj _ _)) => true
  | some (.bor (.obj _ _)) => true
  | _ => false
@[simp] def isLs : Option Slot → Bool
  | some (.own (.lst _)) => true
  | some (.bor (.lst _)) => true
  | _ => false
/-- x.append(e), x.extend(e), x[e] = v with x a name -/
@[simp] def sApp (i : Nat) (m : E) : S := fun ρ => if isLs ρ[i]? then runM (val m) (fun d ρ => chg i (cApp d) ρ) ρ else .bad
@[simp] def sExt (i : Nat) (m : E) : S := fun ρ => if isLs ρ[i]? then runM (val m) (fun d ρ => match d with
  | .lst ds => chg i (cExt ds) ρ
  | _ => .bad) ρ else .bad
@[simp] def sSetI (i : Nat) (k v : E) : S := runM (val v) fun d ρ => if isCont ρ[i]? then runM (val k) (fun j ρ => match j with
  | .int n => chg i (cSetI n d) ρ
  | _ => .bad) ρ else .bad
@[simp] def sSetF (i : Nat) (f : Str) (m : E) : S := runM (val m) fun d ρ => if isOb ρ[i]? then chg i (cSetF f d) ρ else .bad
@[simp] def sPutK (i : Nat) (k v : E) : S := runM (val v) fun d ρ => if isCont ρ[i]? then runM (val k) (fun j ρ => chg i (cPutK j d) ρ) ρ else .bad

/-! ### loops -/
def loop (g : Tg) (b : S) : List D → Env → Fl
  | [], ρ => .nx ρ
  | x :: xs, ρ => match g x ρ with
    | none => .bad
    | some ρ1 => match b ρ1 with
      | .nx ρ2 => loop g b xs ρ2
      | .ct ρ2 => loop g b xs ρ2
      | .bk ρ2 => .nx ρ2
      | f => f
@[simp] def sFor (src : M (List D)) (g : Tg) (b : S) : S := runM src fun xs ρ => loop g b xs ρ
def wh (t : T) (b : S) : Nat → Env → Fl
  | 0, _ => .bad
  | n + 1, ρ => match t ρ with
    | .bad => .bad
    | .err e ρ' => .err e ρ'
    | .ok false ρ' => .nx ρ'
    | .ok true ρ' => match b ρ' with
      | .nx ρ2 => wh t b n ρ2
      | .ct ρ2 => wh t b n ρ2
      | .bk ρ2 => .nx ρ2
      | f => f
/-- the walked items -/
@[simp] def srcSeq (m : E) : M (List D) := bind (val m) fun d => match d with
  | .lst xs => ret xs
  | .tup xs => ret xs
  | .dic kvs => ret (kvs.map (·.1))
  | _ => bad
def upTo (lo : Int) (n : Nat) : List D := (List.range n).map fun (i : Nat) => .int (lo + (i : Int))
def bigOk (i : Int) : Bool := decide (-1000000000 ≤ i) && decide (i ≤ 1000000000)
def srcL (m : E) : M (List D) := bind (val m) fun d => match d with
  | .lst xs => ret xs
  | _ => bad
def srcT (m : E) : M (List D) := bind (val m) fun d => match d with
  | .tup xs => ret xs
  | _ => bad
def zipD : List D → List D → List D
  | x :: xs, y :: ys => .tup [x, y] :: zipD xs ys
  | _, _ => []
def srcZip (m n : E) : M (List D) := bind (val m) fun c => bind (val n) fun d => match c, d with
  | .lst xs, .lst ys => ret (zipD xs ys)
  | _, _ => bad
/-- rows of k of the numbers a, a + 1, .. (m of them), in their order -/
def rowsC : Nat → Nat → Nat → List (List Nat)
  | _, _, 0 => [[]]
  | _, 0, _ + 1 => []
  | a, m + 1, k + 1 => (rowsC (a + 1) m k).map (a :: ·) ++ rowsC (a + 1) m (k + 1)
def cmbD (ds : List D) (k : Nat) : List D := (rowsC 0 ds.length k).map fun is => .tup (is.map fun i => ds.getD i .non)
def srcCmb (m n : E) : M (List D) := bind (val m) fun c => bind (val n) fun d => match c, d with
  | .lst xs, .int r => if decide (0 ≤ r) && decide (r < 1000) && decide (xs.length ≤ 1000) then ret (cmbD xs r.toNat) else bad
  | _, _ => bad
def srcR1 (m : E) : M (List D) := bind (val m) fun d => match d with
  | .int j => if bigOk j then ret (upTo 0 j.toNat) else bad
  | _ => bad
def srcR2 (m n : E) : M (List D) := bind (val m) fun c => bind (val n) fun d => match c, d with
  | .int i, .int j => if bigOk i && bigOk j then ret (upTo i (j - i).toNat) else bad
  | _, _ => bad
def pairsN : Nat → List D → List D
  | _, [] => []
  | n, x :: r => .tup [.int (n : Int), x] :: pairsN (n + 1) r
def srcEnum (m : E) : M (List D) := bind (val m) fun d => match d with
  | .lst xs => ret (pairsN 0 xs)
  | .tup xs => ret (pairsN 0 xs)
  | _ => bad
/-- slots of a comprehension's own names, emptied | put back -/
def wipeE (ρ : Env) : List Nat → Env
  | [] => ρ
  | i :: r => (wipeE ρ r).set i .un
def backS : Option Slot → Slot
  | some (.val d) => .val d
  | _ => .un
def backE (ρ0 ρ : Env) : List Nat → Env
  | [] => ρ
  | i :: r => (backE ρ0 ρ r).set i (backS ρ0[i]?)
def comp (own : List Nat) (g : Tg) (t : T) (e : E) : List D → List D → Env → Res (List D)
  | [], acc, ρ => .ok acc ρ
  | x :: xs, acc, ρ => match g x (wipeE ρ own) with
    | none => .bad
    | some ρ1 => match t ρ1 with
      | .ok false ρ2 => comp own g t e xs acc ρ2
      | .ok true ρ2 => match val e ρ2 with
        | .ok y ρ3 => if acc.length < 100000 then comp own g t e xs (acc ++ [y]) ρ3 else .bad
        | _ => .bad
      | _ => .bad
@[simp] def tYes : T := ret true
def eLc (own : List Nat) (src : M (List D)) (g : Tg) (t : T) (e : E) : E := bind src fun xs ρ => match comp own g t e xs [] ρ with
  | .ok ys ρ' => .ok (.o (.lst ys)) (backE ρ ρ' own)
  | _ => .bad

/-- {k: v for ..} -/
def compD (own : List Nat) (g : Tg) (t : T) (ke ve : E) : List D → List (D × D) → Env → Res (List (D × D))
  | [], acc, ρ => .ok acc ρ
  | x :: xs, acc, ρ => match g x (wipeE ρ own) with
    | none => .bad
    | some ρ1 => match t ρ1 with
      | .ok false ρ2 => compD own g t ke ve xs acc ρ2
      | .ok true ρ2 => match val ke ρ2 with
        | .ok k ρ3 => match val ve ρ3 with
          | .ok y ρ4 => if kSame acc k && decide (acc.length < 100000) then compD own g t ke ve xs (dPut acc k y) ρ4 else .bad
          | _ => .bad
        | _ => .bad
      | _ => .bad
def eDc (own : List Nat) (src : M (List D)) (g : Tg) (t : T) (ke ve : E) : E := bind src fun xs ρ => match compD own g t ke ve xs [] ρ with
  | .ok kvs ρ' => .ok (.o (.dic kvs)) (backE ρ ρ' own)
  | _ => .bad

/-! ### defs and calls -/
abbrev FD := List Slot → Res Rv
@[simp] def keepO : Slot → Slot
  | .bor c => .bor c
  | _ => .un
@[simp] def outE : Nat → Env → List Slot
  | 0, _ => []
  | n + 1, [] => .un :: outE n []
  | n + 1, s :: ρ => keepO s :: outE n ρ
@[simp] def fn (n : Nat) (b : S) : FD := fun as => match b (as ++ List.replicate (n - as.length) .un) with
  | .rt r ρ => .ok r (outE as.length ρ)
  | .nx ρ => .ok (.d .non) (outE as.length ρ)
  | .err e ρ => .err e (outE as.length ρ)
  | _ => .bad
/-- an argument: a value, or a name whose own (or lent) object is lent -/
inductive Ar where
  | v (m : E) | b (i : Nat)
@[simp] def argv : List Ar → M (List (D ⊕ Nat))
  | [] => ret []
  | .v m :: r => bind (val m) fun x => bind (argv r) fun xs => ret (.inl x :: xs)
  | .b i :: r => fun ρ => if isCont ρ[i]? then bind (argv r) (fun xs => ret (.inr i :: xs)) ρ else .bad
@[simp] def lend (ρ : Env) : List (D ⊕ Nat) → Option (List Slot)
  | [] => some []
  | .inl d :: r => (lend ρ r).map (.val d :: ·)
  | .inr i :: r => match ρ[i]? with
    | some (.own c) => (lend ρ r).map (.bor c :: ·)
    | some (.bor c) => (lend ρ r).map (.bor c :: ·)
    | _ => none
/-- what was lent comes back -/
@[simp] def back1 : Option Slot → Slot → Slot
  | some (.own _), .bor c => .own c
  | some (.bor _), .bor c => .bor c
  | _, _ => .un
@[simp] def takeB (ρ : Env) : List (D ⊕ Nat) → List Slot → Env
  | .inr i :: r, s0 :: s => (takeB ρ r s).set i (back1 ρ[i]? s0)
  | .inl _ :: r, _ :: s => takeB ρ r s
  | .inr i :: r, [] => (takeB ρ r []).set i .un
  | .inl _ :: r, [] => takeB ρ r []
  | [], _ => ρ
@[simp] def idxs : List (D ⊕ Nat) → List Nat
  | [] => []
  | .inr i :: r => i :: idxs r
  | _ :: r => idxs r
@[simp] def eCall (F : FD) (as : List Ar) : E := bind (argv as) fun xs ρ =>
  if (idxs xs).Nodup then match lend ρ xs with
    | none => .bad
    | some sl => match F sl with
      | .bad => .bad
      | .err e sl' => .err e (takeB ρ xs sl')
      | .ok r sl' => .ok r (takeB ρ xs sl')
  else .bad

/-- C(..): a new object, which C's own __init__ (F) is lent -/
@[simp] def eNew (cls : Str) (F : FD) (as : List Ar) : E := bind (argv as) fun xs ρ =>
  if (idxs xs).Nodup then match lend ρ xs with
    | none => .bad
    | some sl => match F (.bor (.obj cls []) :: sl) with
      | .bad => .bad
      | .err e sl' => .err e (takeB ρ xs sl'.tail)
      | .ok (.d .non) (.bor k :: sl') => .ok (.o k) (takeB ρ xs sl')
      | .ok _ _ => .bad
  else .bad
/-- raise X(e, ..) of a class whose __init__ stores its parameters fs -/
@[simp] def sRaise (cls : Str) (fs : List Str) (es : List E) : S := runM (args es) fun xs ρ => if xs.length = fs.length then .err ⟨cls, (fs.zip xs).reverse⟩ ρ else .bad
@[simp] def noEx (ρ : Env) : Bool := ρ.all fun s => match s with
  | .exc _ => false
  | _ => true
/-- what an except clause leaves behind -/
@[simp] def endEx (i : Nat) : Fl → Fl
  | .nx ρ2 => if noEx (ρ2.set i .un) then .nx (ρ2.set i .un) else .bad
  | .bk ρ2 => if noEx (ρ2.set i .un) then .bk (ρ2.set i .un) else .bad
  | .ct ρ2 => if noEx (ρ2.set i .un) then .ct (ρ2.set i .un) else .bad
  | .rt r ρ2 => if noEx (ρ2.set i .un) then .rt r (ρ2.set i .un) else .bad
  | .err _ _ => .bad
  | .bad => .bad
@[simp] def isFree : Option Slot → Bool
  | none => false
  | some (.bor _) => false
  | some (.exc _) => false
  | some _ => true
/-- try: b / except X as slot i: h; yes: the classes that X catches, no: those that it lets through -/
@[simp] def sTry (yes no : List Str) (i : Nat) (b h : S) : S := fun ρ => match b ρ with
  | .err e ρ' => if yes.contains e.cls then (if isFree ρ'[i]? then endEx i (h (ρ'.set i (.exc e))) else .bad)
    else if no.contains e.cls then .err e ρ' else .bad
  | f => f
/-- n.f of the exception that is being handled, one of the class cls -/
@[simp] def eExF (i : Nat) (cls f : Str) : E := fun ρ => match ρ[i]? with
  | some (.exc e) => if e.cls = cls then (match e.args.lookup f with
    | some d => .ok (.d d) ρ
    | none => .bad) else .bad
  | _ => .bad
/-- isinstance(n, X) of it -/
@[simp] def eExIs (i : Nat) (yes no : List Str) : E := fun ρ => match ρ[i]? with
  | some (.exc e) => if yes.contains e.cls then .ok (.d (.bl true)) ρ else if no.contains e.cls then .ok (.d (.bl false)) ρ else .bad
  | _ => .bad

/-! ### more operations -/
def oShl : D → D → Option Rv
  | .int a, .int b => if 0 ≤ b ∧ (Builtin.Int.intBits a : Int) + b ≤ 2 ^ 27 then some (.d (.int (a * 2 ^ b.toNat))) else none
  | _, _ => none
def oShr : D → D → Option Rv
  | .int a, .int b => if 0 ≤ b then some (.d (.int (a / 2 ^ b.toNat))) else none
  | _, _ => none
def oBand : D → D → Option Rv
  | .int a, .int b => some (.d (.int (Builtin.bitAnd a b)))
  | _, _ => none
def oBor : D → D → Option Rv
  | .int a, .int b => some (.d (.int (Builtin.bitOr a b)))
  | _, _ => none
def oBitLen : D → Option Rv
  | .int a => some (.d (.int (Builtin.Int.intBits a : Nat)))
  | _ => none
def maxI : List Int → Option Int
  | [] => none
  | [x] => some x
  | x :: r => (maxI r).map fun m => if x < m then m else x
def minI : List Int → Option Int
  | [] => none
  | [x] => some x
  | x :: r => (minI r).map fun m => if m < x then m else x
def insI (x : Int) : List Int → List Int
  | [] => [x]
  | y :: r => if x ≤ y then x :: y :: r else y :: insI x r
def sortI : List Int → List Int
  | [] => []
  | x :: r => insI x (sortI r)
def ddI : List Int → List Int
  | [] => []
  | x :: r => if x ∈ r then ddI r else x :: ddI r
def oMax1 : D → Option Rv
  | .lst xs => (asIs xs).bind fun ns => (maxI ns).map fun m => .d (.int m)
  | _ => none
def oMin1 : D → Option Rv
  | .lst xs => (asIs xs).bind fun ns => (minI ns).map fun m => .d (.int m)
  | _ => none
def oSorted : D → Option Rv
  | .lst xs => (asIs xs).map fun ns => .o (.lst ((sortI ns).map .int))
  | _ => none
def oSortedSet : D → Option Rv
  | .lst xs => (asIs xs).bind fun ns => if ns.length < 64 then some (.o (.lst ((sortI (ddI ns)).map .int))) else none
  | _ => none
def eListR2 (a b : E) : E := bind (val a) fun x => bind (val b) fun y => match x, y with
  | .int i, .int j => if bigOk i && bigOk j && decide ((j - i).toNat ≤ 100000) then ret (.o (.lst (upTo i (j - i).toNat))) else bad
  | _, _ => bad
/-- slices -/
abbrev PM := M (Option Int)
def pNone : PM := ret none
def pSome (m : E) : PM := bind (val m) fun d => match d with
  | .int i => ret (some i)
  | _ => bad
def ixS (n d : Nat) : Option Int → Nat
  | none => d
  | some v => if v < 0 then (v + (n : Int)).toNat else min v.toNat n
def cutL {α : Type} (xs : List α) (lo hi : Option Int) : List α := (xs.drop (ixS xs.length 0 lo)).take (ixS xs.length xs.length hi - ixS xs.length 0 lo)
def oSl : D → Option Int → Option Int → Option Rv
  | .str z, lo, hi => if z.length ≤ 100000 then some (.d (.str ⟨(cutL z.cps.toList lo hi).toArray⟩)) else none
  | .lst xs, lo, hi => some (.o (.lst (cutL xs lo hi)))
  | .tup xs, lo, hi => some (.d (.tup (cutL xs lo hi)))
  | _, _, _ => none
def eSl (a : E) (lo hi : PM) : E := bind (val a) fun d => bind lo fun l => bind hi fun h => opt (oSl d l h)
def oAddI : D → D → Option Rv
  | .int a, .int b => some (.d (.int (a + b)))
  | _, _ => none
def ltD : D → D → Option Bool
  | .int p, .int q => some (decide (p < q))
  | .str p, .str q => some (decide (p.cps.toList < q.cps.toList))
  | _, _ => none
/-- pairs with a number first -/
def oLtP : D → D → Option Bool
  | .tup [.int i, u], .tup [.int j, v] => if i = j then ltD u v else some (decide (i < j))
  | _, _ => none
def oMulS : D → D → Option Rv
  | .str z, .int n => if 2 ≤ n ∧ n ≤ 1000 ∧ 1 ≤ z.length ∧ z.length ≤ 1000 then some (.d (.str ⟨(List.replicate n.toNat z.cps).foldl (· ++ ·) #[]⟩)) else none
  | _, _ => none
/-- the signs of a text -/
def srcS (m : E) : M (List D) := bind (val m) fun d => match d with
  | .str x => ret (x.cps.toList.map fun k => .str ⟨#[k]⟩)
  | _ => bad
end Dn
set_option Elab.async false
set_option linter.all false
set_option maxRecDepth 100000
set_option maxHeartbeats 4000000
/-! From plain data to what a def does: the state of a def is told by slots. -/
namespace Dn
open PySem L2

/-- dicts may be locked for good, once nobody changes them -/
def FrzOk : HO → Prop
  | .dK _ => True
  | .ext _ => True
  | _ => False
/-- the heap grows; dicts may be locked -/
def Ex (H H' : Hp) : Prop := ∀ a o, H a = some o → H' a = some o ∨ (FrzOk o ∧ ∃ od, H' a = some (.frz od o))
theorem Ex.of {H H' : Hp} (h : ∀ a o, H a = some o → H' a = some o) : Ex H H' := fun a o e => .inl (h a o e)
theorem Ex.refl (H : Hp) : Ex H H := fun _ _ h => .inl h
theorem Ex.trans {H H1 H2 : Hp} (a : Ex H H1) (b : Ex H1 H2) : Ex H H2 := fun x o h => by
  rcases a x o h with h1 | ⟨f, od, h1⟩
  · exact b x o h1
  · rcases b x _ h1 with h2 | ⟨f2, _⟩
    · exact .inr ⟨f, od, h2⟩
    · exact f2.elim
theorem Ex.new {H : Hp} {p : Addr} {o : HO} (h : H p = none) : Ex H (upd H p o) := fun a u e => .inl (by rw [upd_ne (ne_of_none e h)]; exact e)
theorem Ex.at {H H' : Hp} (e : Ex H H') {a : Addr} {o : HO} (h : H a = some o) (n : ¬ FrzOk o) : H' a = some o := (e a o h).resolve_right fun z => n z.1
theorem Ex.rd {H H' : Hp} (e : Ex H H') {a : Addr} {o : HO} (h : Rd H a o) : Rd H' a o := by
  rcases h with h | ⟨ob, h⟩
  · rcases e a o h with z | ⟨_, od, z⟩
    · exact .inl z
    · exact .inr ⟨od, z⟩
  · exact .inr ⟨ob, e.at h fun z => z⟩
theorem fresh_back {H H' : Hp} {p : Addr} (e : Ex H H') (h : H' p = none) : H p = none := by
  cases q : H p with
  | none => rfl
  | some o =>
    rcases e p o q with z | ⟨_, od, z⟩
    · rw [h] at z
      cases z
    · rw [h] at z
      cases z
theorem ex_l {K : PySem.W.Frag} {H H' : Hp} {a : Addr} {xs : List V} (e : Ex H H') (h : SqL K H a xs) : SqL K H' a xs := by
  rcases h with h | h
  · exact .inl (e.rd h)
  · exact .inr h
theorem ex_t {K : PySem.W.Frag} {H H' : Hp} {a : Addr} {xs : List V} (e : Ex H H') (h : SqT K H a xs) : SqT K H' a xs := by
  rcases h with h | h
  · exact .inl (e.rd h)
  · exact .inr h

/-- what is known of the heap from before, the program, the world, the module's names -/
structure Fr where
  K : PySem.W.Frag
  P : Program
  w : World
  mg : Str → Option Value
instance : Coe Fr PySem.W.Frag := ⟨Fr.K⟩
abbrev cxFr (X : L2.Cx) : Fr := ⟨X.K, X.prog, X.w, X.mg⟩
def kD : Key → D
  | .inl i => .int i
  | .inr x => .str x
/-- at d stands a dict whose keys are tuples, each at its address -/
def dnO (K : Fr) (d : Addr) (es : List (NestedKey × Addr × V)) : HO := .ext fun h => es.length ≤ sizeLine ∧ (d == sysModules) = false ∧ (es.map (·.1)).Nodup ∧
  ∃ xs : List (NestedKey × Addr × Value), Paired (fun (p : NestedKey × Addr × V) (q : NestedKey × Addr × Value) => p.1 = q.1 ∧ p.2.1 = q.2.1 ∧ RelV p.2.2 q.2.2) es xs ∧
    ∃ o ar ep, h.get? d = some o ∧ o.ExactDict ∧ o.data = .dict ar ep ∧ ar.toList = xs.map (entryOfKey (nestedKind K.P K.w))
mutual
inductive R (K : Fr) (H : Hp) : V → D → Prop
  | non : R K H .non .non
  | bl (b : Bool) : R K H (.bl b) (.bl b)
  | int (i : Int) : R K H (.int i) (.int i)
  | str (x : Str) : R K H (.str x) (.str x)
  | tup {a : Addr} {xs : List V} {ds : List D} : SqT K H a xs → Rs K H xs ds → R K H (.ref a) (.tup ds)
  | lst {a : Addr} {xs : List V} {ds : List D} : H a = some (.lst xs) → Rs K H xs ds → R K H (.ref a) (.lst ds)
  | dic {a : Addr} {kvs : List (Key × V)} {ds : List (D × D)} : Rd H a (.dK kvs) → Rk K H kvs ds → R K H (.ref a) (.dic ds)
  | dicT {a : Addr} {es : List (NestedKey × Addr × V)} {ds : List (D × D)} : es ≠ [] → Rd H a (dnO K a es) → Rt K H es ds → R K H (.ref a) (.dic ds)
  | scr {a : Addr} {ns : List Int} : SqL K H a (ns.map V.int) → R K H (.ref a) (.scr ns)
  | obj {a C dx : Addr} {vs : List (Str × V)} {cls : Str} {fs : List (Str × D)} : H a = some (.ins C dx vs) → H dx = some (.own a) → K.mg cls = some (.ref C) → Rf K H vs fs → R K H (.ref a) (.obj cls fs)
inductive Rs (K : Fr) (H : Hp) : List V → List D → Prop
  | nil : Rs K H [] []
  | cons {v : V} {d : D} {vs : List V} {ds : List D} : R K H v d → Rs K H vs ds → Rs K H (v :: vs) (d :: ds)
inductive Rk (K : Fr) (H : Hp) : List (Key × V) → List (D × D) → Prop
  | nil : Rk K H [] []
  | cons {k : Key} {v : V} {d : D} {kvs : List (Key × V)} {ds : List (D × D)} : R K H v d → Rk K H kvs ds → Rk K H ((k, v) :: kvs) ((kD k, d) :: ds)
inductive Rt (K : Fr) (H : Hp) : List (NestedKey × Addr × V) → List (D × D) → Prop
  | nil : Rt K H [] []
  | cons {k : NestedKey} {b : Addr} {v : V} {kd d : D} {es : List (NestedKey × Addr × V)} {ds : List (D × D)} : R K H (.ref b) kd → isKeyT kd = true → keyN kd = some k → R K H v d → Rt K H es ds → Rt K H ((k, b, v) :: es) ((kd, d) :: ds)
inductive Rf (K : Fr) (H : Hp) : List (Str × V) → List (Str × D) → Prop
  | nil : Rf K H [] []
  | cons {x : Str} {v : V} {d : D} {vs : List (Str × V)} {ds : List (Str × D)} : R K H v d → Rf K H vs ds → Rf K H ((x, v) :: vs) ((x, d) :: ds)
end
section
variable {K : Fr} {H H' : Hp}
mutual
theorem R.mono (e : Ex H H') : ∀ {d : D} {v : V}, R K H v d → R K H' v d
  | .non, _, h => by cases h; exact .non
  | .bl b, _, h => by cases h; exact .bl b
  | .int i, _, h => by cases h; exact .int i
  | .str x, _, h => by cases h; exact .str x
  | .tup ds, _, h => by
    cases h with
    | tup h1 h2 => exact .tup (ex_t e h1) (Rs.mono e h2)
  | .lst ds, _, h => by
    cases h with
    | lst h1 h2 => exact .lst (e.at h1 fun z => z) (Rs.mono e h2)
  | .dic ds, _, h => by
    cases h with
    | dic h1 h2 => exact .dic (e.rd h1) (Rk.mono e h2)
    | dicT h0 h1 h2 => exact .dicT h0 (e.rd h1) (Rt.mono e h2)
  | .scr ns, _, h => by
    cases h with
    | scr h1 => exact .scr (ex_l e h1)
  | .obj c fs, _, h => by
    cases h with
    | obj h1 h2 h3 h4 => exact .obj (e.at h1 fun z => z) (e.at h2 fun z => z) h3 (Rf.mono e h4)
theorem Rs.mono (e : Ex H H') : ∀ {ds : List D} {vs : List V}, Rs K H vs ds → Rs K H' vs ds
  | [], _, h => by cases h; exact .nil
  | d :: ds, _, h => by
    cases h with
    | cons h1 h2 => exact .cons (R.mono e h1) (Rs.mono e h2)
theorem Rk.mono (e : Ex H H') : ∀ {ds : List (D × D)} {kvs : List (Key × V)}, Rk K H kvs ds → Rk K H' kvs ds
  | [], _, h => by cases h; exact .nil
  | (k, d) :: ds, _, h => by
    cases h with
    | cons h1 h2 => exact .cons (R.mono e h1) (Rk.mono e h2)
theorem Rt.mono (e : Ex H H') : ∀ {ds : List (D × D)} {es : List (NestedKey × Addr × V)}, Rt K H es ds → Rt K H' es ds
  | [], _, h => by cases h; exact .nil
  | (k, d) :: ds, _, h => by
    cases h with
    | cons h1 h2 h3 h4 h5 => exact .cons (R.mono e h1) h2 h3 (R.mono e h4) (Rt.mono e h5)
theorem Rf.mono (e : Ex H H') : ∀ {ds : List (Str × D)} {vs : List (Str × V)}, Rf K H vs ds → Rf K H' vs ds
  | [], _, h => by cases h; exact .nil
  | (k, d) :: ds, _, h => by
    cases h with
    | cons h1 h2 => exact .cons (R.mono e h1) (Rf.mono e h2)
end
theorem Rs.length : ∀ {ds : List D} {vs : List V}, Rs K H vs ds → vs.length = ds.length
  | [], _, h => by cases h; rfl
  | d :: ds, _, h => by
    cases h with
    | cons h1 h2 => simp only [List.length_cons, Rs.length h2]
theorem Rk.length : ∀ {ds : List (D × D)} {kvs : List (Key × V)}, Rk K H kvs ds → kvs.length = ds.length
  | [], _, h => by cases h; rfl
  | (_, _) :: ds, _, h => by
    cases h with
    | cons h1 h2 => simp only [List.length_cons, Rk.length h2]
theorem Rt.length : ∀ {ds : List (D × D)} {es : List (NestedKey × Addr × V)}, Rt K H es ds → es.length = ds.length
  | [], _, h => by cases h; rfl
  | (_, _) :: ds, _, h => by
    cases h with
    | cons h1 h2 h3 h4 h5 => simp only [List.length_cons, Rt.length h5]
theorem Rf.length : ∀ {ds : List (Str × D)} {vs : List (Str × V)}, Rf K H vs ds → vs.length = ds.length
  | [], _, h => by cases h; rfl
  | (_, _) :: ds, _, h => by
    cases h with
    | cons h1 h2 => simp only [List.length_cons, Rf.length h2]
theorem Rs.get : ∀ {ds : List D} {vs : List V} {j : Nat} {d : D}, Rs K H vs ds → ds[j]? = some d → ∃ v, vs[j]? = some v ∧ R K H v d
  | [], _, _, _, h, e => by simp at e
  | x :: ds, _, 0, d, h, e => by
    cases h with
    | cons h1 h2 =>
      simp at e
      subst e
      exact ⟨_, rfl, h1⟩
  | x :: ds, _, j + 1, d, h, e => by
    cases h with
    | cons h1 h2 =>
      obtain ⟨v, e1, r⟩ := Rs.get (j := j) h2 (by simpa using e)
      exact ⟨v, by simpa using e1, r⟩
theorem Rs.getV : ∀ {ds : List D} {vs : List V} {j : Nat} {v : V}, Rs K H vs ds → vs[j]? = some v → ∃ d, ds[j]? = some d ∧ R K H v d
  | [], _, _, _, h, e => by cases h; simp at e
  | x :: ds, _, 0, v, h, e => by
    cases h with
    | cons h1 h2 =>
      simp at e
      subst e
      exact ⟨_, rfl, h1⟩
  | x :: ds, _, j + 1, v, h, e => by
    cases h with
    | cons h1 h2 =>
      obtain ⟨d, e1, r⟩ := Rs.getV (j := j) h2 (by simpa using e)
      exact ⟨d, by simpa using e1, r⟩
theorem Rs.append : ∀ {ds es : List D} {vs us : List V}, Rs K H vs ds → Rs K H us es → Rs K H (vs ++ us) (ds ++ es)
  | [], _, _, _, h, g => by cases h; exact g
  | d :: ds, _, _, _, h, g => by
    cases h with
    | cons h1 h2 => exact .cons h1 (Rs.append h2 g)
theorem Rs.set : ∀ {ds : List D} {vs : List V} {v : V} {d : D} (j : Nat), Rs K H vs ds → R K H v d → Rs K H (vs.set j v) (ds.set j d)
  | [], _, _, _, _, h, r => by cases h; exact .nil
  | x :: ds, _, _, _, 0, h, r => by
    cases h with
    | cons h1 h2 => exact .cons r h2
  | x :: ds, _, _, _, j + 1, h, r => by
    cases h with
    | cons h1 h2 => exact .cons h1 (Rs.set j h2 r)
theorem Rs.ints : ∀ (ns : List Int), Rs K H (ns.map V.int) (ns.map D.int)
  | [] => .nil
  | n :: ns => .cons (.int n) (Rs.ints ns)
theorem Rf.look {f : Str} {d : D} : ∀ {ds : List (Str × D)} {vs : List (Str × V)}, Rf K H vs ds → ds.lookup f = some d → ∃ v, vs.lookup f = some v ∧ R K H v d
  | [], _, h, e => by cases e
  | (x, y) :: ds, _, h, e => by
    cases h with
    | cons h1 h2 =>
      simp only [List.lookup] at e ⊢
      split at e
      · cases e
        exact ⟨_, rfl, h1⟩
      · exact Rf.look h2 e
end

/-! ### what is owned -/
/-- a dict of lists: the lists' addresses -/
inductive RkL (K : Fr) (Hs H : Hp) (P : Nat → Addr → Prop) : Nat → List (Key × V) → List (D × List D) → Prop
  | nil {n : Nat} : RkL K Hs H P n [] []
  | cons {n : Nat} {k : Key} {a : Addr} {xs : List V} {ds : List D} {kvs : List (Key × V)} {es : List (D × List D)} : P n a → H a = some (.lst xs) → Rs K Hs xs ds → RkL K Hs H P (n + 1) kvs es → RkL K Hs H P n ((k, .ref a) :: kvs) ((kD k, ds) :: es)
inductive RtL (K : Fr) (Hs H : Hp) (P : Nat → Addr → Prop) : Nat → List (NestedKey × Addr × V) → List (D × List D) → Prop
  | nil {n : Nat} : RtL K Hs H P n [] []
  | cons {n : Nat} {k : NestedKey} {b a : Addr} {kd : D} {xs : List V} {ds : List D} {kvs : List (NestedKey × Addr × V)} {es : List (D × List D)} : R K Hs (.ref b) kd → isKeyT kd = true → keyN kd = some k → P n a → H a = some (.lst xs) → Rs K Hs xs ds → RtL K Hs H P (n + 1) kvs es → RtL K Hs H P n ((k, b, .ref a) :: kvs) ((kd, ds) :: es)
/-- parts of what is owned, by their places -/
abbrev part (P : Addr → Prop) (w : Addr → Option Nat) : Nat → Addr → Prop := fun n a => P a ∧ w a = some n
def ContL (K : Fr) (Hs H : Hp) (P : Addr → Prop) (l : Addr) : Lf → Prop
  | .lst ds => P l ∧ ∃ xs, H l = some (.lst xs) ∧ Rs K Hs xs ds
  | .dic ds => P l ∧ ((∃ kvs, H l = some (.dK kvs) ∧ Rk K Hs kvs ds) ∨ ∃ es, es ≠ [] ∧ H l = some (dnO K l es) ∧ Rt K Hs es ds)
  | .dicL ds => P l ∧ ∃ w : Addr → Option Nat, w l = none ∧ ((∃ kvs, H l = some (.dK kvs) ∧ RkL K Hs H (part P w) 0 kvs ds) ∨ ∃ es, es ≠ [] ∧ H l = some (dnO K l es) ∧ RtL K Hs H (part P w) 0 es ds)
inductive Rff (K : Fr) (Hs H : Hp) (P : Nat → Addr → Prop) : Nat → List (Str × V) → List (Str × Fd) → Prop
  | nil {n : Nat} : Rff K Hs H P n [] []
  | d {n : Nat} {f : Str} {v : V} {x : D} {vs : List (Str × V)} {fs : List (Str × Fd)} : R K Hs v x → Rff K Hs H P (n + 1) vs fs → Rff K Hs H P n ((f, v) :: vs) ((f, .d x) :: fs)
  | c {n : Nat} {f : Str} {a : Addr} {k : Lf} {vs : List (Str × V)} {fs : List (Str × Fd)} : ContL K Hs H (P n) a k → Rff K Hs H P (n + 1) vs fs → Rff K Hs H P n ((f, .ref a) :: vs) ((f, .c k) :: fs)
/-- what an own (or lent) object is, P telling what belongs to it -/
def ContR (K : Fr) (Hs H : Hp) (P : Addr → Prop) (l : Addr) : C → Prop
  | .lst ds => ContL K Hs H P l (.lst ds)
  | .dic ds => ContL K Hs H P l (.dic ds)
  | .dicL ds => ContL K Hs H P l (.dicL ds)
  | .obj cls fs => P l ∧ ∃ (C dx : Addr) (vs : List (Str × V)) (w : Addr → Option Nat), P dx ∧ w l = none ∧ w dx = none ∧ H l = some (.ins C dx vs) ∧ H dx = some (.own l) ∧ K.mg cls = some (.ref C) ∧ Rff K Hs H (part P w) 0 vs fs
section
variable {K : Fr} {Hs Hs' H H' : Hp}
theorem RkL.mono {P P' : Nat → Addr → Prop} (e : Ex Hs Hs') (h2 : ∀ n a, P n a → H' a = H a) (h3 : ∀ n a, P n a → P' n a) : ∀ {n : Nat} {ds : List (D × List D)} {kvs : List (Key × V)}, RkL K Hs H P n kvs ds → RkL K Hs' H' P' n kvs ds
  | _, [], _, h => by cases h; exact .nil
  | _, (_, _) :: ds, _, h => by
    cases h with
    | cons a1 a2 a3 a4 => exact .cons (h3 _ _ a1) ((h2 _ _ a1).trans a2) (a3.mono e) (RkL.mono e h2 h3 a4)
theorem RtL.mono {P P' : Nat → Addr → Prop} (e : Ex Hs Hs') (h2 : ∀ n a, P n a → H' a = H a) (h3 : ∀ n a, P n a → P' n a) : ∀ {n : Nat} {ds : List (D × List D)} {kvs : List (NestedKey × Addr × V)}, RtL K Hs H P n kvs ds → RtL K Hs' H' P' n kvs ds
  | _, [], _, h => by cases h; exact .nil
  | _, (_, _) :: ds, _, h => by
    cases h with
    | cons b1 b2 b3 a1 a2 a3 a4 => exact .cons (b1.mono e) b2 b3 (h3 _ _ a1) ((h2 _ _ a1).trans a2) (a3.mono e) (RtL.mono e h2 h3 a4)
theorem ContL.mono {P P' : Addr → Prop} {l : Addr} {k : Lf} (h : ContL K Hs H P l k) (e : Ex Hs Hs') (h2 : ∀ a, P a → H' a = H a) (h3 : ∀ a, P a → P' a) : ContL K Hs' H' P' l k := by
  cases k with
  | lst ds =>
    obtain ⟨p, xs, a, b⟩ := h
    exact ⟨h3 _ p, xs, (h2 _ p).trans a, b.mono e⟩
  | dic ds =>
    obtain ⟨p, ⟨kvs, a, b⟩ | ⟨es, n, a, b⟩⟩ := h
    · exact ⟨h3 _ p, .inl ⟨kvs, (h2 _ p).trans a, b.mono e⟩⟩
    · exact ⟨h3 _ p, .inr ⟨es, n, (h2 _ p).trans a, b.mono e⟩⟩
  | dicL ds =>
    obtain ⟨p, w, hw, ⟨kvs, a, b⟩ | ⟨es, n, a, b⟩⟩ := h
    · exact ⟨h3 _ p, w, hw, .inl ⟨kvs, (h2 _ p).trans a, b.mono e (fun n a q => h2 _ q.1) fun n a q => ⟨h3 _ q.1, q.2⟩⟩⟩
    · exact ⟨h3 _ p, w, hw, .inr ⟨es, n, (h2 _ p).trans a, b.mono e (fun n a q => h2 _ q.1) fun n a q => ⟨h3 _ q.1, q.2⟩⟩⟩
theorem Rff.mono {P P' : Nat → Addr → Prop} (e : Ex Hs Hs') (h2 : ∀ n a, P n a → H' a = H a) (h3 : ∀ n a, P n a → P' n a) : ∀ {n : Nat} {fs : List (Str × Fd)} {vs : List (Str × V)}, Rff K Hs H P n vs fs → Rff K Hs' H' P' n vs fs
  | _, [], _, h => by cases h; exact .nil
  | _, (_, .d _) :: ds, _, h => by
    cases h with
    | d a1 a2 => exact .d (a1.mono e) (Rff.mono e h2 h3 a2)
  | _, (_, .c _) :: ds, _, h => by
    cases h with
    | c a1 a2 => exact .c (a1.mono e (h2 _) (h3 _)) (Rff.mono e h2 h3 a2)
theorem ContR.mono {P P' : Addr → Prop} {l : Addr} {k : C} (h : ContR K Hs H P l k) (e : Ex Hs Hs') (h2 : ∀ a, P a → H' a = H a) (h3 : ∀ a, P a → P' a) : ContR K Hs' H' P' l k := by
  cases k with
  | lst ds => exact ContL.mono (k := .lst ds) h e h2 h3
  | dic ds => exact ContL.mono (k := .dic ds) h e h2 h3
  | dicL ds => exact ContL.mono (k := .dicL ds) h e h2 h3
  | obj cls fs =>
    obtain ⟨p, C, dx, vs, w, p2, w1, w2, a1, a2, a3, a4⟩ := h
    exact ⟨h3 _ p, C, dx, vs, w, h3 _ p2, w1, w2, (h2 _ p).trans a1, (h2 _ p2).trans a2, a3, a4.mono e (fun n a q => h2 _ q.1) fun n a q => ⟨h3 _ q.1, q.2⟩⟩
theorem ContL.there {P : Addr → Prop} {l : Addr} {k : Lf} (h : ContL K Hs H P l k) : P l ∧ ∃ o, H l = some o := by
  cases k with
  | lst ds =>
    obtain ⟨p, xs, a, b⟩ := h
    exact ⟨p, _, a⟩
  | dic ds =>
    obtain ⟨p, ⟨kvs, a, b⟩ | ⟨es, n, a, b⟩⟩ := h
    · exact ⟨p, _, a⟩
    · exact ⟨p, _, a⟩
  | dicL ds =>
    obtain ⟨p, w, hw, ⟨kvs, a, b⟩ | ⟨es, n, a, b⟩⟩ := h
    · exact ⟨p, _, a⟩
    · exact ⟨p, _, a⟩
theorem ContR.there {P : Addr → Prop} {l : Addr} {k : C} (h : ContR K Hs H P l k) : P l ∧ ∃ o, H l = some o := by
  cases k with
  | lst ds => exact ContL.there (k := .lst ds) h
  | dic ds => exact ContL.there (k := .dic ds) h
  | dicL ds => exact ContL.there (k := .dicL ds) h
  | obj cls fs =>
    obtain ⟨p, C, dx, vs, w, p2, w1, w2, a1, a2, a3, a4⟩ := h
    exact ⟨p, _, a1⟩
/-- shared from here on: Hs' knows all that belongs to it -/
theorem RkL.share {P : Nat → Addr → Prop} (e : Ex Hs Hs') (h2 : ∀ n a, P n a → Hs' a = H a) : ∀ {n : Nat} {ds : List (D × List D)} {kvs : List (Key × V)}, RkL K Hs H P n kvs ds → Rk K Hs' kvs (dicLd ds)
  | _, [], _, h => by cases h; exact .nil
  | _, (_, _) :: ds, _, h => by
    cases h with
    | cons a1 a2 a3 a4 => exact .cons (.lst ((h2 _ _ a1).trans a2) (a3.mono e)) (RkL.share e h2 a4)
theorem RtL.share {P : Nat → Addr → Prop} (e : Ex Hs Hs') (h2 : ∀ n a, P n a → Hs' a = H a) : ∀ {n : Nat} {ds : List (D × List D)} {kvs : List (NestedKey × Addr × V)}, RtL K Hs H P n kvs ds → Rt K Hs' kvs (dicLd ds)
  | _, [], _, h => by cases h; exact .nil
  | _, (_, _) :: ds, _, h => by
    cases h with
    | cons b1 b2 b3 a1 a2 a3 a4 => exact .cons (b1.mono e) b2 b3 (.lst ((h2 _ _ a1).trans a2) (a3.mono e)) (RtL.share e h2 a4)
theorem ContL.share {P : Addr → Prop} {l : Addr} {k : Lf} (h : ContL K Hs H P l k) (e : Ex Hs Hs') (h2 : ∀ a, P a → Hs' a = H a) : R K Hs' (.ref l) k.d := by
  cases k with
  | lst ds =>
    obtain ⟨p, xs, a, b⟩ := h
    exact .lst ((h2 _ p).trans a) (b.mono e)
  | dic ds =>
    obtain ⟨p, ⟨kvs, a, b⟩ | ⟨es, n, a, b⟩⟩ := h
    · exact .dic (.inl ((h2 _ p).trans a)) (b.mono e)
    · exact .dicT n (.inl ((h2 _ p).trans a)) (b.mono e)
  | dicL ds =>
    obtain ⟨p, w, hw, ⟨kvs, a, b⟩ | ⟨es, n, a, b⟩⟩ := h
    · exact .dic (.inl ((h2 _ p).trans a)) (b.share e fun n a q => h2 _ q.1)
    · exact .dicT n (.inl ((h2 _ p).trans a)) (b.share e fun n a q => h2 _ q.1)
theorem Rff.share {P : Nat → Addr → Prop} (e : Ex Hs Hs') (h2 : ∀ n a, P n a → Hs' a = H a) : ∀ {n : Nat} {fs : List (Str × Fd)} {vs : List (Str × V)}, Rff K Hs H P n vs fs → Rf K Hs' vs (frF fs)
  | _, [], _, h => by cases h; exact .nil
  | _, (_, .d _) :: ds, _, h => by
    cases h with
    | d a1 a2 => exact .cons (a1.mono e) (Rff.share e h2 a2)
  | _, (_, .c _) :: ds, _, h => by
    cases h with
    | c a1 a2 => exact .cons (a1.share e (h2 _)) (Rff.share e h2 a2)
theorem ContR.share {P : Addr → Prop} {l : Addr} {k : C} (h : ContR K Hs H P l k) (e : Ex Hs Hs') (h2 : ∀ a, P a → Hs' a = H a) : R K Hs' (.ref l) k.d := by
  cases k with
  | lst ds => exact ContL.share (k := .lst ds) h e h2
  | dic ds => exact ContL.share (k := .dic ds) h e h2
  | dicL ds => exact ContL.share (k := .dicL ds) h e h2
  | obj cls fs =>
    obtain ⟨p, C, dx, vs, w, p2, w1, w2, a1, a2, a3, a4⟩ := h
    exact .obj ((h2 _ p).trans a1) ((h2 _ p2).trans a2) a3 (a4.share e fun n a q => h2 _ q.1)
end

/-- the shared heap, and which slot each other object belongs to -/
structure Sh where
  h : Hp
  ow : Addr → Option Nat
instance : Coe Sh Hp := ⟨Sh.h⟩
abbrev ownP (S : Sh) (i : Nat) : Addr → Prop := fun a => S.ow a = some i
/-- a def's entry: the arguments, the shared heap and the whole one as they were, what is lent by place, what is wanted of errors, what is being handled -/
structure Cxt where
  vs : List V
  Hs0 : Hp
  H0 : Hp
  B : Nat → Addr → Prop
  E : WX
  exc : Option (Addr × Value × Option Addr)
  hB : ∀ i a, B i a → H0 a ≠ none ∧ Hs0 a = none
abbrev Cxt.lent (c : Cxt) (a : Addr) : Prop := ∃ i, c.B i a
/-- an error as it lies -/
def ErrR (K : Fr) (Hs : Hp) (e : Err) (cls : Value) (od : Option Addr) : Prop :=
  ∃ C d fs, K.mg e.cls = some (.ref C) ∧ cls = .ref C ∧ od = some d ∧ Hs d = some (.xd fs) ∧ Rf K Hs fs e.args
theorem ErrR.mono {K : Fr} {Hs Hs' : Hp} {e : Err} {cls : Value} {od : Option Addr} (h : ErrR K Hs e cls od) (x : Ex Hs Hs') : ErrR K Hs' e cls od := by
  obtain ⟨C, d, fs, h1, h2, h3, h4, h5⟩ := h
  exact ⟨C, d, fs, h1, h2, h3, x.at h4 fun z => z, h5.mono x⟩

structure StR (K : Fr) (c : Cxt) (ρ : Env) (σ : L2.St) (S : Sh) (H : Hp) : Prop where
  sub : ∀ a o, S.h a = some o → H a = some o
  old : Ex c.Hs0 S.h
  keep : ∀ a o, c.H0 a = some o → c.Hs0 a = none → ¬ c.lent a → H a = some o
  live : ∀ a, H a = none → c.H0 a = none
  hs : ∀ a, c.Hs0 a = none → c.H0 a ≠ none → ¬ c.lent a → S.h a = none
  len : σ.length = ρ.length
  val : ∀ (i : Nat) d, ρ[i]? = some (.val d) → ∃ v, σ[i]? = some (some v) ∧ R K S.h v d
  own : ∀ (i : Nat) k, ρ[i]? = some (.own k) → ∃ l, σ[i]? = some (some (.ref l)) ∧ ContR K S.h H (ownP S i) l k
  bor : ∀ (i : Nat) k, ρ[i]? = some (.bor k) → ∃ l, σ[i]? = some (some (.ref l)) ∧ ContR K S.h H (ownP S i) l k ∧ c.vs[i]? = some (.ref l)
  exc : ∀ (i : Nat) e, ρ[i]? = some (.exc e) → ∃ a cls od, σ[i]? = some (some (.ref a)) ∧ c.exc = some (a, cls, od) ∧ ErrR K S.h e cls od
  owF : ∀ a i, S.ow a = some i → S.h a = none ∧ H a ≠ none ∧ (c.H0 a = none ∨ c.lent a) ∧ ((∃ k, ρ[i]? = some (.own k)) ∧ c.H0 a = none ∨ (∃ k, ρ[i]? = some (.bor k)) ∧ (c.H0 a = none ∨ c.B i a))

section
variable {K : Fr} {c : Cxt} {ρ : Env} {σ : L2.St} {S S1 : Sh} {H H1 : Hp}
theorem StR.subE (st : StR K c ρ σ S H) : Ex S.h H := Ex.of st.sub
theorem StR.freshS (st : StR K c ρ σ S H) {p : Addr} (h : H p = none) : S.h p = none := fresh_back st.subE h
theorem StR.freshO (st : StR K c ρ σ S H) {p : Addr} (h : H p = none) : S.ow p = none := by
  cases e : S.ow p with
  | none => rfl
  | some i => exact absurd h (st.owF p i e).2.1
theorem StR.notLent (st : StR K c ρ σ S H) {p : Addr} (h : H p = none) : ¬ c.lent p := fun ⟨i, z⟩ => (c.hB i p z).1 (st.live p h)
/-- the container in a slot -/
theorem StR.cont (st : StR K c ρ σ S H) {i : Nat} {s : Slot} (e : ρ[i]? = some s) (hc : s.isC = true) : ∃ l k, (s = .own k ∨ s = .bor k) ∧ σ[i]? = some (some (.ref l)) ∧ ContR K S.h H (ownP S i) l k := by
  cases s with
  | un => cases hc
  | val d => cases hc
  | exc e => cases hc
  | own k =>
    obtain ⟨l, h1, h2⟩ := st.own i k e
    exact ⟨l, k, .inl rfl, h1, h2⟩
  | bor k =>
    obtain ⟨l, h1, h2, h3⟩ := st.bor i k e
    exact ⟨l, k, .inr rfl, h1, h2⟩
/-- the heaps grow; what is new in the shared one was not there before, or belongs to nobody -/
theorem StR.ext (st : StR K c ρ σ S H) (e : Ex S.h S1.h) (ho : S1.ow = S.ow) (s : ∀ a o, S1.h a = some o → H1 a = some o) (g : ∀ a o, H a = some o → S.h a = none → H1 a = some o) (l : ∀ a, H1 a = none → H a = none)
    (n : ∀ a, S.h a = none → H a ≠ none → S1.h a = none) : StR K c ρ σ S1 H1 := by
  have gr : ∀ i a, ownP S i a → H1 a = H a := fun i a h => by
    obtain ⟨h1, h2, _⟩ := st.owF a i h
    cases q : H a with
    | none => exact absurd q h2
    | some o => exact g a o q h1
  have hp : ∀ i a, ownP S i a → ownP S1 i a := fun i a h => by
    show S1.ow a = some i
    rw [ho]
    exact h
  refine ⟨s, st.old.trans e, fun a o h1 h2 h3 => g a o (st.keep a o h1 h2 h3) (st.hs a h2 (by rw [h1]; exact fun z => nomatch z) h3), fun a h => st.live a (l a h), fun a h1 h2 h3 => n a (st.hs a h1 h2 h3) fun z => h2 (st.live a z), st.len, fun i d h => ?_, fun i k h => ?_, fun i k h => ?_, fun i er h => ?_, fun a i h => ?_⟩
  · obtain ⟨v, h1, h2⟩ := st.val i d h
    exact ⟨v, h1, h2.mono e⟩
  · obtain ⟨l, h1, h2⟩ := st.own i k h
    exact ⟨l, h1, h2.mono e (gr i) (hp i)⟩
  · obtain ⟨l, h1, h2, h3⟩ := st.bor i k h
    exact ⟨l, h1, h2.mono e (gr i) (hp i), h3⟩
  · obtain ⟨a, cls, od, h1, h2, h3⟩ := st.exc i er h
    exact ⟨a, cls, od, h1, h2, h3.mono e⟩
  · rw [ho] at h
    obtain ⟨h1, h2, h3, h4⟩ := st.owF a i h
    exact ⟨n a h1 h2, fun z => h2 (l a z), h3, h4⟩
abbrev Sh.put (S : Sh) (p : Addr) (o : HO) : Sh := ⟨upd S.h p o, S.ow⟩
/-- a new shared object -/
theorem StR.new (st : StR K c ρ σ S H) {p : Addr} {o : HO} (h : H p = none) : StR K c ρ σ (S.put p o) (upd H p o) ∧ Ex S.h (S.put p o).h := by
  have hn : S.h p = none := st.freshS h
  refine ⟨st.ext (Ex.new hn) rfl (fun a u e => ?_) (fun a u e _ => ?_) (fun a e => ?_) fun a h1 h2 => ?_, Ex.new hn⟩
  · by_cases q : a = p
    · subst q
      have e : upd S.h a o a = some u := e
      rw [upd_same] at e ⊢
      exact e
    · have e : upd S.h p o a = some u := e
      rw [upd_ne q] at e ⊢
      exact st.sub _ _ e
  · rw [upd_ne (ne_of_none e h)]
    exact e
  · by_cases q : a = p
    · subst q
      exact h
    · rw [upd_ne q] at e
      exact e
  · show upd S.h p o a = none
    rw [upd_ne fun z => h2 (by rw [z]; exact h)]
    exact h1
/-- a new object that nobody knows -/
theorem StR.newO (st : StR K c ρ σ S H) {p : Addr} {o : HO} (h : H p = none) : StR K c ρ σ S (upd H p o) :=
  st.ext (Ex.refl _) rfl (fun a u e => by rw [upd_ne (ne_of_none (st.sub _ _ e) h)]; exact st.sub _ _ e) (fun a u e _ => by rw [upd_ne (ne_of_none e h)]; exact e) (fun a e => by
    by_cases q : a = p
    · subst q
      exact h
    · rw [upd_ne q] at e
      exact e) fun a h1 _ => h1
/-- a dict that is shared is locked for good -/
theorem StR.frz (st : StR K c ρ σ S H) {p : Addr} {o : HO} {od : Obj} (h : S.h p = some o) (f : FrzOk o) : StR K c ρ σ (S.put p (.frz od o)) (upd H p (.frz od o)) ∧ Ex S.h (S.put p (.frz od o)).h := by
  have hx : Ex S.h (upd S.h p (.frz od o)) := fun a u e => by
    by_cases q : a = p
    · subst q
      rw [h] at e
      cases e
      exact .inr ⟨f, od, upd_same⟩
    · exact .inl (by rw [upd_ne q]; exact e)
  refine ⟨st.ext hx rfl (fun a u e => ?_) (fun a u e z => ?_) (fun a e => ?_) fun a h1 h2 => ?_, hx⟩
  · have e : upd S.h p (.frz od o) a = some u := e
    by_cases q : a = p
    · subst q
      rw [upd_same] at e ⊢
      exact e
    · rw [upd_ne q] at e ⊢
      exact st.sub _ _ e
  · rw [upd_ne fun q => by rw [q, h] at z; cases z]
    exact e
  · by_cases q : a = p
    · subst q
      rw [upd_same] at e
      cases e
    · rw [upd_ne q] at e
      exact e
  · show upd S.h p (.frz od o) a = none
    rw [upd_ne fun z => by rw [z, h] at h1; cases h1]
    exact h1
theorem get_set {α : Type} {xs : List α} {i j : Nat} {x y : α} (h : (xs.set i x)[j]? = some y) : (j = i ∧ y = x) ∨ (j ≠ i ∧ xs[j]? = some y) := by
  by_cases e : j = i
  · subst e
    rw [List.getElem?_set] at h
    split at h
    · split at h
      · exact .inl ⟨rfl, (Option.some.inj h).symm⟩
      · cases h
    · exact absurd rfl (by assumption)
  · rw [List.getElem?_set_ne (Ne.symm e)] at h
    exact .inr ⟨e, h⟩
theorem set_get {α : Type} {xs : List α} {i : Nat} {x : α} (h : i < xs.length) : (xs.set i x)[i]? = some x := by
  rw [List.getElem?_set_self h]
theorem lt_of_get {α : Type} {xs : List α} {i : Nat} {x : α} (h : xs[i]? = some x) : i < xs.length := (List.getElem?_eq_some_iff.mp h).1
/-- slot i owns nothing any more -/
noncomputable def Sh.rid (S : Sh) (i : Nat) : Sh := ⟨S.h, fun a => open Classical in if S.ow a = some i then none else S.ow a⟩
theorem Sh.rid_some {S : Sh} {i j : Nat} {a : Addr} : (S.rid i).ow a = some j ↔ S.ow a = some j ∧ j ≠ i := by
  unfold Sh.rid
  simp only
  constructor
  · intro h
    split at h
    · cases h
    · rename_i n
      exact ⟨h, fun z => n (by rw [h, z])⟩
  · rintro ⟨h, n⟩
    rw [if_neg fun z => n (by rw [h] at z; exact Option.some.inj z)]
    exact h
/-- any slot's fate, the others as they were: what slot i becomes is told by hand -/
theorem StR.slot (st : StR K c ρ σ S H) {i : Nat} {s : Slot} {S' : Sh} {σ' : L2.St} (e : Ex S.h S'.h) (sub : ∀ a o, S'.h a = some o → H a = some o) (hs : ∀ a, c.Hs0 a = none → c.H0 a ≠ none → ¬ c.lent a → S'.h a = none)
    (ho : ∀ a j, j ≠ i → (S'.ow a = some j ↔ S.ow a = some j)) (hn : ∀ a j, j ≠ i → S.ow a = some j → S'.h a = none)
    (hσ : ∀ j, j ≠ i → σ'[j]? = σ[j]?) (hl : σ'.length = σ.length)
    (hval : ∀ d, s = .val d → i < ρ.length → ∃ v, σ'[i]? = some (some v) ∧ R K S'.h v d)
    (hown : ∀ k, s = .own k → i < ρ.length → ∃ l, σ'[i]? = some (some (.ref l)) ∧ ContR K S'.h H (ownP S' i) l k)
    (hbor : ∀ k, s = .bor k → i < ρ.length → ∃ l, σ'[i]? = some (some (.ref l)) ∧ ContR K S'.h H (ownP S' i) l k ∧ c.vs[i]? = some (.ref l))
    (hexc : ∀ er, s = .exc er → i < ρ.length → ∃ a cls od, σ'[i]? = some (some (.ref a)) ∧ c.exc = some (a, cls, od) ∧ ErrR K S'.h er cls od)
    (how : ∀ a, S'.ow a = some i → S'.h a = none ∧ H a ≠ none ∧ (c.H0 a = none ∨ c.lent a) ∧ ((∃ k, (ρ.set i s)[i]? = some (.own k)) ∧ c.H0 a = none ∨ (∃ k, (ρ.set i s)[i]? = some (.bor k)) ∧ (c.H0 a = none ∨ c.B i a))) : StR K c (ρ.set i s) σ' S' H := by
  have at_ : ∀ {j : Nat} {t : Slot}, (ρ.set i s)[j]? = some t → (j = i ∧ t = s ∧ i < ρ.length) ∨ (j ≠ i ∧ ρ[j]? = some t) := fun {j t} h => by
    rcases get_set h with ⟨a, b⟩ | h'
    · refine .inl ⟨a, b, ?_⟩
      have := lt_of_get h
      rw [List.length_set] at this
      omega
    · exact .inr h'
  refine ⟨sub, st.old.trans e, st.keep, st.live, hs, by rw [List.length_set, hl]; exact st.len, fun j d h => ?_, fun j k h => ?_, fun j k h => ?_, fun j er h => ?_, fun a j h => ?_⟩
  · rcases at_ h with ⟨rfl, b, hi⟩ | ⟨hn', h'⟩
    · exact hval d b.symm hi
    · obtain ⟨v, h1, h2⟩ := st.val j d h'
      exact ⟨v, by rw [hσ j hn']; exact h1, h2.mono e⟩
  · rcases at_ h with ⟨rfl, b, hi⟩ | ⟨hn', h'⟩
    · exact hown k b.symm hi
    · obtain ⟨l, h1, h2⟩ := st.own j k h'
      exact ⟨l, by rw [hσ j hn']; exact h1, h2.mono e (fun _ _ => rfl) fun a q => (ho a j hn').mpr q⟩
  · rcases at_ h with ⟨rfl, b, hi⟩ | ⟨hn', h'⟩
    · exact hbor k b.symm hi
    · obtain ⟨l, h1, h2, h3⟩ := st.bor j k h'
      exact ⟨l, by rw [hσ j hn']; exact h1, h2.mono e (fun _ _ => rfl) fun a q => (ho a j hn').mpr q, h3⟩
  · rcases at_ h with ⟨rfl, b, hi⟩ | ⟨hn', h'⟩
    · exact hexc er b.symm hi
    · obtain ⟨a, cls, od, h1, h2, h3⟩ := st.exc j er h'
      exact ⟨a, cls, od, by rw [hσ j hn']; exact h1, h2, h3.mono e⟩
  · by_cases q : j = i
    · subst q
      exact how a h
    · have h' := (ho a j q).mp h
      obtain ⟨h1, h2, h3, h4⟩ := st.owF a j h'
      refine ⟨hn a j q h', h2, h3, ?_⟩
      rcases h4 with ⟨⟨k, z⟩, z2⟩ | ⟨⟨k, z⟩, z2⟩
      · exact .inl ⟨⟨k, by rw [List.getElem?_set_ne (Ne.symm q)]; exact z⟩, z2⟩
      · exact .inr ⟨⟨k, by rw [List.getElem?_set_ne (Ne.symm q)]; exact z⟩, z2⟩
theorem StR.rid_ow {a : Addr} {i j : Nat} (h : j ≠ i) : (S.rid i).ow a = some j ↔ S.ow a = some j := Sh.rid_some.trans ⟨fun z => z.1, fun z => ⟨z, h⟩⟩
/-- a slot is forgotten -/
theorem StR.drop (st : StR K c ρ σ S H) (i : Nat) : StR K c (ρ.set i .un) σ (S.rid i) H :=
  st.slot (Ex.refl _) st.sub st.hs (fun a j h => StR.rid_ow h) (fun a j _ h => (st.owF a j h).1) (fun _ _ => rfl) rfl (fun _ h => nomatch h) (fun _ h => nomatch h) (fun _ h => nomatch h) (fun _ h => nomatch h) fun a h => absurd rfl (Sh.rid_some.mp h).2
/-- what belongs to P is shared from here on -/
noncomputable def Sh.give (S : Sh) (H : Hp) (P : Addr → Prop) : Sh := ⟨fun a => open Classical in if P a then H a else S.h a, S.ow⟩
theorem Sh.give_in {P : Addr → Prop} {a : Addr} (h : P a) : (S.give H P).h a = H a := by
  unfold Sh.give
  simp only
  rw [if_pos h]
theorem Sh.give_out {P : Addr → Prop} {a : Addr} (h : ¬ P a) : (S.give H P).h a = S.h a := by
  unfold Sh.give
  simp only
  rw [if_neg h]
theorem Sh.give_ex {P : Addr → Prop} (hP : ∀ a, P a → S.h a = none) : Ex S.h (S.give H P).h := fun a o h => .inl (by rw [Sh.give_out fun z => by rw [hP a z] at h; cases h]; exact h)
theorem Sh.give_sub {P : Addr → Prop} (sub : ∀ a o, S.h a = some o → H a = some o) : ∀ a o, (S.give H P).h a = some o → H a = some o := fun a o h => by
  by_cases q : P a
  · rw [Sh.give_in q] at h
    exact h
  · rw [Sh.give_out q] at h
    exact sub a o h
/-- an own object is shared -/
theorem StR.share (st : StR K c ρ σ S H) {i : Nat} {k : C} (h : ρ[i]? = some (.own k)) : ∃ l S', σ[i]? = some (some (.ref l)) ∧ StR K c (ρ.set i (.val k.d)) σ S' H ∧ Ex S.h S'.h ∧ R K S'.h (.ref l) k.d := by
  obtain ⟨l, h1, h2⟩ := st.own i k h
  have hP : ∀ a, ownP S i a → S.h a = none := fun a q => (st.owF a i q).1
  have hP0 : ∀ a, ownP S i a → c.H0 a = none := fun a q => by
    rcases (st.owF a i q).2.2.2 with z | ⟨⟨k', z⟩, _⟩
    · exact z.2
    · rw [h] at z
      cases z
  have ex : Ex S.h (S.give H (ownP S i)).h := Sh.give_ex hP
  have rr : R K (S.give H (ownP S i)).h (.ref l) k.d := h2.share ex fun a q => Sh.give_in q
  refine ⟨l, (S.give H (ownP S i)).rid i, h1, st.slot (S' := (S.give H (ownP S i)).rid i) ex (Sh.give_sub st.sub) (fun a q1 q2 q3 => ?_) (fun a j hj => StR.rid_ow (S := S.give H (ownP S i)) hj) (fun a j hj q => ?_) (fun _ _ => rfl) rfl (fun d e hi => ?_) (fun _ e => nomatch e) (fun _ e => nomatch e) (fun _ e => nomatch e) fun a q => absurd rfl (Sh.rid_some.mp q).2, ex, rr⟩
  · show (S.give H (ownP S i)).h a = none
    rw [Sh.give_out fun z => q2 (hP0 a z)]
    exact st.hs a q1 q2 q3
  · show (S.give H (ownP S i)).h a = none
    rw [Sh.give_out fun z => by
      have z : S.ow a = some i := z
      rw [q] at z
      exact hj (Option.some.inj z)]
    exact (st.owF a j q).1
  · cases e
    exact ⟨_, h1, rr⟩
/-- slot i owns what P tells -/
noncomputable def Sh.own (S : Sh) (i : Nat) (P : Addr → Prop) : Sh := ⟨S.h, fun a => open Classical in if P a then some i else if S.ow a = some i then none else S.ow a⟩
theorem Sh.own_in {i : Nat} {P : Addr → Prop} {a : Addr} (h : P a) : (S.own i P).ow a = some i := by
  unfold Sh.own
  simp only
  rw [if_pos h]
theorem Sh.own_iff {i j : Nat} {P : Addr → Prop} {a : Addr} (h : j ≠ i) (hP : ∀ a, P a → ∀ j, j ≠ i → S.ow a ≠ some j) : (S.own i P).ow a = some j ↔ S.ow a = some j := by
  unfold Sh.own
  simp only
  constructor
  · intro q
    split at q
    · exact absurd (Option.some.inj q).symm h
    · split at q
      · cases q
      · exact q
  · intro q
    rw [if_neg fun z => hP a z j h q, if_neg fun z => h (by rw [q] at z; exact Option.some.inj z)]
    exact q
theorem Sh.own_self {i : Nat} {P : Addr → Prop} {a : Addr} (h : (S.own i P).ow a = some i) : P a := by
  unfold Sh.own at h
  simp only at h
  split at h
  · assumption
  · split at h
    · cases h
    · rename_i n
      exact absurd h n
/-- an own or lent object is changed: where it was, and where nobody was -/
theorem StR.change (st : StR K c ρ σ S H) {i : Nat} {s s' : Slot} {k' : C} {l : Addr} {H' : Hp} {P : Addr → Prop} (h : ρ[i]? = some s) (hs : (∃ k, s = .own k ∧ s' = .own k') ∨ (∃ k, s = .bor k ∧ s' = .bor k')) (hl : σ[i]? = some (some (.ref l)))
    (hH : ∀ a, S.ow a ≠ some i → H a ≠ none → H' a = H a) (hlv : ∀ a, H' a = none → H a = none) (hP : ∀ a, P a → H' a ≠ none ∧ (S.ow a = some i ∨ H a = none)) (hk : ContR K S.h H' P l k') :
    StR K c (ρ.set i s') σ (S.own i P) H' := by
  have hi : i < ρ.length := lt_of_get h
  have hPo : ∀ a, P a → ∀ j, j ≠ i → S.ow a ≠ some j := fun a q j hj z => by
    rcases (hP a q).2 with y | y
    · rw [z] at y
      exact hj (Option.some.inj y)
    · exact (st.owF a j z).2.1 y
  have hPn : ∀ a, P a → S.h a = none := fun a q => by
    rcases (hP a q).2 with y | y
    · exact (st.owF a i y).1
    · exact st.freshS y
  -- the others' things stand as they stood
  have other : ∀ a, S.h a ≠ none → H' a = H a := fun a q => hH a (fun z => q (st.owF a i z).1) fun z => q (st.freshS z)
  have othR : ∀ {j : Nat} a, j ≠ i → S.ow a = some j → H' a = H a := fun {j} a hj q => hH a (fun z => hj (by rw [q] at z; exact Option.some.inj z)) (st.owF a j q).2.1
  have hcs : ∀ {j : Nat} {t : Slot}, (ρ.set i s')[j]? = some t → (j = i ∧ t = s') ∨ (j ≠ i ∧ ρ[j]? = some t) := fun h => get_set h
  refine ⟨fun a o e => ?_, st.old, fun a o h1 h2 h3 => ?_, fun a e => st.live a (hlv a e), st.hs, by rw [List.length_set]; exact st.len, fun j d e => ?_, fun j k e => ?_, fun j k e => ?_, fun j er e => ?_, fun a j e => ?_⟩
  · have e : S.h a = some o := e
    rw [other a (by rw [e]; exact fun z => nomatch z)]
    exact st.sub a o e
  · have q := st.keep a o h1 h2 h3
    rw [hH a (fun z => ?_) (by rw [q]; exact fun z => nomatch z)]
    · exact q
    · rcases (st.owF a i z).2.2.1 with y | y
      · rw [h1] at y
        cases y
      · exact h3 y
  · rcases hcs e with ⟨_, e2⟩ | ⟨_, e1⟩
    · rcases hs with ⟨_, _, z⟩ | ⟨_, _, z⟩ <;> (rw [z] at e2; cases e2)
    · exact st.val j d e1
  · rcases hcs e with ⟨e1, e2⟩ | ⟨hj, e1⟩
    · subst e1
      rcases hs with ⟨k1, z1, z⟩ | ⟨k1, z1, z⟩
      · rw [z] at e2
        cases e2
        exact ⟨l, hl, hk.mono (Ex.refl _) (fun _ _ => rfl) fun a q => Sh.own_in q⟩
      · rw [z] at e2
        cases e2
    · obtain ⟨l', a1, a2⟩ := st.own j k e1
      exact ⟨l', a1, a2.mono (Ex.refl _) (fun a q => othR a hj q) fun a q => (Sh.own_iff hj hPo).mpr q⟩
  · rcases hcs e with ⟨e1, e2⟩ | ⟨hj, e1⟩
    · subst e1
      rcases hs with ⟨k1, z1, z⟩ | ⟨k1, z1, z⟩
      · rw [z] at e2
        cases e2
      · rw [z] at e2
        cases e2
        subst z1
        obtain ⟨l', a1, a2, a3⟩ := st.bor j k1 h
        rw [hl] at a1
        cases a1
        exact ⟨l, hl, hk.mono (Ex.refl _) (fun _ _ => rfl) fun a q => Sh.own_in q, a3⟩
    · obtain ⟨l', a1, a2, a3⟩ := st.bor j k e1
      exact ⟨l', a1, a2.mono (Ex.refl _) (fun a q => othR a hj q) fun a q => (Sh.own_iff hj hPo).mpr q, a3⟩
  · rcases hcs e with ⟨_, e2⟩ | ⟨_, e1⟩
    · rcases hs with ⟨_, _, z⟩ | ⟨_, _, z⟩ <;> (rw [z] at e2; cases e2)
    · exact st.exc j er e1
  · by_cases q : j = i
    · subst q
      have p := Sh.own_self e
      obtain ⟨p1, p2⟩ := hP a p
      have hb : c.H0 a = none ∨ c.lent a := by
        rcases p2 with y | y
        · exact (st.owF a j y).2.2.1
        · exact .inl (st.live a y)
      refine ⟨hPn a p, p1, hb, ?_⟩
      rcases hs with ⟨k1, z1, z⟩ | ⟨k1, z1, z⟩
      · refine .inl ⟨⟨k', by rw [set_get hi, z]⟩, ?_⟩
        rcases p2 with y | y
        · rcases (st.owF a j y).2.2.2 with w | ⟨⟨k2, w⟩, _⟩
          · exact w.2
          · subst z1
            rw [h] at w
            cases w
        · exact st.live a y
      · refine .inr ⟨⟨k', by rw [set_get hi, z]⟩, ?_⟩
        rcases p2 with y | y
        · rcases (st.owF a j y).2.2.2 with ⟨⟨k2, w⟩, _⟩ | w
          · subst z1
            rw [h] at w
            cases w
          · exact w.2
        · exact .inl (st.live a y)
    · have e' := (Sh.own_iff q hPo).mp e
      obtain ⟨h1, h2, h3, h4⟩ := st.owF a j e'
      refine ⟨h1, by rw [othR a q e']; exact h2, h3, ?_⟩
      rcases h4 with ⟨⟨k, z⟩, z2⟩ | ⟨⟨k, z⟩, z2⟩
      · exact .inl ⟨⟨k, by rw [List.getElem?_set_ne (Ne.symm q)]; exact z⟩, z2⟩
      · exact .inr ⟨⟨k, by rw [List.getElem?_set_ne (Ne.symm q)]; exact z⟩, z2⟩
end

/-! ### what an expression's value is -/
/-- P: what belongs to an object that nobody knows -/
def Loose (c : Cxt) (S : Sh) (H : Hp) (P : Addr → Prop) : Prop := ∀ a, P a → S.h a = none ∧ H a ≠ none ∧ c.H0 a = none ∧ S.ow a = none
def RvR (K : Fr) (c : Cxt) (r : Rv) (S : Sh) (H : Hp) (v : V) : Prop := match r with
  | .d d => R K S.h v d
  | .o k => ∃ l P, v = .ref l ∧ ContR K S.h H P l k ∧ Loose c S H P
/-- what is wanted of an outcome -/
def Goal {α β : Type} (K : Fr) (c : Cxt) (σ : L2.St) (S : Sh) (P : α → Sh → Hp → β → Prop) (r : Res α) (Q : β → Hp → Prop) : Prop := match r with
  | .bad => False
  | .err e ρ' => ∀ cls od S' H', StR K c ρ' σ S' H' → Ex S.h S'.h → ErrR K S'.h e cls od → c.E cls od σ H'
  | .ok a ρ' => ∀ b S' H', StR K c ρ' σ S' H' → Ex S.h S'.h → P a S' H' b → Q b H'
theorem Goal.mono {α β : Type} {K : Fr} {c : Cxt} {σ : L2.St} {S S1 : Sh} {P : α → Sh → Hp → β → Prop} {r : Res α} {Q : β → Hp → Prop} (e : Ex S.h S1.h) (g : Goal K c σ S P r Q) : Goal K c σ S1 P r Q := by
  cases r with
  | bad => exact g
  | err er ρ' => exact fun cls od S' H' st ex er => g cls od S' H' st (e.trans ex) er
  | ok a ρ' => exact fun b S' H' st ex p => g b S' H' st (e.trans ex) p
/-- a piece of reading keeps to its denotation -/
def Ev {α β : Type} (K : Fr) (c : Cxt) (t : L2.St → Hp → (β → Hp → Prop) → Prop) (P : L2.St → α → Sh → Hp → β → Prop) (m : M α) : Prop :=
  ∀ ρ σ S H Q, StR K c ρ σ S H → Goal K c σ S (P σ) (m ρ) Q → t σ H Q
/-- the reading that a denotation gives -/
def wpOf {α β : Type} (K : Fr) (c : Cxt) (P : L2.St → α → Sh → Hp → β → Prop) (m : M α) : L2.St → Hp → (β → Hp → Prop) → Prop :=
  fun σ H Q => ∃ ρ S, StR K c ρ σ S H ∧ Goal K c σ S (P σ) (m ρ) Q
theorem ev_self {α β : Type} {K : Fr} {c : Cxt} {P : L2.St → α → Sh → Hp → β → Prop} {m : M α} : Ev K c (wpOf K c P m) P m := fun ρ σ S H Q st g => ⟨ρ, S, st, g⟩
def pV (K : Fr) (c : Cxt) : L2.St → Rv → Sh → Hp → V → Prop := fun _ r S H v => RvR K c r S H v
def pF (K : Fr) : L2.St → D → Sh → Hp → V → Prop := fun _ d S _ v => R K S.h v d
def pB : L2.St → Bool → Sh → Hp → Bool → Prop := fun _ b _ _ b' => b' = b
def pL (K : Fr) : L2.St → List D → Sh → Hp → List V → Prop := fun _ ds S _ vs => Rs K S.h vs ds
abbrev teOf (K : Fr) (c : Cxt) (m : E) : TE := wpOf K c (pV K c) m
abbrev tfOf (K : Fr) (c : Cxt) (m : M D) : TE := wpOf K c (pF K) m
abbrev ttOf (K : Fr) (c : Cxt) (m : T) : TT := wpOf K c pB m
abbrev taOf (K : Fr) (c : Cxt) (m : M (List D)) : TA := wpOf K c (pL K) m
section
variable {K : Fr} {c : Cxt}
/-- one after another -/
theorem ev_bind {α β γ δ : Type} {t : L2.St → Hp → (β → Hp → Prop) → Prop} {P : L2.St → α → Sh → Hp → β → Prop} {m : M α} {u : L2.St → β → Hp → (δ → Hp → Prop) → Prop} {P' : L2.St → γ → Sh → Hp → δ → Prop} {f : α → M γ} (h : Ev K c t P m)
    (h2 : ∀ a b ρ σ S H Q, StR K c ρ σ S H → P σ a S H b → Goal K c σ S (P' σ) (f a ρ) Q → u σ b H Q) : Ev K c (fun σ H Q => t σ H fun b H1 => u σ b H1 Q) P' (bind m f) := by
  intro ρ σ S H Q st g
  refine h ρ σ S H _ st ?_
  unfold bind at g
  cases e : m ρ with
  | bad =>
    rw [e] at g
    exact g
  | err er ρ' =>
    rw [e] at g
    exact g
  | ok a ρ' =>
    rw [e] at g
    exact fun b S' H' st' ex p => h2 a b ρ' σ S' H' Q st' p (Goal.mono ex g)
/-- an object that nobody knows is shared -/
theorem StR.giveL {ρ : Env} {σ : L2.St} {S : Sh} {H : Hp} {P : Addr → Prop} {l : Addr} {k : C} (st : StR K c ρ σ S H) (hk : ContR K S.h H P l k) (hl : Loose c S H P) : StR K c ρ σ (S.give H P) H ∧ Ex S.h (S.give H P).h ∧ R K (S.give H P).h (.ref l) k.d := by
  have ex : Ex S.h (S.give H P).h := Sh.give_ex fun a q => (hl a q).1
  have hout : ∀ a i, S.ow a = some i → ¬ P a := fun a i q z => by
    rw [(hl a z).2.2.2] at q
    cases q
  refine ⟨⟨Sh.give_sub st.sub, st.old.trans ex, st.keep, st.live, fun a q1 q2 q3 => ?_, st.len, fun i d e => ?_, fun i k' e => ?_, fun i k' e => ?_, fun i er e => ?_, fun a i e => ?_⟩, ex, hk.share ex fun a q => Sh.give_in q⟩
  · rw [Sh.give_out fun z => q2 (hl a z).2.2.1]
    exact st.hs a q1 q2 q3
  · obtain ⟨v, a1, a2⟩ := st.val i d e
    exact ⟨v, a1, a2.mono ex⟩
  · obtain ⟨l', a1, a2⟩ := st.own i k' e
    exact ⟨l', a1, a2.mono ex (fun _ _ => rfl) fun _ q => q⟩
  · obtain ⟨l', a1, a2, a3⟩ := st.bor i k' e
    exact ⟨l', a1, a2.mono ex (fun _ _ => rfl) (fun _ q => q), a3⟩
  · obtain ⟨a, cls, od, h1, h2, h3⟩ := st.exc i er e
    exact ⟨a, cls, od, h1, h2, h3.mono ex⟩
  · obtain ⟨h1, h2, h3, h4⟩ := st.owF a i e
    refine ⟨?_, h2, h3, h4⟩
    rw [Sh.give_out (hout a i e)]
    exact h1
/-- a value that may be shared -/
theorem ev_val {t : TE} {m : E} (h : Ev K c t (pV K c) m) : Ev K c t (pF K) (val m) := by
  intro ρ σ S H Q st g
  refine h ρ σ S H _ st ?_
  unfold val bind at g
  cases e : m ρ with
  | bad =>
    rw [e] at g
    exact g
  | err er ρ' =>
    rw [e] at g
    exact g
  | ok r ρ' =>
    rw [e] at g
    intro v S' H' st' ex p
    cases r with
    | d d => exact g v S' H' st' ex p
    | o k =>
      obtain ⟨l, P, rfl, h2, h3⟩ := p
      obtain ⟨s2, e2, rr⟩ := st'.giveL h2 h3
      exact g (.ref l) _ H' s2 (ex.trans e2) rr
theorem ev_te {m : E} : Ev K c (teOf K c m) (pV K c) m := ev_self
theorem ev_tf {m : E} : Ev K c (teOf K c m) (pF K) (val m) := ev_val ev_self
end
end Dn
set_option Elab.async false
set_option linter.all false
set_option maxRecDepth 100000
set_option maxHeartbeats 4000000
/-! Dicts whose keys are tuples of any depth, and locked dicts: what the machine does with them. -/
namespace Dn
open PySem L2 PySem.Spec PyProof.Rows
/-! ### keys -/
section
variable {X : Cx} {pins : List (Addr × Obj)} {σ : L2.St} {H : Hp} {s : Shared}
mutual
theorem R.nk (I : Inv X pins σ H s) : ∀ {d : D} {v : V} {u : Value} {k : NestedKey}, R (cxFr X) H v d → RelV v u → keyN d = some k → NestedIs s.heap k u
  | .non, _, u, _, r, ru, e => by
    cases r
    cases e
    cases (show u = Value.none from ru)
    exact .none
  | .bl b, _, u, _, r, ru, e => by
    cases r
    cases e
    cases (show u = Value.bool b from ru)
    exact .bool rfl
  | .int i, _, _, _, r, ru, e => by
    cases r
    cases e
    obtain ⟨t, rfl⟩ := ru
    exact .int _ _
  | .str x, _, _, _, r, ru, e => by
    cases r
    cases e
    obtain ⟨t, rfl⟩ := ru
    exact .text _ _
  | .tup xs, _, u, _, r, ru, e => by
    cases r with
    | @tup a vs _ h1 h2 =>
      cases (show u = Value.ref a from ru)
      simp only [keyN, Option.map_eq_some_iff] at e
      obtain ⟨ks, e1, rfl⟩ := e
      obtain ⟨its, rv, ⟨o, ho, hc, n, hd⟩, _⟩ := I.tuple h1
      exact .tup ho hc hd (by simpa using Rs.nks I h2 rv e1)
  | .lst _, _, _, _, _, _, e => by cases e
  | .dic _, _, _, _, _, _, e => by cases e
  | .scr _, _, _, _, _, _, e => by cases e
  | .obj _ _, _, _, _, _, _, e => by cases e
theorem Rs.nks (I : Inv X pins σ H s) : ∀ {ds : List D} {vs : List V} {us : List Value} {ks : List NestedKey}, Rs (cxFr X) H vs ds → Vals vs us → keysN ds = some ks → NestedAll s.heap ks us
  | [], _, _, _, r, rv, e => by
    cases r
    cases rv
    cases e
    exact .nil
  | d :: ds, _, _, _, r, rv, e => by
    cases r with
    | cons r1 r2 =>
      cases rv with
      | cons v1 v2 =>
        simp only [keysN] at e
        split at e
        · rename_i k ks e1 e2
          cases e
          exact .cons (R.nk I r1 v1 e1) (Rs.nks I r2 v2 e2)
        · cases e
end
end
mutual
theorem eqv_key : ∀ (d d' : D) {k k' : NestedKey}, keyN d = some k → keyN d' = some k' → PyData.eqv d.toP d'.toP = NestedKey.beq k k'
  | .non, d', _, _, e, e' => by
    cases e
    cases d' with
    | tup xs =>
      simp only [keyN, Option.map_eq_some_iff] at e'
      obtain ⟨ks, _, rfl⟩ := e'
      simp [D.toP, PyData.eqv, NestedKey.beq]
    | _ => cases e' <;> simp [D.toP, PyData.eqv, NestedKey.beq]
  | .bl b, d', _, _, e, e' => by
    cases e
    cases d' with
    | bl c =>
      cases e'
      cases b <;> cases c <;> simp [D.toP, PyData.eqv, NestedKey.beq]
    | int i =>
      cases e'
      simp only [D.toP, PyData.eqv, NestedKey.beq]
      cases b <;> (apply Bool.eq_iff_iff.mpr; simp)
    | tup xs =>
      simp only [keyN, Option.map_eq_some_iff] at e'
      obtain ⟨ks, _, rfl⟩ := e'
      simp [D.toP, PyData.eqv, NestedKey.beq]
    | _ => cases e' <;> simp [D.toP, PyData.eqv, NestedKey.beq]
  | .int i, d', _, _, e, e' => by
    cases e
    cases d' with
    | bl c =>
      cases e'
      simp only [D.toP, PyData.eqv, NestedKey.beq]
      cases c <;> (apply Bool.eq_iff_iff.mpr; simp)
    | int j =>
      cases e'
      simp only [D.toP, PyData.eqv, NestedKey.beq]
      apply Bool.eq_iff_iff.mpr
      simp
    | tup xs =>
      simp only [keyN, Option.map_eq_some_iff] at e'
      obtain ⟨ks, _, rfl⟩ := e'
      simp [D.toP, PyData.eqv, NestedKey.beq]
    | _ => cases e' <;> simp [D.toP, PyData.eqv, NestedKey.beq]
  | .str x, d', _, _, e, e' => by
    cases e
    cases d' with
    | str y =>
      cases e'
      simp only [D.toP, PyData.eqv, NestedKey.beq]
      apply Bool.eq_iff_iff.mpr
      simp
    | tup xs =>
      simp only [keyN, Option.map_eq_some_iff] at e'
      obtain ⟨ks, _, rfl⟩ := e'
      simp [D.toP, PyData.eqv, NestedKey.beq]
    | _ => cases e' <;> simp [D.toP, PyData.eqv, NestedKey.beq]
  | .tup xs, d', _, _, e, e' => by
    simp only [keyN, Option.map_eq_some_iff] at e
    obtain ⟨ks, e1, rfl⟩ := e
    cases d' with
    | tup ys =>
      simp only [keyN, Option.map_eq_some_iff] at e'
      obtain ⟨ls, e2, rfl⟩ := e'
      simp only [D.toP, PyData.eqv, NestedKey.beq]
      exact eqv_keys xs ys e1 e2
    | _ => cases e' <;> simp [D.toP, PyData.eqv, NestedKey.beq]
  | .lst _, _, _, _, e, _ => by cases e
  | .dic _, _, _, _, e, _ => by cases e
  | .scr _, _, _, _, e, _ => by cases e
  | .obj _ _, _, _, _, e, _ => by cases e
theorem eqv_keys : ∀ (ds ds' : List D) {ks ks' : List NestedKey}, keysN ds = some ks → keysN ds' = some ks' → PyData.eqvAll (toPs ds) (toPs ds') = NestedKey.beqAll ks ks'
  | [], ds', _, _, e, e' => by
    cases e
    cases ds' with
    | nil =>
      cases e'
      simp [toPs, PyData.eqvAll, NestedKey.beqAll]
    | cons x r =>
      simp only [keysN] at e'
      split at e'
      · cases e'
        simp [toPs, PyData.eqvAll, NestedKey.beqAll]
      · cases e'
  | x :: r, ds', _, _, e, e' => by
    simp only [keysN] at e
    split at e
    · rename_i k ks h1 h2
      cases e
      cases ds' with
      | nil =>
        cases e'
        simp [toPs, PyData.eqvAll, NestedKey.beqAll]
      | cons y t =>
        simp only [keysN] at e'
        split at e'
        · rename_i l ls h3 h4
          cases e'
          simp only [toPs, PyData.eqvAll, NestedKey.beqAll]
          rw [eqv_key x y h1 h3, eqv_keys r t h2 h4]
        · cases e'
    · cases e
end
theorem eqvD_key {d d' : D} {k k' : NestedKey} (e : keyN d = some k) (e' : keyN d' = some k') : d.eqv d' = decide (k = k') := by
  rw [NestedKey.decide_eq]
  exact eqv_key d d' e e'
theorem isKeyT_key {d : D} (h : isKeyT d = true) : ∃ k, keyN d = some k ∧ k.depth ≤ 8 := by
  cases d with
  | tup xs =>
    simp only [isKeyT] at h
    split at h
    · rename_i ks e
      exact ⟨.tup ks, by simp only [keyN, e, Option.map_some], of_decide_eq_true h⟩
    · cases h
  | _ => cases h
theorem isKeyT_notKey {d : D} (h : isKeyT d = true) : isKey d = false := by
  cases d <;> first | rfl | cases h

/-! ### what a dict of such keys holds -/
def atN (es : List (NestedKey × Addr × V)) (k : NestedKey) : Option V := (es.find? fun e => decide (e.1 = k)).map (·.2.2)
def putN (es : List (NestedKey × Addr × V)) (k : NestedKey) (b : Addr) (v : V) : List (NestedKey × Addr × V) :=
  if (atN es k).isSome then es.map fun e => if e.1 = k then (e.1, e.2.1, v) else e else es ++ [(k, b, v)]
abbrev PN : List (NestedKey × Addr × V) → List (NestedKey × Addr × Value) → Prop := Paired fun p q => p.1 = q.1 ∧ p.2.1 = q.2.1 ∧ RelV p.2.2 q.2.2
theorem PN.at {es : List (NestedKey × Addr × V)} {xs : List (NestedKey × Addr × Value)} (h : PN es xs) (k : NestedKey) : RelO (atN es k) ((atKey xs k).map (·.2)) := by
  induction h with
  | nil => exact True.intro
  | @cons p q ps qs r t ih =>
    obtain ⟨r1, r2, r3⟩ := r
    unfold atN atKey
    rw [List.find?_cons, List.find?_cons, ← r1]
    by_cases e : p.1 = k
    · rw [decide_eq_true e]
      exact r3
    · rw [decide_eq_false e]
      exact ih
theorem PN.keys {es : List (NestedKey × Addr × V)} {xs : List (NestedKey × Addr × Value)} (h : PN es xs) : xs.map (·.1) = es.map (·.1) := by
  induction h with
  | nil => rfl
  | cons r _ ih => rw [List.map_cons, List.map_cons, ih, r.1]
theorem PN.put {es : List (NestedKey × Addr × V)} {xs : List (NestedKey × Addr × Value)} {k : NestedKey} {b : Addr} {v : V} {u : Value} (h : PN es xs) (rv : RelV v u) : PN (putN es k b v) (storedH xs k b u) := by
  have hk := (h.at k).isSome_eq
  rw [Option.isSome_map] at hk
  unfold putN storedH
  rw [hk]
  have go1 : ∀ {es : List (NestedKey × Addr × V)} {xs : List (NestedKey × Addr × Value)}, PN es xs → PN (es.map fun e => if e.1 = k then (e.1, e.2.1, v) else e) (xs.map (putAt k u)) := by
    intro es xs h
    induction h with
    | nil => exact .nil
    | @cons p q ps qs r t ih =>
      refine .cons ?_ ih
      obtain ⟨r1, r2, r3⟩ := r
      unfold putAt
      simp only
      rw [← r1]
      by_cases e : p.1 = k
      · rw [if_pos e, if_pos e]
        exact ⟨rfl, r2, rv⟩
      · rw [if_neg e, if_neg e]
        exact ⟨r1, r2, r3⟩
  have go2 : ∀ {es : List (NestedKey × Addr × V)} {xs : List (NestedKey × Addr × Value)}, PN es xs → PN (es ++ [(k, b, v)]) (xs ++ [(k, b, u)]) := by
    intro es xs h
    induction h with
    | nil => exact .cons ⟨rfl, rfl, rv⟩ .nil
    | cons r _ ih => exact .cons r ih
  split
  · exact go1 h
  · exact go2 h
theorem length_putN (es : List (NestedKey × Addr × V)) (k : NestedKey) (b : Addr) (v : V) : (putN es k b v).length ≤ es.length + 1 := by
  unfold putN
  split
  · rw [List.length_map]
    omega
  · simp
theorem keys_putN (es : List (NestedKey × Addr × V)) (k : NestedKey) (b : Addr) (v : V) (n : (es.map (·.1)).Nodup) : ((putN es k b v).map (·.1)).Nodup := by
  unfold putN
  split
  · rw [List.map_map]
    have e : (es.map ((·.1) ∘ fun e => if e.1 = k then (e.1, e.2.1, v) else e)) = es.map (·.1) := List.map_congr_left fun x _ => by
      show (if x.1 = k then (x.1, x.2.1, v) else x).1 = x.1
      split <;> rfl
    rw [e]
    exact n
  · rename_i h
    rw [List.map_append, List.nodup_append]
    refine ⟨n, by simp, fun a ha b' hb' e => h ?_⟩
    simp only [List.map_cons, List.map_nil, List.mem_singleton] at hb'
    subst hb'
    subst e
    obtain ⟨x, hx, hx2⟩ := List.mem_map.mp ha
    unfold atN
    rw [Option.isSome_map, List.find?_isSome]
    exact ⟨x, hx, by simp [hx2]⟩
section
variable {X : Cx} {pins : List (Addr × Obj)} {σ : L2.St} {H : Hp} {s : Shared} {d : Addr}
theorem rt_is (I : Inv X pins σ H s) : ∀ {ds : List (D × D)} {es : List (NestedKey × Addr × V)} {xs : List (NestedKey × Addr × Value)}, Rt (cxFr X) H es ds → PN es xs → ∀ x ∈ xs, (nestedKind X.prog X.w).is s.heap x.1 x.2.1
  | [], _, _, h, p, x, hx => by
    cases h
    cases p
    cases hx
  | (kd, _) :: ds, _, _, h, p, x, hx => by
    cases h with
    | cons r1 r2 r3 r4 r5 =>
      cases p with
      | cons q qs =>
        rcases List.mem_cons.mp hx with e | hx
        · subst e
          obtain ⟨k, e1, e2⟩ := isKeyT_key r2
          rw [r3] at e1
          cases e1
          obtain ⟨q1, q2, q3⟩ := q
          refine ⟨?_, ?_⟩
          · rw [← q1, ← q2]
            exact R.nk I r1 rfl r3
          · rw [← q1]
            exact e2
        · exact rt_is I r5 qs x hx
theorem dn_rd (I : Inv X pins σ H s) {es : List (NestedKey × Addr × V)} {ds : List (D × D)} (e : Rd H d (dnO (cxFr X) d es)) (r : Rt (cxFr X) H es ds) :
    es.length ≤ sizeLine ∧ (d == sysModules) = false ∧ ∃ xs, PN es xs ∧ s.heap.DictOfH (nestedKind X.prog X.w) d xs := by
  obtain ⟨⟨h1, h2, h3, xs, h4, o, ar, ep, h5, h6, h7, h8⟩, _⟩ := e.ok I.hok
  exact ⟨h1, h2, xs, h4, o, ar, ep, h5, h6, h7, h8, rt_is I r h4, by rw [PN.keys h4]; exact h3⟩
/-- the empty dict is of both kinds -/
theorem dk_nil (I : Inv X pins σ H s) (e : Rd H d (.dK [])) : (d == sysModules) = false ∧ s.heap.DictOfH (nestedKind X.prog X.w) d [] := by
  obtain ⟨_, hd, vs, kv, o, es, ep, h1, h2, h3, h4, h5, h6⟩ := dk_rd I.hok e
  cases kv
  refine ⟨hd, o, es, ep, h1, h2, h3, ?_, fun x hx => (nomatch hx), List.nodup_nil⟩
  cases z : es.toList with
  | nil => rfl
  | cons x r =>
    rw [z] at h5
    cases h5
theorem dn_ok {H' : Hp} {h : Heap} {es : List (NestedKey × Addr × V)} {xs : List (NestedKey × Addr × Value)} (h1 : es.length ≤ sizeLine) (h2 : (d == sysModules) = false) (h3 : (es.map (·.1)).Nodup) (h4 : PN es xs) (h5 : h.DictOfH (nestedKind X.prog X.w) d xs) :
    ObjOk X.prog X.w H' h d (dnO (cxFr X) d es) := by
  obtain ⟨o, ar, ep, a1, a2, a3, a4, _, _⟩ := h5
  refine ⟨⟨h1, h2, h3, xs, h4, o, ar, ep, a1, a2, a3, a4⟩, ⟨o, a1⟩, ?_⟩
  rintro g1 g2 ⟨b1, b2, b3, ys, b4, o', ar', ep', b5, b6⟩ k
  exact ⟨b1, b2, b3, ys, b4, o', ar', ep', k _ b5, b6⟩
end
theorem rt_get {K : Fr} {H : Hp} {kd : D} {k : NestedKey} (hk : keyN kd = some k) : ∀ {ds : List (D × D)} {es : List (NestedKey × Addr × V)}, Rt K H es ds → (atN es k = none ∧ dGet ds kd = none) ∨ ∃ v d, atN es k = some v ∧ dGet ds kd = some d ∧ R K H v d
  | [], _, h => by
    cases h
    exact .inl ⟨rfl, rfl⟩
  | (x, y) :: ds, _, h => by
    cases h with
    | @cons k' b v _ _ es _ r1 r2 r3 r4 r5 =>
      have ih := rt_get hk r5
      have e := eqvD_key r3 hk
      unfold atN dGet
      rw [List.find?_cons, List.find?_cons]
      simp only
      rw [e]
      by_cases q : k' = k
      · rw [decide_eq_true q]
        exact .inr ⟨v, y, rfl, rfl, r4⟩
      · rw [decide_eq_false q]
        exact ih
theorem rt_put {K : Fr} {H : Hp} {kd d : D} {k : NestedKey} {b : Addr} {v : V} (hb : R K H (.ref b) kd) (ht : isKeyT kd = true) (hk : keyN kd = some k) (hv : R K H v d) {ds : List (D × D)} {es : List (NestedKey × Addr × V)} (h : Rt K H es ds) : Rt K H (putN es k b v) (dPut ds kd d) := by
  have hs : (atN es k).isSome = dHas ds kd := by
    rcases rt_get hk h with ⟨a1, a2⟩ | ⟨v', d', a1, a2, _⟩
    · rw [a1]
      unfold dGet at a2
      rw [Option.map_eq_none_iff, List.find?_eq_none] at a2
      unfold dHas
      symm
      rw [Option.isSome_none, List.any_eq_false]
      exact a2
    · rw [a1]
      unfold dGet at a2
      rw [Option.map_eq_some_iff] at a2
      obtain ⟨p, a3, _⟩ := a2
      unfold dHas
      symm
      rw [Option.isSome_some, List.any_eq_true]
      exact ⟨p, List.mem_of_find?_eq_some a3, by simpa using List.find?_some a3⟩
  unfold putN dPut
  rw [hs]
  split
  · clear hs
    have go : ∀ {ds : List (D × D)} {es : List (NestedKey × Addr × V)}, Rt K H es ds → Rt K H (es.map fun e => if e.1 = k then (e.1, e.2.1, v) else e) (ds.map fun p => if p.1.eqv kd then (p.1, d) else p) := by
      intro ds
      induction ds with
      | nil =>
        intro es h
        cases h
        exact .nil
      | cons p ds ih =>
        intro es h
        cases h with
        | cons r1 r2 r3 r4 r5 =>
          simp only [List.map_cons]
          have e := eqvD_key r3 hk
          rw [e]
          split
          · rename_i q
            rw [if_pos (decide_eq_true q)]
            exact .cons r1 r2 r3 hv (ih r5)
          · rename_i q
            rw [if_neg (by simpa using q)]
            exact .cons r1 r2 r3 r4 (ih r5)
    exact go h
  · clear hs
    have go : ∀ {ds : List (D × D)} {es : List (NestedKey × Addr × V)}, Rt K H es ds → Rt K H (es ++ [(k, b, v)]) (ds ++ [(kd, d)]) := by
      intro ds
      induction ds with
      | nil =>
        intro es h
        cases h
        exact .cons hb ht hk hv .nil
      | cons p ds ih =>
        intro es h
        cases h with
        | cons r1 r2 r3 r4 r5 => exact .cons r1 r2 r3 r4 (ih r5)
    exact go h

/-! ### d[k], k in d, d.get(k, x), d[k] = v -/
def DGT (K : Fr) (H : Hp) (a : Addr) (y : V) (o : Option V) : Prop := ∃ (b : Addr) (kd : D) (k : NestedKey), y = .ref b ∧ R K H (.ref b) kd ∧ isKeyT kd = true ∧ keyN kd = some k ∧
  ((∃ es ds, Rd H a (dnO K a es) ∧ Rt K H es ds ∧ o = atN es k) ∨ (Rd H a (.dK []) ∧ o = none))
def DPT (K : Fr) (H : Hp) (a : Addr) (y v : V) (H' : Hp) : Prop := ∃ (b : Addr) (kd : D) (k : NestedKey), y = .ref b ∧ R K H (.ref b) kd ∧ isKeyT kd = true ∧ keyN kd = some k ∧
  ((∃ es ds, H a = some (dnO K a es) ∧ Rt K H es ds ∧ es.length < sizeLine ∧ H' = upd H a (dnO K a (putN es k b v))) ∨ (H a = some (.dK []) ∧ H' = upd H a (dnO K a [(k, b, v)])))
section
variable {X : Cx} {pins : List (Addr × Obj)} {σ : L2.St} {H : Hp} {s : Shared} {a : Addr} {y v : V} {u r : Value} {o : Option V} {A : Around} {E : Value → Shared → Prop}
theorem kd_is (I : Inv X pins σ H s) {b : Addr} {kd : D} {k : NestedKey} (r : R (cxFr X) H (.ref b) kd) (ht : isKeyT kd = true) (hk : keyN kd = some k) : (nestedKind X.prog X.w).is s.heap k b := by
  obtain ⟨k', e1, e2⟩ := isKeyT_key ht
  rw [hk] at e1
  cases e1
  exact ⟨R.nk I r rfl hk, e2⟩
theorem nroom (hu : A.units + 64 < cLine) : (nestedKind X.prog X.w).room A.in1 := by
  show A.in1.units + 8 < cLine
  have : A.in1.units = A.units + 1 := rfl
  omega
/-- what stands at a and at the key, for the machine -/
theorem dgt_of (I : Inv X pins σ H s) (g : DGT (cxFr X) H a y o) : ∃ (b : Addr) (k : NestedKey) (xs : List (NestedKey × Addr × Value)), y = .ref b ∧ (nestedKind X.prog X.w).is s.heap k b ∧ (a == sysModules) = false ∧ s.heap.DictOfH (nestedKind X.prog X.w) a xs ∧ RelO o ((atKey xs k).map (·.2)) := by
  obtain ⟨b, kd, k, rfl, r1, r2, r3, ⟨es, ds, e1, e2, rfl⟩ | ⟨e1, rfl⟩⟩ := g
  · obtain ⟨_, hd, xs, p, dd⟩ := dn_rd I e1 e2
    exact ⟨b, k, xs, rfl, kd_is I r1 r2 r3, hd, dd, p.at k⟩
  · obtain ⟨hd, dd⟩ := dk_nil I e1
    exact ⟨b, k, [], rfl, kd_is I r1 r2 r3, hd, dd, True.intro⟩
theorem n_getItem {Q : Value → Shared → Prop} (hu : A.units + 64 < cLine) (I : Inv X pins σ H s) (g : DGT (cxFr X) H a y (some v)) (ry : RelV y u) (h : ∀ w' s', Inv X pins σ H s' → RelV v w' → Q w' s') :
    wpAny (model X.prog X.w) A (getItem (.ref a) u) Q E s := by
  obtain ⟨b, k, xs, rfl, h1, h2, h3, h4⟩ := dgt_of I g
  cases (show u = Value.ref b from ry)
  obtain ⟨w', hw, rw'⟩ := RelO.some_of (v := v) h4
  obtain ⟨p, hp, hp2⟩ := Option.map_eq_some_iff.mp hw
  refine wpAny_getItem_heap (nroom hu) h1 h3 hp ?_
  rw [hp2]
  exact h w' _ (I.tok _) rw'
theorem n_in {Q : Value → Shared → Prop} (hu : A.units + 64 < cLine) (I : Inv X pins σ H s) (g : DGT (cxFr X) H a y o) (ry : RelV y u) (h : ∀ s', Inv X pins σ H s' → Q (.bool o.isSome) s') :
    wpAny (model X.prog X.w) A (compareOp .In u (.ref a)) Q E s := by
  obtain ⟨b, k, xs, rfl, h1, h2, h3, h4⟩ := dgt_of I g
  cases (show u = Value.ref b from ry)
  refine wpAny_in_heap (nroom hu) h1 h2 h3 ?_
  have q := h4.isSome_eq
  rw [Option.isSome_map] at q
  rw [← q]
  exact h _ (I.tok _)
theorem n_notIn {Q : Value → Shared → Prop} (hu : A.units + 64 < cLine) (I : Inv X pins σ H s) (g : DGT (cxFr X) H a y o) (ry : RelV y u) (h : ∀ s', Inv X pins σ H s' → Q (.bool (!o.isSome)) s') :
    wpAny (model X.prog X.w) A (compareOp .NotIn u (.ref a)) Q E s := by
  obtain ⟨b, k, xs, rfl, h1, h2, h3, h4⟩ := dgt_of I g
  cases (show u = Value.ref b from ry)
  refine wpAny_notIn_heap (nroom hu) h1 h2 h3 ?_
  have q := h4.isSome_eq
  rw [Option.isSome_map] at q
  rw [← q]
  exact h _ (I.tok _)
theorem n_get2 {d : V} {Q : Value → Shared → Prop} (hu : A.units + 64 < cLine) (I : Inv X pins σ H s) (g : DGT (cxFr X) H a y o) (ry : RelV y u) (rd : RelV d r) (h : ∀ w' s', Inv X pins σ H s' → RelV (o.getD d) w' → Q w' s') :
    wpAny (model X.prog X.w) A (call (.builtin "dict.get") [.ref a, u, r]) Q E s := by
  obtain ⟨b, k, xs, rfl, h1, h2, h3, h4⟩ := dgt_of I g
  cases (show u = Value.ref b from ry)
  exact call_meetsIn PySem.F.slot_dict_get h3.typeIs PySem.F.entry_dict_get (PySem.F.args_dict_get_3 _ _ _) (meetsH_dict_get_default (nestedKind X.prog X.w) a b h2 r) ⟨nroom hu, k, xs, h1, h3, h _ _ (I.tok _) (h4.getD rd)⟩
theorem n_setItem {H' : Hp} {Q : Unit → Shared → Prop} (hu : A.units + 64 < cLine) (I : Inv X pins σ H s) (g : DPT (cxFr X) H a y v H') (ry : RelV y u) (rv : RelV v r) (h : ∀ s', Inv X pins σ H' s' → Q () s') :
    wpAny (model X.prog X.w) A (setItem (.ref a) u r) Q E s := by
  obtain ⟨b, kd, k, rfl, r1, r2, r3, ⟨es, ds, e1, e2, e3, rfl⟩ | ⟨e1, rfl⟩⟩ := g
  · cases (show u = Value.ref b from ry)
    obtain ⟨z, hd, xs, p, dd⟩ := dn_rd I (.inl e1) e2
    have hz : xs.length ≤ sizeLine := by rw [← Paired.length p]; exact z
    have nd : (es.map (·.1)).Nodup := by
      obtain ⟨_, _, _, _, _, _, _, _, n⟩ := id dd
      rw [← p.keys]
      exact n
    refine wpAny_setItem_heap (hsz := hz) (nroom hu) (kd_is I r1 r2 r3) dd fun h' dd' hs => h _ ?_
    have he : ∃ q, h'.get? a = some q := let ⟨q, _, _, hq, _⟩ := dd'; ⟨q, hq⟩
    exact d_write I (by rw [e1]; exact True.intro) hs he (dn_ok (by have := length_putN es k b v; omega) hd (keys_putN es k b v nd) (p.put rv) dd')
  · cases (show u = Value.ref b from ry)
    obtain ⟨hd, dd⟩ := dk_nil I (.inl e1)
    refine wpAny_setItem_heap (hsz := Nat.zero_le _) (nroom hu) (kd_is I r1 r2 r3) dd fun h' dd' hs => h _ ?_
    have he : ∃ q, h'.get? a = some q := let ⟨q, _, _, hq, _⟩ := dd'; ⟨q, hq⟩
    exact d_write I (by rw [e1]; exact True.intro) hs he (dn_ok (by show 1 ≤ sizeLine; decide) hd (by simp) (.cons ⟨rfl, rfl, rv⟩ .nil) dd')
theorem n_noDict (I : Inv X pins σ H s) (g : DGT (cxFr X) H a y o) : s.TypeIs (.ref a) "dict" ∧ ∀ b, Value.ref a = .ref b → ∃ ob, s.heap.get? b = some ob ∧ ob.dict = none := by
  obtain ⟨_, _, xs, _, _, _, dd, _⟩ := dgt_of I g
  refine ⟨dd.typeIs, fun b q => ?_⟩
  cases q
  obtain ⟨ob, _, _, h1, h2, _⟩ := dd
  exact ⟨ob, h1, h2.2.1⟩
end
def DG (K : Fr) (H : Hp) (a : Addr) (y : V) (o : Option V) : Prop := DGet H a y o ∨ DGT K H a y o
def DP (K : Fr) (H : Hp) (a : Addr) (y v : V) (H' : Hp) : Prop := DPut H a y v H' ∨ DPT K H a y v H'
def tDGetA (K : Fr) (td ty : TE) : TE := fun σ H Q => td σ H fun x H1 => ty σ H1 fun y H2 => ∃ a v, x = .ref a ∧ DG K H2 a y (some v) ∧ Q v H2
def tDInA (K : Fr) (neg : Bool) (ty td : TE) : TE := fun σ H Q => ty σ H fun y H1 => td σ H1 fun x H2 => ∃ a o, x = .ref a ∧ DG K H2 a y o ∧ Q (.bl (if neg then !o.isSome else o.isSome)) H2
def sDPutA (K : Fr) (td ty tv : TE) : TS := fun D σ H => tv σ H fun v H1 => td σ H1 fun x H2 => ty σ H2 fun y H3 => ∃ a H4, x = .ref a ∧ DP K H3 a y v H4 ∧ D.nx σ H4
/-- a dict of any kind -/
def IsDA (K : Fr) (H : Hp) (a : Addr) : Prop := IsD H a ∨ ∃ es ds, Rd H a (dnO K a es) ∧ Rt K H es ds
def tDGet2A (K : Fr) (td ty tx : TE) : TE := fun σ H Q => td σ H fun x H1 => ∃ a, x = .ref a ∧ IsDA K H1 a ∧ ty σ H1 fun y H2 => tx σ H2 fun z H3 => ∃ o, DG K H3 a y o ∧ Q (o.getD z) H3
theorem isDA_at {X : Cx} {pins : List (Addr × Obj)} {σ : L2.St} {H : Hp} {s : Shared} {a : Addr} (I : Inv X pins σ H s) (d : IsDA (cxFr X) H a) :
    s.TypeIs (.ref a) "dict" ∧ (∀ b, Value.ref a = .ref b → ∃ ob, s.heap.get? b = some ob ∧ ob.dict = none) ∧ (a == sysModules) = false := by
  rcases d with d | ⟨es, ds, e, r⟩
  · exact isD_at I d
  · obtain ⟨_, hd, xs, _, dd⟩ := dn_rd I e r
    refine ⟨dd.typeIs, fun b q => ?_, hd⟩
    cases q
    obtain ⟨ob, _, _, h1, h2, _⟩ := dd
    exact ⟨ob, h1, h2.2.1⟩
section
variable {X : Cx} {o i e f value : Expr} {pos pos' tpos apos cpos : Pos} {td ty tv tx : TE}
theorem pe_dgetA (hu : X.A.units + 64 < cLine) (ho : PE X o td) (hi : PE X i ty) (hs : NoSl i) : PE X (.Subscript o i pos) (tDGetA (cxFr X) td ty) := by
  refine ⟨fun pins s σ H Q I h => ?_⟩
  refine subD_of PySem.F.slot_dict_getitem.lookup hs (thn (ho.run pins s σ H _ I h) fun u s1 ⟨x, H1, I1, rx, q1⟩ => thn (hi.run pins s1 σ H1 _ I1 q1) fun iv s2 ⟨y, H2, I2, ry, a, v, ex, g, q2⟩ => ?_)
  subst ex
  obtain rfl : u = Value.ref a := rx
  rcases g with g | g
  · exact ⟨dict_typeIs I2 g, d_getItem (by omega) I2 g ry fun w' s3 I3 rw' => ⟨v, H2, I3, rw', q2⟩⟩
  · exact ⟨(n_noDict I2 g).1, n_getItem hu I2 g ry fun w' s3 I3 rw' => ⟨v, H2, I3, rw', q2⟩⟩
theorem pc_dinA (hu : X.A.units + 64 < cLine) (hi : PE X i ty) (ho : PE X o td) : PC X .In i o (tDInA (cxFr X) false ty td) := by
  refine ⟨fun pins s σ H Q I h => ?_⟩
  refine thn (hi.run pins s σ H _ I h) fun iv s1 ⟨y, H1, I1, ry, q1⟩ => thn (ho.run pins s1 σ H1 _ I1 q1) fun u s2 ⟨x, H2, I2, rx, a, ov, ex, g, q2⟩ => ?_
  subst ex
  obtain rfl : u = Value.ref a := rx
  rcases g with g | g
  · exact d_in (by omega) I2 g ry fun s3 I3 => ⟨.bl ov.isSome, H2, I3, rfl, q2⟩
  · exact n_in hu I2 g ry fun s3 I3 => ⟨.bl ov.isSome, H2, I3, rfl, q2⟩
theorem pc_dnotinA (hu : X.A.units + 64 < cLine) (hi : PE X i ty) (ho : PE X o td) : PC X .NotIn i o (tDInA (cxFr X) true ty td) := by
  refine ⟨fun pins s σ H Q I h => ?_⟩
  refine thn (hi.run pins s σ H _ I h) fun iv s1 ⟨y, H1, I1, ry, q1⟩ => thn (ho.run pins s1 σ H1 _ I1 q1) fun u s2 ⟨x, H2, I2, rx, a, ov, ex, g, q2⟩ => ?_
  subst ex
  obtain rfl : u = Value.ref a := rx
  rcases g with g | g
  · exact d_notIn (by omega) I2 g ry fun s3 I3 => ⟨.bl (!ov.isSome), H2, I3, rfl, q2⟩
  · exact n_notIn hu I2 g ry fun s3 I3 => ⟨.bl (!ov.isSome), H2, I3, rfl, q2⟩
theorem ps_dputA (hu : X.A.units + 64 < cLine) (ho : PE X o td) (hi : PE X i ty) (hv : PE X value tv) (hs : swapsWith value (some (.Subscript o i pos')) pos.line X.env = pure false) :
    PS X (.Assign [.Subscript o i pos'] value pos) (sDPutA (cxFr X) td ty tv) := by
  refine ⟨fun pins s σ H D I h => ?_⟩
  refine wpAny_Assign_Subscript (thn (hv.run pins s σ H _ I h) fun r s1 ⟨v, H1, I1, rv, q1⟩ => thn (ho.run pins s1 σ H1 _ I1 q1) fun u s2 ⟨x, H2, I2, rx, q2⟩ => thn (hi.run pins s2 σ H2 _ I2 q2) fun iv s3 ⟨y, H3, I3, ry, a, H4, ex, g, q3⟩ => ?_) hs
  subst ex
  obtain rfl : u = Value.ref a := rx
  rcases g with g | g
  · exact d_setItem (by omega) I3 g ry rv fun s4 I4 => ⟨σ, H4, I4, q3⟩
  · exact n_setItem hu I3 g ry rv fun s4 I4 => ⟨σ, H4, I4, q3⟩
theorem pe_dget2A (hu : X.A.units + 64 < cLine) (ho : PE X o td) (he : PE X e ty) (hf : PE X f tx) (m : M2 X o "get" apos e f cpos) : PE X (.Call (.Attribute o "get" apos) [e, f] [] cpos) (tDGet2A (cxFr X) td ty tx) := by
  refine ⟨fun pins s σ H Q I h => ?_⟩
  refine wpAny_Call_method m.base m.few m.line PySem.F.plainAttrs_dict PySem.F.slot_dict_get PySem.F.type_dict_get (thn (ho.run pins s σ H _ I h) fun u s1 ⟨x, H1, I1, rx, a, ex, d, q1⟩ => ?_)
  subst ex
  obtain rfl : u = Value.ref a := rx
  obtain ⟨t1, t2, _⟩ := isDA_at I1 d
  refine ⟨t1, t2, ?_⟩
  rw [m.trees]
  refine Calls.callWith_builtin rfl (Calls.evalArgs_plain (Calls.spliced_cons (thn (he.run pins s1 σ H1 _ I1 q1) fun iv s2 ⟨y, H2, I2, ry, q2⟩ =>
    Calls.spliced_cons (thn (hf.run pins s2 σ H2 _ I2 q2) fun fv s3 ⟨z, H3, I3, rz, ov, g, q3⟩ => Calls.spliced_nil ?_))))
  rcases g with g | g
  · exact L2.d_get2 (by omega) I3 g ry rz fun w' s4 I4 rw' => ⟨_, H3, I4, rw', q3⟩
  · exact n_get2 hu I3 g ry rz fun w' s4 I4 rw' => ⟨_, H3, I4, rw', q3⟩
end
/-! ### length and truth of any dict -/
/-- a dict of n entries stands at a -/
def DLen (K : Fr) (H : Hp) (a : Addr) (n : Nat) : Prop := (∃ kvs, Rd H a (.dK kvs) ∧ n = kvs.length) ∨ ∃ es ds, Rd H a (dnO K a es) ∧ Rt K H es ds ∧ n = es.length
section
variable {X : Cx} {pins : List (Addr × Obj)} {σ : L2.St} {H : Hp} {s : Shared} {a : Addr} {A : Around} {E : Value → Shared → Prop}
theorem wpAny_truthy_dictH {P : Program} {w : World} {KK : Type} [DecidableEq KK] {knd : HeapKind P w KK} {d : Addr} {xs : List (KK × Addr × Value)} {Q : Bool → Shared → Prop} (hd : (d == sysModules) = false) (hm : s.heap.DictOfH knd d xs) (hfit : (xs.length : Int) < 2 ^ 63)
    (h : Q (!xs.isEmpty) { s with toks := s.toks + 1 + 1 }) : wpAny (model P w) A (truthy (.ref d)) Q E s := by
  have hne : ((xs.length : Int) != 0) = !xs.isEmpty := by cases xs <;> simp <;> omega
  have key : wpAny (model P w) A (runValue (.builtin "len" ⟨[.ref d], []⟩)) (fun r s' => r = .int xs.length (s.toks + 1) ∧ Q (!xs.isEmpty) s') E s := by
    refine wpAny_runValue (codeAny_builtin entry_len ?_)
    rw [Around.under_plainId plain_len _]
    exact wpAny_mono (wpAny_len_body_dictH (Q := fun r s' => r = .int xs.length (s.toks + 1) ∧ Q (!xs.isEmpty) s') hd hm hfit ⟨rfl, h⟩)
      (fun fin s' h' => by obtain ⟨r, rfl, hq⟩ := h'; exact hq) fun _ _ e => e
  unfold truthy
  first
    | refine wpAny_bind (wpAny_callSpecial?_none (name := Str.ofString "__bool__") hm.typeIs noBool_dict ?_)
    | refine wpAny_bind (wpAny_pure (wpAny_bind (wpAny_callSpecial?_none (name := Str.ofString "__bool__") hm.typeIs noBool_dict ?_)))
  first
    | refine wpAny_bind (wpAny_specialOf (name := Str.ofString "__len__") hm.typeIs F.slot_dict_len.lookup ?_)
    | refine wpAny_bind (wpAny_pure (wpAny_bind (wpAny_specialOf (name := Str.ofString "__len__") hm.typeIs F.slot_dict_len.lookup ?_)))
  first
    | exact wpAny_bind (wpAny_mono key (fun r s' h' => by obtain ⟨rfl, hq⟩ := h'; exact wpAny_pure (hne ▸ hq)) fun _ _ e => e)
    | exact wpAny_bind (wpAny_pure (wpAny_bind (wpAny_mono key (fun r s' h' => by obtain ⟨rfl, hq⟩ := h'; exact wpAny_pure (hne ▸ hq)) fun _ _ e => e)))
theorem PN.len {es : List (NestedKey × Addr × V)} {xs : List (NestedKey × Addr × Value)} (h : PN es xs) : es.length = xs.length := Paired.length h
theorem dl_truth {n : Nat} {Q : Bool → Shared → Prop} (I : Inv X pins σ H s) (e : DLen (cxFr X) H a n) (h : ∀ s', Inv X pins σ H s' → Q (n != 0) s') : wpAny (model X.prog X.w) A (truthy (.ref a)) Q E s := by
  have hs : sizeLine = 16777216 := sizeLine_eq
  rcases e with ⟨kvs, e, rfl⟩ | ⟨es, ds, e, r, rfl⟩
  · refine L2.d_truth I e fun s' J => ?_
    have q := h s' J
    cases kvs <;> exact q
  · obtain ⟨z, hd, xs, p, dd⟩ := dn_rd I e r
    have hl := p.len
    refine wpAny_truthy_dictH hd dd (by omega) ?_
    have e2 : (es.length != 0) = !xs.isEmpty := by
      rw [hl]
      cases xs <;> rfl
    rw [← e2]
    exact h _ (I.tok _)
theorem dl_len {n : Nat} {Q : Value → Shared → Prop} (I : Inv X pins σ H s) (e : DLen (cxFr X) H a n) (h : ∀ t s', Inv X pins σ H s' → Q (.int n t) s') : wpAny (model X.prog X.w) A (call (.builtin "len") [.ref a]) Q E s := by
  have hs : sizeLine = 16777216 := sizeLine_eq
  rcases e with ⟨kvs, e, rfl⟩ | ⟨es, ds, e, r, rfl⟩
  · exact L2.d_len I e h
  · obtain ⟨z, hd, xs, p, dd⟩ := dn_rd I e r
    have hl := p.len
    refine call_len_dictH hd dd (by omega) ?_
    rw [← hl]
    exact h _ _ (I.tok _)
end
/-- truth of any value -/
def TruD (K : Fr) (x : V) (H : Hp) (k : Bool) : Prop := TruV K x H k ∨ ∃ a n, x = .ref a ∧ DLen K H a n ∧ k = (n != 0)
theorem tru_d {X : Cx} : TruR X (fun x H Q => ∃ k, TruD (cxFr X) x H k ∧ Q k H) := by
  intro pins s σ H x v Q I rx ⟨k, e, q⟩
  rcases e with e | ⟨a, n, rfl, e, rfl⟩
  · exact tru_ok pins s σ H x v Q I rx ⟨k, e, q⟩
  · cases (show v = Value.ref a from rx)
    exact dl_truth I e fun s' J => ⟨H, J, q⟩
theorem call_lenN {X : Cx} : CallR X (.builtin "len") (fun xs H Q => ∃ a n, xs = [.ref a] ∧ DLen (cxFr X) H a n ∧ Q (.int ((n : Nat) : Int)) H) := by
  intro pins s σ H xs us Q I r h
  obtain ⟨a, n, rfl, e, q⟩ := h
  obtain ⟨u, rfl, rx⟩ := vals1 r
  obtain rfl : u = .ref a := rx
  exact dl_len I e fun t s' J => ⟨.int n, H, J, ⟨t, rfl⟩, q⟩

/-! ### a dict is locked, and its keys walked -/
/-- what a dict is, for locking -/
def IsDk (K : Fr) (a : Addr) (u : HO) : Prop := (∃ kvs, u = .dK kvs) ∨ ∃ es, u = dnO K a es
def tFrz (K : Fr) (td : TE) : TE := fun σ H Q => td σ H fun x H1 => ∃ a u, x = .ref a ∧ IsDk K a u ∧ ((H1 a = some u ∧ ∀ od, Q x (upd H1 a (.frz od u))) ∨ ∃ od, H1 a = some (.frz od u) ∧ Q x H1)
theorem IsDk.mut {K : Fr} {a : Addr} {u : HO} (h : IsDk K a u) : Mut (some u) ∧ FrzOk u := by
  rcases h with ⟨kvs, rfl⟩ | ⟨es, rfl⟩
  · exact ⟨True.intro, True.intro⟩
  · exact ⟨True.intro, True.intro⟩
theorem pe_frz {X : Cx} {e : Expr} {td : TE} (he : PE X e td) : PE X e (tFrz (cxFr X) td) := by
  refine ⟨fun pins s σ H Q I h => ?_⟩
  refine thn (he.run pins s σ H _ I h) fun u s1 ⟨x, H1, I1, rx, a, o, ex, hd, q⟩ => ?_
  subst ex
  rcases q with ⟨e1, q⟩ | ⟨od, e1, q⟩
  · obtain ⟨od, I2⟩ := I1.lock e1 hd.mut.1
    exact ⟨_, _, I2, rx, q od⟩
  · exact ⟨_, _, I1, rx, q⟩
/-- the keys of a locked dict of tuple keys: the keys' own tuples -/
def Itn (K : Fr) (d : Addr) (o : Obj) (es : List (NestedKey × Addr × V)) : It :=
  ⟨fun i H => H d = some (.frz o (dnO K d es)) ∧ i < es.length, fun i H x H' => H' = H ∧ ∃ e, es[i]? = some e ∧ x = .ref e.2.1, fun i H => H d = some (.frz o (dnO K d es)) ∧ es.length ≤ i⟩
theorem walk_keysN {K : Fr} {d : Addr} {o : Obj} {es : List (NestedKey × Addr × V)} : Walk (Itn K d o es) es.length (fun H => H d = some (.frz o (dnO K d es))) (fun i H x H' => H' = H ∧ ∃ e, es[i]? = some e ∧ x = .ref e.2.1) :=
  ⟨fun _ _ hi q => ⟨q, hi⟩, fun _ q => ⟨q, Nat.le_refl _⟩, fun _ _ _ _ _ _ y => y⟩
section
variable {X : Cx} {pins : List (Addr × Obj)} {σ : L2.St} {H : Hp} {s : Shared} {d : Addr} {o : Obj}
theorem Inv.frzN {es : List (NestedKey × Addr × V)} (I : Inv X pins σ H s) (h : H d = some (.frz o (dnO (cxFr X) d es))) :
    (d == sysModules) = false ∧ s.heap.get? d = some o ∧ o.ExactDict ∧ ∃ (ar : Array DictEntry) (ep : Nat), o.data = .dict ar ep ∧ ar.size = es.length ∧
      ∀ (i : Nat) e, es[i]? = some e → ∃ en : DictEntry, ar[i]? = some en ∧ en.key = .ref e.2.1 := by
  obtain ⟨hd, ⟨z, hs, nd, xs, pr, o', ar, ep, ho, hx, hdt, he⟩, _⟩ := I.hok d _ h
  rw [hd] at ho
  cases ho
  refine ⟨hs, hd, hx, ar, ep, hdt, ?_, fun i e q => ?_⟩
  · have l1 : ar.size = xs.length := size_of_entries he
    have l2 := PN.len pr
    omega
  · obtain ⟨b, hb, e1, e2, _⟩ := paired_get pr q
    have z := entry_at he i
    rw [hb] at z
    refine ⟨_, z, ?_⟩
    show Value.ref b.2.1 = .ref e.2.1
    rw [e2]
end
theorem turn_keysN {P : Program} {w : World} {K : PySem.W.Frag} {mg : Str → Option Value} {tg : Expr} {d : Addr} {o : Obj} {ar : Array DictEntry} {ep : Nat} {es : List (NestedKey × Addr × V)} (it : Addr) (hod : o.data = .dict ar ep) :
    Turn P w K tg (Itn ⟨K, P, w, mg⟩ d o es) [it] it (fun i h => h.IsKeyIter it d i es.length ep) where
  mem := by simp
  obj := fun i h st b hb => by
    have e : b = it := by simpa using hb
    subst e
    obtain ⟨oi, e, c, dd⟩ := st
    exact ⟨oi, e, fun v z => by rw [dd] at z; cases z⟩
  keep := fun i h h' st k => st.at fun oi e => k it (by simp) oi e
  item := by
    intro X hP hw hK hc i pins s σ H E I hf st hg
    subst hP hw hK
    obtain ⟨hd, hi⟩ := hg
    obtain ⟨f0, f1, f2, f3, f4, f5⟩ := hf it (by simp)
    obtain ⟨hs, hgd, hx, es', ep', hdt, hsz, ent⟩ := Inv.frzN I hd
    obtain ⟨rfl, rfl⟩ := dict_ep hod hdt
    obtain ⟨e, he⟩ : ∃ p, es[i]? = some p := ⟨es[i], List.getElem?_eq_getElem hi⟩
    obtain ⟨en, hen, hkey⟩ := ent i e he
    refine next_key_item st hgd hdt hsz hen fun h' st' sb => ?_
    have I1 : Inv X pins σ H { s with heap := h' } := I.turned (t' := s.toks) (fun b ob hb e => (sb.2 b hb).trans e) f0 f1 f3 f4 f5
    obtain ⟨oi, e2, c, dd⟩ := id st'
    exact ⟨en.key, rfl, go_of (s := { s with heap := h' }) e2 c dd (by decide) ⟨.ref e.2.1, H, I1, hkey, ⟨rfl, e, he, rfl⟩, st', fun b hb => (hf b hb).1⟩⟩
  done := by
    intro X hP hw hK hc i pins s σ H E I hf st hg
    subst hP hw hK
    obtain ⟨hd, hi⟩ := hg
    obtain ⟨f0, f1, f2, f3, f4, f5⟩ := hf it (by simp)
    obtain ⟨hs, hgd, hx, es', ep', hdt, hsz, ent⟩ := Inv.frzN I hd
    obtain ⟨rfl, rfl⟩ := dict_ep hod hdt
    exact next_key_end (I.ok.hd hc) st hgd hdt hsz hi fun h' eb => ⟨rfl, I.turned (t' := s.toks) (fun b ob hb e => eb b ob hb e) f0 f1 f3 f4 f5⟩
  self := fun A i s Q E st h => by
    refine wpAny_pyIter_slot st.typeIs F.slot_dict_keyiterator_iter (wpAny_call_entry F.slot_dict_keyiterator_iter st.typeIs F.entry_dict_keyiterator_iter ?_ (F.args_dict_keyiterator_iter_1 _))
    show wpAny _ _ (PySem.ret (.ref it)) _ _ s
    exact wpAny_pure ⟨_, rfl, "dict_keyiterator", _, st.typeIs, F.slot_dict_keyiterator_next.lookup, h⟩
/-- for k in d, d locked -/
def iKeysN (K : Fr) (td : TE) : TI := fun σ H R => td σ H fun x H1 => ∃ d o es, x = .ref d ∧ H1 d = some (.frz o (dnO K d es)) ∧ R (Itn K d o es) H1
theorem pi_keysN {X : Cx} {tg e : Expr} {td : TE} (he : PE X e td) : PI X tg e (iKeysN (cxFr X) td) := by
  refine ⟨fun pins s σ H R I h => ?_⟩
  refine thn (he.run pins s σ H _ I h) fun u s1 ⟨x, H1, I1, rx, d, o, es, ex, hd, q⟩ => ?_
  subst ex
  obtain rfl : u = Value.ref d := rx
  obtain ⟨hs, hgd, hx, ar, ep, hdt, hsz, ent⟩ := Inv.frzN I1 hd
  refine iter_keys hs hgd hx hdt (pi_one (tk := s1.toks) I1 _ (turn_keysN _ hdt) ⟨_, Heap.get?_push_size _ rfl, rfl, ?_⟩ q)
  rw [hsz] <;> rfl
end Dn
set_option Elab.async false
set_option linter.all false
set_option maxRecDepth 100000
set_option maxHeartbeats 4000000
/-! Expressions: from the layer's rules to denotations. -/
namespace Dn
open PySem L2
section
variable {X : Cx} {c : Cxt}
theorem ped {e : Expr} {te : TE} {m : E} (h : PE X e te) (ev : Ev (cxFr X) c te (pV (cxFr X) c) m) : PE X e (teOf (cxFr X) c m) := ⟨fun pins s σ H Q I ⟨ρ, S, st, g⟩ => h.run pins s σ H Q I (ev ρ σ S H Q st g)⟩
theorem ptd {e : Expr} {te : TT} {m : T} (h : PT X e te) (ev : Ev (cxFr X) c te pB m) : PT X e (ttOf (cxFr X) c m) := ⟨fun pins s σ H Q I ⟨ρ, S, st, g⟩ => h.run pins s σ H Q I (ev ρ σ S H Q st g)⟩
theorem pwd {e : Expr} {te : TT} {m : T} (h : PW X e te) (ev : Ev (cxFr X) c te pB m) : PW X e (ttOf (cxFr X) c m) := ⟨fun whole pins s σ H Q I ⟨ρ, S, st, g⟩ => h.run whole pins s σ H Q I (ev ρ σ S H Q st g)⟩
theorem pad {es : List Expr} {te : TA} {m : M (List D)} (h : PA X es te) (ev : Ev (cxFr X) c te (pL (cxFr X)) m) : PA X es (taOf (cxFr X) c m) := ⟨fun pos pins s σ H Q I ⟨ρ, S, st, g⟩ => h.run pos pins s σ H Q I (ev ρ σ S H Q st g)⟩
end
section
variable {K : Fr} {c : Cxt}
/-- at the end of a piece: the value is there -/
theorem goal_ok {α β : Type} {σ : L2.St} {S : Sh} {H : Hp} {P : α → Sh → Hp → β → Prop} {a : α} {ρ : Env} {Q : β → Hp → Prop} {b : β} {S' : Sh} {H' : Hp} (g : Goal K c σ S P (.ok a ρ) Q) (st : StR K c ρ σ S' H') (e : Ex S.h S'.h) (p : P a S' H' b) : Q b H' := g b S' H' st e p
theorem ev_c {v : V} {d : D} (h : ∀ H, R K H v d) : Ev K c (tC v) (pV K c) (eC d) := fun ρ σ S H Q st g => g v S H st (Ex.refl _) (h S)
theorem ev_v {i : Nat} : Ev K c (tVar i) (pV K c) (eV i) := fun ρ σ S H Q st g => by
  unfold eV at g
  cases e : ρ[i]? with
  | none =>
    rw [e] at g
    exact g.elim
  | some s =>
    rw [e] at g
    cases s with
    | un => exact g.elim
    | bor k => exact g.elim
    | exc er => exact g.elim
    | val d =>
      obtain ⟨v, h1, h2⟩ := st.val i d e
      exact ⟨v, h1, g v S H st (Ex.refl _) h2⟩
    | own k =>
      obtain ⟨l, S', h1, st', ex, r⟩ := st.share e
      exact ⟨.ref l, h1, g (.ref l) S' H st' ex r⟩
theorem ev_mv {i : Nat} : Ev K c (tVar i) (pV K c) (eMv i) := fun ρ σ S H Q st g => by
  unfold eMv at g
  cases e : ρ[i]? with
  | none =>
    rw [e] at g
    exact g.elim
  | some s =>
    rw [e] at g
    cases s with
    | un => exact g.elim
    | bor k => exact g.elim
    | exc er => exact g.elim
    | val d =>
      obtain ⟨v, h1, h2⟩ := st.val i d e
      exact ⟨v, h1, g v S H st (Ex.refl _) h2⟩
    | own k =>
      obtain ⟨l, h1, h2⟩ := st.own i k e
      refine ⟨.ref l, h1, g (.ref l) (S.rid i) H (st.drop i) (Ex.refl _) ⟨l, ownP S i, rfl, h2, fun a q => ?_⟩⟩
      have q : S.ow a = some i := q
      obtain ⟨a1, a2, a3, a4⟩ := st.owF a i q
      refine ⟨a1, a2, ?_, ?_⟩
      · rcases a4 with z | ⟨⟨k', z⟩, _⟩
        · exact z.2
        · rw [e] at z
          cases z
      · cases z : (S.rid i).ow a with
        | none => rfl
        | some j =>
          obtain ⟨z1, z2⟩ := Sh.rid_some.mp z
          rw [q] at z1
          exact absurd (Option.some.inj z1).symm z2
/-- what a name holds, as it stands -/
theorem StR.peek {ρ ρ' : Env} {σ : L2.St} {S : Sh} {H : Hp} {i : Nat} {d : D} (st : StR K c ρ σ S H) (h : peek i ρ = .ok d ρ') : ρ' = ρ ∧ ∃ v, σ[i]? = some (some v) ∧ (R K S.h v d ∨ ∃ l k, v = .ref l ∧ d = C.d k ∧ ContR K S.h H (ownP S i) l k) := by
  unfold Dn.peek at h
  cases e : ρ[i]? with
  | none =>
    rw [e] at h
    cases h
  | some s =>
    rw [e] at h
    cases s with
    | un => cases h
    | exc er => cases h
    | val x =>
      cases h
      obtain ⟨v, h1, h2⟩ := st.val i d e
      exact ⟨rfl, v, h1, .inl h2⟩
    | own k =>
      cases h
      obtain ⟨l, h1, h2⟩ := st.own i k e
      exact ⟨rfl, .ref l, h1, .inr ⟨l, k, rfl, rfl, h2⟩⟩
    | bor k =>
      cases h
      obtain ⟨l, h1, h2, _⟩ := st.bor i k e
      exact ⟨rfl, .ref l, h1, .inr ⟨l, k, rfl, rfl, h2⟩⟩
theorem StR.peekI {ρ ρ' : Env} {σ : L2.St} {S : Sh} {H : Hp} {i : Nat} {d : D} (st : StR K c ρ σ S H) (h : peekI i ρ = .ok d ρ') : ρ' = ρ ∧ ∃ v, σ[i]? = some (some v) ∧ (R K S.h v d ∨ ∃ l k, v = .ref l ∧ d = C.d k ∧ k.pk = true ∧ ContR K S.h H (ownP S i) l k) := by
  unfold Dn.peekI at h
  cases e : ρ[i]? with
  | none =>
    rw [e] at h
    cases h
  | some s =>
    rw [e] at h
    cases s with
    | un => cases h
    | exc er => cases h
    | val x =>
      cases h
      obtain ⟨v, h1, h2⟩ := st.val i d e
      exact ⟨rfl, v, h1, .inl h2⟩
    | own k =>
      simp only at h
      split at h
      · rename_i hk
        cases h
        obtain ⟨l, h1, h2⟩ := st.own i k e
        exact ⟨rfl, .ref l, h1, .inr ⟨l, k, rfl, rfl, hk, h2⟩⟩
      · cases h
    | bor k =>
      simp only at h
      split at h
      · rename_i hk
        cases h
        obtain ⟨l, h1, h2, _⟩ := st.bor i k e
        exact ⟨rfl, .ref l, h1, .inr ⟨l, k, rfl, rfl, hk, h2⟩⟩
      · cases h
/-- .. in the whole heap -/
theorem StR.whole {ρ : Env} {σ : L2.St} {S : Sh} {H : Hp} {v : V} {d : D} {P : Addr → Prop} (st : StR K c ρ σ S H) (h : R K S.h v d ∨ ∃ l k, v = .ref l ∧ d = C.d k ∧ ContR K S.h H P l k) : R K H v d := by
  rcases h with h | ⟨l, k, rfl, rfl, h⟩
  · exact h.mono st.subE
  · exact h.share st.subE fun _ _ => rfl
/-- two values, one after another, and an operation on them -/
def Op2 (K : Fr) (c : Cxt) (r : R2) (f : D → D → Option Rv) : Prop :=
  ∀ ρ σ S H x y vx vy z Q, StR K c ρ σ S H → R K S.h vx x → R K S.h vy y → f x y = some z → (∀ v S' H', StR K c ρ σ S' H' → Ex S.h S'.h → RvR K c z S' H' v → Q v H') → r vx vy H Q
/-- .. a test -/
def Cp2 (K : Fr) (c : Cxt) (r : R2) (f : D → D → Option Bool) : Prop :=
  ∀ ρ σ S H x y vx vy k Q, StR K c ρ σ S H → R K S.h vx x → R K S.h vy y → f x y = some k → Q (.bl k) H → r vx vy H Q
def Op1 (K : Fr) (c : Cxt) (r : V → Hp → VK → Prop) (f : D → Option Rv) : Prop :=
  ∀ ρ σ S H x vx z Q, StR K c ρ σ S H → R K S.h vx x → f x = some z → (∀ v S' H', StR K c ρ σ S' H' → Ex S.h S'.h → RvR K c z S' H' v → Q v H') → r vx H Q
/-- a built-in called with values -/
def OpN (K : Fr) (c : Cxt) (r : List V → Hp → VK → Prop) (f : List D → Option Rv) : Prop :=
  ∀ ρ σ S H xs vs z Q, StR K c ρ σ S H → Rs K S.h vs xs → f xs = some z → (∀ v S' H', StR K c ρ σ S' H' → Ex S.h S'.h → RvR K c z S' H' v → Q v H') → r vs H Q
theorem goal_opt {α β : Type} {σ : L2.St} {S : Sh} {P : α → Sh → Hp → β → Prop} {o : Option α} {ρ : Env} {Q : β → Hp → Prop} (g : Goal K c σ S P (opt o ρ) Q) : ∃ a, o = some a ∧ ∀ b S' H', StR K c ρ σ S' H' → Ex S.h S'.h → P a S' H' b → Q b H' := by
  cases o with
  | none => exact g.elim
  | some a => exact ⟨a, rfl, g⟩
/-- two expressions, then k on their values -/
theorem ev_two {γ δ : Type} {ta tb : TE} {a b : E} {u : V → V → Hp → (δ → Hp → Prop) → Prop} {P' : L2.St → γ → Sh → Hp → δ → Prop} {f : D → D → M γ} (ha : Ev K c ta (pV K c) a) (hb : Ev K c tb (pV K c) b)
    (h : ∀ x y vx vy ρ σ S H Q, StR K c ρ σ S H → R K S.h vx x → R K S.h vy y → Goal K c σ S (P' σ) (f x y ρ) Q → u vx vy H Q) :
    Ev K c (fun σ H Q => ta σ H fun x H1 => tb σ H1 fun y H2 => u x y H2 Q) P' (bind (val a) fun x => bind (val b) fun y => f x y) := by
  refine ev_bind (u := fun σ x H Q => tb σ H fun y H2 => u x y H2 Q) (ev_val ha) fun x vx ρ σ S H Q st r g => ?_
  -- what is known of the first value stays
  have hb' := ev_val hb ρ σ S H (fun y H2 => u vx y H2 Q) st
  refine hb' ?_
  unfold bind at g
  cases e : val b ρ with
  | bad =>
    rw [e] at g
    exact g
  | err er ρ' =>
    rw [e] at g
    exact g
  | ok y ρ' =>
    rw [e] at g
    exact fun vy S' H' st' ex p => h x y vx vy ρ' σ S' H' Q st' (r.mono ex) p (Goal.mono ex g)
theorem ev_op2 {ta tb : TE} {a b : E} {r : R2} {f : D → D → Option Rv} (hr : Op2 K c r f) (ha : Ev K c ta (pV K c) a) (hb : Ev K c tb (pV K c) b) : Ev K c (tOp r ta tb) (pV K c) (e2 f a b) :=
  ev_two ha hb fun x y vx vy ρ σ S H Q st rx ry g => by
    obtain ⟨z, e, g⟩ := goal_opt g
    exact hr ρ σ S H x y vx vy z Q st rx ry e fun v S' H' st' ex p => g v S' H' st' ex p
theorem ev_cp2 {ta tb : TE} {a b : E} {r : R2} {f : D → D → Option Bool} (hr : Cp2 K c r f) (ha : Ev K c ta (pV K c) a) (hb : Ev K c tb (pV K c) b) : Ev K c (tTest (tOp r ta tb)) pB (t2 f a b) := by
  have h := ev_two (u := fun x y H (Q : Bool → Hp → Prop) => r x y H fun z H' => ∃ k, z = .bl k ∧ Q k H') (P' := pB) (f := fun x y => opt (f x y)) ha hb fun x y vx vy ρ σ S H Q st rx ry g => by
    obtain ⟨z, e, g⟩ := goal_opt g
    exact hr ρ σ S H x y vx vy z _ st rx ry e ⟨z, rfl, g z S H st (Ex.refl _) rfl⟩
  exact h
theorem ev_op1 {ta : TE} {a : E} {r : V → Hp → VK → Prop} {f : D → Option Rv} (hr : Op1 K c r f) (ha : Ev K c ta (pV K c) a) : Ev K c (tUn r ta) (pV K c) (e1 f a) :=
  ev_bind (u := fun σ x H Q => r x H Q) (ev_val ha) fun x vx ρ σ S H Q st rx g => by
    obtain ⟨z, e, g⟩ := goal_opt g
    exact hr ρ σ S H x vx z Q st rx e fun v S' H' st' ex p => g v S' H' st' ex p
/-- a new object belongs to nobody -/
theorem StR.loose {ρ : Env} {σ : L2.St} {S : Sh} {H : Hp} {p : Addr} {o : HO} (st : StR K c ρ σ S H) (hp : H p = none) : Loose c S (upd H p o) (· = p) := fun a q => by
  have q : a = p := q
  subst q
  exact ⟨st.freshS hp, by rw [upd_same]; exact (fun z => nomatch z), st.live a hp, st.freshO hp⟩
theorem ev_nil : Ev K c tNil (pL K) (args []) := fun ρ σ S H Q st g => g [] S H st (Ex.refl _) .nil
theorem ev_cons {ta : TE} {tr : TA} {a : E} {es : List E} (ha : Ev K c ta (pV K c) a) (hr : Ev K c tr (pL K) (args es)) : Ev K c (tCons ta tr) (pL K) (args (a :: es)) := by
  refine ev_bind (u := fun σ x H Q => tr σ H fun xs H2 => Q (x :: xs) H2) (ev_val ha) fun x vx ρ σ S H Q st r g => ?_
  refine hr ρ σ S H (fun xs H2 => Q (vx :: xs) H2) st ?_
  unfold bind at g
  cases e : args es ρ with
  | bad =>
    rw [e] at g
    exact g
  | err er ρ' =>
    rw [e] at g
    exact g
  | ok ys ρ' =>
    rw [e] at g
    exact fun vs S' H' st' ex p => g (vx :: vs) S' H' st' ex (.cons (r.mono ex) p)
theorem ev_opN {ta : TA} {es : List E} {r : List V → Hp → VK → Prop} {f : List D → Option Rv} (hr : OpN K c r f) (ha : Ev K c ta (pL K) (args es)) : Ev K c (tCB r ta) (pV K c) (eN f es) :=
  ev_bind (u := fun σ x H Q => r x H Q) ha fun x vx ρ σ S H Q st rx g => by
    obtain ⟨z, e, g⟩ := goal_opt g
    exact hr ρ σ S H x vx z Q st rx e fun v S' H' st' ex p => g v S' H' st' ex p
/-- one argument -/
theorem ev_opN1 {ta : TE} {a : E} {r : List V → Hp → VK → Prop} {f : D → Option Rv} (hr : Op1 K c (fun v => r [v]) f) (ha : Ev K c ta (pV K c) a) : Ev K c (tCB r (tCons ta tNil)) (pV K c) (e1 f a) :=
  ev_bind (u := fun σ x H Q => r [x] H Q) (ev_val ha) fun x vx ρ σ S H Q st rx g => by
    obtain ⟨z, e, g⟩ := goal_opt g
    exact hr ρ σ S H x vx z Q st rx e fun v S' H' st' ex p => g v S' H' st' ex p
/-- displays -/
theorem ev_tup {ta : TA} {es : List E} (ha : Ev K c ta (pL K) (args es)) : Ev K c (tTup ta) (pV K c) (eTup es) :=
  ev_bind (u := fun σ (xs : List V) H (Q : VK) => xs.length ≤ sizeLine ∧ ∀ p, H p = none → Q (.ref p) (upd H p (.tup xs))) ha fun xs vs ρ σ S H Q st r g => by
    split at g
    · rename_i hl
      refine ⟨Evl.sz_of (by rw [Rs.length r]; exact hl), fun p hp => ?_⟩
      obtain ⟨st', ex⟩ := st.new (o := .tup vs) hp
      exact g (.ref p) _ _ st' ex (R.tup (SqT.of upd_same) (Rs.mono ex r))
    · exact g.elim
theorem ev_lst {ta : TA} {es : List E} (ha : Ev K c ta (pL K) (args es)) : Ev K c (tLst ta) (pV K c) (eLst es) :=
  ev_bind (u := fun σ (xs : List V) H (Q : VK) => xs.length ≤ sizeLine ∧ ∀ p, H p = none → Q (.ref p) (upd H p (.lst xs))) ha fun xs vs ρ σ S H Q st r g => by
    split at g
    · rename_i hl
      refine ⟨Evl.sz_of (by rw [Rs.length r]; exact hl), fun p hp => ?_⟩
      exact g (.ref p) S _ (st.newO hp) (Ex.refl _) ⟨p, (· = p), rfl, ⟨rfl, vs, upd_same, r⟩, st.loose hp⟩
    · exact g.elim
/-- ways -/
theorem ev_ifE {tt : TT} {ta tb : TE} {t : T} {a b : E} (ht : Ev K c tt pB t) (ha : Ev K c ta (pV K c) a) (hb : Ev K c tb (pV K c) b) : Ev K c (L2.tIf tt ta tb) (pV K c) (eIf t a b) :=
  ev_bind (u := fun σ k H Q => if k = true then ta σ H Q else tb σ H Q) ht fun k k' ρ σ S H Q st r g => by
    obtain rfl : k' = k := r
    cases k' with
    | true => exact ha ρ σ S H Q st g
    | false => exact hb ρ σ S H Q st g
theorem ev_and {ta tb : TT} {a b : T} (ha : Ev K c ta pB a) (hb : Ev K c tb pB b) : Ev K c (L2.tAnd ta tb) pB (tAnd a b) :=
  ev_bind (u := fun σ k H Q => if k = true then tb σ H Q else Q false H) ha fun k k' ρ σ S H Q st r g => by
    obtain rfl : k' = k := r
    cases k' with
    | true => exact hb ρ σ S H Q st g
    | false => exact g false S H st (Ex.refl _) rfl
theorem ev_or {ta tb : TT} {a b : T} (ha : Ev K c ta pB a) (hb : Ev K c tb pB b) : Ev K c (L2.tOr ta tb) pB (tOr a b) :=
  ev_bind (u := fun σ k H Q => if k = true then Q true H else tb σ H Q) ha fun k k' ρ σ S H Q st r g => by
    obtain rfl : k' = k := r
    cases k' with
    | true => exact g true S H st (Ex.refl _) rfl
    | false => exact hb ρ σ S H Q st g
theorem ev_not {ta : TT} {a : T} (ha : Ev K c ta pB a) : Ev K c (L2.tNot ta) pB (tNot a) :=
  ev_bind (u := fun σ k H Q => Q (!k) H) ha fun k k' ρ σ S H Q st r g => by
    obtain rfl : k' = k := r
    exact g (!k') S H st (Ex.refl _) rfl
/-- a test as a value -/
theorem ev_eT {tt : TT} {t : T} (h : Ev K c tt pB t) : Ev K c (fun σ H (Q : VK) => tt σ H fun k H1 => Q (.bl k) H1) (pV K c) (eT t) :=
  ev_bind (u := fun σ k H (Q : VK) => Q (.bl k) H) h fun k k' ρ σ S H Q st r g => by
    obtain rfl : k' = k := r
    exact g (.bl k') S H st (Ex.refl _) (R.bl k')
/-- a value that is True or False, as a test -/
theorem ev_tE {ta : TE} {a : E} (h : Ev K c ta (pV K c) a) : Ev K c (L2.tB ta) pB (tE a) :=
  ev_bind (u := fun σ x H Q => ∃ k, x = .bl k ∧ Q k H) (ev_val h) fun x vx ρ σ S H Q st r g => by
    obtain ⟨k, e, g⟩ := goal_opt g
    cases x with
    | bl b =>
      cases e
      cases r
      exact ⟨k, rfl, g k S H st (Ex.refl _) rfl⟩
    | _ => cases e
theorem Rs.isEmpty {H : Hp} {vs : List V} {ds : List D} (h : Rs K H vs ds) : vs.isEmpty = ds.isEmpty := by
  cases h <;> rfl
theorem ne0 {α : Type} (xs : List α) : (xs.length != 0) = !xs.isEmpty := by
  cases xs <;> rfl
theorem truD_of {H : Hp} {v : V} {d : D} {k : Bool} (r : R K H v d) (h : truth d = some k) : TruD K v H k := by
  cases r with
  | non =>
    cases h
    exact .inl rfl
  | bl b =>
    cases h
    exact .inl rfl
  | int i =>
    cases h
    exact .inl rfl
  | str x =>
    unfold truth at h
    simp only at h
    split at h
    · rename_i hl
      cases h
      exact .inl ⟨Evl.sz_of hl, rfl⟩
    · cases h
  | tup h1 h2 =>
    cases h
    exact .inl (.inr (.inl ⟨_, h1, by rw [h2.isEmpty]⟩))
  | lst h1 h2 =>
    cases h
    exact .inl (.inl ⟨_, SqL.of h1, by rw [h2.isEmpty]⟩)
  | @dic a kvs ds h1 h2 =>
    cases h
    exact .inr ⟨a, _, rfl, .inl ⟨kvs, h1, rfl⟩, by rw [ne0]; cases h2 <;> rfl⟩
  | @dicT a es ds h0 h1 h2 =>
    cases h
    exact .inr ⟨a, _, rfl, .inr ⟨es, ds, h1, h2, rfl⟩, by rw [ne0]; cases h2 <;> rfl⟩
  | scr h1 => cases h
  | obj => cases h
theorem ev_tTr {ta : TE} {a : E} (h : Ev K c ta (pV K c) a) : Ev K c (fun σ H Q => ta σ H fun x H' => ∃ k, TruD K x H' k ∧ Q k H') pB (tTr a) :=
  ev_bind (u := fun σ x H Q => ∃ k, TruD K x H k ∧ Q k H) (ev_val h) fun x vx ρ σ S H Q st r g => by
    obtain ⟨k, e, g⟩ := goal_opt g
    exact ⟨k, truD_of (r.mono st.subE) e, g k S H st (Ex.refl _) rfl⟩
theorem ev_tPk {i : Nat} : Ev K c (fun σ H Q => tVar i σ H fun x H' => ∃ k, TruD K x H' k ∧ Q k H') pB (tPk i) := fun ρ σ S H Q st g => by
  unfold tPk bind at g
  cases e : peek i ρ with
  | bad =>
    rw [e] at g
    exact g.elim
  | err er ρ' =>
    unfold peek at e
    split at e <;> cases e
  | ok d ρ' =>
    rw [e] at g
    obtain ⟨rfl, v, h1, h2⟩ := st.peek e
    obtain ⟨k, e2, g⟩ := goal_opt g
    exact ⟨v, h1, k, truD_of (st.whole h2) e2, g k S H st (Ex.refl _) rfl⟩
end
end Dn
set_option Elab.async false
set_option linter.all false
set_option maxRecDepth 100000
set_option maxHeartbeats 4000000
/-! Operations: the layer's rules by value give what the plain ones say. -/
namespace Dn
open PySem L2
section
variable {K : Fr} {c : Cxt}
theorem Op2.or1 {r r' : R2} {f : D → D → Option Rv} (p : D → D → Bool) (h : Op2 K c r (fun x y => if p x y then f x y else none)) (h' : Op2 K c r' (fun x y => if p x y then none else f x y)) : Op2 K c (fun x y H Q => r x y H Q ∨ r' x y H Q) f := by
  intro ρ σ S H x y vx vy z Q st rx ry e g
  by_cases q : p x y = true
  · exact .inl (h ρ σ S H x y vx vy z Q st rx ry (by simp only [q, if_true]; exact e) g)
  · exact .inr (h' ρ σ S H x y vx vy z Q st rx ry (by simp only [q]; exact e) g)
theorem keep_d {ρ : Env} {σ : L2.St} {S : Sh} {H : Hp} {d : D} {v : V} {Q : VK} (st : StR K c ρ σ S H) (g : ∀ v S' H', StR K c ρ σ S' H' → Ex S.h S'.h → RvR K c (.d d) S' H' v → Q v H') (r : R K S.h v d) : Q v H := g v S H st (Ex.refl _) r
/-- a new list that nobody knows -/
theorem new_o {ρ : Env} {σ : L2.St} {S : Sh} {H : Hp} {ds : List D} {vs : List V} {p : Addr} {Q : VK} (st : StR K c ρ σ S H) (g : ∀ v S' H', StR K c ρ σ S' H' → Ex S.h S'.h → RvR K c (.o (.lst ds)) S' H' v → Q v H') (r : Rs K S.h vs ds) (hp : H p = none) : Q (.ref p) (upd H p (.lst vs)) := by
  exact g (.ref p) S _ (st.newO hp) (Ex.refl _) ⟨p, (· = p), rfl, ⟨rfl, vs, upd_same, r⟩, st.loose hp⟩
theorem new_oD {ρ : Env} {σ : L2.St} {S : Sh} {H : Hp} {ds : List (D × D)} {kvs : List (Key × V)} {p : Addr} {Q : VK} (st : StR K c ρ σ S H) (g : ∀ v S' H', StR K c ρ σ S' H' → Ex S.h S'.h → RvR K c (.o (.dic ds)) S' H' v → Q v H') (r : Rk K S.h kvs ds) (hp : H p = none) : Q (.ref p) (upd H p (.dK kvs)) := by
  exact g (.ref p) S _ (st.newO hp) (Ex.refl _) ⟨p, (· = p), rfl, ⟨rfl, .inl ⟨kvs, upd_same, r⟩⟩, st.loose hp⟩
theorem new_t {ρ : Env} {σ : L2.St} {S : Sh} {H : Hp} {ds : List D} {vs : List V} {p : Addr} {Q : VK} (st : StR K c ρ σ S H) (g : ∀ v S' H', StR K c ρ σ S' H' → Ex S.h S'.h → RvR K c (.d (.tup ds)) S' H' v → Q v H') (r : Rs K S.h vs ds) (hp : H p = none) : Q (.ref p) (upd H p (.tup vs)) := by
  obtain ⟨st', ex⟩ := st.new (o := .tup vs) hp
  exact g (.ref p) _ _ st' ex (R.tup (SqT.of upd_same) (Rs.mono ex r))

/-! ### + - * // % ** - -/
theorem o_int {g : Int → Int → Int} : Op2 K c (rI0 fun i j => .int (g i j)) (fun x y => match x, y with | .int a, .int b => some (.d (.int (g a b))) | _, _ => none) := by
  intro ρ σ S H x y vx vy z Q st rx ry e k
  cases rx <;> cases ry <;> first | cases e | skip
  exact ⟨_, _, rfl, rfl, keep_d st k (R.int _)⟩
def rAddAll (K : PySem.W.Frag) : R2 := fun x y H Q => (rI0 (fun i j => .int (i + j)) x y H Q ∨ (∃ i j, x = .str i ∧ y = .str j ∧ i.length + j.length ≤ sizeLine ∧ Q (.str (i ++ j)) H)) ∨ (rCatA K x y H Q ∨ rCat x y H Q)
theorem op_addAll {X : Cx} : OpR X (binaryOp .Add) (rAddAll X.K) := (op_add.or op_add_str).or (op_catA.or op_cat)
theorem o_add : Op2 K c (rAddAll K) oAdd := by
  intro ρ σ S H x y vx vy z Q st rx ry e k
  cases rx <;> cases ry <;> first | (simp only [oAdd] at e; cases e; done) | skip
  · simp only [oAdd, Option.some.injEq] at e
    subst e
    exact .inl (.inl ⟨_, _, rfl, rfl, keep_d st k (R.int _)⟩)
  · rename_i a b
    simp only [oAdd] at e
    split at e
    · cases e
      exact .inl (.inr ⟨_, _, rfl, rfl, Evl.sz_of (by assumption), keep_d st k (R.str _)⟩)
    · cases e
  · rename_i a xs ds h1 h2 b ys es h3 h4
    simp only [oAdd] at e
    split at e
    · rename_i hl
      cases e
      refine .inr (.inl ⟨a, b, xs, ys, rfl, rfl, ex_t st.subE h1, ex_t st.subE h3, Evl.sz_of (by rw [h2.length, h4.length]; exact hl), fun q => ?_, fun _ q => ?_, fun _ _ p hp => ?_⟩)
      · subst q
        cases h2
        exact keep_d st k (R.tup h3 h4)
      · subst q
        cases h4
        rw [List.append_nil] at k
        exact keep_d st k (R.tup h1 h2)
      · exact new_t st k (h2.append h4) hp
    · cases e
  · rename_i a xs ds h1 h2 b ys es h3 h4
    simp only [oAdd] at e
    split at e
    · rename_i hl
      cases e
      refine .inr (.inr ⟨a, b, xs, ys, rfl, rfl, st.sub _ _ h1, st.sub _ _ h3, Evl.sz_of (by rw [h2.length, h4.length]; exact hl), fun p hp => ?_⟩)
      exact new_o st k (h2.append h4) hp
    · cases e
theorem o_sub : Op2 K c (rI0 fun i j => .int (i - j)) oSub := by
  intro ρ σ S H x y vx vy z Q st rx ry e k
  cases rx <;> cases ry <;> first | (simp only [oSub] at e; cases e; done) | skip
  simp only [oSub, Option.some.injEq] at e
  subst e
  exact ⟨_, _, rfl, rfl, keep_d st k (R.int _)⟩
theorem Rs.rep {H : Hp} {vs : List V} {ds : List D} (h : Rs K H vs ds) : ∀ n : Nat, Rs K H (List.replicate n vs).flatten (List.replicate n ds).flatten
  | 0 => .nil
  | n + 1 => by
    rw [List.replicate_succ, List.replicate_succ, List.flatten_cons, List.flatten_cons]
    exact h.append (Rs.rep h n)
def rMulAll : R2 := fun x y H Q => rI CMul (fun i j => .int (i * j)) x y H Q ∨ rRep x y H Q
theorem op_mulAll {X : Cx} : OpR X (binaryOp .Mult) rMulAll := op_mul.or op_rep
theorem o_mul : Op2 K c rMulAll oMul := by
  intro ρ σ S H x y vx vy z Q st rx ry e k
  cases rx <;> cases ry <;> first | (simp only [oMul] at e; cases e; done) | skip
  · simp only [oMul] at e
    split at e
    · rename_i hc
      cases e
      refine .inl ⟨_, _, rfl, rfl, ?_, keep_d st k (R.int _)⟩
      simp only [mulOk, Bool.or_eq_true, Bool.and_eq_true, decide_eq_true_eq] at hc
      exact hc
    · cases e
  · rename_i a xs ds h1 h2 n
    simp only [oMul] at e
    split at e
    · rename_i hc
      cases e
      refine .inr ⟨a, n, xs, rfl, rfl, st.sub _ _ h1, by omega, by omega, Evl.sz_of (by rw [h2.length]; exact hc.2.2), fun p hp => ?_⟩
      exact new_o st k (h2.rep _) hp
    · cases e
theorem o_div : Op2 K c (rI CDiv fun i j => .int (i / j)) oDiv := by
  intro ρ σ S H x y vx vy z Q st rx ry e k
  cases rx <;> cases ry <;> first | (simp only [oDiv] at e; cases e; done) | skip
  simp only [oDiv] at e
  split at e
  · rename_i hc
    cases e
    exact ⟨_, _, rfl, rfl, hc, keep_d st k (R.int _)⟩
  · cases e
theorem o_mod : Op2 K c (rI (fun _ j => 0 < j) fun i j => .int (i % j)) oMod := by
  intro ρ σ S H x y vx vy z Q st rx ry e k
  cases rx <;> cases ry <;> first | (simp only [oMod] at e; cases e; done) | skip
  simp only [oMod] at e
  split at e
  · rename_i hc
    cases e
    exact ⟨_, _, rfl, rfl, hc, keep_d st k (R.int _)⟩
  · cases e
theorem o_pow : Op2 K c (rI CPow fun i j => .int (i ^ j.toNat)) oPow := by
  intro ρ σ S H x y vx vy z Q st rx ry e k
  cases rx <;> cases ry <;> first | (simp only [oPow] at e; cases e; done) | skip
  simp only [oPow] at e
  split at e
  · rename_i hc
    cases e
    exact ⟨_, _, rfl, rfl, hc, keep_d st k (R.int _)⟩
  · cases e
theorem o_neg : Op1 K c (rU fun i => .int (-i)) oNeg := by
  intro ρ σ S H x vx z Q st rx e k
  cases rx <;> first | (simp only [oNeg] at e; cases e; done) | skip
  simp only [oNeg, Option.some.injEq] at e
  subst e
  exact ⟨_, rfl, keep_d st k (R.int _)⟩

/-! ### == and order -/
mutual
theorem ok_lay : ∀ (n : Nat) (d : D), okD n d = true → PyData.canLay0 d.toP = true ∧ PyData.depth d.toP ≤ n
  | n, .non, h => by simp [D.toP, PyData.canLay0, PyData.depth]
  | n, .bl _, h => by simp [D.toP, PyData.canLay0, PyData.depth]
  | n, .int _, h => by simp [D.toP, PyData.canLay0, PyData.depth]
  | n, .str x, h => by
    have h' : (x.cps.all fun n => decide (n < 1114112)) = true := by cases n <;> simpa only [okD] using h
    refine ⟨?_, by simp [D.toP, PyData.depth]⟩
    simp only [D.toP, PyData.canLay0]
    exact h'
  | n + 1, .tup xs, h => by
    simp only [okD] at h
    obtain ⟨a, b⟩ := oks_lay n xs h
    simp only [D.toP, PyData.canLay0, PyData.depth]
    exact ⟨a, by omega⟩
  | n + 1, .lst xs, h => by
    simp only [okD] at h
    obtain ⟨a, b⟩ := oks_lay n xs h
    simp only [D.toP, PyData.canLay0, PyData.depth]
    exact ⟨a, by omega⟩
  | 0, .tup _, h => by simp [okD] at h
  | 0, .lst _, h => by simp [okD] at h
  | n, .dic _, h => by cases n <;> simp [okD] at h
  | n, .scr _, h => by cases n <;> simp [okD] at h
theorem oks_lay : ∀ (n : Nat) (ds : List D), okDs n ds = true → PyData.canLayAll0 (toPs ds) = true ∧ PyData.depthAll (toPs ds) ≤ n
  | n, [], h => by simp [toPs, PyData.canLayAll0, PyData.depthAll]
  | n, d :: ds, h => by
    simp only [okDs, Bool.and_eq_true] at h
    obtain ⟨a, b⟩ := ok_lay n d h.1
    obtain ⟨a', b'⟩ := oks_lay n ds h.2
    simp only [toPs, PyData.canLayAll0, PyData.depthAll, a, a', Bool.and_self]
    exact ⟨trivial, by omega⟩
end
theorem ok_shaped {d : D} (h : d.ok = true) : SeqAt.shaped d.toP = true := by
  obtain ⟨a, b⟩ := ok_lay 30 d h
  show (PyData.canLay0 d.toP && decide (PyData.depth d.toP ≤ 64)) = true
  rw [a, decide_eq_true (by omega), Bool.and_self]
mutual
theorem R.dp {H : Hp} : ∀ (n : Nat) {d : D} {v : V}, R K H v d → okD n d = true → Dp K H v d.toP
  | _, .non, _, h, _ => by cases h; simp only [D.toP]; exact .non
  | _, .bl b, _, h, _ => by cases h; simp only [D.toP]; exact .bl b
  | _, .int b, _, h, _ => by cases h; simp only [D.toP]; exact .int b
  | _, .str b, _, h, _ => by cases h; simp only [D.toP]; exact .str b
  | n + 1, .tup ds, _, h, q => by
    simp only [okD] at q
    cases h with
    | tup h1 h2 =>
      simp only [D.toP]
      exact .tup h1 (Rs.dp n h2 q)
  | n + 1, .lst ds, _, h, q => by
    simp only [okD] at q
    cases h with
    | lst h1 h2 =>
      simp only [D.toP]
      exact .lst (SqL.of h1) (Rs.dp n h2 q)
  | 0, .tup _, _, _, q => by simp [okD] at q
  | 0, .lst _, _, _, q => by simp [okD] at q
  | n, .dic _, _, _, q => by cases n <;> simp [okD] at q
  | n, .scr _, _, _, q => by cases n <;> simp [okD] at q
theorem Rs.dp {H : Hp} : ∀ (n : Nat) {ds : List D} {vs : List V}, Rs K H vs ds → okDs n ds = true → DpAll K H vs (toPs ds)
  | _, [], _, h, _ => by cases h; simp only [toPs]; exact .nil
  | n, d :: ds, _, h, q => by
    simp only [okDs, Bool.and_eq_true] at q
    cases h with
    | cons h1 h2 =>
      simp only [toPs]
      exact .cons (R.dp n h1 q.1) (Rs.dp n h2 q.2)
end
theorem o_eq : Cp2 K c (rEqD K) oEq := by
  intro ρ σ S H x y vx vy k Q st rx ry e q
  unfold oEq at e
  split at e
  · rename_i h
    rw [Bool.and_eq_true] at h
    cases e
    exact ⟨_, _, R.dp 30 (rx.mono st.subE) h.1, R.dp 30 (ry.mono st.subE) h.2, ok_shaped h.1, ok_shaped h.2, q⟩
  · cases e
theorem o_ne : Cp2 K c (rNeD K) oNe := by
  intro ρ σ S H x y vx vy k Q st rx ry e q
  unfold oNe at e
  split at e
  · rename_i h
    rw [Bool.and_eq_true] at h
    cases e
    exact ⟨_, _, R.dp 30 (rx.mono st.subE) h.1, R.dp 30 (ry.mono st.subE) h.2, ok_shaped h.1, ok_shaped h.2, q⟩
  · cases e
def rLtAll : R2 := fun x y H Q => rI0 (fun i j => .bl (decide (i < j))) x y H Q ∨ ∃ i j, x = .str i ∧ y = .str j ∧ Q (.bl (decide (i.cps.toList < j.cps.toList))) H
theorem op_ltAll {X : Cx} : OpR X (compareOp .Lt) rLtAll := op_lt.or op_lt_str
theorem o_lt : Cp2 K c rLtAll oLt := by
  intro ρ σ S H x y vx vy k Q st rx ry e q
  cases rx <;> cases ry <;> first | (simp only [oLt] at e; cases e; done) | skip
  · cases e
    exact .inl ⟨_, _, rfl, rfl, q⟩
  · cases e
    exact .inr ⟨_, _, rfl, rfl, q⟩
theorem o_le : Cp2 K c (rI0 fun i j => .bl (decide (i ≤ j))) oLe := by
  intro ρ σ S H x y vx vy k Q st rx ry e q
  cases rx <;> cases ry <;> first | (simp only [oLe] at e; cases e; done) | skip
  cases e
  exact ⟨_, _, rfl, rfl, q⟩
theorem o_gt : Cp2 K c (rI0 fun i j => .bl (decide (j < i))) oGt := by
  intro ρ σ S H x y vx vy k Q st rx ry e q
  cases rx <;> cases ry <;> first | (simp only [oGt] at e; cases e; done) | skip
  cases e
  exact ⟨_, _, rfl, rfl, q⟩
theorem o_ge : Cp2 K c (rI0 fun i j => .bl (decide (j ≤ i))) oGe := by
  intro ρ σ S H x y vx vy k Q st rx ry e q
  cases rx <;> cases ry <;> first | (simp only [oGe] at e; cases e; done) | skip
  cases e
  exact ⟨_, _, rfl, rfl, q⟩
theorem isNon_of {H : Hp} {v : V} {d : D} (r : R K H v d) : decide (v = .non) = isNon d := by
  cases r <;> simp [isNon]
end

/-! ### subscripts -/
section
variable {K : Fr} {c : Cxt}
theorem ixAt_eq (n : Nat) (i : Int) : ixAt n i = ixN n i := rfl
theorem Rs.at {H : Hp} {vs : List V} {ds : List D} {i : Int} {d : D} (h : Rs K H vs ds) (e : dAt ds i = some d) : ∃ v, atI vs i = some v ∧ R K H v d := by
  unfold dAt at e
  unfold atI
  rw [h.length, ← ixAt_eq]
  cases q : ixAt ds.length i with
  | none =>
    rw [q] at e
    cases e
  | some j =>
    rw [q] at e
    obtain ⟨v, h1, h2⟩ := h.get (j := j) e
    exact ⟨v, h1, h2⟩
theorem o_ix : Op2 K c (rIx K) oIx := by
  intro ρ σ S H x y vx vy z Q st rx ry e k
  cases ry with
  | int i =>
    cases rx with
    | tup h1 h2 =>
      simp only [oIx, Option.map_eq_some_iff] at e
      obtain ⟨d, e1, rfl⟩ := e
      obtain ⟨v, a1, a2⟩ := h2.at e1
      exact .inr (.inl ⟨_, _, _, v, rfl, rfl, ex_t st.subE h1, a1, keep_d st k a2⟩)
    | lst h1 h2 =>
      simp only [oIx, Option.map_eq_some_iff] at e
      obtain ⟨d, e1, rfl⟩ := e
      obtain ⟨v, a1, a2⟩ := h2.at e1
      exact .inl ⟨_, _, _, v, rfl, rfl, SqL.of (st.sub _ _ h1), a1, keep_d st k a2⟩
    | str s =>
      simp only [oIx] at e
      split at e
      · rename_i hl
        rw [Option.map_eq_some_iff] at e
        obtain ⟨d, e1, rfl⟩ := e
        exact .inr (.inr ⟨_, _, d, rfl, rfl, Evl.sz_of hl, e1, keep_d st k (R.str _)⟩)
      · cases e
    | _ => simp only [oIx] at e; cases e
  | _ => cases rx <;> (simp only [oIx] at e; cases e)
/-- keys -/
def keyD : D → Option Key
  | .int i => some (.inl i)
  | .str x => some (.inr x)
  | _ => none
theorem key_of {H : Hp} {v : V} {d : D} (r : R K H v d) (h : isKey d = true) : ∃ k, d = kD k ∧ v = kV k := by
  cases r <;> first | (simp [isKey] at h; done) | skip
  · exact ⟨.inl _, rfl, rfl⟩
  · exact ⟨.inr _, rfl, rfl⟩
theorem kD_eqv (k j : Key) : (kD k).eqv (kD j) = decide (k = j) := by
  cases k with
  | inl a =>
    cases j with
    | inl b =>
      show (a == b) = _
      exact (key_ll a b).symm
    | inr b => exact (key_lr a b).symm
  | inr a =>
    cases j with
    | inl b => exact (key_rl a b).symm
    | inr b =>
      show (a == b) = _
      rw [key_rr]
      rfl
theorem Rk.get {H : Hp} (k : Key) : ∀ {ds : List (D × D)} {kvs : List (Key × V)}, Rk K H kvs ds → (valV kvs k = none ∧ dGet ds (kD k) = none) ∨ ∃ v d, valV kvs k = some v ∧ dGet ds (kD k) = some d ∧ R K H v d
  | [], _, h => by
    cases h
    exact .inl ⟨rfl, rfl⟩
  | (_, d) :: ds, _, h => by
    cases h with
    | @cons j v _ kvs _ h1 h2 =>
      by_cases e : j = k
      · refine .inr ⟨v, d, valV_pos e, ?_, h1⟩
        unfold dGet
        rw [List.find?_cons]
        simp only [kD_eqv, e, decide_true, Option.map_some]
      · have q := Rk.get k h2
        rw [valV_neg (p := (j, v)) e]
        have e' : dGet ((kD j, d) :: ds) (kD k) = dGet ds (kD k) := by
          unfold dGet
          rw [List.find?_cons]
          simp only [kD_eqv, e, decide_false]
        rw [e']
        exact q
theorem Rk.has {H : Hp} (k : Key) : ∀ {ds : List (D × D)} {kvs : List (Key × V)}, Rk K H kvs ds → (kvs.any fun p => decide (p.1 = k)) = dHas ds (kD k)
  | [], _, h => by
    cases h
    rfl
  | (_, d) :: ds, _, h => by
    cases h with
    | @cons j v _ kvs _ h1 h2 =>
      have q := Rk.has k h2
      unfold dHas at q ⊢
      simp only [List.any_cons, kD_eqv, q]
theorem Rk.repl {H : Hp} (k : Key) {v : V} {d : D} (r : R K H v d) : ∀ {ds : List (D × D)} {kvs : List (Key × V)}, Rk K H kvs ds → Rk K H (kvs.map fun p => if p.1 = k then (p.1, v) else p) (ds.map fun p => if p.1.eqv (kD k) then (p.1, d) else p)
  | [], _, h => by
    cases h
    exact .nil
  | (_, x) :: ds, _, h => by
    cases h with
    | @cons j u _ kvs _ h1 h2 =>
      have q := Rk.repl k r h2
      simp only [List.map_cons, kD_eqv, decide_eq_true_eq]
      by_cases e : j = k
      · simp only [e, if_true]
        exact .cons r q
      · simp only [e, if_false]
        exact .cons h1 q
theorem Rk.snoc {H : Hp} (k : Key) {v : V} {d : D} (r : R K H v d) : ∀ {ds : List (D × D)} {kvs : List (Key × V)}, Rk K H kvs ds → Rk K H (kvs ++ [(k, v)]) (ds ++ [(kD k, d)])
  | [], _, h => by
    cases h
    exact .cons r .nil
  | (_, x) :: ds, _, h => by
    cases h with
    | cons h1 h2 => exact .cons h1 (Rk.snoc k r h2)
theorem Rk.put {H : Hp} {ds : List (D × D)} {kvs : List (Key × V)} (h : Rk K H kvs ds) (k : Key) {v : V} {d : D} (r : R K H v d) : Rk K H (putK kvs k v) (dPut ds (kD k) d) := by
  unfold putK dPut
  rw [h.has k]
  split
  · exact h.repl k r
  · exact h.snoc k r
theorem Rk.merge {H : Hp} : ∀ {es : List (D × D)} {more : List (Key × V)} {ds : List (D × D)} {kvs : List (Key × V)}, Rk K H more es → Rk K H kvs ds → Rk K H (mergeK kvs more) (merge ds es)
  | [], _, _, _, h, g => by
    cases h
    exact g
  | (_, x) :: es, _, _, _, h, g => by
    cases h with
    | @cons j u _ kvs _ h1 h2 =>
      show Rk K H (mergeK (putK _ j u) kvs) (Dn.merge (dPut _ (kD j) x) es)
      exact Rk.merge h2 (g.put j h1)

/-! ### built-ins of one value -/
theorem o_len {r : List V → Hp → VK → Prop} (hr : r = fun xs H Q => (∃ x n, xs = [x] ∧ LenV K x H n ∧ Q (.int n) H) ∨ ∃ a n, xs = [V.ref a] ∧ DLen K H a n ∧ Q (.int ((n : Nat) : Int)) H) : Op1 K c (fun v => r [v]) oLen := by
  subst hr
  intro ρ σ S H x vx z Q st rx e k
  cases rx <;> first | (simp only [oLen] at e; cases e; done) | skip
  · simp only [oLen] at e
    split at e
    · rename_i hl
      cases e
      exact .inl ⟨_, _, rfl, ⟨Evl.sz_of hl, rfl⟩, keep_d st k (R.int _)⟩
    · cases e
  · rename_i h1 h2
    simp only [oLen, Option.some.injEq] at e
    subst e
    exact .inl ⟨_, _, rfl, .inr ⟨_, ex_t st.subE h1, rfl⟩, keep_d st k (by rw [h2.length]; exact R.int _)⟩
  · rename_i h1 h2
    simp only [oLen, Option.some.injEq] at e
    subst e
    exact .inl ⟨_, _, rfl, .inl ⟨_, SqL.of (st.sub _ _ h1), rfl⟩, keep_d st k (by rw [h2.length]; exact R.int _)⟩
  · rename_i h1 h2
    simp only [oLen, Option.some.injEq] at e
    subst e
    exact .inr ⟨_, _, rfl, .inl ⟨_, st.subE.rd h1, rfl⟩, keep_d st k (by rw [h2.length]; exact R.int _)⟩
  · rename_i h0 h1 h2
    simp only [oLen, Option.some.injEq] at e
    subst e
    exact .inr ⟨_, _, rfl, .inr ⟨_, _, st.subE.rd h1, h2.mono st.subE, rfl⟩, keep_d st k (by rw [h2.length]; exact R.int _)⟩
theorem o_abs : Op1 K c (fun v => (fun xs H (Q : VK) => ∃ i, xs = [V.int i] ∧ Q (.int (if i < 0 then -i else i)) H) [v]) oAbs := by
  intro ρ σ S H x vx z Q st rx e k
  cases rx <;> first | (simp only [oAbs] at e; cases e; done) | skip
  simp only [oAbs, Option.some.injEq] at e
  subst e
  exact ⟨_, rfl, keep_d st k (R.int _)⟩
theorem o_intc : Op1 K c (fun v => (fun xs H (Q : VK) => (∃ i, xs = [V.int i] ∧ Q (.int i) H) ∨ ∃ k, xs = [V.bl k] ∧ Q (.int (if k then 1 else 0)) H) [v]) oInt := by
  intro ρ σ S H x vx z Q st rx e k
  cases rx <;> first | (simp only [oInt] at e; cases e; done) | skip
  · simp only [oInt, Option.some.injEq] at e
    subst e
    exact .inr ⟨_, rfl, keep_d st k (R.int _)⟩
  · simp only [oInt, Option.some.injEq] at e
    subst e
    exact .inl ⟨_, rfl, keep_d st k (R.int _)⟩
theorem Rs.bls {H : Hp} : ∀ {ds : List D} {vs : List V} {bs : List Bool}, Rs K H vs ds → asBs ds = some bs → vs = bs.map V.bl
  | [], _, _, h, e => by
    cases h
    cases e
    rfl
  | d :: ds, _, bs, h, e => by
    cases h with
    | cons h1 h2 =>
      cases h1 <;> first | (simp only [asBs] at e; cases e; done) | skip
      simp only [asBs, Option.map_eq_some_iff] at e
      obtain ⟨r, e1, rfl⟩ := e
      rw [Rs.bls h2 e1]
      rfl
theorem Rs.isof {H : Hp} : ∀ {ds : List D} {vs : List V} {bs : List Int}, Rs K H vs ds → asIs ds = some bs → vs = bs.map V.int
  | [], _, _, h, e => by
    cases h
    cases e
    rfl
  | d :: ds, _, bs, h, e => by
    cases h with
    | cons h1 h2 =>
      cases h1 <;> first | (simp only [asIs] at e; cases e; done) | skip
      simp only [asIs, Option.map_eq_some_iff] at e
      obtain ⟨r, e1, rfl⟩ := e
      rw [Rs.isof h2 e1]
      rfl
theorem o_all : Op1 K c (fun v => rAll K [v]) oAll := by
  intro ρ σ S H x vx z Q st rx e k
  cases rx <;> first | (simp only [oAll] at e; cases e; done) | skip
  rename_i h1 h2
  simp only [oAll, Option.map_eq_some_iff] at e
  obtain ⟨bs, e1, rfl⟩ := e
  exact ⟨_, bs, rfl, SqL.of (by rw [← h2.bls e1]; exact st.sub _ _ h1), keep_d st k (R.bl _)⟩
theorem o_any : Op1 K c (fun v => rAny K [v]) oAny := by
  intro ρ σ S H x vx z Q st rx e k
  cases rx <;> first | (simp only [oAny] at e; cases e; done) | skip
  rename_i h1 h2
  simp only [oAny, Option.map_eq_some_iff] at e
  obtain ⟨bs, e1, rfl⟩ := e
  exact ⟨_, bs, rfl, SqL.of (by rw [← h2.bls e1]; exact st.sub _ _ h1), keep_d st k (R.bl _)⟩
theorem o_sum : Op1 K c (fun v => rSum K [v]) oSum := by
  intro ρ σ S H x vx z Q st rx e k
  cases rx <;> first | (simp only [oSum] at e; cases e; done) | skip
  rename_i h1 h2
  simp only [oSum, Option.map_eq_some_iff] at e
  obtain ⟨bs, e1, rfl⟩ := e
  exact ⟨_, bs, rfl, SqL.of (by rw [← h2.isof e1]; exact st.sub _ _ h1), keep_d st k (R.int _)⟩
theorem SqL.of_scr {H : Hp} {a : Addr} {ns : List Int} (h : SqL K H a (ns.map V.int)) : Rs K H (ns.map V.int) (ns.map D.int) := Rs.ints ns
theorem o_list : Op1 K c (fun v => (fun xs H (Q : VK) => ∃ p ys, xs = [V.ref p] ∧ (SqL K H p ys ∨ SqT K H p ys) ∧ ∀ l, H l = none → Q (.ref l) (upd H l (.lst ys))) [v]) oList := by
  intro ρ σ S H x vx z Q st rx e k
  cases rx <;> first | (simp only [oList] at e; cases e; done) | skip
  · rename_i h1 h2
    simp only [oList, Option.some.injEq] at e
    subst e
    exact ⟨_, _, rfl, .inr (ex_t st.subE h1), fun p hp => new_o st k h2 hp⟩
  · rename_i h1 h2
    simp only [oList, Option.some.injEq] at e
    subst e
    exact ⟨_, _, rfl, .inl (SqL.of (st.sub _ _ h1)), fun p hp => new_o st k h2 hp⟩
  · rename_i h1
    simp only [oList, Option.some.injEq] at e
    subst e
    exact ⟨_, _, rfl, .inl (ex_l st.subE h1), fun p hp => new_o st k (Rs.ints _) hp⟩
theorem o_tuple : Op1 K c (fun v => (fun xs H (Q : VK) => ∃ p ys, xs = [V.ref p] ∧ ((SqL K H p ys ∧ ∀ l, H l = none → Q (.ref l) (upd H l (.tup ys))) ∨ (SqT K H p ys ∧ Q (.ref p) H))) [v]) oTuple := by
  intro ρ σ S H x vx z Q st rx e k
  cases rx <;> first | (simp only [oTuple] at e; cases e; done) | skip
  · rename_i h1 h2
    simp only [oTuple, Option.some.injEq] at e
    subst e
    exact ⟨_, _, rfl, .inr ⟨ex_t st.subE h1, keep_d st k (R.tup h1 h2)⟩⟩
  · rename_i h1 h2
    simp only [oTuple, Option.some.injEq] at e
    subst e
    exact ⟨_, _, rfl, .inl ⟨SqL.of (st.sub _ _ h1), fun p hp => new_t st k h2 hp⟩⟩
/-! ### isinstance -/
theorem ty_of {H : Hp} {v : V} {d : D} (r : R K H v d) (hn : noTy d = false) : TyX K H v (.type d.ty) := by
  cases r with
  | non => exact .base .non
  | bl b => exact .base (.bl b)
  | int i => exact .base (.int i)
  | str x => exact .base (.str x)
  | tup h1 h2 =>
    rcases h1 with (h | ⟨o, h⟩) | ⟨o, its, n, h, hc, _⟩
    · exact .base (.tup h)
    · exact .fTuple h
    · exact .kTuple h hc
  | lst h1 h2 => exact .base (.lst h1)
  | dic h1 h2 => cases hn
  | dicT h0 h1 h2 => cases hn
  | obj => cases hn
  | scr h1 =>
    rcases h1 with (h | ⟨o, h⟩) | ⟨o, its, n, h, hc, _⟩
    · exact .base (.lst h)
    · exact .base (.frz h)
    · exact .kList h hc
theorem kit_all {t : String} (h : (["NoneType", "bool", "int", "str", "tuple", "list", "dict", "object"].all fun s => decide (kitB s t = some (isiT s t))) = true) (d : D) : kitB d.ty t = some (isiT d.ty t) :=
  of_decide_eq_true (List.all_eq_true.mp h d.ty (by cases d <;> simp [D.ty]))
theorem kit_int (d : D) : kitB d.ty "int" = some (isiT d.ty "int") := kit_all (by decide +kernel) d
theorem kit_bool (d : D) : kitB d.ty "bool" = some (isiT d.ty "bool") := kit_all (by decide +kernel) d
theorem kit_str (d : D) : kitB d.ty "str" = some (isiT d.ty "str") := kit_all (by decide +kernel) d
theorem kit_tuple (d : D) : kitB d.ty "tuple" = some (isiT d.ty "tuple") := kit_all (by decide +kernel) d
theorem kit_list (d : D) : kitB d.ty "list" = some (isiT d.ty "list") := kit_all (by decide +kernel) d
theorem kit_dict (d : D) : kitB d.ty "dict" = some (isiT d.ty "dict") := kit_all (by decide +kernel) d
theorem o_isi {t : String} (hk : ∀ d : D, kitB d.ty t = some (isiT d.ty t)) : Op1 K c (fun v H Q => tCons (tC (.ty t)) tNil [] H fun vs H' => rIsi K (v :: vs) H' Q) (oIsi t) := by
  intro ρ σ S H x vx z Q st rx e k
  simp only [oIsi] at e
  split at e
  · cases e
  · rename_i hn
    cases e
    exact ⟨vx, .ty t, _, _, _, rfl, .ty t, ty_of (rx.mono st.subE) (by simpa using hn), kit_ty (hk x), keep_d st k (R.bl _)⟩
theorem Rs.pairs {H : Hp} : ∀ {ds : List D} {vs : List V} {ps : List (D × D)}, Rs K H vs ds → asPairs ds = some ps → ∃ (as : List Addr) (kvs : List (Key × V)), vs = as.map V.ref ∧ Paired (fun p kv => SqT K H p [kV kv.1, kv.2]) as kvs ∧ Rk K H kvs ps
  | [], _, _, h, e => by
    cases h
    cases e
    exact ⟨[], [], rfl, .nil, .nil⟩
  | d :: ds, _, ps, h, e => by
    cases h with
    | cons h1 h2 =>
      cases h1 with
      | @tup a xs es q1 q2 =>
        match es, e, q2 with
        | [], e, _ => simp only [asPairs] at e; cases e
        | [_], e, _ => simp only [asPairs] at e; cases e
        | _ :: _ :: _ :: _, e, _ => simp only [asPairs] at e; cases e
        | [dk, dv], e, q2 =>
          simp only [asPairs] at e
          split at e
          · rename_i hk
            rw [Option.map_eq_some_iff] at e
            obtain ⟨r, e1, rfl⟩ := e
            cases q2 with
            | cons g1 g2 =>
              cases g2 with
              | cons g3 g4 =>
                cases g4
                obtain ⟨j, rfl, rfl⟩ := key_of g1 hk
                obtain ⟨as, kvs, rfl, p1, p2⟩ := Rs.pairs h2 e1
                exact ⟨a :: as, (j, _) :: kvs, rfl, .cons q1 p1, .cons g3 p2⟩
          · cases e
      | _ => simp only [asPairs] at e; cases e
theorem paired_mono {H H' : Hp} (e : Ex H H') : ∀ {as : List Addr} {kvs : List (Key × V)}, Paired (fun p (kv : Key × V) => SqT K H p [kV kv.1, kv.2]) as kvs → Paired (fun p (kv : Key × V) => SqT K H' p [kV kv.1, kv.2]) as kvs
  | _, _, .nil => .nil
  | _, _, .cons h t => .cons (ex_t e h) (paired_mono e t)
theorem o_dictP : Op1 K c (fun v => (fun xs H (Q : VK) => ∃ (a : Addr) (ps : List Addr) (kvs : List (Key × V)), xs = [V.ref a] ∧ SqL K H a (ps.map V.ref) ∧ Paired (fun p kv => SqT K H p [kV kv.1, kv.2]) ps kvs ∧ ∀ p, H p = none → Q (.ref p) (upd H p (.dK (mergeK [] kvs)))) [v]) oDictP := by
  intro ρ σ S H x vx z Q st rx e k
  cases rx <;> first | (simp only [oDictP] at e; cases e; done) | skip
  rename_i h1 h2
  simp only [oDictP, Option.map_eq_some_iff] at e
  obtain ⟨ps, e1, rfl⟩ := e
  obtain ⟨as, kvs, rfl, p1, p2⟩ := h2.pairs e1
  exact ⟨_, as, kvs, rfl, SqL.of (st.sub _ _ h1), paired_mono st.subE p1, fun p hp => new_oD st k (Rk.merge p2 .nil) hp⟩
end
end Dn
set_option Elab.async false
set_option linter.all false
set_option maxRecDepth 100000
set_option maxHeartbeats 4000000
/-! Statements, loops, comprehensions, defs and their calls. -/
namespace Dn
open PySem L2
section
variable {K : Fr} {c : Cxt}
def GoalS (K : Fr) (c : Cxt) (S : Sh) (f : Fl) (D : Ends) : Prop := match f with
  | .bad => False
  | .err e ρ' => ∀ cls od σ' S' H', StR K c ρ' σ' S' H' → Ex S.h S'.h → ErrR K S'.h e cls od → c.E cls od σ' H'
  | .nx ρ' => ∀ σ' S' H', StR K c ρ' σ' S' H' → Ex S.h S'.h → D.nx σ' H'
  | .rt r ρ' => ∀ v σ' S' H', StR K c ρ' σ' S' H' → Ex S.h S'.h → RvR K c r S' H' v → D.rt v H'
  | .bk ρ' => ∀ σ' S' H', StR K c ρ' σ' S' H' → Ex S.h S'.h → D.bk σ' H'
  | .ct ρ' => ∀ σ' S' H', StR K c ρ' σ' S' H' → Ex S.h S'.h → D.ct σ' H'
theorem GoalS.mono {S S1 : Sh} {f : Fl} {D : Ends} (e : Ex S.h S1.h) (g : GoalS K c S f D) : GoalS K c S1 f D := by
  cases f with
  | bad => exact g
  | err er ρ' => exact fun cls od σ' S' H' st ex => g cls od σ' S' H' st (e.trans ex)
  | nx ρ' => exact fun σ' S' H' st ex => g σ' S' H' st (e.trans ex)
  | rt r ρ' => exact fun v σ' S' H' st ex => g v σ' S' H' st (e.trans ex)
  | bk ρ' => exact fun σ' S' H' st ex => g σ' S' H' st (e.trans ex)
  | ct ρ' => exact fun σ' S' H' st ex => g σ' S' H' st (e.trans ex)
def EvS (K : Fr) (c : Cxt) (t : TS) (s : S) : Prop := ∀ ρ σ S H D, StR K c ρ σ S H → GoalS K c S (s ρ) D → t D σ H
def tsOf (K : Fr) (c : Cxt) (s : S) : TS := fun D σ H => ∃ ρ S, StR K c ρ σ S H ∧ GoalS K c S (s ρ) D
theorem evs_self {s : S} : EvS K c (tsOf K c s) s := fun ρ σ S H D st g => ⟨ρ, S, st, g⟩
theorem evs_run {α β : Type} {t : L2.St → Hp → (β → Hp → Prop) → Prop} {P : L2.St → α → Sh → Hp → β → Prop} {m : M α} {u : L2.St → β → Ends → Hp → Prop} {k : α → Env → Fl} (h : Ev K c t P m)
    (h2 : ∀ a b ρ σ S H D, StR K c ρ σ S H → P σ a S H b → GoalS K c S (k a ρ) D → u σ b D H) : EvS K c (fun D σ H => t σ H fun b H1 => u σ b D H1) (runM m k) := by
  intro ρ σ S H D st g
  refine h ρ σ S H _ st ?_
  unfold runM at g
  cases e : m ρ with
  | bad =>
    rw [e] at g
    exact g
  | err er ρ' =>
    rw [e] at g
    exact fun cls od S' H' st' ex er => g cls od σ S' H' st' ex er
  | ok a ρ' =>
    rw [e] at g
    exact fun b S' H' st' ex p => h2 a b ρ' σ S' H' D st' p (GoalS.mono ex g)
theorem evs_seq {t u : TS} {a b : S} (ha : EvS K c t a) (hb : EvS K c u b) : EvS K c (tSeq t u) (sSeq a b) := by
  intro ρ σ S H D st g
  refine ha ρ σ S H { D with nx := u D } st ?_
  unfold sSeq at g
  cases e : a ρ with
  | bad =>
    rw [e] at g
    exact g
  | nx ρ' =>
    rw [e] at g
    exact fun σ' S' H' st' ex => hb ρ' σ' S' H' D st' (GoalS.mono ex g)
  | err er ρ' =>
    rw [e] at g
    exact g
  | rt r ρ' =>
    rw [e] at g
    exact g
  | bk ρ' =>
    rw [e] at g
    exact g
  | ct ρ' =>
    rw [e] at g
    exact g
theorem evs_nil : EvS K c tNext sNil := fun ρ σ S H D st g => g σ S H st (Ex.refl _)
theorem evs_bad {t : TS} : EvS K c t sBad := fun ρ σ S H D st g => g.elim
theorem evs_bk : EvS K c tBreak sBk := fun ρ σ S H D st g => g σ S H st (Ex.refl _)
theorem evs_ct : EvS K c tCont sCt := fun ρ σ S H D st g => g σ S H st (Ex.refl _)
theorem evs_retN : EvS K c tRetN sRetN := fun ρ σ S H D st g => g .non σ S H st (Ex.refl _) .non
theorem evs_ret {te : TE} {m : E} (h : Ev K c te (pV K c) m) : EvS K c (tRet te) (sRet m) :=
  evs_run (u := fun σ v D H => D.rt v H) h fun r v ρ σ S H D st p g => g v σ S H st (Ex.refl _) p
theorem evs_exp {te : TE} {m : E} (h : Ev K c te (pV K c) m) : EvS K c (tDrop te) (sExp m) :=
  evs_run (u := fun σ v D H => D.nx σ H) h fun r v ρ σ S H D st p g => g σ S H st (Ex.refl _)
theorem evs_if {tt : TT} {t u : TS} {m : T} {a b : S} (h : Ev K c tt pB m) (ha : EvS K c t a) (hb : EvS K c u b) : EvS K c (tIfS tt t u) (sIf m a b) :=
  evs_run (u := fun σ (k : Bool) D H => if k = true then t D σ H else u D σ H) h fun k k' ρ σ S H D st p g => by
    obtain rfl : k' = k := p
    cases k' with
    | true => exact ha ρ σ S H D st g
    | false => exact hb ρ σ S H D st g
/-- a slot is stored -/
theorem StR.store {ρ ρ' : Env} {σ : L2.St} {S : Sh} {H : Hp} {i : Nat} {r : Rv} {v : V} (st : StR K c ρ σ S H) (h : store ρ i r.sl = some ρ') (p : RvR K c r S H v) : ∃ S', StR K c ρ' (σ.set i (some v)) S' H ∧ S'.h = S.h := by
  unfold Dn.store at h
  cases e : ρ[i]? with
  | none =>
    rw [e] at h
    cases h
  | some s =>
    have hi : i < σ.length := by
      rw [st.len]
      exact lt_of_get e
    have hne : ∀ k, s ≠ .bor k := fun k z => by
      subst z
      rw [e] at h
      cases h
    have h : ρ' = ρ.set i r.sl := by
      rw [e] at h
      cases s with
      | bor k => exact absurd rfl (hne k)
      | _ =>
        cases h
        rfl
    subst h
    cases r with
    | d x =>
      refine ⟨S.rid i, st.slot (S' := S.rid i) (Ex.refl _) st.sub st.hs (fun a j hj => StR.rid_ow hj) (fun a j _ q => (st.owF a j q).1) (fun j hj => List.getElem?_set_ne (Ne.symm hj)) (List.length_set ..) (fun d q _ => ?_) (fun _ q => nomatch q) (fun _ q => nomatch q) (fun _ q => nomatch q) fun a q => absurd rfl (Sh.rid_some.mp q).2, rfl⟩
      cases q
      exact ⟨v, set_get hi, p⟩
    | o k =>
      obtain ⟨l, P, rfl, h2, h3⟩ := p
      have hPo : ∀ a, P a → ∀ j, j ≠ i → S.ow a ≠ some j := fun a q j _ z => by
        rw [(h3 a q).2.2.2] at z
        cases z
      refine ⟨S.own i P, st.slot (S' := S.own i P) (Ex.refl _) st.sub st.hs (fun a j hj => Sh.own_iff hj hPo) (fun a j _ q => (st.owF a j q).1) (fun j hj => List.getElem?_set_ne (Ne.symm hj)) (List.length_set ..) (fun _ q => nomatch q) (fun k' q hi' => ?_) (fun _ q => nomatch q) (fun _ q => nomatch q) fun a q => ?_, rfl⟩
      · cases q
        exact ⟨l, set_get hi, h2.mono (Ex.refl _) (fun _ _ => rfl) fun a q => Sh.own_in q⟩
      · obtain ⟨a1, a2, a3, a4⟩ := h3 a (Sh.own_self q)
        exact ⟨a1, a2, .inl a3, .inl ⟨⟨k, by rw [set_get (by rw [← st.len]; exact hi)]; rfl⟩, a3⟩⟩
theorem evs_asg {te : TE} {m : E} {i : Nat} (h : Ev K c te (pV K c) m) : EvS K c (tAsg te (gName i)) (sAsg i m) :=
  evs_run (u := fun σ v D H => D.nx (σ.set i (some v)) H) h fun r v ρ σ S H D st p g => by
    cases e : store ρ i r.sl with
    | none =>
      rw [e] at g
      exact g.elim
    | some ρ' =>
      rw [e] at g
      obtain ⟨S', s2, e2⟩ := st.store e p
      exact g _ S' H s2 (by rw [e2]; exact Ex.refl _)
/-- targets: what they store, the other slots as they were -/
def EvG (K : Fr) (c : Cxt) (g : TG) (tg : Tg) (is : List Nat) : Prop := ∀ ρ σ S H v d ρ1 (Q : L2.St → Hp → Prop), StR K c ρ σ S H → R K S.h v d → tg d ρ = some ρ1 → (∀ σ' S', S'.h = S.h → StR K c ρ1 σ' S' H → (∀ j, ¬ j ∈ is → σ'[j]? = σ[j]?) → σ'.length = σ.length → Q σ' H) → g v σ H Q
def EvGs (K : Fr) (c : Cxt) (g : TGs) (is : List Nat) : Prop := ∀ ρ σ S H vs ds ρ1 (Q : L2.St → Hp → Prop), StR K c ρ σ S H → Rs K S.h vs ds → gVs is ds ρ = some ρ1 → (∀ σ' S', S'.h = S.h → StR K c ρ1 σ' S' H → (∀ j, ¬ j ∈ is → σ'[j]? = σ[j]?) → σ'.length = σ.length → Q σ' H) → g vs σ H Q
theorem evg_v {i : Nat} : EvG K c (gName i) (gV i) [i] := fun ρ σ S H v d ρ1 Q st r h k => by
  obtain ⟨S', s2, e2⟩ := st.store (r := .d d) h r
  exact k _ S' e2 s2 (fun j hj => List.getElem?_set_ne fun e => hj (by rw [e]; exact List.mem_singleton.mpr rfl)) (List.length_set ..)
theorem evgs_nil : EvGs K c gNil [] := fun ρ σ S H vs ds ρ1 Q st r h k => by
  cases r with
  | nil =>
    cases h
    exact ⟨rfl, k σ S rfl st (fun _ _ => rfl) rfl⟩
  | cons _ _ => cases h
theorem evgs_cons {i : Nat} {is : List Nat} {t : TGs} (ht : EvGs K c t is) : EvGs K c (gCons (gName i) t) (i :: is) := fun ρ σ S H vs ds ρ1 Q st r h k => by
  cases r with
  | nil => cases h
  | @cons v d vs ds r1 r2 =>
    simp only [gVs, Option.bind_eq_some_iff] at h
    obtain ⟨ρ2, h1, h2⟩ := h
    obtain ⟨S2, s2, e2⟩ := st.store (r := .d d) h1 r1
    refine ⟨v, vs, rfl, ht ρ2 _ S2 H vs ds ρ1 Q s2 (by rw [e2]; exact r2) h2 fun σ' S' eS st' e el => k σ' S' (eS.trans e2) st' (fun j hj => ?_) (by rw [el, List.length_set])⟩
    rw [e j fun z => hj (List.mem_cons_of_mem _ z)]
    exact List.getElem?_set_ne fun z => hj (by rw [z]; exact List.mem_cons_self)
theorem gVs_len : ∀ {is : List Nat} {ds : List D} {ρ ρ1 : Env}, gVs is ds ρ = some ρ1 → ds.length = is.length
  | [], [], _, _, _ => rfl
  | [], _ :: _, _, _, h => by cases h
  | _ :: _, [], _, _, h => by cases h
  | i :: is, d :: ds, _, _, h => by
    simp only [gVs, Option.bind_eq_some_iff] at h
    obtain ⟨ρ2, h1, h2⟩ := h
    simp only [List.length_cons, gVs_len h2]
theorem evg_t {is : List Nat} {t : TGs} {n : Nat} (ht : EvGs K c t is) (hn : is.length = n) : EvG K c (gTup K n t) (gT is) is := fun ρ σ S H v d ρ1 Q st r h k => by
  cases r with
  | @tup a xs ds h1 h2 =>
    have h : gVs is ds ρ = some ρ1 := h
    exact ⟨a, xs, rfl, ex_t st.subE h1, by rw [h2.length, gVs_len h, hn], ht ρ σ S H xs ds ρ1 Q st h2 h fun σ' S' eS st' e el => k σ' S' eS st' e el⟩
  | _ => cases h
theorem evs_unp {te : TE} {m : E} {is : List Nat} {t : TGs} {n : Nat} (h : Ev K c te (pV K c) m) (ht : EvGs K c t is) (hn : is.length = n) : EvS K c (tAsg te (gTup K n t)) (sUnp is m) :=
  evs_run (u := fun σ v D H => gTup K n t v σ H D.nx) (ev_val h) fun d v ρ σ S H D st p g => by
    cases e : gT is d ρ with
    | none =>
      rw [e] at g
      exact g.elim
    | some ρ' =>
      rw [e] at g
      exact evg_t ht hn ρ σ S H v d ρ' D.nx st p e fun σ' S' eS st' _ _ => g σ' S' H st' (by rw [eS]; exact Ex.refl _)

/-! ### what is changed in place -/
/-- where an own (or lent) object may be changed -/
structure Chg (S : Sh) (H : Hp) (i : Nat) (H' : Hp) (P : Addr → Prop) : Prop where
  other : ∀ a, S.ow a ≠ some i → H a ≠ none → H' a = H a
  live : ∀ a, H' a = none → H a = none
  own : ∀ a, P a → H' a ≠ none ∧ (S.ow a = some i ∨ H a = none)
theorem evs_chgX {i : Nat} {f : C → Option C} {ρ : Env} {σ : L2.St} {S : Sh} {H : Hp} {D : Ends} (st : StR K c ρ σ S H) (g : GoalS K c S (chg i f ρ) D) :
    ∃ l k k', σ[i]? = some (some (.ref l)) ∧ ContR K S.h H (ownP S i) l k ∧ f k = some k' ∧ ∀ H' P, Chg S H i H' P → ContR K S.h H' P l k' → D.nx σ H' := by
  unfold chg at g
  cases e : ρ[i]? with
  | none =>
    rw [e] at g
    exact g.elim
  | some s =>
    rw [e] at g
    cases s with
    | un => exact g.elim
    | val d => exact g.elim
    | exc er => exact g.elim
    | own k =>
      cases q : f k with
      | none =>
        simp only [q] at g
        exact g.elim
      | some k' =>
        simp only [q] at g
        obtain ⟨l, h1, h2⟩ := st.own i k e
        exact ⟨l, k, k', h1, h2, q, fun H' P ch hk => g σ (S.own i P) _ (st.change e (.inl ⟨k, rfl, rfl⟩) h1 ch.other ch.live ch.own hk) (Ex.refl _)⟩
    | bor k =>
      cases q : f k with
      | none =>
        simp only [q] at g
        exact g.elim
      | some k' =>
        simp only [q] at g
        obtain ⟨l, h1, h2, _⟩ := st.bor i k e
        exact ⟨l, k, k', h1, h2, q, fun H' P ch hk => g σ (S.own i P) _ (st.change e (.inr ⟨k, rfl, rfl⟩) h1 ch.other ch.live ch.own hk) (Ex.refl _)⟩
/-- one object of it is written -/
theorem Chg.upd {ρ : Env} {σ : L2.St} {S : Sh} {H : Hp} {i : Nat} {l : Addr} {o : HO} (st : StR K c ρ σ S H) (hl : S.ow l = some i) : Chg S H i (upd H l o) (ownP S i) where
  other := fun a h _ => upd_ne fun z => h (by rw [z]; exact hl)
  live := fun a h => by
    by_cases q : a = l
    · subst q
      rw [upd_same] at h
      cases h
    · rw [upd_ne q] at h
      exact h
  own := fun a h => by
    refine ⟨?_, .inl h⟩
    by_cases q : a = l
    · subst q
      rw [upd_same]
      exact fun z => nomatch z
    · rw [upd_ne q]
      exact (st.owF a i h).2.1
theorem evs_chg {i : Nat} {f : C → Option C} {ρ : Env} {σ : L2.St} {S : Sh} {H : Hp} {D : Ends} (st : StR K c ρ σ S H) (g : GoalS K c S (chg i f ρ) D) :
    ∃ l k k', σ[i]? = some (some (.ref l)) ∧ ContR K S.h H (ownP S i) l k ∧ f k = some k' ∧ ∀ o, ContR K S.h (upd H l o) (ownP S i) l k' → D.nx σ (upd H l o) := by
  obtain ⟨l, k, k', h1, h2, h3, h4⟩ := evs_chgX st g
  exact ⟨l, k, k', h1, h2, h3, fun o hk => h4 _ _ (Chg.upd st h2.there.1) hk⟩
/-- the object of a name as it is while the arguments are reckoned -/
theorem ty_list {H : Hp} {l : Addr} {xs : List V} (h : H l = some (.lst xs)) : tyV K "list" (.ref l) H := Or.inl ⟨rfl, _, SqL.of h⟩
end
end Dn
set_option Elab.async false
set_option linter.all false
set_option maxRecDepth 100000
set_option maxHeartbeats 1000000
/-! enumerate of a tuple. -/
namespace En
open PySem
open Sem (wp)
set_option maxHeartbeats 1000000 in
theorem meets_enumerate_newB1 {v : Value} {o : Obj} {H : Heap → Prop} (B : Begins v o H) :
    Meets (Builtin.«enumerate.__new__» ⟨[.type "enumerate", v], []⟩) (fun _ R s => H s.heap ∧
      R (.ok (.ret (.ref (s.heap.push o).objs.size))) { s with heap := (s.heap.push o).push { cls := .type "enumerate", data := .fields #[.none, .bool false, .ref s.heap.objs.size, rawInt 0, .none, .none] } }) :=
  .of_wp fun prog w A R s h => by
    obtain ⟨hp, g, d, tk, os⟩ := s; obtain ⟨h1, h⟩ := h
    have hsub := sub_enumerate
    have q1 : ∀ {A' : Around} {E : Value → Shared → Prop} {Q : Value → Shared → Prop}, Q (.ref hp.objs.size) ⟨hp.push o, g, d, tk, os⟩ → wpAny (model prog w) A' (pyIter v) Q E ⟨hp, g, d, tk, os⟩ :=
      fun q => B.iter prog w _ _ ⟨hp, g, d, tk, os⟩ _ h1 q
    wp_walk using q1
    refine wpAny_stack_any fun st => wpAny_pure ?_
    split
    · rename_i c _ _ _ _ _
      cases (c == Value.type "enumerate")
      · wp_walk using q1
        exact ⟨_, rfl, h⟩
      · wp_walk using q1
        exact ⟨_, rfl, h⟩
    · wp_walk using q1
      exact ⟨_, rfl, h⟩
theorem enum_begins1 {prog : Program} {w : World} {A : Around} {E : Value → Shared → Prop} {s : Shared} {v : Value} {o : Obj} {H : Heap → Prop} {Q : Value → Shared → Prop} (B : Begins v o H) (h1 : H s.heap)
    (h : ∀ h', IsEnum h' (s.heap.objs.size + 1) s.heap.objs.size 0 .none → h'.get? s.heap.objs.size = some o → h'.objs.size = s.heap.objs.size + 2 →
      (∀ b o, s.heap.get? b = some o → h'.get? b = some o) → Q (.ref (s.heap.objs.size + 1)) { s with heap := h' }) :
    wpAny (model prog w) A (call (.type "enumerate") [v]) Q E s := by
  refine callType_new F.called_enumerate (by decide) (F.typeCall_enumerate_1 _) (F.newCall_enumerate_1 _) (fun obj => F.args_object_init_2 obj _) F.entry_enumerate_new
    (meets_enumerate_newB1 B) ⟨h1, ?_⟩
  have hz : (s.heap.push o).objs.size = s.heap.objs.size + 1 := Heap.size_push ..
  show _ ∧ _
  rw [hz]
  have he : IsEnum ((s.heap.push o).push { cls := .type "enumerate", data := .fields #[.none, .bool false, .ref s.heap.objs.size, rawInt 0, .none, .none] }) (s.heap.objs.size + 1) s.heap.objs.size 0 .none := by
    have := Heap.get?_push_size (s.heap.push o) (o := { cls := .type "enumerate", data := .fields #[.none, .bool false, .ref s.heap.objs.size, rawInt 0, .none, .none] }) rfl
    rw [hz] at this; exact this
  refine ⟨⟨_, he, rfl⟩, h _ he (Heap.get?_push_of_some _ (Heap.get?_push_size _ B.free)) (by rw [Heap.size_push, hz]) fun b o x => Heap.get?_push_of_some _ (Heap.get?_push_of_some _ x)⟩
end En
namespace L2
open PySem PySem.Spec PyProof.Rows
/-- the tuple at a, each item in a new pair -/
def ItE (K : PySem.W.Frag) (a : Addr) : It :=
  ⟨fun i H => ∃ (xs : List V) (x : V), SqT K H a xs ∧ xs[i]? = some x, fun i H v H' => ∃ T x, v = .ref T ∧ H T = none ∧ H' = upd H T (.tup [.int (i : Nat), x]) ∧ ∀ xs, SqT K H a xs → xs[i]? = some x, fun i H => ∃ xs : List V, SqT K H a xs ∧ xs.length ≤ i⟩
theorem walk_enumT {K : PySem.W.Frag} {a : Addr} {xs : List V} : Walk (ItE K a) xs.length (fun H => SqT K H a xs) (fun i H v H' => ∃ T x, v = .ref T ∧ H T = none ∧ H' = upd H T (.tup [.int (i : Nat), x]) ∧ xs[i]? = some x) :=
  ⟨fun i _ hi q => ⟨xs, xs[i], q, by simp [hi]⟩, fun _ q => ⟨xs, q, Nat.le_refl _⟩, fun _ _ _ _ _ q ⟨T, x, h1, h2, h3, h4⟩ => ⟨T, x, h1, h2, h3, h4 xs q⟩⟩
theorem turn_enumT {P : Program} {w : World} {K : PySem.W.Frag} {elts : List Expr} {kk : Nat} {tpos : Pos} (a e it : Addr) (hai : a ≠ it) (hae : a ≠ e) :
    Turn P w K (.Tuple elts kk tpos) (ItE K a) [e, it] e (fun i h => (∃ old, IsEnum h e it ((i : Nat) : Int) old) ∧ h.IsTupleIter it a i ∧ e ≠ it) where
  mem := by simp
  obj := fun i h st b hb => by
    obtain ⟨⟨old, he⟩, ⟨o, ho, hc, hd⟩, _⟩ := st
    have e' : b = e ∨ b = it := by simpa using hb
    rcases e' with z | z
    · rw [z]; exact ⟨_, he, fun v q => nomatch q⟩
    · rw [z]; exact ⟨o, ho, fun v q => by rw [hd] at q; cases q⟩
  keep := fun i h h' st k => let ⟨⟨old, he⟩, hi, hne⟩ := st; ⟨⟨old, k e (by simp) _ he⟩, hi.at fun o q => k it (by simp) o q, hne⟩
  item := by
    intro X hP hw hK hc i pins s σ H E I hf st hg
    subst hP hw hK
    obtain ⟨⟨old, he⟩, hit, hne⟩ := st
    obtain ⟨xs, x, hq, hx⟩ := hg
    obtain ⟨its, rv, p, hz⟩ := I.tuple hq
    obtain ⟨u, hu, ru⟩ := rv.get hx
    have p' : s.heap.IsTuple a its.toArray := p
    have hel : e < s.heap.objs.size := Heap.lt_size he
    have hil : it < s.heap.objs.size := by obtain ⟨_, q, _⟩ := hit; exact Heap.lt_size q
    have D := Draws.tuple (prog := X.prog) (w := X.w) (A := X.A.in1) (I.ok.hd hc) it a hai its.toArray
    have hlt : i < its.toArray.size := by
      have := (List.getElem?_eq_some_iff.mp hu).1
      simpa using this
    refine wpAny_pyNext_enum_itemD D he ⟨hit, p'⟩ hlt hne (by simp [hne, Ne.symm hae]) fun x2 h' tk hx2 ho hst' hT hsz hk => ?_
    have ex : x2 = u := by
      have hx3 : its[i]? = some x2 := by simpa using hx2
      rw [hu] at hx3
      cases hx3
      rfl
    subst ex
    refine ⟨_, rfl, wpAny_letOwnedTupleGo_enum (s := { s with heap := h', toks := tk + 1 }) ho fun h'' he' sb => ?_⟩
    have hT2 : h''.get? s.heap.objs.size = some { cls := .type "tuple", data := .seq #[.int i tk, x2] } := (sb.2 _ (Nat.ne_of_gt hel)).trans hT
    have new : ObjOk X.prog X.w (upd H s.heap.objs.size (.tup [.int (i : Nat), x])) h'' s.heap.objs.size (.tup [.int (i : Nat), x]) :=
      ⟨by show 2 ≤ sizeLine; decide, [.int i tk, x2], .cons ⟨_, rfl⟩ (.cons ru .nil), ⟨_, hT2, rfl, _, rfl⟩⟩
    have I1 : Inv X pins σ (upd H s.heap.objs.size (.tup [.int (i : Nat), x])) { s with heap := h'', toks := tk + 1 } :=
      I.turnedNew (ch := [e, it]) (fun b ob hb q => (sb.2 b (fun z => hb (by simp [z]))).trans (hk b ob (fun z => hb (by simp [z])) (fun z => hb (by simp [z])) q)) hf (Nat.le_refl _) new
    refine ⟨.ref s.heap.objs.size, _, I1, rfl, ⟨_, x, rfl, I.hok.fresh (Nat.le_refl _), rfl, fun ys hy => by rw [I.tuple_inj hy hq]; exact hx⟩, ⟨⟨x2, ?_⟩, hst'.1.at fun o q => (sb.2 it (Ne.symm hne)).trans q, hne⟩, fun b hb => ?_⟩
    · have e1 : ((i + 1 : Nat) : Int) = (i : Int) + 1 := by omega
      rw [e1]; exact he'
    · have hb' : b < s.heap.objs.size := by
        have e' : b = e ∨ b = it := by simpa using hb
        rcases e' with z | z
        · rw [z]; exact hel
        · rw [z]; exact hil
      rw [upd_ne (Nat.ne_of_lt hb')]
      exact (hf b hb).1
  done := by
    intro X hP hw hK hc i pins s σ H E I hf st hg
    subst hP hw hK
    obtain ⟨⟨old, he⟩, hit, hne⟩ := st
    obtain ⟨xs, hq, hx⟩ := hg
    obtain ⟨its, rv, p, hz⟩ := I.tuple hq
    have p' : s.heap.IsTuple a its.toArray := p
    obtain ⟨f0, f1, f2, f3, f4, f5⟩ := hf it (by simp)
    have hl := rv.length
    unfold pyNext
    have hT : s.TypeIs (.ref e) "enumerate" := ⟨_, he, rfl⟩
    refine wpAny_bind (wpAny_attempt (wpAny_callSpecial?_slot (name := Str.ofString "__next__") hT F.slot_enumerate_next
      (wpAny_call_entry F.slot_enumerate_next hT F.entry_enumerate_next ?_ (F.args_enumerate_next_1 _))))
    show wpAny _ _ (field (.ref e) 2 >>= _) _ _ _
    refine wpAny_bind (wpAny_field he rfl (x := .ref it) rfl ?_)
    refine wpAny_bind (wpAny_nextOf_tuple_end (I.ok.hd hc) hit p' (by simp; omega) fun h' x he' hx' => ?_)
    obtain ⟨o, ho, hc⟩ := hx'
    refine wpAny_bind (wpAny_isInstance (T := "StopIteration") (b := true) ⟨o, ho, hc⟩ isSubtype_stop ?_)
    exact wpAny_pure ⟨rfl, I.turned (t' := s.toks) (fun b o hb q => he' b o hb q) f0 f1 f3 f4 f5⟩
  self := fun A i s Q E st h => let ⟨⟨_, he⟩, _⟩ := st; wpAny_pyIter_enum he h
def iEnA (K : PySem.W.Frag) (ta : TA) : TI := fun σ H R => ta σ H fun vs H1 => (∃ a xs, vs = [.ref a] ∧ SqL K H1 a xs ∧ R (Ite K a) H1) ∨ ∃ a xs, vs = [.ref a] ∧ SqT K H1 a xs ∧ R (ItE K a) H1
theorem pi_enumA {X : Cx} {e : Expr} {ta : TA} {p pos tpos : Pos} {elts : List Expr} {kk : Nat} (hg : Gl X "enumerate") (hm : X.mg "enumerate" = none) (ha : PA X [e] ta) (hs : starEach [e] X.env = [(false, eval e X.env)] := by rfl) :
    PI X (.Tuple elts kk tpos) (.Call (.Name "enumerate" p) [e] [] pos) (iEnA X.K ta) := by
  refine ⟨fun pins s σ H R I h => ?_⟩
  refine Call_ (ld_blt I hg hm boot_enumerate (PyProof.Rows.callWith_type1 (thn (ha.run pos pins s σ H _ I h) fun us s1 ⟨vs, H1, I1, r1, q1⟩ => ?_) hs rfl))
  have fin : ∀ {s2 : Shared} {b : Addr}, b ∈ [s1.heap.objs.size + 1, s1.heap.objs.size] → FpOk X pins H1 b := fun {s2 b} hb => by
    have e' : b = s1.heap.objs.size + 1 ∨ b = s1.heap.objs.size := by simpa using hb
    have hle : s1.heap.objs.size ≤ b := by
      rcases e' with z | z
      · rw [z]; exact Nat.le_add_right _ _
      · rw [z]; exact Nat.le_refl _
    exact I1.fpOk hle (I1.hok.fresh hle)
  rcases q1 with ⟨a, xs, ex, hq, q⟩ | ⟨a, xs, ex, hq, q⟩
  · subst ex
    cases r1 with
    | cons r rr =>
      cases rr
      cases r
      obtain ⟨its, rv, p', hz⟩ := I1.list hq
      refine call_enumerate_list p'.isList fun h' he hit hsz hk => wpAny_pyIter_enum he ?_
      have I2 : Inv X pins σ H1 { s1 with heap := h' } := I1.kept (t' := s1.toks) hk
      exact ⟨s1.heap.objs.size + 1, [s1.heap.objs.size + 1, s1.heap.objs.size], _, _, H1, rfl, I2, turn_enum a (s1.heap.objs.size + 1) s1.heap.objs.size, ⟨⟨.none, he⟩, hit, Nat.succ_ne_self _⟩, fun b hb => fin (s2 := s1) hb, q⟩
  · subst ex
    cases r1 with
    | cons r rr =>
      cases rr
      cases r
      obtain ⟨its, rv, p', hz⟩ := I1.tuple hq
      have la : a < s1.heap.objs.size := p'.lt
      refine En.enum_begins1 (begins_tuple a its.toArray) (show s1.heap.IsTuple a its.toArray from p') fun h' he hit hsz hk => wpAny_pyIter_enum he ?_
      have I2 : Inv X pins σ H1 { s1 with heap := h' } := I1.kept (t' := s1.toks) hk
      exact ⟨s1.heap.objs.size + 1, [s1.heap.objs.size + 1, s1.heap.objs.size], _, _, H1, rfl, I2, turn_enumT a (s1.heap.objs.size + 1) s1.heap.objs.size (Nat.ne_of_lt la) (Nat.ne_of_lt (Nat.lt_succ_of_lt la)), ⟨⟨.none, he⟩, ⟨_, hit, rfl, rfl⟩, Nat.succ_ne_self _⟩, fun b hb => fin (s2 := s1) hb, q⟩
end L2
set_option Elab.async false
set_option linter.all false
set_option maxRecDepth 100000
set_option maxHeartbeats 4000000
/-! Lists and dicts changed in place; loops. -/
namespace Dn
open PySem L2
section
variable {K : Fr} {c : Cxt}
theorem StR.contAt {ρ : Env} {σ : L2.St} {S : Sh} {H : Hp} {i : Nat} (st : StR K c ρ σ S H) (h : isCont ρ[i]? = true) : ∃ l, σ[i]? = some (some (.ref l)) := by
  cases e : ρ[i]? with
  | none =>
    rw [e] at h
    cases h
  | some s =>
    rw [e] at h
    obtain ⟨l, k, _, h1, _⟩ := st.cont e h
    exact ⟨l, h1⟩
theorem StR.lstAt {ρ : Env} {σ : L2.St} {S : Sh} {H : Hp} {i : Nat} (st : StR K c ρ σ S H) (h : isLs ρ[i]? = true) : ∃ l xs, σ[i]? = some (some (.ref l)) ∧ H l = some (.lst xs) := by
  cases e : ρ[i]? with
  | none =>
    rw [e] at h
    cases h
  | some s =>
    rw [e] at h
    cases s with
    | own k =>
      obtain ⟨l, h1, h2⟩ := st.own i k e
      cases k with
      | lst ds =>
        obtain ⟨_, xs, a, b⟩ := h2
        exact ⟨l, xs, h1, a⟩
      | _ => cases h
    | bor k =>
      obtain ⟨l, h1, h2, _⟩ := st.bor i k e
      cases k with
      | lst ds =>
        obtain ⟨_, xs, a, b⟩ := h2
        exact ⟨l, xs, h1, a⟩
      | _ => cases h
    | _ => cases h
theorem run_at {α β : Type} {t : L2.St → Hp → (β → Hp → Prop) → Prop} {P : L2.St → α → Sh → Hp → β → Prop} {m : M α} {k : α → Env → Fl} {ρ : Env} {σ : L2.St} {S : Sh} {H : Hp} {D : Ends} {Q : β → Hp → Prop} (h : Ev K c t P m) (st : StR K c ρ σ S H) (g : GoalS K c S (runM m k ρ) D)
    (h2 : ∀ a b ρ' S' H', StR K c ρ' σ S' H' → P σ a S' H' b → GoalS K c S' (k a ρ') D → Q b H') : t σ H Q := by
  refine h ρ σ S H _ st ?_
  unfold runM at g
  cases e : m ρ with
  | bad =>
    rw [e] at g
    exact g
  | err er ρ' =>
    rw [e] at g
    exact fun cls od S' H' st' ex er => g cls od σ S' H' st' ex er
  | ok a ρ' =>
    rw [e] at g
    exact fun b S' H' st' ex p => h2 a b ρ' S' H' st' p (GoalS.mono ex g)
theorem evs_app {te : TE} {m : E} {i : Nat} (h : Ev K c te (pV K c) m) : EvS K c (tDrop (tBM K "list" rAppend (tVar i) (tCons te tNil))) (sApp i m) := by
  intro ρ σ S H D st g
  unfold sApp at g
  split at g
  · rename_i hL
    obtain ⟨l, xs, h1, h2⟩ := st.lstAt hL
    refine ⟨.ref l, h1, ty_list h2, run_at (t := te) (ev_val h) st g fun d v ρ' S' H' st' r g' => ?_⟩
    obtain ⟨l', k, k', e1, e2, e3, e4⟩ := evs_chg st' g'
    rw [h1] at e1
    cases e1
    cases k with
    | lst ds =>
      obtain ⟨p, ys, a, b⟩ := e2
      simp only [cApp] at e3
      split at e3
      · rename_i hl
        cases e3
        exact ⟨l, ys, v, rfl, rfl, a, Evl.sz_lt (by rw [b.length]; exact hl), e4 _ ⟨p, _, upd_same, b.append (.cons r .nil)⟩⟩
      · cases e3
    | _ => cases e3
  · exact g.elim
theorem evs_ext {te : TE} {m : E} {i : Nat} (h : Ev K c te (pV K c) m) : EvS K c (tDrop (tBM K "list" rExtend (tVar i) (tCons te tNil))) (sExt i m) := by
  intro ρ σ S H D st g
  unfold sExt at g
  split at g
  · rename_i hL
    obtain ⟨l, xs, h1, h2⟩ := st.lstAt hL
    refine ⟨.ref l, h1, ty_list h2, run_at (t := te) (ev_val h) st g fun d v ρ' S' H' st' r g' => ?_⟩
    cases r with
    | @lst a zs ds q1 q2 =>
      obtain ⟨l', k, k', e1, e2, e3, e4⟩ := evs_chg st' g'
      rw [h1] at e1
      cases e1
      cases k with
      | lst es =>
        obtain ⟨p, ys, a', b⟩ := e2
        simp only [cExt] at e3
        split at e3
        · rename_i hl
          cases e3
          exact ⟨l, a, ys, zs, rfl, rfl, a', st'.sub _ _ q1, Evl.sz_of (by rw [b.length, q2.length]; exact hl), e4 _ ⟨p, _, upd_same, b.append q2⟩⟩
        · cases e3
      | _ => cases e3
    | _ => exact g'.elim
  · exact g.elim
theorem evs_setI {tk tv : TE} {k v : E} {i : Nat} (hk : Ev K c tk (pV K c) k) (hv : Ev K c tv (pV K c) v) : EvS K c (tAsg tv (gSub (tVar i) tk rSetL)) (sSetI i k v) := by
  intro ρ σ S H D st g
  refine run_at (ev_val hv) st g fun d x ρ1 S1 H1 st1 r g1 => ?_
  split at g1
  · rename_i hC
    obtain ⟨l, h1⟩ := st1.contAt hC
    refine ⟨.ref l, h1, ?_⟩
    -- what is stored stays what it is
    refine (ev_val hk) ρ1 σ S1 H1 _ st1 ?_
    unfold runM at g1
    cases e : val k ρ1 with
    | bad =>
      simp only [e] at g1
      exact g1.elim
    | err er ρ' =>
      simp only [e] at g1
      exact fun cls od S' H' st' ex er => g1 cls od σ S' H' st' ex er
    | ok j ρ2 =>
      simp only [e] at g1
      intro y S2 H2 st2 ex p
      cases p with
      | int n =>
        obtain ⟨l', q, q', e1, e2, e3, e4⟩ := evs_chg st2 (GoalS.mono ex g1)
        rw [h1] at e1
        cases e1
        cases q with
        | lst ds =>
          obtain ⟨p, ys, a, b⟩ := e2
          simp only [cSetI, Option.map_eq_some_iff] at e3
          obtain ⟨jj, z1, z2⟩ := e3
          subst z2
          exact ⟨l, ys, n, jj, rfl, rfl, a, by rw [b.length]; exact z1, e4 _ ⟨p, _, upd_same, b.set jj (r.mono ex)⟩⟩
        | _ => cases e3
      | _ => exact g1.elim
  · exact g1.elim
/-- a[y] = v in a dict of values -/
theorem dict_put {Hs H : Hp} {P : Addr → Prop} {l : Addr} {ds : List (D × D)} {y v : V} {kd d : D} (h : ContL K Hs H P l (.dic ds)) (sub : Ex Hs H) (rk : R K Hs y kd) (hs : kSame ds kd = true) (hl : ds.length < 100000) (rv : R K Hs v d) :
    ∃ o, DP K H l y v (upd H l o) ∧ ContL K Hs (upd H l o) P l (.dic (dPut ds kd d)) := by
  obtain ⟨p, ⟨kvs, a, b⟩ | ⟨es, n, a, b⟩⟩ := h
  · by_cases hk : isKey kd = true
    · obtain ⟨kk, rfl, rfl⟩ := key_of rk hk
      exact ⟨_, .inl (DPut.k a (Evl.sz_lt (by rw [b.length]; exact hl))), p, .inl ⟨_, upd_same, b.put kk rv⟩⟩
    · have hT : isKeyT kd = true ∧ ds = [] := by
        unfold kSame at hs
        rw [Bool.not_eq_true] at hk
        rw [hk] at hs
        simp only [Bool.false_and, Bool.false_or, Bool.and_eq_true] at hs
        refine ⟨hs.1, ?_⟩
        cases b with
        | nil => rfl
        | @cons k' _ _ _ _ _ _ =>
          have z := hs.2
          cases k' <;> simp [kD, isKey] at z
      obtain ⟨hT, rfl⟩ := hT
      cases b
      obtain ⟨k, e1, e2⟩ := isKeyT_key hT
      cases rk with
      | @tup q _ _ t1 t2 =>
        refine ⟨_, .inr ⟨q, _, k, rfl, (R.tup t1 t2).mono sub, hT, e1, .inr ⟨a, rfl⟩⟩, p, .inr ⟨_, by simp, upd_same, ?_⟩⟩
        exact .cons (.tup t1 t2) hT e1 rv .nil
      | _ => cases hT
  · have hT : isKeyT kd = true := by
      unfold kSame at hs
      cases b with
      | nil => exact absurd rfl n
      | cons q1 q2 q3 q4 q5 =>
        simp only [isKeyT_notKey q2, Bool.and_false, Bool.false_or, Bool.not_false, Bool.and_true] at hs
        exact hs
    obtain ⟨k, e1, e2⟩ := isKeyT_key hT
    cases rk with
    | @tup q _ _ t1 t2 =>
      refine ⟨_, .inr ⟨q, _, k, rfl, (R.tup t1 t2).mono sub, hT, e1, .inl ⟨es, ds, a, b.mono sub, Evl.sz_lt (by rw [b.length]; exact hl), rfl⟩⟩, p, .inr ⟨_, ?_, upd_same, rt_put (.tup t1 t2) hT e1 rv b⟩⟩
      unfold putN
      split
      · simpa using n
      · simp
    | _ => cases hT
theorem evs_putK {tk tv : TE} {k v : E} {i : Nat} (hk : Ev K c tk (pV K c) k) (hv : Ev K c tv (pV K c) v) : EvS K c (sDPutA K (tVar i) tk tv) (sPutK i k v) := by
  intro ρ σ S H D st g
  refine run_at (ev_val hv) st g fun d x ρ1 S1 H1 st1 r g1 => ?_
  split at g1
  · rename_i hC
    obtain ⟨l, h1⟩ := st1.contAt hC
    refine ⟨.ref l, h1, ?_⟩
    refine (ev_val hk) ρ1 σ S1 H1 _ st1 ?_
    unfold runM at g1
    cases e : val k ρ1 with
    | bad =>
      simp only [e] at g1
      exact g1.elim
    | err er ρ' =>
      simp only [e] at g1
      exact fun cls od S' H' st' ex er => g1 cls od σ S' H' st' ex er
    | ok j ρ2 =>
      simp only [e] at g1
      intro y S2 H2 st2 ex p
      obtain ⟨l', q, q', e1, e2, e3, e4⟩ := evs_chg st2 (GoalS.mono ex g1)
      rw [h1] at e1
      cases e1
      cases q with
      | dic ds =>
        simp only [cPutK] at e3
        split at e3
        · rename_i hl
          simp only [Bool.and_eq_true, decide_eq_true_eq] at hl
          cases e3
          obtain ⟨o, z1, z2⟩ := dict_put e2 st2.subE p hl.1 hl.2 (r.mono ex)
          exact ⟨l, _, rfl, z1, e4 o z2⟩
        · cases e3
      | _ => cases e3
  · exact g1.elim

/-! ### what is walked -/
structure ItD (K : Fr) (J : It) (Hs : Hp) (ds : List D) : Prop where
  ex : ∃ (G : Hp → Prop) (Y : Nat → Hp → V → Hp → Prop), Walk J ds.length G Y ∧ (∀ H', Ex Hs H' → G H') ∧ ∀ i H' x H'', i < ds.length → Ex Hs H' → Y i H' x H'' → ∃ d, ds[i]? = some d ∧
    ((H'' = H' ∧ R K Hs x d) ∨ ∃ T xs es, x = .ref T ∧ H' T = none ∧ H'' = upd H' T (.tup xs) ∧ d = .tup es ∧ Rs K Hs xs es)
def pI (K : Fr) : L2.St → List D → Sh → Hp → It → Prop := fun _ ds S _ J => ItD K J S.h ds
abbrev tiOf (K : Fr) (c : Cxt) (m : M (List D)) : TI := wpOf K c (pI K) m
/-- what a turn gives -/
theorem StR.turn {ρ : Env} {σ : L2.St} {S S1 : Sh} {H H' : Hp} {x : V} {d : D} (st : StR K c ρ σ S1 H) (e : Ex S.h S1.h)
    (h : (H' = H ∧ R K S.h x d) ∨ ∃ T xs es, x = .ref T ∧ H T = none ∧ H' = upd H T (.tup xs) ∧ d = .tup es ∧ Rs K S.h xs es) : ∃ S2, StR K c ρ σ S2 H' ∧ Ex S1.h S2.h ∧ R K S2.h x d := by
  rcases h with ⟨rfl, r⟩ | ⟨T, xs, es, rfl, hT, rfl, rfl, rr⟩
  · exact ⟨S1, st, Ex.refl _, r.mono e⟩
  · obtain ⟨st', ex⟩ := st.new (o := .tup xs) hT
    exact ⟨_, st', ex, .tup (SqT.of upd_same) (rr.mono (e.trans ex))⟩
/-- the keys of a dict -/
theorem Rk.keyAt {H : Hp} : ∀ {ds : List (D × D)} {kvs : List (Key × V)} {i : Nat} {k : Key} {v : V}, Rk K H kvs ds → kvs[i]? = some (k, v) → (ds.map (·.1))[i]? = some (kD k)
  | [], _, _, _, _, h, e => by
    cases h
    simp at e
  | (x, y) :: ds, _, 0, k, v, h, e => by
    cases h with
    | cons h1 h2 =>
      simp at e
      obtain ⟨rfl, rfl⟩ := e
      rfl
  | (x, y) :: ds, _, i + 1, k, v, h, e => by
    cases h with
    | cons h1 h2 =>
      rw [List.map_cons, List.getElem?_cons_succ]
      exact Rk.keyAt h2 (by simpa using e)
theorem Rt.keyAt {H : Hp} : ∀ {ds : List (D × D)} {es : List (NestedKey × Addr × V)} {i : Nat} {e : NestedKey × Addr × V}, Rt K H es ds → es[i]? = some e → ∃ kd, (ds.map (·.1))[i]? = some kd ∧ R K H (.ref e.2.1) kd
  | [], _, _, _, h, e => by
    cases h
    simp at e
  | (x, y) :: ds, _, 0, _, h, e => by
    cases h with
    | cons h1 h2 h3 h4 h5 =>
      simp at e
      subst e
      exact ⟨x, rfl, h1⟩
  | (x, y) :: ds, _, i + 1, _, h, e => by
    cases h with
    | cons h1 h2 h3 h4 h5 =>
      rw [List.map_cons, List.getElem?_cons_succ]
      exact Rt.keyAt h5 (by simpa using e)
theorem r_key {H : Hp} (k : Key) : R K H (kV k) (kD k) := by
  cases k with
  | inl i => exact .int i
  | inr x => exact .str x
/-- lists, tuples; dicts by their keys, locked from then on -/
def iAny (K : Fr) (te : TE) : TI := fun σ H Q => te σ H fun x H1 => ((∃ a, x = .ref a ∧ (∃ xs, SqL K H1 a xs) ∧ Q (Itl K a) H1) ∨ ∃ a, x = .ref a ∧ (∃ xs, SqT K H1 a xs) ∧ Q (Itt K a) H1) ∨
  ∃ a u, x = .ref a ∧ IsDk K a u ∧ ((∃ kvs, u = .dK kvs ∧ ((H1 a = some u ∧ ∀ od, Q (Itk a od kvs) (upd H1 a (.frz od u))) ∨ ∃ od, H1 a = some (.frz od u) ∧ Q (Itk a od kvs) H1)) ∨
    ∃ es, u = dnO K a es ∧ ((H1 a = some u ∧ ∀ od, Q (Itn K a od es) (upd H1 a (.frz od u))) ∨ ∃ od, H1 a = some (.frz od u) ∧ Q (Itn K a od es) H1))
theorem ev_srcSeq {te : TE} {m : E} (h : Ev K c te (pV K c) m) : Ev K c (iAny K te) (pI K) (srcSeq m) :=
  ev_bind (u := fun σ (x : V) H (Q : It → Hp → Prop) => ((∃ a, x = .ref a ∧ (∃ xs, SqL K H a xs) ∧ Q (Itl K a) H) ∨ ∃ a, x = .ref a ∧ (∃ xs, SqT K H a xs) ∧ Q (Itt K a) H) ∨
  ∃ a u, x = .ref a ∧ IsDk K a u ∧ ((∃ kvs, u = .dK kvs ∧ ((H a = some u ∧ ∀ od, Q (Itk a od kvs) (upd H a (.frz od u))) ∨ ∃ od, H a = some (.frz od u) ∧ Q (Itk a od kvs) H)) ∨
    ∃ es, u = dnO K a es ∧ ((H a = some u ∧ ∀ od, Q (Itn K a od es) (upd H a (.frz od u))) ∨ ∃ od, H a = some (.frz od u) ∧ Q (Itn K a od es) H))) (ev_val h) fun d v ρ σ S H Q st r g => by
    cases r with
    | @tup a xs ds h1 h2 =>
      refine .inl (.inr ⟨a, rfl, ⟨xs, ex_t st.subE h1⟩, g _ S H st (Ex.refl _) ⟨_, _, (by rw [← h2.length]; exact walk_tup (xs := xs)), fun H' e => ex_t e h1, fun i H' x H'' hi e y => ?_⟩⟩)
      obtain ⟨rfl, y2⟩ := y
      obtain ⟨d, z1, z2⟩ := h2.getV y2
      exact ⟨d, z1, .inl ⟨rfl, z2⟩⟩
    | @lst a xs ds h1 h2 =>
      refine .inl (.inl ⟨a, rfl, ⟨xs, SqL.of (st.sub _ _ h1)⟩, g _ S H st (Ex.refl _) ⟨_, _, (by rw [← h2.length]; exact walk_list (xs := xs)), fun H' e => SqL.of (e.at h1 fun z => z), fun i H' x H'' hi e y => ?_⟩⟩)
      obtain ⟨rfl, y2⟩ := y
      obtain ⟨d, z1, z2⟩ := h2.getV y2
      exact ⟨d, z1, .inl ⟨rfl, z2⟩⟩
    | @dic a kvs ds h1 h2 =>
      have fin : ∀ {Hs' : Hp} {od : Obj}, Hs' a = some (.frz od (.dK kvs)) → Ex S.h Hs' → ItD K (Itk a od kvs) Hs' (ds.map (·.1)) := fun {Hs' od} e ex => by
        refine ⟨_, _, (by rw [List.length_map, ← h2.length]; exact walk_keys), fun H' e' => e'.at e fun z => z, fun i H' x H'' hi e' y => ?_⟩
        obtain ⟨rfl, k, v, y1, rfl⟩ := y
        exact ⟨_, h2.keyAt y1, .inl ⟨rfl, r_key k⟩⟩
      refine .inr ⟨a, _, rfl, .inl ⟨kvs, rfl⟩, .inl ⟨kvs, rfl, ?_⟩⟩
      rcases h1 with h1 | ⟨od, h1⟩
      · refine .inl ⟨st.sub _ _ h1, fun od => ?_⟩
        obtain ⟨s2, e2⟩ := st.frz (od := od) h1 True.intro
        exact g _ _ _ s2 e2 (fin upd_same e2)
      · exact .inr ⟨od, st.sub _ _ h1, g _ S H st (Ex.refl _) (fin h1 (Ex.refl _))⟩
    | @dicT a es ds h0 h1 h2 =>
      have fin : ∀ {Hs' : Hp} {od : Obj}, Hs' a = some (.frz od (dnO K a es)) → Ex S.h Hs' → ItD K (Itn K a od es) Hs' (ds.map (·.1)) := fun {Hs' od} e ex => by
        refine ⟨_, _, (by rw [List.length_map, ← h2.length]; exact walk_keysN), fun H' e' => e'.at e fun z => z, fun i H' x H'' hi e' y => ?_⟩
        obtain ⟨rfl, k, y1, rfl⟩ := y
        obtain ⟨kd, z1, z2⟩ := (h2.mono ex).keyAt y1
        exact ⟨kd, z1, .inl ⟨rfl, z2⟩⟩
      refine .inr ⟨a, _, rfl, .inr ⟨es, rfl⟩, .inr ⟨es, rfl, ?_⟩⟩
      rcases h1 with h1 | ⟨od, h1⟩
      · refine .inl ⟨st.sub _ _ h1, fun od => ?_⟩
        obtain ⟨s2, e2⟩ := st.frz (od := od) h1 True.intro
        exact g _ _ _ s2 e2 (fin upd_same e2)
      · exact .inr ⟨od, st.sub _ _ h1, g _ S H st (Ex.refl _) (fin h1 (Ex.refl _))⟩
    | _ => exact g.elim
theorem upTo_get (lo : Int) (n i : Nat) (h : i < n) : (upTo lo n)[i]? = some (.int (lo + (i : Int))) := by
  unfold upTo
  rw [List.getElem?_map, List.getElem?_range h]
  rfl
theorem upTo_len (lo : Int) (n : Nat) : (upTo lo n).length = n := by
  unfold upTo
  rw [List.length_map, List.length_range]
theorem it_range {lo : Int} {n : Nat} {S : Hp} : ItD K (Itr lo n) S (upTo lo n) := by
  refine ⟨_, _, (by rw [upTo_len]; exact walk_range), fun _ _ => trivial, fun i H' x H'' hi e y => ?_⟩
  rw [upTo_len] at hi
  obtain ⟨rfl, rfl⟩ := y
  exact ⟨_, upTo_get lo n i hi, .inl ⟨rfl, R.int _⟩⟩
theorem bigOk_iff {i : Int} (h : bigOk i = true) : -1000000000 ≤ i ∧ i ≤ 1000000000 := by
  simpa only [bigOk, Bool.and_eq_true, decide_eq_true_eq] using h
theorem ev_srcR1 {te : TE} {m : E} (h : Ev K c te (pV K c) m) : Ev K c (iRng1 (tCons te tNil)) (pI K) (srcR1 m) :=
  ev_bind (u := fun σ (x : V) H (Q : It → Hp → Prop) => ∃ j : Int, [x] = [.int j] ∧ -(2 ^ 62) ≤ j ∧ j < 2 ^ 62 ∧ Q (Itr 0 j.toNat) H) (ev_val h) fun d v ρ σ S H Q st r g => by
    cases r with
    | int j =>
      simp only at g
      split at g
      · rename_i hb
        obtain ⟨b1, b2⟩ := bigOk_iff hb
        exact ⟨j, rfl, by omega, by omega, g _ S H st (Ex.refl _) it_range⟩
      · exact g.elim
    | _ => exact g.elim
theorem ev_srcR2 {te tf : TE} {m n : E} (h : Ev K c te (pV K c) m) (h' : Ev K c tf (pV K c) n) : Ev K c (iRng2 (tCons te (tCons tf tNil))) (pI K) (srcR2 m n) :=
  ev_two (u := fun (x y : V) H (Q : It → Hp → Prop) => ∃ i j : Int, [x, y] = [.int i, .int j] ∧ (-(2 ^ 62) ≤ i ∧ i < 2 ^ 62 ∧ -(2 ^ 62) ≤ j ∧ j < 2 ^ 62) ∧ Q (Itr i (j - i).toNat) H) h h' fun a b va vb ρ σ S H Q st r1 r2 g => by
    cases r1 with
    | int i =>
      cases r2 with
      | int j =>
        simp only at g
        split at g
        · rename_i hb
          rw [Bool.and_eq_true] at hb
          obtain ⟨b1, b2⟩ := bigOk_iff hb.1
          obtain ⟨b3, b4⟩ := bigOk_iff hb.2
          exact ⟨i, j, rfl, ⟨by omega, by omega, by omega, by omega⟩, g _ S H st (Ex.refl _) it_range⟩
        · exact g.elim
      | _ => exact g.elim
    | _ => exact g.elim
theorem pairsN_len : ∀ (n : Nat) (ds : List D), (pairsN n ds).length = ds.length
  | _, [] => rfl
  | n, x :: r => by simp only [pairsN, List.length_cons, pairsN_len (n + 1) r]
theorem pairsN_get : ∀ (n : Nat) (ds : List D) (i : Nat) (d : D), ds[i]? = some d → (pairsN n ds)[i]? = some (.tup [.int ((n + i : Nat) : Int), d])
  | _, [], _, _, h => by simp at h
  | n, x :: r, 0, d, h => by
    simp at h
    subst h
    rfl
  | n, x :: r, i + 1, d, h => by
    have q := pairsN_get (n + 1) r i d (by simpa using h)
    simp only [pairsN, List.getElem?_cons_succ]
    rw [q, show n + 1 + i = n + (i + 1) by omega]
theorem ev_srcEnum {te : TE} {m : E} (h : Ev K c te (pV K c) m) : Ev K c (iEnA K (tCons te tNil)) (pI K) (srcEnum m) :=
  ev_bind (u := fun σ (x : V) H (Q : It → Hp → Prop) => (∃ a xs, [x] = [.ref a] ∧ SqL K H a xs ∧ Q (Ite K a) H) ∨ ∃ a xs, [x] = [.ref a] ∧ SqT K H a xs ∧ Q (ItE K a) H) (ev_val h) fun d v ρ σ S H Q st r g => by
    cases r with
    | @lst a xs ds h1 h2 =>
      refine .inl ⟨a, xs, rfl, SqL.of (st.sub _ _ h1), g _ S H st (Ex.refl _) ⟨_, _, (by rw [pairsN_len, ← h2.length]; exact walk_enum (xs := xs)), fun H' e => SqL.of (e.at h1 fun z => z), fun i H' x H'' hi e y => ?_⟩⟩
      obtain ⟨T, x1, x2, rfl, y2, rfl, y4, y5⟩ := y
      obtain ⟨d, z1, z2⟩ := h2.getV y5
      cases y4
      refine ⟨_, pairsN_get 0 ds i d z1, .inr ⟨T, _, _, rfl, y2, rfl, rfl, .cons ?_ (.cons z2 .nil)⟩⟩
      rw [Nat.zero_add]
      exact R.int _
    | @tup a xs ds h1 h2 =>
      refine .inr ⟨a, xs, rfl, ex_t st.subE h1, g _ S H st (Ex.refl _) ⟨_, _, (by rw [pairsN_len, ← h2.length]; exact walk_enumT (xs := xs)), fun H' e => ex_t e h1, fun i H' x H'' hi e y => ?_⟩⟩
      obtain ⟨T, x2, rfl, y2, rfl, y5⟩ := y
      obtain ⟨d, z1, z2⟩ := h2.getV y5
      refine ⟨_, pairsN_get 0 ds i d z1, .inr ⟨T, _, _, rfl, y2, rfl, rfl, .cons ?_ (.cons z2 .nil)⟩⟩
      rw [Nat.zero_add]
      exact R.int _
    | _ => exact g.elim

/-! ### for -/
theorem evs_for {wi : TI} {g : TG} {tb : TS} {src : M (List D)} {tg : Tg} {is : List Nat} {b : S} (hw : Ev K c wi (pI K) src) (hg : EvG K c g tg is) (hb : EvS K c tb b) : EvS K c (tFor wi g tb) (sFor src tg b) := by
  intro ρ σ S H D st gl
  refine run_at hw st gl fun ds J ρ1 S1 H1 st1 it g1 => ?_
  obtain ⟨G, Y, w, hG, hY⟩ := it.ex
  refine for_it w (fun i σ' H' => ∃ ρ' S', StR K c ρ' σ' S' H' ∧ Ex S1.h S'.h ∧ GoalS K c S' (loop tg b (ds.drop i) ρ') D) ⟨ρ1, S1, st1, Ex.refl _, by rw [List.drop_zero]; exact g1⟩ (fun i σ' H' _ ⟨ρ', S', s', e', _⟩ => hG _ (e'.trans s'.subE)) ?_ ?_
  · rintro i x σ' H2 H3 hi ⟨ρ', S', s', e', g'⟩ y
    obtain ⟨d, h1, h2⟩ := hY i H2 x H3 hi (e'.trans s'.subE) y
    obtain ⟨S2, s2, e2, r2⟩ := s'.turn e' h2
    have hd : ds.drop i = d :: ds.drop (i + 1) := by
      obtain ⟨hl, hx⟩ := List.getElem?_eq_some_iff.mp h1
      rw [List.drop_eq_getElem_cons hl, hx]
    rw [hd] at g'
    simp only [loop] at g'
    cases q : tg d ρ' with
    | none =>
      simp only [q] at g'
      exact g'.elim
    | some ρ2 =>
      simp only [q] at g'
      refine hg ρ' σ' S2 H3 x d ρ2 _ s2 r2 q fun σ2 S3 eS s3 _ _ => hb ρ2 σ2 S3 H3 _ s3 ?_
      have e23 : Ex S'.h S3.h := by rw [eS]; exact e2
      have e3 : Ex S1.h S3.h := e'.trans e23
      cases z : b ρ2 with
      | bad =>
        simp only [z] at g'
        exact g'.elim
      | err er ρ3 =>
        simp only [z] at g'
        exact GoalS.mono e23 g'
      | nx ρ3 =>
        simp only [z] at g'
        exact fun σ4 S4 H4 s4 e4 => ⟨ρ3, S4, s4, e3.trans e4, GoalS.mono (e23.trans e4) g'⟩
      | ct ρ3 =>
        simp only [z] at g'
        exact fun σ4 S4 H4 s4 e4 => ⟨ρ3, S4, s4, e3.trans e4, GoalS.mono (e23.trans e4) g'⟩
      | bk ρ3 =>
        simp only [z] at g'
        exact fun σ4 S4 H4 s4 e4 => g' σ4 S4 H4 s4 (e23.trans e4)
      | rt r ρ3 =>
        simp only [z] at g'
        exact GoalS.mono e23 g'
  · rintro σ' H2 ⟨ρ', S', s', e', g'⟩
    rw [List.drop_length] at g'
    exact g' σ' S' H2 s' (Ex.refl _)
theorem evs_while {tt : TT} {tb : TS} {t : T} {b : S} (n : Nat) (ht : Ev K c tt pB t) (hb : EvS K c tb b) : EvS K c (tWhile tt tb) (wh t b n) := by
  intro ρ σ S H D st gl
  refine ⟨fun m σ' H' => ∃ ρ' S', StR K c ρ' σ' S' H' ∧ GoalS K c S' (wh t b m ρ') D, ⟨n, ρ, S, st, gl⟩, fun m σ' H' ⟨ρ', S', s', g'⟩ => ?_⟩
  cases m with
  | zero => exact g'.elim
  | succ m =>
    simp only [wh] at g'
    refine ht ρ' σ' S' H' _ s' ?_
    cases q : t ρ' with
    | bad =>
      simp only [q] at g'
      exact g'
    | err er ρ2 =>
      simp only [q] at g'
      exact fun cls od S2 H2 s2 e2 er => g' cls od σ' S2 H2 s2 e2 er
    | ok k ρ2 =>
      cases k with
      | false =>
        simp only [q] at g'
        intro k S2 H2 s2 e2 p
        obtain rfl : k = false := p
        exact g' σ' S2 H2 s2 e2
      | true =>
        simp only [q] at g'
        intro k S2 H2 s2 e2 p
        obtain rfl : k = true := p
        refine ⟨fun σ3 H3 => ∃ ρ3 S3, StR K c ρ3 σ3 S3 H3 ∧ GoalS K c S3 (wh t b m ρ3) D, fun σ3 H3 h => ⟨m, Nat.lt_succ_self m, h⟩, hb ρ2 σ' S2 H2 _ s2 ?_⟩
        cases z : b ρ2 with
        | bad =>
          simp only [z] at g'
          exact g'
        | err er ρ3 =>
          simp only [z] at g'
          exact GoalS.mono e2 g'
        | nx ρ3 =>
          simp only [z] at g'
          exact fun σ4 S4 H4 s4 e4 => ⟨ρ3, S4, s4, GoalS.mono (e2.trans e4) g'⟩
        | ct ρ3 =>
          simp only [z] at g'
          exact fun σ4 S4 H4 s4 e4 => ⟨ρ3, S4, s4, GoalS.mono (e2.trans e4) g'⟩
        | bk ρ3 =>
          simp only [z] at g'
          exact fun σ4 S4 H4 s4 e4 => g' σ4 S4 H4 s4 (e2.trans e4)
        | rt r ρ3 =>
          simp only [z] at g'
          exact GoalS.mono e2 g'
end
end Dn
set_option Elab.async false
set_option linter.all false
set_option maxRecDepth 100000
set_option maxHeartbeats 4000000
/-! Dict comprehensions over keys of either kind (after the layer's own rule for whole numbers and texts). -/
namespace Dn
open PySem L2 PySem.Spec PyProof.Rows
section
variable {X : Cx} {pins : List (Addr × Obj)} {σ : L2.St} {H : Hp} {s : Shared} {E : Value → Shared → Prop}
theorem a_dictSet {Dl : Addr} {y v : V} {H' : Hp} {u r : Value} {Q : Unit → Shared → Prop} (hu : X.A.units + 64 < cLine) (I : Inv X pins σ H s) (g : DP (cxFr X) H Dl y v H') (ry : RelV y u) (rv : RelV v r) (h : ∀ s', Inv X pins σ H' s' → Q () s') : wpAny (model X.prog X.w) X.A (dictSet Dl u r) Q E s := by
  have room : (nestedKind X.prog X.w).room X.A := by
    show X.A.units + 8 < cLine
    omega
  rcases g with (⟨kvs, k, e, rfl, l, rfl⟩ | ⟨kvs, k, b, e, rfl, eb, l, rfl⟩) | ⟨b, kd, k, rfl, r1, r2, r3, ⟨es, ds, e1, e2, e3, rfl⟩ | ⟨e1, rfl⟩⟩
  · exact d_dictSet I e l ry rv h
  · cases (show u = Value.ref b from ry)
    obtain ⟨z, hd, xs, rel, dd⟩ := dt_of I.hok e
    have hx := Paired.length rel
    have hp := length_putK kvs k v
    refine wpAny_dictSet_heap (hsz := by omega) (show (tupleKind (mixKind X.prog X.w)).room X.A from by show X.A.units < cLine; omega) (L2.key_of I.hok eb) dd fun h' dd' hs => h _ ?_
    obtain ⟨q, es, ep, hq, h2, h3, h4, _, h5⟩ := dd'
    refine d_write I (by rw [e]; exact True.intro) hs ⟨q, hq⟩ ⟨by omega, hd, _, (rel.put k eb rv).keeps fun c ys ec => ?_, q, es, ep, hq, h2, h3, h4, h5⟩
    rw [upd_ne (ne_of ec e (fun z => nomatch z))]
    exact ec
  · cases (show u = Value.ref b from ry)
    obtain ⟨z, hd, xs, p, dd⟩ := dn_rd I (.inl e1) e2
    have hx := PN.len p
    have hp := length_putN es k b v
    have nd : (es.map (·.1)).Nodup := by
      obtain ⟨_, _, _, _, _, _, _, _, n⟩ := id dd
      rw [← p.keys]
      exact n
    refine wpAny_dictSet_heap (hsz := by omega) room (kd_is I r1 r2 r3) dd fun h' dd' hs => h _ ?_
    exact d_write I (by rw [e1]; exact True.intro) hs (let ⟨q, _, _, hq, _⟩ := dd'; ⟨q, hq⟩) (dn_ok (by omega) hd (keys_putN es k b v nd) (p.put rv) dd')
  · cases (show u = Value.ref b from ry)
    obtain ⟨hd, dd⟩ := dk_nil I (.inl e1)
    refine wpAny_dictSet_heap (hsz := Nat.zero_le _) room (kd_is I r1 r2 r3) dd fun h' dd' hs => h _ ?_
    exact d_write I (by rw [e1]; exact True.intro) hs (let ⟨q, _, _, hq, _⟩ := dd'; ⟨q, hq⟩) (dn_ok (by show 1 ≤ sizeLine; decide) hd (by simp) (.cons ⟨rfl, rfl, rv⟩ .nil) dd')
end
/-- what a turn asks, Dl being the new dict -/
def dcTurn (K : Fr) (g : TG) (tt : TT) (tk tv : TE) (vs : List Nat) (σ : L2.St) (Dl : Addr) (x : V) (Nx : Hp → Prop) : Hp → Prop := fun H' => g x (wipe σ vs) H' fun σ2 H2 => wipe σ2 vs = wipe σ vs ∧ tt σ2 H2 fun b H3 =>
  if b = true then tk σ2 H3 fun y H4 => tv σ2 H4 fun z H5 => ∃ H6, DP K H5 Dl y z H6 ∧ Nx H6 else Nx H3
def tDcA (K : Fr) (wi : TI) (g : TG) (tt : TT) (tk tv : TE) (vs : List Nat) : TE := fun σ H Q => wi σ H fun J H1 => ∀ Dl, H1 Dl = none → ∃ W : Nat → Nat → Hp → Prop, (∃ m, W 0 m (upd H1 Dl (.dK []))) ∧ ∀ i m H, W i m H →
  (J.stop i H ∧ Q (.ref Dl) H) ∨ (J.go i H ∧ ∃ Nx : Hp → Prop, (∀ H', Nx H' → ∃ m', m' < m ∧ W (i + 1) m' H') ∧ ∀ x H', J.yld i H x H' → dcTurn K g tt tk tv vs σ Dl x Nx H')
section
variable {X : Cx} {kx vx tg iter : Expr} {ifs : List Expr} {scope : Scope} {own : List (Str × Nat)} {pos pos' : Pos} {wi : TI} {g : TG} {tt : TT} {tk tv : TE}
/-- the block's context, started at s over the heap H -/
abbrev Blk (X : Cx) (scope : Scope) (s : Shared) (H : Hp) (C : Addr) (cl : List (Str × Addr)) (fp : List Addr) : Cx := X.blk s H scope (compEnvC scope cl C X.env) fp
theorem dcA_core {pins : List (Addr × Obj)} {s : Shared} {σ : L2.St} {H : Hp} {Q : VK} {use : Option (Value → Sem Unit)} {Qf : Value → Shared → Prop} (hu : X.A.units + 64 < cLine)
    (hc : X.calm = true) (hN : X.N.Nodup) (I : Inv X pins σ H s) (hi : PI X tg iter wi) (ok : BlkOk X.N X.env.scope scope own)
    (hg : ∀ s H C cl fp, PG (Blk X scope s H C cl fp) tg g) (ht : ∀ s H C cl fp, PTs (Blk X scope s H C cl fp) ifs tt) (hk : ∀ s H C cl fp, PE (Blk X scope s H C cl fp) kx tk) (he : ∀ s H C cl fp, PE (Blk X scope s H C cl fp) vx tv) (hs : ∀ x, foldedSetIterable iter X.env x = pure x)
    (h : tDcA (cxFr X) wi g tt tk tv (own.map (·.2)) σ H Q)
    (hRR : ∀ Dl C s' m H', Inv X pins σ H' s' → Q (.ref Dl) H' → s'.heap.Ns C m → FpOk X pins H' C → compPost (model X.prog X.w) X.A X.xe use Qf (.ref Dl) C (.ok .next) s') :
    wpAny (model X.prog X.w) X.A (comprehension (.DictComp kx vx [⟨tg, iter, ifs, 0⟩] scope pos) scope X.env pos' newDict false (eval iter X.env) use) Qf X.xe s := by
  have free : ∀ y ∈ scope.names, y.2 = .free → ∃ c, X.env.cells.lookup y.1 = some c := fun y hy e => (ok.free y hy e).elim (fun k => I.ok.has _ (.inl k)) fun k => I.ok.has _ (.inr k)
  refine wpAny_comprehension_free (use := use) rfl hs (closure_ok free) ok.kind (fun y hy e => by rw [ok.uniq y hy, e]) (thn (hi.run pins s σ H _ I h) fun _ s1 hx => thn hx fun _ s2 h2 => ?_)
  obtain ⟨it, fp, tn, J, H2, rfl, I2, T, st2, f2, q⟩ := h2
  refine wpAny_newObj_type (newEnv_comp ?_)
  generalize hDl : s2.heap.objs.size = Dl
  obtain ⟨W, ⟨m0, w0⟩, turn⟩ := q Dl (I2.hok.fresh (Nat.le_of_eq hDl))
  -- the new dict
  generalize hs3 : ({ s2 with heap := s2.heap.push { cls := .type "dict", data := .dict #[] } } : Shared) = s3
  have h3 : s3.heap = s2.heap.push { cls := .type "dict", data := .dict #[] } := by rw [← hs3]
  have I3 : Inv X pins σ (upd H2 Dl (.dK [])) s3 := by
    rw [← hs3, ← hDl]
    exact I2.laid (t' := s2.toks) (fun b o e => Heap.get?_push_of_some _ e) (Nat.le_refl _) (dk_empty s2.heap I2.big)
  have small : ∀ b ∈ fp, b < s2.heap.objs.size := fun b hb => let ⟨_, e, _⟩ := T.obj _ _ st2 b hb; Heap.lt_size e
  have f3 : ∀ b ∈ fp, FpOk X pins (upd H2 Dl (.dK [])) b ∧ b < s3.heap.objs.size := fun b hb =>
    ⟨⟨by rw [upd_ne (by rw [← hDl]; exact Nat.ne_of_lt (small b hb))]; exact (f2 b hb).1, (f2 b hb).2⟩, by rw [h3, Heap.size_push]; exact Nat.lt_succ_of_lt (small b hb)⟩
  have I4 := block_start I3 ok hN f3
  generalize hcl : cellsFrom (s3.heap.objs.size + 1) scope.names (cloFrom X.env.cells scope.names []) = cl at I4
  have pg : PG (X.blk s3 (upd H2 Dl (.dK [])) scope (compEnvC scope cl s3.heap.objs.size X.env) fp) tg g := hg s3 (upd H2 Dl (.dK [])) s3.heap.objs.size cl fp
  have pt : PTs (X.blk s3 (upd H2 Dl (.dK [])) scope (compEnvC scope cl s3.heap.objs.size X.env) fp) ifs tt := ht s3 (upd H2 Dl (.dK [])) s3.heap.objs.size cl fp
  have pk : PE (X.blk s3 (upd H2 Dl (.dK [])) scope (compEnvC scope cl s3.heap.objs.size X.env) fp) kx tk := hk s3 (upd H2 Dl (.dK [])) s3.heap.objs.size cl fp
  have pe : PE (X.blk s3 (upd H2 Dl (.dK [])) scope (compEnvC scope cl s3.heap.objs.size X.env) fp) vx tv := he s3 (upd H2 Dl (.dK [])) s3.heap.objs.size cl fp
  have none3 : ∀ b ∈ fp, (upd H2 Dl (.dK [])) b = none := fun b hb => (f3 b hb).1.1
  generalize hce : compEnvC scope cl s3.heap.objs.size X.env = ce at I4 pg pt pk pe
  have cL : ce.locals = s3.heap.objs.size := by rw [← hce]; rfl
  have st4 : tn 0 (pushCells (s3.heap.push { cls := .type "dict", data := .dict #[] }) scope.names) := by
    refine T.keep _ _ _ st2 fun b _ o e => pushCells_keeps _ _ _ _ (Heap.get?_push_of_some _ ?_)
    rw [h3]
    exact Heap.get?_push_of_some _ e
  have walk : ∀ {σ' : L2.St} {H' : Hp} {s' : Shared}, Inv (X.blk s3 (upd H2 Dl (.dK [])) scope ce fp) [] σ' H' s' → (∀ b ∈ fp, H' b = none) → ∀ b ∈ fp, FpOk (X.blk s3 (upd H2 Dl (.dK [])) scope ce fp) [] H' b := fun {σ' H' s'} I' hn b hb =>
    ⟨hn b hb, (I'.ok.exf b hb).1, I'.ok.exfs b hb, .inl hb, fun x c e => (I'.ok.exf b hb).2 x c e, fun p hp => absurd (show p ∈ ([] : List (Addr × Obj)) ++ [] from hp) (by simp)⟩
  subst hcl
  show codeAny _ _ (.compStart (.DictComp kx vx [⟨tg, iter, ifs, 0⟩] scope pos) 0 (.ref it) (.ref Dl) (compEnvC scope (cellsFrom (s3.heap.objs.size + 1) scope.names (cloFrom X.env.cells scope.names [])) s3.heap.objs.size X.env)) (compPost (model X.prog X.w) X.A X.xe use Qf (.ref Dl) s3.heap.objs.size) { s3 with heap := pushCells (s3.heap.push { cls := .type "dict", data := .dict #[] }) scope.names }
  rw [hce]
  have loop : codeAny (model X.prog X.w) X.A (.compLoop (.DictComp kx vx [⟨tg, iter, ifs, 0⟩] scope pos) 0 (.ref it) (.ref Dl) ce) (compPost (model X.prog X.w) X.A X.xe use Qf (.ref Dl) s3.heap.objs.size) { s3 with heap := pushCells (s3.heap.push { cls := .type "dict", data := .dict #[] }) scope.names } := by
    refine compLoop_anyD (fun n s' => ∃ i H', Inv (X.blk s3 (upd H2 Dl (.dK [])) scope ce fp) [] (wipe σ (own.map (·.2))) H' s' ∧ tn i s'.heap ∧ (∀ b ∈ fp, H' b = none) ∧ W i n H') ?_ m0 ⟨0, _, I4, st4, none3, w0⟩
    rintro n s5 ⟨i, H5, I5, st5, n5, w5⟩
    rcases turn i n H5 w5 with ⟨stop, qq⟩ | ⟨go, Nx, hNx, step⟩
    · -- no item is left: back to the def
      refine thnF (T.done (X.blk s3 (upd H2 Dl (.dK [])) scope ce fp) rfl rfl rfl hc i [] s5 _ H5 (fun _ _ => False) I5 (walk I5 n5) st5 stop) fun r s6 ⟨hr, I6⟩ => ?_
      subst hr
      have nC : H5 s3.heap.objs.size = none := by
        rw [← cL]
        exact I6.free
      obtain ⟨m, hn, _⟩ := I6.loc
      refine hRR Dl s3.heap.objs.size s6 m H5 (I3.call' (ch := fp) I6.os I6.base I6.hok I6.bare fun b hb => ⟨(f3 b hb).1.2.2.2.1, (f3 b hb).1.2.1, (f3 b hb).1.2.2.2.2.1, (f3 b hb).1.2.2.2.2.2⟩) qq ?_ (I3.fpOk (Nat.le_refl _) nC)
      rw [← cL]
      exact hn
    · refine thnF (T.item (X.blk s3 (upd H2 Dl (.dK [])) scope ce fp) rfl rfl rfl hc i [] s5 _ H5 (fun _ _ => False) I5 (walk I5 n5) st5 go) fun r s6 ⟨u, hr, h6⟩ => ?_
      subst hr
      refine thnF h6 fun _ s7 ⟨x, H7, I7, r7, y7, st7, n7⟩ => ?_
      refine thnF (pg.run _ s7 _ H7 x u _ (I7.pinned (walk I7 n7) (T.obj _ _ st7)) r7 (step x H7 y7)) fun _ s8 ⟨σ8, H8, I8, hw8, q8⟩ => ?_
      refine thnF (pt.run _ s8 σ8 H8 _ I8 q8) fun b s9 ⟨H9, I9, q9⟩ => ?_
      have next : ∀ {s' : Shared} {H' : Hp}, Inv (X.blk s3 (upd H2 Dl (.dK [])) scope ce fp) ([] ++ pinsAt fp s7.heap) σ8 H' s' → Nx H' → ∃ m, m < n ∧ ∃ i H', Inv (X.blk s3 (upd H2 Dl (.dK [])) scope ce fp) [] (wipe σ (own.map (·.2))) H' s' ∧ tn i s'.heap ∧ (∀ b ∈ fp, H' b = none) ∧ W i m H' := fun {s' H'} I' nx => by
        obtain ⟨m', hm, w'⟩ := hNx H' nx
        have pin : ∀ b ∈ fp, ∀ o, s7.heap.get? b = some o → s'.heap.get? b = some o ∧ H' b = none := fun b hb o e =>
          have z := I'.pin (b, o) (List.mem_append_right _ (List.mem_append_right _ (mem_pinsAt hb e)))
          ⟨z.1, z.2.1⟩
        refine ⟨m', hm, i + 1, H', (I'.unpinned (pins := [])).weak (by rw [← hw8, wipe_length]) (fun j v e => ?_), T.keep _ _ _ st7 fun b hb o e => (pin b hb o e).1, fun b hb => let ⟨o, e, _⟩ := T.obj _ _ st7 b hb; (pin b hb o e).2, w'⟩
        rw [← hw8] at e
        exact (wipe_some e).1
      cases b with
      | false =>
        rw [if_neg Bool.false_ne_true] at q9
        simp only [Bool.false_eq_true, if_false]
        exact next I9 q9
      | true =>
        rw [if_pos rfl] at q9
        simp only [if_true]
        refine thnF (pk.run _ s9 σ8 H9 _ I9 q9) fun z s10 ⟨yk, H10, I10, r10, q10⟩ => ?_
        refine thnF (pe.run _ s10 σ8 H10 _ I10 q10) fun z2 s11 ⟨yv, H11, I11, r11, H12, dp, nx⟩ => ?_
        exact a_dictSet (X := X.blk s3 (upd H2 Dl (.dK [])) scope ce fp) hu I11 dp r10 r11 fun s12 I12 => next I12 nx
  exact codeAny_compStart_dict loop (T.self X.A 0 _ _ _ st4 loop)
/-- {k: v for ..} as a value -/
theorem pe_dcA (hu : X.A.units + 64 < cLine) (hc : X.calm = true) (hN : X.N.Nodup) (hi : PI X tg iter wi) (ok : BlkOk X.N X.env.scope scope own)
    (hg : ∀ s H C cl fp, PG (Blk X scope s H C cl fp) tg g) (ht : ∀ s H C cl fp, PTs (Blk X scope s H C cl fp) ifs tt) (hk : ∀ s H C cl fp, PE (Blk X scope s H C cl fp) kx tk) (he : ∀ s H C cl fp, PE (Blk X scope s H C cl fp) vx tv) (hs : ∀ x, foldedSetIterable iter X.env x = pure x := by intro _; rfl) :
    PE X (.DictComp kx vx [⟨tg, iter, ifs, 0⟩] scope pos) (tDcA (cxFr X) wi g tt tk tv (own.map (·.2))) := by
  refine ⟨fun pins s σ H Q I h => ?_⟩
  rw [arm_eval_DictComp]
  refine dcA_core hu hc hN I hi ok hg ht hk he hs h fun Dl C s' m H' I' q hn f => ⟨m, hn, fun h'' sb => ?_⟩
  obtain ⟨f0, f1, f2, f3, f4, f5⟩ := f
  exact ⟨.ref Dl, H', I'.turned (t' := s'.toks) (fun b o hb e => (sb.2 b hb).trans e) f0 f1 f3 f4 f5, rfl, q⟩
theorem swD_true {gs : List Comprehension} {py : Pos} {y : Str} {l : Nat} {env : PySem.Env} (hk : env.scope.kind = .function) (hy : env.scope.names.lookup y = some .local) (hl : (py.line == pos.line) = true)
    (ha : (scope.names.any fun (n, k) => n == y && (k == .local || k == .cell)) = false) : swapsWith (.DictComp kx vx gs scope pos) (some (.Name y py)) l env = pure true := by
  have ky : env.kindOf y = some .local := hy
  unfold swapsWith
  simp only [show env.blockKind = .function from by unfold Env.blockKind; rw [hk]; rfl, ky, ha, Expr.pos, hl]
  rfl
/-- y = {k: v for ..} -/
theorem ps_setDcA {i : Nat} {y : Str} {py spos : Pos} (hu : X.A.units + 64 < cLine) (hc : X.calm = true) (hN : X.N.Nodup) (hy : X.N[i]? = some y) (hyl : X.env.scope.names.lookup y = some .local)
    (hsw : swapsWith (.DictComp kx vx [⟨tg, iter, ifs, 0⟩] scope pos) (some (.Name y py)) spos.line X.env = pure true) (hi : PI X tg iter wi) (ok : BlkOk X.N X.env.scope scope own)
    (hg : ∀ s H C cl fp, PG (Blk X scope s H C cl fp) tg g) (ht : ∀ s H C cl fp, PTs (Blk X scope s H C cl fp) ifs tt) (hk : ∀ s H C cl fp, PE (Blk X scope s H C cl fp) kx tk) (he : ∀ s H C cl fp, PE (Blk X scope s H C cl fp) vx tv) (hs : ∀ x, foldedSetIterable iter X.env x = pure x := by intro _; rfl) :
    PS X (.Assign [.Name y py] (.DictComp kx vx [⟨tg, iter, ifs, 0⟩] scope pos) spos) (tAsg (tDcA (cxFr X) wi g tt tk tv (own.map (·.2))) (gName i)) := by
  refine ⟨fun pins s σ H D I h => ?_⟩
  rw [exec_Assign_Name_used _ _ _ _ hsw]
  refine wpAny_bind (wpAny_standAt (wpAny_bind ?_))
  show wpAny _ X.A (do let _ ← comprehension (.DictComp kx vx [⟨tg, iter, ifs, 0⟩] scope pos) scope X.env (firstIterPos [⟨tg, iter, ifs, 0⟩] pos) newDict false (eval iter X.env) (some (assign (.Name y py) X.env))) _ _ s
  have h : tDcA (cxFr X) wi g tt tk tv (own.map (·.2)) σ H (fun x H1 => gName i x σ H1 D.nx) := h
  refine wpAny_bind (thn (dcA_core (Qf := fun _ s' => SP X pins D .next s') hu hc hN I hi ok hg ht hk he hs h fun L C s' m H' I' q hn f => ?_) fun _ s' hq => wpAny_pure (wpAny_pure hq))
  obtain ⟨f0, f1, f2, f3, f4, f5⟩ := f
  refine wpAny_assign_Name (store_ok2 (v := V.ref L) I' hN hy (.inl hyl) rfl (fun s2 I2 ⟨a, sb, ha⟩ => ?_) (.inr hyl))
  refine ⟨m, hn.sameBut sb (fun e => ?_), fun h3 sb3 => ⟨_, H', I2.turned (t' := s2.toks) (fun b o hb e => (sb3.2 b hb).trans e) f0 f1 f3 f4 f5, q⟩⟩
  rcases ha with z | z
  · exact f1 (e.trans z)
  · exact f4 y a z e.symm
end
end Dn
set_option Elab.async false
set_option linter.all false
set_option maxRecDepth 100000
set_option maxHeartbeats 4000000
/-! Comprehensions, defs and their calls. -/
namespace Dn
open PySem L2
theorem wipeE_get (ρ : Env) : ∀ (own : List Nat) (j : Nat), (wipeE ρ own)[j]? = if j ∈ own then (ρ[j]?).map (fun _ => Slot.un) else ρ[j]?
  | [], j => by simp [wipeE]
  | i :: r, j => by
    simp only [wipeE]
    by_cases e : j = i
    · subst e
      rw [List.getElem?_set]
      have q := wipeE_get ρ r j
      have hl : (wipeE ρ r)[j]?.isSome = ρ[j]?.isSome := by
        rw [q]
        split
        · rw [Option.isSome_map]
        · rfl
      simp only [if_true, List.mem_cons, true_or]
      cases z : ρ[j]? with
      | none =>
        rw [z] at hl
        have : ¬ j < (wipeE ρ r).length := fun h => by
          rw [List.getElem?_eq_getElem h] at hl
          cases hl
        rw [if_neg this]
        rfl
      | some s =>
        rw [z] at hl
        have : j < (wipeE ρ r).length := by
          cases y : (wipeE ρ r)[j]? with
          | none =>
            rw [y] at hl
            cases hl
          | some _ => exact lt_of_get y
        rw [if_pos this]
        rfl
    · rw [List.getElem?_set_ne (Ne.symm e), wipeE_get ρ r j]
      simp only [List.mem_cons, e, false_or]
theorem wipe_get (σ : L2.St) : ∀ (own : List Nat) (j : Nat), ¬ j ∈ own → (wipe σ own)[j]? = σ[j]?
  | [], j, _ => rfl
  | i :: r, j, h => by
    have e : j ≠ i := fun z => h (by rw [z]; exact List.mem_cons_self)
    unfold wipe
    rw [List.getElem?_set_ne (Ne.symm e)]
    exact wipe_get σ r j fun z => h (List.mem_cons_of_mem _ z)
theorem wipe_in (σ : L2.St) : ∀ (own : List Nat) (j : Nat), j ∈ own → j < σ.length → (wipe σ own)[j]? = some none
  | i :: r, j, h, hl => by
    unfold wipe
    by_cases e : j = i
    · subst e
      rw [List.getElem?_set_self (by rw [wipe_length]; exact hl)]
    · rw [List.getElem?_set_ne (Ne.symm e)]
      rcases List.mem_cons.mp h with z | z
      · exact absurd z e
      · exact wipe_in σ r j z hl
theorem wipe_same {σ σ' : L2.St} {own : List Nat} (hl : σ'.length = σ.length) (h : ∀ j, ¬ j ∈ own → σ'[j]? = σ[j]?) : wipe σ' own = wipe σ own := by
  apply List.ext_getElem?
  intro j
  by_cases e : j ∈ own
  · by_cases q : j < σ.length
    · rw [wipe_in σ own j e q, wipe_in σ' own j e (by omega)]
    · rw [List.getElem?_eq_none (by rw [wipe_length]; omega), List.getElem?_eq_none (by rw [wipe_length]; omega)]
  · rw [wipe_get _ _ _ e, wipe_get _ _ _ e, h j e]
theorem wipe_wipe (σ : L2.St) (own : List Nat) : wipe (wipe σ own) own = wipe σ own := wipe_same (wipe_length σ own) fun j h => wipe_get σ own j h
theorem backE_len (ρ0 ρ : Env) : ∀ own : List Nat, (backE ρ0 ρ own).length = ρ.length
  | [] => rfl
  | i :: r => by simp only [backE, List.length_set, backE_len ρ0 ρ r]
theorem wipeE_len (ρ : Env) : ∀ own : List Nat, (wipeE ρ own).length = ρ.length
  | [] => rfl
  | i :: r => by simp only [wipeE, List.length_set, wipeE_len ρ r]
theorem backE_get (ρ0 ρ : Env) : ∀ (own : List Nat) (j : Nat) (s : Slot), (backE ρ0 ρ own)[j]? = some s → (j ∈ own ∧ s = backS ρ0[j]?) ∨ (¬ j ∈ own ∧ ρ[j]? = some s)
  | [], j, s, h => .inr ⟨by simp, h⟩
  | i :: r, j, s, h => by
    simp only [backE] at h
    rcases get_set h with ⟨rfl, e⟩ | ⟨e, e'⟩
    · exact .inl ⟨List.mem_cons_self, e⟩
    · rcases backE_get ρ0 ρ r j s e' with ⟨a, b⟩ | ⟨a, b⟩
      · exact .inl ⟨List.mem_cons_of_mem _ a, b⟩
      · exact .inr ⟨fun z => (List.mem_cons.mp z).elim e a, b⟩
section
variable {K : Fr} {c : Cxt} {ρ : Env} {σ : L2.St} {S : Sh} {H : Hp}
/-- some slots own nothing any more -/
noncomputable def Sh.ridL (S : Sh) (own : List Nat) : Sh := ⟨S.h, fun a => open Classical in if ∃ i, i ∈ own ∧ S.ow a = some i then none else S.ow a⟩
theorem Sh.ridL_some {own : List Nat} {j : Nat} {a : Addr} : (S.ridL own).ow a = some j ↔ S.ow a = some j ∧ ¬ j ∈ own := by
  unfold Sh.ridL
  simp only
  constructor
  · intro h
    split at h
    · cases h
    · rename_i n
      exact ⟨h, fun z => n ⟨j, z, h⟩⟩
  · rintro ⟨h, n⟩
    rw [if_neg fun ⟨i, z1, z2⟩ => n (by rw [h] at z2; cases z2; exact z1)]
    exact h
theorem StR.wipe (st : StR K c ρ σ S H) (own : List Nat) : StR K c (wipeE ρ own) (L2.wipe σ own) (S.ridL own) H := by
  have gE : ∀ (j : Nat) s, s ≠ .un → (wipeE ρ own)[j]? = some s → ¬ j ∈ own ∧ ρ[j]? = some s := fun j s hs h => by
    rw [wipeE_get] at h
    split at h
    · rw [Option.map_eq_some_iff] at h
      obtain ⟨_, _, z⟩ := h
      exact absurd z.symm hs
    · exact ⟨by assumption, h⟩
  have hp : ∀ j, ¬ j ∈ own → ∀ a, ownP S j a → ownP (S.ridL own) j a := fun j hj a q => Sh.ridL_some.mpr ⟨q, hj⟩
  refine ⟨st.sub, st.old, st.keep, st.live, st.hs, by rw [wipe_length, wipeE_len]; exact st.len, fun j d h => ?_, fun j k h => ?_, fun j k h => ?_, fun j e h => ?_, fun a j h => ?_⟩
  · obtain ⟨a, b⟩ := gE j (.val d) (fun z => nomatch z) h
    rw [wipe_get _ _ _ a]
    exact st.val j d b
  · obtain ⟨a, b⟩ := gE j (.own k) (fun z => nomatch z) h
    rw [wipe_get _ _ _ a]
    obtain ⟨l, h1, h2⟩ := st.own j k b
    exact ⟨l, h1, h2.mono (Ex.refl _) (fun _ _ => rfl) (hp j a)⟩
  · obtain ⟨a, b⟩ := gE j (.bor k) (fun z => nomatch z) h
    rw [wipe_get _ _ _ a]
    obtain ⟨l, h1, h2, h3⟩ := st.bor j k b
    exact ⟨l, h1, h2.mono (Ex.refl _) (fun _ _ => rfl) (hp j a), h3⟩
  · obtain ⟨a, b⟩ := gE j (.exc e) (fun z => nomatch z) h
    rw [wipe_get _ _ _ a]
    exact st.exc j e b
  · obtain ⟨h1, h2⟩ := Sh.ridL_some.mp h
    obtain ⟨a1, a2, a3, a4⟩ := st.owF a j h1
    refine ⟨a1, a2, a3, ?_⟩
    rw [wipeE_get, if_neg h2]
    exact a4
abbrev noErr : WX := fun _ _ _ _ => False
/-- an object at D that no slot knows, and that the code within does not touch -/
def Cxt.withD (c : Cxt) (Dl : Addr) (o : HO) : Cxt :=
  ⟨c.vs, c.Hs0, fun a => if a = Dl then some o else c.H0 a, c.B, noErr, c.exc, fun i l h => by
    refine ⟨?_, (c.hB i l h).2⟩
    by_cases e : l = Dl
    · rw [if_pos e]
      exact fun z => nomatch z
    · rw [if_neg e]
      exact (c.hB i l h).1⟩
theorem Cxt.withD_H0 {Dl a : Addr} {o : HO} : (c.withD Dl o).H0 a = if a = Dl then some o else c.H0 a := rfl
theorem StR.toD {Dl : Addr} {o : HO} (st : StR K c ρ σ S H) (h1 : H Dl = some o) (h2 : S.h Dl = none) (h4 : S.ow Dl = none) : StR K (c.withD Dl o) ρ σ S H := by
  have ne : ∀ a i, S.ow a = some i → a ≠ Dl := fun a i q z => by
    rw [z, h4] at q
    cases q
  refine ⟨st.sub, st.old, fun a u e e2 b => ?_, fun a e => ?_, fun a e1 e2 e3 => ?_, st.len, st.val, st.own, st.bor, st.exc, fun a i e => ?_⟩
  · rw [Cxt.withD_H0] at e
    split at e
    · rename_i z
      subst z
      rw [h1]
      exact e
    · exact st.keep a u e e2 b
  · rw [Cxt.withD_H0]
    split
    · rename_i z
      subst z
      rw [h1] at e
      cases e
    · exact st.live a e
  · rw [Cxt.withD_H0] at e2
    split at e2
    · rename_i z
      subst z
      exact h2
    · exact st.hs a e1 e2 e3
  · obtain ⟨a1, a2, a3, a4⟩ := st.owF a i e
    rw [Cxt.withD_H0, if_neg (ne a i e)]
    exact ⟨a1, a2, a3, a4⟩
theorem StR.fromD {Dl : Addr} {o : HO} (st : StR K (c.withD Dl o) ρ σ S H) (h0 : c.H0 Dl = none) (h0s : c.Hs0 Dl = none) : StR K c ρ σ S H ∧ H Dl = some o ∧ S.h Dl = none ∧ S.ow Dl = none := by
  have nB : ¬ c.lent Dl := fun ⟨i, z⟩ => (c.hB i Dl z).1 h0
  have hD : (c.withD Dl o).H0 Dl = some o := by rw [Cxt.withD_H0, if_pos rfl]
  have hO : S.ow Dl = none := by
    cases e : S.ow Dl with
    | none => rfl
    | some i =>
      obtain ⟨_, _, a3, _⟩ := st.owF Dl i e
      rcases a3 with z | z
      · rw [hD] at z
        cases z
      · exact absurd z nB
  have ne : ∀ a i, S.ow a = some i → a ≠ Dl := fun a i q z => by
    rw [z, hO] at q
    cases q
  refine ⟨⟨st.sub, st.old, fun a u e e2 b => ?_, fun a e => ?_, fun a e1 e2 e3 => ?_, st.len, st.val, st.own, st.bor, st.exc, fun a i e => ?_⟩, st.keep Dl o hD h0s nB, st.hs Dl h0s (by rw [hD]; exact fun z => nomatch z) nB, hO⟩
  · refine st.keep a u ?_ e2 b
    rw [Cxt.withD_H0, if_neg fun z => by rw [z, h0] at e; cases e]
    exact e
  · have q := st.live a e
    rw [Cxt.withD_H0] at q
    split at q
    · cases q
    · exact q
  · refine st.hs a e1 ?_ e3
    rw [Cxt.withD_H0]
    split
    · exact fun z => nomatch z
    · exact e2
  · obtain ⟨a1, a2, a3, a4⟩ := st.owF a i e
    rw [Cxt.withD_H0, if_neg (ne a i e)] at a3 a4
    exact ⟨a1, a2, a3, a4⟩
/-- an object that no slot knows is written -/
theorem StR.wr {Dl : Addr} {o u : HO} (st : StR K c ρ σ S H) (h1 : H Dl = some u) (h2 : S.h Dl = none) (h3 : c.H0 Dl = none) (h4 : S.ow Dl = none) : StR K c ρ σ S (upd H Dl o) := by
  have ne : ∀ a i, S.ow a = some i → a ≠ Dl := fun a i q z => by
    rw [z, h4] at q
    cases q
  have same : ∀ i a, ownP S i a → upd H Dl o a = H a := fun i a q => upd_ne (ne a i q)
  refine ⟨fun a v e => ?_, st.old, fun a v e e2 b => ?_, fun a e => ?_, st.hs, st.len, st.val, fun i k e => ?_, fun i k e => ?_, st.exc, fun a i e => ?_⟩
  · rw [upd_ne fun z => by rw [z, h2] at e; cases e]
    exact st.sub _ _ e
  · rw [upd_ne fun z => by rw [z, h3] at e; cases e]
    exact st.keep a v e e2 b
  · by_cases q : a = Dl
    · subst q
      exact h3
    · rw [upd_ne q] at e
      exact st.live a e
  · obtain ⟨l, a1, a2⟩ := st.own i k e
    exact ⟨l, a1, a2.mono (Ex.refl _) (same i) fun _ q => q⟩
  · obtain ⟨l, a1, a2, a3⟩ := st.bor i k e
    exact ⟨l, a1, a2.mono (Ex.refl _) (same i) (fun _ q => q), a3⟩
  · obtain ⟨a1, a2, a3, a4⟩ := st.owF a i e
    exact ⟨a1, by rw [same i a e]; exact a2, a3, a4⟩
/-- behind a block: the block's own names hold what they held -/
theorem StR.backB {ρ1 ρf : Env} {S1 : Sh} {H1 : Hp} {own : List Nat} (st1 : StR K c ρ1 σ S1 H1) (s' : StR K c (wipeE ρf own) (L2.wipe σ own) S H) (e' : Ex S1.h S.h) : StR K c (backE ρ1 ρf own) σ S H := by
  have hl : σ.length = ρf.length := by
    have a := s'.len
    rw [wipe_length, wipeE_len] at a
    exact a
  have out : ∀ (j : Nat) s, ¬ j ∈ own → ρf[j]? = some s → (wipeE ρf own)[j]? = some s ∧ (L2.wipe σ own)[j]? = σ[j]? := fun j s hj h => ⟨by rw [wipeE_get, if_neg hj]; exact h, wipe_get _ _ _ hj⟩
  have inn : ∀ {s : Slot} (j : Nat), s = backS ρ1[j]? → (∃ d, s = .val d ∧ ρ1[j]? = some (.val d)) ∨ s = .un := fun {s} j h => by
    cases z : ρ1[j]? with
    | none =>
      rw [z] at h
      exact .inr h
    | some sl =>
      rw [z] at h
      cases sl with
      | val d => exact .inl ⟨d, h, rfl⟩
      | _ => exact .inr h
  refine ⟨s'.sub, s'.old, s'.keep, s'.live, s'.hs, by rw [backE_len]; exact hl, fun j d h => ?_, fun j k h => ?_, fun j k h => ?_, fun j e h => ?_, fun a j h => ?_⟩
  · rcases backE_get _ _ _ _ _ h with ⟨a, b⟩ | ⟨a, b⟩
    · rcases inn j b with ⟨d', z, z2⟩ | z
      · cases z
        obtain ⟨v, v1, v2⟩ := st1.val j d z2
        exact ⟨v, v1, v2.mono e'⟩
      · cases z
    · obtain ⟨o1, o2⟩ := out j _ a b
      rw [← o2]
      exact s'.val j d o1
  · rcases backE_get _ _ _ _ _ h with ⟨a, b⟩ | ⟨a, b⟩
    · rcases inn j b with ⟨d', z, z2⟩ | z <;> cases z
    · obtain ⟨o1, o2⟩ := out j _ a b
      rw [← o2]
      exact s'.own j k o1
  · rcases backE_get _ _ _ _ _ h with ⟨a, b⟩ | ⟨a, b⟩
    · rcases inn j b with ⟨d', z, z2⟩ | z <;> cases z
    · obtain ⟨o1, o2⟩ := out j _ a b
      rw [← o2]
      exact s'.bor j k o1
  · rcases backE_get _ _ _ _ _ h with ⟨a, b⟩ | ⟨a, b⟩
    · rcases inn j b with ⟨d', z, z2⟩ | z <;> cases z
    · obtain ⟨o1, o2⟩ := out j _ a b
      rw [← o2]
      exact s'.exc j e o1
  · obtain ⟨a1, a2, a3, a4⟩ := s'.owF a j h
    refine ⟨a1, a2, a3, ?_⟩
    have hj : ¬ j ∈ own := fun z => by
      rw [wipeE_get, if_pos z] at a4
      rcases a4 with ⟨⟨k, q⟩, _⟩ | ⟨⟨k, q⟩, _⟩ <;> (rw [Option.map_eq_some_iff] at q; obtain ⟨_, _, q⟩ := q; cases q)
    rw [wipeE_get, if_neg hj] at a4
    have bb : (backE ρ1 ρf own)[j]? = ρf[j]? := by
      have go : ∀ own : List Nat, ¬ j ∈ own → (backE ρ1 ρf own)[j]? = ρf[j]? := by
        intro own
        induction own with
        | nil => intro _; rfl
        | cons i r ih =>
          intro hh
          rw [List.mem_cons, not_or] at hh
          show ((backE ρ1 ρf r).set i (backS ρ1[i]?))[j]? = ρf[j]?
          rw [List.getElem?_set_ne (Ne.symm hh.1)]
          exact ih hh.2
      exact go own hj
    rw [bb]
    exact a4
/-- readings within a comprehension: for some entry from which no error leaves -/
def tIn (K : Fr) (t : T) : TT := fun σ H Q => ∃ c' : Cxt, c'.E = noErr ∧ ttOf K c' t σ H Q
def eIn (K : Fr) (e : E) : TE := fun σ H Q => ∃ c' : Cxt, c'.E = noErr ∧ tfOf K c' (val e) σ H Q
/-- one turn of a block, over an object at Dl that the block's code does not know -/
structure BlkSt (K : Fr) (c : Cxt) (σ : L2.St) (own : List Nat) (Hs1 : Hp) (Dl : Addr) (o : HO) (ρ' : Env) (S' : Sh) (H' : Hp) : Prop where
  st : StR K c (wipeE ρ' own) (L2.wipe σ own) S' H'
  ex : Ex Hs1 S'.h
  at_ : H' Dl = some o
  sh : S'.h Dl = none
  ow : S'.ow Dl = none
theorem ev_lc {wi : TI} {g : TG} {src : M (List D)} {tg : Tg} {is own : List Nat} {t : T} {e : E} (hw : Ev K c wi (pI K) src) (hg : ∀ c' : Cxt, EvG K c' g tg is) (hsub : ∀ i ∈ is, i ∈ own) :
    Ev K c (tLc wi g (tIn K t) (eIn K e) own) (pV K c) (eLc own src tg t e) := by
  refine ev_bind (u := fun σ (J : It) H1 (Q : VK) => ∀ Dl, H1 Dl = none → ∃ W : Nat → Nat → Hp → Prop, (∃ m, W 0 m (upd H1 Dl (.lst []))) ∧ ∀ i m H, W i m H →
    (J.stop i H ∧ Q (.ref Dl) H) ∨ (J.go i H ∧ ∃ Nx : Hp → Prop, (∀ H', Nx H' → ∃ m', m' < m ∧ W (i + 1) m' H') ∧ ∀ x H', J.yld i H x H' → g x (L2.wipe σ own) H' fun σ2 H2 => L2.wipe σ2 own = L2.wipe σ own ∧ tIn K t σ2 H2 fun b H3 =>
      if b = true then eIn K e σ2 H3 fun y H4 => ∃ acc, H4 Dl = some (.lst acc) ∧ acc.length < sizeLine ∧ Nx (upd H4 Dl (.lst (acc ++ [y]))) else Nx H3)) hw fun ds J ρ1 σ S1 H1 Q st1 it g1 Dl hDl => ?_
  obtain ⟨G, Y, w, hG, hY⟩ := it.ex
  have hD0 : c.H0 Dl = none := st1.live Dl hDl
  have hDs : S1.h Dl = none := st1.freshS hDl
  have hDs0 : c.Hs0 Dl = none := fresh_back st1.old hDs
  have hDo : S1.ow Dl = none := st1.freshO hDl
  have ridN : ∀ {S : Sh}, S.ow Dl = none → (S.ridL own).ow Dl = none := fun {S} h => by
    cases z : (S.ridL own).ow Dl with
    | none => rfl
    | some j =>
      rw [(Sh.ridL_some.mp z).1] at h
      cases h
  cases hcmp : comp own tg t e ds [] ρ1 with
  | bad =>
    simp only [hcmp] at g1
    exact g1.elim
  | err er ρ' =>
    simp only [hcmp] at g1
    exact g1.elim
  | ok ys ρf =>
    simp only [hcmp] at g1
    refine lc_it w (fun i H' => ∃ acc accV ρ' S', BlkSt K c σ own S1.h Dl (.lst accV) ρ' S' H' ∧ Rs K S'.h accV acc ∧ comp own tg t e (ds.drop i) acc ρ' = .ok ys ρf)
      ⟨[], [], ρ1, S1.ridL own, ⟨(st1.newO hDl).wipe own, Ex.refl _, upd_same, hDs, ridN hDo⟩, .nil, by rw [List.drop_zero]; exact hcmp⟩ (fun i H' _ ⟨acc, accV, ρ', S', b, _⟩ => hG _ (b.ex.trans b.st.subE)) ?_ ?_
    · rintro i x H2 H3 hi ⟨acc, accV, ρ', S', ⟨s', e', hD, hn, ho⟩, rs, hc⟩ y
      obtain ⟨d, h1, h2⟩ := hY i H2 x H3 hi (e'.trans s'.subE) y
      obtain ⟨S2, s2, e2, r2⟩ := (s'.toD hD hn ho).turn e' h2
      have hd : ds.drop i = d :: ds.drop (i + 1) := by
        obtain ⟨hl, hx⟩ := List.getElem?_eq_some_iff.mp h1
        rw [List.drop_eq_getElem_cons hl, hx]
      rw [hd] at hc
      simp only [comp] at hc
      cases q : tg d (wipeE ρ' own) with
      | none =>
        simp only [q] at hc
        cases hc
      | some ρ2 =>
        simp only [q] at hc
        refine hg _ (wipeE ρ' own) (L2.wipe σ own) S2 H3 x d ρ2 _ s2 r2 q fun σ2 S3 eS s3 hj hl2 => ?_
        have hw2 : L2.wipe σ2 own = L2.wipe σ own := by
          rw [wipe_same (σ := L2.wipe σ own) hl2 fun j hj' => hj j fun z => hj' (hsub j z), wipe_wipe]
        have e23 : Ex S'.h S3.h := by rw [eS]; exact e2
        refine ⟨hw2, c.withD Dl (.lst accV), rfl, ρ2, S3, s3, ?_⟩
        -- the turn's end
        have fin : ∀ {ρ4 : Env} {S4 : Sh} {H4 : Hp}, StR K (c.withD Dl (.lst accV)) ρ4 σ2 S4 H4 → StR K c (wipeE ρ4 own) (L2.wipe σ own) (S4.ridL own) H4 ∧ H4 Dl = some (.lst accV) ∧ S4.h Dl = none ∧ (S4.ridL own).ow Dl = none := fun {ρ4 S4 H4} s4 => by
          obtain ⟨_, q1, q2, q3⟩ := s4.fromD hD0 hDs0
          have s6 := s4.wipe own
          rw [hw2] at s6
          obtain ⟨s7, _, _, q4⟩ := s6.fromD hD0 hDs0
          exact ⟨s7, q1, q2, q4⟩
        cases z : t ρ2 with
        | bad =>
          simp only [z] at hc
          cases hc
        | err er ρ3 =>
          simp only [z] at hc
          cases hc
        | ok b ρ3 =>
          intro b' S4 H4 s4 e4 p4
          obtain rfl : b' = b := p4
          cases b' with
          | false =>
            simp only [z] at hc
            rw [if_neg Bool.false_ne_true]
            obtain ⟨s7, q1, q2, q4⟩ := fin s4
            exact ⟨acc, accV, ρ3, S4.ridL own, ⟨s7, (e'.trans e23).trans e4, q1, q2, q4⟩, rs.mono (e23.trans e4), hc⟩
          | true =>
            simp only [z] at hc
            rw [if_pos rfl]
            refine ⟨c.withD Dl (.lst accV), rfl, ρ3, S4, s4, ?_⟩
            cases ze : val e ρ3 with
            | bad =>
              simp only [ze] at hc
              cases hc
            | err er ρ4 =>
              simp only [ze] at hc
              cases hc
            | ok yv ρ4 =>
              simp only [ze] at hc
              split at hc
              · rename_i hl
                intro v S5 H5 s5 e5 r5
                obtain ⟨s7, q1, q2, q4⟩ := fin s5
                refine ⟨accV, q1, Evl.sz_lt (by rw [rs.length]; exact hl), acc ++ [yv], accV ++ [v], ρ4, S5.ridL own, ⟨s7.wr q1 q2 hD0 q4, ((e'.trans e23).trans e4).trans e5, upd_same, q2, q4⟩, (rs.mono ((e23.trans e4).trans e5)).append (.cons r5 .nil), hc⟩
              · cases hc
    · rintro H2 ⟨acc, accV, ρ', S', ⟨s', e', hD, hn, ho⟩, rs, hc⟩
      rw [List.drop_length] at hc
      simp only [comp] at hc
      cases hc
      refine g1 (.ref Dl) S' H2 (st1.backB s' e') e' ⟨Dl, (· = Dl), rfl, ⟨rfl, accV, hD, rs⟩, fun a q => ?_⟩
      have q : a = Dl := q
      subst q
      exact ⟨hn, by rw [hD]; exact (fun z => nomatch z), hD0, ho⟩
end
end Dn
set_option Elab.async false
set_option linter.all false
set_option maxRecDepth 100000
set_option maxHeartbeats 4000000
/-! Dict comprehensions. -/
namespace Dn
open PySem L2
section
variable {K : Fr} {c : Cxt}
theorem ContL.eq {Hs H : Hp} {P P' : Addr → Prop} {l : Addr} {k : Lf} (h : ContL K Hs H P l k) (e : ∀ a, P a → P' a) : ContL K Hs H P' l k := h.mono (Ex.refl _) (fun _ _ => rfl) e
theorem ev_dc {wi : TI} {g : TG} {src : M (List D)} {tg : Tg} {is own : List Nat} {t : T} {ke ve : E} (hw : Ev K c wi (pI K) src) (hg : ∀ c' : Cxt, EvG K c' g tg is) (hsub : ∀ i ∈ is, i ∈ own) :
    Ev K c (tDcA K wi g (tIn K t) (eIn K ke) (eIn K ve) own) (pV K c) (eDc own src tg t ke ve) := by
  refine ev_bind (u := fun σ (J : It) H1 (Q : VK) => ∀ Dl, H1 Dl = none → ∃ W : Nat → Nat → Hp → Prop, (∃ m, W 0 m (upd H1 Dl (.dK []))) ∧ ∀ i m H, W i m H →
    (J.stop i H ∧ Q (.ref Dl) H) ∨ (J.go i H ∧ ∃ Nx : Hp → Prop, (∀ H', Nx H' → ∃ m', m' < m ∧ W (i + 1) m' H') ∧ ∀ x H', J.yld i H x H' → dcTurn K g (tIn K t) (eIn K ke) (eIn K ve) own σ Dl x Nx H')) hw fun ds J ρ1 σ S1 H1 Q st1 it g1 Dl hDl => ?_
  obtain ⟨G, Y, w, hG, hY⟩ := it.ex
  have hD0 : c.H0 Dl = none := st1.live Dl hDl
  have hDs : S1.h Dl = none := st1.freshS hDl
  have hDs0 : c.Hs0 Dl = none := fresh_back st1.old hDs
  have hDo : S1.ow Dl = none := st1.freshO hDl
  have ridN : ∀ {S : Sh}, S.ow Dl = none → (S.ridL own).ow Dl = none := fun {S} h => by
    cases z : (S.ridL own).ow Dl with
    | none => rfl
    | some j =>
      rw [(Sh.ridL_some.mp z).1] at h
      cases h
  cases hcmp : compD own tg t ke ve ds [] ρ1 with
  | bad =>
    simp only [hcmp] at g1
    exact g1.elim
  | err er ρ' =>
    simp only [hcmp] at g1
    exact g1.elim
  | ok ys ρf =>
    simp only [hcmp] at g1
    let P : Nat → Hp → Prop := fun i H' => ∃ acc o ρ' S', BlkSt K c σ own S1.h Dl o ρ' S' H' ∧ ContL K S'.h H' (· = Dl) Dl (.dic acc) ∧ compD own tg t ke ve (ds.drop i) acc ρ' = .ok ys ρf
    refine ⟨fun i m H' => m = ds.length - i ∧ i ≤ ds.length ∧ P i H', ⟨ds.length, by simp, Nat.zero_le _, [], .dK [], ρ1, S1.ridL own, ⟨(st1.newO hDl).wipe own, Ex.refl _, upd_same, hDs, ridN hDo⟩, ⟨rfl, .inl ⟨[], upd_same, .nil⟩⟩, by rw [List.drop_zero]; exact hcmp⟩, ?_⟩
    rintro i m H2 ⟨rfl, hi, acc, o, ρ', S', ⟨s', e', hD, hn, ho⟩, rs, hc⟩
    by_cases hlt : i < ds.length
    · refine .inr ⟨w.goes i H2 hlt (hG _ (e'.trans s'.subE)), P (i + 1), fun H' p => ⟨ds.length - (i + 1), by omega, rfl, hlt, p⟩, fun x H3 y0 => ?_⟩
      have y := w.yields i H2 x H3 hlt (hG _ (e'.trans s'.subE)) y0
      obtain ⟨d, h1, h2⟩ := hY i H2 x H3 hlt (e'.trans s'.subE) y
      obtain ⟨S2, s2, e2, r2⟩ := (s'.toD hD hn ho).turn e' h2
      have hd : ds.drop i = d :: ds.drop (i + 1) := by
        obtain ⟨hl, hx⟩ := List.getElem?_eq_some_iff.mp h1
        rw [List.drop_eq_getElem_cons hl, hx]
      rw [hd] at hc
      simp only [compD] at hc
      cases q : tg d (wipeE ρ' own) with
      | none =>
        simp only [q] at hc
        cases hc
      | some ρ2 =>
        simp only [q] at hc
        unfold dcTurn
        refine hg _ (wipeE ρ' own) (L2.wipe σ own) S2 H3 x d ρ2 _ s2 r2 q fun σ2 S3 eS s3 hj hl2 => ?_
        have hw2 : L2.wipe σ2 own = L2.wipe σ own := by
          rw [wipe_same (σ := L2.wipe σ own) hl2 fun j hj' => hj j fun z => hj' (hsub j z), wipe_wipe]
        have e23 : Ex S'.h S3.h := by rw [eS]; exact e2
        refine ⟨hw2, c.withD Dl o, rfl, ρ2, S3, s3, ?_⟩
        have fin : ∀ {ρ4 : Env} {S4 : Sh} {H4 : Hp}, StR K (c.withD Dl o) ρ4 σ2 S4 H4 → StR K c (wipeE ρ4 own) (L2.wipe σ own) (S4.ridL own) H4 ∧ H4 Dl = some o ∧ S4.h Dl = none ∧ (S4.ridL own).ow Dl = none := fun {ρ4 S4 H4} s4 => by
          obtain ⟨_, q1, q2, q3⟩ := s4.fromD hD0 hDs0
          have s6 := s4.wipe own
          rw [hw2] at s6
          obtain ⟨s7, _, _, q4⟩ := s6.fromD hD0 hDs0
          exact ⟨s7, q1, q2, q4⟩
        have keepC : ∀ {S4 : Sh} {H4 : Hp}, Ex S'.h S4.h → H4 Dl = some o → ContL K S4.h H4 (· = Dl) Dl (.dic acc) := fun {S4 H4} ex e => rs.mono ex (fun a q => by
          have q : a = Dl := q
          rw [q, e, hD]) fun _ q => q
        cases z : t ρ2 with
        | bad =>
          simp only [z] at hc
          cases hc
        | err er ρ3 =>
          simp only [z] at hc
          cases hc
        | ok b ρ3 =>
          intro b' S4 H4 s4 e4 p4
          obtain rfl : b' = b := p4
          cases b' with
          | false =>
            simp only [z] at hc
            rw [if_neg Bool.false_ne_true]
            obtain ⟨s7, q1, q2, q4⟩ := fin s4
            exact ⟨acc, o, ρ3, S4.ridL own, ⟨s7, (e'.trans e23).trans e4, q1, q2, q4⟩, keepC (e23.trans e4) q1, hc⟩
          | true =>
            simp only [z] at hc
            rw [if_pos rfl]
            refine ⟨c.withD Dl o, rfl, ρ3, S4, s4, ?_⟩
            cases zk : val ke ρ3 with
            | bad =>
              simp only [zk] at hc
              cases hc
            | err er ρ4 =>
              simp only [zk] at hc
              cases hc
            | ok kd ρ4 =>
              simp only [zk] at hc
              intro kv S5 H5 s5 e5 r5
              refine ⟨c.withD Dl o, rfl, ρ4, S5, s5, ?_⟩
              cases zv : val ve ρ4 with
              | bad =>
                simp only [zv] at hc
                cases hc
              | err er ρ5 =>
                simp only [zv] at hc
                cases hc
              | ok yd ρ5 =>
                simp only [zv] at hc
                split at hc
                · rename_i hl
                  simp only [Bool.and_eq_true, decide_eq_true_eq] at hl
                  intro v S6 H6 s6 e6 r6
                  obtain ⟨s7, q1, q2, q4⟩ := fin s6
                  have e36 : Ex S'.h S6.h := ((e23.trans e4).trans e5).trans e6
                  obtain ⟨o', z1, z2⟩ := dict_put (keepC e36 q1) s6.subE (r5.mono e6) hl.1 hl.2 r6
                  exact ⟨_, z1, dPut acc kd yd, o', ρ5, S6.ridL own, ⟨s7.wr q1 q2 hD0 q4, e'.trans e36, upd_same, q2, q4⟩, z2, hc⟩
                · cases hc
    · have hi2 : i = ds.length := by omega
      subst hi2
      refine .inl ⟨w.stops H2 (hG _ (e'.trans s'.subE)), ?_⟩
      rw [List.drop_length] at hc
      simp only [compD] at hc
      cases hc
      refine g1 (.ref Dl) S' H2 (st1.backB s' e') e' ⟨Dl, (· = Dl), rfl, rs, fun a q => ?_⟩
      have q : a = Dl := q
      subst q
      exact ⟨hn, by rw [hD]; exact (fun z => nomatch z), hD0, ho⟩
end
end Dn
set_option Elab.async false
set_option linter.all false
set_option maxRecDepth 100000
set_option maxHeartbeats 4000000
/-! Defs and their calls. -/
namespace Dn
open PySem L2
inductive Ra (K : Fr) (S : Hp) (σ : L2.St) : List (D ⊕ Nat) → List V → Prop
  | nil : Ra K S σ [] []
  | val {d : D} {v : V} {xs : List (D ⊕ Nat)} {vs : List V} : R K S v d → Ra K S σ xs vs → Ra K S σ (.inl d :: xs) (v :: vs)
  | bor {i : Nat} {v : V} {xs : List (D ⊕ Nat)} {vs : List V} : σ[i]? = some (some v) → Ra K S σ xs vs → Ra K S σ (.inr i :: xs) (v :: vs)
section
variable {K : Fr} {S S' : Hp} {σ : L2.St}
theorem Ra.mono (e : Ex S S') {xs : List (D ⊕ Nat)} {vs : List V} (h : Ra K S σ xs vs) : Ra K S' σ xs vs := by
  induction h with
  | nil => exact .nil
  | val r _ ih => exact .val (r.mono e) ih
  | bor r _ ih => exact .bor r ih
theorem Ra.length {xs : List (D ⊕ Nat)} {vs : List V} (h : Ra K S σ xs vs) : vs.length = xs.length := by
  induction h with
  | nil => rfl
  | val r _ ih => simp only [List.length_cons, ih]
  | bor r _ ih => simp only [List.length_cons, ih]
theorem Ra.at_l {xs : List (D ⊕ Nat)} {vs : List V} (h : Ra K S σ xs vs) : ∀ {j : Nat} {d : D}, xs[j]? = some (.inl d) → ∃ v, vs[j]? = some v ∧ R K S v d := by
  induction h with
  | nil => intro j d h; simp at h
  | val r _ ih =>
    intro j d h
    cases j with
    | zero =>
      simp at h
      subst h
      exact ⟨_, rfl, r⟩
    | succ j => exact ih (j := j) (by simpa using h)
  | bor r _ ih =>
    intro j d h
    cases j with
    | zero => simp at h
    | succ j => exact ih (j := j) (by simpa using h)
theorem Ra.at_r {xs : List (D ⊕ Nat)} {vs : List V} (h : Ra K S σ xs vs) : ∀ {j i : Nat}, xs[j]? = some (.inr i) → ∃ v, vs[j]? = some v ∧ σ[i]? = some (some v) := by
  induction h with
  | nil => intro j d h; simp at h
  | val r _ ih =>
    intro j d h
    cases j with
    | zero => simp at h
    | succ j => exact ih (j := j) (by simpa using h)
  | bor r _ ih =>
    intro j d h
    cases j with
    | zero =>
      simp at h
      subst h
      exact ⟨_, rfl, r⟩
    | succ j => exact ih (j := j) (by simpa using h)
end
def pA (K : Fr) : L2.St → List (D ⊕ Nat) → Sh → Hp → List V → Prop := fun σ xs S _ vs => Ra K S.h σ xs vs
section
variable {K : Fr} {c : Cxt}
theorem ev_anil : Ev K c tNil (pA K) (argv []) := fun ρ σ S H Q st g => g [] S H st (Ex.refl _) .nil
theorem ev_aval {te : TE} {tr : TA} {m : E} {as : List Ar} (h : Ev K c te (pV K c) m) (hr : Ev K c tr (pA K) (argv as)) : Ev K c (tCons te tr) (pA K) (argv (.v m :: as)) := by
  refine ev_bind (u := fun σ x H Q => tr σ H fun xs H2 => Q (x :: xs) H2) (ev_val h) fun x vx ρ σ S H Q st r g => ?_
  refine hr ρ σ S H (fun xs H2 => Q (vx :: xs) H2) st ?_
  unfold bind at g
  cases e : argv as ρ with
  | bad =>
    rw [e] at g
    exact g
  | err er ρ' =>
    rw [e] at g
    exact g
  | ok ys ρ' =>
    rw [e] at g
    exact fun vs S' H' st' ex p => g (vx :: vs) S' H' st' ex (.val (r.mono ex) p)
theorem ev_abor {tr : TA} {i : Nat} {as : List Ar} (hr : Ev K c tr (pA K) (argv as)) : Ev K c (tCons (tVar i) tr) (pA K) (argv (.b i :: as)) := by
  intro ρ σ S H Q st g
  unfold argv at g
  split at g
  · rename_i hC
    obtain ⟨l, h1⟩ := st.contAt hC
    refine ⟨.ref l, h1, hr ρ σ S H (fun xs H2 => Q (.ref l :: xs) H2) st ?_⟩
    unfold bind at g
    cases e : argv as ρ with
    | bad =>
      rw [e] at g
      exact g
    | err er ρ' =>
      rw [e] at g
      exact g
    | ok ys ρ' =>
      rw [e] at g
      exact fun vs S' H' st' ex p => g (.ref l :: vs) S' H' st' ex (.bor h1 p)
  · exact g.elim

theorem lend_len {ρ : Env} : ∀ {xs : List (D ⊕ Nat)} {sl : List Slot}, lend ρ xs = some sl → sl.length = xs.length
  | [], _, h => by
    cases h
    rfl
  | .inl d :: r, _, h => by
    simp only [lend, Option.map_eq_some_iff] at h
    obtain ⟨t, h1, rfl⟩ := h
    simp only [List.length_cons, lend_len h1]
  | .inr i :: r, _, h => by
    simp only [lend] at h
    split at h
    · rw [Option.map_eq_some_iff] at h
      obtain ⟨t, h1, rfl⟩ := h
      simp only [List.length_cons, lend_len h1]
    · rw [Option.map_eq_some_iff] at h
      obtain ⟨t, h1, rfl⟩ := h
      simp only [List.length_cons, lend_len h1]
    · cases h
/-- what a lent list of slots says -/
theorem lend_at {ρ : Env} : ∀ {xs : List (D ⊕ Nat)} {sl : List Slot} {j : Nat} {s : Slot}, lend ρ xs = some sl → sl[j]? = some s → (∃ d, s = .val d ∧ xs[j]? = some (.inl d)) ∨ ∃ i k, s = .bor k ∧ xs[j]? = some (.inr i) ∧ (ρ[i]? = some (.own k) ∨ ρ[i]? = some (.bor k))
  | [], _, j, s, h, q => by
    cases h
    simp at q
  | .inl d :: r, _, j, s, h, q => by
    simp only [lend, Option.map_eq_some_iff] at h
    obtain ⟨t, h1, rfl⟩ := h
    cases j with
    | zero =>
      simp at q
      exact .inl ⟨d, q.symm, rfl⟩
    | succ j => exact lend_at (j := j) h1 (by simpa using q)
  | .inr i :: r, _, j, s, h, q => by
    simp only [lend] at h
    split at h
    · rename_i k hk
      rw [Option.map_eq_some_iff] at h
      obtain ⟨t, h1, rfl⟩ := h
      cases j with
      | zero =>
        simp at q
        exact .inr ⟨i, k, q.symm, rfl, .inl hk⟩
      | succ j => exact lend_at (j := j) h1 (by simpa using q)
    · rename_i k hk
      rw [Option.map_eq_some_iff] at h
      obtain ⟨t, h1, rfl⟩ := h
      cases j with
      | zero =>
        simp at q
        exact .inr ⟨i, k, q.symm, rfl, .inr hk⟩
      | succ j => exact lend_at (j := j) h1 (by simpa using q)
    · cases h
theorem mem_idxs : ∀ {xs : List (D ⊕ Nat)} {j i : Nat}, xs[j]? = some (.inr i) → i ∈ idxs xs
  | [], _, _, h => by simp at h
  | .inl d :: r, 0, _, h => by simp at h
  | .inr k :: r, 0, i, h => by
    simp at h
    subst h
    simp only [idxs]
    exact List.mem_cons_self
  | .inl d :: r, j + 1, i, h => by
    simp only [idxs]
    exact mem_idxs (j := j) (by simpa using h)
  | .inr k :: r, j + 1, i, h => by
    simp only [idxs]
    exact List.mem_cons_of_mem _ (mem_idxs (j := j) (by simpa using h))
theorem idxs_inj : ∀ {xs : List (D ⊕ Nat)} {j m i : Nat}, (idxs xs).Nodup → xs[j]? = some (.inr i) → xs[m]? = some (.inr i) → j = m
  | [], _, _, _, _, h, _ => by simp at h
  | .inl d :: r, 0, _, _, _, h, _ => by simp at h
  | .inl d :: r, _ + 1, 0, _, _, _, h => by simp at h
  | .inl d :: r, j + 1, m + 1, i, n, h, g => by
    simp only [idxs] at n
    rw [idxs_inj (j := j) (m := m) n (by simpa using h) (by simpa using g)]
  | .inr k :: r, 0, 0, _, _, _, _ => rfl
  | .inr k :: r, 0, m + 1, i, n, h, g => by
    simp only [idxs, List.nodup_cons] at n
    simp at h
    subst h
    exact absurd (mem_idxs (j := m) (by simpa using g)) n.1
  | .inr k :: r, j + 1, 0, i, n, g, h => by
    simp only [idxs, List.nodup_cons] at n
    simp at h
    subst h
    exact absurd (mem_idxs (j := j) (by simpa using g)) n.1
  | .inr k :: r, j + 1, m + 1, i, n, h, g => by
    simp only [idxs, List.nodup_cons] at n
    rw [idxs_inj (j := j) (m := m) n.2 (by simpa using h) (by simpa using g)]
theorem takeB_len (ρ : Env) : ∀ (xs : List (D ⊕ Nat)) (sl : List Slot), (takeB ρ xs sl).length = ρ.length
  | [], _ => by simp [takeB]
  | .inl d :: r, [] => by simp only [takeB, takeB_len ρ r []]
  | .inl d :: r, s :: sl => by simp only [takeB, takeB_len ρ r sl]
  | .inr i :: r, [] => by simp only [takeB, List.length_set, takeB_len ρ r []]
  | .inr i :: r, s :: sl => by simp only [takeB, List.length_set, takeB_len ρ r sl]
theorem takeB_at (ρ : Env) : ∀ (xs : List (D ⊕ Nat)) (sl : List Slot) (i : Nat) (s : Slot), (takeB ρ xs sl)[i]? = some s → (¬ i ∈ idxs xs ∧ ρ[i]? = some s) ∨ (s = .un) ∨ ∃ (j : Nat) (s0 : Slot), xs[j]? = some (Sum.inr i) ∧ sl[j]? = some s0 ∧ s = back1 ρ[i]? s0
  | [], _, i, s, h => by
    simp only [takeB] at h
    exact .inl ⟨by simp [idxs], h⟩
  | .inl d :: r, [], i, s, h => by
    simp only [takeB] at h
    rcases takeB_at ρ r [] i s h with a | a | ⟨j, s0, a, b, e⟩
    · exact .inl a
    · exact .inr (.inl a)
    · simp at b
  | .inl d :: r, s1 :: sl, i, s, h => by
    simp only [takeB] at h
    rcases takeB_at ρ r sl i s h with a | a | ⟨j, s0, a, b, e⟩
    · exact .inl a
    · exact .inr (.inl a)
    · exact .inr (.inr ⟨j + 1, s0, by simpa using a, by simpa using b, e⟩)
  | .inr k :: r, [], i, s, h => by
    simp only [takeB] at h
    rcases get_set h with ⟨rfl, e⟩ | ⟨hn, h'⟩
    · exact .inr (.inl e)
    · rcases takeB_at ρ r [] i s h' with ⟨a, b⟩ | a | ⟨j, s0, a, b, e⟩
      · refine .inl ⟨?_, b⟩
        simp only [idxs, List.mem_cons]
        exact fun z => z.elim hn a
      · exact .inr (.inl a)
      · simp at b
  | .inr k :: r, s1 :: sl, i, s, h => by
    simp only [takeB] at h
    rcases get_set h with ⟨rfl, e⟩ | ⟨hn, h'⟩
    · exact .inr (.inr ⟨0, s1, rfl, rfl, e⟩)
    · rcases takeB_at ρ r sl i s h' with ⟨a, b⟩ | a | ⟨j, s0, a, b, e⟩
      · refine .inl ⟨?_, b⟩
        simp only [idxs, List.mem_cons]
        exact fun z => z.elim hn a
      · exact .inr (.inl a)
      · exact .inr (.inr ⟨j + 1, s0, by simpa using a, by simpa using b, e⟩)

theorem takeB_out {ρ : Env} {i : Nat} : ∀ {xs : List (D ⊕ Nat)} {sl : List Slot}, ¬ i ∈ idxs xs → (takeB ρ xs sl)[i]? = ρ[i]?
  | [], _, _ => by simp only [takeB]
  | .inl d :: r, [], h => by
    simp only [takeB]
    exact takeB_out (xs := r) (by simpa only [idxs] using h)
  | .inl d :: r, s :: sl, h => by
    simp only [takeB]
    exact takeB_out (xs := r) (by simpa only [idxs] using h)
  | .inr k :: r, [], h => by
    simp only [idxs, List.mem_cons, not_or] at h
    simp only [takeB]
    rw [List.getElem?_set_ne (Ne.symm h.1)]
    exact takeB_out h.2
  | .inr k :: r, s :: sl, h => by
    simp only [idxs, List.mem_cons, not_or] at h
    simp only [takeB]
    rw [List.getElem?_set_ne (Ne.symm h.1)]
    exact takeB_out h.2
theorem takeB_in {ρ : Env} {i : Nat} {s s0 : Slot} : ∀ {xs : List (D ⊕ Nat)} {sl : List Slot} {j : Nat}, (idxs xs).Nodup → xs[j]? = some (.inr i) → sl[j]? = some s0 → (takeB ρ xs sl)[i]? = some s → s = back1 ρ[i]? s0
  | [], _, _, _, h, _, _ => by simp at h
  | _ :: _, [], _, _, _, h, _ => by simp at h
  | .inl d :: r, t :: sl, 0, _, h, _, _ => by simp at h
  | .inl d :: r, t :: sl, j + 1, n, h, h2, h3 => by
    simp only [takeB] at h3
    exact takeB_in (xs := r) (j := j) (by simpa only [idxs] using n) (by simpa using h) (by simpa using h2) h3
  | .inr k :: r, t :: sl, 0, _, h, h2, h3 => by
    simp at h h2
    subst h h2
    simp only [takeB] at h3
    rcases get_set h3 with ⟨_, e⟩ | ⟨e, _⟩
    · exact e
    · exact absurd rfl e
  | .inr k :: r, t :: sl, j + 1, n, h, h2, h3 => by
    simp only [idxs, List.nodup_cons] at n
    have h' : r[j]? = some (.inr i) := by simpa using h
    simp only [takeB] at h3
    rcases get_set h3 with ⟨e, _⟩ | ⟨_, e⟩
    · exact absurd (mem_idxs h') (by rw [e]; exact n.1)
    · exact takeB_in n.2 h' (by simpa using h2) e
theorem isC_of_lend {ρ : Env} {xs : List (D ⊕ Nat)} {sl : List Slot} {i j : Nat} (hl : lend ρ xs = some sl) (h : xs[j]? = some (.inr i)) : (∃ k0, ρ[i]? = some (.own k0)) ∨ ∃ k0, ρ[i]? = some (.bor k0) := by
  have hs : ∃ s, sl[j]? = some s := ⟨_, List.getElem?_eq_getElem (by rw [lend_len hl]; exact lt_of_get h)⟩
  obtain ⟨s, hs⟩ := hs
  rcases lend_at hl hs with ⟨d', e, h1⟩ | ⟨i', k', e, h1, h2⟩
  · rw [h] at h1
    cases h1
  · rw [h] at h1
    cases h1
    exact h2.imp (fun z => ⟨_, z⟩) fun z => ⟨_, z⟩
/-- where slot i is lent -/
def posA : List (D ⊕ Nat) → Nat → Option Nat
  | [], _ => none
  | .inl _ :: r, i => (posA r i).map (· + 1)
  | .inr k :: r, i => if k = i then some 0 else (posA r i).map (· + 1)
theorem posA_some : ∀ {xs : List (D ⊕ Nat)} {i j : Nat}, posA xs i = some j → xs[j]? = some (.inr i)
  | [], _, _, h => by cases h
  | .inl d :: r, i, j, h => by
    simp only [posA, Option.map_eq_some_iff] at h
    obtain ⟨k, h1, rfl⟩ := h
    simpa using posA_some h1
  | .inr k :: r, i, j, h => by
    simp only [posA] at h
    split at h
    · rename_i e
      cases h
      subst e
      rfl
    · rw [Option.map_eq_some_iff] at h
      obtain ⟨m, h1, rfl⟩ := h
      simpa using posA_some h1
theorem posA_of : ∀ {xs : List (D ⊕ Nat)} {i j : Nat}, (idxs xs).Nodup → xs[j]? = some (.inr i) → posA xs i = some j := fun {xs i j} n h => by
  have go : ∀ {xs : List (D ⊕ Nat)} {j : Nat}, xs[j]? = some (.inr i) → ∃ m, posA xs i = some m := by
    intro xs
    induction xs with
    | nil =>
      intro j h
      simp at h
    | cons x r ih =>
      intro j h
      cases x with
      | inl d =>
        cases j with
        | zero => simp at h
        | succ j =>
          obtain ⟨m, hm⟩ := ih (j := j) (by simpa using h)
          exact ⟨m + 1, by simp only [posA, hm, Option.map_some]⟩
      | inr k =>
        by_cases e : k = i
        · exact ⟨0, by simp only [posA, if_pos e]⟩
        · cases j with
          | zero =>
            simp at h
            exact absurd h e
          | succ j =>
            obtain ⟨m, hm⟩ := ih (j := j) (by simpa using h)
            exact ⟨m + 1, by simp only [posA, if_neg e, hm, Option.map_some]⟩
  obtain ⟨m, hm⟩ := go h
  rw [hm, idxs_inj n (posA_some hm) h]
theorem posA_mem {xs : List (D ⊕ Nat)} {i j : Nat} (h : posA xs i = some j) : i ∈ idxs xs := mem_idxs (posA_some h)
/-- a def's promise: what its denotation says -/
abbrev entry (vs : List V) (Hs H : Hp) (B : Nat → Addr → Prop) (E : XK) (hB : ∀ i a, B i a → H a ≠ none ∧ Hs a = none) : Cxt := ⟨vs, Hs, H, B, fun cls d _ H' => E cls d H', none, hB⟩
def spF (K : Fr) (n : Nat) (F : FD) : Sp := fun vs H Q E => vs.length = n ∧ ∃ (S : Sh) (as : List Slot) (B : Nat → Addr → Prop) (hB : ∀ i a, B i a → H a ≠ none ∧ S.h a = none),
  StR K (entry vs S.h H B E hB) as (vs.map some) S H ∧ Goal K (entry vs S.h H B E hB) (vs.map some) S (pV K (entry vs S.h H B E hB) (vs.map some)) (F as) Q
theorem map_get {vs : List V} {j : Nat} {v : V} (h : vs[j]? = some v) : (vs.map some)[j]? = some (some v) := by
  rw [List.getElem?_map, h]
  rfl
theorem get_map {vs : List V} {j : Nat} {v : V} (h : (vs.map some)[j]? = some (some v)) : vs[j]? = some v := by
  rw [List.getElem?_map, Option.map_eq_some_iff] at h
  obtain ⟨u, h1, h2⟩ := h
  cases h2
  exact h1
/-- whose things the callee may change: those of the slots that are lent -/
def lentB (S : Sh) (xs : List (D ⊕ Nat)) : Nat → Addr → Prop := fun j a => ∃ i, S.ow a = some i ∧ posA xs i = some j
def lentSh (S : Sh) (xs : List (D ⊕ Nat)) : Sh := ⟨S.h, fun a => (S.ow a).bind (posA xs)⟩
theorem lentSh_some {S : Sh} {xs : List (D ⊕ Nat)} {a : Addr} {j : Nat} : (lentSh S xs).ow a = some j ↔ lentB S xs j a := by
  unfold lentSh lentB
  simp only [Option.bind_eq_some_iff]
/-- back in the caller -/
noncomputable def backSh (S S' : Sh) (xs : List (D ⊕ Nat)) (sl' : List Slot) : Sh := ⟨S'.h, fun a => match S'.ow a with
  | some j => (match xs[j]?, sl'[j]? with
    | some (.inr i), some (.bor _) => some i
    | _, _ => none)
  | none => match S.ow a with
    | some i => open Classical in if i ∈ idxs xs then none else some i
    | none => none⟩
theorem hB_of {ρ : Env} {σ : L2.St} {S : Sh} {H : Hp} {xs : List (D ⊕ Nat)} (st : StR K c ρ σ S H) : ∀ i a, lentB S xs i a → H a ≠ none ∧ S.h a = none := fun j a ⟨i, h1, _⟩ => ⟨(st.owF a i h1).2.1, (st.owF a i h1).1⟩
/-- the callee's entry -/
theorem StR.lend {ρ : Env} {σ : L2.St} {S : Sh} {H : Hp} {xs : List (D ⊕ Nat)} {sl : List Slot} {vs : List V} {E : XK} (st : StR K c ρ σ S H) (hnd : (idxs xs).Nodup) (ra : Ra K S.h σ xs vs) (hl : Dn.lend ρ xs = some sl) :
    StR K (entry vs S.h H (lentB S xs) E (hB_of st)) sl (vs.map some) (lentSh S xs) H := by
  have hvl : vs.length = sl.length := by rw [ra.length, lend_len hl]
  refine ⟨st.sub, Ex.refl _, fun a o h _ _ => h, fun a h => h, fun a h _ _ => h, by rw [List.length_map]; exact hvl, fun j d h => ?_, fun j k h => ?_, fun j k h => ?_, fun j e h => ?_, fun a j h => ?_⟩
  · rcases lend_at hl h with ⟨d', e, h1⟩ | ⟨i, k', e, _⟩
    · cases e
      obtain ⟨v, a1, a2⟩ := ra.at_l h1
      exact ⟨v, map_get a1, a2⟩
    · cases e
  · rcases lend_at hl h with ⟨d', e, h1⟩ | ⟨i, k', e, _⟩ <;> cases e
  · rcases lend_at hl h with ⟨d', e, h1⟩ | ⟨i, k', e, h1, h2⟩
    · cases e
    · cases e
      obtain ⟨v, a1, a2⟩ := ra.at_r h1
      have own : ∃ l, σ[i]? = some (some (.ref l)) ∧ ContR K S.h H (ownP S i) l k := by
        rcases h2 with h2 | h2
        · exact st.own i k h2
        · obtain ⟨l, b1, b2, _⟩ := st.bor i k h2
          exact ⟨l, b1, b2⟩
      obtain ⟨l, b1, b2⟩ := own
      rw [a2] at b1
      cases b1
      exact ⟨l, map_get a1, b2.mono (Ex.refl _) (fun _ _ => rfl) fun a q => lentSh_some.mpr ⟨i, q, posA_of hnd h1⟩, a1⟩
  · rcases lend_at hl h with ⟨d', e, h1⟩ | ⟨i, k', e, _⟩ <;> cases e
  · obtain ⟨i, h1, h2⟩ := lentSh_some.mp h
    obtain ⟨a1, a2, a3, a4⟩ := st.owF a i h1
    refine ⟨a1, a2, .inr ⟨j, i, h1, h2⟩, .inr ⟨?_, .inr ⟨i, h1, h2⟩⟩⟩
    have hx := posA_some h2
    have hj : ∃ s, sl[j]? = some s := ⟨sl[j]'(by rw [lend_len hl]; exact lt_of_get hx), List.getElem?_eq_getElem _⟩
    obtain ⟨s, hs⟩ := hj
    rcases lend_at hl hs with ⟨d', e, h1'⟩ | ⟨i', k', e, h1', _⟩
    · rw [hx] at h1'
      cases h1'
    · subst e
      exact ⟨k', hs⟩
/-- what a call leaves in the caller -/
theorem StR.behind {ρ : Env} {σ : L2.St} {S S' : Sh} {H H' : Hp} {xs : List (D ⊕ Nat)} {sl' : List Slot} {vs : List V} {E : XK} {hB : ∀ i a, lentB S xs i a → H a ≠ none ∧ S.h a = none} (st : StR K c ρ σ S H) (hnd : (idxs xs).Nodup) (ra : Ra K S.h σ xs vs) {sl : List Slot} (hl : Dn.lend ρ xs = some sl)
    (s2 : StR K (entry vs S.h H (lentB S xs) E hB) sl' (vs.map some) S' H') (ex : Ex S.h S'.h) : StR K c (takeB ρ xs sl') σ (backSh S S' xs sl') H' := by
  have nl : ∀ {a i}, S.ow a = some i → ¬ i ∈ idxs xs → ¬ (entry vs S.h H (lentB S xs) E hB).lent a := fun {a i} h n ⟨j, i', h1, h2⟩ => by
    rw [h] at h1
    cases h1
    exact n (posA_mem h2)
  -- who owns what the callee's slot j owns
  have so : ∀ {a j}, S'.ow a = some j → H a = none ∨ ∃ i, S.ow a = some i ∧ posA xs i = some j := fun {a j} h => by
    obtain ⟨_, _, _, a4⟩ := s2.owF a j h
    rcases a4 with ⟨_, q⟩ | ⟨_, q | q⟩
    · exact .inl q
    · exact .inl q
    · exact .inr q
  have out : ∀ {a i}, S.ow a = some i → ¬ i ∈ idxs xs → S'.ow a = none := fun {a i} h n => by
    cases z : S'.ow a with
    | none => rfl
    | some j =>
      rcases so z with y | ⟨i', y, y2⟩
      · exact absurd y (st.owF a i h).2.1
      · rw [h] at y
        cases y
        exact absurd (posA_mem y2) n
  have keep : ∀ {a i}, S.ow a = some i → ¬ i ∈ idxs xs → H' a = H a := fun {a i} h n => by
    obtain ⟨a1, a2, _⟩ := st.owF a i h
    cases z : H a with
    | none => exact absurd z a2
    | some o => exact s2.keep a o z a1 (nl h n)
  have own1 : ∀ {a i}, S.ow a = some i → ¬ i ∈ idxs xs → (backSh S S' xs sl').ow a = some i := fun {a i} h n => by
    unfold backSh
    simp only [out h n, h]
    rw [if_neg n]
  have own2 : ∀ {a i j k}, xs[j]? = some (.inr i) → sl'[j]? = some (.bor k) → S'.ow a = some j → (backSh S S' xs sl').ow a = some i := fun {a i j k} h1 h2 h3 => by
    unfold backSh
    simp only [h3, h1, h2]
  have ownI : ∀ {a i}, (backSh S S' xs sl').ow a = some i → (∃ j k, S'.ow a = some j ∧ xs[j]? = some (.inr i) ∧ sl'[j]? = some (.bor k)) ∨ (S'.ow a = none ∧ S.ow a = some i ∧ ¬ i ∈ idxs xs) := fun {a i} h => by
    unfold backSh at h
    simp only at h
    cases z : S'.ow a with
    | some j =>
      simp only [z] at h
      split at h
      · rename_i i' k h1 h2
        cases h
        exact .inl ⟨j, k, rfl, h1, h2⟩
      · cases h
    | none =>
      simp only [z] at h
      split at h
      · rename_i i' h1
        split at h
        · cases h
        · rename_i n
          cases h
          exact .inr ⟨rfl, h1, n⟩
      · cases h
  have lentC : ∀ {a}, (entry vs S.h H (lentB S xs) E hB).lent a → c.H0 a = none ∨ c.lent a := fun {a} ⟨j, i, h1, _⟩ => (st.owF a i h1).2.2.1
  -- a lent slot, behind
  have bk : ∀ {i j : Nat} {s0 : Slot} {s : Slot}, xs[j]? = some (.inr i) → sl'[j]? = some s0 → s = back1 ρ[i]? s0 → s ≠ .un → ∃ k0 k' l, s0 = .bor k' ∧ ((s = .own k' ∧ ρ[i]? = some (.own k0)) ∨ (s = .bor k' ∧ ρ[i]? = some (.bor k0))) ∧ σ[i]? = some (some (.ref l)) ∧ ContR K S'.h H' (ownP (backSh S S' xs sl') i) l k' := fun {i j s0 s} h1 h2 h3 h4 => by
    cases s0 with
    | bor k' =>
      obtain ⟨l, z1, z2, z3⟩ := s2.bor j k' h2
      obtain ⟨v, v1, v2⟩ := ra.at_r h1
      have z1 := get_map z1
      rw [v1] at z1
      cases z1
      have z4 := z2.mono (Ex.refl _) (fun _ _ => rfl) (P' := ownP (backSh S S' xs sl') i) fun a q => own2 h1 h2 q
      cases hr : ρ[i]? with
      | none =>
        rw [hr] at h3
        exact absurd h3 h4
      | some sr =>
        rw [hr] at h3
        cases sr with
        | own k => exact ⟨k, k', l, rfl, .inl ⟨h3, rfl⟩, v2, z4⟩
        | bor k => exact ⟨k, k', l, rfl, .inr ⟨h3, rfl⟩, v2, z4⟩
        | _ => exact absurd h3 h4
    | _ =>
      exfalso
      apply h4
      rw [h3]
      cases ρ[i]? with
      | none => rfl
      | some sr => cases sr <;> rfl
  have nle : ∀ {a}, c.H0 a ≠ none → ¬ c.lent a → ¬ (entry vs S.h H (lentB S xs) E hB).lent a := fun {a} h n z => (lentC z).elim h n
  refine ⟨s2.sub, st.old.trans ex, fun a o h1 h2 h3 => ?_, fun a h => st.live a (s2.live a h), fun a h1 h2 h3 => ?_, by rw [takeB_len]; exact st.len, fun i d h => ?_, fun i k h => ?_, fun i k h => ?_, fun i e h => ?_, fun a i h => ?_⟩
  · have h0 : c.H0 a ≠ none := by rw [h1]; exact fun z => nomatch z
    exact s2.keep a o (st.keep a o h1 h2 h3) (st.hs a h2 h0 h3) (nle h0 h3)
  · exact s2.hs a (st.hs a h1 h2 h3) (fun z => h2 (st.live a z)) (nle h2 h3)
  · rcases takeB_at ρ xs sl' i _ h with ⟨_, a⟩ | a | ⟨j, s0, a, b, e⟩
    · obtain ⟨v, a1, a2⟩ := st.val i d a
      exact ⟨v, a1, a2.mono ex⟩
    · cases a
    · obtain ⟨_, _, _, _, z, _⟩ := bk a b e (fun z => nomatch z)
      rcases z with ⟨z, _⟩ | ⟨z, _⟩ <;> cases z
  · rcases takeB_at ρ xs sl' i _ h with ⟨n, a⟩ | a | ⟨j, s0, a, b, e⟩
    · obtain ⟨l, a1, a2⟩ := st.own i k a
      exact ⟨l, a1, a2.mono ex (fun a q => keep q n) fun a q => own1 q n⟩
    · cases a
    · obtain ⟨k0, k', l, _, z, z1, z2⟩ := bk a b e (fun z => nomatch z)
      rcases z with ⟨z, _⟩ | ⟨z, _⟩
      · cases z
        exact ⟨l, z1, z2⟩
      · cases z
  · rcases takeB_at ρ xs sl' i _ h with ⟨n, a⟩ | a | ⟨j, s0, a, b, e⟩
    · obtain ⟨l, a1, a2, a3⟩ := st.bor i k a
      exact ⟨l, a1, a2.mono ex (fun a q => keep q n) (fun a q => own1 q n), a3⟩
    · cases a
    · obtain ⟨k0, k', l, _, z, z1, z2⟩ := bk a b e (fun z => nomatch z)
      rcases z with ⟨z, _⟩ | ⟨z, z3⟩
      · cases z
      · cases z
        obtain ⟨l', y1, _, y3⟩ := st.bor i k0 z3
        rw [z1] at y1
        cases y1
        exact ⟨l, z1, z2, y3⟩
  · rcases takeB_at ρ xs sl' i _ h with ⟨n, a⟩ | a | ⟨j, s0, a, b, e'⟩
    · obtain ⟨b, cls, od, a1, a2, a3⟩ := st.exc i e a
      exact ⟨b, cls, od, a1, a2, a3.mono ex⟩
    · cases a
    · obtain ⟨_, _, _, _, z, _⟩ := bk a b e' (fun z => nomatch z)
      rcases z with ⟨z, _⟩ | ⟨z, _⟩ <;> cases z
  · rcases ownI h with ⟨j, k, h1, h2, h3⟩ | ⟨h1, h2, h3⟩
    · obtain ⟨a1, a2, a3, a4⟩ := s2.owF a j h1
      have hb : c.H0 a = none ∨ c.lent a := by
        rcases a3 with z | z
        · exact .inl (st.live a z)
        · exact lentC z
      refine ⟨a1, a2, hb, ?_⟩
      -- the caller's slot i was lent at j
      have inS : H a = none ∨ S.ow a = some i := by
        rcases so h1 with z | ⟨i', y1, y2⟩
        · exact .inl z
        · have := posA_some y2
          rw [h2] at this
          cases this
          exact .inr y1
      have hp := posA_of hnd h2
      have hi : i ∈ idxs xs := mem_idxs h2
      have slot : ∃ s, (takeB ρ xs sl')[i]? = some s ∧ s = back1 ρ[i]? (.bor k) := by
        have lt : i < ρ.length := by
          obtain ⟨v, _, v2⟩ := ra.at_r h2
          rw [← st.len]
          exact lt_of_get v2
        have hs : ∃ s, (takeB ρ xs sl')[i]? = some s := ⟨_, List.getElem?_eq_getElem (by rw [takeB_len]; exact lt)⟩
        obtain ⟨s, hs⟩ := hs
        exact ⟨s, hs, takeB_in hnd h2 h3 hs⟩
      obtain ⟨s, hs, e⟩ := slot
      rcases isC_of_lend hl h2 with ⟨k0, q⟩ | ⟨k0, q⟩
      · rw [q] at e
        refine .inl ⟨⟨k, by rw [hs, e]; rfl⟩, ?_⟩
        rcases inS with z | z
        · exact st.live a z
        · rcases (st.owF a i z).2.2.2 with w | ⟨⟨k1, w⟩, _⟩
          · exact w.2
          · rw [q] at w
            cases w
      · rw [q] at e
        refine .inr ⟨⟨k, by rw [hs, e]; rfl⟩, ?_⟩
        rcases inS with z | z
        · exact .inl (st.live a z)
        · rcases (st.owF a i z).2.2.2 with ⟨⟨k1, w⟩, _⟩ | w
          · rw [q] at w
            cases w
          · exact w.2
    · obtain ⟨a1, a2, a3, a4⟩ := st.owF a i h2
      have ne : H' a ≠ none := by rw [keep h2 h3]; exact a2
      refine ⟨?_, ne, a3, ?_⟩
      · exact s2.hs a a1 a2 (nl h2 h3)
      · have e : (takeB ρ xs sl')[i]? = ρ[i]? := takeB_out h3
        rw [e]
        exact a4
/-- what a callee hands back is nobody's in the caller, too -/
theorem RvR.behind {ρ : Env} {σ : L2.St} {S S' : Sh} {H H' : Hp} {xs : List (D ⊕ Nat)} {sl' : List Slot} {vs : List V} {E : XK} {hB : ∀ i a, lentB S xs i a → H a ≠ none ∧ S.h a = none} {r : Rv} {v : V} (st : StR K c ρ σ S H)
    (p : RvR K (entry vs S.h H (lentB S xs) E hB) r S' H' v) : RvR K c r (backSh S S' xs sl') H' v := by
  cases r with
  | d d => exact p
  | o k =>
    obtain ⟨l, P, rfl, p2, p3⟩ := p
    refine ⟨l, P, rfl, p2, fun a q => ?_⟩
    obtain ⟨a1, a2, a3, a4⟩ := p3 a q
    have a3 : H a = none := a3
    refine ⟨a1, a2, st.live a a3, ?_⟩
    unfold backSh
    simp only [a4]
    cases z : S.ow a with
    | none => rfl
    | some i => exact absurd a3 (st.owF a i z).2.1
/-- what is raised at a call is wished for at the caller's slots -/
abbrev cE (c : Cxt) : L2.St → XK := fun σ cls d H => c.E cls d σ H
theorem ev_call {ta : TA} {as : List Ar} {F : FD} {n : Nat} (ha : Ev K c ta (pA K) (argv as)) (hn : ∀ ρ xs ρ', argv as ρ = .ok xs ρ' → xs.length = n) : Ev K c (tCallSD (spF K n F) [] (cE c) ta) (pV K c) (eCall F as) := by
  intro ρ0 σ S0 H0 Q st0 g0
  refine ha ρ0 σ S0 H0 _ st0 ?_
  unfold eCall bind at g0
  cases hx : argv as ρ0 with
  | bad =>
    simp only [hx] at g0
    exact g0
  | err er ρ' =>
    simp only [hx] at g0
    exact g0
  | ok xs ρ =>
    simp only [hx] at g0
    intro vs S H st ex0 ra
    have g := Goal.mono ex0 g0
    show spF K n F (vs ++ []) H Q (cE c σ)
    rw [List.append_nil]
    have ra : Ra K S.h σ xs vs := ra
    split at g
    · rename_i hnd
      cases hl : Dn.lend ρ xs with
      | none =>
        simp only [hl] at g
        exact g.elim
      | some sl =>
        simp only [hl] at g
        refine ⟨by rw [ra.length]; exact hn _ _ _ hx, lentSh S xs, sl, lentB S xs, hB_of st, st.lend hnd ra hl, ?_⟩
        cases hF : F sl with
        | bad =>
          simp only [hF] at g
          exact g
        | err er sl' =>
          simp only [hF] at g
          exact fun cls od S' H' s2 ex er => g cls od _ H' (st.behind hnd ra hl s2 ex) ex er
        | ok r sl' =>
          simp only [hF] at g
          exact fun v S' H' s2 ex p => g v _ H' (st.behind hnd ra hl s2 ex) ex (p.behind st)
    · exact g.elim
end
end Dn
set_option Elab.async false
set_option linter.all false
set_option maxRecDepth 100000
set_option maxHeartbeats 4000000
/-! The rules that one writes. -/
namespace Dn
open PySem L2
theorem outE_at : ∀ {n : Nat} {ρ : Env} {i : Nat} {s : Slot}, (outE n ρ)[i]? = some s → s = .un ∨ ∃ s0, ρ[i]? = some s0 ∧ s = keepO s0
  | 0, ρ, i, s, h => by
    cases ρ <;> simp [outE] at h
  | n + 1, [], 0, s, h => by
    simp [outE] at h
    exact .inl h.symm
  | n + 1, [], i + 1, s, h => by
    simp only [outE, List.getElem?_cons_succ] at h
    rcases outE_at h with e | ⟨s0, e, _⟩
    · exact .inl e
    · simp at e
  | n + 1, x :: ρ, 0, s, h => by
    simp only [outE, List.getElem?_cons_zero, Option.some.injEq] at h
    exact .inr ⟨x, rfl, h.symm⟩
  | n + 1, x :: ρ, i + 1, s, h => by
    simp only [outE, List.getElem?_cons_succ] at h
    rcases outE_at h with e | ⟨s0, e, e2⟩
    · exact .inl e
    · exact .inr ⟨s0, by rw [List.getElem?_cons_succ]; exact e, e2⟩
theorem outE_len : ∀ (n : Nat) (ρ : Env), (outE n ρ).length = n
  | 0, ρ => by cases ρ <;> rfl
  | n + 1, [] => by simp only [outE, List.length_cons, outE_len n []]
  | n + 1, x :: ρ => by simp only [outE, List.length_cons, outE_len n ρ]
theorem outE_bor {n : Nat} {ρ : Env} {i : Nat} {s : Slot} (h : (outE n ρ)[i]? = some s) (hs : s ≠ .un) : ∃ k, ρ[i]? = some (.bor k) ∧ s = .bor k := by
  rcases outE_at h with e | ⟨s0, e1, e2⟩
  · exact absurd e hs
  · cases s0 with
    | bor k => exact ⟨k, e1, e2⟩
    | _ => exact absurd e2 hs
section
variable {K : Fr} {c : Cxt}
theorem StR.pad {as : Env} {σ : L2.St} {S : Sh} {H : Hp} (st : StR K c as σ S H) (n : Nat) : StR K c (as ++ List.replicate n .un) (σ ++ List.replicate n none) S H := by
  have g1 : ∀ (i : Nat) s, s ≠ .un → (as ++ List.replicate n Slot.un)[i]? = some s → as[i]? = some s := fun i s hs h => by
    rw [List.getElem?_append] at h
    split at h
    · exact h
    · rw [List.getElem?_replicate] at h
      split at h
      · cases h
        exact absurd rfl hs
      · cases h
  have g2 : ∀ (i : Nat) s, as[i]? = some s → (σ ++ List.replicate n none)[i]? = σ[i]? := fun i s h => by
    rw [List.getElem?_append_left (by rw [st.len]; exact lt_of_get h)]
  have g3 : ∀ (i : Nat) s, as[i]? = some s → (as ++ List.replicate n Slot.un)[i]? = some s := fun i s h => by
    rw [List.getElem?_append_left (lt_of_get h)]
    exact h
  refine ⟨st.sub, st.old, st.keep, st.live, st.hs, by rw [List.length_append, List.length_append, List.length_replicate, List.length_replicate, st.len], fun i d h => ?_, fun i k h => ?_, fun i k h => ?_, fun i e h => ?_, fun a i h => ?_⟩
  · have a := g1 i (.val d) (fun z => nomatch z) h
    rw [g2 i _ a]
    exact st.val i d a
  · have a := g1 i (.own k) (fun z => nomatch z) h
    rw [g2 i _ a]
    exact st.own i k a
  · have a := g1 i (.bor k) (fun z => nomatch z) h
    rw [g2 i _ a]
    exact st.bor i k a
  · have a := g1 i (.exc e) (fun z => nomatch z) h
    rw [g2 i _ a]
    exact st.exc i e a
  · obtain ⟨h1, h2, h3, h4⟩ := st.owF a i h
    refine ⟨h1, h2, h3, ?_⟩
    rcases h4 with ⟨⟨k, z⟩, z2⟩ | ⟨⟨k, z⟩, z2⟩
    · exact .inl ⟨⟨k, g3 i _ z⟩, z2⟩
    · exact .inr ⟨⟨k, g3 i _ z⟩, z2⟩
/-- only what the lent slots own is owned -/
noncomputable def outSh (S : Sh) (ρ : Env) : Sh := ⟨S.h, fun a => match S.ow a with
  | some i => (match ρ[i]? with
    | some (.bor _) => some i
    | _ => none)
  | none => none⟩
theorem outSh_some {S : Sh} {ρ : Env} {a : Addr} {i : Nat} : (outSh S ρ).ow a = some i ↔ S.ow a = some i ∧ ∃ k, ρ[i]? = some (.bor k) := by
  unfold outSh
  simp only
  cases e : S.ow a with
  | none =>
    constructor
    · intro z
      cases z
    · rintro ⟨z, _⟩
      cases z
  | some j =>
    simp only
    constructor
    · intro h
      split at h
      · rename_i k hk
        cases h
        exact ⟨rfl, k, hk⟩
      · cases h
    · rintro ⟨h1, k, h2⟩
      cases h1
      rw [h2]
theorem outE_get {n : Nat} {ρ : Env} {i : Nat} {k : C} (hi : i < n) (h : ρ[i]? = some (.bor k)) : (outE n ρ)[i]? = some (.bor k) := by
  induction n generalizing ρ i with
  | zero => omega
  | succ n ih =>
    cases ρ with
    | nil => simp at h
    | cons s ρ =>
      cases i with
      | zero =>
        simp at h
        subst h
        rfl
      | succ i =>
        simp only [outE, List.getElem?_cons_succ] at h ⊢
        exact ih (by omega) h
/-- at a def's end only what was lent is told -/
theorem StR.out {ρ : Env} {σ : L2.St} {S : Sh} {H : Hp} (st : StR K c ρ σ S H) : StR K c (outE c.vs.length ρ) (c.vs.map some) (outSh S ρ) H := by
  have g : ∀ (i : Nat) s, s ≠ .un → (outE c.vs.length ρ)[i]? = some s → ∃ k, ρ[i]? = some (.bor k) ∧ s = .bor k := fun i s hs h => outE_bor h hs
  refine ⟨st.sub, st.old, st.keep, st.live, st.hs, by rw [List.length_map, outE_len], fun i d h => ?_, fun i k h => ?_, fun i k h => ?_, fun i e h => ?_, fun a i h => ?_⟩
  · obtain ⟨k, a, b⟩ := g i (.val d) (fun z => nomatch z) h
    cases b
  · obtain ⟨k, a, b⟩ := g i (.own k) (fun z => nomatch z) h
    cases b
  · obtain ⟨k', a, b⟩ := g i (.bor k) (fun z => nomatch z) h
    cases b
    obtain ⟨l, a1, a2, a5⟩ := st.bor i k a
    exact ⟨l, map_get a5, a2.mono (Ex.refl _) (fun _ _ => rfl) fun a q => outSh_some.mpr ⟨q, _, by assumption⟩, a5⟩
  · obtain ⟨k, a, b⟩ := g i (.exc e) (fun z => nomatch z) h
    cases b
  · obtain ⟨h0, k, hk⟩ := outSh_some.mp h
    obtain ⟨h1, h2, h3, h4⟩ := st.owF a i h0
    refine ⟨h1, h2, h3, .inr ?_⟩
    rcases h4 with ⟨⟨k', z⟩, _⟩ | ⟨_, z2⟩
    · rw [hk] at z
      cases z
    · obtain ⟨l, a1, a2, a3⟩ := st.bor i k hk
      exact ⟨⟨k, outE_get (lt_of_get a3) hk⟩, z2⟩
theorem RvR.out {ρ : Env} {S : Sh} {H : Hp} {r : Rv} {v : V} (p : RvR K c r S H v) : RvR K c r (outSh S ρ) H v := by
  cases r with
  | d d => exact p
  | o k =>
    obtain ⟨l, P, rfl, p2, p3⟩ := p
    refine ⟨l, P, rfl, p2, fun a q => ?_⟩
    obtain ⟨a1, a2, a3, a4⟩ := p3 a q
    refine ⟨a1, a2, a3, ?_⟩
    unfold outSh
    simp only [a4]
end
/-! ### defs -/
section
variable {P : Program} {w : World} {K : PySem.W.Frag} {mg : Str → Option Value} {base : Heap}
/-- the context of a def's body -/
abbrev bodyX (P : Program) (w : World) (K : PySem.W.Frag) (mg : Str → Option Value) (base : Heap) (N : List Str) (qual : Str) (st : Stmt) (f : Addr) (cdv : Value) (A : Around) (outer : List PySem.Env) (s : Shared) (H : Hp) (E : XK) : Cx :=
  cxOf (L2.CX P w) P w K mg base N qual (defScope st) f cdv A outer s H E
/-- what is known where a def's statements stand -/
structure Bd (X : Cx) (c : Cxt) : Prop where
  tk : Takes X c.E
  po : PassesOwn (model X.prog X.w) X.A X.env X.xe
theorem fun_core {N : List Str} {X : Cx} {c : Cxt} {b : S} {as : List Slot} {S : Sh} {H : Hp} {Q : VK} {body : List Stmt} (hX : cxFr X = cxFr X) (hvl : as.length = c.vs.length) (hb : PSs X body (tsOf (cxFr X) c b)) (st' : StR (cxFr X) c as (c.vs.map some) S H)
    (g : Goal (cxFr X) c (c.vs.map some) S (pV (cxFr X) c (c.vs.map some)) (fn N.length b as) Q) (hE : ∀ cls od σ σ' H', c.E cls od σ H' → c.E cls od σ' H') :
    tsOf (cxFr X) c b { nx := fun _ H' => Q .non H', rt := Q } (L2.start N c.vs) H := by
  refine ⟨as ++ List.replicate (N.length - as.length) .un, S, ?_, ?_⟩
  · have q := st'.pad (N.length - as.length)
    have e : L2.start N c.vs = c.vs.map some ++ List.replicate (N.length - as.length) none := by
      unfold L2.start
      rw [hvl]
    rw [e]
    exact q
  · unfold fn at g
    cases z : b (as ++ List.replicate (N.length - as.length) .un) with
    | bad =>
      simp only [z] at g
      exact g
    | err er ρ' =>
      simp only [z] at g
      intro cls od σ' S' H' s2 ex er
      rw [hvl] at g
      exact hE _ _ _ _ _ (g cls od _ H' s2.out ex er)
    | nx ρ' =>
      simp only [z] at g
      intro σ' S' H' s2 ex
      rw [hvl] at g
      exact g .non _ H' s2.out ex .non
    | rt r ρ' =>
      simp only [z] at g
      intro v σ' S' H' s2 ex p
      rw [hvl] at g
      exact g v _ H' s2.out ex p.out
    | bk ρ' =>
      simp only [z] at g
      exact g.elim
    | ct ρ' =>
      simp only [z] at g
      exact g.elim
theorem fun_den {x qual : Str} {st : Stmt} {f : Addr} {fd : FuncData} {N ps : List Str} {k : Nat} {b : S} (F : Fun K x qual st f fd) (S : FnScope N ps (defScope st))
    (hb : ∀ (c : Cxt) (cdv : Value) (A : Around) (outer : List PySem.Env) (s : Shared) (H : Hp) (E : XK), Room k (A.deeper (PyProof.Rows.envOfC qual (defScope st) s.heap.objs.size f cdv)) → c.exc = none → Bd (bodyX P w K mg base N qual st f cdv A outer s H E) c → PSs (bodyX P w K mg base N qual st f cdv A outer s H E) (defBody st) (tsOf (⟨K, P, w, mg⟩ : Fr) c b)) :
    FnOk P w K mg base (L2.CX P w) (k + 1) f fd ps (spF (⟨K, P, w, mg⟩ : Fr) ps.length (fn N.length b)) := by
  refine F.okX S (fun vs H Q E h => h.1) fun cdv A outer s H vs Q E hr h => ?_
  obtain ⟨hl, S', as, B, hB, st', g⟩ := h
  have hal : as.length = vs.length := by
    have a := st'.len
    rw [List.length_map] at a
    exact a.symm
  exact ⟨_, hb (entry vs S'.h H B E hB) cdv A outer s H E hr rfl ⟨takes_of rfl rfl rfl rfl, PassesOwn.leaving⟩, fun_core (c := entry vs S'.h H B E hB) (X := bodyX P w K mg base N qual st f cdv A outer s H E) rfl hal (hb (entry vs S'.h H B E hB) cdv A outer s H E hr rfl ⟨takes_of rfl rfl rfl rfl, PassesOwn.leaving⟩) st' g fun _ _ _ _ _ h => h⟩
/-- a def of the text, by its name: it keeps to its denotation -/
structure Cal (P : Program) (w : World) (K : PySem.W.Frag) (mg : Str → Option Value) (base : Heap) (k : Nat) (x : Str) (n : Nat) (F : FD) : Prop where
  ex : ∃ (f : Addr) (fd : FuncData) (ps : List Str), ps.length = n ∧ FnOk P w K mg base (L2.CX P w) k f fd ps (spF (⟨K, P, w, mg⟩ : Fr) n F) ∧ mg x = some (.ref f) ∧ PySem.W.keepIn K (.ref f) = true ∧ Binds K fd ps []
theorem Cal.mono {j k : Nat} {x : Str} {n : Nat} {F : FD} (h : Cal P w K mg base j x n F) (hk : j ≤ k) : Cal P w K mg base k x n F := by
  obtain ⟨f, fd, ps, a, b, r⟩ := h.ex
  exact ⟨⟨f, fd, ps, a, b.mono hk, r⟩⟩
/-- what the top has of a def -/
structure Top (K : PySem.W.Frag) (mg : Str → Option Value) (x : Str) (st : Stmt) (ps : List Str) : Prop where
  ex : ∃ (f : Addr) (fd : FuncData), Fun K x x st f fd ∧ mg x = some (.ref f) ∧ Binds K fd ps []
theorem cal_of {x : Str} {st : Stmt} {N ps : List Str} {k : Nat} {b : S} (T : Top K mg x st ps) (S : FnScope N ps (defScope st))
    (hb : ∀ (c : Cxt) (f : Addr) (cdv : Value) (A : Around) (outer : List PySem.Env) (s : Shared) (H : Hp) (E : XK), Room k (A.deeper (PyProof.Rows.envOfC x (defScope st) s.heap.objs.size f cdv)) → c.exc = none → Bd (bodyX P w K mg base N x st f cdv A outer s H E) c → PSs (bodyX P w K mg base N x st f cdv A outer s H E) (defBody st) (tsOf (⟨K, P, w, mg⟩ : Fr) c b)) :
    Cal P w K mg base (k + 1) x ps.length (fn N.length b) := by
  obtain ⟨f, fd, F, hm, hb'⟩ := T.ex
  exact ⟨⟨f, fd, ps, rfl, fun_den F S fun c cdv A outer s H E hr hx bd => hb c f cdv A outer s H E hr hx bd, hm, F.kp, hb'⟩⟩
/-- a def of which nothing is claimed -/
theorem cal_bad {x : Str} {st : Stmt} {N ps : List Str} {k : Nat} (T : Top K mg x st ps) (S : FnScope N ps (defScope st)) : Cal P w K mg base (k + 1) x ps.length (fun _ => .bad) := by
  obtain ⟨f, fd, F, hm, hb'⟩ := T.ex
  refine ⟨⟨f, fd, ps, rfl, F.okX S (fun vs H Q E h => h.1) fun cdv A outer s H vs Q E hr h => ?_, hm, F.kp, hb'⟩⟩
  obtain ⟨_, _, _, _, _, _, g⟩ := h
  exact g.elim
end
/-! ### expressions -/
section
variable {X : Cx} {c : Cxt} {a b d : Expr} {pos : Pos} {ma mb md : E}
abbrev DE (X : Cx) (c : Cxt) (e : Expr) (m : E) : Prop := PE X e (teOf (cxFr X) c m)
abbrev DT (X : Cx) (c : Cxt) (e : Expr) (m : T) : Prop := PT X e (ttOf (cxFr X) c m)
abbrev DW (X : Cx) (c : Cxt) (e : Expr) (m : T) : Prop := PW X e (ttOf (cxFr X) c m)
abbrev DA (X : Cx) (c : Cxt) (es : List Expr) (ms : List E) : Prop := PA X es (taOf (cxFr X) c (args ms))
abbrev DB (X : Cx) (c : Cxt) (es : List Expr) (as : List Ar) : Prop := PA X es (wpOf (cxFr X) c (pA (cxFr X)) (argv as))
abbrev DI (X : Cx) (c : Cxt) (tg it : Expr) (m : M (List D)) : Prop := PI X tg it (tiOf (cxFr X) c m)
abbrev DS (X : Cx) (c : Cxt) (s : Stmt) (m : S) : Prop := PS X s (tsOf (cxFr X) c m)
abbrev DSs (X : Cx) (c : Cxt) (s : List Stmt) (m : S) : Prop := PSs X s (tsOf (cxFr X) c m)
theorem d_int {i j pos} : DE X c (.Constant (.int i) j pos) (eC (.int i)) := ped pe_int (ev_c fun _ => .int i)
theorem d_bl {b j pos} : DE X c (.Constant (.bool b) j pos) (eC (.bl b)) := ped pe_bl (ev_c fun _ => .bl b)
theorem d_non {j pos} : DE X c (.Constant .none j pos) (eC .non) := ped pe_non (ev_c fun _ => .non)
theorem d_str {x j pos} : DE X c (.Constant (.str x) j pos) (eC (.str x)) := ped pe_str (ev_c fun _ => .str x)
theorem d_v (i : Nat) {x : Str} {pos : Pos} (hN : X.N[i]? = some x := by rfl) (hv : Vis X.env.scope x := by first | exact Or.inl rfl | exact Or.inr (Or.inl rfl) | exact Or.inr (Or.inr rfl)) (hd : (x == ("__debug__" : Str)) = false := by decide)
    (hcd : (x == ("__classdict__" : Str)) = false := by decide) : DE X c (.Name x pos) (eV i) := ped (pe_var hN hv hd hcd) ev_v
theorem d_mv (i : Nat) {x : Str} {pos : Pos} (hN : X.N[i]? = some x := by rfl) (hv : Vis X.env.scope x := by first | exact Or.inl rfl | exact Or.inr (Or.inl rfl) | exact Or.inr (Or.inr rfl)) (hd : (x == ("__debug__" : Str)) = false := by decide)
    (hcd : (x == ("__classdict__" : Str)) = false := by decide) : DE X c (.Name x pos) (eMv i) := ped (pe_var hN hv hd hcd) ev_mv
theorem d_add (ha : DE X c a ma) (hb : DE X c b mb) : DE X c (.BinOp a .Add b pos) (e2 oAdd ma mb) := ped (pe_op op_addAll ha hb) (ev_op2 o_add ev_te ev_te)
theorem d_sub (ha : DE X c a ma) (hb : DE X c b mb) : DE X c (.BinOp a .Sub b pos) (e2 oSub ma mb) := ped (pe_op op_sub ha hb) (ev_op2 o_sub ev_te ev_te)
theorem d_mul (ha : DE X c a ma) (hb : DE X c b mb) : DE X c (.BinOp a .Mult b pos) (e2 oMul ma mb) := ped (pe_op op_mulAll ha hb) (ev_op2 o_mul ev_te ev_te)
theorem d_div (ha : DE X c a ma) (hb : DE X c b mb) : DE X c (.BinOp a .FloorDiv b pos) (e2 oDiv ma mb) := ped (pe_op op_fdiv ha hb) (ev_op2 o_div ev_te ev_te)
theorem d_mod (ha : DE X c a ma) (hb : DE X c b mb) : DE X c (.BinOp a .Mod b pos) (e2 oMod ma mb) := ped (pe_op op_mod ha hb) (ev_op2 o_mod ev_te ev_te)
theorem d_pow (ha : DE X c a ma) (hb : DE X c b mb) : DE X c (.BinOp a .Pow b pos) (e2 oPow ma mb) := ped (pe_op op_pow ha hb) (ev_op2 o_pow ev_te ev_te)
theorem d_neg (ha : DE X c a ma) : DE X c (.UnaryOp .USub a pos) (e1 oNeg ma) := ped (pe_un un_neg ha) (ev_op1 o_neg ev_te)
/-- comparisons: as a test, as a value -/
theorem ev_cpV {K : Fr} {ta tb : TE} {r : R2} {f : D → D → Option Bool} (hr : Cp2 K c r f) (ha : Ev K c ta (pV K c) ma) (hb : Ev K c tb (pV K c) mb) : Ev K c (tOp r ta tb) (pV K c) (eT (t2 f ma mb)) := by
  have h := ev_two (u := fun x y H (Q : VK) => r x y H Q) (P' := pV K c) (f := fun x y => bind (opt (f x y)) fun k => ret (.d (.bl k))) ha hb fun x y vx vy ρ σ S H Q st rx ry g => by
    cases e : f x y with
    | none =>
      rw [e] at g
      exact g.elim
    | some k =>
      rw [e] at g
      exact hr ρ σ S H x y vx vy k _ st rx ry e (g (.bl k) S H st (Ex.refl _) (R.bl k))
  intro ρ σ S H Q st g
  refine h ρ σ S H Q st ?_
  unfold eT t2 bind at g
  unfold bind
  cases e1 : val ma ρ with
  | bad =>
    rw [e1] at g
    exact g
  | err er ρ' =>
    rw [e1] at g
    exact g
  | ok x ρ1 =>
    rw [e1] at g
    simp only at g ⊢
    cases e2 : val mb ρ1 with
    | bad =>
      rw [e2] at g
      exact g
    | err er ρ' =>
      rw [e2] at g
      exact g
    | ok y ρ2 =>
      rw [e2] at g
      exact g
theorem dt_cmp {op : CmpOp} {r : R2} {f : D → D → Option Bool} (ho : OpR X (compareOp op) r) (hr : ∀ {c : Cxt}, Cp2 (cxFr X) c r f) (hm : ∀ b, behindInMarks op b = false) (ha : DE X c a ma) (hb : DE X c b mb) : DT X c (.Compare a [op] [b] pos) (t2 f ma mb) := ptd (pt_cmpR ho ha hb (hm b)) (ev_cp2 hr ev_te ev_te)
theorem de_cmp {op : CmpOp} {r : R2} {f : D → D → Option Bool} (ho : OpR X (compareOp op) r) (hr : ∀ {c : Cxt}, Cp2 (cxFr X) c r f) (hm : ∀ b, behindInMarks op b = false) (ha : DE X c a ma) (hb : DE X c b mb) : DE X c (.Compare a [op] [b] pos) (eT (t2 f ma mb)) := ped (pe_cmpR ho ha hb (hm b)) (ev_cpV hr ev_te ev_te)
theorem t_eq (hu : X.A.units + 64 < cLine) (ha : DE X c a ma) (hb : DE X c b mb) : DT X c (.Compare a [.Eq] [b] pos) (t2 oEq ma mb) := dt_cmp (op_eqD hu) o_eq (fun b => nomark b) ha hb
theorem t_ne (hu : X.A.units + 64 < cLine) (ha : DE X c a ma) (hb : DE X c b mb) : DT X c (.Compare a [.NotEq] [b] pos) (t2 oNe ma mb) := dt_cmp (op_neD hu) o_ne (fun b => nomark b) ha hb
theorem t_lt (ha : DE X c a ma) (hb : DE X c b mb) : DT X c (.Compare a [.Lt] [b] pos) (t2 oLt ma mb) := dt_cmp op_ltAll o_lt (fun b => nomark b) ha hb
theorem t_le (ha : DE X c a ma) (hb : DE X c b mb) : DT X c (.Compare a [.LtE] [b] pos) (t2 oLe ma mb) := dt_cmp op_le o_le (fun b => nomark b) ha hb
theorem t_gt (ha : DE X c a ma) (hb : DE X c b mb) : DT X c (.Compare a [.Gt] [b] pos) (t2 oGt ma mb) := dt_cmp op_gt o_gt (fun b => nomark b) ha hb
theorem t_ge (ha : DE X c a ma) (hb : DE X c b mb) : DT X c (.Compare a [.GtE] [b] pos) (t2 oGe ma mb) := dt_cmp op_ge o_ge (fun b => nomark b) ha hb
theorem d_eq (hu : X.A.units + 64 < cLine) (ha : DE X c a ma) (hb : DE X c b mb) : DE X c (.Compare a [.Eq] [b] pos) (eT (t2 oEq ma mb)) := de_cmp (op_eqD hu) o_eq (fun b => nomark b) ha hb
theorem d_ne (hu : X.A.units + 64 < cLine) (ha : DE X c a ma) (hb : DE X c b mb) : DE X c (.Compare a [.NotEq] [b] pos) (eT (t2 oNe ma mb)) := de_cmp (op_neD hu) o_ne (fun b => nomark b) ha hb
theorem d_lt (ha : DE X c a ma) (hb : DE X c b mb) : DE X c (.Compare a [.Lt] [b] pos) (eT (t2 oLt ma mb)) := de_cmp op_ltAll o_lt (fun b => nomark b) ha hb
theorem d_le (ha : DE X c a ma) (hb : DE X c b mb) : DE X c (.Compare a [.LtE] [b] pos) (eT (t2 oLe ma mb)) := de_cmp op_le o_le (fun b => nomark b) ha hb
theorem d_gt (ha : DE X c a ma) (hb : DE X c b mb) : DE X c (.Compare a [.Gt] [b] pos) (eT (t2 oGt ma mb)) := de_cmp op_gt o_gt (fun b => nomark b) ha hb
theorem d_ge (ha : DE X c a ma) (hb : DE X c b mb) : DE X c (.Compare a [.GtE] [b] pos) (eT (t2 oGe ma mb)) := de_cmp op_ge o_ge (fun b => nomark b) ha hb
/-- is None -/
theorem ev_isN {K : Fr} {ta : TE} (ha : Ev K c ta (pV K c) ma) : Ev K c (tIsN ta) (pV K c) (eT (t1 oIsN ma)) := by
  intro ρ σ S H Q st g
  refine (ev_val ha) ρ σ S H _ st ?_
  unfold eT t1 bind at g
  cases e : val ma ρ with
  | bad =>
    rw [e] at g
    exact g
  | err er ρ' =>
    rw [e] at g
    exact g
  | ok x ρ' =>
    rw [e] at g
    intro v S' H' st' ex r
    rw [isNon_of r]
    exact g _ S' H' st' ex (R.bl _)
theorem ev_notN {K : Fr} {ta : TE} (ha : Ev K c ta (pV K c) ma) : Ev K c (tNotN ta) (pV K c) (eT (t1 oNotN ma)) := by
  intro ρ σ S H Q st g
  refine (ev_val ha) ρ σ S H _ st ?_
  unfold eT t1 bind at g
  cases e : val ma ρ with
  | bad =>
    rw [e] at g
    exact g
  | err er ρ' =>
    rw [e] at g
    exact g
  | ok x ρ' =>
    rw [e] at g
    intro v S' H' st' ex r
    rw [isNon_of r]
    exact g _ S' H' st' ex (R.bl _)
theorem d_isN {j pos'} (ha : DE X c a ma) : DE X c (.Compare a [.Is] [.Constant .none j pos'] pos) (eT (t1 oIsN ma)) := ped (pe_cmp (pc_isN ha) rfl) (ev_isN ev_te)
theorem d_notN {j pos'} (ha : DE X c a ma) : DE X c (.Compare a [.IsNot] [.Constant .none j pos'] pos) (eT (t1 oNotN ma)) := ped (pe_cmp (pc_notN ha) rfl) (ev_notN ev_te)
theorem ev_isT {K : Fr} {ta : TE} {u : TE → TE} {f : D → Option Bool} {p : V → Bool} (hu : ∀ t σ H Q, u t σ H Q = t σ H fun x H1 => Q (.bl (p x)) H1) (hp : ∀ {H v x}, R K H v x → f x = some (p v)) (ha : Ev K c ta (pV K c) ma) : Ev K c (L2.tB (u ta)) pB (t1 f ma) := by
  intro ρ σ S H Q st g
  show u ta σ H _
  rw [hu]
  refine (ev_val ha) ρ σ S H _ st ?_
  unfold t1 bind at g
  cases e : val ma ρ with
  | bad =>
    rw [e] at g
    exact g
  | err er ρ' =>
    rw [e] at g
    exact g
  | ok x ρ' =>
    rw [e] at g
    intro v S' H' st' ex r
    have q := hp r
    simp only at g
    rw [q] at g
    exact ⟨_, rfl, g _ S' H' st' ex rfl⟩
theorem t_isN {j pos'} (ha : DE X c a ma) : DT X c (.Compare a [.Is] [.Constant .none j pos'] pos) (t1 oIsN ma) := ptd (pt_cmp (pc_isN ha) rfl) (ev_isT (u := tIsN) (p := fun v => decide (v = .non)) (fun _ _ _ _ => rfl) (fun r => by unfold oIsN; rw [isNon_of r]) ev_te)
theorem t_notN {j pos'} (ha : DE X c a ma) : DT X c (.Compare a [.IsNot] [.Constant .none j pos'] pos) (t1 oNotN ma) := ptd (pt_cmp (pc_notN ha) rfl) (ev_isT (u := tNotN) (p := fun v => !decide (v = .non)) (fun _ _ _ _ => rfl) (fun r => by unfold oNotN; rw [isNon_of r]) ev_te)
/-- an expression as a test: of one that is True or False, of any by its truth -/
theorem t_val (ha : DE X c a ma) (he : ∀ whole, isTrue a X.env whole = (do let v ← whole; standAt a.pos; holding [v] (truthy v)) := by intro _; rfl) : DT X c a (tE ma) := ptd (pt_val ha he) (ev_tE ev_te)
theorem t_tr (ha : DE X c a ma) (he : ∀ whole, isTrue a X.env whole = (do let v ← whole; standAt a.pos; holding [v] (truthy v)) := by intro _; rfl) : DT X c a (tTr ma) := ptd (pt_truthR ha tru_d he) (ev_tTr ev_te)
theorem t_pk (i : Nat) {x : Str} {pos : Pos} (hN : X.N[i]? = some x := by rfl) (hv : Vis X.env.scope x := by first | exact Or.inl rfl | exact Or.inr (Or.inl rfl) | exact Or.inr (Or.inr rfl)) (hd : (x == ("__debug__" : Str)) = false := by decide)
    (hcd : (x == ("__classdict__" : Str)) = false := by decide) : DT X c (.Name x pos) (tPk i) := ptd (pt_truthR (pe_var hN hv hd hcd) tru_d (by intro _; rfl)) ev_tPk
theorem t_not {ta : T} (ha : DT X c a ta) : DT X c (.UnaryOp .Not a pos) (tNot ta) := ptd (pt_not ha) (ev_not ev_self)
theorem w_and1 {ta : T} (ha : DT X c a ta) : DW X c (.BoolOp .And [a] pos) ta := pw_and1 ha
theorem w_or1 {ta : T} (ha : DT X c a ta) : DW X c (.BoolOp .Or [a] pos) ta := pw_or1 ha
theorem w_and {ta tb : T} {r : List Expr} (ha : DT X c a ta) (hb : DW X c (.BoolOp .And (b :: r) pos) tb) : DW X c (.BoolOp .And (a :: b :: r) pos) (tAnd ta tb) := pwd (pw_and ha hb) (ev_and ev_self ev_self)
theorem w_or {ta tb : T} {r : List Expr} (ha : DT X c a ta) (hb : DW X c (.BoolOp .Or (b :: r) pos) tb) : DW X c (.BoolOp .Or (a :: b :: r) pos) (tOr ta tb) := pwd (pw_or ha hb) (ev_or ev_self ev_self)
theorem t_w {ta : T} (h : DW X c a ta) : DT X c a ta := h.pt
theorem ev_andV {K : Fr} {ta tb : TE} (ha : Ev K c ta (pV K c) ma) (hb : Ev K c tb (pV K c) mb) : Ev K c (tAndV ta tb) (pV K c) (eAnd ma mb) := by
  intro ρ σ S H Q st g
  refine (ev_val ha) ρ σ S H _ st ?_
  unfold eAnd tE bind at g
  cases e : val ma ρ with
  | bad =>
    simp only [e] at g
    exact g
  | err er ρ' =>
    simp only [e] at g
    exact g
  | ok x ρ' =>
    simp only [e] at g
    intro v S' H' st' ex r
    cases r with
    | bl k =>
      refine ⟨k, rfl, ?_⟩
      cases k with
      | true => exact hb ρ' σ S' H' Q st' (Goal.mono ex g)
      | false => exact (Goal.mono ex g) (.bl false) S' H' st' (Ex.refl _) (R.bl false)
    | _ => exact g.elim
theorem ev_orV {K : Fr} {ta tb : TE} (ha : Ev K c ta (pV K c) ma) (hb : Ev K c tb (pV K c) mb) : Ev K c (tOrV ta tb) (pV K c) (eOr ma mb) := by
  intro ρ σ S H Q st g
  refine (ev_val ha) ρ σ S H _ st ?_
  unfold eOr tE bind at g
  cases e : val ma ρ with
  | bad =>
    simp only [e] at g
    exact g
  | err er ρ' =>
    simp only [e] at g
    exact g
  | ok x ρ' =>
    simp only [e] at g
    intro v S' H' st' ex r
    cases r with
    | bl k =>
      refine ⟨k, rfl, ?_⟩
      cases k with
      | true => exact (Goal.mono ex g) (.bl true) S' H' st' (Ex.refl _) (R.bl true)
      | false => exact hb ρ' σ S' H' Q st' (Goal.mono ex g)
    | _ => exact g.elim
theorem ev_notV {K : Fr} {ta : TE} (ha : Ev K c ta (pV K c) ma) : Ev K c (tNotV ta) (pV K c) (eNot ma) := by
  intro ρ σ S H Q st g
  refine (ev_val ha) ρ σ S H _ st ?_
  unfold eNot tE bind at g
  cases e : val ma ρ with
  | bad =>
    simp only [e] at g
    exact g
  | err er ρ' =>
    simp only [e] at g
    exact g
  | ok x ρ' =>
    simp only [e] at g
    intro v S' H' st' ex r
    cases r with
    | bl k => exact ⟨k, rfl, (Goal.mono ex g) (.bl !k) S' H' st' (Ex.refl _) (R.bl !k)⟩
    | _ => exact g.elim
theorem d_one {op} (h : DE X c a ma) : DE X c (.BoolOp op [a] pos) ma := pe_one h
theorem d_and {r : List Expr} (ha : DE X c a ma) (hb : DE X c (.BoolOp .And (b :: r) pos) mb) : DE X c (.BoolOp .And (a :: b :: r) pos) (eAnd ma mb) := ped (pe_and ha hb) (ev_andV ev_te ev_te)
theorem d_or {r : List Expr} (ha : DE X c a ma) (hb : DE X c (.BoolOp .Or (b :: r) pos) mb) : DE X c (.BoolOp .Or (a :: b :: r) pos) (eOr ma mb) := ped (pe_or ha hb) (ev_orV ev_te ev_te)
theorem d_not (ha : DE X c a ma) : DE X c (.UnaryOp .Not a pos) (eNot ma) := ped (pe_not ha) (ev_notV ev_te)
theorem d_if {ta : T} (ht : DT X c d ta) (ha : DE X c a ma) (hb : DE X c b mb) : DE X c (.IfExp d a b pos) (eIf ta ma mb) := ped (pe_ifExp ht ha hb) (ev_ifE ev_self ev_te ev_te)
theorem a_nil : DA X c [] [] := pad pa_nil ev_nil
theorem a_cons {es : List Expr} {ms : List E} (ha : DE X c a ma) (hr : DA X c es ms) (hs : starEach (a :: es) X.env = (false, eval a X.env) :: starEach es X.env := by rfl) : DA X c (a :: es) (ma :: ms) := pad (pa_cons ha hr hs) (ev_cons ev_te ev_self)
theorem d_tup {es : List Expr} {ms : List E} {x1} (h : DA X c es ms) : DE X c (.Tuple es x1 pos) (eTup ms) := ped (pe_tup h) (ev_tup ev_self)
theorem d_lst {es : List Expr} {ms : List E} (h : DA X c es ms) : DE X c (.List es pos) (eLst ms) := ped (pe_lst h) (ev_lst ev_self)
/-! ### one of two readings -/
theorem pe_or2 {e : Expr} {t u : TE} (h : PE X e t) (h' : PE X e u) : PE X e (fun σ H Q => t σ H Q ∨ u σ H Q) := ⟨fun pins s σ H Q I q => q.elim (h.run pins s σ H Q I) (h'.run pins s σ H Q I)⟩
theorem pt_or2 {e : Expr} {t u : TT} (h : PT X e t) (h' : PT X e u) : PT X e (fun σ H Q => t σ H Q ∨ u σ H Q) := ⟨fun pins s σ H Q I q => q.elim (h.run pins s σ H Q I) (h'.run pins s σ H Q I)⟩
theorem ev_or2 {α β : Type} {K : Fr} {t u : L2.St → Hp → (β → Hp → Prop) → Prop} {P' : L2.St → α → Sh → Hp → β → Prop} {m m1 m2 : M α} (h : Ev K c t P' m1) (h' : Ev K c u P' m2) (hm : ∀ ρ, m ρ = m1 ρ ∨ m ρ = m2 ρ) : Ev K c (fun σ H Q => t σ H Q ∨ u σ H Q) P' m := fun ρ σ S H Q st g => by
  rcases hm ρ with e | e
  · exact .inl (h ρ σ S H Q st (by rw [← e]; exact g))
  · exact .inr (h' ρ σ S H Q st (by rw [← e]; exact g))
/-- a dict as it stands, its items shared -/
def DicS (K : Fr) (Hs H : Hp) (a : Addr) (ds : List (D × D)) : Prop := (∃ kvs, Rd H a (.dK kvs) ∧ Rk K Hs kvs ds) ∨ ∃ es, es ≠ [] ∧ Rd H a (dnO K a es) ∧ Rt K Hs es ds
theorem DicS.get {K : Fr} {Hs H : Hp} {a : Addr} {ds : List (D × D)} {kd : D} {vy : V} (h : DicS K Hs H a ds) (sub : Ex Hs H) (rk : R K Hs vy kd) (hs : kSame ds kd = true) :
    (DG K H a vy none ∧ dGet ds kd = none) ∨ ∃ u d, DG K H a vy (some u) ∧ dGet ds kd = some d ∧ R K Hs u d := by
  rcases h with ⟨kvs, a1, b⟩ | ⟨es, hn, a1, b⟩
  · by_cases hk : isKey kd = true
    · obtain ⟨kk, rfl, rfl⟩ := key_of rk hk
      rcases b.get kk with ⟨n1, n2⟩ | ⟨u, d, v1, v2, r⟩
      · exact .inl ⟨.inl (.inl ⟨kvs, kk, a1, rfl, n1.symm⟩), n2⟩
      · exact .inr ⟨u, d, .inl (.inl ⟨kvs, kk, a1, rfl, v1.symm⟩), v2, r⟩
    · have hT : isKeyT kd = true ∧ ds = [] := by
        unfold kSame at hs
        rw [Bool.not_eq_true] at hk
        rw [hk] at hs
        simp only [Bool.false_and, Bool.false_or, Bool.and_eq_true] at hs
        refine ⟨hs.1, ?_⟩
        cases b with
        | nil => rfl
        | @cons k v d kvs ds r1 r2 =>
          exfalso
          have := hs.2
          simp only at this
          cases k <;> simp [kD] at this
      obtain ⟨hT, rfl⟩ := hT
      obtain ⟨kn, e1, e2⟩ := isKeyT_key hT
      cases b
      have rv : ∃ b, vy = .ref b := by
        cases rk <;> first | exact ⟨_, rfl⟩ | cases hT
      obtain ⟨b, rfl⟩ := rv
      exact .inl ⟨.inr ⟨b, kd, kn, rfl, rk.mono sub, hT, e1, .inr ⟨a1, rfl⟩⟩, rfl⟩
  · have hT : isKeyT kd = true := by
      unfold kSame at hs
      rw [Bool.or_eq_true, Bool.and_eq_true, Bool.and_eq_true] at hs
      rcases hs with hs | hs
      · exfalso
        cases b with
        | nil => exact hn rfl
        | cons r1 r2 r3 r4 r5 =>
          have := hs.2
          simp only at this
          rw [isKeyT_notKey r2] at this
          cases this
      · exact hs.1
    obtain ⟨kn, e1, e2⟩ := isKeyT_key hT
    have rv : ∃ b, vy = .ref b := by
      cases rk <;> first | exact ⟨_, rfl⟩ | cases hT
    obtain ⟨b', rfl⟩ := rv
    rcases rt_get e1 b with ⟨n1, n2⟩ | ⟨u, d, v1, v2, r⟩
    · exact .inl ⟨.inr ⟨b', kd, kn, rfl, rk.mono sub, hT, e1, .inl ⟨es, ds, a1, b.mono sub, n1.symm⟩⟩, n2⟩
    · exact .inr ⟨u, d, .inr ⟨b', kd, kn, rfl, rk.mono sub, hT, e1, .inl ⟨es, ds, a1, b.mono sub, v1.symm⟩⟩, v2, r⟩
theorem R.dicS {K : Fr} {Hs : Hp} {v : V} {ds : List (D × D)} (h : R K Hs v (.dic ds)) : ∃ a, v = .ref a ∧ DicS K Hs Hs a ds := by
  cases h with
  | dic h1 h2 => exact ⟨_, rfl, .inl ⟨_, h1, h2⟩⟩
  | dicT h0 h1 h2 => exact ⟨_, rfl, .inr ⟨_, h0, h1, h2⟩⟩
theorem DicS.mono {K : Fr} {Hs Hs' H H' : Hp} {a : Addr} {ds : List (D × D)} (h : DicS K Hs H a ds) (e : Ex Hs Hs') (e2 : Ex H H') : DicS K Hs' H' a ds := by
  rcases h with ⟨kvs, a1, b⟩ | ⟨es, hn, a1, b⟩
  · exact .inl ⟨kvs, e2.rd a1, b.mono e⟩
  · exact .inr ⟨es, hn, e2.rd a1, b.mono e⟩
theorem ContR.dicS {K : Fr} {Hs H : Hp} {P : Addr → Prop} {l : Addr} {ds : List (D × D)} (h : ContR K Hs H P l (.dic ds)) : DicS K Hs H l ds := by
  obtain ⟨p, ⟨kvs, a, b⟩ | ⟨es, n, a, b⟩⟩ := h
  · exact .inl ⟨kvs, .inl a, b⟩
  · exact .inr ⟨es, n, .inl a, b⟩
/-- d[k] of a dict -/
theorem ev_dget {K : Fr} {ta tb : TE} (ha : Ev K c ta (pV K c) ma) (hb : Ev K c tb (pV K c) mb) : Ev K c (tDGetA K ta tb) (pV K c) (e2 oDGet ma mb) :=
  ev_two (u := fun x y H (Q : VK) => ∃ a v, x = .ref a ∧ DG K H a y (some v) ∧ Q v H) ha hb fun x y vx vy ρ σ S H Q st rx ry g => by
    obtain ⟨z, e, g⟩ := goal_opt g
    cases x with
    | dic ds =>
      obtain ⟨a, rfl, hd⟩ := rx.dicS
      simp only [oDGet] at e
      split at e
      · rename_i hk
        rw [Option.map_eq_some_iff] at e
        obtain ⟨dv, e1, rfl⟩ := e
        rcases (hd.mono (Ex.refl _) st.subE).get st.subE ry hk with ⟨_, n⟩ | ⟨u, d, v1, v2, r⟩
        · rw [n] at e1
          cases e1
        · rw [v2] at e1
          cases e1
          exact ⟨a, u, rfl, v1, g u S H st (Ex.refl _) r⟩
      · cases e
    | _ => simp only [oDGet] at e; cases e
theorem ev_ixA {K : Fr} {ta tb : TE} (ha : Ev K c ta (pV K c) ma) (hb : Ev K c tb (pV K c) mb) : Ev K c (fun σ H Q => tOp (rIx K) ta tb σ H Q ∨ tDGetA K ta tb σ H Q) (pV K c) (e2 oIxA ma mb) :=
  ev_or2 (ev_op2 o_ix ha hb) (ev_dget ha hb) fun ρ => by
    unfold e2 bind
    cases e : val ma ρ with
    | bad => exact .inl rfl
    | err er ρ' => exact .inl rfl
    | ok x ρ1 =>
      cases x with
      | dic kvs => exact .inr rfl
      | _ =>
        simp only
        cases val mb ρ1 <;> exact .inl rfl
theorem d_ix (hu : X.A.units + 65 < cLine) (ha : DE X c a ma) (hb : DE X c b mb) (hs : PlainIx b := by intro _ _; rfl) (hs2 : NoSl b := by intro _ _; rfl) : DE X c (.Subscript a b pos) (e2 oIxA ma mb) := ped (pe_or2 (pe_ix ix_seq ha hb hs) (pe_dgetA (by omega) ha hb hs2)) (ev_ixA ev_te ev_te)
theorem hasV_at {K : Fr} {ρ : Env} {σ : L2.St} {S : Sh} {H : Hp} {i : Nat} (st : StR K c ρ σ S H) (h : hasV ρ[i]? = true) : ∃ v, σ[i]? = some (some v) := by
  cases e : ρ[i]? with
  | none =>
    rw [e] at h
    cases h
  | some s =>
    rw [e] at h
    cases s with
    | un => cases h
    | exc e => cases h
    | val d =>
      obtain ⟨v, h1, _⟩ := st.val i d e
      exact ⟨v, h1⟩
    | own k =>
      obtain ⟨v, h1, _⟩ := st.own i k e
      exact ⟨_, h1⟩
    | bor k =>
      obtain ⟨v, h1, _⟩ := st.bor i k e
      exact ⟨_, h1⟩
theorem ev_pkIx {K : Fr} {tb : TE} {i : Nat} (hb : Ev K c tb (pV K c) mb) : Ev K c (fun σ H Q => tOp (rIx K) (tVar i) tb σ H Q ∨ tDGetA K (tVar i) tb σ H Q) (pV K c) (ePk2 oIxD i mb) := by
  intro ρ σ S H Q st g
  unfold ePk2 at g
  split at g
  · rename_i hV
    obtain ⟨v0, hv0⟩ := hasV_at st hV
    -- which of the two is told by the run
    unfold bind at g
    cases e : val mb ρ with
    | bad =>
      simp only [e] at g
      refine .inl ⟨v0, hv0, (ev_val hb) ρ σ S H _ st ?_⟩
      rw [e]
      exact g
    | err er ρ' =>
      simp only [e] at g
      refine .inl ⟨v0, hv0, (ev_val hb) ρ σ S H _ st ?_⟩
      rw [e]
      exact g
    | ok y ρ' =>
      simp only [e] at g
      cases p : peekI i ρ' with
      | bad =>
        simp only [p] at g
        exact g.elim
      | err er ρ2 =>
        simp only [p] at g
        exact g.elim
      | ok x ρ2 =>
        simp only [p] at g
        cases q : oIxD x y with
        | none =>
          simp only [q] at g
          exact g.elim
        | some z =>
          simp only [q] at g
          have qz : oIxA x y = some (.d z) := by
            unfold oIxD at q
            split at q
            · rename_i z' hz
              cases q
              exact hz
            · cases q
          by_cases hn : ∃ kvs, x = .dic kvs
          · obtain ⟨ds, rfl⟩ := hn
            refine .inr ⟨v0, hv0, (ev_val hb) ρ σ S H _ st ?_⟩
            rw [e]
            intro vy S' H' st' ex r
            obtain ⟨_, v, h1, h2⟩ := st'.peekI p
            rw [hv0] at h1
            cases h1
            have hd : ∃ a, v0 = .ref a ∧ DicS K S'.h H' a ds := by
              rcases h2 with h2 | ⟨l, k, rfl, hk, hp, h2⟩
              · obtain ⟨a, rfl, hd⟩ := h2.dicS
                exact ⟨a, rfl, hd.mono (Ex.refl _) st'.subE⟩
              · cases k with
                | dic ds' =>
                  cases hk
                  exact ⟨l, rfl, h2.dicS⟩
                | lst _ => cases hk
                | dicL _ => cases hp
                | obj _ _ => cases hp
            obtain ⟨a, rfl, hd⟩ := hd
            simp only [oIxA, oDGet] at qz
            split at qz
            · rename_i hk
              rw [Option.map_eq_some_iff] at qz
              obtain ⟨dv, e1, e2⟩ := qz
              cases e2
              rcases hd.get st'.subE r hk with ⟨_, n⟩ | ⟨u, d, v1, v2, r2⟩
              · rw [n] at e1
                cases e1
              · rw [v2] at e1
                cases e1
                exact ⟨a, u, rfl, v1, g u S' H' st' ex r2⟩
            · cases qz
          · refine .inl ⟨v0, hv0, (ev_val hb) ρ σ S H _ st ?_⟩
            rw [e]
            intro vy S' H' st' ex r
            obtain ⟨_, v, h1, h2⟩ := st'.peekI p
            rw [hv0] at h1
            cases h1
            have e3 : oIx x y = some (.d z) := by
              rw [← qz]
              cases x with
              | dic kvs => exact absurd ⟨kvs, rfl⟩ hn
              | _ => rfl
            rcases h2 with h2 | ⟨l, k, rfl, hk, hp, h2⟩
            · exact o_ix ρ' σ S' H' _ _ v0 _ _ Q st' h2 r e3 fun v Hs2 H2 s2 e2 p2 => g v Hs2 H2 s2 (ex.trans e2) p2
            · cases k with
              | dic kvs => exact absurd ⟨kvs, hk⟩ hn
              | lst ds =>
                subst hk
                obtain ⟨_, xs, a1, a2⟩ := h2
                cases r with
                | int n =>
                  simp only [C.d, oIx, Option.map_eq_some_iff] at e3
                  obtain ⟨d, e4, e5⟩ := e3
                  cases e5
                  obtain ⟨u, b1, b2⟩ := a2.at e4
                  exact .inl ⟨l, xs, n, u, rfl, rfl, SqL.of a1, b1, g u S' H' st' ex b2⟩
                | _ => simp only [C.d, oIx] at e3; cases e3
              | dicL _ => cases hp
              | obj _ _ => cases hp
  · exact g.elim
theorem d_pkIx (i : Nat) {x : Str} {pos' : Pos} (hu : X.A.units + 65 < cLine) (hb : DE X c b mb) (hN : X.N[i]? = some x := by rfl) (hv : Vis X.env.scope x := by first | exact Or.inl rfl | exact Or.inr (Or.inl rfl) | exact Or.inr (Or.inr rfl)) (hd : (x == ("__debug__" : Str)) = false := by decide)
    (hcd : (x == ("__classdict__" : Str)) = false := by decide) (hs : PlainIx b := by intro _ _; rfl) (hs2 : NoSl b := by intro _ _; rfl) : DE X c (.Subscript (.Name x pos') b pos) (ePk2 oIxD i mb) :=
  ped (pe_or2 (pe_ix ix_seq (pe_var hN hv hd hcd) hb hs) (pe_dgetA (by omega) (pe_var hN hv hd hcd) hb hs2)) (ev_pkIx ev_te)
end
end Dn
set_option Elab.async false
set_option linter.all false
set_option maxRecDepth 100000
set_option maxHeartbeats 4000000
/-! The rules that one writes: built-ins, calls, comprehensions, statements. -/
namespace Dn
open PySem L2
section
variable {X : Cx} {c : Cxt} {a b d : Expr} {pos p p2 : Pos} {ma mb md : E}
theorem boot_abs' : bootBuiltins "abs" = some (.builtin "abs") := by decide +kernel
theorem boot_any' : bootBuiltins "any" = some (.builtin "any") := by decide +kernel
/-- a built-in of one value -/
theorem d_b1 {id : String} {x : Str} {r : List V → Hp → VK → Prop} {f : D → Option Rv} (hc : CallR X (.builtin id) r) (hr : Op1 (cxFr X) c (fun v => r [v]) f) (hv : bootBuiltins x = some (.builtin id)) (hn : x ≠ "__name__") (hdb : (x == ("__debug__" : Str)) = false)
    (hg : Gl X x) (hm : X.mg x = none) (ha : DE X c a ma) (he : starEach [a] X.env = (false, eval a X.env) :: starEach [] X.env) (hpl : (backTo pos (starEach [] X.env)).any (·.1) = false) : DE X c (.Call (.Name x p) [a] [] pos) (e1 f ma) :=
  ped (pe_callB hc hg hm hv (pa_cons ha pa_nil he) hn hdb he hpl) (ev_opN1 hr ev_te)
theorem d_c1 {T : String} {x : Str} {r : List V → Hp → VK → Prop} {f : D → Option Rv} (hc : CallR X (.type T) r) (hr : Op1 (cxFr X) c (fun v => r [v]) f) (hv : bootBuiltins x = some (.type T)) (hn : x ≠ "__name__") (hdb : (x == ("__debug__" : Str)) = false)
    (hg : Gl X x) (hm : X.mg x = none) (ha : DE X c a ma) (he : starEach [a] X.env = (false, eval a X.env) :: starEach [] X.env) (hpl : (backTo pos (starEach [] X.env)).any (·.1) = false) : DE X c (.Call (.Name x p) [a] [] pos) (e1 f ma) :=
  ped (pe_callTy hc hg hm hv (pa_cons ha pa_nil he) hn hdb he hpl) (ev_opN1 hr ev_te)
theorem d_len (hg : Gl X "len") (hm : X.mg "len" = none) (ha : DE X c a ma) (he : starEach [a] X.env = (false, eval a X.env) :: starEach [] X.env := by rfl) (hpl : (backTo pos (starEach [] X.env)).any (·.1) = false := by rfl) : DE X c (.Call (.Name "len" p) [a] [] pos) (e1 oLen ma) :=
  d_b1 (call_len.or call_lenN) (o_len rfl) PySem.boot_len (by decide) (by decide) hg hm ha he hpl
theorem d_abs (hg : Gl X "abs") (hm : X.mg "abs" = none) (ha : DE X c a ma) (he : starEach [a] X.env = (false, eval a X.env) :: starEach [] X.env := by rfl) (hpl : (backTo pos (starEach [] X.env)).any (·.1) = false := by rfl) : DE X c (.Call (.Name "abs" p) [a] [] pos) (e1 oAbs ma) :=
  d_b1 call_abs o_abs boot_abs' (by decide) (by decide) hg hm ha he hpl
theorem d_all (hc : X.calm = true) (hg : Gl X "all") (hm : X.mg "all" = none) (ha : DE X c a ma) (he : starEach [a] X.env = (false, eval a X.env) :: starEach [] X.env := by rfl) (hpl : (backTo pos (starEach [] X.env)).any (·.1) = false := by rfl) : DE X c (.Call (.Name "all" p) [a] [] pos) (e1 oAll ma) :=
  d_b1 (cr_all hc) o_all PyProof.Rows.boot_all (by decide) (by decide) hg hm ha he hpl
theorem d_any (hc : X.calm = true) (hg : Gl X "any") (hm : X.mg "any" = none) (ha : DE X c a ma) (he : starEach [a] X.env = (false, eval a X.env) :: starEach [] X.env := by rfl) (hpl : (backTo pos (starEach [] X.env)).any (·.1) = false := by rfl) : DE X c (.Call (.Name "any" p) [a] [] pos) (e1 oAny ma) :=
  d_b1 (cr_any hc) o_any boot_any' (by decide) (by decide) hg hm ha he hpl
theorem d_sum (hc : X.calm = true) (hg : Gl X "sum") (hm : X.mg "sum" = none) (ha : DE X c a ma) (he : starEach [a] X.env = (false, eval a X.env) :: starEach [] X.env := by rfl) (hpl : (backTo pos (starEach [] X.env)).any (·.1) = false := by rfl) : DE X c (.Call (.Name "sum" p) [a] [] pos) (e1 oSum ma) :=
  d_b1 (cr_sum hc) o_sum PyProof.Rows.boot_sum (by decide) (by decide) hg hm ha he hpl
theorem d_intc (hg : Gl X "int") (hm : X.mg "int" = none) (ha : DE X c a ma) (he : starEach [a] X.env = (false, eval a X.env) :: starEach [] X.env := by rfl) (hpl : (backTo pos (starEach [] X.env)).any (·.1) = false := by rfl) : DE X c (.Call (.Name "int" p) [a] [] pos) (e1 oInt ma) :=
  d_c1 call_int1 o_intc PyProof.Rows.boot_int (by decide) (by decide) hg hm ha he hpl
theorem d_list (hg : Gl X "list") (hm : X.mg "list" = none) (ha : DE X c a ma) (he : starEach [a] X.env = (false, eval a X.env) :: starEach [] X.env := by rfl) (hpl : (backTo pos (starEach [] X.env)).any (·.1) = false := by rfl) : DE X c (.Call (.Name "list" p) [a] [] pos) (e1 oList ma) :=
  d_c1 call_list_of o_list PyProof.Rows.boot_list (by decide) (by decide) hg hm ha he hpl
theorem d_tuple (hg : Gl X "tuple") (hm : X.mg "tuple" = none) (ha : DE X c a ma) (he : starEach [a] X.env = (false, eval a X.env) :: starEach [] X.env := by rfl) (hpl : (backTo pos (starEach [] X.env)).any (·.1) = false := by rfl) : DE X c (.Call (.Name "tuple" p) [a] [] pos) (e1 oTuple ma) :=
  d_c1 call_tuple_of o_tuple PyProof.Rows.boot_tuple (by decide) (by decide) hg hm ha he hpl
theorem d_dictP (hc : X.calm = true) (hg : Gl X "dict") (hm : X.mg "dict" = none) (ha : DE X c a ma) (he : starEach [a] X.env = (false, eval a X.env) :: starEach [] X.env := by rfl) (hpl : (backTo pos (starEach [] X.env)).any (·.1) = false := by rfl) : DE X c (.Call (.Name "dict" p) [a] [] pos) (e1 oDictP ma) :=
  d_c1 (call_dictP hc) o_dictP PyProof.Rows.boot_dict (by decide) (by decide) hg hm ha he hpl
/-- isinstance(e, T) -/
theorem d_isi {x : Str} {t : String} (hk : ∀ q : D, kitB q.ty t = some (isiT q.ty t)) (hv : bootBuiltins x = some (.type t)) (hg : Gl X "isinstance") (hm : X.mg "isinstance" = none) (hgx : Gl X x) (hmx : X.mg x = none) (ha : DE X c a ma) (hnx : x ≠ "__name__" := by decide) (hdx : (x == ("__debug__" : Str)) = false := by decide)
    (he : starEach [a, .Name x p2] X.env = (false, eval a X.env) :: starEach [.Name x p2] X.env := by rfl) (he2 : starEach [.Name x p2] X.env = (false, eval (.Name x p2) X.env) :: starEach [] X.env := by rfl) (hpl : (backTo pos (starEach [.Name x p2] X.env)).any (·.1) = false := by rfl) :
    DE X c (.Call (.Name "isinstance" p) [a, .Name x p2] [] pos) (e1 (oIsi t) ma) :=
  ped (pe_callB call_isi hg hm PyProof.Rows.boot_isinstance (pa_cons ha (pa_cons (pe_bltn (v := .ty t) hgx hmx hv rfl hnx hdx) pa_nil he2) he) (by decide) (by decide) he hpl)
    (ev_bind (u := fun σ (x : V) H (Q : VK) => rIsi X.K [x, .ty t] H Q) (ev_val ev_te) fun x vx ρ σ S H Q st rx g => by
      obtain ⟨z, e, g⟩ := goal_opt g
      simp only [oIsi] at e
      split at e
      · cases e
      · rename_i hn
        cases e
        exact ⟨vx, .ty t, _, _, _, rfl, .ty t, ty_of (rx.mono st.subE) (by simpa using hn), kit_ty (hk x), g _ S H st (Ex.refl _) (R.bl _)⟩)
/-- max(a, b), min(a, b) -/
theorem ev_n2 {K : Fr} {ta tb : TE} {r : List V → Hp → VK → Prop} {g : Int → Int → Int} {f : List D → Option Rv} (hr : ∀ i j H (Q : VK), Q (.int (g i j)) H → r [.int i, .int j] H Q) (hf : f = fun ds => match ds with | [.int i, .int j] => some (.d (.int (g i j))) | _ => none)
    (ha : Ev K c ta (pV K c) ma) (hb : Ev K c tb (pV K c) mb) : Ev K c (tCB r (tCons ta (tCons tb tNil))) (pV K c) (eN f [ma, mb]) := by
  subst hf
  refine ev_opN (fun ρ σ S H xs vs z Q st rs e k => ?_) (ev_cons ha (ev_cons hb ev_nil))
  cases rs with
  | nil => cases e
  | cons r1 rs =>
    cases rs with
    | nil => cases r1 <;> cases e
    | cons r2 rs =>
      cases rs with
      | cons _ _ => cases r1 <;> cases r2 <;> cases e
      | nil =>
        cases r1 <;> cases r2 <;> first | cases e | skip
        exact hr _ _ H Q (keep_d st k (R.int _))
theorem d_max2 (hc : X.calm = true) (hg : Gl X "max") (hm : X.mg "max" = none) (ha : DE X c a ma) (hb : DE X c b mb) (he : starEach [a, b] X.env = (false, eval a X.env) :: starEach [b] X.env := by rfl) (he2 : starEach [b] X.env = (false, eval b X.env) :: starEach [] X.env := by rfl) (hpl : (backTo pos (starEach [b] X.env)).any (·.1) = false := by rfl) :
    DE X c (.Call (.Name "max" p) [a, b] [] pos) (eN oMax2 [ma, mb]) :=
  ped (pe_callB (call_max2 hc) hg hm PyProof.Rows.boot_max (pa_cons ha (pa_cons hb pa_nil he2) he) (by decide) (by decide) he hpl) (ev_n2 (g := fun i j => if j > i then j else i) (fun i j H Q q => ⟨i, j, rfl, q⟩) (by
    funext ds
    unfold oMax2
    rfl) ev_te ev_te)
theorem d_min2 (hc : X.calm = true) (hg : Gl X "min") (hm : X.mg "min" = none) (ha : DE X c a ma) (hb : DE X c b mb) (he : starEach [a, b] X.env = (false, eval a X.env) :: starEach [b] X.env := by rfl) (he2 : starEach [b] X.env = (false, eval b X.env) :: starEach [] X.env := by rfl) (hpl : (backTo pos (starEach [b] X.env)).any (·.1) = false := by rfl) :
    DE X c (.Call (.Name "min" p) [a, b] [] pos) (eN oMin2 [ma, mb]) :=
  ped (pe_callB (call_min2 hc) hg hm PyProof.Rows.boot_min (pa_cons ha (pa_cons hb pa_nil he2) he) (by decide) (by decide) he hpl) (ev_n2 (g := fun i j => if j < i then j else i) (fun i j H Q q => ⟨i, j, rfl, q⟩) (by
    funext ds
    unfold oMin2
    rfl) ev_te ev_te)
/-- d.get(k, x) -/
theorem DicS.isDA {K : Fr} {Hs H : Hp} {a : Addr} {ds : List (D × D)} (h : DicS K Hs H a ds) (sub : Ex Hs H) : IsDA K H a := by
  rcases h with ⟨kvs, a1, b⟩ | ⟨es, hn, a1, b⟩
  · exact .inl (.inl ⟨kvs, a1⟩)
  · exact .inr ⟨es, ds, a1, b.mono sub⟩
theorem ev_get2 {K : Fr} {ta tb td : TE} (ha : Ev K c ta (pV K c) ma) (hb : Ev K c tb (pV K c) mb) (hd : Ev K c td (pV K c) md) : Ev K c (tDGet2A K ta tb td) (pV K c) (eGet2 ma mb md) := by
  refine ev_bind (u := fun σ (x : V) H (Q : VK) => ∃ a, x = .ref a ∧ IsDA K H a ∧ tb σ H fun y H2 => td σ H2 fun z H3 => ∃ o, DG K H3 a y o ∧ Q (o.getD z) H3) (ev_val ha) fun x vx ρ σ S H Q st rx g => ?_
  cases x with
  | dic ds =>
    obtain ⟨l, rfl, hds⟩ := rx.dicS
    refine ⟨l, rfl, (hds.mono (Ex.refl _) st.subE).isDA st.subE, ?_⟩
    have g : Goal K c σ S (pV K c σ) (bind (val mb) (fun y => bind (val md) fun z => opt (oDGetD (.dic ds) y z)) ρ) Q := g
    refine (ev_val hb) ρ σ S H _ st ?_
    unfold bind at g
    cases e : val mb ρ with
    | bad =>
      rw [e] at g
      exact g
    | err er ρ' =>
      rw [e] at g
      exact g
    | ok y ρ1 =>
      rw [e] at g
      intro vy S1 H1 st1 ex1 ry
      refine (ev_val hd) ρ1 σ S1 H1 _ st1 ?_
      simp only at g
      cases e' : val md ρ1 with
      | bad =>
        rw [e'] at g
        exact g
      | err er ρ' =>
        rw [e'] at g
        exact fun cls od S' H' st' ex er => g cls od S' H' st' (ex1.trans ex) er
      | ok z ρ2 =>
        rw [e'] at g
        intro vz S2 H2 st2 ex2 rz
        obtain ⟨w, ew, gw⟩ := goal_opt g
        simp only [oDGetD] at ew
        split at ew
        · rename_i hk
          cases ew
          rcases (hds.mono (ex1.trans ex2) ((ex1.trans ex2).trans st2.subE)).get st2.subE (ry.mono ex2) hk with ⟨v1, n⟩ | ⟨u, d, v1, v2, r⟩
          · refine ⟨none, v1, ?_⟩
            rw [n] at gw
            exact gw vz S2 H2 st2 (ex1.trans ex2) rz
          · refine ⟨some u, v1, ?_⟩
            rw [v2] at gw
            exact gw u S2 H2 st2 (ex1.trans ex2) r
        · cases ew
  | _ => exact g.elim
theorem d_get2 {apos : Pos} (hu : X.A.units + 65 < cLine) (ha : DE X c a ma) (hb : DE X c b mb) (hd : DE X c d md) (m : M2 X a "get" apos b d pos := by exact ⟨rfl, rfl, rfl, rfl⟩) : DE X c (.Call (.Attribute a "get" apos) [b, d] [] pos) (eGet2 ma mb md) :=
  ped (pe_dget2A (by omega) ha hb hd m) (ev_get2 ev_te ev_te ev_te)
/-! ### in -/
theorem flat_of {K : Fr} {H : Hp} {v : V} {q : D} (r : R K H v q) (h : flatD q = true) : flatV v = true := by
  cases r <;> first | rfl | (simp [flatD] at h; done)
theorem flats_of {K : Fr} {H : Hp} : ∀ {ds : List D} {vs : List V}, Rs K H vs ds → ds.all flatD = true → vs.all flatV = true
  | [], _, h, _ => by
    cases h
    rfl
  | x :: ds, _, h, e => by
    cases h with
    | cons h1 h2 =>
      simp only [List.all_cons, Bool.and_eq_true] at e ⊢
      exact ⟨flat_of h1 e.1, flats_of h2 e.2⟩
theorem eqV_of {K : Fr} {H : Hp} {u v : V} {x y : D} (r : R K H u x) (s : R K H v y) (h : flatD x = true) (h' : flatD y = true) : eqV u v = x.eqv y := by
  cases r <;> first | (simp [flatD] at h; done) | skip
  all_goals (cases s <;> first | (simp [flatD] at h'; done) | rfl)
theorem inV_of {K : Fr} {H : Hp} {u : V} {x : D} (r : R K H u x) (h : flatD x = true) : ∀ {ds : List D} {vs : List V}, Rs K H vs ds → ds.all flatD = true → inV u vs = ds.any fun y => y.eqv x
  | [], _, q, _ => by
    cases q
    rfl
  | y :: ds, _, q, e => by
    cases q with
    | cons h1 h2 =>
      simp only [List.all_cons, Bool.and_eq_true] at e
      show (eqV _ u || inV u _) = _
      rw [eqV_of h1 r e.1 h, inV_of r h h2 e.2]
      rfl
theorem any_toP (x : D) : ∀ ds : List D, ((toPs ds).any fun z => PyData.eqv z x.toP) = ds.any fun y => y.eqv x
  | [] => by simp [toPs]
  | y :: ds => by
    simp only [toPs, List.any_cons, any_toP x ds]
    rfl
theorem o_inL : Cp2 K c (rInD K) (fun x y => match y with | .lst ys => oIn x (.lst ys) | _ => none) := by
  intro ρ σ S H x y vx vy k Q st rx ry e q
  cases ry with
  | @lst l xs ds h1 h2 =>
    simp only [oIn] at e
    split at e
    · rename_i h
      rw [Bool.and_eq_true] at h
      cases e
      have hl : SeqAt.shaped (.list (toPs ds)) = true := by
        have := ok_shaped h.2
        simpa only [D.toP] using this
      refine ⟨_, toPs ds, R.dp 30 (rx.mono st.subE) h.1, ?_, ok_shaped h.1, hl, ?_⟩
      · have := R.dp 30 ((R.lst h1 h2).mono st.subE) h.2
        simpa only [D.toP] using this
      · rw [any_toP]
        exact q
    · cases e
  | _ => cases e
/-- x in a tuple of anything that == may be asked of -/
def rInTD (K : PySem.W.Frag) (neg : Bool) : R2 := fun x y H Q => ∃ d ds, Dp K H x d ∧ Dp K H y (.tuple ds) ∧ SeqAt.shaped d = true ∧ SeqAt.shaped (.tuple ds) = true ∧ Q (.bl (if neg then !ds.any fun z => PyData.eqv z d else ds.any fun z => PyData.eqv z d)) H
theorem room_inT {d : PyData} {ds : List PyData} {A : Around} (sd : SeqAt.shaped d = true) (hu : A.units + 65 < cLine) : A.units + 1 + min (PyData.depthAll ds) d.depth < cLine := PyProof.Rows.room_in_shaped (xs := ds) sd hu
theorem op_inTD (hu : X.A.units + 65 < cLine) : OpR X (compareOp .In) (rInTD X.K false) := by
  intro pins s σ H x y v u Q I rx ry h
  obtain ⟨d, ds, hd, he, sd, se, q⟩ := h
  obtain ⟨as, r1⟩ := Dp.reads I d x v hd rx
  obtain ⟨bs, r2⟩ := Dp.reads I (.tuple ds) y u he ry
  have lay : PyData.canLayAll0 ds = true := by
    have := SeqAt.canLay_of_shaped se
    simpa only [PyData.canLay0] using this
  exact SeqAt.in_tuple_reads r2 r1 lay (SeqAt.canLay_of_shaped sd) (room_inT sd hu) ⟨.bl _, H, I, rfl, q⟩
theorem op_niTD (hu : X.A.units + 65 < cLine) : OpR X (compareOp .NotIn) (rInTD X.K true) := by
  intro pins s σ H x y v u Q I rx ry h
  obtain ⟨d, ds, hd, he, sd, se, q⟩ := h
  obtain ⟨as, r1⟩ := Dp.reads I d x v hd rx
  obtain ⟨bs, r2⟩ := Dp.reads I (.tuple ds) y u he ry
  have lay : PyData.canLayAll0 ds = true := by
    have := SeqAt.canLay_of_shaped se
    simpa only [PyData.canLay0] using this
  exact SeqAt.notIn_tuple_reads r2 r1 lay (SeqAt.canLay_of_shaped sd) (room_inT sd hu) ⟨.bl _, H, I, rfl, q⟩
theorem o_inT : Cp2 K c (fun x y H Q => rIn K false x y H Q ∨ rInTD K false x y H Q) (fun x y => match y with | .tup ys => oIn x (.tup ys) | _ => none) := by
  intro ρ σ S H x y vx vy k Q st rx ry e q
  cases ry with
  | @tup l xs ds h1 h2 =>
    simp only [oIn] at e
    split at e
    · rename_i h
      rw [Bool.and_eq_true] at h
      cases e
      refine .inl ⟨l, xs, rfl, .inr (ex_t st.subE h1), flat_of rx h.1, flats_of h2 h.2, ?_⟩
      rw [if_neg Bool.false_ne_true, inV_of rx h.1 h2 h.2]
      exact q
    · split at e
      · rename_i h
        rw [Bool.and_eq_true] at h
        cases e
        have hl : SeqAt.shaped (.tuple (toPs ds)) = true := by
          have := ok_shaped h.2
          simpa only [D.toP] using this
        refine .inr ⟨_, toPs ds, R.dp 30 (rx.mono st.subE) h.1, ?_, ok_shaped h.1, hl, ?_⟩
        · have := R.dp 30 ((R.tup h1 h2).mono st.subE) h.2
          simpa only [D.toP] using this
        · rw [if_neg Bool.false_ne_true, any_toP]
          exact q
      · cases e
  | _ => cases e
theorem o_inS : Cp2 K c (fun x y H (Q : VK) => ∃ (k : Nat) (z : Str), x = .str ⟨#[k]⟩ ∧ y = .str z ∧ Q (.bl (decide (k ∈ z.cps.toList))) H) oInS := by
  intro ρ σ S H x y vx vy k Q st rx ry e q
  cases rx with
  | str s =>
    cases ry with
    | str z =>
      simp only [oInS] at e
      split at e
      · rename_i ch hch
        cases e
        refine ⟨ch, z, ?_, rfl, q⟩
        have : s = ⟨#[ch]⟩ := by
          cases s with
          | mk cps =>
            congr 1
            rw [← Array.toArray_toList (xs := cps)]
            rw [show cps.toList = [ch] from hch]
        rw [this]
      · cases e
    | _ => simp only [oInS] at e; cases e
  | _ => simp only [oInS] at e; cases e
theorem o_inK : Cp2 K c (fun x y H (Q : VK) => ∃ a o, y = .ref a ∧ DG K H a x o ∧ Q (.bl o.isSome) H) oDIn := by
  intro ρ σ S H x y vx vy k Q st rx ry e q
  cases y with
  | dic ds =>
    obtain ⟨a, rfl, hd⟩ := ry.dicS
    simp only [oDIn] at e
    split at e
    · rename_i hk
      cases e
      rcases (hd.mono (Ex.refl _) st.subE).get st.subE rx hk with ⟨v1, n⟩ | ⟨u, d, v1, v2, r⟩
      · rw [n] at q
        exact ⟨a, none, rfl, v1, q⟩
      · rw [v2] at q
        exact ⟨a, some u, rfl, v1, q⟩
    · cases e
  | _ => simp only [oDIn] at e; cases e
def rIn3 (K : PySem.W.Frag) : R2 := fun x y H Q => (rInD K x y H Q ∨ rIn K false x y H Q ∨ rInTD K false x y H Q) ∨ ∃ (k : Nat) (z : Str), x = .str ⟨#[k]⟩ ∧ y = .str z ∧ Q (.bl (decide (k ∈ z.cps.toList))) H
def oIn3 (a : D) : D → Option Bool
  | .str y => oInS a (.str y)
  | b => oIn a b
theorem op_in3 (hu : X.A.units + 65 < cLine) : OpR X (compareOp .In) (rIn3 X.K) := ((op_inD hu).or (op_in_seq.or (op_inTD hu))).or op_in_sign
theorem o_in3 : Cp2 (cxFr X) c (rIn3 X.K) oIn3 := by
  intro ρ σ S H x y vx vy k Q st rx ry e q
  cases y with
  | str z => exact .inr (o_inS ρ σ S H x _ vx vy k Q st rx ry e q)
  | lst ds => exact .inl (.inl (o_inL ρ σ S H x _ vx vy k Q st rx ry e q))
  | tup ds => exact .inl (.inr (o_inT ρ σ S H x _ vx vy k Q st rx ry e q))
  | _ => simp only [oIn3, oIn] at e; cases e
theorem ev_inK {K : Fr} {ta tb : TE} (ha : Ev K c ta (pV K c) ma) (hb : Ev K c tb (pV K c) mb) : Ev K c (L2.tB (tDInA K false ta tb)) pB (t2 oDIn ma mb) := by
  have h := ev_two (u := fun x y H (Q : Bool → Hp → Prop) => ∃ a o, y = .ref a ∧ DG K H a x o ∧ ∃ k, V.bl o.isSome = .bl k ∧ Q k H) (P' := pB) (f := fun x y => opt (oDIn x y)) ha hb fun x y vx vy ρ σ S H Q st rx ry g => by
    obtain ⟨z, e, g⟩ := goal_opt g
    exact o_inK ρ σ S H x y vx vy z (fun v H' => ∃ k, v = .bl k ∧ Q k H') st rx ry e ⟨z, rfl, g z S H st (Ex.refl _) rfl⟩
  exact h
theorem inA_split (ρ : Env) : t2 oInA ma mb ρ = t2 oIn3 ma mb ρ ∨ t2 oInA ma mb ρ = t2 oDIn ma mb ρ := by
  unfold t2 bind
  cases val ma ρ with
  | bad => exact .inl rfl
  | err er ρ' => exact .inl rfl
  | ok x ρ1 =>
    simp only
    cases val mb ρ1 with
    | bad => exact .inl rfl
    | err er ρ' => exact .inl rfl
    | ok y ρ2 =>
      cases y with
      | dic kvs => exact .inr rfl
      | _ => exact .inl rfl
theorem t_in (hu : X.A.units + 65 < cLine) (ha : DE X c a ma) (hb : DE X c b mb) (hm : behindInMarks .In b = false := by rfl) : DT X c (.Compare a [.In] [b] pos) (t2 oInA ma mb) :=
  ptd (pt_or2 (pt_cmpR (op_in3 hu) ha hb hm) (pt_cmp (pc_dinA (by omega) ha hb) hm)) (ev_or2 (ev_cp2 o_in3 ev_te ev_te) (ev_inK ev_te ev_te) inA_split)
def rNi3 (K : PySem.W.Frag) : R2 := fun x y H Q => (rNotInD K x y H Q ∨ rIn K true x y H Q ∨ rInTD K true x y H Q) ∨ ∃ (k : Nat) (z : Str), x = .str ⟨#[k]⟩ ∧ y = .str z ∧ Q (.bl (!decide (k ∈ z.cps.toList))) H
def oNi3 (a b : D) : Option Bool := (oIn3 a b).map (!·)
theorem op_ni3 (hu : X.A.units + 65 < cLine) : OpR X (compareOp .NotIn) (rNi3 X.K) := ((op_notInD hu).or (op_notIn_seq.or (op_niTD hu))).or op_notIn_sign
theorem o_ni3 : Cp2 (cxFr X) c (rNi3 X.K) oNi3 := by
  intro ρ σ S H x y vx vy k Q st rx ry e q
  unfold oNi3 at e
  rw [Option.map_eq_some_iff] at e
  obtain ⟨k', e, rfl⟩ := e
  cases y with
  | str z =>
    obtain ⟨ch, z', e1, e2, e3⟩ := o_inS ρ σ S H x _ vx vy k' (fun v _ => v = .bl k') st rx ry e rfl
    cases e3
    exact .inr ⟨ch, z', e1, e2, q⟩
  | lst ds =>
    obtain ⟨d, ds', e1, e2, e3, e4, e5⟩ := o_inL ρ σ S H x _ vx vy k' (fun v _ => v = .bl k') st rx ry e rfl
    cases e5
    exact .inl (.inl ⟨d, ds', e1, e2, e3, e4, q⟩)
  | tup ds =>
    rcases o_inT ρ σ S H x _ vx vy k' (fun v _ => v = .bl k') st rx ry e rfl with ⟨p, xs, e1, e2, e3, e4, e5⟩ | ⟨d, ds', e1, e2, e3, e4, e5⟩
    · rw [if_neg Bool.false_ne_true] at e5
      cases e5
      exact .inl (.inr (.inl ⟨p, xs, e1, e2, e3, e4, by rw [if_pos rfl]; exact q⟩))
    · rw [if_neg Bool.false_ne_true] at e5
      cases e5
      exact .inl (.inr (.inr ⟨d, ds', e1, e2, e3, e4, by rw [if_pos rfl]; exact q⟩))
  | _ => simp only [oIn3, oIn] at e; cases e
theorem ev_niK {K : Fr} {ta tb : TE} (ha : Ev K c ta (pV K c) ma) (hb : Ev K c tb (pV K c) mb) : Ev K c (L2.tB (tDInA K true ta tb)) pB (t2 (fun x y => (oDIn x y).map (!·)) ma mb) := by
  have h := ev_two (u := fun x y H (Q : Bool → Hp → Prop) => ∃ a o, y = .ref a ∧ DG K H a x o ∧ ∃ k, V.bl (!o.isSome) = .bl k ∧ Q k H) (P' := pB) (f := fun x y => opt ((oDIn x y).map (!·))) ha hb fun x y vx vy ρ σ S H Q st rx ry g => by
    obtain ⟨z, e, g⟩ := goal_opt g
    rw [Option.map_eq_some_iff] at e
    obtain ⟨z', e, rfl⟩ := e
    obtain ⟨a, o, e1, e2, e3⟩ := o_inK ρ σ S H x y vx vy z' (fun v H' => v = .bl z') st rx ry e rfl
    cases e3
    exact ⟨a, o, e1, e2, _, rfl, g _ S H st (Ex.refl _) rfl⟩
  exact h
theorem niA_split (ρ : Env) : t2 oNotInA ma mb ρ = t2 oNi3 ma mb ρ ∨ t2 oNotInA ma mb ρ = t2 (fun x y => (oDIn x y).map (!·)) ma mb ρ := by
  unfold t2 bind
  cases val ma ρ with
  | bad => exact .inl rfl
  | err er ρ' => exact .inl rfl
  | ok x ρ1 =>
    simp only
    cases val mb ρ1 with
    | bad => exact .inl rfl
    | err er ρ' => exact .inl rfl
    | ok y ρ2 =>
      cases y with
      | dic kvs => exact .inr rfl
      | _ => exact .inl rfl
theorem t_ni (hu : X.A.units + 65 < cLine) (ha : DE X c a ma) (hb : DE X c b mb) (hm : behindInMarks .NotIn b = false := by rfl) : DT X c (.Compare a [.NotIn] [b] pos) (t2 oNotInA ma mb) :=
  ptd (pt_or2 (pt_cmpR (op_ni3 hu) ha hb hm) (pt_cmp (pc_dnotinA (by omega) ha hb) hm)) (ev_or2 (ev_cp2 o_ni3 ev_te ev_te) (ev_niK ev_te ev_te) niA_split)
/-- .. as values -/
theorem ev_inKV {K : Fr} {ta tb : TE} {f : D → D → Option Bool} {u : V → V → Hp → VK → Prop} (hu : ∀ ρ σ S H x y vx vy k Q, StR K c ρ σ S H → R K S.h vx x → R K S.h vy y → f x y = some k → Q (.bl k) H → u vx vy H Q)
    (ha : Ev K c ta (pV K c) ma) (hb : Ev K c tb (pV K c) mb) : Ev K c (fun σ H Q => ta σ H fun x H1 => tb σ H1 fun y H2 => u x y H2 Q) (pV K c) (eT (t2 f ma mb)) := ev_cpV (r := u) hu ha hb
theorem d_in (hu : X.A.units + 65 < cLine) (ha : DE X c a ma) (hb : DE X c b mb) (hm : behindInMarks .In b = false := by rfl) : DE X c (.Compare a [.In] [b] pos) (eT (t2 oInA ma mb)) :=
  ped (pe_or2 (pe_cmpR (op_in3 hu) ha hb hm) (pe_cmp (pc_dinA (by omega) ha hb) hm)) (ev_or2 (ev_cpV o_in3 ev_te ev_te) (ev_inKV (f := oDIn) (u := fun x y H Q => ∃ a o, y = .ref a ∧ DG (cxFr X) H a x o ∧ Q (.bl o.isSome) H) o_inK ev_te ev_te) fun ρ => by
    unfold eT bind
    rcases inA_split (ma := ma) (mb := mb) ρ with e | e
    · rw [e]
      exact .inl rfl
    · rw [e]
      exact .inr rfl)
theorem d_ni (hu : X.A.units + 65 < cLine) (ha : DE X c a ma) (hb : DE X c b mb) (hm : behindInMarks .NotIn b = false := by rfl) : DE X c (.Compare a [.NotIn] [b] pos) (eT (t2 oNotInA ma mb)) :=
  ped (pe_or2 (pe_cmpR (op_ni3 hu) ha hb hm) (pe_cmp (pc_dnotinA (by omega) ha hb) hm)) (ev_or2 (ev_cpV o_ni3 ev_te ev_te) (ev_inKV (f := fun x y => (oDIn x y).map (!·)) (u := fun x y H Q => ∃ a o, y = .ref a ∧ DG (cxFr X) H a x o ∧ Q (.bl (!o.isSome)) H) (fun ρ σ S H x y vx vy k Q st rx ry e q => by
    rw [Option.map_eq_some_iff] at e
    obtain ⟨z', e, rfl⟩ := e
    obtain ⟨a, o, e1, e2, e3⟩ := o_inK ρ σ S H x y vx vy z' (fun v H' => v = .bl z') st rx ry e rfl
    cases e3
    exact ⟨a, o, e1, e2, q⟩) ev_te ev_te) fun ρ => by
    unfold eT bind
    rcases niA_split (ma := ma) (mb := mb) ρ with e | e
    · rw [e]
      exact .inl rfl
    · rw [e]
      exact .inr rfl)
/-! ### .. in what a name holds -/
theorem in3_whole {K : Fr} {H : Hp} {x y : D} {vx vy : V} {k : Bool} {Q : VK} (rx : R K H vx x) (ry : R K H vy y) (e : oIn3 x y = some k) (q : Q (.bl k) H) : rIn3 K vx vy H Q := by
  let S : Sh := ⟨H, fun _ => none⟩
  cases y with
  | str z =>
    cases ry
    cases rx with
    | str s =>
      simp only [oIn3, oInS] at e
      split at e
      · rename_i ch hch
        cases e
        refine .inr ⟨ch, z, ?_, rfl, q⟩
        have : s = ⟨#[ch]⟩ := by
          cases s with
          | mk cps =>
            congr 1
            rw [← Array.toArray_toList (xs := cps)]
            rw [show cps.toList = [ch] from hch]
        rw [this]
      · cases e
    | _ => simp only [oIn3, oInS] at e; cases e
  | lst ds =>
    cases ry with
    | @lst l xs _ h1 h2 =>
      simp only [oIn3, oIn] at e
      split at e
      · rename_i h
        rw [Bool.and_eq_true] at h
        cases e
        have hl : SeqAt.shaped (.list (toPs ds)) = true := by
          have := ok_shaped h.2
          simpa only [D.toP] using this
        refine .inl (.inl ⟨_, toPs ds, R.dp 30 rx h.1, ?_, ok_shaped h.1, hl, ?_⟩)
        · have := R.dp 30 (R.lst h1 h2) h.2
          simpa only [D.toP] using this
        · rw [any_toP]
          exact q
      · cases e
  | tup ds =>
    cases ry with
    | @tup l xs _ h1 h2 =>
      simp only [oIn3, oIn] at e
      split at e
      · rename_i h
        rw [Bool.and_eq_true] at h
        cases e
        refine .inl (.inr (.inl ⟨l, xs, rfl, .inr h1, flat_of rx h.1, flats_of h2 h.2, ?_⟩))
        rw [if_neg Bool.false_ne_true, inV_of rx h.1 h2 h.2]
        exact q
      · split at e
        · rename_i h
          rw [Bool.and_eq_true] at h
          cases e
          have hl : SeqAt.shaped (.tuple (toPs ds)) = true := by
            have := ok_shaped h.2
            simpa only [D.toP] using this
          refine .inl (.inr (.inr ⟨_, toPs ds, R.dp 30 rx h.1, ?_, ok_shaped h.1, hl, ?_⟩))
          · have := R.dp 30 (R.tup h1 h2) h.2
            simpa only [D.toP] using this
          · rw [if_neg Bool.false_ne_true, any_toP]
            exact q
        · cases e
  | _ => simp only [oIn3, oIn] at e; cases e
theorem ni3_whole {K : Fr} {H : Hp} {x y : D} {vx vy : V} {k : Bool} {Q : VK} (rx : R K H vx x) (ry : R K H vy y) (e : oIn3 x y = some k) (q : Q (.bl !k) H) : rNi3 K vx vy H Q := by
  rcases in3_whole (Q := fun v _ => v = .bl k) rx ry e rfl with (⟨d, ds, a1, a2, a3, a4, a5⟩ | ⟨l, xs, a1, a2, a3, a4, a5⟩ | ⟨d, ds, a1, a2, a3, a4, a5⟩) | ⟨ch, z, a1, a2, a3⟩
  · cases a5
    exact .inl (.inl ⟨d, ds, a1, a2, a3, a4, q⟩)
  · rw [if_neg Bool.false_ne_true] at a5
    cases a5
    exact .inl (.inr (.inl ⟨l, xs, a1, a2, a3, a4, by rw [if_pos rfl]; exact q⟩))
  · rw [if_neg Bool.false_ne_true] at a5
    cases a5
    exact .inl (.inr (.inr ⟨d, ds, a1, a2, a3, a4, by rw [if_pos rfl]; exact q⟩))
  · cases a3
    exact .inr ⟨ch, z, a1, a2, q⟩
theorem inK_whole {K : Fr} {H : Hp} {x y : D} {vx vy : V} {k : Bool} (rx : R K H vx x) (ry : R K H vy y) (e : oDIn x y = some k) : ∃ a o, vy = .ref a ∧ DG K H a vx o ∧ o.isSome = k := by
  cases y with
  | dic ds =>
    obtain ⟨a, rfl, hd⟩ := ry.dicS
    simp only [oDIn] at e
    split at e
    · rename_i hk
      cases e
      rcases hd.get (Ex.refl _) rx hk with ⟨v1, n⟩ | ⟨u, d, v1, v2, r⟩
      · exact ⟨a, none, rfl, v1, by rw [n]; rfl⟩
      · exact ⟨a, some u, rfl, v1, by rw [v2]; rfl⟩
    · cases e
  | _ => simp only [oDIn] at e; cases e
theorem inA_cases {x y : D} {k : Bool} (h : oInA x y = some k) : oIn3 x y = some k ∨ oDIn x y = some k := by
  cases y with
  | dic kvs => exact .inr h
  | _ => exact .inl h
theorem ev_inP {K : Fr} {ta : TE} {i : Nat} (neg : Bool) (ha : Ev K c ta (pV K c) ma) : Ev K c (fun σ H (Q : Bool → Hp → Prop) => (tTest (tOp (if neg then rNi3 K else rIn3 K) ta (tVar i))) σ H Q ∨ (L2.tB (tDInA K neg ta (tVar i))) σ H Q) pB (t2k (if neg then oNotInA else oInA) i ma) := by
  intro ρ σ S H Q st g
  unfold t2k bind at g
  cases e : val ma ρ with
  | bad =>
    rw [e] at g
    exact g.elim
  | err er ρ' =>
    refine .inl ?_
    show ta σ H _
    refine (ev_val ha) ρ σ S H _ st ?_
    rw [e] at g ⊢
    exact g
  | ok x ρ' =>
    rw [e] at g
    simp only at g
    cases p : peek i ρ' with
    | bad =>
      simp only [p] at g
      exact g.elim
    | err er ρ2 =>
      simp only [p] at g
      exact g.elim
    | ok y ρ2 =>
      simp only [p] at g
      obtain ⟨z, ez, g⟩ := goal_opt g
      have hk : ∃ k, oInA x y = some k ∧ z = (if neg then !k else k) := by
        cases neg with
        | false => exact ⟨z, ez, rfl⟩
        | true =>
          simp only [if_true, oNotInA, Option.map_eq_some_iff] at ez
          obtain ⟨k, h1, h2⟩ := ez
          exact ⟨k, h1, h2.symm⟩
      obtain ⟨k, hk, rfl⟩ := hk
      rcases inA_cases hk with h3 | h3
      · refine .inl ?_
        show ta σ H _
        refine (ev_val ha) ρ σ S H _ st ?_
        rw [e]
        intro vx S' H' st' ex r
        obtain ⟨_, vy, h1, h2⟩ := st'.peek p
        refine ⟨vy, h1, ?_⟩
        have rx : R K H' vx x := R.mono st'.subE r
        have ry := st'.whole h2
        cases neg with
        | false => exact in3_whole rx ry h3 ⟨_, rfl, g _ S' H' st' ex rfl⟩
        | true => exact ni3_whole rx ry h3 ⟨_, rfl, g _ S' H' st' ex rfl⟩
      · refine .inr ?_
        show ta σ H _
        refine (ev_val ha) ρ σ S H _ st ?_
        rw [e]
        intro vx S' H' st' ex r
        obtain ⟨_, vy, h1, h2⟩ := st'.peek p
        refine ⟨vy, h1, ?_⟩
        have rx : R K H' vx x := R.mono st'.subE r
        obtain ⟨a, o, q1, q2, q3⟩ := inK_whole rx (st'.whole h2) h3
        refine ⟨a, o, q1, q2, _, rfl, ?_⟩
        rw [q3]
        exact g _ S' H' st' ex rfl
theorem t_inP (i : Nat) {x : Str} {px : Pos} (hu : X.A.units + 65 < cLine) (ha : DE X c a ma) (hm : behindInMarks .In (.Name x px) = false := by rfl) (hN : X.N[i]? = some x := by rfl) (hv : Vis X.env.scope x := by first | exact Or.inl rfl | exact Or.inr (Or.inl rfl) | exact Or.inr (Or.inr rfl)) (hd : (x == ("__debug__" : Str)) = false := by decide) (hcd : (x == ("__classdict__" : Str)) = false := by decide) :
    DT X c (.Compare a [.In] [.Name x px] pos) (t2k oInA i ma) :=
  ptd (pt_or2 (pt_cmpR (op_in3 hu) ha (pe_var hN hv hd hcd) hm) (pt_cmp (pc_dinA (by omega) ha (pe_var hN hv hd hcd)) hm)) (ev_inP (neg := false) ev_te)
theorem t_niP (i : Nat) {x : Str} {px : Pos} (hu : X.A.units + 65 < cLine) (ha : DE X c a ma) (hm : behindInMarks .NotIn (.Name x px) = false := by rfl) (hN : X.N[i]? = some x := by rfl) (hv : Vis X.env.scope x := by first | exact Or.inl rfl | exact Or.inr (Or.inl rfl) | exact Or.inr (Or.inr rfl)) (hd : (x == ("__debug__" : Str)) = false := by decide) (hcd : (x == ("__classdict__" : Str)) = false := by decide) :
    DT X c (.Compare a [.NotIn] [.Name x px] pos) (t2k oNotInA i ma) :=
  ptd (pt_or2 (pt_cmpR (op_ni3 hu) ha (pe_var hN hv hd hcd) hm) (pt_cmp (pc_dnotinA (by omega) ha (pe_var hN hv hd hcd)) hm)) (ev_inP (neg := true) ev_te)
theorem ev_inPV {K : Fr} {ta : TE} {i : Nat} (neg : Bool) (ha : Ev K c ta (pV K c) ma) : Ev K c (fun σ H (Q : VK) => (tOp (if neg then rNi3 K else rIn3 K) ta (tVar i)) σ H Q ∨ (tDInA K neg ta (tVar i)) σ H Q) (pV K c) (eT (t2k (if neg then oNotInA else oInA) i ma)) := by
  intro ρ σ S H Q st g
  unfold eT t2k bind at g
  cases e : val ma ρ with
  | bad =>
    rw [e] at g
    exact g.elim
  | err er ρ' =>
    refine .inl ?_
    show ta σ H _
    refine (ev_val ha) ρ σ S H _ st ?_
    rw [e] at g ⊢
    exact g
  | ok x ρ' =>
    rw [e] at g
    simp only at g
    cases p : peek i ρ' with
    | bad =>
      simp only [p] at g
      exact g.elim
    | err er ρ2 =>
      simp only [p] at g
      exact g.elim
    | ok y ρ2 =>
      simp only [p] at g
      cases ez : (if neg then oNotInA else oInA) x y with
      | none =>
        simp only [ez] at g
        exact g.elim
      | some z =>
        simp only [ez, opt, ret] at g
        have hk : ∃ k, oInA x y = some k ∧ z = (if neg then !k else k) := by
          cases neg with
          | false => exact ⟨z, ez, rfl⟩
          | true =>
            simp only [if_true, oNotInA, Option.map_eq_some_iff] at ez
            obtain ⟨k, h1, h2⟩ := ez
            exact ⟨k, h1, h2.symm⟩
        obtain ⟨k, hk, rfl⟩ := hk
        rcases inA_cases hk with h3 | h3
        · refine .inl ?_
          show ta σ H _
          refine (ev_val ha) ρ σ S H _ st ?_
          rw [e]
          intro vx S' H' st' ex r
          obtain ⟨_, vy, h1, h2⟩ := st'.peek p
          refine ⟨vy, h1, ?_⟩
          have rx : R K H' vx x := R.mono st'.subE r
          have ry := st'.whole h2
          cases neg with
          | false => exact in3_whole rx ry h3 (g _ S' H' st' ex (R.bl _))
          | true => exact ni3_whole rx ry h3 (g _ S' H' st' ex (R.bl _))
        · refine .inr ?_
          show ta σ H _
          refine (ev_val ha) ρ σ S H _ st ?_
          rw [e]
          intro vx S' H' st' ex r
          obtain ⟨_, vy, h1, h2⟩ := st'.peek p
          refine ⟨vy, h1, ?_⟩
          have rx : R K H' vx x := R.mono st'.subE r
          obtain ⟨a, o, q1, q2, q3⟩ := inK_whole rx (st'.whole h2) h3
          refine ⟨a, o, q1, q2, ?_⟩
          rw [q3]
          exact g _ S' H' st' ex (R.bl _)
theorem d_inP (i : Nat) {x : Str} {px : Pos} (hu : X.A.units + 65 < cLine) (ha : DE X c a ma) (hm : behindInMarks .In (.Name x px) = false := by rfl) (hN : X.N[i]? = some x := by rfl) (hv : Vis X.env.scope x := by first | exact Or.inl rfl | exact Or.inr (Or.inl rfl) | exact Or.inr (Or.inr rfl)) (hd : (x == ("__debug__" : Str)) = false := by decide) (hcd : (x == ("__classdict__" : Str)) = false := by decide) :
    DE X c (.Compare a [.In] [.Name x px] pos) (eT (t2k oInA i ma)) :=
  ped (pe_or2 (pe_cmpR (op_in3 hu) ha (pe_var hN hv hd hcd) hm) (pe_cmp (pc_dinA (by omega) ha (pe_var hN hv hd hcd)) hm)) (ev_inPV (neg := false) ev_te)
theorem d_niP (i : Nat) {x : Str} {px : Pos} (hu : X.A.units + 65 < cLine) (ha : DE X c a ma) (hm : behindInMarks .NotIn (.Name x px) = false := by rfl) (hN : X.N[i]? = some x := by rfl) (hv : Vis X.env.scope x := by first | exact Or.inl rfl | exact Or.inr (Or.inl rfl) | exact Or.inr (Or.inr rfl)) (hd : (x == ("__debug__" : Str)) = false := by decide) (hcd : (x == ("__classdict__" : Str)) = false := by decide) :
    DE X c (.Compare a [.NotIn] [.Name x px] pos) (eT (t2k oNotInA i ma)) :=
  ped (pe_or2 (pe_cmpR (op_ni3 hu) ha (pe_var hN hv hd hcd) hm) (pe_cmp (pc_dnotinA (by omega) ha (pe_var hN hv hd hcd)) hm)) (ev_inPV (neg := true) ev_te)
/-! ### calls of defs -/
theorem b_nil : DB X c [] [] := ⟨fun pos pins s σ H Q I ⟨ρ, S, st, g⟩ => pa_nil.run pos pins s σ H Q I (ev_anil ρ σ S H Q st g)⟩
theorem b_v {es : List Expr} {as : List Ar} (ha : DE X c a ma) (hr : DB X c es as) (hs : starEach (a :: es) X.env = (false, eval a X.env) :: starEach es X.env := by rfl) : DB X c (a :: es) (.v ma :: as) :=
  ⟨fun pos pins s σ H Q I ⟨ρ, S, st, g⟩ => (pa_cons ha hr hs).run pos pins s σ H Q I (ev_aval ev_te ev_self ρ σ S H Q st g)⟩
theorem b_b (i : Nat) {x : Str} {es : List Expr} {as : List Ar} (hr : DB X c es as) (hN : X.N[i]? = some x := by rfl) (hv : Vis X.env.scope x := by first | exact Or.inl rfl | exact Or.inr (Or.inl rfl) | exact Or.inr (Or.inr rfl)) (hd : (x == ("__debug__" : Str)) = false := by decide)
    (hcd : (x == ("__classdict__" : Str)) = false := by decide) (hs : starEach ((.Name x p) :: es) X.env = (false, eval (.Name x p) X.env) :: starEach es X.env := by rfl) : DB X c ((.Name x p) :: es) (.b i :: as) :=
  ⟨fun pos pins s σ H Q I ⟨ρ, S, st, g⟩ => (pa_cons (pe_var hN hv hd hcd) hr hs).run pos pins s σ H Q I (ev_abor ev_self ρ σ S H Q st g)⟩
theorem argv_len : ∀ (as : List Ar) (ρ : Env) (xs : List (D ⊕ Nat)) (ρ' : Env), argv as ρ = .ok xs ρ' → xs.length = as.length
  | [], ρ, xs, ρ', h => by
    cases h
    rfl
  | .v m :: r, ρ, xs, ρ', h => by
    unfold argv bind at h
    split at h
    · cases h
    · cases h
    · simp only at h
      split at h
      · cases h
      · cases h
      · rename_i h2
        cases h
        simp only [List.length_cons, argv_len r _ _ _ h2]
  | .b i :: r, ρ, xs, ρ', h => by
    unfold argv at h
    split at h
    · unfold bind at h
      split at h
      · cases h
      · cases h
      · rename_i h2
        cases h
        simp only [List.length_cons, argv_len r _ _ _ h2]
    · cases h
theorem d_call {k n : Nat} {x : Str} {F : FD} {es : List Expr} {as : List Ar} (C : Cal X.prog X.w X.K X.mg X.base k x n F) (tk : Takes X c.E) (hr : Room k X.A) (hg : Gl X x) (hn : as.length = n) (ha : DB X c (a :: es) as) (hdb : (x == ("__debug__" : Str)) = false := by decide)
    (he : starEach (a :: es) X.env = (false, eval a X.env) :: starEach es X.env := by rfl) (hpl : (backTo pos (starEach es X.env)).any (·.1) = false := by rfl) : DE X c (.Call (.Name x p) (a :: es) [] pos) (eCall F as) := by
  obtain ⟨f, fd, ps, hp, hf, hm, hk, hb⟩ := C.ex
  exact ped (pe_callSD (dvs := []) (E := cE c) hf hr hg hm hk hb .nil (fun σ => passAt tk σ) ha hdb he hpl) (ev_call ev_self fun ρ xs ρ' h => by rw [argv_len _ _ _ _ h, hn])
/-- f() -/
theorem pe_callS0 {CX : CXT} {k : Nat} {f : Addr} {fd : FuncData} {ps : List Str} {sp : Sp} {E : L2.St → XK} {x : Str} (F : FnOk X.prog X.w X.K X.mg X.base CX k f fd ps sp) (hr : Room k X.A) (hg : Gl X x) (hm : X.mg x = some (.ref f)) (hk : PySem.W.keepIn X.K (.ref f) = true) (hb : Binds X.K fd ps []) (hx : ∀ σ, PassesAt CX X σ (E σ))
    (hdb : (x == ("__debug__" : Str)) = false := by decide) : PE X (.Call (.Name x p) [] [] pos) (tCallSD sp [] E tNil) := by
  refine ⟨fun pins s σ H Q I h => ?_⟩
  refine wpAny_Call_Name_kw (ld_glob I hg hm ?_ hdb)
  exact PySem.W.callWith_K0 I.kIn hk (run_fnSD (us := []) (vs := []) F hr hb .nil (hx σ) I .nil h)
theorem d_call0 {k : Nat} {x : Str} {F : FD} (C : Cal X.prog X.w X.K X.mg X.base k x 0 F) (tk : Takes X c.E) (hr : Room k X.A) (hg : Gl X x) (hdb : (x == ("__debug__" : Str)) = false := by decide) : DE X c (.Call (.Name x p) [] [] pos) (eCall F []) := by
  obtain ⟨f, fd, ps, hp, hf, hm, hk, hb⟩ := C.ex
  exact ped (pe_callS0 (E := cE c) hf hr hg hm hk hb (fun σ => passAt tk σ) hdb) (ev_call ev_anil fun ρ xs ρ' h => by rw [argv_len _ _ _ _ h]; rfl)
/-! ### what is walked -/
theorem pid {tg it : Expr} {wi : TI} {m : M (List D)} (h : PI X tg it wi) (ev : Ev (cxFr X) c wi (pI (cxFr X)) m) : DI X c tg it m := ⟨fun pins s σ H R I ⟨ρ, S, st, g⟩ => h.run pins s σ H R I (ev ρ σ S H R st g)⟩
theorem pi_or2 {tg it : Expr} {t u : TI} (h : PI X tg it t) (h' : PI X tg it u) : PI X tg it (fun σ H R => t σ H R ∨ u σ H R) := ⟨fun pins s σ H R I q => q.elim (h.run pins s σ H R I) (h'.run pins s σ H R I)⟩
theorem pi_any {tg : Expr} {te : TE} (hl : PE X a te) : PI X tg a (iAny (cxFr X) te) := by
  refine ⟨fun pins s σ H R I h => ?_⟩
  refine thn (hl.run pins s σ H _ I h) fun v s1 ⟨x, H1, I1, r1, q1⟩ => ?_
  have nk : ∀ {H2 : Hp} {s2 : Shared} {l : Addr} {od : Obj} {kvs : List (Key × V)}, Inv X pins σ H2 s2 → H2 l = some (.frz od (.dK kvs)) → R (Itk l od kvs) H2 → wpAny (model X.prog X.w) X.A (pyIter (.ref l)) (PIE X pins σ tg R) X.xe s2 := fun {H2 s2 l od kvs} I2 hd q => by
    obtain ⟨hs, hgd, hx, es, ep, vs, hdt, hsz, kv, hm⟩ := I2.frzK hd
    refine iter_keys hs hgd hx hdt (pi_one (tk := s2.toks) I2 _ (turn_keys _ hdt) ⟨_, Heap.get?_push_size _ rfl, rfl, ?_⟩ q)
    rw [hsz] <;> rfl
  have nn : ∀ {H2 : Hp} {s2 : Shared} {l : Addr} {od : Obj} {es : List (NestedKey × Addr × V)}, Inv X pins σ H2 s2 → H2 l = some (.frz od (dnO (cxFr X) l es)) → R (Itn (cxFr X) l od es) H2 → wpAny (model X.prog X.w) X.A (pyIter (.ref l)) (PIE X pins σ tg R) X.xe s2 := fun {H2 s2 l od es} I2 hd q => by
    obtain ⟨hs, hgd, hx, ar, ep, hdt, hsz, ent⟩ := Inv.frzN I2 hd
    refine iter_keys hs hgd hx hdt (pi_one (tk := s2.toks) I2 _ (turn_keysN _ hdt) ⟨_, Heap.get?_push_size _ rfl, rfl, ?_⟩ q)
    rw [hsz] <;> rfl
  rcases q1 with (⟨l, e, ⟨xs, hq⟩, q⟩ | ⟨l, e, ⟨xs, hq⟩, q⟩) | ⟨l, u, e, hk, q⟩
  · subst e
    cases r1
    obtain ⟨its, rv, p, hz⟩ := I1.list hq
    refine wpAny_pyIter_list p.isList ?_
    refine ⟨s1.heap.objs.size, [s1.heap.objs.size], _, _, H1, rfl, I1.kept (t' := s1.toks) fun b o e => Heap.get?_push_of_some _ e, turn_list l _, ⟨_, Heap.get?_push_size _ rfl, rfl, rfl⟩, fun b hb => ?_, q⟩
    have e : b = s1.heap.objs.size := by simpa using hb
    subst e
    exact I1.fpOk (Nat.le_refl _) (I1.hok.fresh (Nat.le_refl _))
  · subst e
    cases r1
    obtain ⟨its, rv, p, hz⟩ := I1.tuple hq
    refine wpAny_pyIter_tuple (show s1.heap.IsTuple l its.toArray from p) ?_
    refine ⟨s1.heap.objs.size, [s1.heap.objs.size], _, _, H1, rfl, I1.kept (t' := s1.toks) fun b o e => Heap.get?_push_of_some _ e, turn_tuple l _, ⟨_, Heap.get?_push_size _ rfl, rfl, rfl⟩, fun b hb => ?_, q⟩
    have e : b = s1.heap.objs.size := by simpa using hb
    subst e
    exact I1.fpOk (Nat.le_refl _) (I1.hok.fresh (Nat.le_refl _))
  · subst e
    cases r1
    rcases q with ⟨kvs, rfl, ⟨e1, q⟩ | ⟨od, e1, q⟩⟩ | ⟨es, rfl, ⟨e1, q⟩ | ⟨od, e1, q⟩⟩
    · obtain ⟨od, I2⟩ := I1.lock e1 hk.mut.1
      exact nk I2 upd_same (q od)
    · exact nk I1 e1 q
    · obtain ⟨od, I2⟩ := I1.lock e1 hk.mut.1
      exact nn I2 upd_same (q od)
    · exact nn I1 e1 q
theorem i_seq {tg : Expr} (ha : DE X c a ma) : DI X c tg a (srcSeq ma) := pid (pi_any ha) (ev_srcSeq ev_te)
theorem i_r1 {tg : Expr} (hg : Gl X "range") (hm : X.mg "range" = none) (ha : DE X c a ma) (hs : starEach [a] X.env = [(false, eval a X.env)] := by rfl) : DI X c tg (.Call (.Name "range" p) [a] [] pos) (srcR1 ma) := pid (pi_range1 hg hm (pa_cons ha pa_nil hs) hs) (ev_srcR1 ev_te)
theorem i_r2 {tg : Expr} (hg : Gl X "range") (hm : X.mg "range" = none) (ha : DE X c a ma) (hb : DE X c b mb) (hs : starEach [a, b] X.env = [(false, eval a X.env), (false, eval b X.env)] := by rfl) (hs2 : starEach [b] X.env = [(false, eval b X.env)] := by rfl) (hs3 : starEach [a, b] X.env = (false, eval a X.env) :: starEach [b] X.env := by rfl) :
    DI X c tg (.Call (.Name "range" p) [a, b] [] pos) (srcR2 ma mb) := pid (pi_range2 hg hm (pa_cons ha (pa_cons hb pa_nil hs2) hs3) hs hs2) (ev_srcR2 ev_te ev_te)
theorem i_enum {tpos : Pos} {elts : List Expr} {kk : Nat} (hg : Gl X "enumerate") (hm : X.mg "enumerate" = none) (ha : DE X c a ma) (hs : starEach [a] X.env = [(false, eval a X.env)] := by rfl) : DI X c (.Tuple elts kk tpos) (.Call (.Name "enumerate" p) [a] [] pos) (srcEnum ma) := pid (pi_enumA hg hm (pa_cons ha pa_nil hs) hs) (ev_srcEnum ev_te)
theorem zipD_get : ∀ (xs ys : List D) (i : Nat) (x y : D), xs[i]? = some x → ys[i]? = some y → (zipD xs ys)[i]? = some (.tup [x, y])
  | [], _, _, _, _, h, _ => by simp at h
  | _ :: _, [], _, _, _, _, h => by simp at h
  | a :: xs, b :: ys, 0, x, y, h, h' => by
    simp at h h'
    subst h h'
    rfl
  | a :: xs, b :: ys, i + 1, x, y, h, h' => by
    simp only [zipD, List.getElem?_cons_succ]
    exact zipD_get xs ys i x y (by simpa using h) (by simpa using h')
theorem zipD_len : ∀ (xs ys : List D), (zipD xs ys).length = min xs.length ys.length
  | [], _ => by simp [zipD]
  | _ :: _, [] => by simp [zipD]
  | a :: xs, b :: ys => by
    simp only [zipD, List.length_cons, zipD_len xs ys]
    omega
theorem ev_srcZip {K : Fr} {ta tb : TE} (ha : Ev K c ta (pV K c) ma) (hb : Ev K c tb (pV K c) mb) : Ev K c (iZip K (tCons ta (tCons tb tNil))) (pI K) (srcZip ma mb) :=
  ev_two (u := fun (x y : V) H (Q : It → Hp → Prop) => ∃ a b xs ys, [x, y] = [.ref a, .ref b] ∧ SqL K H a xs ∧ SqL K H b ys ∧ Q (Itz K a b) H) ha hb fun d e v w ρ σ S H Q st r1 r2 g => by
    cases r1 with
    | @lst a xs ds h1 h2 =>
      cases r2 with
      | @lst b ys es h3 h4 =>
        refine ⟨a, b, xs, ys, rfl, SqL.of (st.sub _ _ h1), SqL.of (st.sub _ _ h3), g _ S H st (Ex.refl _) ⟨_, _, walk_zip (xs := xs) (ys := ys) (by rw [zipD_len, h2.length, h4.length]), fun H' e => ⟨SqL.of (e.at h1 fun z => z), SqL.of (e.at h3 fun z => z)⟩, fun i H' x H'' hi e y => ?_⟩⟩
        obtain ⟨T, x1, x2, rfl, y2, rfl, y4, y5⟩ := y
        obtain ⟨d1, z1, z2⟩ := h2.getV y4
        obtain ⟨d2, z3, z4⟩ := h4.getV y5
        exact ⟨_, zipD_get ds es i d1 d2 z1 z3, .inr ⟨T, _, _, rfl, y2, rfl, rfl, .cons z2 (.cons z4 .nil)⟩⟩
      | _ => exact g.elim
    | _ => exact g.elim
theorem i_zip {tpos : Pos} {elts : List Expr} {kk : Nat} (hg : Gl X "zip") (hm : X.mg "zip" = none) (ha : DE X c a ma) (hb : DE X c b mb) (hs : starEach [a, b] X.env = (false, eval a X.env) :: starEach [b] X.env := by rfl) (hs2 : starEach [b] X.env = (false, eval b X.env) :: starEach [] X.env := by rfl) (hpl : (backTo pos (starEach [b] X.env)).any (·.1) = false := by rfl) :
    DI X c (.Tuple elts kk tpos) (.Call (.Name "zip" p) [a, b] [] pos) (srcZip ma mb) := pid (pi_zip hg hm (pa_cons ha (pa_cons hb pa_nil hs2) hs) hs hpl) (ev_srcZip ev_te ev_te)
/-! ### comprehensions -/
abbrev DIfs (X : Cx) (c : Cxt) (ifs : List Expr) (t : T) : Prop := PTs X ifs (ttOf (cxFr X) c t)
theorem f_nil : DIfs X c [] Dn.tYes := ⟨fun pins s σ H Q I ⟨ρ, S, st, g⟩ => pts_nil.run pins s σ H Q I (g true S H st (Ex.refl _) rfl)⟩
theorem f_one {t : T} (h : DT X c a t) : DIfs X c [a] t := pts_one h
section
variable {elt tg iter : Expr} {ifs : List Expr} {scope : Scope} {own : List (Str × Nat)} {g : TG} {tgd : Tg} {is : List Nat} {src : M (List D)} {t : T} {m : E}
theorem lc_t (ht : ∀ c' : Cxt, c'.E = noErr → ∀ (s : Shared) (H : Hp) (C : Addr) (cl : List (Str × Addr)) (fp : List Addr), DIfs (X.blk s H scope (compEnvC scope cl C X.env) fp) c' ifs t) (s : Shared) (H : Hp) (C : Addr) (cl : List (Str × Addr)) (fp : List Addr) :
    PTs (X.blk s H scope (compEnvC scope cl C X.env) fp) ifs (tIn (cxFr X) t) := ⟨fun pins s' σ H' Q I ⟨c', hc, h⟩ => (ht c' hc s H C cl fp).run pins s' σ H' Q I h⟩
theorem lc_e (he : ∀ c' : Cxt, c'.E = noErr → ∀ (s : Shared) (H : Hp) (C : Addr) (cl : List (Str × Addr)) (fp : List Addr), DE (X.blk s H scope (compEnvC scope cl C X.env) fp) c' elt m) (s : Shared) (H : Hp) (C : Addr) (cl : List (Str × Addr)) (fp : List Addr) :
    PE (X.blk s H scope (compEnvC scope cl C X.env) fp) elt (eIn (cxFr X) m) := ⟨fun pins s' σ H' Q I ⟨c', hc, ρ, S, st, g⟩ => (he c' hc s H C cl fp).run pins s' σ H' Q I (by
      -- from the frozen value to the value
      refine ⟨ρ, S, st, ?_⟩
      revert g
      unfold val bind
      cases m ρ with
      | bad => exact fun g => g
      | err er ρ' => exact fun g => g
      | ok r ρ' =>
        intro g v S' H'' st' ex p
        cases r with
        | d d => exact g v S' H'' st' ex p
        | o k =>
          obtain ⟨l, P, rfl, h2, h3⟩ := p
          obtain ⟨s2, e2, rr⟩ := st'.giveL h2 h3
          exact g (.ref l) _ H'' s2 (ex.trans e2) rr)⟩
theorem tk_no {X : Cx} {c' : Cxt} (h : c'.E = noErr) : Takes X c'.E := by
  rw [h]
  exact takes0
theorem d_lc (hc : X.calm = true) (hN : X.N.Nodup) (hi : DI X c tg iter src) (ok : BlkOk X.N X.env.scope scope own) (hg : ∀ (s : Shared) (H : Hp) (C : Addr) (cl : List (Str × Addr)) (fp : List Addr), PG (X.blk s H scope (compEnvC scope cl C X.env) fp) tg g)
    (hgd : ∀ c' : Cxt, EvG (cxFr X) c' g tgd is) (hsub : ∀ i ∈ is, i ∈ own.map (·.2)) (ht : ∀ c' : Cxt, c'.E = noErr → ∀ (s : Shared) (H : Hp) (C : Addr) (cl : List (Str × Addr)) (fp : List Addr), DIfs (X.blk s H scope (compEnvC scope cl C X.env) fp) c' ifs t)
    (he : ∀ c' : Cxt, c'.E = noErr → ∀ (s : Shared) (H : Hp) (C : Addr) (cl : List (Str × Addr)) (fp : List Addr), DE (X.blk s H scope (compEnvC scope cl C X.env) fp) c' elt m) (hs : ∀ x, foldedSetIterable iter X.env x = pure x := by intro _; rfl) :
    DE X c (.ListComp elt [⟨tg, iter, ifs, 0⟩] scope pos) (eLc (own.map (·.2)) src tgd t m) :=
  ped (pe_lc hc hN hi ok hg (lc_t ht) (lc_e he) hs) (ev_lc ev_self hgd hsub)
theorem d_dc {kx : Expr} {mk : E} (hu : X.A.units + 65 < cLine) (hc : X.calm = true) (hN : X.N.Nodup) (hi : DI X c tg iter src) (ok : BlkOk X.N X.env.scope scope own) (hg : ∀ (s : Shared) (H : Hp) (C : Addr) (cl : List (Str × Addr)) (fp : List Addr), PG (X.blk s H scope (compEnvC scope cl C X.env) fp) tg g)
    (hgd : ∀ c' : Cxt, EvG (cxFr X) c' g tgd is) (hsub : ∀ i ∈ is, i ∈ own.map (·.2)) (ht : ∀ c' : Cxt, c'.E = noErr → ∀ (s : Shared) (H : Hp) (C : Addr) (cl : List (Str × Addr)) (fp : List Addr), DIfs (X.blk s H scope (compEnvC scope cl C X.env) fp) c' ifs t)
    (hk : ∀ c' : Cxt, c'.E = noErr → ∀ (s : Shared) (H : Hp) (C : Addr) (cl : List (Str × Addr)) (fp : List Addr), DE (X.blk s H scope (compEnvC scope cl C X.env) fp) c' kx mk)
    (he : ∀ c' : Cxt, c'.E = noErr → ∀ (s : Shared) (H : Hp) (C : Addr) (cl : List (Str × Addr)) (fp : List Addr), DE (X.blk s H scope (compEnvC scope cl C X.env) fp) c' elt m) (hs : ∀ x, foldedSetIterable iter X.env x = pure x := by intro _; rfl) :
    DE X c (.DictComp kx elt [⟨tg, iter, ifs, 0⟩] scope pos) (eDc (own.map (·.2)) src tgd t mk m) :=
  ped (pe_dcA (by omega) hc hN hi ok hg (lc_t ht) (lc_e hk) (lc_e he) hs) (ev_dc ev_self hgd hsub)
end
/-! ### statements -/
theorem psd {s : Stmt} {t : TS} {m : S} (h : PS X s t) (ev : EvS (cxFr X) c t m) : DS X c s m := ⟨fun pins s σ H D I ⟨ρ, S, st, g⟩ => h.run pins s σ H D I (ev ρ σ S H D st g)⟩
theorem pssd {s : List Stmt} {t : TS} {m : S} (h : PSs X s t) (ev : EvS (cxFr X) c t m) : DSs X c s m := ⟨fun pins s σ H D I ⟨ρ, S, st, g⟩ => h.run pins s σ H D I (ev ρ σ S H D st g)⟩
theorem ss_nil : DSs X c [] sNil := pssd pss_nil evs_nil
theorem ss_one {s : Stmt} {m : S} (h : DS X c s m) : DSs X c [s] m := pss_one h
theorem ss_cons {s : Stmt} {r : List Stmt} {m n : S} (h : DS X c s m) (h' : DSs X c r n) : DSs X c (s :: r) (sSeq m n) := pssd (pss_cons h h') (evs_seq evs_self evs_self)
theorem s_bad {s : Stmt} : DS X c s sBad := psd ps_never evs_bad
theorem s_pass : DS X c (.Pass pos) sNil := psd ps_pass evs_nil
theorem s_doc {x j p} : DS X c (.Expr (.Constant (.str x) j p) pos) sNil := psd ps_doc evs_nil
theorem s_bk : DS X c (.Break pos) sBk := psd ps_break evs_bk
theorem s_ct : DS X c (.Continue pos) sCt := psd ps_continue evs_ct
theorem s_ret (h : DE X c a ma) : DS X c (.Return (some a) pos) (sRet ma) := psd (ps_ret h) (evs_ret ev_te)
theorem s_retN : DS X c (.Return none pos) sRetN := psd ps_retN evs_retN
theorem s_expr (h : DE X c a ma) (hs : swapsWith a none pos.line X.env = pure false := by rfl) : DS X c (.Expr a pos) (sExp ma) := psd (ps_expr h hs) (evs_exp ev_te)
theorem s_if {t : T} {u w : List Stmt} {m n : S} (h : DT X c a t) (h1 : DSs X c u m) (h2 : DSs X c w n) : DS X c (.If a u w pos) (sIf t m n) := psd (ps_if h h1 h2) (evs_if ev_self evs_self evs_self)
theorem s_set (i : Nat) {x : Str} {pos' : Pos} (hN : X.N.Nodup) (h : DE X c a ma) (hi : X.N[i]? = some x := by rfl) (hx : Loc X.env.scope x := by first | exact Or.inl rfl | exact Or.inr rfl) (hs : swapsWith a (some (.Name x pos')) pos.line X.env = pure false := by rfl) (hf : X.fn x = true ∨ X.env.scope.names.lookup x = some .local := by first | exact Or.inl rfl | exact Or.inr rfl) :
    DS X c (.Assign [.Name x pos'] a pos) (sAsg i ma) := psd (ps_set hN hi hx h hs hf) (evs_asg ev_te)
section
variable {elt tg iter : Expr} {ifs : List Expr} {scope : Scope} {own : List (Str × Nat)} {g : TG} {tgd : Tg} {is : List Nat} {src : M (List D)} {t : T} {m : E} {spos : Pos}
/-- name = [..] -/
theorem s_lc (i : Nat) {y : Str} {py : Pos} (hc : X.calm = true) (hN : X.N.Nodup) (hy : X.N[i]? = some y) (hyl : X.env.scope.names.lookup y = some .local) (hsw : swapsWith (.ListComp elt [⟨tg, iter, ifs, 0⟩] scope pos) (some (.Name y py)) spos.line X.env = pure true) (hi : DI X c tg iter src) (ok : BlkOk X.N X.env.scope scope own)
    (hg : ∀ (s : Shared) (H : Hp) (C : Addr) (cl : List (Str × Addr)) (fp : List Addr), PG (X.blk s H scope (compEnvC scope cl C X.env) fp) tg g) (hgd : ∀ c' : Cxt, EvG (cxFr X) c' g tgd is) (hsub : ∀ i ∈ is, i ∈ own.map (·.2))
    (ht : ∀ c' : Cxt, c'.E = noErr → ∀ (s : Shared) (H : Hp) (C : Addr) (cl : List (Str × Addr)) (fp : List Addr), DIfs (X.blk s H scope (compEnvC scope cl C X.env) fp) c' ifs t)
    (he : ∀ c' : Cxt, c'.E = noErr → ∀ (s : Shared) (H : Hp) (C : Addr) (cl : List (Str × Addr)) (fp : List Addr), DE (X.blk s H scope (compEnvC scope cl C X.env) fp) c' elt m) (hs : ∀ x, foldedSetIterable iter X.env x = pure x := by intro _; rfl) :
    DS X c (.Assign [.Name y py] (.ListComp elt [⟨tg, iter, ifs, 0⟩] scope pos) spos) (sAsg i (eLc (own.map (·.2)) src tgd t m)) :=
  psd (ps_setLc hc hN hy hyl hsw hi ok hg (lc_t ht) (lc_e he) hs) (evs_asg (ev_lc ev_self hgd hsub))
end
section
variable {elt kx tg iter : Expr} {ifs : List Expr} {scope : Scope} {own : List (Str × Nat)} {g : TG} {tgd : Tg} {is : List Nat} {src : M (List D)} {t : T} {m mk : E} {spos : Pos}
/-- name = {..} -/
theorem s_dc (i : Nat) {y : Str} {py : Pos} (hu : X.A.units + 65 < cLine) (hc : X.calm = true) (hN : X.N.Nodup) (hy : X.N[i]? = some y) (hyl : X.env.scope.names.lookup y = some .local) (hsw : swapsWith (.DictComp kx elt [⟨tg, iter, ifs, 0⟩] scope pos) (some (.Name y py)) spos.line X.env = pure true) (hi : DI X c tg iter src) (ok : BlkOk X.N X.env.scope scope own)
    (hg : ∀ (s : Shared) (H : Hp) (C : Addr) (cl : List (Str × Addr)) (fp : List Addr), PG (X.blk s H scope (compEnvC scope cl C X.env) fp) tg g) (hgd : ∀ c' : Cxt, EvG (cxFr X) c' g tgd is) (hsub : ∀ i ∈ is, i ∈ own.map (·.2))
    (ht : ∀ c' : Cxt, c'.E = noErr → ∀ (s : Shared) (H : Hp) (C : Addr) (cl : List (Str × Addr)) (fp : List Addr), DIfs (X.blk s H scope (compEnvC scope cl C X.env) fp) c' ifs t)
    (hk : ∀ c' : Cxt, c'.E = noErr → ∀ (s : Shared) (H : Hp) (C : Addr) (cl : List (Str × Addr)) (fp : List Addr), DE (X.blk s H scope (compEnvC scope cl C X.env) fp) c' kx mk)
    (he : ∀ c' : Cxt, c'.E = noErr → ∀ (s : Shared) (H : Hp) (C : Addr) (cl : List (Str × Addr)) (fp : List Addr), DE (X.blk s H scope (compEnvC scope cl C X.env) fp) c' elt m) (hs : ∀ x, foldedSetIterable iter X.env x = pure x := by intro _; rfl) :
    DS X c (.Assign [.Name y py] (.DictComp kx elt [⟨tg, iter, ifs, 0⟩] scope pos) spos) (sAsg i (eDc (own.map (·.2)) src tgd t mk m)) :=
  psd (ps_setDcA (by omega) hc hN hy hyl hsw hi ok hg (lc_t ht) (lc_e hk) (lc_e he) hs) (evs_asg (ev_dc ev_self hgd hsub))
end
/-- a, b = e -/
theorem s_unp {es : List Expr} {x1 : Nat} {tp : Pos} {is : List Nat} {n : Nat} {t : TGs} (hc : X.calm = true) (h : DE X c a ma) (hg : PGs X es t) (hgd : ∀ c' : Cxt, EvGs (cxFr X) c' t is) (hp : PG X (.Tuple es x1 tp) (gTup X.K n t)) (hn : is.length = n) (hs : swapsWithSole [.Tuple es x1 tp] a pos.line X.env = pure false := by rfl) (hw : swappedStores [.Tuple es x1 tp] a X.env = pure none := by rfl) :
    DS X c (.Assign [.Tuple es x1 tp] a pos) (sUnp is ma) := psd (ps_asg h hp hs hw) (evs_unp ev_te (hgd c) hn)
/-- x[k] = v, a list | a dict -/
theorem s_setI (i : Nat) {x : Str} {px tp : Pos} (h : DE X c a ma) (hp : PG X (.Subscript (.Name x px) b tp) (gSub (tVar i) (teOf (cxFr X) c mb) rSetL)) (hs : swapsWithSole [.Subscript (.Name x px) b tp] a pos.line X.env = pure false := by rfl) (hw : swappedStores [.Subscript (.Name x px) b tp] a X.env = pure none := by rfl) :
    DS X c (.Assign [.Subscript (.Name x px) b tp] a pos) (sSetI i mb ma) := psd (ps_asg h hp hs hw) (evs_setI ev_te ev_te)
theorem s_putK (i : Nat) {x : Str} {px tp : Pos} (hu : X.A.units + 65 < cLine) (hk : DE X c b mb) (h : DE X c a ma) (hN : X.N[i]? = some x := by rfl) (hv : Vis X.env.scope x := by first | exact Or.inl rfl | exact Or.inr (Or.inl rfl) | exact Or.inr (Or.inr rfl)) (hd : (x == ("__debug__" : Str)) = false := by decide)
    (hcd : (x == ("__classdict__" : Str)) = false := by decide) (hs : swapsWith a (some (.Subscript (.Name x px) b tp)) pos.line X.env = pure false := by rfl) :
    DS X c (.Assign [.Subscript (.Name x px) b tp] a pos) (sPutK i mb ma) := psd (ps_dputA (by omega) (pe_var hN hv hd hcd) hk h hs) (evs_putK ev_te ev_te)
theorem s_app (i : Nat) {x : Str} {px ap : Pos} {e : Expr} {m : E} (h : DE X c e m) (hp : PE X (.Call (.Attribute (.Name x px) "append" ap) [e] [] p) (tBM X.K "list" rAppend (tVar i) (tCons (teOf (cxFr X) c m) tNil))) (hs : swapsWith (.Call (.Attribute (.Name x px) "append" ap) [e] [] p) none pos.line X.env = pure false := by rfl) :
    DS X c (.Expr (.Call (.Attribute (.Name x px) "append" ap) [e] [] p) pos) (sApp i m) := psd (ps_expr hp hs) (evs_app ev_te)
theorem s_ext (i : Nat) {x : Str} {px ap : Pos} {e : Expr} {m : E} (h : DE X c e m) (hp : PE X (.Call (.Attribute (.Name x px) "extend" ap) [e] [] p) (tBM X.K "list" rExtend (tVar i) (tCons (teOf (cxFr X) c m) tNil))) (hs : swapsWith (.Call (.Attribute (.Name x px) "extend" ap) [e] [] p) none pos.line X.env = pure false := by rfl) :
    DS X c (.Expr (.Call (.Attribute (.Name x px) "extend" ap) [e] [] p) pos) (sExt i m) := psd (ps_expr hp hs) (evs_ext ev_te)
theorem s_for {tg iter : Expr} {body : List Stmt} {g : TG} {tgd : Tg} {is : List Nat} {src : M (List D)} {m : S} (hp : PassesOwn (model X.prog X.w) X.A X.env X.xe) (hc : X.calm = true) (hi : DI X c tg iter src) (hg : PG X tg g) (hgd : EvG (cxFr X) c g tgd is) (hb : DSs X c body m)
    (hs : ∀ x, foldedSetIterable iter X.env x = pure x := by intro _; rfl) : DS X c (.For tg iter body [] pos) (sFor src tgd m) := psd (ps_for hp hc hi hg hb hs) (evs_for ev_self hgd evs_self)
theorem s_while (n : Nat) {t : T} {body : List Stmt} {m : S} (hp : PassesOwn (model X.prog X.w) X.A X.env X.xe) (ht : DT X c a t) (hb : DSs X c body m) : DS X c (.While a body [] pos) (wh t m n) := psd (ps_while hp ht hb) (evs_while n ev_self evs_self)
end
end Dn
set_option Elab.async false
set_option linter.all false
set_option maxRecDepth 100000
set_option maxHeartbeats 4000000
/-! Dict displays, constants of the module, the script. -/
namespace Dn
open PySem L2
theorem room65 {k : Nat} {A : Around} (r : Room k A) : A.units + 65 < cLine := by
  have := r.un
  omega
inductive Rp (K : Fr) (H : Hp) : List (V × V) → List (D × D) → Prop
  | nil : Rp K H [] []
  | cons {u v : V} {x y : D} {vs : List (V × V)} {ds : List (D × D)} : R K H u x → R K H v y → Rp K H vs ds → Rp K H ((u, v) :: vs) ((x, y) :: ds)
theorem Rp.keys {K : Fr} {H : Hp} : ∀ {ds : List (D × D)} {vs : List (V × V)}, Rp K H vs ds → (ds.all fun p => isKey p.1) = true → ∃ kvs : List (Key × V), vs = kvs.map (fun kv => (kV kv.1, kv.2)) ∧ Rk K H kvs ds ∧ kvs.length = ds.length
  | [], _, h, _ => by
    cases h
    exact ⟨[], rfl, .nil, rfl⟩
  | (x, y) :: ds, _, h, e => by
    cases h with
    | cons h1 h2 h3 =>
      simp only [List.all_cons, Bool.and_eq_true] at e
      obtain ⟨k, rfl, rfl⟩ := key_of h1 e.1
      obtain ⟨kvs, rfl, r, hl⟩ := Rp.keys h3 e.2
      exact ⟨(k, _) :: kvs, rfl, .cons h2 r, by simp only [List.length_cons, hl]⟩
section
variable {K : Fr} {c : Cxt}
def trsOf (K : Fr) (ps : List (E × E)) : List (TE × TE) := ps.map fun p => (eIn K p.1, eIn K p.2)
theorem pairs_in (hc : c.E = noErr) : ∀ (ps : List (E × E)) {ρ ρ' : Env} {σ : L2.St} {S : Sh} {H : Hp} {kvs : List (D × D)} {F : List (V × V) → Hp → Prop}, StR K c ρ σ S H → ePairs ps ρ = .ok kvs ρ' →
    (∀ vvs S' H', StR K c ρ' σ S' H' → Ex S.h S'.h → Rp K S'.h vvs kvs → F vvs H') → tPairs (trsOf K ps) σ H F
  | [], ρ, ρ', σ, S, H, kvs, F, st, h, k => by
    cases h
    exact k [] S H st (Ex.refl _) .nil
  | (a, b) :: ps, ρ, ρ', σ, S, H, kvs, F, st, h, k => by
    simp only [ePairs, Dn.bind] at h
    cases e1 : val a ρ with
    | bad =>
      simp only [e1] at h
      cases h
    | err er q =>
      simp only [e1] at h
      cases h
    | ok x ρ1 =>
      simp only [e1] at h
      cases e2 : val b ρ1 with
      | bad =>
        simp only [e2] at h
        cases h
      | err er q =>
        simp only [e2] at h
        cases h
      | ok y ρ2 =>
        simp only [e2] at h
        cases e3 : ePairs ps ρ2 with
        | bad =>
          simp only [e3] at h
          cases h
        | err er q =>
          simp only [e3] at h
          cases h
        | ok kv ρ3 =>
          simp only [e3] at h
          cases h
          refine ⟨c, hc, ρ, S, st, ?_⟩
          rw [e1]
          intro vx S1 H1 st1 ex1 rx
          refine ⟨c, hc, ρ1, S1, st1, ?_⟩
          rw [e2]
          intro vy S2 H2 st2 ex2 ry
          refine pairs_in hc ps st2 e3 fun vvs S3 H3 st3 ex3 rp => ?_
          exact k ((vx, vy) :: vvs) S3 H3 st3 ((ex1.trans ex2).trans ex3) (.cons (rx.mono (ex2.trans ex3)) (ry.mono ex3) rp)
theorem ev_disp (ps : List (E × E)) : Ev K c (tDisp (trsOf K ps)) (pV K c) (eDisp ps) := by
  intro ρ σ S H Q st g p hp
  unfold eDisp at g
  cases e : ePairs ps ρ with
  | bad =>
    simp only [e] at g
    exact g.elim
  | err er ρ' =>
    simp only [e] at g
    exact g.elim
  | ok kvs ρ' =>
    simp only [e] at g
    split at g
    · rename_i hk
      simp only [Bool.and_eq_true, decide_eq_true_eq] at hk
      have hD0 : c.H0 p = none := st.live p hp
      have hDs : S.h p = none := st.freshS hp
      have hDs0 : c.Hs0 p = none := fresh_back st.old hDs
      have hDo : S.ow p = none := st.freshO hp
      refine pairs_in (c := c.withD p (.dK [])) rfl ps ((st.newO hp).toD upd_same hDs hDo) e fun vvs S' H' st' ex rp => ?_
      obtain ⟨s7, q1, q2, q4⟩ := st'.fromD hD0 hDs0
      obtain ⟨ks, rfl, rk, hl⟩ := rp.keys hk.1
      refine ⟨q1, ks, rfl, by rw [hl]; exact hk.2, ?_⟩
      refine g (.ref p) S' _ (s7.wr q1 q2 hD0 q4) ex ⟨p, (· = p), rfl, ⟨rfl, .inl ⟨_, upd_same, Rk.merge rk .nil⟩⟩, fun a q => ?_⟩
      have q : a = p := q
      subst q
      exact ⟨q2, by rw [upd_same]; exact (fun z => nomatch z), hD0, q4⟩
    · exact g.elim
end
section
variable {X : Cx} {c : Cxt} {pos : Pos}
/-- the pairs of a display: derived for any entry from which no error leaves -/
def DPs (X : Cx) (pos : Pos) (ks : List (Option Expr)) (vs : List Expr) (ps : List (E × E)) : Prop := PPs X pos ks vs (trsOf (cxFr X) ps)
theorem eIn_of {a : Expr} {m : E} (h : ∀ c' : Cxt, c'.E = noErr → DE X c' a m) : PE X a (eIn (cxFr X) m) := ⟨fun pins s' σ H' Q I ⟨c', hc, ρ, S, st, g⟩ => by
  have h1 : PE X a (tfOf (cxFr X) c' (val m)) := ⟨fun pins s σ H Q I ⟨ρ, S, st, g⟩ => (h c' hc).run pins s σ H Q I ((ev_val ev_self) ρ σ S H Q st g)⟩
  exact h1.run pins s' σ H' Q I ⟨ρ, S, st, g⟩⟩
theorem dp_nil : DPs X pos [] [] [] := pps_nil
theorem dp_cons {k v : Expr} {ks : List (Option Expr)} {vs : List Expr} {mk mv : E} {ps : List (E × E)} (hk : ∀ c' : Cxt, c'.E = noErr → DE X c' k mk) (hv : ∀ c' : Cxt, c'.E = noErr → DE X c' v mv) (hr : DPs X pos ks vs ps) : DPs X pos (some k :: ks) (v :: vs) ((mk, mv) :: ps) := pps_cons (eIn_of hk) (eIn_of hv) hr
theorem d_disp {ks : List (Option Expr)} {vs : List Expr} {ps : List (E × E)} (h : DPs X pos ks vs ps) (hall : ks.all (·.isSome) = true := by rfl) (hl : ks.length = vs.length := by rfl) (h0 : ks ≠ [] := by exact fun z => nomatch z) (h15 : ks.length ≤ 15 := by decide) : DE X c (.Dict ks vs pos) (eDisp ps) := ped (pe_disp h hall hl h0 h15) (ev_disp ps)
theorem d_dict0 : DE X c (.Dict [] [] pos) (fun ρ => .ok (.o (.dic [])) ρ) := ped pe_dnewK fun ρ σ S H Q st g p hp => g (.ref p) S _ (st.newO hp) (Ex.refl _) ⟨p, (· = p), rfl, ⟨rfl, .inl ⟨[], upd_same, .nil⟩⟩, st.loose hp⟩
/-- a constant of the module -/
structure Gv (K : Fr) (x : Str) (d : D) : Prop where
  ex : ∃ v u, K.mg x = some u ∧ RelV v u ∧ ∀ H, R K H v d
theorem d_glob {x : Str} {d : D} (h : Gv (cxFr X) x d) (hg : Gl X x) (hd : (x == ("__debug__" : Str)) = false := by decide) : DE X c (.Name x pos) (eC d) := by
  obtain ⟨v, u, h1, h2, h3⟩ := h.ex
  exact ped (pe_glob hg h1 h2 hd) (ev_c h3)
theorem ev_pkLen {K : Fr} {i : Nat} : Ev K c (tCB (fun xs H Q => (∃ x n, xs = [x] ∧ LenV K x H n ∧ Q (.int n) H) ∨ ∃ a n, xs = [V.ref a] ∧ DLen K H a n ∧ Q (.int ((n : Nat) : Int)) H) (tCons (tVar i) tNil)) (pV K c) (ePk1 oLenD i) := by
  intro ρ σ S H Q st g
  unfold ePk1 at g
  cases p : peek i ρ with
  | bad =>
    simp only [p] at g
    exact g.elim
  | err er ρ2 =>
    simp only [p] at g
    exact g.elim
  | ok x ρ2 =>
    simp only [p] at g
    obtain ⟨rfl, v, h1, h2⟩ := st.peek p
    refine ⟨v, h1, ?_⟩
    have hR := st.whole h2
    cases q : oLenD x with
    | none =>
      simp only [q] at g
      exact g.elim
    | some z =>
      simp only [q] at g
      have k : ∀ n : Int, z = .int n → Q (.int n) H := fun n e => by
        subst e
        exact g _ S H st (Ex.refl _) (R.int _)
      show (∃ x n, [v] = [x] ∧ LenV K x H n ∧ Q (.int n) H) ∨ ∃ a n, [v] = [V.ref a] ∧ DLen K H a n ∧ Q (.int ((n : Nat) : Int)) H
      cases hR <;> first | (simp [oLenD, oLen] at q; done) | skip
      · simp only [oLenD, oLen] at q
        split at q
        · rename_i hz
          split at hz
          · rename_i hl
            cases hz
            cases q
            exact .inl ⟨_, _, rfl, ⟨Evl.sz_of hl, rfl⟩, k _ rfl⟩
          · cases hz
        · cases q
      · rename_i h3 h4
        simp only [oLenD, oLen, Option.some.injEq] at q
        exact .inl ⟨_, _, rfl, .inr ⟨_, h3, rfl⟩, k _ (by rw [h4.length]; exact q.symm)⟩
      · rename_i h3 h4
        simp only [oLenD, oLen, Option.some.injEq] at q
        exact .inl ⟨_, _, rfl, .inl ⟨_, SqL.of h3, rfl⟩, k _ (by rw [h4.length]; exact q.symm)⟩
      · rename_i h3 h4
        simp only [oLenD, oLen, Option.some.injEq] at q
        exact .inr ⟨_, _, rfl, .inl ⟨_, h3, rfl⟩, k _ (by rw [h4.length]; exact q.symm)⟩
      · rename_i h0 h3 h4
        simp only [oLenD, oLen, Option.some.injEq] at q
        exact .inr ⟨_, _, rfl, .inr ⟨_, _, h3, h4, rfl⟩, k _ (by rw [h4.length]; exact q.symm)⟩
theorem d_pkLen (i : Nat) {x : Str} {p px : Pos} (hg : Gl X "len") (hm : X.mg "len" = none) (hN : X.N[i]? = some x := by rfl) (hv : Vis X.env.scope x := by first | exact Or.inl rfl | exact Or.inr (Or.inl rfl) | exact Or.inr (Or.inr rfl)) (hd : (x == ("__debug__" : Str)) = false := by decide)
    (hcd : (x == ("__classdict__" : Str)) = false := by decide) (he : starEach [.Name x px] X.env = (false, eval (.Name x px) X.env) :: starEach [] X.env := by rfl) (hpl : (backTo pos (starEach [] X.env)).any (·.1) = false := by rfl) : DE X c (.Call (.Name "len" p) [.Name x px] [] pos) (ePk1 oLenD i) :=
  ped (pe_callB (call_len.or call_lenN) hg hm PySem.boot_len (pa_cons (pe_var hN hv hd hcd) pa_nil he) (by decide) (by decide) he hpl) ev_pkLen
end
end Dn
set_option Elab.async false
set_option linter.all false
set_option maxRecDepth 100000
set_option maxHeartbeats 4000000
/-! The law itself, from its denotation. -/
namespace Dn
open PySem L2
def spLaw (K : PySem.W.Frag) : Sp := fun vs H Q _ => ∃ (a : Addr) (ns : List Int), vs = [.ref a] ∧ SqL K H a (ns.map V.int) ∧ ns.length ≤ 63 ∧ ∀ H', Q (.bl true) H'
theorem law_imp {K : Fr} {F : FD} (hF : ∀ ns : List Int, ns.length ≤ 63 → ∃ sl, F [.val (.scr ns)] = .ok (.d (.bl true)) sl) : ∀ vs H Q E, spLaw K vs H Q E → spF K 1 F vs H Q E := by
  rintro vs H Q E ⟨a, ns, rfl, hS, hl, q⟩
  obtain ⟨sl, e⟩ := hF ns hl
  refine ⟨rfl, ⟨H, fun _ => none⟩, [.val (.scr ns)], fun _ _ => False, fun i l h => h.elim, ?_, ?_⟩
  · refine ⟨fun _ _ h => h, Ex.refl _, fun a o h _ _ => h, fun a h => h, fun a h1 h2 => absurd h1 h2, rfl, fun i d h => ?_, fun i k h => ?_, fun i k h => ?_, fun i e h => ?_, fun a i h => (nomatch h)⟩
    · match i, h with
      | 0, h =>
        cases h
        exact ⟨_, rfl, .scr hS⟩
    · match i, h with
      | 0, h => cases h
    · match i, h with
      | 0, h => cases h
    · match i, h with
      | 0, h => cases h
  · rw [e]
    intro b S' H' st ex p
    have p : R K S'.h b (.bl true) := p
    cases p
    exact q H'
/-- the law's own def: no error leaves it -/
abbrev bodyX0 (P : Program) (w : World) (K : PySem.W.Frag) (mg : Str → Option Value) (base : Heap) (N : List Str) (qual : Str) (st : Stmt) (f : Addr) (cdv : Value) (A : Around) (outer : List PySem.Env) (s : Shared) (H : Hp) (E : XK) : Cx := (cxOf CX0 P w K mg base N qual (defScope st) f cdv A outer s H E).nox
theorem law_den {P : Program} {w : World} {K : PySem.W.Frag} {mg : Str → Option Value} {base : Heap} {x qual : Str} {st : Stmt} {f : Addr} {fd : FuncData} {N ps : List Str} {k : Nat} {b : S} (F : Fun K x qual st f fd) (S : FnScope N ps (defScope st)) (hl : ps.length = 1)
    (hF : ∀ ns : List Int, ns.length ≤ 63 → ∃ sl, fn N.length b [.val (.scr ns)] = .ok (.d (.bl true)) sl)
    (hb : ∀ (c : Cxt) (cdv : Value) (A : Around) (outer : List PySem.Env) (s : Shared) (H : Hp) (E : XK), Room k (A.deeper (PyProof.Rows.envOfC qual (defScope st) s.heap.objs.size f cdv)) → c.exc = none → Bd (bodyX0 P w K mg base N qual st f cdv A outer s H E) c → PSs (bodyX0 P w K mg base N qual st f cdv A outer s H E) (defBody st) (tsOf (⟨K, P, w, mg⟩ : Fr) c b)) :
    FnOk P w K mg base CX0 (k + 1) f fd ps (spLaw K) := by
  refine F.ok S (fun vs H Q E h => ?_) fun cdv A outer s H vs Q E hr h => ?_
  · obtain ⟨a, ns, rfl, _⟩ := h
    exact hl.symm
  · obtain ⟨hv, S', as, B, hB, st', g⟩ := law_imp (K := ⟨K, P, w, mg⟩) hF vs H Q (fun _ _ _ => False) (by
      obtain ⟨a, ns, e1, e2, e3, e4⟩ := h
      exact ⟨a, ns, e1, e2, e3, e4⟩)
    have hal : as.length = vs.length := by
      have a := st'.len
      rw [List.length_map] at a
      exact a.symm
    refine ⟨_, hb (entry vs S'.h H B (fun _ _ _ => False) hB) cdv A outer s H E hr rfl ⟨takes0, PassesOwn.never⟩, ?_⟩
    exact fun_core (c := entry vs S'.h H B (fun _ _ _ => False) hB) (X := (cxOf CX0 P w K mg base N qual (defScope st) f cdv A outer s H E).nox) rfl hal (hb (entry vs S'.h H B (fun _ _ _ => False) hB) cdv A outer s H E hr rfl ⟨takes0, PassesOwn.never⟩) st' g fun _ _ _ _ _ h => h
end Dn
set_option Elab.async false
set_option linter.all false
set_option maxRecDepth 100000
set_option maxHeartbeats 2000000
namespace Cmb
open PySem PySem.Spec PySem.Builtin.Itertools PyProof.Rows
open Sem (wp)

theorem mro_cmb : mroOf (.type "itertools.combinations") = pure [.type "itertools.combinations", .type "object"] := by rw [mroOf_type]; kernel_rfl
theorem lookup_cmb_new : typeLookup (.type "itertools.combinations") "__new__" = pure (some (.builtin "itertools.combinations.__new__")) := by rw [typeLookup_type, builtinLookup_eq_fast]; kernel_rfl
theorem slot_cmb_init : Slot "itertools.combinations" "__init__" "object.__init__" :=
  .of (owner := "object") (n := "__init__") (by rw [typeLookup_type, builtinLookup_eq_fast]; kernel_rfl) (by decide +kernel) (by decide +kernel) (by decide +kernel)
    (by first | exact .inl (by decide +kernel) | exact .inr (by decide +kernel)) (by rw [isSubtype_type]; kernel_rfl)
theorem sub_cmb : isSubtype (.type "itertools.combinations") (.type "itertools.combinations") = pure true := by rw [isSubtype_type]; kernel_rfl
theorem called_cmb : TypeCalled "itertools.combinations" "itertools.combinations.__new__" "object.__init__" :=
  ⟨by decide +kernel, by decide +kernel, ⟨_, _, mro_cmb⟩, madeBy_type mro_cmb lookup_cmb_new (by decide +kernel), by decide +kernel, sub_cmb, slot_cmb_init⟩
theorem typeCall_cmb_2 (a b : Value) : checkTypeCall "itertools.combinations" ⟨[a, b], []⟩ = pure () := by kernel_rfl
theorem newCall_cmb_2 (a b : Value) : checkBuiltinCall "itertools.combinations.__new__" ⟨[.type "itertools.combinations", a, b], []⟩ = pure () := by kernel_rfl
theorem entry_cmb_new : entryFor table "itertools.combinations.__new__" = some Builtin.«itertools.combinations.__new__» := entryFor_of_tree (by kernel_rfl)
theorem slot_cmb_iter : Slot "itertools.combinations" "__iter__" "itertools.combinations.__iter__" :=
  .of (owner := "itertools.combinations") (n := "__iter__") (by rw [typeLookup_type, builtinLookup_eq_fast]; kernel_rfl) (by decide +kernel) (by decide +kernel) (by decide +kernel)
    (by first | exact .inl (by decide +kernel) | exact .inr (by decide +kernel)) sub_cmb
theorem slot_cmb_next : Slot "itertools.combinations" "__next__" "itertools.combinations.__next__" :=
  .of (owner := "itertools.combinations") (n := "__next__") (by rw [typeLookup_type, builtinLookup_eq_fast]; kernel_rfl) (by decide +kernel) (by decide +kernel) (by decide +kernel)
    (by first | exact .inl (by decide +kernel) | exact .inr (by decide +kernel)) sub_cmb
theorem entry_cmb_iter : entryFor table "itertools.combinations.__iter__" = some Builtin.«dict_keyiterator.__iter__» :=
  entryFor_alias (id' := "dict_keyiterator.__iter__") (by kernel_rfl) (by first | rfl | decide +kernel | (unfold String.splitOn; simp +decide [String.splitOnAux])) (by decide +kernel) (by kernel_rfl)
theorem entry_cmb_next : entryFor table "itertools.combinations.__next__" = some Builtin.«itertools.combinations.__next__» := entryFor_of_tree (by kernel_rfl)
theorem owner_cmb : Manifest.owners.lookup (String.ofList ['s', 'n', 'o', 'i', 't', 'a', 'n', 'i', 'b', 'm', 'o', 'c', '.', 's', 'l', 'o', 'o', 't', 'r', 'e', 't', 'i'].reverse) = some Manifest.sig_itertools_combinations := by kernel_rfl
theorem args_cmb_iter (a : Value) : argsOk "itertools.combinations.__iter__" ⟨[a], []⟩ := by
  unfold argsOk; rw [signature?_of (id := "itertools.combinations.__iter__") (n := ['_', '_', 'r', 'e', 't', 'i', '_', '_']) (o := ['s', 'n', 'o', 'i', 't', 'a', 'n', 'i', 'b', 'm', 'o', 'c', '.', 's', 'l', 'o', 'o', 't', 'r', 'e', 't', 'i']) (by kernel_rfl) owner_cmb]; kernel_rfl
theorem args_cmb_next (a : Value) : argsOk "itertools.combinations.__next__" ⟨[a], []⟩ := by
  unfold argsOk; rw [signature?_of (id := "itertools.combinations.__next__") (n := ['_', '_', 't', 'x', 'e', 'n', '_', '_']) (o := ['s', 'n', 'o', 'i', 't', 'a', 'n', 'i', 'b', 'm', 'o', 'c', '.', 's', 'l', 'o', 'o', 't', 'r', 'e', 't', 'i']) (by kernel_rfl) owner_cmb]; kernel_rfl
theorem noDict_cmb : typeHasDict (.type "itertools.combinations") = false := by decide +kernel

/-- the record: the pool, how far, the last row, the places -/
abbrev recC (T : Addr) (st : Int) (last : Value) (is : List Nat) : Obj := { cls := .type "itertools.combinations", dict := none, data := .fields (#[.ref T, rawInt st, last] ++ (is.map fun (i : Nat) => rawInt i).toArray), slots := #[] }
abbrev IsCmb (h : Heap) (it T : Addr) (st : Int) (last : Value) (is : List Nat) : Prop := h.get? it = some (recC T st last is)
abbrev IsPool (h : Heap) (T : Addr) (vs : List Value) : Prop := h.get? T = some { cls := .type "tuple", data := .seq vs.toArray }

def colH (h : Heap) (vs : List Value) : Heap := (h.push (seqObj "list" #[] 0)).update h.objs.size (Obj.mapSeq (· ++ vs.toArray))
theorem colH_size (h : Heap) (vs : List Value) : (colH h vs).objs.size = h.objs.size + 1 := by
  unfold colH
  rw [(Heap.SameBut.update ..).1, Heap.size_push]
theorem colH_get {h : Heap} {vs : List Value} {b : Addr} {o : Obj} (e : h.get? b = some o) : (colH h vs).get? b = some o := (Heap.get?_update_other _ _ (Nat.ne_of_gt (Heap.lt_size e))).trans (Heap.get?_push_of_some _ e)
theorem meets_cmb_new (l : Addr) (vs : List Value) (r : Int) (t : Tok) (hsz : vs.length ≤ 1000) (h0 : 0 ≤ r) (h1 : r < 1000) :
    Meets (Builtin.«itertools.combinations.__new__» ⟨[.type "itertools.combinations", .ref l, .int r t], []⟩)
      (fun _ R s => s.heap.IsList l vs.toArray ∧ R (.ok (.ret (.ref ((colH s.heap vs).objs.size + 1)))) { s with heap := ((colH s.heap vs).push { cls := .type "tuple", data := .seq vs.toArray }).push (recC (colH s.heap vs).objs.size (if r.toNat > vs.length then 2 else 0) .none (List.range r.toNat)) }) :=
  .of_wp fun prog w A R s h => by
    obtain ⟨hp, g, dd, tk, os⟩ := s; obtain ⟨ht, h⟩ := h
    have hsub := sub_cmb
    have hdd := noDict_cmb
    show wpAny _ _ (_ >>= _) _ _ _
    refine wpAny_bind ?_
    show wpAny _ _ (itClassAndRest "combinations" _ >>= _) _ _ _
    have hsub2 : isSubtype (.type "itertools.combinations") (.type ("itertools." ++ "combinations")) = pure true := hsub
    have hbind : itBindNamed "combinations" ["iterable", "r"] 2 2 [Value.ref l, Value.int r t] [] = pure [some (Value.ref l), some (.int r t)] := by rfl
    have hss : itSsizeArg (.int r t) = pure r := by
      unfold itSsizeArg
      show (do
        let i ← asIndex (.int r t)
        if (decide (i < -(2 ^ 63 : Int)) || decide (i ≥ 2 ^ 63)) = true then _ else _) = _
      rw [show asIndex (.int r t) = pure r from rfl, pure_bind, if_neg (by
        have a : decide (r < -(2 ^ 63 : Int)) = false := decide_eq_false (by omega)
        have b : decide (r ≥ (2 ^ 63 : Int)) = false := decide_eq_false (by omega)
        rw [a, b]; decide)]
    have hr0 : ¬ (r < 0) := by omega
    have htm : itTooMany r = false := by unfold itTooMany; simp; omega
    have hcol : vs.length ≤ sizeLine := by rw [sizeLine_eq]; omega
    wp_walk using collect_list (hsz := hcol) ht
    show wpAny _ _ (newObj (.type "itertools.combinations") (.fields ([Value.ref (colH hp vs).objs.size, rawInt (if r.toNat > vs.length then 2 else 0), Value.none] ++ List.map (fun (i : Nat) => rawInt ↑i) (List.range r.toNat)).toArray)) _ _ { heap := (colH hp vs).push { cls := Value.type "tuple", data := Data.seq vs.toArray }, gens := g, drawn := dd, toks := tk, os := os }
    refine wpAny_newObj_type ?_ (by
      show (_ : Array Value).size ≤ sizeLine + 2
      rw [sizeLine_eq]
      simp
      omega)
    refine wpAny_pure ⟨_, rfl, ?_⟩
    have q := h
    have e1 : ((colH hp vs).push { cls := Value.type "tuple", data := Data.seq vs.toArray }).objs.size = (colH hp vs).objs.size + 1 := Heap.size_push ..
    show R (.ok (.ret (.ref ((colH hp vs).push { cls := Value.type "tuple", data := Data.seq vs.toArray }).objs.size))) _
    rw [e1]
    have e3 : ([Value.ref (colH hp vs).objs.size, rawInt (if r.toNat > vs.length then 2 else 0), Value.none] ++ List.map (fun (i : Nat) => rawInt ↑i) (List.range r.toNat)).toArray = #[.ref (colH hp vs).objs.size, rawInt (if r.toNat > vs.length then 2 else 0), .none] ++ ((List.range r.toNat).map fun (i : Nat) => rawInt i).toArray := by simp
    rw [e3]
    exact q
section
variable {prog : Program} {w : World} {A : Around} {E : Value → Shared → Prop} {s : Shared}
theorem call_cmb {l : Addr} {vs : List Value} {r : Int} {t : Tok} {Q : Value → Shared → Prop} (hl : s.heap.IsList l vs.toArray) (hsz : vs.length ≤ 1000) (h0 : 0 ≤ r) (h1 : r < 1000)
    (h : ∀ (h' : Heap) (T it : Addr), s.heap.objs.size ≤ T → s.heap.objs.size ≤ it → T ≠ it → IsPool h' T vs → IsCmb h' it T (if r.toNat > vs.length then 2 else 0) .none (List.range r.toNat) → (∀ b o, s.heap.get? b = some o → h'.get? b = some o) → Q (.ref it) { s with heap := h' }) :
    wpAny (model prog w) A (call (.type "itertools.combinations") [.ref l, .int r t]) Q E s := by
  refine callType_new called_cmb (by decide +kernel) (typeCall_cmb_2 _ _) (newCall_cmb_2 _ _) (fun obj => F.args_object_init_3 obj _ _) entry_cmb_new (meets_cmb_new l vs r t hsz h0 h1) ⟨hl, ?_⟩
  generalize hh : colH s.heap vs = h'
  have sz : h'.objs.size = s.heap.objs.size + 1 := by rw [← hh]; exact colH_size _ _
  have hk : ∀ b o, s.heap.get? b = some o → h'.get? b = some o := fun b o e => by rw [← hh]; exact colH_get e
  have g1 : (h'.push { cls := Value.type "tuple", data := Data.seq vs.toArray }).objs.size = h'.objs.size + 1 := Heap.size_push ..
  have g2 : ((h'.push { cls := Value.type "tuple", data := Data.seq vs.toArray }).push (recC h'.objs.size (if r.toNat > vs.length then 2 else 0) .none (List.range r.toNat))).get? (h'.objs.size + 1) = some (recC h'.objs.size (if r.toNat > vs.length then 2 else 0) .none (List.range r.toNat)) := by
    rw [← g1]; exact Heap.get?_push_size _ rfl
  have g3 : ((h'.push { cls := Value.type "tuple", data := Data.seq vs.toArray }).push (recC h'.objs.size (if r.toNat > vs.length then 2 else 0) .none (List.range r.toNat))).get? h'.objs.size = some { cls := .type "tuple", data := .seq vs.toArray } := Heap.get?_push_of_some _ (Heap.get?_push_size _ rfl)
  have le : s.heap.objs.size ≤ h'.objs.size := by omega
  show _ ∧ _
  exact ⟨⟨_, g2, rfl⟩, h _ h'.objs.size (h'.objs.size + 1) le (Nat.le_succ_of_le le) (Nat.ne_of_lt (Nat.lt_succ_self _)) g3 g2 fun b o q => Heap.get?_push_of_some _ (Heap.get?_push_of_some _ (hk b o q))⟩
theorem iter_cmb {it T : Addr} {st : Int} {last : Value} {is : List Nat} {Q : Value → Shared → Prop} (hit : IsCmb s.heap it T st last is) (h : Q (.ref it) s) : wpAny (model prog w) A (pyIter (.ref it)) Q E s := by
  have hT : s.TypeIs (.ref it) "itertools.combinations" := ⟨_, hit, rfl⟩
  refine wpAny_pyIter_slot hT slot_cmb_iter (wpAny_call_entry slot_cmb_iter hT entry_cmb_iter ?_ (args_cmb_iter _))
  show wpAny _ _ (ret (.ref it)) _ _ s
  exact wpAny_pure ⟨_, rfl, "itertools.combinations", _, hT, slot_cmb_next.lookup, h⟩
end
end Cmb
set_option Elab.async false
set_option linter.all false
set_option maxRecDepth 100000
set_option maxHeartbeats 2000000
namespace Cmb
open PySem PySem.Spec PySem.Builtin.Itertools PyProof.Rows
open Sem (wp)
/-- the row after, none after the last -/
def succC (N : Nat) : List Nat → Option (List Nat)
  | [] => none
  | x :: r => match succC N r with
    | some r' => some (x :: r')
    | none => if x != N - (r.length + 1) then some ((List.range (r.length + 1)).map (x + 1 + ·)) else none
theorem findC (n : Nat) : ∀ (is : List Nat), (match (List.range is.length).reverse.find? (fun i => is.getD i 0 != i + n - is.length) with
    | none => none
    | some i => some (is.take i ++ (List.range (is.length - i)).map (is.getD i 0 + 1 + ·))) = succC n is
  | [] => rfl
  | x :: r => by
    have ih := findC n r
    have e1 : (List.range (x :: r).length).reverse = ((List.range r.length).reverse.map Nat.succ) ++ [0] := by
      rw [List.length_cons, List.range_succ_eq_map, List.reverse_cons, List.map_reverse]
    have e2 : ((fun i => (x :: r).getD i 0 != i + n - (x :: r).length) ∘ Nat.succ) = fun i => r.getD i 0 != i + n - r.length := by
      funext i
      simp only [Function.comp_apply, List.length_cons, List.getD_cons_succ]
      rw [show i.succ + n - (r.length + 1) = i + n - r.length by omega]
    rw [e1, List.find?_append, List.find?_map, e2]
    unfold succC
    rw [← ih]
    cases h : (List.range r.length).reverse.find? (fun i => r.getD i 0 != i + n - r.length) with
    | some i =>
      simp only [Option.map_some, Option.some_or, List.length_cons, List.getD_cons_succ, List.take_succ_cons, List.cons_append]
      rw [show r.length + 1 - i.succ = r.length - i by omega]
    | none =>
      simp only [Option.map_none, Option.none_or, List.find?_cons, List.find?_nil, List.length_cons, List.getD_cons_zero, Nat.zero_add]
      cases h2 : (x != n - (r.length + 1)) with
      | true => simp
      | false => simp
theorem sets1 (a b c d : Value) (xs : Array Value) : (#[a, b, c] ++ xs).setIfInBounds 1 d = #[a, d, c] ++ xs := by
  apply Array.ext'
  simp
theorem sets2 (a b c d : Value) (xs : Array Value) : (#[a, b, c] ++ xs).setIfInBounds 2 d = #[a, b, d] ++ xs := by
  apply Array.ext'
  simp
theorem get3 (a b c : Value) (xs : Array Value) : (#[a, b, c] ++ xs)[0]? = some a ∧ (#[a, b, c] ++ xs)[1]? = some b ∧ (#[a, b, c] ++ xs)[2]? = some c := by
  refine ⟨?_, ?_, ?_⟩ <;> simp [Array.getElem?_append]
theorem nums (is : List Nat) (a b c : Value) : ((#[a, b, c] ++ (is.map fun (i : Nat) => rawInt i).toArray).toList.drop 3).map (fun | .int n _ => n.toNat | _ => 0) = is := by
  simp [Function.comp_def, rawInt]
section
variable {prog : Program} {w : World} {A : Around} {E : Value → Shared → Prop} {s : Shared}
theorem numbers {it T : Addr} {st : Int} {last : Value} {is : List Nat} {Q : List Nat → Shared → Prop} (hit : IsCmb s.heap it T st last is) (h : Q is s) : wpAny (model prog w) A (itNumbersFrom (.ref it) 3) Q E s := by
  unfold itNumbersFrom
  refine wpAny_bind (wpAny_load hit ?_)
  show wpAny _ _ (pure (((#[Value.ref T, rawInt st, last] ++ (is.map fun (i : Nat) => rawInt i).toArray).toList.drop 3).map (fun | .int n _ => n.toNat | _ => 0))) _ _ _
  rw [nums]
  exact wpAny_pure h
theorem setAt {it T : Addr} {st : Int} {last x : Value} {is : List Nat} {Q : Unit → Shared → Prop} (hit : IsCmb s.heap it T st last is) (h : ∀ h', IsCmb h' it T st x is → Heap.SameBut it s.heap h' → Q () { s with heap := h' }) :
    wpAny (model prog w) A (setField (.ref it) 2 x) Q E s :=
  wpAny_setField_rec hit (by simp) fun h' e sb => h h' (by rw [sets2] at e; exact e) sb
theorem setSt {it T : Addr} {st st' : Int} {last : Value} {is : List Nat} {Q : Unit → Shared → Prop} (hit : IsCmb s.heap it T st last is) (h : ∀ h', IsCmb h' it T st' last is → Heap.SameBut it s.heap h' → Q () { s with heap := h' }) :
    wpAny (model prog w) A (setField (.ref it) 1 (rawInt st')) Q E s :=
  wpAny_setField_rec hit (by simp) fun h' e sb => h h' (by rw [sets1] at e; exact e) sb
theorem setIs {it T : Addr} {st : Int} {last : Value} {is js : List Nat} {Q : Unit → Shared → Prop} (hit : IsCmb s.heap it T st last is) (hl : js.length ≤ 1000) (h : ∀ h', IsCmb h' it T st last js → Heap.SameBut it s.heap h' → Q () { s with heap := h' }) :
    wpAny (model prog w) A (itSetNumbersFrom (.ref it) 3 js) Q E s := by
  have e3 : (#[Value.ref T, rawInt st, last] ++ (is.map fun (i : Nat) => rawInt i).toArray).extract 0 3 = #[Value.ref T, rawInt st, last] := by
    apply Array.ext'
    simp
  unfold itSetNumbersFrom
  refine wpAny_updateFields hit rfl ?_ (by
    rw [e3, sizeLine_eq]
    simp
    omega)
  refine h _ ?_ (Heap.SameBut.update ..)
  have q := Heap.get?_update_self (Obj.mapFields fun fs => fs.extract 0 3 ++ (js.map fun (n : Nat) => rawInt n).toArray) hit rfl
  refine q.trans ?_
  show some ({ cls := _, dict := none, data := Data.fields ((#[Value.ref T, rawInt st, last] ++ (is.map fun (i : Nat) => rawInt i).toArray).extract 0 3 ++ _), slots := #[] } : Obj) = _
  rw [e3]
/-- the row is handed out -/
theorem handOut {it T : Addr} {st : Int} {last : Value} {is js : List Nat} {vs : List Value} {Q : Fin → Shared → Prop} (hit : IsCmb s.heap it T st last js) (hT : IsPool s.heap T vs) (hl : is.length ≤ 1000)
    (h : ∀ h', IsCmb h' it T st (.ref s.heap.objs.size) js → h'.get? s.heap.objs.size = some { cls := .type "tuple", data := .seq (is.map fun i => vs.getD i .none).toArray } → (∀ b o, b ≠ it → s.heap.get? b = some o → h'.get? b = some o) → Q (.done (.ret (.ref s.heap.objs.size))) { s with heap := h' }) :
    wpAny (model prog w) A (do
      let result ← (do
        let items ← itPoolItems (.ref T)
        newTuple (is.map fun i => items.getD i .none))
      let before ← field (.ref it) 2
      setField (.ref it) 2 result
      letGo [before] [result]
      ret result) Q E s := by
  have hitl : it < s.heap.objs.size := Heap.lt_size hit
  refine wpAny_bind ?_
  unfold itPoolItems
  refine wpAny_bind (wpAny_bind (wpAny_seqItems hT rfl (wpAny_pure ?_)))
  unfold newTuple
  refine wpAny_newObj_type ?_ (by
    show (_ : Array Value).size ≤ sizeLine
    rw [sizeLine_eq]
    simp
    omega)
  have e0 : (is.map fun i => vs.toArray.getD i .none) = is.map fun i => vs.getD i .none := by
    refine List.map_congr_left fun i _ => ?_
    simp [List.getD]
  rw [e0]
  have hit1 := Heap.get?_push_of_some ({ cls := .type "tuple", data := .seq (is.map fun i => vs.getD i .none).toArray } : Obj) hit
  refine wpAny_bind (wpAny_field hit1 rfl (x := last) (get3 ..).2.2 ?_)
  refine wpAny_bind (setAt hit1 fun h' hit2 sb => ?_)
  refine wpAny_bind (wpAny_letGo ?_)
  refine wpAny_pure (h h' hit2 ?_ fun b o hb e => ?_)
  · exact sb.extBut _ _ (Nat.ne_of_gt hitl) (Heap.get?_push_size _ rfl)
  · exact sb.extBut _ _ hb (Heap.get?_push_of_some _ e)
theorem intAt {it T : Addr} {st : Int} {last : Value} {is : List Nat} {Q : Int → Shared → Prop} (hit : IsCmb s.heap it T st last is) (h : Q st s) : wpAny (model prog w) A (itIntField (.ref it) 1) Q E s := by
  unfold itIntField
  exact wpAny_bind (wpAny_field hit rfl (x := rawInt st) (get3 ..).2.1 (wpAny_pure h))
theorem cmb_first {it T : Addr} {last : Value} {is : List Nat} {vs : List Value} {Q : Fin → Shared → Prop} (hit : IsCmb s.heap it T 0 last is) (hT : IsPool s.heap T vs) (hne : it ≠ T) (hl : is.length ≤ 1000)
    (h : ∀ h', IsCmb h' it T 1 (.ref s.heap.objs.size) is → h'.get? s.heap.objs.size = some { cls := .type "tuple", data := .seq (is.map fun i => vs.getD i .none).toArray } → (∀ b o, b ≠ it → s.heap.get? b = some o → h'.get? b = some o) → Q (.done (.ret (.ref s.heap.objs.size))) { s with heap := h' }) :
    wpAny (model prog w) A (Builtin.«itertools.combinations.__next__» ⟨[.ref it], []⟩) Q E s := by
  show wpAny _ _ (field (.ref it) 0 >>= _) _ _ s
  refine wpAny_bind (wpAny_field hit rfl (x := .ref T) (get3 ..).1 ?_)
  refine wpAny_bind (numbers hit ?_)
  refine wpAny_bind (intAt hit ?_)
  show wpAny _ _ (setField (.ref it) 1 (rawInt 1) >>= _) _ _ s
  refine wpAny_bind (setSt hit fun h1 hit1 sb => ?_)
  have hT1 : IsPool h1 T vs := sb.extBut _ _ (Ne.symm hne) hT
  have sz : h1.objs.size = s.heap.objs.size := sb.1
  refine handOut (s := { s with heap := h1 }) (is := is) hit1 hT1 hl fun h' a b c => ?_
  rw [show (Shared.heap { s with heap := h1 }).objs.size = s.heap.objs.size from sz] at a b ⊢
  exact h h' a b fun x o hx e => c x o hx (sb.extBut _ _ hx e)
theorem cmb_more {it T : Addr} {last : Value} {is js : List Nat} {vs : List Value} {Q : Fin → Shared → Prop} (hit : IsCmb s.heap it T 1 last is) (hT : IsPool s.heap T vs) (hne : it ≠ T) (hl : js.length ≤ 1000) (hs : succC vs.length is = some js)
    (h : ∀ h', IsCmb h' it T 1 (.ref s.heap.objs.size) js → h'.get? s.heap.objs.size = some { cls := .type "tuple", data := .seq (js.map fun i => vs.getD i .none).toArray } → (∀ b o, b ≠ it → s.heap.get? b = some o → h'.get? b = some o) → Q (.done (.ret (.ref s.heap.objs.size))) { s with heap := h' }) :
    wpAny (model prog w) A (Builtin.«itertools.combinations.__next__» ⟨[.ref it], []⟩) Q E s := by
  show wpAny _ _ (field (.ref it) 0 >>= _) _ _ s
  refine wpAny_bind (wpAny_field hit rfl (x := .ref T) (get3 ..).1 ?_)
  refine wpAny_bind (numbers hit ?_)
  refine wpAny_bind (intAt hit ?_)
  show wpAny _ _ (itPoolItems (.ref T) >>= _) _ _ s
  refine wpAny_bind ?_
  unfold itPoolItems
  refine wpAny_bind (wpAny_seqItems hT rfl (wpAny_pure ?_))
  have e : (match (List.range is.length).reverse.find? (fun i => is.getD i 0 != i + vs.toArray.size - is.length) with
    | none => none
    | some i => some (is.take i ++ (List.range (is.length - i)).map (is.getD i 0 + 1 + ·))) = some js := by
    rw [show vs.toArray.size = vs.length by simp, findC, hs]
  show wpAny _ _ (match (match (List.range is.length).reverse.find? (fun i => is.getD i 0 != i + vs.toArray.size - is.length) with
    | none => none
    | some i => some (is.take i ++ (List.range (is.length - i)).map (is.getD i 0 + 1 + ·))) with
    | some next => _
    | none => _) _ _ s
  rw [e]
  show wpAny _ _ (itSetNumbersFrom (.ref it) 3 js >>= _) _ _ s
  refine wpAny_bind (setIs hit hl fun h1 hit1 sb => ?_)
  have hT1 : IsPool h1 T vs := sb.extBut _ _ (Ne.symm hne) hT
  have sz : h1.objs.size = s.heap.objs.size := sb.1
  refine handOut (s := { s with heap := h1 }) (is := js) hit1 hT1 hl fun h' a b c => ?_
  rw [show (Shared.heap { s with heap := h1 }).objs.size = s.heap.objs.size from sz] at a b ⊢
  exact h h' a b fun x o hx e => c x o hx (sb.extBut _ _ hx e)
theorem stops {Q : Fin → Shared → Prop} {it : Addr} {h0 : Heap} (hh : A.handled = none) (k : ∀ b o, b ≠ it → h0.get? b = some o → s.heap.get? b = some o)
    (hE : ∀ h' e, (∀ b o, b ≠ it → h0.get? b = some o → h'.get? b = some o) → (∃ o, h'.get? e = some o ∧ o.cls = .type "StopIteration") → E (.ref e) { s with heap := h' }) : wpAny (model prog w) A (itStop : Sem Fin) Q E s := by
  unfold itStop
  show wpAny _ _ (newExc (.type "StopIteration") [] >>= _) _ _ _
  refine wpAny_bind ?_
  simp only [newExc, newTuple]
  refine wpAny_bind (wpAny_newObj_type ?_ (by size_fits))
  refine wpAny_bind (m := firstArgMember _ _) (wpAny_of_eq (a := Value.none) (by first | rfl | (simp only [firstArgMember]; rfl)) ?_)
  refine wpAny_newObj_type ?_ (by size_fits)
  simp only [raiseNew]
  refine wpAny_bind (wpAny_handled ?_)
  first | rw [show A.in1.handled = none from hh] | rw [hh]
  refine wpAny_bind (wpAny_pure (wpAny_throw ?_))
  exact hE _ _ (fun b o hb e => Heap.get?_push_of_some _ (Heap.get?_push_of_some _ (k b o hb e))) ⟨_, Heap.get?_push_size _ rfl, rfl⟩
theorem cmb_last {it T : Addr} {last : Value} {is : List Nat} {vs : List Value} {Q : Fin → Shared → Prop} (hh : A.handled = none) (hit : IsCmb s.heap it T 1 last is) (hT : IsPool s.heap T vs) (hs : succC vs.length is = none)
    (hE : ∀ h' e, (∀ b o, b ≠ it → s.heap.get? b = some o → h'.get? b = some o) → (∃ o, h'.get? e = some o ∧ o.cls = .type "StopIteration") → E (.ref e) { s with heap := h' }) :
    wpAny (model prog w) A (Builtin.«itertools.combinations.__next__» ⟨[.ref it], []⟩) Q E s := by
  show wpAny _ _ (field (.ref it) 0 >>= _) _ _ s
  refine wpAny_bind (wpAny_field hit rfl (x := .ref T) (get3 ..).1 ?_)
  refine wpAny_bind (numbers hit ?_)
  refine wpAny_bind (intAt hit ?_)
  show wpAny _ _ (itPoolItems (.ref T) >>= _) _ _ s
  refine wpAny_bind ?_
  unfold itPoolItems
  refine wpAny_bind (wpAny_seqItems hT rfl (wpAny_pure ?_))
  have e : (match (List.range is.length).reverse.find? (fun i => is.getD i 0 != i + vs.toArray.size - is.length) with
    | none => none
    | some i => some (is.take i ++ (List.range (is.length - i)).map (is.getD i 0 + 1 + ·))) = none := by
    rw [show vs.toArray.size = vs.length by simp, findC, hs]
  show wpAny _ _ (match (match (List.range is.length).reverse.find? (fun i => is.getD i 0 != i + vs.toArray.size - is.length) with
    | none => none
    | some i => some (is.take i ++ (List.range (is.length - i)).map (is.getD i 0 + 1 + ·))) with
    | some next => _
    | none => _) _ _ s
  rw [e]
  show wpAny _ _ (setField (.ref it) 1 (rawInt 2) >>= _) _ _ s
  refine wpAny_bind (setSt hit fun h1 hit1 sb => ?_)
  exact stops (s := { s with heap := h1 }) (h0 := s.heap) (it := it) hh (fun b o hb e => sb.extBut _ _ hb e) hE
theorem cmb_over {it T : Addr} {last : Value} {is : List Nat} {Q : Fin → Shared → Prop} (hh : A.handled = none) (hit : IsCmb s.heap it T 2 last is)
    (hE : ∀ h' e, (∀ b o, b ≠ it → s.heap.get? b = some o → h'.get? b = some o) → (∃ o, h'.get? e = some o ∧ o.cls = .type "StopIteration") → E (.ref e) { s with heap := h' }) :
    wpAny (model prog w) A (Builtin.«itertools.combinations.__next__» ⟨[.ref it], []⟩) Q E s := by
  show wpAny _ _ (field (.ref it) 0 >>= _) _ _ s
  refine wpAny_bind (wpAny_field hit rfl (x := .ref T) (get3 ..).1 ?_)
  refine wpAny_bind (numbers hit ?_)
  refine wpAny_bind (intAt hit ?_)
  show wpAny _ _ (rule "itertools.combinations.ended" >>= _) _ _ s
  refine wpAny_bind (wpAny_rule ?_)
  exact stops (h0 := s.heap) (it := it) hh (fun b o hb e => e) hE
theorem next_item {it T : Addr} {st : Int} {last : Value} {is js : List Nat} {vs : List Value} {Q : Option Value → Shared → Prop} (hit : IsCmb s.heap it T st last is) (hT : IsPool s.heap T vs) (hne : it ≠ T) (hl : js.length ≤ 1000) (hs : (st = 0 ∧ js = is) ∨ (st = 1 ∧ succC vs.length is = some js))
    (h : ∀ h', IsCmb h' it T 1 (.ref s.heap.objs.size) js → h'.get? s.heap.objs.size = some { cls := .type "tuple", data := .seq (js.map fun i => vs.getD i .none).toArray } → (∀ b o, b ≠ it → s.heap.get? b = some o → h'.get? b = some o) → Q (some (.ref s.heap.objs.size)) { s with heap := h' }) :
    wpAny (model prog w) A (pyNext (.ref it)) Q E s := by
  have hTy : s.TypeIs (.ref it) "itertools.combinations" := ⟨_, hit, rfl⟩
  unfold pyNext
  refine wpAny_bind (wpAny_attempt (wpAny_callSpecial?_slot (name := Str.ofString "__next__") hTy slot_cmb_next (wpAny_call_entry slot_cmb_next hTy entry_cmb_next ?_ (args_cmb_next _))))
  rcases hs with ⟨rfl, rfl⟩ | ⟨rfl, hs⟩
  · exact cmb_first hit hT hne hl fun h' a b c => ⟨_, rfl, wpAny_pure (h h' a b c)⟩
  · exact cmb_more hit hT hne hl hs fun h' a b c => ⟨_, rfl, wpAny_pure (h h' a b c)⟩
theorem next_end {it T : Addr} {st : Int} {last : Value} {is : List Nat} {vs : List Value} {Q : Option Value → Shared → Prop} (hh : A.handled = none) (hit : IsCmb s.heap it T st last is) (hT : IsPool s.heap T vs) (hs : st = 2 ∨ (st = 1 ∧ succC vs.length is = none))
    (hQ : ∀ h', (∀ b o, b ≠ it → s.heap.get? b = some o → h'.get? b = some o) → Q none { s with heap := h' }) : wpAny (model prog w) A (pyNext (.ref it)) Q E s := by
  have hTy : s.TypeIs (.ref it) "itertools.combinations" := ⟨_, hit, rfl⟩
  have fin : ∀ h' e, (∀ b o, b ≠ it → s.heap.get? b = some o → h'.get? b = some o) → (∃ o, h'.get? e = some o ∧ o.cls = .type "StopIteration") → (fun (e : Value) (s1 : Shared) => wpAny (model prog w) A (do
      if ← isInstance e (.type "StopIteration") then return none
      throw e) Q E s1) (.ref e) { s with heap := h' } := fun h' e k he => by
    obtain ⟨o, ho, hc⟩ := he
    refine wpAny_bind (wpAny_isInstance (T := "StopIteration") (b := true) ⟨o, ho, hc⟩ isSubtype_stop ?_)
    exact wpAny_pure (hQ _ k)
  unfold pyNext
  refine wpAny_bind (wpAny_attempt (wpAny_callSpecial?_slot (name := Str.ofString "__next__") hTy slot_cmb_next (wpAny_call_entry slot_cmb_next hTy entry_cmb_next ?_ (args_cmb_next _))))
  rcases hs with rfl | ⟨rfl, hs⟩
  · exact cmb_over hh hit fun h' e k he => fin h' e k he
  · exact cmb_last hh hit hT hs fun h' e k he => fin h' e k he
end
end Cmb
set_option Elab.async false
set_option linter.all false
set_option maxRecDepth 100000
set_option maxHeartbeats 1000000
namespace Dn
open PySem L2 Cmb PyProof.Rows
open PySem.Sem (wp)
theorem rowsC_len : ∀ (m a k : Nat) (is : List Nat), is ∈ rowsC a m k → is.length = k
  | _, _, 0, is, h => by
    unfold rowsC at h
    simp at h
    subst h
    rfl
  | 0, _, k + 1, is, h => by simp [rowsC] at h
  | m + 1, a, k + 1, is, h => by
    rw [rowsC, List.mem_append, List.mem_map] at h
    rcases h with ⟨r, hr, rfl⟩ | h
    · rw [List.length_cons, rowsC_len m (a + 1) k r hr]
    · exact rowsC_len m (a + 1) (k + 1) is h
theorem rowsC_none : ∀ (m a k : Nat), m < k → rowsC a m k = []
  | _, _, 0, h => by omega
  | 0, _, k + 1, _ => rfl
  | m + 1, a, k + 1, h => by rw [rowsC, rowsC_none m (a + 1) k (by omega), rowsC_none m (a + 1) (k + 1) (by omega)]; rfl
theorem rowsC_head : ∀ (m a k : Nat), k ≤ m → (rowsC a m k)[0]? = some ((List.range k).map (a + ·))
  | _, a, 0, _ => by simp [rowsC]
  | 0, _, k + 1, h => by omega
  | m + 1, a, k + 1, h => by
    have ih := rowsC_head m (a + 1) k (by omega)
    rw [rowsC]
    cases e : rowsC (a + 1) m k with
    | nil => rw [e] at ih; simp at ih
    | cons r rest =>
      rw [e] at ih
      simp only [List.getElem?_cons_zero, Option.some.injEq] at ih
      subst ih
      simp only [List.map_cons, List.cons_append, List.getElem?_cons_zero, Option.some.injEq]
      rw [List.range_succ_eq_map, List.map_cons, List.map_map]
      congr 1
      refine List.map_congr_left fun i _ => ?_
      simp only [Function.comp_apply]
      omega
theorem rowsC_next : ∀ (m a k i : Nat) (is : List Nat), (rowsC a m k)[i]? = some is → succC (a + m) is = (rowsC a m k)[i + 1]?
  | _, a, 0, i, is, h => by
    unfold rowsC at h
    cases i with
    | zero =>
      simp at h
      subst h
      simp [rowsC, succC]
    | succ i => simp at h
  | 0, _, k + 1, i, is, h => by simp [rowsC] at h
  | m + 1, a, k + 1, i, is, h => by
    rw [rowsC] at h ⊢
    by_cases hi : i < (rowsC (a + 1) m k).length
    · rw [List.getElem?_append_left (by simpa using hi), List.getElem?_map] at h
      obtain ⟨r, hr, rfl⟩ : ∃ r, (rowsC (a + 1) m k)[i]? = some r ∧ is = a :: r := by
        cases e : (rowsC (a + 1) m k)[i]? with
        | none => rw [e] at h; simp at h
        | some r => rw [e] at h; simp at h; exact ⟨r, rfl, h.symm⟩
      have ih := rowsC_next m (a + 1) k i r hr
      have hl := rowsC_len m (a + 1) k r (List.mem_of_getElem? hr)
      have hkm : k ≤ m := Nat.le_of_not_lt fun hlt => by rw [rowsC_none m (a + 1) k hlt] at hr; simp at hr
      rw [succC, show a + (m + 1) = a + 1 + m by omega, ih, hl]
      by_cases hi2 : i + 1 < (rowsC (a + 1) m k).length
      · rw [List.getElem?_append_left (by simpa using hi2), List.getElem?_map]
        cases e : (rowsC (a + 1) m k)[i + 1]? with
        | none => rw [List.getElem?_eq_none_iff] at e; omega
        | some r' => rfl
      · have e0 : (rowsC (a + 1) m k)[i + 1]? = none := List.getElem?_eq_none (by omega)
        rw [e0, List.getElem?_append_right (by simp; omega), List.length_map, show i + 1 - (rowsC (a + 1) m k).length = 0 by omega]
        by_cases hk : k + 1 ≤ m
        · rw [rowsC_head m (a + 1) (k + 1) hk]
          have : (a != a + 1 + m - (k + 1)) = true := by simp; omega
          simp only [this, if_true]
        · rw [rowsC_none m (a + 1) (k + 1) (by omega)]
          have : (a != a + 1 + m - (k + 1)) = false := by simp; omega
          simp only [this, Bool.false_eq_true, if_false]
          rfl
    · rw [List.getElem?_append_right (by simp; omega), List.length_map] at h
      have ih := rowsC_next m (a + 1) (k + 1) _ is h
      rw [List.getElem?_append_right (by simp; omega), List.length_map, show a + (m + 1) = a + 1 + m by omega, ih]
      congr 1
      omega
theorem Vals.getD {xs : List V} {us : List Value} (r : Vals xs us) (i : Nat) : RelV (xs.getD i .non) (us.getD i .none) := by
  cases e : xs[i]? with
  | none =>
    have e2 : us[i]? = none := by rw [List.getElem?_eq_none_iff] at e ⊢; have := r.length; omega
    rw [List.getD, List.getD, e, e2]
    exact rfl
  | some x =>
    obtain ⟨u, hu, ru⟩ := r.get e
    rw [List.getD, List.getD, e, hu]
    exact ru
theorem Vals.row {xs : List V} {us : List Value} (r : Vals xs us) : ∀ is : List Nat, Vals (is.map fun i => xs.getD i .non) (is.map fun i => us.getD i .none)
  | [] => .nil
  | i :: is => .cons (Vals.getD r i) (Vals.row r is)
theorem Rs.getD {K : Fr} {H : Hp} {xs : List V} {ds : List D} (r : Rs K H xs ds) (i : Nat) : R K H (xs.getD i .non) (ds.getD i .non) := by
  cases e : ds[i]? with
  | none =>
    have e2 : xs[i]? = none := by rw [List.getElem?_eq_none_iff] at e ⊢; have := r.length; omega
    rw [List.getD, List.getD, e, e2]
    exact .non
  | some d =>
    obtain ⟨v, hv, rv⟩ := r.get e
    rw [List.getD, List.getD, e, hv]
    exact rv
theorem Rs.row {K : Fr} {H : Hp} {xs : List V} {ds : List D} (r : Rs K H xs ds) : ∀ is : List Nat, Rs K H (is.map fun i => xs.getD i .non) (is.map fun i => ds.getD i .non)
  | [] => .nil
  | i :: is => .cons (Rs.getD r i) (Rs.row r is)
/-- the rows of r of the items of xs, each in a new tuple -/
def Itcb (xs : List V) (r : Nat) : It :=
  ⟨fun i _ => i < (rowsC 0 xs.length r).length, fun i H v H' => ∃ (T : Addr) (is : List Nat), (rowsC 0 xs.length r)[i]? = some is ∧ v = .ref T ∧ H T = none ∧ H' = upd H T (.tup (is.map fun j => xs.getD j .non)), fun i _ => (rowsC 0 xs.length r).length ≤ i⟩
theorem turn_cmb {P : Program} {w : World} {K : PySem.W.Frag} {tg : Expr} (xs : List V) (vs : List Value) (rv : Vals xs vs) (r : Nat) (it Tp : Addr) (hne : it ≠ Tp) (hr : r ≤ 1000) :
    Turn P w K tg (Itcb xs r) [it, Tp] it (fun i h => IsPool h Tp vs ∧ ∃ st last is, IsCmb h it Tp st last is ∧ ((i = 0 ∧ vs.length < r ∧ st = 2) ∨ (i = 0 ∧ r ≤ vs.length ∧ st = 0 ∧ is = List.range r) ∨ (0 < i ∧ st = 1 ∧ (rowsC 0 xs.length r)[i - 1]? = some is))) where
  mem := by simp
  obj := fun i h st b hb => by
    obtain ⟨hp, s0, last, is, hc, _⟩ := st
    have e' : b = it ∨ b = Tp := by simpa using hb
    rcases e' with z | z
    · rw [z]; exact ⟨_, hc, fun v q => nomatch q⟩
    · rw [z]; exact ⟨_, hp, fun v q => nomatch q⟩
  keep := fun i h h' st k => let ⟨hp, s0, last, is, hc, x⟩ := st; ⟨k Tp (by simp) _ hp, s0, last, is, k it (by simp) _ hc, x⟩
  item := by
    intro X hP hw hK hc i pins s σ H E I hf st hg
    subst hP hw hK
    obtain ⟨hp, s0, last, is, hcm, hx⟩ := st
    have hlen := rv.length
    have hg' : i < (rowsC 0 xs.length r).length := hg
    have hil : it < s.heap.objs.size := Heap.lt_size hcm
    have hpl : Tp < s.heap.objs.size := Heap.lt_size hp
    obtain ⟨js, hjs⟩ : ∃ js, (rowsC 0 xs.length r)[i]? = some js := ⟨_, List.getElem?_eq_getElem hg'⟩
    have hjl : js.length ≤ 1000 := by rw [rowsC_len _ _ _ _ (List.mem_of_getElem? hjs)]; exact hr
    have hs : (s0 = 0 ∧ js = is) ∨ (s0 = 1 ∧ succC vs.length is = some js) := by
      rcases hx with ⟨rfl, h1, h2⟩ | ⟨rfl, h1, h2, h3⟩ | ⟨h0, h1, h2⟩
      · rw [rowsC_none _ _ _ (by omega)] at hg'; simp at hg'
      · refine .inl ⟨h2, ?_⟩
        rw [rowsC_head _ _ _ (by omega)] at hjs
        rw [h3]
        simpa using hjs.symm
      · refine .inr ⟨h1, ?_⟩
        have q := rowsC_next _ _ _ _ _ h2
        rw [Nat.zero_add, show i - 1 + 1 = i by omega, hjs, hlen] at q
        exact q
    refine next_item hcm hp hne hjl hs fun h' hcm' hT k => ?_
    refine ⟨_, rfl, go_of (s := { s with heap := h' }) (n := "itertools.combinations") hcm' rfl rfl (by decide) ?_⟩
    have new : ObjOk X.prog X.w (upd H s.heap.objs.size (.tup (js.map fun j => xs.getD j .non))) h' s.heap.objs.size (.tup (js.map fun j => xs.getD j .non)) :=
      ⟨by rw [List.length_map, sizeLine_eq]; omega, _, Vals.row rv js, ⟨_, hT, rfl, _, rfl⟩⟩
    have I1 : Inv X pins σ (upd H s.heap.objs.size (.tup (js.map fun j => xs.getD j .non))) { s with heap := h' } :=
      I.turnedNew (t' := s.toks) (ch := [it, Tp]) (fun b o hb e => k b o (fun z => hb (by simp [z])) e) hf (Nat.le_refl _) new
    refine ⟨.ref s.heap.objs.size, _, I1, rfl, ⟨s.heap.objs.size, js, hjs, rfl, I.hok.fresh (Nat.le_refl _), rfl⟩, ⟨k _ _ (Ne.symm hne) hp, 1, _, js, hcm', .inr (.inr ⟨Nat.succ_pos _, rfl, by rw [Nat.add_sub_cancel]; exact hjs⟩)⟩, fun b hb => ?_⟩
    have hb' : b < s.heap.objs.size := by
      have e' : b = it ∨ b = Tp := by simpa using hb
      rcases e' with z | z
      · rw [z]; exact hil
      · rw [z]; exact hpl
    rw [upd_ne (Nat.ne_of_lt hb')]
    exact (hf b hb).1
  done := by
    intro X hP hw hK hc i pins s σ H E I hf st hg
    subst hP hw hK
    obtain ⟨hp, s0, last, is, hcm, hx⟩ := st
    have hlen := rv.length
    have hg' : (rowsC 0 xs.length r).length ≤ i := hg
    obtain ⟨f0, f1, f2, f3, f4, f5⟩ := hf it (by simp)
    refine next_end (I.ok.hd hc) hcm hp ?_ fun h' k => ⟨rfl, I.turned (t' := s.toks) (fun b o hb q => k b o hb q) f0 f1 f3 f4 f5⟩
    rcases hx with ⟨rfl, h1, h2⟩ | ⟨rfl, h1, h2, h3⟩ | ⟨h0, h1, h2⟩
    · exact .inl h2
    · have q := rowsC_head xs.length 0 r (by omega)
      rw [List.getElem?_eq_none hg'] at q
      cases q
    · refine .inr ⟨h1, ?_⟩
      have q := rowsC_next _ _ _ _ _ h2
      rw [Nat.zero_add, show i - 1 + 1 = i by omega, List.getElem?_eq_none hg', hlen] at q
      exact q
  self := fun A i s Q E st h => let ⟨_, _, _, _, hc, _⟩ := st; iter_cmb hc h
def iCmb (K : PySem.W.Frag) (ta : TA) : TI := fun σ H R => ta σ H fun vs H1 => ∃ (a : Addr) (xs : List V) (r : Int), vs = [.ref a, .int r] ∧ SqL K H1 a xs ∧ 0 ≤ r ∧ r < 1000 ∧ xs.length ≤ 1000 ∧ R (Itcb xs r.toNat) H1
theorem pi_cmb {X : Cx} {tg e e2 : Expr} {ta : TA} {p pos : Pos} {x : Str} (hg : Gl X x) (hm : X.mg x = some (.type "itertools.combinations")) (ha : PA X [e, e2] ta)
    (hs : starEach [e, e2] X.env = (false, eval e X.env) :: starEach [e2] X.env := by rfl) (hpl : (backTo pos (starEach [e2] X.env)).any (·.1) = false := by rfl) (hdb : (x == ("__debug__" : Str)) = false := by decide) :
    PI X tg (.Call (.Name x p) [e, e2] [] pos) (iCmb X.K ta) := by
  refine ⟨fun pins s σ H R I h => ?_⟩
  refine Call_ (ld_glob I hg hm (PyProof.Rows.callWith_type1 (thn (ha.run pos pins s σ H _ I h) fun us s1 ⟨vs, H1, I1, r1, q1⟩ => ?_) hs hpl) hdb)
  obtain ⟨a, xs, r, ex, hq, h0, h1, hl, q⟩ := q1
  subst ex
  cases r1 with
  | cons ra rr =>
    cases rr with
    | cons rb rr =>
      cases rr
      cases ra
      obtain ⟨t, rfl⟩ := rb
      obtain ⟨its, rv, p', hz⟩ := I1.list hq
      have hlen := rv.length
      refine call_cmb p'.isList (by omega) h0 h1 fun h' T it hT hit hne hp hc hk => iter_cmb hc ?_
      have I2 : Inv X pins σ H1 { s1 with heap := h' } := I1.kept (t' := s1.toks) hk
      refine ⟨it, [it, T], _, _, H1, rfl, I2, turn_cmb xs its rv r.toNat it T (Ne.symm hne) (by omega), ⟨hp, _, _, _, hc, ?_⟩, fun b hb => ?_, q⟩
      · by_cases hgt : r.toNat > its.length
        · exact .inl ⟨rfl, hgt, by rw [if_pos hgt]⟩
        · exact .inr (.inl ⟨rfl, by omega, by rw [if_neg hgt], rfl⟩)
      · have e' : b = it ∨ b = T := by simpa using hb
        have hle : s1.heap.objs.size ≤ b := by
          rcases e' with z | z
          · rw [z]; exact hit
          · rw [z]; exact hT
        exact I1.fpOk hle (I1.hok.fresh hle)
section
variable {X : Cx} {c : Cxt} {a b : Expr} {ma mb : E}
theorem ev_srcCmb {K : Fr} {ta tb : TE} (ha : Ev K c ta (pV K c) ma) (hb : Ev K c tb (pV K c) mb) : Ev K c (iCmb K (tCons ta (tCons tb tNil))) (pI K) (srcCmb ma mb) :=
  ev_two (u := fun (x y : V) H (Q : It → Hp → Prop) => ∃ (a : Addr) (xs : List V) (r : Int), [x, y] = [.ref a, .int r] ∧ SqL K H a xs ∧ 0 ≤ r ∧ r < 1000 ∧ xs.length ≤ 1000 ∧ Q (Itcb xs r.toNat) H) ha hb fun d e v w ρ σ S H Q st r1 r2 g => by
    cases r1 with
    | @lst a xs ds h1 h2 =>
      cases r2 with
      | int r =>
        simp only at g
        split at g
        · rename_i hb
          simp only [Bool.and_eq_true, decide_eq_true_eq] at hb
          have hlen := h2.length
          refine ⟨a, xs, r, rfl, SqL.of (st.sub _ _ h1), hb.1.1, hb.1.2, by omega, g _ S H st (Ex.refl _) ⟨_, _, (⟨fun i _ hi _ => ?_, fun _ _ => ?_, fun _ _ _ _ _ _ y => y⟩ : Walk (Itcb xs r.toNat) (cmbD ds r.toNat).length (fun _ => True) (Itcb xs r.toNat).yld), fun _ _ => trivial, fun i H' x H'' hi e y => ?_⟩⟩
          · show i < (rowsC 0 xs.length r.toNat).length
            rw [cmbD, List.length_map, ← hlen] at hi
            exact hi
          · show (rowsC 0 xs.length r.toNat).length ≤ _
            rw [cmbD, List.length_map, ← hlen]
            exact Nat.le_refl _
          · obtain ⟨T, is, y1, rfl, y2, rfl⟩ := y
            refine ⟨.tup (is.map fun i => ds.getD i .non), ?_, .inr ⟨T, _, _, rfl, y2, rfl, rfl, Rs.row h2 is⟩⟩
            rw [cmbD, List.getElem?_map, ← hlen, y1]
            rfl
        · exact g.elim
      | _ => exact g.elim
    | _ => exact g.elim
theorem i_cmb {tg : Expr} {x : Str} (hg : Gl X x) (hm : X.mg x = some (.type "itertools.combinations")) (ha : DE X c a ma) (hb : DE X c b mb) (hs : starEach [a, b] X.env = (false, eval a X.env) :: starEach [b] X.env := by rfl) (hs2 : starEach [b] X.env = (false, eval b X.env) :: starEach [] X.env := by rfl) (hpl : (backTo pos (starEach [b] X.env)).any (·.1) = false := by rfl) (hdb : (x == ("__debug__" : Str)) = false := by decide) :
    DI X c tg (.Call (.Name x p) [a, b] [] pos) (srcCmb ma mb) := pid (pi_cmb hg hm (pa_cons ha (pa_cons hb pa_nil hs2) hs) hs hpl hdb) (ev_srcCmb ev_te ev_te)
end
end Dn
set_option Elab.async false
set_option linter.all false
set_option maxRecDepth 100000
set_option maxHeartbeats 4000000
/-! Raising and catching. -/
namespace Dn
open PySem L2
/-! ### an own exception class -/
/-- __init__ of a class that stores its parameters -/
def spInit (C : Addr) (fs : List Str) : Sp := fun vs H Q _ => ∃ (a : Addr) (ws : List V), vs = .ref a :: ws ∧ ws.length = fs.length ∧ H a = some (exo a C none) ∧ ∀ (dx : Addr) (H' : Hp), H dx = none → dx ≠ a → H' a = some (exo a C (some dx)) →
  H' dx = some (exd dx (fs.zip ws).reverse) → (∀ b, b ≠ a → b ≠ dx → H' b = H b) → Q .non H'
/-- what is known of an exception class -/
structure ErrK (P : Program) (w : World) (K : PySem.W.Frag) (mg : Str → Option Value) (base : Heap) (cls : Str) (fs : List Str) : Prop where
  ex : ∃ (C fI : Addr) (fd : FuncData) (ps : List Str), mg cls = some (.ref C) ∧ OexC K C ∧ XfC K C ∧ (∀ f ∈ fs, PySem.W.findIn K (.ref C) f = some none) ∧ PySem.W.findIn K (.ref C) "__init__" = some (some (.ref fI)) ∧
    PySem.W.typeIn K (.ref fI) = some (.type "function") ∧ FnOk P w K mg base CX0 1 fI fd ps (spInit C fs) ∧ Binds K fd ps [] ∧ fs.length ≤ 900
section
variable {P : Program} {w : World} {K : PySem.W.Frag} {mg : Str → Option Value} {base : Heap} {C : Addr} {x qual : Str} {st : Stmt} {f : Addr} {fd : FuncData} {ps : List Str}
theorem init1 {f1 : Str} (F : Fun K x qual st f fd) (S : FnScope ps ps (defScope st)) (hl : ps.length = 2) (T : OexC K C) (n1 : PySem.W.findIn K (.ref C) f1 = some none)
    (hb : ∀ (cdv : Value) (A : Around) (outer : List PySem.Env) (s : Shared) (H : Hp) (E : XK), PSs (cxOf CX0 P w K mg base ps qual (defScope st) f cdv A outer s H E).nox (defBody st) (tOst K f1 (tVar 0) (tVar 1))) : FnOk P w K mg base CX0 1 f fd ps (spInit C [f1]) := by
  refine F.ok S (fun vs H Q E h => ?_) fun cdv A outer s H vs Q E hr h => ?_
  · obtain ⟨a, ws, rfl, h1, _⟩ := h
    rw [hl, List.length_cons, h1]
    rfl
  · obtain ⟨a, ws, rfl, h1, h2, h3⟩ := h
    refine ⟨_, hb cdv A outer s H E, ?_⟩
    match ws, h1 with
    | [u], _ =>
      have e : L2.start ps [V.ref a, u] = [some (.ref a), some u] := by
        unfold L2.start
        rw [hl]
        rfl
      rw [e]
      exact ⟨u, rfl, .ref a, rfl, a, C, rfl, T, n1, .inl ⟨h2, fun dx n ne => h3 dx _ n ne upd_same (by rw [upd_ne ne, upd_same]; rfl) fun b b1 b2 => by rw [upd_ne b1, upd_ne b2]⟩⟩
theorem init2 {f1 f2 : Str} (F : Fun K x qual st f fd) (S : FnScope ps ps (defScope st)) (hl : ps.length = 3) (T : OexC K C) (n1 : PySem.W.findIn K (.ref C) f1 = some none) (n2 : PySem.W.findIn K (.ref C) f2 = some none)
    (hb : ∀ (cdv : Value) (A : Around) (outer : List PySem.Env) (s : Shared) (H : Hp) (E : XK), PSs (cxOf CX0 P w K mg base ps qual (defScope st) f cdv A outer s H E).nox (defBody st) (tSeq (tOst K f1 (tVar 0) (tVar 1)) (tOst K f2 (tVar 0) (tVar 2)))) : FnOk P w K mg base CX0 1 f fd ps (spInit C [f1, f2]) := by
  refine F.ok S (fun vs H Q E h => ?_) fun cdv A outer s H vs Q E hr h => ?_
  · obtain ⟨a, ws, rfl, h1, _⟩ := h
    rw [hl, List.length_cons, h1]
    rfl
  · obtain ⟨a, ws, rfl, h1, h2, h3⟩ := h
    refine ⟨_, hb cdv A outer s H E, ?_⟩
    match ws, h1 with
    | [u, v], _ =>
      have e : L2.start ps [V.ref a, u, v] = [some (.ref a), some u, some v] := by
        unfold L2.start
        rw [hl]
        rfl
      rw [e]
      refine ⟨u, rfl, .ref a, rfl, a, C, rfl, T, n1, .inl ⟨h2, fun dx n ne => ?_⟩⟩
      refine ⟨v, rfl, .ref a, rfl, a, C, rfl, T, n2, .inr ⟨dx, [(f1, u)], upd_same, by rw [upd_ne ne, upd_same], (by simp only [List.length_cons, List.length_nil]; omega), ?_⟩⟩
      exact h3 dx _ n ne (by rw [upd_ne (Ne.symm ne), upd_same]) (by rw [upd_same]; rfl) fun b b1 b2 => by rw [upd_ne b2, upd_ne b1, upd_ne b2]
theorem init3 {f1 f2 f3 : Str} (F : Fun K x qual st f fd) (S : FnScope ps ps (defScope st)) (hl : ps.length = 4) (T : OexC K C) (n1 : PySem.W.findIn K (.ref C) f1 = some none) (n2 : PySem.W.findIn K (.ref C) f2 = some none) (n3 : PySem.W.findIn K (.ref C) f3 = some none)
    (hb : ∀ (cdv : Value) (A : Around) (outer : List PySem.Env) (s : Shared) (H : Hp) (E : XK), PSs (cxOf CX0 P w K mg base ps qual (defScope st) f cdv A outer s H E).nox (defBody st) (tSeq (tOst K f1 (tVar 0) (tVar 1)) (tSeq (tOst K f2 (tVar 0) (tVar 2)) (tOst K f3 (tVar 0) (tVar 3))))) : FnOk P w K mg base CX0 1 f fd ps (spInit C [f1, f2, f3]) := by
  refine F.ok S (fun vs H Q E h => ?_) fun cdv A outer s H vs Q E hr h => ?_
  · obtain ⟨a, ws, rfl, h1, _⟩ := h
    rw [hl, List.length_cons, h1]
    rfl
  · obtain ⟨a, ws, rfl, h1, h2, h3⟩ := h
    refine ⟨_, hb cdv A outer s H E, ?_⟩
    match ws, h1 with
    | [u, v, t], _ =>
      have e : L2.start ps [V.ref a, u, v, t] = [some (.ref a), some u, some v, some t] := by
        unfold L2.start
        rw [hl]
        rfl
      rw [e]
      refine ⟨u, rfl, .ref a, rfl, a, C, rfl, T, n1, .inl ⟨h2, fun dx n ne => ?_⟩⟩
      refine ⟨v, rfl, .ref a, rfl, a, C, rfl, T, n2, .inr ⟨dx, [(f1, u)], upd_same, by rw [upd_ne ne, upd_same], (by simp only [List.length_cons, List.length_nil]; omega), ?_⟩⟩
      refine ⟨t, rfl, .ref a, rfl, a, C, rfl, T, n3, .inr ⟨dx, [(f2, v), (f1, u)], by rw [upd_ne (Ne.symm ne), upd_same], upd_same, (by simp only [List.length_cons, List.length_nil]; omega), ?_⟩⟩
      exact h3 dx _ n ne (by rw [upd_ne (Ne.symm ne), upd_ne (Ne.symm ne), upd_same]) (by rw [upd_same]; rfl) fun b b1 b2 => by rw [upd_ne b2, upd_ne b2, upd_ne b1, upd_ne b2]
end
/-! ### raise -/
theorem Rf.zip {K : Fr} {H : Hp} : ∀ {fs : List Str} {vs : List V} {ds : List D}, Rs K H vs ds → Rf K H (fs.zip vs) (fs.zip ds)
  | [], _, _, _ => by
    simp only [List.zip_nil_left]
    exact .nil
  | f :: fs, _, [], h => by
    cases h
    simp only [List.zip_nil_right]
    exact .nil
  | f :: fs, _, d :: ds, h => by
    cases h with
    | cons h1 h2 => exact .cons h1 (Rf.zip h2)
theorem Rf.append {K : Fr} {H : Hp} : ∀ {ds es : List (Str × D)} {vs us : List (Str × V)}, Rf K H vs ds → Rf K H us es → Rf K H (vs ++ us) (ds ++ es)
  | [], _, _, _, h, g => by
    cases h
    exact g
  | (_, _) :: ds, _, _, _, h, g => by
    cases h with
    | cons h1 h2 => exact .cons h1 (Rf.append h2 g)
theorem Rf.reverse {K : Fr} {H : Hp} : ∀ {ds : List (Str × D)} {vs : List (Str × V)}, Rf K H vs ds → Rf K H vs.reverse ds.reverse
  | [], _, h => by
    cases h
    exact .nil
  | (_, _) :: ds, _, h => by
    cases h with
    | cons h1 h2 =>
      simp only [List.reverse_cons]
      exact (Rf.reverse h2).append (.cons h1 .nil)
section
variable {X : Cx} {c : Cxt} {e : Expr} {es : List Expr} {ms : List E} {pos pos2 p : Pos}
theorem s_raise {cls : Str} {fs : List Str} (T : ErrK X.prog X.w X.K X.mg X.base cls fs) (hr : Room 2 X.A) (hc : X.calm = true) (tk : Takes X c.E) (hg : Gl X cls) (ha : DA X c (e :: es) ms) (hdb : (cls == ("__debug__" : Str)) = false := by decide)
    (he : starEach (e :: es) X.env = (false, eval e X.env) :: starEach es X.env := by rfl) (hpl : (backTo pos (starEach es X.env)).any (·.1) = false := by rfl) :
    DS X c (.Raise (some (.Call (.Name cls p) (e :: es) [] pos)) none pos2) (sRaise cls fs ms) := by
  obtain ⟨C, fI, fd, ps, hm, O, _, hn, iC, tI, F1, hb, hl⟩ := T.ex
  refine psd (ps_raise hc tk (pmk_oex O iC tI F1 hr hb .nil (fun _ _ _ _ _ _ _ h => h.elim) hg hm ha hdb he hpl)) ?_
  intro ρ σ S H D st g
  refine ev_self (K := cxFr X) (c := c) (P := pL (cxFr X)) (m := args ms) ρ σ S H _ st ?_
  unfold sRaise runM at g
  cases z : args ms ρ with
  | bad =>
    rw [z] at g
    exact g.elim
  | err er ρ' =>
    rw [z] at g
    exact fun cls od S' H' st' ex er => g cls od σ S' H' st' ex er
  | ok xs ρ' =>
    rw [z] at g
    intro vs S1 H1 st1 ex1 rs
    have rs : Rs (cxFr X) S1.h vs xs := rs
    simp only at g
    split at g
    · rename_i hlen
      have hv : vs.length = fs.length := by rw [rs.length, hlen]
      refine ⟨by omega, fun a ha0 => ⟨a, vs ++ [], rfl, by rw [List.append_nil]; exact hv, upd_same, fun dx H' h1 h2 h3 h4 h5 => ?_⟩⟩
      rw [List.append_nil] at h4
      have hdx : H1 dx = none := by
        rw [upd_ne h2] at h1
        exact h1
      refine ⟨rfl, dx, _, h3, h4, hdx, ?_⟩
      have eH : upd (L2.del H' a) dx (.xd (fs.zip vs).reverse) = upd H1 dx (.xd (fs.zip vs).reverse) := by
        funext b
        by_cases hb1 : b = dx
        · subst hb1
          rw [upd_same, upd_same]
        · rw [upd_ne hb1, upd_ne hb1]
          by_cases hb2 : b = a
          · subst hb2
            rw [L2.del_same, ha0]
          · rw [L2.del_ne hb2, h5 b hb2 hb1, upd_ne hb2]
      rw [eH]
      obtain ⟨s2, e2⟩ := st1.new (o := .xd (fs.zip vs).reverse) hdx
      exact g (.ref C) (some dx) σ _ _ s2 (ex1.trans e2) ⟨C, dx, _, hm, rfl, rfl, upd_same, (Rf.zip (rs.mono e2)).reverse⟩
    · exact g.elim
/-! ### catching -/
/-- which classes an except clause takes -/
structure ExmK (K : Fr) (cv : Value) (yes no : List Str) : Prop where
  y : ∀ s ∈ yes, ∃ C, K.mg s = some (.ref C) ∧ PySem.W.exmOne K (.ref C) cv = some true
  n : ∀ s ∈ no, ∃ C, K.mg s = some (.ref C) ∧ PySem.W.exmOne K (.ref C) cv = some false
/-- a class named by an except clause -/
structure CatK (K : Fr) (x : Str) (yes no : List Str) : Prop where
  ex : ∃ cv, K.mg x = some cv ∧ ExmK K cv yes no
/-- in an except clause -/
abbrev cExc (c : Cxt) (a : Addr) (cls : Value) (d : Option Addr) : Cxt := ⟨c.vs, c.Hs0, c.H0, c.B, noErr, some (a, cls, d), c.hB⟩
abbrev cTry (c : Cxt) (E : WX) : Cxt := ⟨c.vs, c.Hs0, c.H0, c.B, E, c.exc, c.hB⟩
theorem StR.wish {K : Fr} {ρ : Env} {σ : L2.St} {S : Sh} {H : Hp} {E : WX} (st : StR K c ρ σ S H) : StR K (cTry c E) ρ σ S H := ⟨st.sub, st.old, st.keep, st.live, st.hs, st.len, st.val, st.own, st.bor, st.exc, st.owF⟩
theorem StR.unwish {K : Fr} {ρ : Env} {σ : L2.St} {S : Sh} {H : Hp} {E : WX} (st : StR K (cTry c E) ρ σ S H) : StR K c ρ σ S H := ⟨st.sub, st.old, st.keep, st.live, st.hs, st.len, st.val, st.own, st.bor, st.exc, st.owF⟩
theorem noEx_of {K : Fr} {ρ : Env} {σ : L2.St} {S : Sh} {H : Hp} (st : StR K c ρ σ S H) (hx : c.exc = none) {j : Nat} {e : Err} : ρ[j]? ≠ some (.exc e) := fun z => by
  obtain ⟨_, _, _, _, q, _⟩ := st.exc j e z
  rw [hx] at q
  cases q
theorem noEx_at {ρ : Env} (h : noEx ρ = true) {j : Nat} {e : Err} : ρ[j]? ≠ some (.exc e) := fun z => by
  unfold noEx at h
  rw [List.all_eq_true] at h
  have := h _ (List.mem_of_getElem? z)
  simp at this
/-- an except clause begins -/
theorem StR.catch {K : Fr} {ρ : Env} {σ : L2.St} {S : Sh} {H : Hp} {i : Nat} {e : Err} {a : Addr} {cls : Value} {d : Option Addr} (st : StR K c ρ σ S H) (hx : c.exc = none) (hf : isFree ρ[i]? = true) (er : ErrR K S.h e cls d) :
    StR K (cExc c a cls d) (ρ.set i (.exc e)) (σ.set i (some (.ref a))) (S.rid i) H := by
  have st1 : StR K (cExc c a cls d) ρ σ S H := ⟨st.sub, st.old, st.keep, st.live, st.hs, st.len, st.val, st.own, st.bor, fun j e' z => absurd z (noEx_of st hx), st.owF⟩
  refine st1.slot (S' := S.rid i) (Ex.refl _) st1.sub st1.hs (fun a j hj => StR.rid_ow hj) (fun a j _ q => (st.owF a j q).1) (fun j hj => List.getElem?_set_ne (Ne.symm hj)) (List.length_set ..) (fun _ q => nomatch q) (fun _ q => nomatch q) (fun _ q => nomatch q) (fun e' q hi => ?_) fun a q => absurd rfl (Sh.rid_some.mp q).2
  cases q
  exact ⟨a, cls, d, set_get (by rw [st.len]; exact hi), rfl, er⟩
/-- .. and ends -/
theorem StR.caught {K : Fr} {ρ : Env} {σ : L2.St} {S : Sh} {H : Hp} {i : Nat} {a : Addr} {cls : Value} {d : Option Addr} (st : StR K (cExc c a cls d) ρ σ S H) (hn : noEx (ρ.set i .un) = true) : StR K c (ρ.set i .un) (σ.set i none) (S.rid i) H := by
  have st1 : StR K (cExc c a cls d) (ρ.set i .un) (σ.set i none) (S.rid i) H := st.slot (S' := S.rid i) (Ex.refl _) st.sub st.hs (fun a j hj => StR.rid_ow hj) (fun a j _ q => (st.owF a j q).1) (fun j hj => List.getElem?_set_ne (Ne.symm hj)) (List.length_set ..) (fun _ q => nomatch q) (fun _ q => nomatch q) (fun _ q => nomatch q) (fun e' q => nomatch q) fun a q => absurd rfl (Sh.rid_some.mp q).2
  exact ⟨st1.sub, st1.old, st1.keep, st1.live, st1.hs, st1.len, st1.val, st1.own, st1.bor, fun j e z => absurd z (noEx_at hn), st1.owF⟩
theorem RvR.rid {K : Fr} {S : Sh} {H : Hp} {r : Rv} {v : V} {i : Nat} {c' : Cxt} (h0 : c'.H0 = c.H0) (p : RvR K c' r S H v) : RvR K c r (S.rid i) H v := by
  cases r with
  | d d => exact p
  | o k =>
    obtain ⟨l, P, rfl, p2, p3⟩ := p
    refine ⟨l, P, rfl, p2, fun a q => ?_⟩
    obtain ⟨a1, a2, a3, a4⟩ := p3 a q
    refine ⟨a1, a2, by rw [← h0]; exact a3, ?_⟩
    cases z : (S.rid i).ow a with
    | none => rfl
    | some j =>
      rw [(Sh.rid_some.mp z).1] at a4
      cases a4
theorem evs_try {K : Fr} {cv : Value} {yes no : List Str} {i : Nat} {b h : S} {tb : WX → TS} {ts : Addr → Value → Option Addr → TS} (M : ExmK K cv yes no) (hx : c.exc = none) (hb : ∀ W, EvS K (cTry c W) (tb W) b) (hs : ∀ a cls d, EvS K (cExc c a cls d) (ts a cls d) h) :
    EvS K c (fun D σ H => tb (wAs K cv i ts c.E D) D σ H) (sTry yes no i b h) := by
  intro ρ σ S H D st g
  refine hb _ ρ σ S H D st.wish ?_
  unfold sTry at g
  cases z : b ρ with
  | bad =>
    rw [z] at g
    exact g
  | nx ρ' =>
    rw [z] at g
    exact fun σ' S' H' s2 ex => g σ' S' H' s2.unwish ex
  | bk ρ' =>
    rw [z] at g
    exact fun σ' S' H' s2 ex => g σ' S' H' s2.unwish ex
  | ct ρ' =>
    rw [z] at g
    exact fun σ' S' H' s2 ex => g σ' S' H' s2.unwish ex
  | rt r ρ' =>
    rw [z] at g
    exact fun v σ' S' H' s2 ex p => g v σ' S' H' s2.unwish ex p
  | err e ρ' =>
    rw [z] at g
    simp only at g
    intro cls od σ' S' H' s2 ex er
    have s3 : StR K c ρ' σ' S' H' := s2.unwish
    obtain ⟨C, d, fs, e1, rfl, rfl, e4, e5⟩ := id er
    split at g
    · rename_i hy
      obtain ⟨C', y1, y2⟩ := M.y _ (List.contains_iff_mem.mp hy)
      rw [e1] at y1
      cases y1
      refine ⟨true, y2, fun _ a na => ?_, fun q => nomatch q⟩
      split at g
      · rename_i hf
        refine hs a (.ref C) (some d) _ _ _ _ _ (s3.catch hx hf er) ?_
        cases q : h (ρ'.set i (.exc e)) with
        | bad =>
          rw [q] at g
          exact g.elim
        | err _ _ =>
          rw [q] at g
          exact g.elim
        | nx ρ2 =>
          rw [q] at g
          simp only [endEx] at g
          split at g
          · rename_i hn
            exact fun σ2 S2 H2 s4 ex2 => g _ _ H2 (s4.caught hn) (ex.trans ex2)
          · exact g.elim
        | bk ρ2 =>
          rw [q] at g
          simp only [endEx] at g
          split at g
          · rename_i hn
            exact fun σ2 S2 H2 s4 ex2 => g _ _ H2 (s4.caught hn) (ex.trans ex2)
          · exact g.elim
        | ct ρ2 =>
          rw [q] at g
          simp only [endEx] at g
          split at g
          · rename_i hn
            exact fun σ2 S2 H2 s4 ex2 => g _ _ H2 (s4.caught hn) (ex.trans ex2)
          · exact g.elim
        | rt r ρ2 =>
          rw [q] at g
          simp only [endEx] at g
          split at g
          · rename_i hn
            exact fun v σ2 S2 H2 s4 ex2 p => g v _ _ H2 (s4.caught hn) (ex.trans ex2) (p.rid rfl)
          · exact g.elim
      · exact g.elim
    · split at g
      · rename_i hn
        obtain ⟨C', y1, y2⟩ := M.n _ (List.contains_iff_mem.mp hn)
        rw [e1] at y1
        cases y1
        exact ⟨false, y2, (fun q => nomatch q), fun _ => g (.ref C) (some d) σ' S' H' s3 ex er⟩
      · exact g.elim
/-- try: .. except X as n: .. -/
theorem s_try (i : Nat) {x n : Str} {yes no : List Str} {body suite : List Stmt} {b₀ : Stmt} {np pos' : Pos} {b h : S} (M : CatK (cxFr X) x yes no) (hs : X.stack = X.env :: X.outer) (hf : X.env.frame = some X.env.locals) (hN : X.N.Nodup) (hi : X.N[i]? = some n) (hln : X.env.kindOf n = some .local) (hg : Gl X x)
    (bd : Bd X c) (hx : c.exc = none)
    (hb : ∀ (c' : Cxt) (pn : List (Addr × Obj)) (xe : Value → Shared → Prop), c'.exc = none → Bd (X.tr pn xe) c' → DSs (X.tr pn xe) c' body b)
    (hsu : ∀ (a : Addr) (oe : Obj) (cls : Value) (d : Option Addr) (pn : List (Addr × Obj)), Zc cls d oe → (∃ vs, oe.data = .fields vs) → DSs (X.suite a ((a, oe) :: pn)) (cExc c a cls d) (b₀ :: suite) h)
    (hdb : (x == ("__debug__" : Str)) = false := by decide) :
    DS X c (.Try body [.ExceptHandler (some (.Name x np)) (some n) (b₀ :: suite) pos'] [] [] pos) (sTry yes no i b h) := by
  obtain ⟨cv, m1, m2⟩ := M.ex
  exact psd (ps_try_as (c := cv) (i := i) (tb := fun W => tsOf (cxFr X) (cTry c W) b) (ts := fun a cls d => tsOf (cxFr X) (cExc c a cls d) h) hs hf hN hi hln ⟨hg, hdb, .inl m1⟩ bd.tk (fun W pn xe tk po => hb (cTry c W) pn xe hx ⟨tk, po⟩) hsu) (evs_try (cv := cv) m2 hx (fun W => evs_self) fun a cls d => evs_self)
/-- n.f in an except clause -/
theorem d_exf (i : Nat) {cls f x : Str} {fs : List Str} {a : Addr} {oe : Obj} {vc : Value} {d : Option Addr} {pn : List (Addr × Obj)} {px : Pos} {base : Heap} (T : ErrK X.prog X.w X.K X.mg base cls fs) (hff : f ∈ fs) (hz : Zc vc d oe) (hf : ∃ vs, oe.data = .fields vs)
    (hN : X.N[i]? = some x := by rfl) (hv : Vis X.env.scope x := by first | exact Or.inl rfl | exact Or.inr (Or.inl rfl) | exact Or.inr (Or.inr rfl)) (hd : (x == ("__debug__" : Str)) = false := by decide) (hcd : (x == ("__classdict__" : Str)) = false := by decide)
    (hb : attributeBase (.Name x px) f X.env (eval (.Name x px) X.env) = eval (.Name x px) X.env := by rfl) : DE (X.suite a ((a, oe) :: pn)) (cExc c a vc d) (.Attribute (.Name x px) f pos) (eExF i cls f) := by
  obtain ⟨C, fI, fd, ps, hm, O, G, hn, _⟩ := T.ex
  refine ped (pe_xf G (hn f hff) hz hf (pe_var (X := X.suite a ((a, oe) :: pn)) (i := i) hN hv hd hcd) hb) ?_
  intro ρ σ S H Q st g
  unfold eExF at g
  cases e : ρ[i]? with
  | none =>
    rw [e] at g
    exact g.elim
  | some s =>
    rw [e] at g
    cases s with
    | exc er =>
      simp only at g
      split at g
      · rename_i hcls
        cases l : er.args.lookup f with
        | none =>
          simp only [l] at g
          exact g.elim
        | some dd =>
          simp only [l] at g
          obtain ⟨a', cls', od, e1, e2, C', d', fs', e3, e4, e5, e6, e7⟩ := st.exc i er e
          cases e2
          obtain ⟨v, l1, l2⟩ := e7.look l
          rw [hcls] at e3
          have hm' : (cxFr X).mg cls = some (.ref C) := hm
          have e3 : (cxFr X).mg cls = some (.ref C') := e3
          rw [hm'] at e3
          cases e3
          exact ⟨.ref a, e1, rfl, e4, d', fs', v, e5, st.sub _ _ e6, l1, g v S H st (Ex.refl _) l2⟩
      · exact g.elim
    | _ => exact g.elim
end
end Dn
set_option Elab.async false
set_option linter.all false
set_option maxRecDepth 100000
set_option maxHeartbeats 6400000
/-! set(a list of ints), as an object of the layer. -/
namespace Dn
open PySem PySem.Spec PyProof.Rows L2
/-- the set's object as it is made -/
abbrev sob (w : World) : Obj := { cls := .type "set", dict := none, data := .set #[] 0 (.fresh 0 0 (!w.params.followText "set-order")) }
section
variable {P : Program} {w : World} {A : Around} {E : Value → Shared → Prop} {s : Shared}
theorem set_of_list {l : Addr} {vs : Array Value} (ks : List Int) {Q : Value → Shared → Prop} (hA : A.handled = none) (Hl : s.heap.IsList l vs) (Hk : IntsAre vs.toList ks) (Hb : ks.length + 1 < scanBound)
    (h : ∀ (h' : Heap) (tk c : Nat), SetR w h' s.heap.objs.size (fun j => decide (j ∈ ks)) c → c ≤ ks.length → (∀ b o, s.heap.get? b = some o → h'.get? b = some o) → Q (.ref s.heap.objs.size) { s with heap := h', toks := tk }) :
    wpAny (model P w) A (call (.type "set") [.ref l]) Q E s := by
  have hsz : vs.size = ks.length := by
    have q := IntsAre.length Hk
    rwa [Array.length_toList] at q
  obtain ⟨ct, rest, hm⟩ := F.called_set.mro
  have f1 := F.called_set.made
  have f2 := F.called_set.sub
  refine wpAny_call (codeAny_of_tree ?_)
  show wpAny _ _ (callAny (.type "set") _) _ _ _
  refine wpAny_pure ⟨Code.quiet_builtin _ (by decide +kernel), ?_⟩
  refine codeAny_builtin F.entry_type_call ?_
  rw [Around.under_plain (weight_type_call_type "set" [.ref l] []) rfl]
  have f3 := F.called_set.notType
  have f4 := F.called_set.canCreate
  have f5 := F.typeCall_set_1 (.ref l)
  repeat (any_goals (first | assumption | wp_step))
  refine codeAny_mono (code_set_led1 (.ref l) (E := E) (Q₁ := fun x s1 => x = .ref s.heap.objs.size ∧ s1 = { s with heap := s.heap.push (sob w) }) ⟨rfl, rfl⟩) fun r s1 hr => ?_
  match r, hr with
  | .error e, hr => exact hr
  | .ok (.ret x), hr =>
    obtain ⟨rfl, rfl⟩ := hr
    have g1 : (s.heap.push (sob w)).get? s.heap.objs.size = some (sob w) := Heap.get?_push_size _ rfl
    have g2 : Shared.TypeIs { s with heap := s.heap.push (sob w) } (.ref s.heap.objs.size) "set" := ⟨_, g1, rfl⟩
    have f6 := F.called_set.init.lookup
    have f7 := F.called_set.init.bind (.ref s.heap.objs.size)
    repeat (any_goals (first | assumption | wp_step))
    refine codeAny_mono (codeAny_call_builtin (R := wants (fun y s2 => y = .none ∧ ∃ h' tk c, s2 = { s with heap := h', toks := tk } ∧ SetR w h' s.heap.objs.size (fun j => decide (j ∈ ks)) c ∧ c ≤ ks.length ∧ (∀ b o, s.heap.get? b = some o → h'.get? b = some o)) E)
      F.called_set.init.plain F.entry_set_init (check_set_init_1 g2 ?_)) fun y s2 hy => ?_
    · obtain ⟨⟨k0, k1, k2, k3⟩, ho, hc, nl, hd⟩ := Hl
      simp only at hc hd
      subst hc
      subst hd
      have g3 : (s.heap.push (sob w)).get? l = some { cls := .type "list", dict := k1, data := .seq vs nl, slots := k3 } := Heap.get?_push_of_some _ ho
      have e1 := F.sub_list_set
      have e2 := F.sub_list_frozenset
      have e3 : (Value.type "list" == Value.type "dict") = false := by decide
      have g4 : (s.heap.push (sob w)).IsList l vs := ⟨_, g3, rfl, nl, rfl⟩
      unfold Builtin.«set.__init__» noKeywords Builtin.Frozenset.updateFrom
      generalize hPI : pyIter = PI
      wp_walk
      subst hPI
      refine wpAny_pyIter_list g4 ?_
      refine wpAny_bind (wpAny_runValue ?_)
      have lt : l < s.heap.objs.size := Heap.lt_size ho
      have calm : A.in1.in1.in1.handled = none := by simp [hA]
      have ne1 : l ≠ (s.heap.push (sob w)).objs.size := Nat.ne_of_lt (by
        rw [Heap.size_push]
        exact Nat.lt_succ_of_lt lt)
      have out1 : s.heap.objs.size ∉ [(s.heap.push (sob w)).objs.size, l] := by
        rw [Heap.size_push]
        intro z
        rcases List.mem_cons.mp z with z | z
        · exact absurd z (Nat.ne_of_lt (Nat.lt_succ_self _))
        · exact absurd (List.mem_singleton.mp z) (Nat.ne_of_gt lt)
      have each : ∀ (i : Nat) (v : Value), vs[i]? = some v → ∃ k t, ks[i]? = some k ∧ v = .int k t := fun i v hv => by
        have hi : i < ks.length := by
          rw [← hsz]
          exact (Array.getElem?_eq_some_iff.mp hv).1
        obtain ⟨t, e⟩ := IntsAre.int_at Hk i v (by rw [Array.getElem?_toList]; exact hv)
        refine ⟨ks[i], t, List.getElem?_eq_getElem hi, e.trans ?_⟩
        rw [List.getD_eq_getElem?_getD, List.getElem?_eq_getElem hi]
        rfl
      have first : SetR w (((s.heap.push (sob w)).push { cls := .type "list_iterator", data := .fields #[.ref l, .int 0 0] })) s.heap.objs.size (fun j => decide (j ∈ ks.take 0)) 0 := setR_new_at (Heap.get?_push_of_some _ g1)
      refine set_update_ints ((Walks.list calm _ l ne1 vs).toS) s.heap.objs.size out1 ks hsz Hb each (vs.size - 0) 0 _ (by omega) (Nat.zero_le _) ⟨⟨_, Heap.get?_push_size _ rfl, rfl, rfl⟩, g4.push _⟩ ⟨0, Nat.le_refl 0, first⟩ ?_
      rintro ⟨hq, gq, dq, tq, oq⟩ c' hm1 hc1 hS1
      have eg : gq = s.gens := hm1.gens
      have ed : dq = s.drawn := hm1.drawn
      have eo : oq = s.os := hm1.os
      subst eg ed eo
      show wpAny _ _ _ _ _ _
      refine wpAny_pure ?_
      show wpAny _ _ (PySem.ret Value.none) _ _ _
      rw [hsz] at hc1
      refine wpAny_pure ⟨rfl, hq, tq, c', rfl, hS1, hc1, fun b o e => ?_⟩
      have b0 : b < s.heap.objs.size := Heap.lt_size e
      refine hm1.heap b o (fun z => ?_) (Heap.get?_push_of_some _ (Heap.get?_push_of_some _ e))
      rcases List.mem_cons.mp z with z | z
      · exact absurd z (Nat.ne_of_lt b0)
      · have z := List.mem_singleton.mp z
        rw [Heap.size_push] at z
        exact absurd z (Nat.ne_of_lt (Nat.lt_succ_of_lt b0))
    · match y, hy with
      | .error e, hy => exact hy
      | .ok (.ret y'), hy =>
        obtain ⟨rfl, hq, tq, c', rfl, hS1, hc1, keep⟩ := hy
        repeat (any_goals (first | assumption | wp_step))
        exact h _ _ _ hS1 hc1 keep
end
section
variable {X : Cx}
def rSetL (K : PySem.W.Frag) (w : World) : List V → Hp → VK → Prop := fun xs H Q => ∃ (l : Addr) (ks : List Int), xs = [.ref l] ∧ SqL K H l (ks.map V.int) ∧ ks.length < 64 ∧
  ∀ p c, H p = none → c ≤ ks.length → Q (.ref p) (upd H p (SetO w p (fun j => decide (j ∈ ks)) c))
theorem cr_setL (hc : X.calm = true) : CallR X (.type "set") (rSetL X.K X.w) := by
  intro pins s σ H vs us Q I r h
  obtain ⟨l, ks, rfl, hS, h64, q⟩ := h
  rw [Vals.ref1 r]
  obtain ⟨its, rv, hl, hz⟩ := I.list hS
  have hlen : its.toArray.size = ks.length := by rw [List.size_toArray, ← rv.length, List.length_map]
  refine set_of_list ks (I.ok.hd hc) hl.isList (by simpa using intsAre_of rv) (by unfold scanBound; omega) fun h' tk c hR hcl keep => ?_
  refine ⟨.ref s.heap.objs.size, upd H s.heap.objs.size (SetO X.w s.heap.objs.size (fun j => decide (j ∈ ks)) c), I.laid (t' := tk) keep (Nat.le_refl _) (setO_new hR), rfl, q _ c (I.hok.fresh (Nat.le_refl _)) hcl⟩
end
end Dn
set_option linter.all false
set_option maxHeartbeats 2000000
/-! What every law draws by: its stream of digits; and its comparison. -/
namespace Dn
open PySem
def bStream : S := sRet (eLst [e1 oList (eV 0), eC (.int 0), eC (.int 0)])
def gStream : FD := fn 1 bStream
def bNext : S := sSeq (sIf (t2 oEq (ePk2 oIxD 0 (eC (.int 1))) (eC (.int 0))) (sSeq (sAsg 2 (ePk2 oIxD 0 (eC (.int 2))))
    (sSeq (sAsg 3 (e2 oAdd (eC (.int 7)) (eV 2)))
    (sSeq (sIf (t2 oLt (eV 2) (e1 oLen (ePk2 oIxD 0 (eC (.int 0))))) (sAsg 3 (e1 oAbs (e2 oIxA (ePk2 oIxD 0 (eC (.int 0))) (eV 2)))) (sNil))
    (sSeq (sIf (t2 oLt (eV 3) (e2 oPow (eC (.int 10)) (eC (.int 18)))) (sSeq (sAsg 3 (e2 oMod (e1 oInt (e2 oAdd (e2 oAdd (e2 oMul (eV 3) (eC (.int 48271))) (e2 oMul (eV 2) (eC (.int 69621)))) (eC (.int 11)))) (eC (.int 2147483647))))
    (sAsg 3 (e2 oAdd (e2 oMul (e2 oMod (e1 oInt (e2 oAdd (e2 oMul (eV 3) (eC (.int 16807))) (eC (.int 13)))) (eC (.int 2147483647))) (eC (.int 65537))) (eV 3)))) (sNil))
    (sSeq (sSetI 0 (eC (.int 1)) (eV 3))
    (sSetI 0 (eC (.int 2)) (e2 oAdd (eV 2) (eC (.int 1))))))))) (sNil))
    (sSeq (sAsg 4 (e2 oMod (e1 oInt (ePk2 oIxD 0 (eC (.int 1)))) (eV 1)))
    (sSeq (sSetI 0 (eC (.int 1)) (e2 oDiv (ePk2 oIxD 0 (eC (.int 1))) (eV 1)))
    (sRet (eMv 4))))
def gNext : FD := fn 5 bNext
def gIsInt : FD := fn 1 (sRet (eAnd (e1 (oIsi "int") (eV 0)) (eNot (e1 (oIsi "bool") (eV 0)))))
def bEqual (self : FD) : S := sSeq (sIf (t1 oIsN (eV 1)) (sRet (eT (t1 oIsN (eV 0)))) (sNil))
    (sSeq (sIf (tTr (e1 (oIsi "bool") (eV 1))) (sRet (eAnd (e1 (oIsi "bool") (eV 0)) (eT (t2 oEq (eV 0) (eV 1))))) (sNil))
    (sSeq (sIf (tTr (e1 (oIsi "int") (eV 1))) (sRet (eAnd (eCall gIsInt [.v (eV 0)]) (eT (t2 oEq (eV 0) (eV 1))))) (sNil))
    (sSeq (sIf (tTr (e1 (oIsi "str") (eV 1))) (sRet (eAnd (e1 (oIsi "str") (eV 0)) (eT (t2 oEq (eV 0) (eV 1))))) (sNil))
    (sSeq (sIf (tAnd (tTr (e1 (oIsi "tuple") (eV 1))) (tNot (tTr (e1 (oIsi "tuple") (eV 0))))) (sRet (eC (.bl false))) (sNil))
    (sSeq (sIf (tAnd (tTr (e1 (oIsi "list") (eV 1))) (tNot (tTr (e1 (oIsi "list") (eV 0))))) (sRet (eC (.bl false))) (sNil))
    (sSeq (sIf (t2 oNe (e1 oLen (eV 0)) (e1 oLen (eV 1))) (sRet (eC (.bl false))) (sNil))
    (sRet (e1 oAll (eLc [2] (srcR1 (e1 oLen (eV 1))) (gV 2) (tYes) (eCall (self) [.v (ePk2 oIxD 0 (eV 2)), .v (ePk2 oIxD 1 (eV 2))]))))))))))
def gEqual : Nat → FD
  | 0 => fun _ => .bad
  | k + 1 => fn 3 (bEqual (gEqual k))

/-! ### comparing ints -/
@[simp] theorem eqv_int (a b : Int) : (D.int a).eqv (.int b) = decide (a = b) := by
  show (a == b) = _
  exact Bool.beq_eq_decide_eq a b
@[simp] theorem eqv_str (a b : Str) : (D.str a).eqv (.str b) = decide (a = b) := by
  show (a == b) = _
  exact Bool.beq_eq_decide_eq a b
@[simp] theorem eqv_bl (a b : Bool) : (D.bl a).eqv (.bl b) = (a == b) := rfl
@[simp] theorem eqv_int_str (a : Int) (b : Str) : (D.int a).eqv (.str b) = false := rfl
@[simp] theorem eqv_str_int (a : Str) (b : Int) : (D.str a).eqv (.int b) = false := rfl
@[simp] theorem ok_int (a : Int) : (D.int a).ok = true := rfl
@[simp] theorem ok_bl (a : Bool) : (D.bl a).ok = true := rfl
@[simp] theorem ok_non : D.non.ok = true := rfl

/-! ### written texts -/
theorem toNat_lt (c : Char) : c.toNat < 1114112 := by
  have h := c.valid
  simp only [UInt32.isValidChar, Nat.isValidChar] at h
  show c.val.toNat < 1114112
  omega
theorem toNat_inj {a b : Char} (h : a.toNat = b.toNat) : a = b := by
  apply Char.ext
  exact UInt32.toNat_inj.mp h
theorem map_inj' : ∀ {a b : List Char}, a.map Char.toNat = b.map Char.toNat → a = b
  | [], [], _ => rfl
  | [], _ :: _, h => by simp at h
  | _ :: _, [], h => by simp at h
  | x :: a, y :: b, h => by
    simp only [List.map_cons, List.cons.injEq] at h
    rw [toNat_inj h.1, map_inj' h.2]
@[simp] theorem ofString_inj (a b : String) : (Str.ofString a = Str.ofString b) ↔ a = b := by
  constructor
  · intro h
    rw [Str.ofString_eq_toList, Str.ofString_eq_toList] at h
    have h1 : (a.toList.map Char.toNat) = (b.toList.map Char.toNat) := by
      have := congrArg (fun s => s.cps.toList) h
      simpa using this
    exact String.toList_inj.mp (map_inj' h1)
  · intro h
    rw [h]
@[simp] theorem ok_lit (a : String) : (D.str (Str.ofString a)).ok = true := by
  show (Str.ofString a).cps.all _ = true
  rw [Str.ofString_eq_toList]
  simp only [List.all_toArray, List.all_map, List.all_eq_true, Function.comp, decide_eq_true_eq]
  exact fun c _ => toNat_lt c
/-- an item of a written list at a drawn place -/
theorem pick_mem {xs : List D} {d : Int} (h0 : 0 ≤ d) (h1 : d < xs.length) : ∃ x, x ∈ xs ∧ dAt xs d = some x := by
  have hk : d.toNat < xs.length := by omega
  refine ⟨xs[d.toNat], List.getElem_mem hk, ?_⟩
  simp [dAt, ixAt, h0, h1, hk]

/-! ### the stream -/
structure Sm where
  ns : List Int
  c : Int
  k : Int
  hc : 0 ≤ c
  hk : 0 ≤ k
def Sm.C (s : Sm) : C := .lst [.lst (s.ns.map .int), .int s.c, .int s.k]
def cell0 (ns : List Int) (k : Int) : Int := if h : k < ns.length then (if ns.getD k.toNat 0 < 0 then -ns.getD k.toNat 0 else ns.getD k.toNat 0) else 7 + k
theorem cell0_nn (ns : List Int) (k : Int) (h : 0 ≤ k) : 0 ≤ cell0 ns k := by
  unfold cell0
  split
  · split <;> omega
  · omega
def big : Int := 1000000000000000000
def cell1 (ns : List Int) (k : Int) : Int := if cell0 ns k < big then
  ((cell0 ns k * 48271 + k * 69621 + 11) % 2147483647 * 16807 + 13) % 2147483647 * 65537 + (cell0 ns k * 48271 + k * 69621 + 11) % 2147483647 else cell0 ns k
theorem cell1_nn (ns : List Int) (k : Int) (h : 0 ≤ k) : 0 ≤ cell1 ns k := by
  unfold cell1
  have := cell0_nn ns k h
  split <;> omega
def Sm.cur (s : Sm) : Int := if s.c = 0 then cell1 s.ns s.k else s.c
theorem Sm.cur_nn (s : Sm) : 0 ≤ s.cur := by
  unfold Sm.cur
  have := cell1_nn s.ns s.k s.hk
  have := s.hc
  split <;> omega
/-- the digit, and the stream behind it -/
def Sm.dig (s : Sm) (m : Int) : Int := s.cur % m
def Sm.nxt (s : Sm) (m : Int) : Sm := ⟨s.ns, if 0 < m then s.cur / m else 0, if s.c = 0 then s.k + 1 else s.k, by
  split
  · exact Int.ediv_nonneg s.cur_nn (by omega)
  · omega, by
  have := s.hk
  split <;> omega⟩
theorem Sm.dig_nn (s : Sm) {m : Int} (h : 0 < m) : 0 ≤ s.dig m := Int.emod_nonneg _ (by omega)
theorem Sm.dig_lt (s : Sm) {m : Int} (h : 0 < m) : s.dig m < m := Int.emod_lt_of_pos _ h
theorem next_nz (ns : List Int) (c : Int) (k : Int) (many : Int) (h1 : 0 < many) (h2 : many < 1073741824) (hz : c ≠ 0) : gNext [.bor (.lst [.lst (ns.map .int), .int c, .int k]), .val (.int many)] = .ok (.d (.int (c % many))) [.bor (.lst [.lst (ns.map .int), .int (c / many), .int k]), .un] := by
  simp [gNext, bNext, dAt, ixAt, h1, h2, hz]
theorem pow18 : oPow (.int 10) (.int 18) = some (.d (.int big)) := by
  simp only [oPow]
  rw [if_pos (by decide)]
  rfl
theorem oMul_const (a b : Int) (h : b < 2 ^ 64 ∧ -(2 ^ 64) < b) : oMul (.int a) (.int b) = some (.d (.int (a * b))) := by
  simp only [oMul]
  rw [if_pos]
  simp only [mulOk, Bool.or_eq_true, Bool.and_eq_true, decide_eq_true_eq]
  exact .inr ⟨h.2, h.1⟩
@[simp] theorem oMul_a (a : Int) : oMul (.int a) (.int 48271) = some (.d (.int (a * 48271))) := oMul_const _ _ (by decide)
@[simp] theorem oMul_b (a : Int) : oMul (.int a) (.int 69621) = some (.d (.int (a * 69621))) := oMul_const _ _ (by decide)
@[simp] theorem oMul_c (a : Int) : oMul (.int a) (.int 16807) = some (.d (.int (a * 16807))) := oMul_const _ _ (by decide)
@[simp] theorem oMul_d (a : Int) : oMul (.int a) (.int 65537) = some (.d (.int (a * 65537))) := oMul_const _ _ (by decide)
theorem at_int (ns : List Int) (k : Int) (h0 : 0 ≤ k) (h : k < ns.length) : dAt (ns.map D.int) k = some (.int (ns.getD k.toNat 0)) := by
  have hk : k.toNat < ns.length := by omega
  simp [dAt, ixAt, h0, h, hk]
theorem seq_nx {a b : S} {ρ ρ' : Env} (h : a ρ = .nx ρ') : sSeq a b ρ = b ρ' := by simp only [sSeq, h]
theorem if_t {t : T} {a b : S} {ρ ρ' : Env} (h : t ρ = .ok true ρ') : sIf t a b ρ = a ρ' := by simp only [sIf, runM, h, if_true]
theorem if_f {t : T} {a b : S} {ρ ρ' : Env} (h : t ρ = .ok false ρ') : sIf t a b ρ = b ρ' := by
  simp only [sIf, runM, h]
  rfl
theorem fn_rt {n : Nat} {b : S} {as : List Slot} {r : Rv} {ρ : Env} (h : b (as ++ List.replicate (n - as.length) .un) = .rt r ρ) : fn n b as = .ok r (outE as.length ρ) := by simp only [fn, h]
abbrev nenv (ns : List Int) (k : Int) (many : Int) (x : Int) : Env := [.bor (.lst [.lst (ns.map .int), .int 0, .int k]), .val (.int many), .val (.int k), .val (.int x), .un]
theorem nx1' (ns : List Int) (k : Int) (many : Int) (h0 : 0 ≤ k) : (sIf (t2 oLt (eV 2) (e1 oLen (ePk2 oIxD 0 (eC (.int 0))))) (sAsg 3 (e1 oAbs (e2 oIxA (ePk2 oIxD 0 (eC (.int 0))) (eV 2)))) (sNil)) (nenv ns k many (7 + k)) = .nx (nenv ns k many (cell0 ns k)) := by
  by_cases hk : k < ns.length
  · have e := at_int ns k h0 hk
    have e0 : dAt [D.lst (ns.map D.int), .int 0, .int k] 0 = some (.lst (ns.map .int)) := rfl
    simp [e, e0, hk, cell0]
  · simp [dAt, ixAt, hk, cell0]
theorem nx2 (ns : List Int) (k : Int) (many x : Int) : (sAsg 3 (e2 oMod (e1 oInt (e2 oAdd (e2 oAdd (e2 oMul (eV 3) (eC (.int 48271))) (e2 oMul (eV 2) (eC (.int 69621)))) (eC (.int 11)))) (eC (.int 2147483647)))) (nenv ns k many x) = .nx (nenv ns k many ((x * 48271 + k * 69621 + 11) % 2147483647)) := by
  simp
theorem nx3 (ns : List Int) (k : Int) (many x : Int) : (sAsg 3 (e2 oAdd (e2 oMul (e2 oMod (e1 oInt (e2 oAdd (e2 oMul (eV 3) (eC (.int 16807))) (eC (.int 13)))) (eC (.int 2147483647))) (eC (.int 65537))) (eV 3))) (nenv ns k many x) = .nx (nenv ns k many ((x * 16807 + 13) % 2147483647 * 65537 + x)) := by
  simp
theorem nx4 (ns : List Int) (k : Int) (many x B : Int) (hB : oPow (.int 10) (.int 18) = some (.d (.int B))) : t2 oLt (eV 3) (e2 oPow (eC (.int 10)) (eC (.int 18))) (nenv ns k many x) = .ok (decide (x < B)) (nenv ns k many x) := by
  simp [hB]
theorem nx5 (ns : List Int) (k : Int) (many x : Int) : (sSeq (sSetI 0 (eC (.int 1)) (eV 3)) (sSetI 0 (eC (.int 2)) (e2 oAdd (eV 2) (eC (.int 1))))) (nenv ns k many x) = .nx [.bor (.lst [.lst (ns.map .int), .int x, .int (k+1)]), .val (.int many), .val (.int k), .val (.int x), .un] := by
  simp [ixAt]
theorem nx6 (ns : List Int) (k : Int) (many : Int) (x : Int) (h1 : 0 < many) (h2 : many < 1073741824) : sSeq (sAsg 4 (e2 oMod (e1 oInt (ePk2 oIxD 0 (eC (.int 1)))) (eV 1)))
    (sSeq (sSetI 0 (eC (.int 1)) (e2 oDiv (ePk2 oIxD 0 (eC (.int 1))) (eV 1)))
    (sRet (eMv 4))) [.bor (.lst [.lst (ns.map .int), .int x, .int (k+1)]), .val (.int many), .val (.int k), .val (.int x), .un] = .rt (.d (.int (x % many))) [.bor (.lst [.lst (ns.map .int), .int (x / many), .int (k+1)]), .val (.int many), .val (.int k), .val (.int x), .val (.int (x % many))] := by
  simp [dAt, ixAt, h1, h2]
theorem nx0 (ns : List Int) (k : Int) (many : Int) : t2 oEq (ePk2 oIxD 0 (eC (.int 1))) (eC (.int 0)) [.bor (.lst [.lst (ns.map .int), .int 0, .int k]), .val (.int many), .un, .un, .un] = .ok true [.bor (.lst [.lst (ns.map .int), .int 0, .int k]), .val (.int many), .un, .un, .un] := by
  simp [dAt, ixAt]
theorem nx7 (ns : List Int) (k : Int) (many : Int) : sAsg 2 (ePk2 oIxD 0 (eC (.int 2))) [.bor (.lst [.lst (ns.map .int), .int 0, .int k]), .val (.int many), .un, .un, .un] = .nx [.bor (.lst [.lst (ns.map .int), .int 0, .int k]), .val (.int many), .val (.int k), .un, .un] := by
  simp [dAt, ixAt]
theorem nx8 (ns : List Int) (k : Int) (many : Int) : sAsg 3 (e2 oAdd (eC (.int 7)) (eV 2)) [.bor (.lst [.lst (ns.map .int), .int 0, .int k]), .val (.int many), .val (.int k), .un, .un] = .nx (nenv ns k many (7 + k)) := by
  simp
theorem next_z (ns : List Int) (k : Int) (many : Int) (h0 : 0 ≤ k) (h1 : 0 < many) (h2 : many < 1073741824) : gNext [.bor (.lst [.lst (ns.map .int), .int 0, .int k]), .val (.int many)] = .ok (.d (.int (cell1 ns k % many))) [.bor (.lst [.lst (ns.map .int), .int (cell1 ns k / many), .int (k + 1)]), .un] := by
  refine fn_rt (ρ := [.bor (.lst [.lst (ns.map .int), .int (cell1 ns k / many), .int (k+1)]), .val (.int many), .val (.int k), .val (.int (cell1 ns k)), .val (.int (cell1 ns k % many))]) ?_
  show bNext [.bor (.lst [.lst (ns.map .int), .int 0, .int k]), .val (.int many), .un, .un, .un] = _
  unfold bNext
  refine (seq_nx (ρ' := [.bor (.lst [.lst (ns.map .int), .int (cell1 ns k), .int (k+1)]), .val (.int many), .val (.int k), .val (.int (cell1 ns k)), .un]) ?_).trans (nx6 ns k many (cell1 ns k) h1 h2)
  refine (if_t (nx0 ns k many)).trans ?_
  refine (seq_nx (nx7 ns k many)).trans ?_
  refine (seq_nx (nx8 ns k many)).trans ?_
  refine (seq_nx (nx1' ns k many h0)).trans ?_
  have e4 := nx4 ns k many (cell0 ns k) big pow18
  by_cases hb : cell0 ns k < big
  · rw [decide_eq_true hb] at e4
    have ec : cell1 ns k = ((cell0 ns k * 48271 + k * 69621 + 11) % 2147483647 * 16807 + 13) % 2147483647 * 65537 + (cell0 ns k * 48271 + k * 69621 + 11) % 2147483647 := by
      unfold cell1
      rw [if_pos hb]
    refine (seq_nx ((if_t e4).trans ((seq_nx (nx2 ns k many (cell0 ns k))).trans (nx3 ns k many _)))).trans ?_
    rw [← ec]
    exact nx5 ns k many (cell1 ns k)
  · rw [decide_eq_false hb] at e4
    have ec : cell1 ns k = cell0 ns k := by
      unfold cell1
      rw [if_neg hb]
    refine (seq_nx (if_f e4)).trans ?_
    rw [← ec]
    exact nx5 ns k many (cell1 ns k)
theorem next_ok (s : Sm) {m : Int} (h1 : 0 < m) (h2 : m < 1073741824) : gNext [.bor s.C, .val (.int m)] = .ok (.d (.int (s.dig m))) [.bor (s.nxt m).C, .un] := by
  obtain ⟨ns, c, k, hc, hk⟩ := s
  by_cases hz : c = 0
  · subst hz
    simp only [Sm.C, Sm.dig, Sm.nxt, Sm.cur, if_true, h1]
    exact next_z ns k m hk h1 h2
  · simp only [Sm.C, Sm.dig, Sm.nxt, Sm.cur, if_neg hz, if_pos h1]
    exact next_nz ns c k m h1 h2 hz
def Sm.new (ns : List Int) : Sm := ⟨ns, 0, 0, by omega, by omega⟩
theorem stream_ok (ns : List Int) : gStream [.val (.scr ns)] = .ok (.o (Sm.new ns).C) [.un] := rfl
/-- a drawn digit, where the def has the stream lent | where it is its own -/
theorem draw_b (ρ : Env) (i : Nat) (s : Sm) (m : Int) (h : ρ[i]? = some (.bor s.C)) (h1 : 0 < m) (h2 : m < 1073741824) : eCall gNext [.b i, .v (eC (.int m))] ρ = .ok (.d (.int (s.dig m))) (ρ.set i (.bor (s.nxt m).C)) := by
  have e := next_ok s h1 h2
  simp [h, e]
theorem draw_o (ρ : Env) (i : Nat) (s : Sm) (m : Int) (h : ρ[i]? = some (.own s.C)) (h1 : 0 < m) (h2 : m < 1073741824) : eCall gNext [.b i, .v (eC (.int m))] ρ = .ok (.d (.int (s.dig m))) (ρ.set i (.own (s.nxt m).C)) := by
  have e := next_ok s h1 h2
  simp [h, e]

/-! ### a comprehension whose turns leave the slots as they are -/
theorem comp_map (own : List Nat) (g : Tg) (e : E) (h : D → D) (ρ : Env) : ∀ (xs acc : List D), acc.length + xs.length ≤ 100000 → (∀ x ∈ xs, ∀ ρ', wipeE ρ' own = wipeE ρ own → ∃ ρ1 ρ2, g x (wipeE ρ' own) = some ρ1 ∧ val e ρ1 = .ok (h x) ρ2 ∧ wipeE ρ2 own = wipeE ρ own) → ∀ ρ', wipeE ρ' own = wipeE ρ own → ∃ ρf, comp own g tYes e xs acc ρ' = .ok (acc ++ xs.map h) ρf ∧ wipeE ρf own = wipeE ρ own
  | [], acc, _, _, ρ', hw => ⟨ρ', by simp [comp], hw⟩
  | x :: xs, acc, hl, hx, ρ', hw => by
    obtain ⟨ρ1, ρ2, e1, e2, e3⟩ := hx x List.mem_cons_self ρ' hw
    simp only [List.length_cons] at hl
    obtain ⟨ρf, q1, q2⟩ := comp_map own g e h ρ xs (acc ++ [h x]) (by simp only [List.length_append, List.length_singleton]; omega) (fun y hy => hx y (List.mem_cons_of_mem _ hy)) ρ2 e3
    refine ⟨ρf, ?_, q2⟩
    simp only [comp, e1, e2]
    rw [show tYes ρ1 = .ok true ρ1 from rfl]
    simp only [e2]
    rw [if_pos (by omega), q1]
    simp

/-! ### x against itself -/
mutual
def plain : Nat → D → Bool
  | _, .non => true
  | _, .bl _ => true
  | _, .int _ => true
  | _, .str x => x.cps.all fun n => decide (n < 1114112)
  | n + 1, .tup xs => decide (xs.length ≤ 100000) && plains n xs
  | n + 1, .lst xs => decide (xs.length ≤ 100000) && plains n xs
  | _, _ => false
def plains : Nat → List D → Bool
  | _, [] => true
  | n, x :: r => plain n x && plains n r
end
theorem plains_all (n : Nat) : ∀ xs : List D, plains n xs = xs.all (plain n)
  | [] => by simp only [plains, List.all_nil]
  | x :: r => by simp only [plains, List.all_cons, plains_all n r]
theorem ok_str {x : Str} (h : (x.cps.all fun n => decide (n < 1114112)) = true) : (D.str x).ok = true := h
theorem isint_ok (x : D) (hx : noTy x = false := by rfl) : gIsInt [.val x] = .ok (.d (.bl (isiT x.ty "int" && !isiT x.ty "bool"))) [.un] := by
  cases x <;> first | rfl | cases hx
theorem upTo_eq (n : Nat) : upTo 0 n = (List.range n).map fun (i : Nat) => D.int (i : Int) := by
  unfold upTo
  congr 1
  funext i
  rw [Int.zero_add]
theorem asBs_true : ∀ n : Nat, asBs (List.replicate n (D.bl true)) = some (List.replicate n true)
  | 0 => rfl
  | n + 1 => by simp only [List.replicate_succ, asBs, asBs_true n, Option.map_some]
theorem all_true (n : Nat) : (List.replicate n true).all id = true := by
  induction n with
  | zero => rfl
  | succ n ih => simp [List.replicate_succ]
theorem e1_ok {f : D → Option Rv} {m : E} {ρ ρ' : Env} {r z : Rv} (h : m ρ = .ok r ρ') (hf : f r.fr = some z) : e1 f m ρ = .ok z ρ' := by
  unfold e1 val Dn.bind
  rw [h]
  simp only [ret, hf, opt]
theorem equal_seq (n : Nat) (self : FD) (xs : List D) (hl : xs.length ≤ 100000) (mk : List D → D) (hmk : mk = .tup ∨ mk = .lst) (hs : ∀ x ∈ xs, self [.val x, .val x] = .ok (.d (.bl true)) [.un, .un]) :
    (e1 oAll (eLc [2] (srcR1 (e1 oLen (eV 1))) (gV 2) (tYes) (eCall (self) [.v (ePk2 oIxD 0 (eV 2)), .v (ePk2 oIxD 1 (eV 2))]))) [.val (mk xs), .val (mk xs), .un] = .ok (.d (.bl true)) [.val (mk xs), .val (mk xs), .un] := by
  have hlen : oLen (mk xs) = some (.d (.int xs.length)) := by rcases hmk with rfl | rfl <;> rfl
  have hb : bigOk (xs.length : Int) = true := by
    simp only [bigOk, Bool.and_eq_true, decide_eq_true_eq]
    omega
  have hat : ∀ i : Nat, i < xs.length → oIxD (mk xs) (.int i) = xs[i]? := fun i hi => by
    rcases hmk with rfl | rfl <;> simp [dAt, ixAt, hi]
  obtain ⟨ρf, q1, q2⟩ := comp_map [2] (gV 2) (eCall (self) [.v (ePk2 oIxD 0 (eV 2)), .v (ePk2 oIxD 1 (eV 2))]) (fun _ => .bl true) [.val (mk xs), .val (mk xs), .un] (upTo 0 xs.length) [] (by rw [upTo_eq]; simp; omega) (fun y hy ρ' hw => by
    rw [upTo_eq, List.mem_map] at hy
    obtain ⟨i, hi, rfl⟩ := hy
    rw [List.mem_range] at hi
    refine ⟨[.val (mk xs), .val (mk xs), .val (.int i)], [.val (mk xs), .val (mk xs), .val (.int i)], ?_, ?_, rfl⟩
    · rw [hw]
      rfl
    · have e := hat i hi
      have e2 := hs xs[i] (List.getElem_mem hi)
      rw [List.getElem?_eq_getElem hi] at e
      simp only [val, Dn.bind, eCall, argv, ePk2, hasV, eV, ret, peekI, List.getElem?_cons_zero, List.getElem?_cons_succ, if_true, Rv.fr, e, lend, idxs, List.nodup_nil, Option.map_some, e2, takeB]) [.val (mk xs), .val (mk xs), .un] rfl
  have hback : backE [.val (mk xs), .val (mk xs), .un] ρf [2] = [.val (mk xs), .val (mk xs), .un] := by
    have : wipeE ρf [2] = [.val (mk xs), .val (mk xs), .un] := by rw [q2]; rfl
    simpa [wipeE, backE, backS] using this
  have e1' : (eLc [2] (srcR1 (e1 oLen (eV 1))) (gV 2) (tYes) (eCall (self) [.v (ePk2 oIxD 0 (eV 2)), .v (ePk2 oIxD 1 (eV 2))])) [.val (mk xs), .val (mk xs), .un] = .ok (.o (.lst (List.replicate xs.length (.bl true)))) [.val (mk xs), .val (mk xs), .un] := by
    unfold eLc
    have hsrc : srcR1 (e1 oLen (eV 1)) [.val (mk xs), .val (mk xs), .un] = .ok (upTo 0 xs.length) [.val (mk xs), .val (mk xs), .un] := by
      simp only [srcR1, val, Dn.bind, e1, eV, ret, List.getElem?_cons_zero, List.getElem?_cons_succ, Rv.fr, hlen, opt, hb, if_true, Int.toNat_natCast]
    simp only [Dn.bind, hsrc, q1, hback, List.nil_append]
    rw [upTo_eq]
    rw [List.map_map, show ((fun _ => D.bl true) ∘ fun (i : Nat) => D.int (i : Int)) = fun _ => D.bl true from rfl, List.map_const', List.length_range]
  exact e1_ok e1' (by simp only [Rv.fr, C.d, oAll, asBs_true, Option.map_some, all_true])
theorem equal_refl : ∀ (n : Nat) (x : D), plain n x = true → gEqual (n + 1) [.val x, .val x] = .ok (.d (.bl true)) [.un, .un]
  | n, .non, _ => rfl
  | n, .bl b, _ => by cases b <;> rfl
  | n, .int i, _ => by
    simp [gEqual, bEqual, isint_ok (.int i), isiT]
  | n, .str x, h => by
    have h' : (x.cps.all fun n => decide (n < 1114112)) = true := by cases n <;> simpa only [plain] using h
    have e := ok_str h'
    simp [gEqual, bEqual, isiT, e]
  | n + 1, .tup xs, h => by
    simp only [plain, Bool.and_eq_true, decide_eq_true_eq] at h
    have hs : ∀ x ∈ xs, gEqual (n + 1) [.val x, .val x] = .ok (.d (.bl true)) [.un, .un] := fun x hx => equal_refl n x (by
      have := h.2
      rw [plains_all] at this
      exact List.all_eq_true.mp this x hx)
    have e := equal_seq n (gEqual (n + 1)) xs h.1 .tup (.inl rfl) hs
    rw [gEqual]
    unfold bEqual
    generalize hX : (e1 oAll (eLc [2] (srcR1 (e1 oLen (eV 1))) (gV 2) (tYes) (eCall (gEqual (n + 1)) [.v (ePk2 oIxD 0 (eV 2)), .v (ePk2 oIxD 1 (eV 2))]))) = X at *
    simp [isiT, e]
  | n + 1, .lst xs, h => by
    simp only [plain, Bool.and_eq_true, decide_eq_true_eq] at h
    have hs : ∀ x ∈ xs, gEqual (n + 1) [.val x, .val x] = .ok (.d (.bl true)) [.un, .un] := fun x hx => equal_refl n x (by
      have := h.2
      rw [plains_all] at this
      exact List.all_eq_true.mp this x hx)
    have e := equal_seq n (gEqual (n + 1)) xs h.1 .lst (.inr rfl) hs
    rw [gEqual]
    unfold bEqual
    generalize hX : (e1 oAll (eLc [2] (srcR1 (e1 oLen (eV 1))) (gV 2) (tYes) (eCall (gEqual (n + 1)) [.v (ePk2 oIxD 0 (eV 2)), .v (ePk2 oIxD 1 (eV 2))]))) = X at *
    simp [isiT, e]
  | 0, .tup _, h => by simp [plain] at h
  | 0, .lst _, h => by simp [plain] at h
  | n, .dic _, h => by cases n <;> simp [plain] at h
  | n, .scr _, h => by cases n <;> simp [plain] at h
  | n, .obj _ _, h => by cases n <;> simp [plain] at h
end Dn
set_option linter.all false
set_option maxHeartbeats 2000000
/-! Lists of ints; comprehensions and loops as lists. -/
namespace Dn
open PySem
/-! ### lists of ints -/
theorem maxI_spec : ∀ {ns : List Int} {m : Int}, maxI ns = some m → m ∈ ns ∧ ∀ y, y ∈ ns → y ≤ m
  | [], _, h => by cases h
  | [x], m, h => by
    simp only [maxI, Option.some.injEq] at h
    subst h
    exact ⟨List.mem_singleton.mpr rfl, fun y hy => by rw [List.mem_singleton.mp hy]; omega⟩
  | x :: y :: r, m, h => by
    simp only [maxI, Option.map_eq_some_iff] at h
    obtain ⟨k, h1, h2⟩ := h
    obtain ⟨a, b⟩ := maxI_spec (ns := y :: r) h1
    split at h2
    · subst h2
      refine ⟨List.mem_cons_of_mem _ a, fun z hz => ?_⟩
      rcases List.mem_cons.mp hz with e | e
      · omega
      · exact b z e
    · subst h2
      refine ⟨List.mem_cons_self, fun z hz => ?_⟩
      rcases List.mem_cons.mp hz with e | e
      · omega
      · have := b z e
        omega
theorem minI_spec : ∀ {ns : List Int} {m : Int}, minI ns = some m → m ∈ ns ∧ ∀ y, y ∈ ns → m ≤ y
  | [], _, h => by cases h
  | [x], m, h => by
    simp only [minI, Option.some.injEq] at h
    subst h
    exact ⟨List.mem_singleton.mpr rfl, fun y hy => by rw [List.mem_singleton.mp hy]; omega⟩
  | x :: y :: r, m, h => by
    simp only [minI, Option.map_eq_some_iff] at h
    obtain ⟨k, h1, h2⟩ := h
    obtain ⟨a, b⟩ := minI_spec (ns := y :: r) h1
    split at h2
    · subst h2
      refine ⟨List.mem_cons_of_mem _ a, fun z hz => ?_⟩
      rcases List.mem_cons.mp hz with e | e
      · omega
      · exact b z e
    · subst h2
      refine ⟨List.mem_cons_self, fun z hz => ?_⟩
      rcases List.mem_cons.mp hz with e | e
      · omega
      · have := b z e
        omega
theorem insI_perm (x : Int) : ∀ ns : List Int, (insI x ns).Perm (x :: ns)
  | [] => .refl _
  | y :: r => by
    unfold insI
    split
    · exact .refl _
    · exact ((insI_perm x r).cons y).trans (.swap ..)
theorem sortI_perm : ∀ ns : List Int, (sortI ns).Perm ns
  | [] => .refl _
  | x :: r => (insI_perm x _).trans ((sortI_perm r).cons x)
theorem insI_sorted (x : Int) : ∀ {ns : List Int}, ns.Pairwise (· ≤ ·) → (insI x ns).Pairwise (· ≤ ·)
  | [], _ => List.pairwise_singleton _ _
  | y :: r, h => by
    unfold insI
    obtain ⟨h1, h2⟩ := List.pairwise_cons.mp h
    split
    · rename_i e
      refine List.pairwise_cons.mpr ⟨fun z hz => ?_, h⟩
      rcases List.mem_cons.mp hz with q | q
      · omega
      · have := h1 z q
        omega
    · rename_i e
      refine List.pairwise_cons.mpr ⟨fun z hz => ?_, insI_sorted x h2⟩
      rcases List.mem_cons.mp ((insI_perm x r).mem_iff.mp hz) with q | q
      · omega
      · exact h1 z q
theorem sortI_sorted : ∀ ns : List Int, (sortI ns).Pairwise (· ≤ ·)
  | [] => .nil
  | x :: r => insI_sorted x (sortI_sorted r)
theorem sorted_one : ∀ {a b : List Int}, a.Perm b → a.Pairwise (· ≤ ·) → b.Pairwise (· ≤ ·) → a = b
  | [], b, p, _, _ => (List.Perm.nil_eq p)
  | x :: a, [], p, _, _ => absurd p.length_eq (by simp)
  | x :: a, y :: b, p, h, g => by
    obtain ⟨h1, h2⟩ := List.pairwise_cons.mp h
    obtain ⟨g1, g2⟩ := List.pairwise_cons.mp g
    have e : x = y := by
      rcases List.mem_cons.mp (p.mem_iff.mp (List.mem_cons_self)) with q | q
      · exact q
      · rcases List.mem_cons.mp (p.mem_iff.mpr (List.mem_cons_self)) with q' | q'
        · exact q'.symm
        · have := g1 x q
          have := h1 y q'
          omega
    subst e
    rw [sorted_one (List.Perm.cons_inv p) h2 g2]
theorem sorted_uniq {a ns : List Int} (p : a.Perm ns) (h : a.Pairwise (· ≤ ·)) : a = sortI ns := sorted_one (p.trans (sortI_perm ns).symm) h (sortI_sorted ns)
theorem ddI_mem (k : Int) : ∀ ns : List Int, k ∈ ddI ns ↔ k ∈ ns
  | [] => Iff.rfl
  | x :: r => by
    unfold ddI
    have ih := ddI_mem k r
    split
    · rename_i e
      rw [ih, List.mem_cons]
      exact ⟨.inr, fun h => h.elim (fun q => by rw [q]; exact e) id⟩
    · rw [List.mem_cons, List.mem_cons, ih]
theorem ddI_nodup : ∀ ns : List Int, (ddI ns).Nodup
  | [] => List.nodup_nil
  | x :: r => by
    unfold ddI
    split
    · exact ddI_nodup r
    · rename_i e
      exact List.nodup_cons.mpr ⟨fun h => e ((ddI_mem x r).mp h), ddI_nodup r⟩
theorem ddI_len : ∀ ns : List Int, (ddI ns).length ≤ ns.length
  | [] => Nat.le_refl _
  | x :: r => by
    have ih := ddI_len r
    unfold ddI
    split
    · rw [List.length_cons]
      omega
    · rw [List.length_cons, List.length_cons]
      omega
theorem strict_uniq {a ns : List Int} (h : a.Pairwise (· < ·)) (hm : ∀ k, k ∈ a ↔ k ∈ ns) : a = sortI (ddI ns) := by
  refine sorted_uniq ?_ (h.imp fun q => by omega)
  have nd : a.Nodup := h.imp fun q e => by omega
  exact (List.perm_ext_iff_of_nodup nd (ddI_nodup ns)).mpr fun k => (hm k).trans (ddI_mem k ns).symm

theorem sortI_strict {ns : List Int} (h : ns.Nodup) : (sortI ns).Pairwise (· < ·) := by
  have nd : (sortI ns).Nodup := (sortI_perm ns).nodup_iff.mpr h
  have hs := sortI_sorted ns
  have both := hs.and nd
  exact both.imp fun q => by
    have := q.1
    have := q.2
    omega
theorem strict_eq {a ns : List Int} (h : a.Pairwise (· < ·)) (nd : ns.Nodup) (hm : ∀ k, k ∈ a ↔ k ∈ ns) : a = sortI ns :=
  sorted_uniq ((List.perm_ext_iff_of_nodup (h.imp fun q e => by omega) nd).mpr hm) (h.imp fun q => by omega)
/-! ### comprehensions -/
theorem wipe_at (ρ : Env) (j : Nat) : ∀ own : List Nat, (wipeE ρ own)[j]? = if j ∈ own ∧ j < ρ.length then some .un else ρ[j]?
  | [] => by simp [wipeE]
  | i :: r => by
    have ih := wipe_at ρ j r
    have hl : ∀ own : List Nat, (wipeE ρ own).length = ρ.length := fun own => by
      induction own with
      | nil => rfl
      | cons a b ih => simp only [wipeE, List.length_set, ih]
    simp only [wipeE]
    by_cases e : i = j
    · subst e
      rw [List.getElem?_set]
      rw [hl]
      by_cases q : i < ρ.length
      · simp [q]
      · simp [q]
    · rw [List.getElem?_set_ne e, ih]
      simp only [List.mem_cons, Ne.symm e, false_or]
theorem back_at (ρ0 ρ : Env) (j : Nat) : ∀ own : List Nat, (backE ρ0 ρ own)[j]? = if j ∈ own ∧ j < ρ.length then some (backS ρ0[j]?) else ρ[j]?
  | [] => by simp [backE]
  | i :: r => by
    have ih := back_at ρ0 ρ j r
    have hl : ∀ own : List Nat, (backE ρ0 ρ own).length = ρ.length := fun own => by
      induction own with
      | nil => rfl
      | cons a b ih => simp only [backE, List.length_set, ih]
    simp only [backE]
    by_cases e : i = j
    · subst e
      rw [List.getElem?_set]
      rw [hl]
      by_cases q : i < ρ.length
      · simp [q]
      · simp [q]
    · rw [List.getElem?_set_ne e, ih]
      simp only [List.mem_cons, Ne.symm e, false_or]
def soft : Option Slot → Prop
  | some .un => True
  | some (.val _) => True
  | none => True
  | _ => False
theorem back_same {ρ0 ρ : Env} {own : List Nat} (h : wipeE ρ own = wipeE ρ0 own) (hs : ∀ i ∈ own, soft ρ0[i]?) : backE ρ0 ρ own = ρ0 := by
  have hl : ∀ (ρ : Env) (own : List Nat), (wipeE ρ own).length = ρ.length := fun ρ own => by
    induction own with
    | nil => rfl
    | cons a b ih => simp only [wipeE, List.length_set, ih]
  have hlen : ρ.length = ρ0.length := by
    have := congrArg List.length h
    rwa [hl, hl] at this
  apply List.ext_getElem?
  intro j
  rw [back_at]
  have e := congrArg (fun (l : Env) => l[j]?) h
  simp only [wipe_at] at e
  by_cases m : j ∈ own ∧ j < ρ.length
  · rw [if_pos m]
    have q := hs j m.1
    have lt : j < ρ0.length := by omega
    rw [List.getElem?_eq_getElem lt] at q ⊢
    cases z : ρ0[j] with
    | un => rfl
    | val d => rfl
    | own k =>
      rw [z] at q
      exact q.elim
    | bor k =>
      rw [z] at q
      exact q.elim
    | exc k =>
      rw [z] at q
      exact q.elim
  · rw [if_neg m]
    rw [if_neg m, if_neg (by rw [← hlen]; exact m)] at e
    exact e
theorem comp_ok (own : List Nat) (g : Tg) (t : T) (e : E) (p : D → Bool) (h : D → D) (ρ : Env) : ∀ (xs acc : List D), acc.length + xs.length ≤ 100000 →
    (∀ x ∈ xs, ∃ ρ1, g x (wipeE ρ own) = some ρ1 ∧ t ρ1 = .ok (p x) ρ1 ∧ (p x = true → val e ρ1 = .ok (h x) ρ1) ∧ wipeE ρ1 own = wipeE ρ own) →
    ∀ ρ', wipeE ρ' own = wipeE ρ own → ∃ ρf, comp own g t e xs acc ρ' = .ok (acc ++ (xs.filter p).map h) ρf ∧ wipeE ρf own = wipeE ρ own
  | [], acc, _, _, ρ', hw => ⟨ρ', by simp [comp], hw⟩
  | x :: xs, acc, hl, hx, ρ', hw => by
    obtain ⟨ρ1, e1, e2, e3, e4⟩ := hx x List.mem_cons_self
    simp only [List.length_cons] at hl
    have hx' := fun y hy => hx y (List.mem_cons_of_mem _ hy)
    cases q : p x with
    | false =>
      obtain ⟨ρf, q1, q2⟩ := comp_ok own g t e p h ρ xs acc (by omega) hx' ρ1 e4
      refine ⟨ρf, ?_, q2⟩
      rw [q] at e2
      simp only [comp, hw, e1, e2, q1]
      rw [List.filter_cons_of_neg (by rw [q]; exact Bool.false_ne_true)]
    | true =>
      obtain ⟨ρf, q1, q2⟩ := comp_ok own g t e p h ρ xs (acc ++ [h x]) (by simp only [List.length_append, List.length_singleton]; omega) hx' ρ1 e4
      refine ⟨ρf, ?_, q2⟩
      rw [q] at e2
      have e3 := e3 q
      simp only [comp, hw, e1, e2]
      simp only [e3]
      rw [if_pos (by omega), q1, List.filter_cons_of_pos q]
      simp
/-- a comprehension that leaves the slots alone -/
theorem lc_ok {own : List Nat} {src : M (List D)} {g : Tg} {t : T} {e : E} {ρ ρ0 : Env} {xs : List D} (p : D → Bool) (h : D → D) (hs : src ρ = .ok xs ρ0) (hl : xs.length ≤ 100000) (soft0 : ∀ i ∈ own, soft ρ0[i]?)
    (each : ∀ x ∈ xs, ∃ ρ1, g x (wipeE ρ0 own) = some ρ1 ∧ t ρ1 = .ok (p x) ρ1 ∧ (p x = true → val e ρ1 = .ok (h x) ρ1) ∧ wipeE ρ1 own = wipeE ρ0 own) :
    eLc own src g t e ρ = .ok (.o (.lst ((xs.filter p).map h))) ρ0 := by
  obtain ⟨ρf, q1, q2⟩ := comp_ok own g t e p h ρ0 xs [] (by simpa using hl) each ρ0 rfl
  unfold eLc bind
  simp only [hs, q1, List.nil_append]
  rw [back_same q2 soft0]
/-! ### loops -/
theorem loop_ok {g : Tg} {b : S} (I : Nat → Env → Prop) : ∀ (xs : List D) (n : Nat) (ρ : Env), I n ρ →
    (∀ (i : Nat) (x : D) (ρ : Env), xs[i]? = some x → I (n + i) ρ → ∃ ρ1 ρ2, g x ρ = some ρ1 ∧ (b ρ1 = .nx ρ2 ∨ b ρ1 = .ct ρ2) ∧ I (n + i + 1) ρ2) → ∃ ρ', loop g b xs ρ = .nx ρ' ∧ I (n + xs.length) ρ'
  | [], n, ρ, h, _ => ⟨ρ, rfl, h⟩
  | x :: xs, n, ρ, h, hs => by
    obtain ⟨ρ1, ρ2, e1, e2, e3⟩ := hs 0 x ρ rfl h
    obtain ⟨ρ', q1, q2⟩ := loop_ok I xs (n + 1) ρ2 e3 fun i y ρ hy hI => by
      have hI' : I (n + (i + 1)) ρ := by
        rw [show n + (i + 1) = n + 1 + i by omega]
        exact hI
      obtain ⟨a, c, r1, r2, r3⟩ := hs (i + 1) y ρ (by simpa using hy) hI'
      exact ⟨a, c, r1, r2, by rw [show n + 1 + i + 1 = n + (i + 1) + 1 by omega]; exact r3⟩
    refine ⟨ρ', ?_, by rw [List.length_cons, show n + (xs.length + 1) = n + 1 + xs.length by omega]; exact q2⟩
    rcases e2 with e2 | e2 <;> simp only [loop, e1, e2, q1]
theorem ret_ok {m : E} {ρ ρ' : Env} {r : Rv} (h : m ρ = .ok r ρ') : sRet m ρ = .rt r ρ' := by simp only [sRet, runM, h]
theorem asg_ok {m : E} {i : Nat} {ρ ρ' ρ2 : Env} {r : Rv} (h : m ρ = .ok r ρ') (hs : store ρ' i r.sl = some ρ2) : sAsg i m ρ = .nx ρ2 := by simp only [sAsg, runM, h, hs]
theorem val_ok {m : E} {ρ ρ' : Env} {r : Rv} (h : m ρ = .ok r ρ') : val m ρ = .ok r.fr ρ' := by simp only [val, bind, h, ret]
theorem for_ok {src : M (List D)} {g : Tg} {b : S} {ρ ρ' : Env} {xs : List D} {f : Fl} (h : src ρ = .ok xs ρ') (hl : loop g b xs ρ' = f) : sFor src g b ρ = f := by simp only [sFor, runM, h, hl]
theorem fn_ret {n : Nat} {b : S} {as : List Slot} {r : Rv} {ρ : Env} {sl : List Slot} (h : b (as ++ List.replicate (n - as.length) .un) = .rt r ρ) (hs : outE as.length ρ = sl) : fn n b as = .ok r sl := by rw [fn_rt h, hs]
theorem e2_ok {f : D → D → Option Rv} {a b : E} {ρ ρ1 ρ2 : Env} {x y : D} {z : Rv} (h1 : val a ρ = .ok x ρ1) (h2 : val b ρ1 = .ok y ρ2) (h3 : f x y = some z) : e2 f a b ρ = .ok z ρ2 := by
  show bind (val a) (fun x => bind (val b) fun y => opt (f x y)) ρ = _
  generalize val a = va at *
  generalize val b = vb at *
  simp only [bind, h1, h2, h3, opt, ret]
theorem at0 {α : Type} {a : α} {r : List α} : dAt (a :: r) 0 = some a := by
  unfold dAt ixAt
  rw [if_pos (by decide), if_pos (by simp)]
  rfl
theorem at1 {α : Type} {a b : α} {r : List α} : dAt (a :: b :: r) 1 = some b := by
  unfold dAt ixAt
  rw [if_pos (by decide), if_pos (by simp only [List.length_cons]; omega)]
  rfl
end Dn
set_option Elab.async false
set_option linter.all false
set_option maxRecDepth 100000
set_option maxHeartbeats 4000000
/-! More rules: bits, sorting, slices, chains, augmented names. -/
namespace Dn
open PySem L2
section
variable {K : Fr} {c : Cxt} {ma mb md : E}
theorem o_shl : Op2 K c (rI CShl fun i j => .int (i * 2 ^ j.toNat)) oShl := by
  intro ρ σ S H x y vx vy z Q st rx ry e k
  cases rx <;> cases ry <;> first | (simp only [oShl] at e; cases e; done) | skip
  simp only [oShl] at e
  split at e
  · rename_i h
    cases e
    exact ⟨_, _, rfl, rfl, h, keep_d st k (R.int _)⟩
  · cases e
theorem o_shr : Op2 K c (rI (fun _ j => 0 ≤ j) fun i j => .int (i / 2 ^ j.toNat)) oShr := by
  intro ρ σ S H x y vx vy z Q st rx ry e k
  cases rx <;> cases ry <;> first | (simp only [oShr] at e; cases e; done) | skip
  simp only [oShr] at e
  split at e
  · rename_i h
    cases e
    exact ⟨_, _, rfl, rfl, h, keep_d st k (R.int _)⟩
  · cases e
theorem o_band : Op2 K c (rI0 fun i j => .int (Builtin.bitAnd i j)) oBand := by
  intro ρ σ S H x y vx vy z Q st rx ry e k
  cases rx <;> cases ry <;> first | (simp only [oBand] at e; cases e; done) | skip
  simp only [oBand] at e
  cases e
  exact ⟨_, _, rfl, rfl, keep_d st k (R.int _)⟩
theorem o_bor : Op2 K c (rI0 fun i j => .int (Builtin.bitOr i j)) oBor := by
  intro ρ σ S H x y vx vy z Q st rx ry e k
  cases rx <;> cases ry <;> first | (simp only [oBor] at e; cases e; done) | skip
  simp only [oBor] at e
  cases e
  exact ⟨_, _, rfl, rfl, keep_d st k (R.int _)⟩
theorem o_max1 : Op1 K c (fun v => rMax K [v]) oMax1 := by
  intro ρ σ S H x vx z Q st rx e k
  cases rx <;> first | (simp only [oMax1] at e; cases e; done) | skip
  rename_i h1 h2
  simp only [oMax1, Option.bind_eq_some_iff, Option.map_eq_some_iff] at e
  obtain ⟨ns, e1, m, e2, rfl⟩ := e
  obtain ⟨q1, q2⟩ := maxI_spec e2
  refine ⟨_, ns, rfl, SqL.of (by rw [← h2.isof e1]; exact st.sub _ _ h1), List.length_pos_of_mem q1, fun m' h3 h4 => ?_⟩
  have e3 : m' = m := by
    have := h4 m q1
    have := q2 m' h3
    omega
  subst e3
  exact keep_d st k (R.int _)
theorem o_min1 : Op1 K c (fun v => rMin K [v]) oMin1 := by
  intro ρ σ S H x vx z Q st rx e k
  cases rx <;> first | (simp only [oMin1] at e; cases e; done) | skip
  rename_i h1 h2
  simp only [oMin1, Option.bind_eq_some_iff, Option.map_eq_some_iff] at e
  obtain ⟨ns, e1, m, e2, rfl⟩ := e
  obtain ⟨q1, q2⟩ := minI_spec e2
  refine ⟨_, ns, rfl, SqL.of (by rw [← h2.isof e1]; exact st.sub _ _ h1), List.length_pos_of_mem q1, fun m' h3 h4 => ?_⟩
  have e3 : m' = m := by
    have := h4 m q1
    have := q2 m' h3
    omega
  subst e3
  exact keep_d st k (R.int _)
theorem o_sorted : Op1 K c (fun v => rSortedI K [v]) oSorted := by
  intro ρ σ S H x vx z Q st rx e k
  cases rx <;> first | (simp only [oSorted] at e; cases e; done) | skip
  rename_i h1 h2
  simp only [oSorted, Option.map_eq_some_iff] at e
  obtain ⟨ns, e1, rfl⟩ := e
  refine ⟨_, ns, rfl, SqL.of (by rw [← h2.isof e1]; exact st.sub _ _ h1), fun ns' p hp hs hn => ?_⟩
  rw [sorted_uniq hp hs]
  exact new_o st k (Rs.ints _) hn
/-- sorted(set(xs)) -/
def tSortedSet (K : PySem.W.Frag) (w : World) (ta : TE) : TE := fun σ H Q => ta σ H fun x H1 => rSetL K w [x] H1 fun y H2 => rSortedSet w [y] H2 Q
theorem ev_sortedSet {w : World} {ta : TE} (ha : Ev K c ta (pV K c) ma) : Ev K c (tSortedSet K w ta) (pV K c) (e1 oSortedSet ma) := by
  refine ev_bind (u := fun σ (x : V) H (Q : VK) => rSetL K w [x] H fun y H2 => rSortedSet w [y] H2 Q) (ev_val ha) fun x vx ρ σ S H Q st rx g => ?_
  obtain ⟨z, e, g⟩ := goal_opt g
  cases rx <;> first | (simp only [oSortedSet] at e; cases e; done) | skip
  rename_i h1 h2
  simp only [oSortedSet, Option.bind_eq_some_iff] at e
  obtain ⟨ns, e1, e2⟩ := e
  split at e2
  · rename_i h64
    cases e2
    refine ⟨_, ns, rfl, SqL.of (by rw [← h2.isof e1]; exact st.sub _ _ h1), h64, fun p k hp hk => ?_⟩
    refine ⟨p, _, k, rfl, upd_same, by omega, fun ns' q hs hm hl hq => ?_⟩
    have hm' : ∀ j, j ∈ ns' ↔ j ∈ ns := fun j => (hm j).trans (by rw [decide_eq_true_eq])
    rw [strict_uniq hs hm']
    have st2 : StR K c ρ σ S (upd H p (SetO w p (fun j => decide (j ∈ ns)) k)) := st.newO hp
    exact new_o st2 (fun v S' H' a b d => g v S' H' a b d) (Rs.ints _) hq
  · cases e2
end
section
variable {X : Cx} {c : Cxt} {a b d : Expr} {pos p p2 p3 : Pos} {ma mb md : E}
theorem d_shl (ha : DE X c a ma) (hb : DE X c b mb) : DE X c (.BinOp a .LShift b pos) (e2 oShl ma mb) := ped (pe_op op_shlW ha hb) (ev_op2 o_shl ev_te ev_te)
theorem d_shr (ha : DE X c a ma) (hb : DE X c b mb) : DE X c (.BinOp a .RShift b pos) (e2 oShr ma mb) := ped (pe_op op_shr ha hb) (ev_op2 o_shr ev_te ev_te)
theorem d_band (ha : DE X c a ma) (hb : DE X c b mb) : DE X c (.BinOp a .BitAnd b pos) (e2 oBand ma mb) := ped (pe_op op_and ha hb) (ev_op2 o_band ev_te ev_te)
theorem d_bor (ha : DE X c a ma) (hb : DE X c b mb) : DE X c (.BinOp a .BitOr b pos) (e2 oBor ma mb) := ped (pe_op op_or ha hb) (ev_op2 o_bor ev_te ev_te)
theorem d_max1 (hc : X.calm = true) (hg : Gl X "max") (hm : X.mg "max" = none) (ha : DE X c a ma) (he : starEach [a] X.env = (false, eval a X.env) :: starEach [] X.env := by rfl) (hpl : (backTo pos (starEach [] X.env)).any (·.1) = false := by rfl) : DE X c (.Call (.Name "max" p) [a] [] pos) (e1 oMax1 ma) :=
  d_b1 (cr_max hc) o_max1 PyProof.Rows.boot_max (by decide) (by decide) hg hm ha he hpl
theorem d_min1 (hc : X.calm = true) (hg : Gl X "min") (hm : X.mg "min" = none) (ha : DE X c a ma) (he : starEach [a] X.env = (false, eval a X.env) :: starEach [] X.env := by rfl) (hpl : (backTo pos (starEach [] X.env)).any (·.1) = false := by rfl) : DE X c (.Call (.Name "min" p) [a] [] pos) (e1 oMin1 ma) :=
  d_b1 (cr_min hc) o_min1 PyProof.Rows.boot_min (by decide) (by decide) hg hm ha he hpl
theorem d_sorted (hg : Gl X "sorted") (hm : X.mg "sorted" = none) (ha : DE X c a ma) (he : starEach [a] X.env = (false, eval a X.env) :: starEach [] X.env := by rfl) (hpl : (backTo pos (starEach [] X.env)).any (·.1) = false := by rfl) : DE X c (.Call (.Name "sorted" p) [a] [] pos) (e1 oSorted ma) :=
  d_b1 cr_sortedI o_sorted PyProof.Rows.boot_sorted (by decide) (by decide) hg hm ha he hpl
theorem d_sortedSet (hc : X.calm = true) (hg : Gl X "sorted") (hm : X.mg "sorted" = none) (hg2 : Gl X "set") (hm2 : X.mg "set" = none) (ha : DE X c a ma) (he : starEach [a] X.env = (false, eval a X.env) :: starEach [] X.env := by rfl)
    (he2 : starEach [.Call (.Name "set" p2) [a] [] p3] X.env = (false, eval (.Call (.Name "set" p2) [a] [] p3) X.env) :: starEach [] X.env := by rfl) (hpl : (backTo p3 (starEach [] X.env)).any (·.1) = false := by rfl) (hpl2 : (backTo pos (starEach [] X.env)).any (·.1) = false := by rfl) :
    DE X c (.Call (.Name "sorted" p) [.Call (.Name "set" p2) [a] [] p3] [] pos) (e1 oSortedSet ma) :=
  ped (pe_callB (cr_sortedSet hc) hg hm PyProof.Rows.boot_sorted (pa_cons (pe_callTy (cr_setL hc) hg2 hm2 PyProof.Rows.boot_set (pa_cons ha pa_nil he) (by decide) (by decide) he hpl) pa_nil he2) (by decide) (by decide) he2 hpl2) (ev_sortedSet ev_te)
end
/-! ### bit_length, list(range), slices, chains, x += e -/
section
variable {K : Fr} {c : Cxt} {ma mb md : E}
theorem ev_bits {ta : TE} (ha : Ev K c ta (pV K c) ma) : Ev K c (tBits ta) (pV K c) (e1 oBitLen ma) := by
  refine ev_bind (u := fun σ (x : V) H (Q : VK) => ∃ i, x = .int i ∧ Q (.int (Builtin.Int.intBits i : Nat)) H) (ev_val ha) fun x vx ρ σ S H Q st rx g => ?_
  obtain ⟨z, e, g⟩ := goal_opt g
  cases rx <;> first | (simp only [oBitLen] at e; cases e; done) | skip
  simp only [oBitLen, Option.some.injEq] at e
  subst e
  exact ⟨_, rfl, g _ S H st (Ex.refl _) (R.int _)⟩
theorem rs_upTo {H : Hp} (i : Int) (n : Nat) : Rs K H ((List.range n).map fun (k : Nat) => V.int (i + (k : Nat))) (upTo i n) := by
  unfold upTo
  generalize List.range n = l
  induction l with
  | nil => exact .nil
  | cons a r ih => exact .cons (.int _) ih
theorem ev_listR2 {ta tb : TE} (ha : Ev K c ta (pV K c) ma) (hb : Ev K c tb (pV K c) mb) : Ev K c (tLstRg (tRg2 ta tb)) (pV K c) (eListR2 ma mb) := by
  refine ev_two (u := fun x y H (Q : VK) => ∃ i j, x = V.int i ∧ y = V.int j ∧ RgOk i j ∧ ∀ q, H q = none → Q (.ref q) (upd H q (.lst (rgV i j)))) ha hb fun x y vx vy ρ σ S H Q st rx ry g => ?_
  cases rx <;> first | exact g.elim | skip
  cases ry <;> first | exact g.elim | skip
  rename_i i j
  simp only at g
  split at g
  · rename_i h
    simp only [Bool.and_eq_true, decide_eq_true_eq, bigOk] at h
    obtain ⟨⟨⟨h1, h2⟩, h3, h4⟩, h5⟩ := h
    exact ⟨i, j, rfl, rfl, ⟨by omega, by omega, by omega, by omega, by omega⟩, fun q hq => new_o st (fun v S' H' s e p => g v S' H' s e p) (rs_upTo i _) hq⟩
  · exact g.elim
theorem ixS_eq (n d : Nat) (o : Option Int) : ixS n d o = HT.sIx n d o := by cases o <;> rfl
theorem cutV_eq (xs : List V) (lo hi : Option Int) : cutV xs lo hi = cutL xs lo hi := by
  unfold cutV cutL
  rw [ixS_eq, ixS_eq]
theorem Rs.drop {H : Hp} : ∀ {vs : List V} {ds : List D} (n : Nat), Rs K H vs ds → Rs K H (vs.drop n) (ds.drop n)
  | _, _, 0, h => h
  | _, _, n + 1, .nil => .nil
  | _, _, n + 1, .cons _ h => Rs.drop n h
theorem Rs.take {H : Hp} : ∀ {vs : List V} {ds : List D} (n : Nat), Rs K H vs ds → Rs K H (vs.take n) (ds.take n)
  | _, _, 0, _ => by
    rw [List.take_zero, List.take_zero]
    exact .nil
  | _, _, n + 1, .nil => .nil
  | _, _, n + 1, .cons a h => .cons a (Rs.take n h)
theorem Rs.cut {H : Hp} {vs : List V} {ds : List D} (lo hi : Option Int) (h : Rs K H vs ds) : Rs K H (cutL vs lo hi) (cutL ds lo hi) := by
  unfold cutL
  rw [h.length]
  exact Rs.take _ (Rs.drop _ h)
theorem cut_all {α : Type} {xs : List α} {lo hi : Option Int} (h : HT.sIx xs.length 0 lo = 0 ∧ HT.sIx xs.length xs.length hi = xs.length) : cutL xs lo hi = xs := by
  unfold cutL
  rw [ixS_eq, ixS_eq, h.1, h.2]
  simp
def rSlAll (K : PySem.W.Frag) : V → Option Int → Option Int → Hp → VK → Prop := fun x lo hi H Q => (rSlL K x lo hi H Q ∨ rSlA K x lo hi H Q) ∨ rSlS x lo hi H Q
theorem sl_all {X : Cx} : SlR X (rSlAll X.K) := (sl_list.or sl_tupA).or sl_str
def pO : L2.St → Option Int → Sh → Hp → Option Int → Prop := fun _ a _ _ b => b = a
theorem o_sl {ρ : Env} {σ : L2.St} {S : Sh} {H : Hp} {x : D} {vx : V} {lo hi : Option Int} {z : Rv} {Q : VK} (st : StR K c ρ σ S H) (rx : R K S.h vx x) (e : oSl x lo hi = some z) (k : ∀ v S' H', StR K c ρ σ S' H' → Ex S.h S'.h → RvR K c z S' H' v → Q v H') : rSlAll K vx lo hi H Q := by
  cases rx <;> first | (simp only [oSl] at e; cases e; done) | skip
  · rename_i w
    simp only [oSl] at e
    split at e
    · rename_i hz
      cases e
      refine .inr ⟨w, rfl, Evl.sz_of hz, ?_⟩
      have e2 : cutS w lo hi = ⟨(cutL w.cps.toList lo hi).toArray⟩ := by
        unfold cutS cutL
        rw [ixS_eq, ixS_eq]
        rfl
      rw [e2]
      exact keep_d st k (R.str _)
    · cases e
  · rename_i a xs ds h1 h2
    simp only [oSl, Option.some.injEq] at e
    subst e
    refine .inl (.inr ⟨a, xs, rfl, ex_t st.subE h1, fun hw => ?_, fun hw p hp => ?_⟩)
    · have hl : xs.length = ds.length := h2.length
      rw [cut_all (by rw [← hl]; exact hw)] at k
      exact keep_d st k (R.tup h1 h2)
    · rw [cutV_eq]
      exact new_t st k (h2.cut lo hi) hp
  · rename_i a xs ds h1 h2
    simp only [oSl, Option.some.injEq] at e
    subst e
    refine .inl (.inl ⟨a, xs, rfl, SqL.of (st.sub _ _ h1), fun p hp => ?_⟩)
    rw [cutV_eq]
    exact new_o st k (h2.cut lo hi) hp
theorem ev_pNone : Ev K c tNoPart pO pNone := fun ρ σ S H Q st g => g none S H st (Ex.refl _) rfl
theorem ev_pSome {ta : TE} (ha : Ev K c ta (pV K c) ma) : Ev K c (tPart ta) pO (pSome ma) := by
  refine ev_bind (u := fun σ (x : V) H (Q : Option Int → Hp → Prop) => ∃ i, x = V.int i ∧ Q (some i) H) (ev_val ha) fun x vx ρ σ S H Q st rx g => ?_
  cases rx <;> first | exact g.elim | skip
  exact ⟨_, rfl, g _ S H st (Ex.refl _) rfl⟩
end
section
variable {K : Fr} {c : Cxt} {ma mb md : E}
theorem goal_bind {α β γ δ : Type} {t : L2.St → Hp → (δ → Hp → Prop) → Prop} {P0 : L2.St → α → Sh → Hp → δ → Prop} {m : M α} {f : α → M β} {P' : β → Sh → Hp → γ → Prop} {ρ : Env} {σ : L2.St} {S : Sh} {H : Hp} {Q : γ → Hp → Prop} {R0 : δ → Hp → Prop}
    (h : Ev K c t P0 m) (st : StR K c ρ σ S H) (g : Goal K c σ S P' (bind m f ρ) Q) (k : ∀ a b ρ' S' H', StR K c ρ' σ S' H' → Ex S.h S'.h → P0 σ a S' H' b → Goal K c σ S' P' (f a ρ') Q → R0 b H') : t σ H R0 := by
  refine h ρ σ S H R0 st ?_
  unfold bind at g
  cases e : m ρ with
  | bad =>
    simp only [e] at g
    exact g.elim
  | err er ρ' =>
    simp only [e] at g
    exact g
  | ok a ρ' =>
    simp only [e] at g
    exact fun b S' H' st' ex p => k a b ρ' S' H' st' ex p (g.mono ex)
theorem ev_sl {ta : TE} {tl th : TO} {lo hi : PM} (ha : Ev K c ta (pV K c) ma) (hl : Ev K c tl pO lo) (hh : Ev K c th pO hi) : Ev K c (tSl (rSlAll K) ta tl th) (pV K c) (eSl ma lo hi) := by
  refine ev_bind (u := fun σ (x : V) H (Q : VK) => tl σ H fun l H2 => th σ H2 fun u H3 => rSlAll K x l u H3 Q) (ev_val ha) fun x vx ρ σ S H Q st rx g => ?_
  refine goal_bind hl st g fun l l' ρ1 S1 H1 st1 ex1 el g1 => ?_
  cases el
  refine goal_bind hh st1 g1 fun u u' ρ2 S2 H2 st2 ex2 eu g2 => ?_
  cases eu
  obtain ⟨z, e, g3⟩ := goal_opt g2
  exact o_sl st2 (rx.mono (ex1.trans ex2)) e fun v S' H' a b d => g3 v S' H' a b d
theorem ev_chainV {ta tb tc : TE} {r r' : R2} {f f' : D → D → Option Bool} (hr : Cp2 K c r f) (hr' : Cp2 K c r' f') (ha : Ev K c ta (pV K c) ma) (hb : Ev K c tb (pV K c) mb) (hc : Ev K c tc (pV K c) md) : Ev K c (tChain r r' ta tb tc) (pV K c) (eT (eChain f f' ma mb md)) := by
  intro ρ σ S H Q st g
  have e0 : eT (eChain f f' ma mb md) ρ = bind (val ma) (fun x => bind (val mb) fun y => bind (opt (f x y)) fun k => if k then bind (val md) fun z => bind (opt (f' y z)) fun k => ret (.d (.bl k)) else ret (.d (.bl false))) ρ := by
    unfold eT eChain bind
    cases val ma ρ with
    | bad => rfl
    | err er ρ' => rfl
    | ok x ρ1 =>
      simp only
      cases val mb ρ1 with
      | bad => rfl
      | err er ρ' => rfl
      | ok y ρ2 =>
        simp only
        cases f x y with
        | none => rfl
        | some k =>
          cases k with
          | false => rfl
          | true =>
            simp only [opt, ret, if_true]
            cases val md ρ2 with
            | bad => rfl
            | err er ρ' => rfl
            | ok z ρ3 =>
              cases f' y z <;> rfl
  rw [e0] at g
  show ta σ H _
  refine goal_bind (ev_val ha) st g fun x vx ρ1 S1 H1 st1 ex1 rx g1 => ?_
  refine goal_bind (ev_val hb) st1 g1 fun y vy ρ2 S2 H2 st2 ex2 ry g2 => ?_
  cases e : f x y with
  | none =>
    rw [e] at g2
    exact g2.elim
  | some k =>
    rw [e] at g2
    refine hr ρ2 σ S2 H2 x y vx vy k _ st2 (R.mono ex2 rx) ry e ⟨k, rfl, ?_⟩
    cases k with
    | false => exact g2 (.bl false) S2 H2 st2 (Ex.refl _) (R.bl false)
    | true =>
      refine goal_bind (ev_val hc) st2 g2 fun z vz ρ3 S3 H3 st3 ex3 rz g3 => ?_
      cases e' : f' y z with
      | none =>
        rw [e'] at g3
        exact g3.elim
      | some k =>
        rw [e'] at g3
        exact hr' ρ3 σ S3 H3 y z vy vz k _ st3 (R.mono ex3 ry) rz e' (g3 (.bl k) S3 H3 st3 (Ex.refl _) (R.bl k))
theorem ev_chainT {ta tb tc : TE} {r r' : R2} {f f' : D → D → Option Bool} (hr : Cp2 K c r f) (hr' : Cp2 K c r' f') (ha : Ev K c ta (pV K c) ma) (hb : Ev K c tb (pV K c) mb) (hc : Ev K c tc (pV K c) md) : Ev K c (tTest (tChain r r' ta tb tc)) pB (eChain f f' ma mb md) := by
  intro ρ σ S H Q st g
  show ta σ H _
  refine goal_bind (ev_val ha) st g fun x vx ρ1 S1 H1 st1 ex1 rx g1 => ?_
  refine goal_bind (ev_val hb) st1 g1 fun y vy ρ2 S2 H2 st2 ex2 ry g2 => ?_
  cases e : f x y with
  | none =>
    rw [e] at g2
    exact g2.elim
  | some k =>
    rw [e] at g2
    refine hr ρ2 σ S2 H2 x y vx vy k _ st2 (R.mono ex2 rx) ry e ⟨k, rfl, ?_⟩
    cases k with
    | false => exact ⟨false, rfl, g2 false S2 H2 st2 (Ex.refl _) rfl⟩
    | true =>
      refine goal_bind (ev_val hc) st2 g2 fun z vz ρ3 S3 H3 st3 ex3 rz g3 => ?_
      cases e' : f' y z with
      | none =>
        rw [e'] at g3
        exact g3.elim
      | some k =>
        rw [e'] at g3
        exact hr' ρ3 σ S3 H3 y z vy vz k _ st3 (R.mono ex3 ry) rz e' ⟨k, rfl, g3 k S3 H3 st3 (Ex.refl _) rfl⟩
/-- one comparison of a chain -/
structure Qc (X : Cx) (op : CmpOp) (f : D → D → Option Bool) : Prop where
  ex : ∃ r : R2, OpR X (compareOp op) r ∧ ∀ c : Cxt, Cp2 (cxFr X) c r f
theorem q_lt {X : Cx} : Qc X .Lt oLt := ⟨⟨_, op_ltAll, fun c => o_lt⟩⟩
theorem q_le {X : Cx} : Qc X .LtE oLe := ⟨⟨_, op_le, fun c => o_le⟩⟩
theorem q_gt {X : Cx} : Qc X .Gt oGt := ⟨⟨_, op_gt, fun c => o_gt⟩⟩
theorem q_ge {X : Cx} : Qc X .GtE oGe := ⟨⟨_, op_ge, fun c => o_ge⟩⟩
end
/-- x += e, ints -/
theorem evs_augI {K : Fr} {c : Cxt} {te : TE} {m : E} {i : Nat} {F : Int → Int → Int} {f : D → D → Option Rv} (hf : ∀ x y z, f x y = some (.d z) → ∀ a b, x = .int a → y = .int b → z = .int (F a b)) (hn : ∀ x y z, f x y = some (.d z) → (∃ a b, x = .int a ∧ y = .int b)) (h : Ev K c te (pV K c) m) :
    EvS K c (tAug i te (ipI F)) (sAug f i m) := by
  intro ρ σ S H D0 st g
  unfold sAug at g
  cases e0 : ρ[i]? with
  | none =>
    rw [e0] at g
    exact g.elim
  | some s0 =>
    rw [e0] at g
    cases s0 with
    | val x =>
      obtain ⟨v, e1, rx⟩ := st.val i x e0
      refine ⟨v, e1, ev_val h ρ σ S H _ st ?_⟩
      simp only at g
      cases e2 : val m ρ with
      | bad =>
        simp only [e2] at g
        exact g.elim
      | err er ρ' =>
        simp only [e2] at g
        exact fun cls od S' H' st' ex er => g cls od σ S' H' st' ex er
      | ok y ρ' =>
        simp only [e2] at g
        intro vy S' H' st' ex ry
        cases e3 : f x y with
        | none =>
          simp only [e3] at g
          exact g.elim
        | some z =>
          simp only [e3] at g
          cases z with
          | o k => exact g.elim
          | d z =>
            simp only at g
            obtain ⟨a, b, rfl, rfl⟩ := hn x y z e3
            have ez := hf _ _ z e3 a b rfl rfl
            subst ez
            cases rx
            cases ry
            refine ⟨a, b, rfl, rfl, ?_⟩
            cases e4 : store ρ' i (.val (.int (F a b))) with
            | none =>
              rw [e4] at g
              exact g.elim
            | some ρ2 =>
              rw [e4] at g
              obtain ⟨S2, s2, e5⟩ := st'.store (r := .d (.int (F a b))) e4 (R.int _)
              exact g _ S2 H' s2 (by rw [e5]; exact ex)
    | un => exact g.elim
    | own k => exact g.elim
    | bor k => exact g.elim
    | exc k => exact g.elim
section
variable {X : Cx} {c : Cxt} {a b d : Expr} {pos p p2 p3 : Pos} {ma mb md : E}
theorem d_bitlen {apos : Pos} (ha : DE X c a ma) (hbase : attributeBase a "bit_length" X.env (eval a X.env) = eval a X.env := by rfl) (hline : (apos.endLine == pos.line) = true := by rfl) : DE X c (.Call (.Attribute a "bit_length" apos) [] [] pos) (e1 oBitLen ma) := ped (pe_bits ha hbase hline) (ev_bits ev_te)
theorem d_listR2 (hc : X.calm = true) (hg : Gl X "list") (hm : X.mg "list" = none) (hg2 : Gl X "range") (hm2 : X.mg "range" = none) (ha : DE X c a ma) (hb : DE X c b mb)
    (na : starEach [.Call (.Name "range" p2) [a, b] [] p3] X.env = (false, eval (.Call (.Name "range" p2) [a, b] [] p3) X.env) :: starEach [] X.env := by rfl) (hs : starEach [a, b] X.env = (false, eval a X.env) :: starEach [b] X.env := by rfl) (hs2 : starEach [b] X.env = (false, eval b X.env) :: starEach [] X.env := by rfl) (hp : (backTo p3 (starEach [b] X.env)).any (·.1) = false := by rfl) : DE X c (.Call (.Name "list" p) [.Call (.Name "range" p2) [a, b] [] p3] [] pos) (eListR2 ma mb) :=
  ped (pe_listRg hc hg hm (prg_2 hg2 hm2 ha hb hs hs2 hp) na) (ev_listR2 ev_te ev_te)
abbrev DO (X : Cx) (c : Cxt) (e : Option Expr) (m : PM) : Prop := PO X e (wpOf (cxFr X) c pO m)
theorem o_none : DO X c none pNone := ⟨fun pins s σ H Q I h => po_none.run pins s σ H Q I (by
  obtain ⟨ρ, S, st, g⟩ := h
  exact ev_pNone ρ σ S H Q st g)⟩
theorem o_some (ha : DE X c a ma) : DO X c (some a) (pSome ma) := ⟨fun pins s σ H Q I h => (po_some ha).run pins s σ H Q I (by
  obtain ⟨ρ, S, st, g⟩ := h
  exact ev_pSome ev_te ρ σ S H Q st g)⟩
theorem d_sl {lo hi : Option Expr} {ml mh : PM} (ha : DE X c a ma) (hl : DO X c lo ml) (hh : DO X c hi mh) : DE X c (.Subscript a (.Slice lo hi none p2) pos) (eSl ma ml mh) := ped (pe_slice sl_all ha hl hh) (ev_sl ev_te ev_self ev_self)
theorem d_chain {op op' : CmpOp} {f f' : D → D → Option Bool} {e3 : Expr} {m3 : E} (q : Qc X op f) (q' : Qc X op' f') (ha : DE X c a ma) (hb : DE X c b mb) (hc : DE X c e3 m3) (hm : lastMarks [op, op'] [b, e3] = false := by with_unfolding_all rfl) : DE X c (.Compare a [op, op'] [b, e3] pos) (eT (eChain f f' ma mb m3)) := by
  obtain ⟨r, h1, h2⟩ := q.ex
  obtain ⟨r', h1', h2'⟩ := q'.ex
  exact ped (pe_chain h1 h1' ha hb hc hm) (ev_chainV (h2 c) (h2' c) ev_te ev_te ev_te)
theorem t_chain {op op' : CmpOp} {f f' : D → D → Option Bool} {e3 : Expr} {m3 : E} (q : Qc X op f) (q' : Qc X op' f') (ha : DE X c a ma) (hb : DE X c b mb) (hc : DE X c e3 m3) (hm : lastMarks [op, op'] [b, e3] = false := by with_unfolding_all rfl) : DT X c (.Compare a [op, op'] [b, e3] pos) (eChain f f' ma mb m3) := by
  obtain ⟨r, h1, h2⟩ := q.ex
  obtain ⟨r', h1', h2'⟩ := q'.ex
  exact ptd (pt_chain h1 h1' ha hb hc hm) (ev_chainT (h2 c) (h2' c) ev_te ev_te ev_te)
theorem s_aug_add (i : Nat) {x : Str} {pos' : Pos} (hN : X.N.Nodup) (h : DE X c a ma) (hi : X.N[i]? = some x := by rfl) (hx : Loc X.env.scope x := by first | exact Or.inl rfl | exact Or.inr rfl) (hf : X.fn x = true ∨ X.env.scope.names.lookup x = some .local := by first | exact Or.inl rfl | exact Or.inr rfl) :
    DS X c (.AugAssign (.Name x pos') .Add a pos) (sAug oAddI i ma) := psd (ps_aug hN hi hx h ip_add hf) (evs_augI (F := fun a b => a + b) (fun x y z e a b h1 h2 => by
      subst h1 h2
      simp only [oAddI, Option.some.injEq, Rv.d.injEq] at e
      exact e.symm) (fun x y z e => by
      cases x <;> cases y <;> first | (simp only [oAddI] at e; cases e; done) | exact ⟨_, _, rfl, rfl⟩) ev_te)
end
end Dn
set_option Elab.async false
set_option linter.all false
set_option maxRecDepth 100000
set_option maxHeartbeats 6400000
/-! t < u of two tuples whose first items differ, or are the same number; a text times a number. -/
namespace Dn
open PySem PySem.SeqAt PyProof.Rows L2
theorem first_lt (l b : Addr) (xs ys : Array Value) (n1 n2 : Nat) (d1 d2 : Option Addr) (s1 s2 : Array (Option Value)) (k : Bool) (p1 : 0 < xs.size) (p2 : 0 < ys.size) :
    Meets (Builtin.«tuple.__lt__» ⟨[.ref l, .ref b], []⟩) (fun A R s => s.heap.get? l = some { cls := .type "tuple", dict := d1, data := .seq xs n1, slots := s1 } ∧
      s.heap.get? b = some { cls := .type "tuple", dict := d2, data := .seq ys n2, slots := s2 } ∧ EqAt A.in1 s xs[0] ys[0] false ∧ RcLt A.in1 s xs[0] ys[0] k ∧ R (.ok (.ret (.bool k))) s) :=
  .of_wp fun prog w A R s hyp => by
    obtain ⟨h0, g0, dr, t0, o0⟩ := s
    obtain ⟨g1, g2, ne, lt, fin⟩ := hyp
    have f2 := AutoSeq1.sub_tuple_tuple
    have zl : (xs.toList.zip ys.toList).length = min xs.size ys.size := by simp
    wp_walk using wpAny_loadPart' g1, wpAny_loadPart' g2, wpAny_forIn_list _ (fun rest q s' => q.1 = none ∧ s' = ⟨h0, g0, dr, t0, o0⟩ ∧ rest = xs.toList.zip ys.toList) _
    case turn =>
      rintro ⟨y, x⟩ rest q s' ⟨q1, rfl, e⟩
      have e0 : (xs.toList.zip ys.toList)[0]? = some (y, x) := by rw [← e]; rfl
      have ex : xs[0]? = some y ∧ ys[0]? = some x := by
        rw [List.getElem?_zip_eq_some] at e0
        simpa using e0
      have a1 : y = xs[0] := by
        have := ex.1
        rw [Array.getElem?_eq_getElem p1] at this
        exact (Option.some.inj this).symm
      have a2 : x = ys[0] := by
        have := ex.2
        rw [Array.getElem?_eq_getElem p2] at this
        exact (Option.some.inj this).symm
      subst a1 a2
      have lt2 : ∀ (prog : Program) (w : World) (E : Value → Shared → Prop) (Q : Value → Shared → Prop), Q (.bool k) ⟨h0, g0, dr, t0, o0⟩ → wpAny (model prog w) A.in1 (PySem.richCompare .Lt xs[0] ys[0]) Q E ⟨h0, g0, dr, t0, o0⟩ := lt
      generalize PySem.richCompare = RC at lt2 ⊢
      refine wpAny_bind (ne prog w _ _ ?_)
      wp_walk
      refine lt2 prog w _ _ ?_
      wp_walk
      exact ⟨_, rfl, fin⟩
    case fin =>
      rintro ⟨q1, q2⟩ s' ⟨q3, rfl, e⟩
      have := congrArg List.length e
      rw [zl] at this
      simp at this
      omega
    case h => exact ⟨rfl, rfl, rfl⟩
theorem lt_first {A : Around} {s : Shared} {l b : Addr} {xs ys : Array Value} {k : Bool} (hl : s.heap.IsTuple l xs) (hb : s.heap.IsTuple b ys) (hu : A.units < cLine) (p1 : 0 < xs.size) (p2 : 0 < ys.size) (ne : EqAt A.in1 s xs[0] ys[0] false) (lt : RcLt A.in1 s xs[0] ys[0] k) :
    RcLt A s (.ref l) (.ref b) k := fun prog w E Q h => by
  obtain ⟨⟨c1, d1, e1, s1⟩, o1, r1, n1, z1⟩ := id hl
  obtain ⟨⟨c2, d2, e2, s2⟩, o2, r2, n2, z2⟩ := id hb
  simp only at r1 z1 r2 z2
  subst r1 z1 r2 z2
  exact richCompare_meets_room (op := .Lt) ⟨_, o1, rfl⟩ ⟨_, o2, rfl⟩ F.slot_tuple_lt F.entry_tuple_lt (F.args_tuple_lt_2 _ _) (first_lt l b xs ys n1 n2 d1 d2 s1 s2 k p1 p2)
    ⟨o1, o2, ne, lt, show Value.bool k ≠ Value.notImplemented ∧ Q (.bool k) s from ⟨(fun x => nomatch x), h⟩⟩ hu
/-- u < v, of one kind -/
def ltV : V → V → Option Bool
  | .int p, .int q => some (decide (p < q))
  | .str p, .str q => some (decide (p.cps.toList < q.cps.toList))
  | _, _ => none
def eqV : V → V → Bool
  | .int p, .int q => p == q
  | .str p, .str q => p == q
  | _, _ => false
section
variable {X : Cx}
def rLtP (K : PySem.W.Frag) : R2 := fun x y H Q => ∃ (a b : Addr) (i j : Int) (u v : V) (k : Bool), x = .ref a ∧ y = .ref b ∧ SqT K H a [.int i, u] ∧ SqT K H b [.int j, v] ∧ (if i = j then ltV u v else some (decide (i < j))) = some k ∧ Q (.bl k) H
theorem firstLt_two {e r : Nat → Bool} {k : Bool} (h0 : e 0 = true) (h1 : e 1 = true → k = false) (h2 : e 1 = false → r 1 = k) : firstLt e r false (List.range 2) = k := by
  show firstLt e r false [0, 1] = k
  unfold firstLt
  rw [if_pos h0]
  unfold firstLt
  cases z : e 1 with
  | true =>
    rw [if_pos rfl, h1 z]
    rfl
  | false =>
    rw [if_neg Bool.false_ne_true]
    exact h2 z
theorem op_ltP (hu : X.A.units < cLine) : OpR X (compareOp .Lt) (rLtP X.K) := by
  intro pins s σ H x y v u Q I rx ry h
  obtain ⟨a, b, i, j, p, q, k, rfl, rfl, ha, hb, hk, hq⟩ := h
  cases rx
  cases ry
  obtain ⟨its1, r1, t1, _⟩ := I.tuple ha
  obtain ⟨its2, r2, t2, _⟩ := I.tuple hb
  have fin : RcLt X.A s (.ref a) (.ref b) k := by
    cases r1 with
    | @cons _ w1 _ _ m1 r1 =>
      cases r1 with
      | @cons _ w2 _ _ m2 r1 =>
        cases r1
        cases r2 with
        | @cons _ w3 _ _ m3 r2 =>
          cases r2 with
          | @cons _ w4 _ _ m4 r2 =>
            cases r2
            obtain ⟨k1, rfl⟩ := m1
            obtain ⟨k3, rfl⟩ := m3
            by_cases e : i = j
            · subst e
              rw [if_pos rfl] at hk
              have e0 : ∀ A', EqAt A' s (.int i k1) (.int i k3) true := fun A' => by
                have := (MeetsSeq.EqGives.int i i k1 k3).at A' s
                simpa using this
              have e1 : ∃ z : Bool, (∀ A', EqAt A' s w2 w4 z) ∧ (z = true → k = false) ∧ (∀ A', RcLt A' s w2 w4 k) := by
                cases p with
                | int p =>
                  cases q with
                  | int q =>
                    obtain ⟨k2, rfl⟩ := m2
                    obtain ⟨k4, rfl⟩ := m4
                    simp only [ltV, Option.some.injEq] at hk
                    subst hk
                    refine ⟨p == q, fun A' => (MeetsSeq.EqGives.int p q k2 k4).at A' s, fun z => ?_, fun A' prog w E Q h => P.lt_int h⟩
                    have := eq_of_beq z
                    rw [decide_eq_false_iff_not]
                    omega
                  | _ => cases hk
                | str p =>
                  cases q with
                  | str q =>
                    obtain ⟨k2, rfl⟩ := m2
                    obtain ⟨k4, rfl⟩ := m4
                    simp only [ltV, Option.some.injEq] at hk
                    subst hk
                    refine ⟨p.cps.toList == q.cps.toList, fun A' => (SeqRoads2.EqGives.str p q k2 k4).at A' s, fun z => ?_, fun A' prog w E Q h => P.lt_str h⟩
                    rw [eq_of_beq z, decide_eq_false_iff_not]
                    exact List.lt_irrefl _
                  | _ => cases hk
                | _ => cases hk
              obtain ⟨z, z1, z2, z3⟩ := e1
              have := RcLt.tuples (e := fun n => if n = 0 then true else z) (r := fun _ => k) t1 t2 hu (fun n h1 h2 => ?_) (fun n h1 h2 hn => ?_)
              · rw [show decide (([Value.int i k1, w2].toArray).size < ([Value.int i k3, w4].toArray).size) = false from rfl, show min ([Value.int i k1, w2].toArray).size ([Value.int i k3, w4].toArray).size = 2 from rfl, firstLt_two rfl z2 (fun _ => rfl)] at this
                exact this
              · match n, h1, h2 with
                | 0, _, _ => exact e0 _
                | 1, _, _ => exact z1 _
              · match n, h1, h2, hn with
                | 0, _, _, hn => cases hn
                | 1, _, _, _ => exact z3 _
            · rw [if_neg e] at hk
              have hk := Option.some.inj hk
              subst hk
              refine lt_first t1 t2 hu (Nat.zero_lt_succ 1) (Nat.zero_lt_succ 1) ?_ (fun prog w E Q h => P.lt_int h)
              have := (MeetsSeq.EqGives.int i j k1 k3).at X.A.in1 s
              rwa [show (i == j) = false from beq_eq_false_iff_ne.mpr e] at this
  exact fin _ _ _ _ ⟨.bl k, H, I, rfl, hq⟩
end
section
variable {K : Fr} {c : Cxt} {ma mb : E}
theorem ltV_of {H : Hp} {u v : V} {x y : D} {k : Bool} (rx : R K H u x) (ry : R K H v y) (h : ltD x y = some k) : ltV u v = some k := by
  cases rx <;> cases ry <;> first | (simp only [ltD] at h; cases h; done) | exact h
theorem o_ltP : Cp2 K c (rLtP K) oLtP := by
  intro ρ σ S H x y vx vy k Q st rx ry e q
  unfold oLtP at e
  split at e
  · rename_i i u j v
    cases rx with
    | tup h1 h2 =>
      cases ry with
      | tup h3 h4 =>
        cases h2 with
        | cons a1 a2 =>
          cases a1
          cases a2 with
          | cons a3 a4 =>
            cases a4
            cases h4 with
            | cons b1 b2 =>
              cases b1
              cases b2 with
              | cons b3 b4 =>
                cases b4
                refine ⟨_, _, i, j, _, _, k, rfl, rfl, ex_t st.subE h1, ex_t st.subE h3, ?_, q⟩
                by_cases z : i = j
                · rw [if_pos z] at e ⊢
                  exact ltV_of a3 b3 e
                · rw [if_neg z] at e ⊢
                  exact e
  · cases e
/-- a text times a number, two at least -/
def rMulS : R2 := fun x y H Q => ∃ (z : Str) (n : Nat), x = .str z ∧ y = .int (n : Int) ∧ 2 ≤ n ∧ n ≤ 1000 ∧ 1 ≤ z.length ∧ z.length ≤ 1000 ∧ Q (.str ⟨(List.replicate n z.cps).foldl (· ++ ·) #[]⟩) H
theorem rep_size (a : Array Nat) : ∀ (n : Nat) (acc : Array Nat), ((List.replicate n a).foldl (· ++ ·) acc).size = acc.size + n * a.size
  | 0, acc => by simp
  | n + 1, acc => by
    rw [List.replicate_succ, List.foldl_cons, rep_size a n, Array.size_append, Nat.add_mul]
    omega
theorem op_mulS {X : Cx} : OpR X (binaryOp .Mult) rMulS := by
  intro pins s σ H x y v u Q I rx ry h
  obtain ⟨z, n, rfl, rfl, h2, h3, h4, h5, q⟩ := h
  obtain ⟨t, rfl⟩ := rx
  obtain ⟨t', rfl⟩ := ry
  have hz : z.length * n ≤ 1000000 := Nat.le_trans (Nat.mul_le_mul h5 h3) (by decide)
  refine PySem.P.mul_str ?_ (fun _ _ => ?_) (fun _ _ => ?_) ?_
  · simp only [Bool.or_eq_false_iff, decide_eq_false_iff_not]
    constructor <;> omega
  · have : (1000 : Int) ≤ (2 ^ 63 - 1) / (n : Int) := by
      rw [Int.le_ediv_iff_mul_le (by omega)]
      omega
    omega
  · rw [Int.toNat_natCast]
    have : (1000000 : Nat) ≤ sizeLine := by decide
    exact decide_eq_false (by omega)
  · rw [if_neg (by omega), if_neg (by
      simp only [Bool.or_eq_true, beq_iff_eq]
      omega)]
    rw [Int.toNat_natCast]
    refine ⟨?_, .str _, H, I.tok _, ⟨_, rfl⟩, q⟩
    have e := rep_size z.cps n #[]
    show ((List.replicate n z.cps).foldl (· ++ ·) #[]).size ≤ sizeLine
    rw [e]
    have e2 : z.length = z.cps.size := rfl
    rw [e2, Nat.mul_comm] at hz
    have : (1000000 : Nat) ≤ sizeLine := by decide
    have e3 : (#[] : Array Nat).size = 0 := rfl
    omega
theorem o_mulS : Op2 K c rMulS oMulS := by
  intro ρ σ S H x y vx vy z Q st rx ry e k
  cases rx <;> cases ry <;> first | (simp only [oMulS] at e; cases e; done) | skip
  rename_i w i
  simp only [oMulS] at e
  split at e
  · rename_i hh
    cases e
    refine ⟨w, i.toNat, rfl, by rw [show ((i.toNat : Nat) : Int) = i by omega], by omega, by omega, hh.2.2.1, hh.2.2.2, keep_d st k (R.str _)⟩
  · cases e
theorem ev_srcS {te : TE} (h : Ev K c te (pV K c) ma) : Ev K c (iStr te) (pI K) (srcS ma) :=
  ev_bind (u := fun σ (x : V) H (Q : It → Hp → Prop) => ∃ z, x = .str z ∧ Q (Its z) H) (ev_val h) fun d v ρ σ S H Q st r g => by
    cases r with
    | str z =>
      refine ⟨z, rfl, g _ S H st (Ex.refl _) ⟨_, _, (by rw [List.length_map, Array.length_toList]; exact walk_str), fun H' e => trivial, fun i H' x H'' hi e y => ?_⟩⟩
      obtain ⟨rfl, k, y2, rfl⟩ := y
      refine ⟨.str ⟨#[k]⟩, ?_, .inl ⟨rfl, .str _⟩⟩
      rw [List.getElem?_map, Array.getElem?_toList, y2]
      rfl
    | _ => exact g.elim
end
section
variable {X : Cx} {c : Cxt} {a b : Expr} {pos : Pos} {ma mb : E}
theorem d_ltP (hu : X.A.units + 1 < cLine) (ha : DE X c a ma) (hb : DE X c b mb) : DE X c (.Compare a [.Lt] [b] pos) (eT (t2 oLtP ma mb)) := de_cmp (op_ltP (by omega)) o_ltP (fun b => nomark b) ha hb
theorem t_ltP (hu : X.A.units + 1 < cLine) (ha : DE X c a ma) (hb : DE X c b mb) : DT X c (.Compare a [.Lt] [b] pos) (t2 oLtP ma mb) := dt_cmp (op_ltP (by omega)) o_ltP (fun b => nomark b) ha hb
theorem d_mulS (ha : DE X c a ma) (hb : DE X c b mb) : DE X c (.BinOp a .Mult b pos) (e2 oMulS ma mb) := ped (pe_op op_mulS ha hb) (ev_op2 o_mulS ev_te ev_te)
theorem i_str {tg : Expr} (ha : DE X c a ma) : DI X c tg a (srcS ma) := pid (pi_str ha) (ev_srcS ev_te)
end
end Dn
set_option linter.all false
/-! sorted, min, max of data of any kind. -/
namespace Dn
open PySem PySem.W
def alDs (xs : List D) : Bool := xs.all fun a => xs.all fun b => alike a.toP b.toP
def isTp : D → Bool
  | .tup (_ :: _) => true
  | _ => false
def isNt : D → Bool
  | .tup _ => false
  | .non => false
  | _ => true
def ltA (a b : D) : Bool := dataLt a.toP b.toP
def okS (xs : List D) : Bool := xs.all (okD 30) && alDs xs && (xs.all isTp || xs.all isNt) && decide (xs.length ≤ 100000)
def sortD (xs : List D) : List D := xs.mergeSort fun a b => !ltA b a
def oSortedD : D → Option Rv
  | .lst xs => if okS xs then some (.o (.lst (sortD xs))) else none
  | .tup xs => none
  | _ => none
def minDD (x : D) (xs : List D) : D := xs.foldl (fun a y => if ltA y a then y else a) x
def maxDD (x : D) (xs : List D) : D := xs.foldl (fun a y => if ltA a y then y else a) x
def okM (xs : List D) : Bool := xs.all (okD 30) && alDs xs && xs.all fun d => !isNon d
def oMinD : D → Option Rv
  | .lst (x :: xs) => if okM (x :: xs) then some (.d (minDD x xs)) else none
  | .tup (x :: xs) => if okM (x :: xs) then some (.d (minDD x xs)) else none
  | _ => none
def oMaxD : D → Option Rv
  | .lst (x :: xs) => if okM (x :: xs) then some (.d (maxDD x xs)) else none
  | .tup (x :: xs) => if okM (x :: xs) then some (.d (maxDD x xs)) else none
  | _ => none
/-- numbers as before, other data so -/
def oSortedA (d : D) : Option Rv := match oSorted d with
  | some r => some r
  | none => oSortedD d
def oMin1A (d : D) : Option Rv := match oMin1 d with
  | some r => some r
  | none => oMinD d
def oMax1A (d : D) : Option Rv := match oMax1 d with
  | some r => some r
  | none => oMaxD d
theorem oSortedA_of {d : D} {r : Rv} (h : oSorted d = some r) : oSortedA d = some r := by
  unfold oSortedA
  rw [h]
theorem oMin1A_of {d : D} {r : Rv} (h : oMin1 d = some r) : oMin1A d = some r := by
  unfold oMin1A
  rw [h]
theorem oMax1A_of {d : D} {r : Rv} (h : oMax1 d = some r) : oMax1A d = some r := by
  unfold oMax1A
  rw [h]
end Dn
set_option Elab.async false
set_option linter.all false
set_option maxRecDepth 100000
set_option maxHeartbeats 4000000
/-! sorted, min, max of lists of data of any kind. -/
namespace Dn
open PySem PySem.W PySem.Calls PyProof.Rows L2
mutual
theorem toP_inj : ∀ (n m : Nat) (a b : D), okD n a = true → okD m b = true → a.toP = b.toP → a = b
  | _, _, .non, b, _, h, e => by
    cases b <;> simp only [D.toP, reduceCtorEq] at e <;> first | rfl | (cases ‹Nat› <;> simp [okD] at h)
  | _, _, .bl x, b, _, h, e => by
    cases b <;> simp only [D.toP, reduceCtorEq] at e
    cases e
    rfl
  | _, _, .int x, b, _, h, e => by
    cases b <;> simp only [D.toP, reduceCtorEq] at e
    cases e
    rfl
  | _, _, .str x, b, _, h, e => by
    cases b <;> simp only [D.toP, reduceCtorEq] at e
    cases e
    rfl
  | n + 1, m, .tup xs, b, g, h, e => by
    cases b <;> simp only [D.toP, reduceCtorEq] at e
    cases m with
    | zero => simp [okD] at h
    | succ m =>
      rename_i ys
      have e := PyData.tuple.inj e
      simp only [okD] at g h
      rw [toPs_inj n m xs ys g h e]
  | n + 1, m, .lst xs, b, g, h, e => by
    cases b <;> simp only [D.toP, reduceCtorEq] at e
    cases m with
    | zero => simp [okD] at h
    | succ m =>
      rename_i ys
      have e := PyData.list.inj e
      simp only [okD] at g h
      rw [toPs_inj n m xs ys g h e]
  | 0, _, .tup _, _, g, _, _ => by simp [okD] at g
  | 0, _, .lst _, _, g, _, _ => by simp [okD] at g
  | n, _, .dic _, _, g, _, _ => by cases n <;> simp [okD] at g
  | n, _, .scr _, _, g, _, _ => by cases n <;> simp [okD] at g
  | n, _, .obj _ _, _, g, _, _ => by cases n <;> simp [okD] at g
theorem toPs_inj : ∀ (n m : Nat) (a b : List D), okDs n a = true → okDs m b = true → toPs a = toPs b → a = b
  | _, _, [], [], _, _, _ => rfl
  | _, _, [], _ :: _, _, _, e => by simp [toPs] at e
  | _, _, _ :: _, [], _, _, e => by simp [toPs] at e
  | n, m, x :: a, y :: b, g, h, e => by
    simp only [okDs, Bool.and_eq_true] at g h
    simp only [toPs, List.cons.injEq] at e
    rw [toP_inj n m x y g.1 h.1 e.1, toPs_inj n m a b g.2 h.2 e.2]
end
theorem alDs_iff {xs : List D} : alDs xs = true ↔ ∀ a ∈ xs, ∀ b ∈ xs, alike a.toP b.toP = true := by
  unfold alDs
  simp only [List.all_eq_true]
/-! ### the calls -/
def rSortedG (K : PySem.W.Frag) : List V → Hp → VK → Prop := fun vs H Q => ∃ (a : Addr) (xs : List V) (ds : List PyData), vs = [V.ref a] ∧ SqL K H a xs ∧ DpAll K H xs ds ∧ AllAlike ds ∧ PySem.W.Sortable ds ∧ (∀ d ∈ ds, d.depth ≤ 60) ∧
  ∀ p, H p = none → Q (.ref p) (upd H p (.lst (((xs.zip ds).mergeSort (dataLe false (fun z : V × PyData => z.2))).map (·.1))))
theorem each_rel : ∀ {xs : List V} {us : List Value} {ds : List PyData}, Vals xs us → xs.length = ds.length → EachIs (fun (v : Value) (z : V × PyData) => RelV z.1 v) us (xs.zip ds)
  | _, _, [], .nil, _ => .nil
  | _, _, _ :: _, .nil, h => by cases h
  | _, _, [], .cons _ _, h => by cases h
  | _, _, _ :: _, .cons r rs, h => .cons r (each_rel rs (by simpa using h))
theorem each_reads {h : Heap} : ∀ {xs : List V} {us : List Value} {ds : List PyData} {as : List Addr}, xs.length = ds.length → ReadsAll h us ds as → EachIs (fun v (z : V × PyData) => ∃ as, Reads h v z.2 as) us (xs.zip ds)
  | [], _, _, _, hl, .nil => .nil
  | _ :: _, _, _, _, hl, .nil => by cases hl
  | [], _, _, _, hl, .cons _ _ => by cases hl
  | _ :: _, _, _, _, hl, .cons r rs => .cons ⟨_, r⟩ (each_reads (by simpa using hl) rs)
theorem each_vals : ∀ {out : List Value} {zs : List (V × PyData)}, EachIs (fun (v : Value) (z : V × PyData) => RelV z.1 v) out zs → Vals (zs.map (·.1)) out
  | _, _, .nil => .nil
  | _, _, .cons r rs => .cons r (each_vals rs)
theorem dpAll_len {K : PySem.W.Frag} {H : Hp} : ∀ {xs : List V} {ds : List PyData}, DpAll K H xs ds → xs.length = ds.length
  | _, [], h => by
    cases h
    rfl
  | _, _ :: _, h => by
    cases h with
    | cons h1 h2 => simp only [List.length_cons, dpAll_len h2]
theorem zip_snd {α β : Type} : ∀ {xs : List α} {ds : List β}, xs.length = ds.length → (xs.zip ds).map (·.2) = ds
  | [], [], _ => rfl
  | [], _ :: _, h => by cases h
  | _ :: _, [], h => by cases h
  | _ :: _, _ :: _, h => by simp only [List.zip_cons_cons, List.map_cons, zip_snd (by simpa using h)]
theorem zip_fst {α β : Type} : ∀ {xs : List α} {ds : List β}, xs.length = ds.length → (xs.zip ds).map (·.1) = xs
  | [], [], _ => rfl
  | [], _ :: _, h => by cases h
  | _ :: _, [], h => by cases h
  | _ :: _, _ :: _, h => by simp only [List.zip_cons_cons, List.map_cons, zip_fst (by simpa using h)]
section
variable {X : Cx}
theorem cr_sortedG (hu : X.A.units + 65 < cLine) : CallR X (.builtin "sorted") (rSortedG X.K) := by
  intro pins s σ H vs us Q I r h
  obtain ⟨a, xs, ds, rfl, hs, hd, hal, hk, hdp, q⟩ := h
  obtain ⟨its, rv, hl, hz⟩ := I.list hs
  rw [Vals.ref1 r]
  have hlen := dpAll_len hd
  obtain ⟨as, ra⟩ := Dp.readsAll I ds xs its hd rv
  have e2 : (xs.zip ds).map (fun z : V × PyData => z.2) = ds := zip_snd hlen
  refine sorted_data (enc := fun z : V × PyData => z.2) (R := fun v z => RelV z.1 v) hl.isList (each_rel rv hlen) (each_reads hlen ra) (by rw [e2]; exact hal) (by rw [e2]; exact hk) (by rw [List.length_zip, ← hlen, Nat.min_self]; exact hz) (fun b hb => ?_) fun out h1 h2 => ?_
  · have := hdp b.2 (List.of_mem_zip hb).2
    show X.A.units + 2 + b.2.depth < cLine
    omega
  · obtain ⟨ep, he'⟩ := PyProof.Rows.sortedAll_at s.heap its out.toArray
    have hv := each_vals h2
    refine ⟨.ref _, upd H (s.heap.objs.size + 1) (.lst _), I.laid (t' := s.toks) (fun _ _ => PyProof.Rows.sortedAll_old) (Nat.le_succ _) ⟨?_, out, ep, hv, he'⟩, rfl, q _ (I.hok.fresh (Nat.le_succ _))⟩
    rw [List.length_map, List.length_mergeSort, List.length_zip, ← hlen, Nat.min_self]
    exact hz
def rMinG (K : PySem.W.Frag) (f : PyData → List PyData → PyData) : List V → Hp → VK → Prop := fun vs H Q => ∃ (a : Addr) (xs : List V) (d : PyData) (ds : List PyData), vs = [V.ref a] ∧ (SqL K H a xs ∨ SqT K H a xs) ∧ DpAll K H xs (d :: ds) ∧ AlikeAll (d :: ds) ∧ PyData.depthAll (d :: ds) ≤ 60 ∧
  ∀ (i : Nat) (y : V), xs[i]? = some y → (d :: ds)[i]? = some (f d ds) → Q y H
theorem fold_mem {α : Type} (p : α → α → Bool) : ∀ (xs : List α) (x : α), xs.foldl (fun a y => if p a y then y else a) x ∈ x :: xs
  | [], x => List.mem_cons_self
  | y :: xs, x => by
    rw [List.foldl_cons]
    have h := fold_mem p xs (if p x y then y else x)
    rcases List.mem_cons.mp h with h | h
    · rw [h]
      split
      · exact List.mem_cons_of_mem _ List.mem_cons_self
      · exact List.mem_cons_self
    · exact List.mem_cons_of_mem _ (List.mem_cons_of_mem _ h)
theorem min_end {pins : List (Addr × Obj)} {s : Shared} {σ : L2.St} {H : Hp} {Q : VK} {xs : List V} {its : List Value} {d z : PyData} {ds : List PyData} {as bs : List Addr} {i : Nat} {v : Value} {h' : Heap} {tk : Nat} (I : Inv X pins σ H s) (rv : Vals xs its) (ra : ReadsAll s.heap its (d :: ds) as) (ha : AlikeAll (d :: ds)) (hz : z ∈ d :: ds)
    (hi : its.toArray[i]? = some v) (r : Reads h' v z bs) (hk : ∀ b o, s.heap.get? b = some o → h'.get? b = some o) (q : ∀ (i : Nat) (y : V), xs[i]? = some y → (d :: ds)[i]? = some z → Q y H) : EP X pins σ Q v { s with heap := h', toks := tk } := by
  rw [List.getElem?_toArray] at hi
  obtain ⟨cs, r1, h1, h2, _⟩ := readsAll_at ra i v hi
  have e : (d :: ds).getD i .none = z := alike_unique _ _ _ _ _ (ha.1 _ h2 _ hz) (PyProof.Rows.Reads.keeps hk r1) r
  have hx : ∃ y, xs[i]? = some y ∧ RelV y v := by
    have hl : i < xs.length := by
      rw [Paired.length rv]
      exact lt_of_get hi
    obtain ⟨u, hu, ru⟩ := Vals.get rv (List.getElem?_eq_getElem hl)
    rw [hi] at hu
    cases hu
    exact ⟨_, List.getElem?_eq_getElem hl, ru⟩
  obtain ⟨y, hy, ry⟩ := hx
  refine ⟨y, H, I.kept (t' := tk) hk, ry, q i y hy ?_⟩
  rw [← e, List.getD_eq_getElem?_getD, List.getElem?_eq_getElem h1]
  rfl
theorem cr_minG (hu : X.A.units + 65 < cLine) (hc : X.calm = true) : CallR X (.builtin "min") (rMinG X.K minD) := by
  intro pins s σ H vs us Q I r h
  obtain ⟨a, xs, d, ds, rfl, hs, hd, hal, hdp, q⟩ := h
  rw [Vals.ref1 r]
  have room : X.A.units + 1 + PyData.depthAll (d :: ds) < cLine := by omega
  have hm : minD d ds ∈ d :: ds := fold_mem (fun a y => dataLt y a) ds d
  rcases hs with hs | hs
  · obtain ⟨its, rv, hl, hz⟩ := I.list hs
    obtain ⟨as, ra⟩ := Dp.readsAll I (d :: ds) xs its hd rv
    exact min_list_data (I.ok.hd hc) hl.isList (by simpa using ra) hal room fun i v h' tk bs h1 h2 h3 => min_end I rv ra hal hm h1 h2 h3 q
  · obtain ⟨its, rv, hl, hz⟩ := I.tuple hs
    obtain ⟨as, ra⟩ := Dp.readsAll I (d :: ds) xs its hd rv
    exact min_tuple_data (I.ok.hd hc) (show s.heap.IsTuple a its.toArray from hl) (by simpa using ra) hal room fun i v h' tk bs h1 h2 h3 => min_end I rv ra hal hm h1 h2 h3 q
theorem cr_maxG (hu : X.A.units + 65 < cLine) (hc : X.calm = true) : CallR X (.builtin "max") (rMinG X.K maxD) := by
  intro pins s σ H vs us Q I r h
  obtain ⟨a, xs, d, ds, rfl, hs, hd, hal, hdp, q⟩ := h
  rw [Vals.ref1 r]
  have room : X.A.units + 1 + PyData.depthAll (d :: ds) < cLine := by omega
  have hm : maxD d ds ∈ d :: ds := fold_mem (fun a y => dataLt a y) ds d
  rcases hs with hs | hs
  · obtain ⟨its, rv, hl, hz⟩ := I.list hs
    obtain ⟨as, ra⟩ := Dp.readsAll I (d :: ds) xs its hd rv
    exact max_list_data (I.ok.hd hc) hl.isList (by simpa using ra) hal room fun i v h' tk bs h1 h2 h3 => min_end I rv ra hal hm h1 h2 h3 q
  · obtain ⟨its, rv, hl, hz⟩ := I.tuple hs
    obtain ⟨as, ra⟩ := Dp.readsAll I (d :: ds) xs its hd rv
    exact max_tuple_data (I.ok.hd hc) (show s.heap.IsTuple a its.toArray from hl) (by simpa using ra) hal room fun i v h' tk bs h1 h2 h3 => min_end I rv ra hal hm h1 h2 h3 q
end
/-! ### the operations -/
section
variable {K : Fr} {c : Cxt}
theorem oks_of {xs : List D} (h : xs.all (okD 30) = true) : okDs 30 xs = true := by rw [okDs_all]; exact h
theorem depth_of {xs : List D} (h : xs.all (okD 30) = true) : ∀ d ∈ toPs xs, d.depth ≤ 60 := fun d hd => by
  rw [toPs_map, List.mem_map] at hd
  obtain ⟨x, hx, rfl⟩ := hd
  exact Nat.le_trans (ok_lay 30 x (List.all_eq_true.mp h x hx)).2 (by decide)
theorem alike_of {xs : List D} (h : alDs xs = true) : AllAlike (toPs xs) := fun a ha b hb => by
  rw [toPs_map, List.mem_map] at ha hb
  obtain ⟨x, hx, rfl⟩ := ha
  obtain ⟨y, hy, rfl⟩ := hb
  exact alDs_iff.mp h x hx y hy
theorem sortable_of {xs : List D} (h0 : xs.all (okD 30) = true) (h : (xs.all isTp || xs.all isNt) = true) : PySem.W.Sortable (toPs xs) := by
  rw [Bool.or_eq_true] at h
  rcases h with h | h
  · refine .inl fun d hd => ?_
    rw [toPs_map, List.mem_map] at hd
    obtain ⟨x, hx, rfl⟩ := hd
    have := List.all_eq_true.mp h x hx
    cases x with
    | tup ys =>
      cases ys with
      | nil => simp [isTp] at this
      | cons y ys => exact ⟨y.toP, toPs ys, by simp only [D.toP, toPs]⟩
    | _ => simp [isTp] at this
  · refine .inr fun d hd => ?_
    rw [toPs_map, List.mem_map] at hd
    obtain ⟨x, hx, rfl⟩ := hd
    have := List.all_eq_true.mp h x hx
    have ok := List.all_eq_true.mp h0 x hx
    cases x <;> first | (simp [okD] at ok; done) | (simp [isNt] at this; done) | (simp only [D.toP]; exact ⟨by simp, by simp⟩)
theorem rs_of_pairs {H : Hp} : ∀ (zs : List (V × D)), (∀ z ∈ zs, R K H z.1 z.2) → Rs K H (zs.map (·.1)) (zs.map (·.2))
  | [], _ => .nil
  | z :: zs, h => .cons (h z List.mem_cons_self) (rs_of_pairs zs fun y hy => h y (List.mem_cons_of_mem _ hy))
theorem Rs.zipAll {H : Hp} : ∀ {ds : List D} {vs : List V}, Rs K H vs ds → ∀ z ∈ vs.zip ds, R K H z.1 z.2
  | [], _, h => by
    cases h
    simp
  | d :: ds, _, h => by
    cases h with
    | cons h1 h2 =>
      intro z hz
      rw [List.zip_cons_cons, List.mem_cons] at hz
      rcases hz with rfl | hz
      · exact h1
      · exact Rs.zipAll h2 z hz
theorem rs_sort {H : Hp} {ds : List D} {vs : List V} (r : Rs K H vs ds) : Rs K H (((vs.zip (toPs ds)).mergeSort (dataLe false (fun z : V × PyData => z.2))).map (·.1)) (sortD ds) := by
  have hl : vs.length = ds.length := r.length
  have e1 : vs.zip (toPs ds) = (vs.zip ds).map fun z => (z.1, z.2.toP) := by
    rw [toPs_map]
    clear r hl
    induction vs generalizing ds with
    | nil => rfl
    | cons v vs ih =>
      cases ds with
      | nil => rfl
      | cons d ds => simp only [List.map_cons, List.zip_cons_cons, ih]
  have e2 : (vs.zip (toPs ds)).mergeSort (dataLe false (fun z : V × PyData => z.2)) = ((vs.zip ds).mergeSort fun a b => !ltA b.2 a.2).map fun z => (z.1, z.2.toP) := by
    rw [e1]
    exact (List.map_mergeSort (r := fun a b : V × D => !ltA b.2 a.2) (s := dataLe false (fun z : V × PyData => z.2)) (f := fun z : V × D => (z.1, z.2.toP)) fun a _ b _ => rfl).symm
  have e3 : sortD ds = ((vs.zip ds).mergeSort fun a b => !ltA b.2 a.2).map (·.2) := by
    have e4 : ds = (vs.zip ds).map (·.2) := (zip_snd hl).symm
    conv => lhs; rw [e4]
    exact (List.map_mergeSort (r := fun a b : V × D => !ltA b.2 a.2) (s := fun a b : D => !ltA b a) (f := fun z : V × D => z.2) fun a _ b _ => rfl).symm
  rw [e2, e3, List.map_map]
  refine rs_of_pairs _ fun z hz => ?_
  exact r.zipAll z ((List.mergeSort_perm _ _).mem_iff.mp hz)
theorem o_sortedD : Op1 K c (fun v => rSortedG K [v]) oSortedD := by
  intro ρ σ S H x vx z Q st rx e k
  cases rx <;> first | (simp only [oSortedD] at e; cases e; done) | skip
  rename_i l vs ds h1 h2
  simp only [oSortedD] at e
  split at e
  · rename_i h
    cases e
    simp only [okS, Bool.and_eq_true, decide_eq_true_eq] at h
    obtain ⟨⟨⟨h3, h4⟩, h5⟩, h6⟩ := h
    exact ⟨l, vs, toPs ds, rfl, SqL.of (st.sub _ _ h1), Rs.dp 30 (h2.mono st.subE) (oks_of h3), alike_of h4, sortable_of h3 h5, depth_of h3, fun p hp => new_o st k (rs_sort h2) hp⟩
  · cases e
theorem minDD_toP (x : D) : ∀ xs : List D, (minDD x xs).toP = minD x.toP (toPs xs) := fun xs => by
  rw [toPs_map]
  unfold minDD minD
  induction xs generalizing x with
  | nil => rfl
  | cons y ys ih =>
    rw [List.map_cons, List.foldl_cons, List.foldl_cons, ih]
    unfold ltA
    split <;> rfl
theorem maxDD_toP (x : D) : ∀ xs : List D, (maxDD x xs).toP = maxD x.toP (toPs xs) := fun xs => by
  rw [toPs_map]
  unfold maxDD maxD
  induction xs generalizing x with
  | nil => rfl
  | cons y ys ih =>
    rw [List.map_cons, List.foldl_cons, List.foldl_cons, ih]
    unfold ltA
    split <;> rfl
theorem depthAll_of {xs : List D} (h : xs.all (okD 30) = true) : PyData.depthAll (toPs xs) ≤ 60 := Nat.le_trans (oks_lay 30 xs (oks_of h)).2 (by decide)
theorem o_minG {f : PyData → List PyData → PyData} {g : D → List D → D} (hg : ∀ x xs, (g x xs).toP = f x.toP (toPs xs)) (hm : ∀ x xs, g x xs ∈ x :: xs) {ρ : Env} {σ : L2.St} {S : Sh} {H : Hp} {l : Addr} {vs : List V} {x : D} {xs : List D} {Q : VK} (st : StR K c ρ σ S H) (hs : SqL K H l vs ∨ SqT K H l vs) (h2 : Rs K S.h vs (x :: xs)) (h : okM (x :: xs) = true)
    (k : ∀ v S' H', StR K c ρ σ S' H' → Ex S.h S'.h → RvR K c (.d (g x xs)) S' H' v → Q v H') : rMinG K f [.ref l] H Q := by
  simp only [okM, Bool.and_eq_true] at h
  obtain ⟨⟨h3, h4⟩, h5⟩ := h
  have ha : AlikeAll (toPs (x :: xs)) := by
    refine ⟨fun a ha b hb => alike_of h4 a ha b hb, fun a ha => ?_⟩
    rw [toPs_map, List.mem_map] at ha
    obtain ⟨y, hy, rfl⟩ := ha
    have := List.all_eq_true.mp h5 y hy
    have ok := List.all_eq_true.mp h3 y hy
    cases y <;> first | (simp at this; done) | (simp [okD] at ok; done) | (simp [D.toP]; done)
  refine ⟨l, vs, x.toP, toPs xs, rfl, hs, Rs.dp 30 (h2.mono st.subE) (oks_of h3), ha, depthAll_of h3, fun i y hy hi => ?_⟩
  obtain ⟨d, e1, e2⟩ := h2.getV hy
  have e3 : (toPs (x :: xs))[i]? = some d.toP := by rw [toPs_map, List.getElem?_map, e1]; rfl
  have e4 : d.toP = (g x xs).toP := by
    rw [hg]
    have : (toPs (x :: xs))[i]? = some (f x.toP (toPs xs)) := hi
    rw [e3] at this
    exact Option.some.inj this
  have ok := List.all_eq_true.mp h3
  have e5 := toP_inj 30 30 d (g x xs) (ok d (List.mem_of_getElem? e1)) (ok _ (hm x xs)) e4
  rw [← e5] at k
  exact keep_d st k e2
theorem o_minD : Op1 K c (fun v => rMinG K minD [v]) oMinD := by
  intro ρ σ S H x vx z Q st rx e k
  cases x with
  | lst xs =>
    cases rx with
    | lst h1 h2 =>
      cases xs with
      | nil => cases e
      | cons x xs =>
        simp only [oMinD] at e
        split at e
        · rename_i h
          cases e
          exact o_minG minDD_toP (fun x xs => fold_mem (fun a y => ltA y a) xs x) st (.inl (SqL.of (st.sub _ _ h1))) h2 h k
        · cases e
  | tup xs =>
    cases rx with
    | tup h1 h2 =>
      cases xs with
      | nil => cases e
      | cons x xs =>
        simp only [oMinD] at e
        split at e
        · rename_i h
          cases e
          exact o_minG minDD_toP (fun x xs => fold_mem (fun a y => ltA y a) xs x) st (.inr (ex_t st.subE h1)) h2 h k
        · cases e
  | _ => simp only [oMinD] at e; cases e
theorem o_maxD : Op1 K c (fun v => rMinG K maxD [v]) oMaxD := by
  intro ρ σ S H x vx z Q st rx e k
  cases x with
  | lst xs =>
    cases rx with
    | lst h1 h2 =>
      cases xs with
      | nil => cases e
      | cons x xs =>
        simp only [oMaxD] at e
        split at e
        · rename_i h
          cases e
          exact o_minG maxDD_toP (fun x xs => fold_mem (fun a y => ltA a y) xs x) st (.inl (SqL.of (st.sub _ _ h1))) h2 h k
        · cases e
  | tup xs =>
    cases rx with
    | tup h1 h2 =>
      cases xs with
      | nil => cases e
      | cons x xs =>
        simp only [oMaxD] at e
        split at e
        · rename_i h
          cases e
          exact o_minG maxDD_toP (fun x xs => fold_mem (fun a y => ltA a y) xs x) st (.inr (ex_t st.subE h1)) h2 h k
        · cases e
  | _ => simp only [oMaxD] at e; cases e
/-- either of two -/
theorem Op1.or {r r' : List V → Hp → VK → Prop} {f f' g : D → Option Rv} (h : Op1 K c (fun v => r [v]) f) (h' : Op1 K c (fun v => r' [v]) f') (hg : ∀ d, g d = match f d with | some z => some z | none => f' d) : Op1 K c (fun v => (fun xs H Q => r xs H Q ∨ r' xs H Q) [v]) g := by
  intro ρ σ S H x vx z Q st rx e k
  rw [hg] at e
  cases q : f x with
  | some z' =>
    rw [q] at e
    cases e
    exact .inl (h ρ σ S H x vx z Q st rx q k)
  | none =>
    rw [q] at e
    exact .inr (h' ρ σ S H x vx z Q st rx e k)
end
section
variable {X : Cx} {c : Cxt} {a : Expr} {pos p : Pos} {ma : E}
theorem d_sortedA (hu : X.A.units + 65 < cLine) (hg : Gl X "sorted") (hm : X.mg "sorted" = none) (ha : DE X c a ma) (he : starEach [a] X.env = (false, eval a X.env) :: starEach [] X.env := by rfl) (hpl : (backTo pos (starEach [] X.env)).any (·.1) = false := by rfl) : DE X c (.Call (.Name "sorted" p) [a] [] pos) (e1 oSortedA ma) :=
  d_b1 (cr_sortedI.or (cr_sortedG hu)) (o_sorted.or o_sortedD fun d => rfl) PyProof.Rows.boot_sorted (by decide) (by decide) hg hm ha he hpl
theorem d_min1A (hu : X.A.units + 65 < cLine) (hc : X.calm = true) (hg : Gl X "min") (hm : X.mg "min" = none) (ha : DE X c a ma) (he : starEach [a] X.env = (false, eval a X.env) :: starEach [] X.env := by rfl) (hpl : (backTo pos (starEach [] X.env)).any (·.1) = false := by rfl) : DE X c (.Call (.Name "min" p) [a] [] pos) (e1 oMin1A ma) :=
  d_b1 ((cr_min hc).or (cr_minG hu hc)) (o_min1.or o_minD fun d => rfl) PyProof.Rows.boot_min (by decide) (by decide) hg hm ha he hpl
theorem d_max1A (hu : X.A.units + 65 < cLine) (hc : X.calm = true) (hg : Gl X "max") (hm : X.mg "max" = none) (ha : DE X c a ma) (he : starEach [a] X.env = (false, eval a X.env) :: starEach [] X.env := by rfl) (hpl : (backTo pos (starEach [] X.env)).any (·.1) = false := by rfl) : DE X c (.Call (.Name "max" p) [a] [] pos) (e1 oMax1A ma) :=
  d_b1 ((cr_max hc).or (cr_maxG hu hc)) (o_max1.or o_maxD fun d => rfl) PyProof.Rows.boot_max (by decide) (by decide) hg hm ha he hpl
end
end Dn
set_option linter.all false
set_option maxHeartbeats 2000000
/-! Comprehensions and loops over lists of anything. -/
namespace Dn
open PySem
variable {α : Type}
theorem lc_map {own : List Nat} {src : M (List D)} {g : Tg} {t : T} {e : E} {ρ ρ0 : Env} (as : List α) (enc : α → D) (p : α → Bool) (h : α → D) (hs : src ρ = .ok (as.map enc) ρ0) (hl : as.length ≤ 100000) (soft0 : ∀ i ∈ own, soft ρ0[i]?)
    (each : ∀ a ∈ as, ∃ ρ1, g (enc a) (wipeE ρ0 own) = some ρ1 ∧ t ρ1 = .ok (p a) ρ1 ∧ (p a = true → val e ρ1 = .ok (h a) ρ1) ∧ wipeE ρ1 own = wipeE ρ0 own) :
    eLc own src g t e ρ = .ok (.o (.lst ((as.filter p).map h))) ρ0 := by
  have go : ∀ (as : List α) (acc : List D), acc.length + as.length ≤ 100000 → (∀ a ∈ as, ∃ ρ1, g (enc a) (wipeE ρ0 own) = some ρ1 ∧ t ρ1 = .ok (p a) ρ1 ∧ (p a = true → val e ρ1 = .ok (h a) ρ1) ∧ wipeE ρ1 own = wipeE ρ0 own) →
      ∀ ρ', wipeE ρ' own = wipeE ρ0 own → ∃ ρf, comp own g t e (as.map enc) acc ρ' = .ok (acc ++ (as.filter p).map h) ρf ∧ wipeE ρf own = wipeE ρ0 own := by
    intro as
    induction as with
    | nil => exact fun acc _ _ ρ' hw => ⟨ρ', by simp [comp], hw⟩
    | cons x xs ih =>
      intro acc hl hx ρ' hw
      obtain ⟨ρ1, e1, e2, e3, e4⟩ := hx x List.mem_cons_self
      simp only [List.length_cons] at hl
      have hx' := fun y hy => hx y (List.mem_cons_of_mem _ hy)
      cases q : p x with
      | false =>
        obtain ⟨ρf, q1, q2⟩ := ih acc (by omega) hx' ρ1 e4
        refine ⟨ρf, ?_, q2⟩
        rw [q] at e2
        simp only [List.map_cons, comp, hw, e1, e2, q1]
        rw [List.filter_cons_of_neg (by rw [q]; exact Bool.false_ne_true)]
      | true =>
        obtain ⟨ρf, q1, q2⟩ := ih (acc ++ [h x]) (by simp only [List.length_append, List.length_singleton]; omega) hx' ρ1 e4
        refine ⟨ρf, ?_, q2⟩
        rw [q] at e2
        have e3 := e3 q
        simp only [List.map_cons, comp, hw, e1, e2]
        simp only [e3]
        rw [if_pos (by omega), q1, List.filter_cons_of_pos q]
        simp
  obtain ⟨ρf, q1, q2⟩ := go as [] (by simpa using hl) each ρ0 rfl
  unfold eLc bind
  simp only [hs, q1, List.nil_append]
  rw [back_same q2 soft0]
/-- without a test -/
theorem lc_all {own : List Nat} {src : M (List D)} {g : Tg} {e : E} {ρ ρ0 : Env} (as : List α) (enc : α → D) (h : α → D) (hs : src ρ = .ok (as.map enc) ρ0) (hl : as.length ≤ 100000) (soft0 : ∀ i ∈ own, soft ρ0[i]?)
    (each : ∀ a ∈ as, ∃ ρ1, g (enc a) (wipeE ρ0 own) = some ρ1 ∧ val e ρ1 = .ok (h a) ρ1 ∧ wipeE ρ1 own = wipeE ρ0 own) :
    eLc own src g tYes e ρ = .ok (.o (.lst (as.map h))) ρ0 := by
  have := lc_map (t := tYes) (own := own) (src := src) (g := g) (e := e) (ρ := ρ) (ρ0 := ρ0) as enc (fun _ => true) h hs hl soft0 fun a ha => by
    obtain ⟨ρ1, e1, e2, e3⟩ := each a ha
    exact ⟨ρ1, e1, rfl, fun _ => e2, e3⟩
  rwa [List.filter_eq_self.mpr (fun _ _ => rfl)] at this
theorem asBs_map (q : α → Bool) : ∀ as : List α, asBs (as.map fun a => D.bl (q a)) = some (as.map q)
  | [] => rfl
  | a :: as => by
    show (asBs (as.map fun a => D.bl (q a))).map (q a :: ·) = _
    rw [asBs_map q as]
    rfl
/-- all([..]) -/
theorem all_map {own : List Nat} {src : M (List D)} {g : Tg} {e : E} {ρ ρ0 : Env} (as : List α) (enc : α → D) (q : α → Bool) (hs : src ρ = .ok (as.map enc) ρ0) (hl : as.length ≤ 100000) (soft0 : ∀ i ∈ own, soft ρ0[i]?)
    (each : ∀ a ∈ as, ∃ ρ1, g (enc a) (wipeE ρ0 own) = some ρ1 ∧ val e ρ1 = .ok (.bl (q a)) ρ1 ∧ wipeE ρ1 own = wipeE ρ0 own) :
    e1 oAll (eLc own src g tYes e) ρ = .ok (.d (.bl (as.all q))) ρ0 := by
  have h := lc_all as enc (fun a => D.bl (q a)) hs hl soft0 each
  refine e1_ok h ?_
  show oAll (.lst (as.map fun a => D.bl (q a))) = _
  simp only [oAll, asBs_map, Option.map_some]
  rw [List.all_map]
  rfl
theorem any_map {own : List Nat} {src : M (List D)} {g : Tg} {e : E} {ρ ρ0 : Env} (as : List α) (enc : α → D) (q : α → Bool) (hs : src ρ = .ok (as.map enc) ρ0) (hl : as.length ≤ 100000) (soft0 : ∀ i ∈ own, soft ρ0[i]?)
    (each : ∀ a ∈ as, ∃ ρ1, g (enc a) (wipeE ρ0 own) = some ρ1 ∧ val e ρ1 = .ok (.bl (q a)) ρ1 ∧ wipeE ρ1 own = wipeE ρ0 own) :
    e1 oAny (eLc own src g tYes e) ρ = .ok (.d (.bl (as.any q))) ρ0 := by
  have h := lc_all as enc (fun a => D.bl (q a)) hs hl soft0 each
  refine e1_ok h ?_
  show oAny (.lst (as.map fun a => D.bl (q a))) = _
  simp only [oAny, asBs_map, Option.map_some]
  rw [List.any_map]
  rfl
/-- a comprehension that changes things: by an invariant -/
theorem comp_inv {own : List Nat} {g : Tg} {t : T} {e : E} (I : Nat → List D → Env → Prop) : ∀ (xs acc : List D) (n : Nat) (ρ : Env), acc.length + xs.length ≤ 100000 → I n acc ρ →
    (∀ (i : Nat) (x : D) (acc : List D) (ρ : Env), xs[i]? = some x → I (n + i) acc ρ → ∃ ρ1, g x (wipeE ρ own) = some ρ1 ∧ ((∃ ρ2, t ρ1 = .ok false ρ2 ∧ I (n + i + 1) acc ρ2) ∨ ∃ ρ2 y ρ3, t ρ1 = .ok true ρ2 ∧ val e ρ2 = .ok y ρ3 ∧ I (n + i + 1) (acc ++ [y]) ρ3)) →
    ∃ ys ρf, comp own g t e xs acc ρ = .ok ys ρf ∧ I (n + xs.length) ys ρf
  | [], acc, n, ρ, _, h, _ => ⟨acc, ρ, rfl, h⟩
  | x :: xs, acc, n, ρ, hl, h, hs => by
    simp only [List.length_cons] at hl
    obtain ⟨ρ1, e1, e2⟩ := hs 0 x acc ρ rfl h
    have rest : ∀ (i : Nat) (y : D) (acc : List D) (ρ : Env), xs[i]? = some y → I (n + 1 + i) acc ρ → ∃ ρ1, g y (wipeE ρ own) = some ρ1 ∧ ((∃ ρ2, t ρ1 = .ok false ρ2 ∧ I (n + 1 + i + 1) acc ρ2) ∨ ∃ ρ2 z ρ3, t ρ1 = .ok true ρ2 ∧ val e ρ2 = .ok z ρ3 ∧ I (n + 1 + i + 1) (acc ++ [z]) ρ3) := fun i y acc ρ hy hI => by
      have := hs (i + 1) y acc ρ (by simpa using hy) (by rw [show n + (i + 1) = n + 1 + i by omega]; exact hI)
      rw [show n + (i + 1) + 1 = n + 1 + i + 1 by omega] at this
      exact this
    rcases e2 with ⟨ρ2, e2, e3⟩ | ⟨ρ2, y, ρ3, e2, e3, e4⟩
    · obtain ⟨ys, ρf, q1, q2⟩ := comp_inv I xs acc (n + 1) ρ2 (by omega) e3 rest
      exact ⟨ys, ρf, by simp only [comp, e1, e2, q1], by rw [List.length_cons, show n + (xs.length + 1) = n + 1 + xs.length by omega]; exact q2⟩
    · obtain ⟨ys, ρf, q1, q2⟩ := comp_inv I xs (acc ++ [y]) (n + 1) ρ3 (by simp only [List.length_append, List.length_singleton]; omega) e4 rest
      refine ⟨ys, ρf, ?_, by rw [List.length_cons, show n + (xs.length + 1) = n + 1 + xs.length by omega]; exact q2⟩
      simp only [comp, e1, e2]
      simp only [e3]
      rw [if_pos (by omega), q1]
theorem lc_inv {own : List Nat} {src : M (List D)} {g : Tg} {t : T} {e : E} {ρ ρ0 : Env} {xs : List D} (I : Nat → List D → Env → Prop) (hs : src ρ = .ok xs ρ0) (hl : xs.length ≤ 100000) (h0 : I 0 [] ρ0)
    (each : ∀ (i : Nat) (x : D) (acc : List D) (ρ : Env), xs[i]? = some x → I i acc ρ → ∃ ρ1, g x (wipeE ρ own) = some ρ1 ∧ ((∃ ρ2, t ρ1 = .ok false ρ2 ∧ I (i + 1) acc ρ2) ∨ ∃ ρ2 y ρ3, t ρ1 = .ok true ρ2 ∧ val e ρ2 = .ok y ρ3 ∧ I (i + 1) (acc ++ [y]) ρ3)) :
    ∃ ys ρf, eLc own src g t e ρ = .ok (.o (.lst ys)) (backE ρ0 ρf own) ∧ I xs.length ys ρf := by
  obtain ⟨ys, ρf, q1, q2⟩ := comp_inv (own := own) (g := g) (t := t) (e := e) I xs [] 0 ρ0 (by simpa using hl) h0 (fun i x acc ρ hx hI => by
    rw [Nat.zero_add] at hI ⊢
    exact each i x acc ρ hx hI)
  refine ⟨ys, ρf, ?_, by rw [Nat.zero_add] at q2; exact q2⟩
  unfold eLc bind
  simp only [hs, q1]
/-- a loop over anything -/
theorem loop_map {g : Tg} {b : S} (as : List α) (enc : α → D) (I : Nat → Env → Prop) (ρ : Env) (h0 : I 0 ρ) (each : ∀ (i : Nat) (a : α) (ρ : Env), as[i]? = some a → I i ρ → ∃ ρ1 ρ2, g (enc a) ρ = some ρ1 ∧ (b ρ1 = .nx ρ2 ∨ b ρ1 = .ct ρ2) ∧ I (i + 1) ρ2) :
    ∃ ρ', loop g b (as.map enc) ρ = .nx ρ' ∧ I as.length ρ' := by
  obtain ⟨ρ', q1, q2⟩ := loop_ok (g := g) (b := b) I (as.map enc) 0 ρ h0 fun i x ρ hx hI => by
    rw [List.getElem?_map, Option.map_eq_some_iff] at hx
    obtain ⟨a, h1, rfl⟩ := hx
    rw [Nat.zero_add] at hI ⊢
    exact each i a ρ h1 hI
  rw [List.length_map, Nat.zero_add] at q2
  exact ⟨ρ', q1, q2⟩
/-- {k: v for ..}, all keys different -/
theorem dPut_new {kvs : List (D × D)} {k v : D} (h : dHas kvs k = false) : dPut kvs k v = kvs ++ [(k, v)] := by
  unfold dPut
  rw [h]
  rfl
theorem dc_map {own : List Nat} {src : M (List D)} {g : Tg} {ke ve : E} {ρ ρ0 : Env} (as : List α) (enc kd vd : α → D) (hs : src ρ = .ok (as.map enc) ρ0) (hl : as.length ≤ 100000) (soft0 : ∀ i ∈ own, soft ρ0[i]?)
    (hk : ∀ a ∈ as, isKeyT (kd a) = true) (hd : as.Pairwise fun a b => (kd a).eqv (kd b) = false)
    (each : ∀ a ∈ as, ∃ ρ1, g (enc a) (wipeE ρ0 own) = some ρ1 ∧ val ke ρ1 = .ok (kd a) ρ1 ∧ val ve ρ1 = .ok (vd a) ρ1 ∧ wipeE ρ1 own = wipeE ρ0 own) :
    eDc own src g tYes ke ve ρ = .ok (.o (.dic (as.map fun a => (kd a, vd a)))) ρ0 := by
  have go : ∀ (as bs : List α), bs.length + as.length ≤ 100000 → (∀ a ∈ as, isKeyT (kd a) = true) → (∀ a ∈ bs, isKeyT (kd a) = true) → (bs ++ as).Pairwise (fun a b => (kd a).eqv (kd b) = false) →
      (∀ a ∈ as, ∃ ρ1, g (enc a) (wipeE ρ0 own) = some ρ1 ∧ val ke ρ1 = .ok (kd a) ρ1 ∧ val ve ρ1 = .ok (vd a) ρ1 ∧ wipeE ρ1 own = wipeE ρ0 own) →
      ∀ ρ', wipeE ρ' own = wipeE ρ0 own → ∃ ρf, compD own g tYes ke ve (as.map enc) (bs.map fun a => (kd a, vd a)) ρ' = .ok ((bs ++ as).map fun a => (kd a, vd a)) ρf ∧ wipeE ρf own = wipeE ρ0 own := by
    intro as
    induction as with
    | nil => exact fun bs _ _ _ _ _ ρ' hw => ⟨ρ', by simp [compD], hw⟩
    | cons x xs ih =>
      intro bs hl h1 h2 h3 hx ρ' hw
      obtain ⟨ρ1, e1, e2, e3, e4⟩ := hx x List.mem_cons_self
      simp only [List.length_cons] at hl
      have hT := h1 x List.mem_cons_self
      obtain ⟨ρf, q1, q2⟩ := ih (bs ++ [x]) (by simp only [List.length_append, List.length_singleton]; omega) (fun a ha => h1 a (List.mem_cons_of_mem _ ha)) (fun a ha => by
        rcases List.mem_append.mp ha with ha | ha
        · exact h2 a ha
        · rw [List.mem_singleton.mp ha]
          exact hT) (by simpa using h3) (fun a ha => hx a (List.mem_cons_of_mem _ ha)) ρ1 e4
      refine ⟨ρf, ?_, q2⟩
      have hS : kSame (bs.map fun a => (kd a, vd a)) (kd x) = true := by
        unfold kSame
        rw [hT]
        cases bs with
        | nil => simp
        | cons b bs =>
          have := isKeyT_notKey' (h2 b List.mem_cons_self)
          simp [this]
      have hn : dHas (bs.map fun a => (kd a, vd a)) (kd x) = false := by
        unfold dHas
        rw [List.any_eq_false]
        intro p hp
        obtain ⟨b, hb, rfl⟩ := List.mem_map.mp hp
        have := (List.pairwise_append.mp h3).2.2 b hb x List.mem_cons_self
        simp [this]
      simp only [List.map_cons, compD, hw, e1]
      rw [show tYes ρ1 = .ok true ρ1 from rfl]
      simp only [e2, e3, hS, List.length_map, Bool.true_and, decide_eq_true_eq]
      rw [if_pos (by omega), dPut_new hn]
      have e5 : (bs.map fun a => (kd a, vd a)) ++ [(kd x, vd x)] = (bs ++ [x]).map fun a => (kd a, vd a) := by simp
      rw [e5, q1]
      simp
  obtain ⟨ρf, q1, q2⟩ := go as [] (by simpa using hl) hk (fun _ h => nomatch h) (by simpa using hd) each ρ0 rfl
  unfold eDc bind
  have q1 : compD own g tYes ke ve (as.map enc) [] ρ0 = .ok (as.map fun a => (kd a, vd a)) ρf := by simpa using q1
  simp only [hs, q1]
  rw [back_same q2 soft0]
end Dn
set_option linter.all false
/-! Objects of the program's own classes: attributes, methods, making. -/
namespace Dn
open PySem
/-- e.f of an object that is shared -/
@[simp] def oFld (cls f : Str) : D → Option Rv
  | .obj k fs => if k = cls then (fs.lookup f).map .d else none
  | _ => none
/-- n.f of the object in a slot: a list or dict of its own is shared from then on -/
@[simp] def eFld (cls f : Str) (i : Nat) : E := fun ρ => match ρ[i]? with
  | some (.val d) => (match oFld cls f d with
    | some r => .ok r ρ
    | none => .bad)
  | some (.own (.obj k fs)) => if k = cls then (match fs.lookup f with
    | some (.d d) => .ok (.d d) ρ
    | some (.c u) => .ok (.d u.d) (ρ.set i (.own (.obj k (putFd f (.d u.d) fs))))
    | none => .bad) else .bad
  | some (.bor (.obj k fs)) => if k = cls then (match fs.lookup f with
    | some (.d d) => .ok (.d d) ρ
    | some (.c u) => .ok (.d u.d) (ρ.set i (.bor (.obj k (putFd f (.d u.d) fs))))
    | none => .bad) else .bad
  | _ => .bad
/-- the attributes of the object in a slot, own or lent -/
@[simp] def fldsAt (cls : Str) : Option Slot → Option (List (Str × Fd))
  | some (.own (.obj k fs)) => if k = cls then some fs else none
  | some (.bor (.obj k fs)) => if k = cls then some fs else none
  | _ => none
@[simp] def cPutFd (cls f : Str) (x : Fd) : C → Option C
  | .obj k fs => if k = cls ∧ fs.length < 900 then some (.obj k (putFd f x fs)) else none
  | _ => none
/-- n.f = e -/
@[simp] def sSetFd (cls : Str) (i : Nat) (f : Str) (m : E) : S := runM (val m) fun d ρ => if (fldsAt cls ρ[i]?).isSome then chg i (cPutFd cls f (.d d)) ρ else .bad
/-- .. a list or dict just made, which stays the object's own -/
@[simp] def sSetFc (cls : Str) (i : Nat) (f : Str) (m : E) : S := runM m fun r ρ => match r with
  | .o k => (match k.lf with
    | some u => if (fldsAt cls ρ[i]?).isSome then chg i (cPutFd cls f (.c u)) ρ else .bad
    | none => .bad)
  | .d _ => .bad
/-- n.f += e -/
@[simp] def sAugF (cls : Str) (g : D → D → Option Rv) (i : Nat) (f : Str) (m : E) : S := fun ρ => match fldsAt cls ρ[i]? with
  | some fs => (match fs.lookup f with
    | some (.d (.int x)) => (match val m ρ with
      | .ok (.int y) ρ' => (match g (.int x) (.int y) with
        | some (.d (.int z)) => if (fldsAt cls ρ'[i]?).isSome then chg i (cPutFd cls f (.d (.int z))) ρ' else .bad
        | _ => .bad)
      | .err e ρ' => .err e ρ'
      | _ => .bad)
    | _ => .bad)
  | none => .bad
/-- a list or dict of an object's own is changed -/
@[simp] def cInF (cls f : Str) (g : Lf → Option Lf) : C → Option C
  | .obj k fs => if k = cls then (match fs.lookup f with
    | some (.c u) => (g u).map fun u' => .obj k (putFd f (.c u') fs)
    | _ => none) else none
  | _ => none
@[simp] def lApp (d : D) : Lf → Option Lf
  | .lst xs => if xs.length < 100000 then some (.lst (xs ++ [d])) else none
  | _ => none
@[simp] def lExt (ds : List D) : Lf → Option Lf
  | .lst xs => if xs.length + ds.length ≤ 100000 then some (.lst (xs ++ ds)) else none
  | _ => none
@[simp] def lPutK (k d : D) : Lf → Option Lf
  | .dic kvs => if kSame kvs k && decide (kvs.length < 100000) then some (.dic (dPut kvs k d)) else none
  | _ => none
@[simp] def isLf (cls f : Str) (s : Option Slot) : Bool := match fldsAt cls s with
  | some fs => (match fs.lookup f with
    | some (.c (.lst _)) => true
    | _ => false)
  | none => false
@[simp] def isDf (cls f : Str) (s : Option Slot) : Bool := match fldsAt cls s with
  | some fs => (match fs.lookup f with
    | some (.c (.dic _)) => true
    | _ => false)
  | none => false
/-- only what may be shared is seen -/
@[simp] def valsE (ρ : Env) : Env := ρ.map fun s => match s with
  | .val d => .val d
  | _ => .un
/-- n.f.append(e), n.f.extend(e), n.f[k] = v -/
@[simp] def sAppF (cls f : Str) (i : Nat) (m : E) : S := fun ρ => if isLf cls f ρ[i]? then (match val m (valsE ρ) with
  | .ok d _ => chg i (cInF cls f (lApp d)) ρ
  | _ => .bad) else .bad
@[simp] def sExtF (cls f : Str) (i : Nat) (m : E) : S := fun ρ => if isLf cls f ρ[i]? then (match val m (valsE ρ) with
  | .ok (.lst ds) _ => chg i (cInF cls f (lExt ds)) ρ
  | _ => .bad) else .bad
@[simp] def sPutKF (cls f : Str) (i : Nat) (k v : E) : S := runM (val v) fun d ρ => if isDf cls f ρ[i]? then (match val k (valsE ρ) with
  | .ok j _ => chg i (cInF cls f (lPutK j d)) ρ
  | _ => .bad) else .bad
/-- a call, its arguments being there -/
@[simp] def callF (F : FD) (xs : List (D ⊕ Nat)) : E := fun ρ =>
  if (idxs xs).Nodup then match lend ρ xs with
    | none => .bad
    | some sl => match F sl with
      | .bad => .bad
      | .err e sl' => .err e (takeB ρ xs sl')
      | .ok r sl' => .ok r (takeB ρ xs sl')
  else .bad
@[simp] def isObj (cls m : Str) : D → Bool
  | .obj k fs => decide (k = cls) && (fs.lookup m).isNone
  | _ => false
/-- e.m(..) of a shared object, n.m(..) of an own or lent one -/
@[simp] def eMeth (cls m : Str) (F : FD) (a : E) (as : List Ar) : E := bind (val a) fun d => if isObj cls m d then bind (argv as) fun xs => callF F (.inl d :: xs) else bad
@[simp] def isObS (cls m : Str) (s : Option Slot) : Bool := match fldsAt cls s with
  | some fs => (fs.lookup m).isNone
  | none => false
@[simp] def eMethB (cls m : Str) (F : FD) (i : Nat) (as : List Ar) : E := fun ρ => if isObS cls m ρ[i]? then bind (argv as) (fun xs => callF F (.inr i :: xs)) ρ else .bad
end Dn
set_option Elab.async false
set_option linter.all false
set_option maxRecDepth 100000
set_option maxHeartbeats 4000000
/-! Objects of the program's own classes. -/
namespace Dn
open PySem L2
/-! ### attributes -/
def posF (f : Str) : List (Str × Fd) → Nat
  | [] => 0
  | (g, _) :: r => if g = f then 0 else posF f r + 1
section
variable {K : Fr} {Hs Hs' H H' : Hp}
theorem Rf.none {m : Str} : ∀ {ds : List (Str × D)} {vs : List (Str × V)}, Rf K H vs ds → ds.lookup m = none → vs.lookup m = none
  | [], _, h, e => by cases h; rfl
  | (x, y) :: ds, _, h, e => by
    cases h with
    | cons h1 h2 =>
      simp only [List.lookup] at e ⊢
      split at e
      · cases e
      · exact Rf.none h2 e
theorem Rff.none {P : Nat → Addr → Prop} {m : Str} : ∀ {n : Nat} {fs : List (Str × Fd)} {vs : List (Str × V)}, Rff K Hs H P n vs fs → fs.lookup m = none → vs.lookup m = none
  | _, [], _, h, e => by cases h; rfl
  | _, (x, .d y) :: fs, _, h, e => by
    cases h with
    | d h1 h2 =>
      simp only [List.lookup] at e ⊢
      split at e
      · cases e
      · exact Rff.none h2 e
  | _, (x, .c y) :: fs, _, h, e => by
    cases h with
    | c h1 h2 =>
      simp only [List.lookup] at e ⊢
      split at e
      · cases e
      · exact Rff.none h2 e
theorem Rff.length {P : Nat → Addr → Prop} : ∀ {n : Nat} {fs : List (Str × Fd)} {vs : List (Str × V)}, Rff K Hs H P n vs fs → vs.length = fs.length
  | _, [], _, h => by cases h; rfl
  | _, (_, .d _) :: fs, _, h => by
    cases h with
    | d _ h2 => simp only [List.length_cons, Rff.length h2]
  | _, (_, .c _) :: fs, _, h => by
    cases h with
    | c _ h2 => simp only [List.length_cons, Rff.length h2]
/-- what an attribute holds -/
def FdR (K : Fr) (Hs H : Hp) (P : Addr → Prop) (v : V) : Fd → Prop
  | .d x => R K Hs v x
  | .c u => ∃ a, v = .ref a ∧ ContL K Hs H P a u
theorem Rff.look {P : Nat → Addr → Prop} {f : Str} {x : Fd} : ∀ {n : Nat} {fs : List (Str × Fd)} {vs : List (Str × V)}, Rff K Hs H P n vs fs → fs.lookup f = some x → ∃ v, vs.lookup f = some v ∧ FdR K Hs H (P (n + posF f fs)) v x
  | _, [], _, h, e => by cases e
  | n, (g, .d y) :: fs, _, h, e => by
    cases h with
    | @d _ _ v _ vs _ h1 h2 =>
      by_cases q : g = f
      · subst q
        have e : some (Fd.d y) = some x := by simpa [List.lookup] using e
        cases e
        exact ⟨v, by simp [List.lookup], h1⟩
      · have b : (f == g) = false := beq_eq_false_iff_ne.mpr (Ne.symm q)
        simp only [List.lookup, b] at e
        obtain ⟨v, a1, a2⟩ := Rff.look h2 e
        refine ⟨v, by simp only [List.lookup, b]; exact a1, ?_⟩
        rw [posF, if_neg q, show n + (posF f fs + 1) = n + 1 + posF f fs by omega]
        exact a2
  | n, (g, .c y) :: fs, _, h, e => by
    cases h with
    | @c _ _ a _ vs _ h1 h2 =>
      by_cases q : g = f
      · subst q
        have e : some (Fd.c y) = some x := by simpa [List.lookup] using e
        cases e
        refine ⟨.ref a, by simp [List.lookup], a, rfl, ?_⟩
        rw [posF, if_pos rfl]
        exact h1
      · have b : (f == g) = false := beq_eq_false_iff_ne.mpr (Ne.symm q)
        simp only [List.lookup, b] at e
        obtain ⟨v, a1, a2⟩ := Rff.look h2 e
        refine ⟨v, by simp only [List.lookup, b]; exact a1, ?_⟩
        rw [posF, if_neg q, show n + (posF f fs + 1) = n + 1 + posF f fs by omega]
        exact a2
/-- one attribute is stored, the others stay -/
theorem Rff.put {P P' : Nat → Addr → Prop} {f : Str} {x : Fd} {v : V} (e : Ex Hs Hs') : ∀ {n : Nat} {fs : List (Str × Fd)} {vs : List (Str × V)}, Rff K Hs H P n vs fs →
    (∀ m a, m ≠ n + posF f fs → P m a → P' m a ∧ H' a = H a) → FdR K Hs' H' (P' (n + posF f fs)) v x → Rff K Hs' H' P' n (putF f v vs) (putFd f x fs)
  | n, [], _, h, hk, r => by
    cases h
    cases x with
    | d x => exact .d r .nil
    | c u =>
      obtain ⟨a, rfl, r⟩ := r
      exact .c r .nil
  | n, (g, y) :: fs, _, h, hk, r => by
    by_cases q : g = f
    · subst q
      rw [posF, if_pos rfl, Nat.add_zero] at hk r
      have rest : ∀ {vs : List (Str × V)}, Rff K Hs H P (n + 1) vs fs → Rff K Hs' H' P' (n + 1) vs fs := fun {vs} h2 => by
        have go : ∀ {m : Nat} {fs : List (Str × Fd)} {vs : List (Str × V)}, n < m → Rff K Hs H P m vs fs → Rff K Hs' H' P' m vs fs := by
          intro m fs
          induction fs generalizing m with
          | nil =>
            intro vs _ h
            cases h
            exact .nil
          | cons p fs ih =>
            intro vs hm h
            cases h with
            | d a1 a2 => exact .d (a1.mono e) (ih (by omega) a2)
            | c a1 a2 => exact .c (a1.mono e (fun a q => (hk m a (by omega) q).2) fun a q => (hk m a (by omega) q).1) (ih (by omega) a2)
        exact go (by omega) h2
      have fin : ∀ {vs : List (Str × V)} {u : V}, Rff K Hs H P (n + 1) vs fs → Rff K Hs' H' P' n (putF g v ((g, u) :: vs)) (putFd g x ((g, y) :: fs)) := fun {vs u} h2 => by
        rw [putF, if_pos rfl, putFd, if_pos rfl]
        cases x with
        | d x => exact .d r (rest h2)
        | c u =>
          obtain ⟨a, rfl, r⟩ := r
          exact .c r (rest h2)
      cases h with
      | d a1 a2 => exact fin a2
      | c a1 a2 => exact fin a2
    · rw [posF, if_neg q, show n + (posF f fs + 1) = n + 1 + posF f fs by omega] at hk r
      cases h with
      | d a1 a2 =>
        rw [putF, if_neg q, putFd, if_neg q]
        exact .d (a1.mono e) (Rff.put e a2 hk r)
      | c a1 a2 =>
        rw [putF, if_neg q, putFd, if_neg q]
        exact .c (a1.mono e (fun a q => (hk n a (by omega) q).2) fun a q => (hk n a (by omega) q).1) (Rff.put e a2 hk r)
theorem putF_same {f : Str} {v : V} : ∀ {vs : List (Str × V)}, vs.lookup f = some v → putF f v vs = vs
  | [], h => by cases h
  | (g, u) :: vs, h => by
    rw [putF]
    by_cases q : g = f
    · subst q
      have h : some u = some v := by simpa [List.lookup] using h
      cases h
      rw [if_pos rfl]
    · have b : (f == g) = false := beq_eq_false_iff_ne.mpr (Ne.symm q)
      simp only [List.lookup, b] at h
      rw [if_neg q, putF_same h]
end
section
variable {K : Fr} {c : Cxt} {ρ : Env} {σ : L2.St} {S : Sh} {H : Hp}
/-- what nobody knows is given to a slot's object -/
noncomputable def Sh.adopt (S : Sh) (i : Nat) (P : Addr → Prop) : Sh := ⟨S.h, fun a => open Classical in if P a then some i else S.ow a⟩
theorem Sh.adopt_in {i : Nat} {P : Addr → Prop} {a : Addr} (h : P a) : (S.adopt i P).ow a = some i := by
  unfold Sh.adopt
  simp only
  rw [if_pos h]
theorem Sh.adopt_out {i : Nat} {P : Addr → Prop} {a : Addr} (h : ¬ P a) : (S.adopt i P).ow a = S.ow a := by
  unfold Sh.adopt
  simp only
  rw [if_neg h]
theorem StR.adopt (st : StR K c ρ σ S H) {i : Nat} {P : Addr → Prop} (hl : Loose c S H P) (hC : isCont ρ[i]? = true) : StR K c ρ σ (S.adopt i P) H := by
  have sub : ∀ j a, ownP S j a → ownP (S.adopt i P) j a := fun j a h => by
    show (S.adopt i P).ow a = some j
    rw [Sh.adopt_out fun z => by
      have := (hl a z).2.2.2
      rw [show S.ow a = some j from h] at this
      cases this]
    exact h
  refine ⟨st.sub, st.old, st.keep, st.live, st.hs, st.len, st.val, fun j k h => ?_, fun j k h => ?_, st.exc, fun a j h => ?_⟩
  · obtain ⟨l, a1, a2⟩ := st.own j k h
    exact ⟨l, a1, a2.mono (Ex.refl _) (fun _ _ => rfl) (sub j)⟩
  · obtain ⟨l, a1, a2, a3⟩ := st.bor j k h
    exact ⟨l, a1, a2.mono (Ex.refl _) (fun _ _ => rfl) (sub j), a3⟩
  · by_cases q : P a
    · rw [Sh.adopt_in q] at h
      cases h
      obtain ⟨b1, b2, b3, b4⟩ := hl a q
      refine ⟨b1, b2, .inl b3, ?_⟩
      cases e : ρ[i]? with
      | none =>
        rw [e] at hC
        cases hC
      | some s =>
        rw [e] at hC
        cases s with
        | own k => exact .inl ⟨⟨k, rfl⟩, b3⟩
        | bor k => exact .inr ⟨⟨k, rfl⟩, .inl b3⟩
        | _ => cases hC
    · rw [Sh.adopt_out q] at h
      exact st.owF a j h
theorem isCont_of {cls : Str} {s : Option Slot} {fs : List (Str × Fd)} (h : fldsAt cls s = some fs) : isCont s = true := by
  cases s with
  | none => cases h
  | some s =>
    cases s with
    | own k => rfl
    | bor k => rfl
    | _ => cases h
/-- the object in a slot -/
theorem StR.objAt (st : StR K c ρ σ S H) {i : Nat} {cls : Str} {fs : List (Str × Fd)} (h : fldsAt cls ρ[i]? = some fs) :
    ∃ l, (ρ[i]? = some (.own (.obj cls fs)) ∨ ρ[i]? = some (.bor (.obj cls fs))) ∧ σ[i]? = some (some (.ref l)) ∧ ContR K S.h H (ownP S i) l (.obj cls fs) := by
  cases e : ρ[i]? with
  | none =>
    rw [e] at h
    cases h
  | some s =>
    rw [e] at h
    cases s with
    | own k =>
      cases k with
      | obj k fs' =>
        simp only [fldsAt] at h
        split at h
        · rename_i q
          cases h
          subst q
          obtain ⟨l, a1, a2⟩ := st.own i _ e
          exact ⟨l, .inl rfl, a1, a2⟩
        · cases h
      | _ => cases h
    | bor k =>
      cases k with
      | obj k fs' =>
        simp only [fldsAt] at h
        split at h
        · rename_i q
          cases h
          subst q
          obtain ⟨l, a1, a2, _⟩ := st.bor i _ e
          exact ⟨l, .inr rfl, a1, a2⟩
        · cases h
      | _ => cases h
    | _ => cases h
/-- an attribute's own list or dict is shared from here on -/
noncomputable def Sh.shareF (S : Sh) (H : Hp) (P : Addr → Prop) : Sh := ⟨(S.give H P).h, fun a => open Classical in if P a then none else S.ow a⟩
theorem Sh.shareF_some {P : Addr → Prop} {a : Addr} {j : Nat} : (S.shareF H P).ow a = some j ↔ ¬ P a ∧ S.ow a = some j := by
  unfold Sh.shareF
  simp only
  by_cases q : P a
  · rw [if_pos q]
    exact ⟨fun z => (nomatch z), fun z => absurd q z.1⟩
  · rw [if_neg q]
    exact ⟨fun z => ⟨q, z⟩, fun z => z.2⟩
theorem StR.shareF (st : StR K c ρ σ S H) {i : Nat} {s : Slot} {cls f : Str} {fs : List (Str × Fd)} {u : Lf} (hs : ρ[i]? = some s) (hk : s = .own (.obj cls fs) ∨ s = .bor (.obj cls fs)) (hf : fs.lookup f = some (.c u)) :
    ∃ (l C dx : Addr) (vs : List (Str × V)) (v : V) (S' : Sh) (s' : Slot), σ[i]? = some (some (.ref l)) ∧ H l = some (.ins C dx vs) ∧ K.mg cls = some (.ref C) ∧ vs.lookup f = some v ∧ R K S'.h v u.d ∧ Ex S.h S'.h ∧
      (s = .own (.obj cls fs) → s' = .own (.obj cls (putFd f (.d u.d) fs))) ∧ (s = .bor (.obj cls fs) → s' = .bor (.obj cls (putFd f (.d u.d) fs))) ∧ StR K c (ρ.set i s') σ S' H := by
  have hC : s.isC = true := by rcases hk with rfl | rfl <;> rfl
  have base : ∃ l, σ[i]? = some (some (.ref l)) ∧ ContR K S.h H (ownP S i) l (.obj cls fs) ∧ (s = .bor (.obj cls fs) → c.vs[i]? = some (.ref l)) := by
    rcases hk with rfl | rfl
    · obtain ⟨l, a1, a2⟩ := st.own i _ hs
      exact ⟨l, a1, a2, fun z => nomatch z⟩
    · obtain ⟨l, a1, a2, a3⟩ := st.bor i _ hs
      exact ⟨l, a1, a2, fun _ => a3⟩
  obtain ⟨l, hl, hcont, hvs⟩ := base
  obtain ⟨p, C, dx, vs, w, p2, w1, w2, b1, b2, b3, b4⟩ := hcont
  obtain ⟨v, v1, a, rfl, v3⟩ := b4.look hf
  let Pj : Addr → Prop := part (ownP S i) w (0 + posF f fs)
  have hPj : ∀ a, Pj a → S.ow a = some i ∧ w a = some (0 + posF f fs) := fun a q => q
  have ex : Ex S.h (S.shareF H Pj).h := Sh.give_ex (S := S) (H := H) fun a q => (st.owF a i (hPj a q).1).1
  have rr : R K (S.shareF H Pj).h (.ref a) u.d := v3.share ex fun a q => Sh.give_in (S := S) q
  have nl : ¬ Pj l := fun z => by
    have := (hPj l z).2
    rw [w1] at this
    cases this
  have nd : ¬ Pj dx := fun z => by
    have := (hPj dx z).2
    rw [w2] at this
    cases this
  have cont' : ContR K (S.shareF H Pj).h H (ownP (S.shareF H Pj) i) l (.obj cls (putFd f (.d u.d) fs)) := by
    have e := b4.put (P' := part (ownP (S.shareF H Pj) i) w) (H' := H) (x := .d u.d) (v := .ref a) ex (fun m a hm q => ⟨⟨Sh.shareF_some.mpr ⟨fun z => hm (by
      have z2 := (hPj a z).2
      rw [q.2] at z2
      exact Option.some.inj z2), q.1⟩, q.2⟩, rfl⟩) rr
    rw [putF_same v1] at e
    exact ⟨Sh.shareF_some.mpr ⟨nl, p⟩, C, dx, vs, w, Sh.shareF_some.mpr ⟨nd, p2⟩, w1, w2, b1, b2, b3, e⟩
  let s' : Slot := match s with
    | .own _ => .own (.obj cls (putFd f (.d u.d) fs))
    | _ => .bor (.obj cls (putFd f (.d u.d) fs))
  have g1 : s = .own (.obj cls fs) → s' = .own (.obj cls (putFd f (.d u.d) fs)) := fun z => by subst z; rfl
  have g2 : s = .bor (.obj cls fs) → s' = .bor (.obj cls (putFd f (.d u.d) fs)) := fun z => by subst z; rfl
  have hi : i < ρ.length := lt_of_get hs
  refine ⟨l, C, dx, vs, .ref a, S.shareF H Pj, s', hl, b1, b3, v1, rr, ex, g1, g2, ?_⟩
  refine st.slot (S' := S.shareF H Pj) (s := s') ex (Sh.give_sub (S := S) st.sub) (fun a q1 q2 q3 => ?_) (fun a j hj => ?_) (fun a j hj q => ?_) (fun _ _ => rfl) rfl (fun d e _ => ?_) (fun k e _ => ?_) (fun k e _ => ?_) (fun er e _ => ?_) fun a q => ?_
  · show (S.give H Pj).h a = none
    rw [Sh.give_out fun z => by
      rcases (st.owF a i (hPj a z).1).2.2.1 with y | y
      · exact q2 y
      · exact q3 y]
    exact st.hs a q1 q2 q3
  · rw [Sh.shareF_some]
    exact ⟨fun z => z.2, fun z => ⟨fun y => hj (by have := (hPj a y).1; rw [z] at this; exact Option.some.inj this), z⟩⟩
  · show (S.give H Pj).h a = none
    rw [Sh.give_out fun z => hj (by have := (hPj a z).1; rw [q] at this; exact Option.some.inj this)]
    exact (st.owF a j q).1
  · rcases hk with z | z
    · rw [g1 z] at e
      cases e
    · rw [g2 z] at e
      cases e
  · rcases hk with z | z
    · rw [g1 z] at e
      cases e
      exact ⟨l, hl, cont'⟩
    · rw [g2 z] at e
      cases e
  · rcases hk with z | z
    · rw [g1 z] at e
      cases e
    · have hv := hvs z
      rw [g2 z] at e
      cases e
      exact ⟨l, hl, cont', hv⟩
  · rcases hk with z | z
    · rw [g1 z] at e
      cases e
    · rw [g2 z] at e
      cases e
  · obtain ⟨n, q⟩ := Sh.shareF_some.mp q
    obtain ⟨h1, h2, h3, h4⟩ := st.owF a i q
    refine ⟨?_, h2, h3, ?_⟩
    · show (S.give H Pj).h a = none
      rw [Sh.give_out n]
      exact h1
    · rcases hk with z | z
      · rw [g1 z]
        rcases h4 with h4 | ⟨⟨k, h4⟩, _⟩
        · exact .inl ⟨⟨_, set_get hi⟩, h4.2⟩
        · rw [hs, z] at h4
          cases h4
      · rw [g2 z]
        rcases h4 with ⟨⟨k, h4⟩, _⟩ | h4
        · rw [hs, z] at h4
          cases h4
        · exact .inr ⟨⟨_, set_get hi⟩, h4.2⟩
end
end Dn
set_option Elab.async false
set_option linter.all false
set_option maxRecDepth 100000
set_option maxHeartbeats 4000000
/-! Attributes read and stored. -/
namespace Dn
open PySem L2
/-- an attribute of a class of the text's own -/
structure FldK (K : Fr) (cls f : Str) : Prop where
  ex : ∃ C, K.mg cls = some (.ref C) ∧ Cls K.K C ∧ NoAttr K.K C f
section
variable {K : Fr} {c : Cxt} {cls f : Str}
theorem R.objR {H : Hp} {v : V} {d : D} {r : Rv} (h : R K H v d) (e : oFld cls f d = some r) : ∃ a C dx vs x u, v = .ref a ∧ H a = some (.ins C dx vs) ∧ K.mg cls = some (.ref C) ∧ vs.lookup f = some u ∧ r = .d x ∧ R K H u x := by
  cases h with
  | @obj a C dx vs k fs h1 h2 h3 h4 =>
    simp only [oFld] at e
    split at e
    · rename_i q
      subst q
      rw [Option.map_eq_some_iff] at e
      obtain ⟨x, e1, rfl⟩ := e
      obtain ⟨u, z1, z2⟩ := h4.look e1
      exact ⟨a, C, dx, vs, x, u, rfl, h1, h3, z1, rfl, z2⟩
    · cases e
  | _ => cases e
theorem ev_oFld {te : TE} {m : E} (T : FldK K cls f) (h : Ev K c te (pV K c) m) : Ev K c (tFld K.K te f) (pV K c) (e1 (oFld cls f) m) := by
  obtain ⟨C, hm, hc, hn⟩ := T.ex
  refine ev_bind (u := fun σ x H (Q : VK) => ∃ a C dx fs v, x = .ref a ∧ H a = some (.ins C dx fs) ∧ Cls K.K C ∧ NoAttr K.K C f ∧ fs.lookup f = some v ∧ Q v H) (ev_val h) fun d v ρ σ S H Q st r g => ?_
  cases e : oFld cls f d with
  | none =>
    rw [e] at g
    exact g.elim
  | some z =>
    rw [e] at g
    obtain ⟨a, C', dx, vs, x, u, rfl, z1, z2, z3, rfl, z5⟩ := R.objR (K := K) (r) e
    rw [hm] at z2
    cases z2
    exact ⟨a, C, dx, vs, u, rfl, st.sub _ _ z1, hc, hn, z3, g u S H st (Ex.refl _) z5⟩
theorem ev_eFld {i : Nat} (T : FldK K cls f) : Ev K c (tFld K.K (tVar i) f) (pV K c) (eFld cls f i) := by
  obtain ⟨C, hm, hc, hn⟩ := T.ex
  intro ρ σ S H Q st g
  unfold eFld at g
  cases e : ρ[i]? with
  | none =>
    rw [e] at g
    exact g.elim
  | some s =>
    rw [e] at g
    cases s with
    | val d =>
      obtain ⟨v, h1, h2⟩ := st.val i d e
      simp only at g
      cases q : oFld cls f d with
      | none =>
        rw [q] at g
        exact g.elim
      | some z =>
        rw [q] at g
        obtain ⟨a, C', dx, vs, x, u, rfl, z1, z2, z3, rfl, z5⟩ := R.objR (K := K) h2 q
        rw [hm] at z2
        cases z2
        exact ⟨.ref a, h1, a, C, dx, vs, u, rfl, st.sub _ _ z1, hc, hn, z3, g u S H st (Ex.refl _) z5⟩
    | own k =>
      cases k with
      | obj k fs =>
        simp only at g
        split at g
        · rename_i q
          subst q
          cases z : fs.lookup f with
          | none =>
            rw [z] at g
            exact g.elim
          | some x =>
            rw [z] at g
            cases x with
            | d x =>
              obtain ⟨l, h1, p, C', dx, vs, w, p2, w1, w2, b1, b2, b3, b4⟩ := st.own i _ e
              rw [hm] at b3
              cases b3
              obtain ⟨v, v1, v2⟩ := b4.look z
              exact ⟨.ref l, h1, l, C, dx, vs, v, rfl, b1, hc, hn, v1, g v S H st (Ex.refl _) v2⟩
            | c u =>
              obtain ⟨l, C', dx, vs, v, S', s', a1, a2, a3, a4, a5, a6, a7, a8, a9⟩ := st.shareF e (.inl rfl) z
              rw [hm] at a3
              cases a3
              rw [a7 rfl] at a9
              exact ⟨.ref l, a1, l, C, dx, vs, v, rfl, a2, hc, hn, a4, g v S' H a9 a6 a5⟩
        · exact g.elim
      | _ => exact g.elim
    | bor k =>
      cases k with
      | obj k fs =>
        simp only at g
        split at g
        · rename_i q
          subst q
          cases z : fs.lookup f with
          | none =>
            rw [z] at g
            exact g.elim
          | some x =>
            rw [z] at g
            cases x with
            | d x =>
              obtain ⟨l, h1, ⟨p, C', dx, vs, w, p2, w1, w2, b1, b2, b3, b4⟩, _⟩ := st.bor i _ e
              rw [hm] at b3
              cases b3
              obtain ⟨v, v1, v2⟩ := b4.look z
              exact ⟨.ref l, h1, l, C, dx, vs, v, rfl, b1, hc, hn, v1, g v S H st (Ex.refl _) v2⟩
            | c u =>
              obtain ⟨l, C', dx, vs, v, S', s', a1, a2, a3, a4, a5, a6, a7, a8, a9⟩ := st.shareF e (.inr rfl) z
              rw [hm] at a3
              cases a3
              rw [a8 rfl] at a9
              exact ⟨.ref l, a1, l, C, dx, vs, v, rfl, a2, hc, hn, a4, g v S' H a9 a6 a5⟩
        · exact g.elim
      | _ => exact g.elim
    | _ => exact g.elim
theorem chg_at {ρ : Env} {σ : L2.St} {S : Sh} {H : Hp} {i : Nat} {k : C} {l : Addr} {D : Ends} {F : C → Option C} (st : StR K c ρ σ S H) (hk : ρ[i]? = some (.own k) ∨ ρ[i]? = some (.bor k)) (h1 : σ[i]? = some (some (.ref l))) (g : GoalS K c S (chg i F ρ) D) :
    ∃ k', F k = some k' ∧ ∀ H' P, Chg S H i H' P → ContR K S.h H' P l k' → D.nx σ H' := by
  unfold chg at g
  rcases hk with e | e
  · rw [e] at g
    cases q : F k with
    | none =>
      simp only [q] at g
      exact g.elim
    | some k' =>
      simp only [q] at g
      exact ⟨k', rfl, fun H' P ch hk => g σ (S.own i P) _ (st.change e (.inl ⟨k, rfl, rfl⟩) h1 ch.other ch.live ch.own hk) (Ex.refl _)⟩
  · rw [e] at g
    cases q : F k with
    | none =>
      simp only [q] at g
      exact g.elim
    | some k' =>
      simp only [q] at g
      exact ⟨k', rfl, fun H' P ch hk => g σ (S.own i P) _ (st.change e (.inr ⟨k, rfl, rfl⟩) h1 ch.other ch.live ch.own hk) (Ex.refl _)⟩
/-- an attribute of the object in a slot is stored; P2: what the new value brings along -/
theorem put_obj {ρ : Env} {σ : L2.St} {S : Sh} {H : Hp} {i : Nat} {fs : List (Str × Fd)} {x : Fd} {v : V} {D : Ends} {P2 : Addr → Prop} (T : FldK K cls f) (st : StR K c ρ σ S H) (hf : fldsAt cls ρ[i]? = some fs) (h2 : ∀ a, P2 a → S.ow a = none)
    (st' : StR K c ρ σ (S.adopt i P2) H) (hx : FdR K S.h H P2 v x) (g : GoalS K c S (chg i (cPutFd cls f x) ρ) D) :
    ∃ a C dx vs, σ[i]? = some (some (.ref a)) ∧ H a = some (.ins C dx vs) ∧ K.mg cls = some (.ref C) ∧ Cls K.K C ∧ NoAttr K.K C f ∧ vs.length < 1000 ∧ D.nx σ (upd H a (.ins C dx (putF f v vs))) := by
  classical
  obtain ⟨C, hm, hc, hn⟩ := T.ex
  obtain ⟨l, hk, h1, p, C', dx, vs, w, p2, w1, w2, b1, b2, b3, b4⟩ := st.objAt hf
  rw [hm] at b3
  cases b3
  have g' : GoalS K c (S.adopt i P2) (chg i (cPutFd cls f x) ρ) D := g
  obtain ⟨k', e3, e4⟩ := chg_at st' hk h1 g'
  simp only [cPutFd] at e3
  split at e3
  · rename_i z
    cases e3
    have own1 : ∀ a, ownP S i a → ownP (S.adopt i P2) i a := fun a h => by
      show (S.adopt i P2).ow a = some i
      rw [Sh.adopt_out fun z => by
        have y := h2 a z
        rw [show S.ow a = some i from h] at y
        cases y]
      exact h
    have n2 : ∀ {a}, ownP S i a → ¬ P2 a := fun {a} h z => by
      have y := h2 a z
      rw [show S.ow a = some i from h] at y
      cases y
    let j := 0 + posF f fs
    let w' : Addr → Option Nat := fun b => if P2 b then some j else if w b = some j then none else w b
    have hw : ∀ {a}, ownP S i a → w a ≠ some j → w' a = w a := fun {a} h n => by
      show (if P2 a then some j else if w a = some j then none else w a) = w a
      rw [if_neg (n2 h), if_neg n]
    have lne : ∀ a, a ≠ l → upd H l (.ins C dx (putF f v vs)) a = H a := fun a h => upd_ne h
    refine ⟨l, C, dx, vs, h1, b1, hm, hc, hn, by rw [b4.length]; omega, e4 _ (ownP (S.adopt i P2) i) (Chg.upd st' (own1 l p)) ⟨own1 l p, C, dx, putF f v vs, w', own1 dx p2, ?_, ?_, upd_same, ?_, hm, ?_⟩⟩
    · rw [hw p (by rw [w1]; exact fun z => nomatch z)]
      exact w1
    · rw [hw p2 (by rw [w2]; exact fun z => nomatch z)]
      exact w2
    · by_cases q : dx = l
      · rw [q] at b2
        rw [b1] at b2
        cases b2
      · rw [lne dx q]
        exact b2
    · refine b4.put (Ex.refl _) (fun m a hm q => ⟨⟨own1 a q.1, ?_⟩, lne a fun z => ?_⟩) ?_
      · rw [hw q.1 (by rw [q.2]; exact fun z => hm (Option.some.inj z))]
        exact q.2
      · have := q.2
        rw [z, w1] at this
        cases this
      · cases x with
        | d x => exact hx
        | c u =>
          obtain ⟨a, rfl, r⟩ := hx
          refine ⟨a, rfl, r.mono (Ex.refl _) (fun b q => lne b fun z => ?_) fun b q => ⟨?_, ?_⟩⟩
          · rw [z] at q
            exact n2 p q
          · exact Sh.adopt_in q
          · show (if P2 b then some j else if w b = some j then none else w b) = some j
            rw [if_pos q]
  · cases e3
/-- nothing is brought along -/
theorem StR.adopt0 {ρ : Env} {σ : L2.St} {S : Sh} {H : Hp} {i : Nat} (st : StR K c ρ σ S H) : StR K c ρ σ (S.adopt i fun _ => False) H := by
  have e : S.adopt i (fun _ => False) = S := by
    cases S
    unfold Sh.adopt
    simp
  rw [e]
  exact st
theorem evs_setFd {tv : TE} {m : E} {i : Nat} (T : FldK K cls f) (h : Ev K c tv (pV K c) m) : EvS K c (sFld K.K (tVar i) tv f) (sSetFd cls i f m) := by
  intro ρ σ S H D st g
  refine run_at (ev_val h) st g fun d v ρ1 S1 H1 st1 r g1 => ?_
  split at g1
  · rename_i hs
    obtain ⟨fs, hf⟩ := Option.isSome_iff_exists.mp hs
    obtain ⟨a, C, dx, vs, z1, z2, z3, z4, z5, z6, z7⟩ := put_obj (P2 := fun _ => False) (v := v) (x := .d d) T st1 hf (fun _ z => z.elim) st1.adopt0 r g1
    exact ⟨.ref a, z1, a, C, dx, vs, rfl, z2, z4, z5, z6, z7⟩
  · exact g1.elim
theorem ContR.lf {Hs H : Hp} {P : Addr → Prop} {l : Addr} {k : C} {u : Lf} (h : ContR K Hs H P l k) (e : k.lf = some u) : ContL K Hs H P l u := by
  cases k with
  | obj _ _ => cases e
  | _ =>
    cases e
    exact h
theorem evs_setFc {tv : TE} {m : E} {i : Nat} (T : FldK K cls f) (h : Ev K c tv (pV K c) m) : EvS K c (sFld K.K (tVar i) tv f) (sSetFc cls i f m) := by
  intro ρ σ S H D st g
  refine run_at h st g fun d v ρ1 S1 H1 st1 r g1 => ?_
  cases d with
  | d x => exact g1.elim
  | o k =>
    obtain ⟨l, P, rfl, r1, r2⟩ := r
    cases e : k.lf with
    | none =>
      simp only [e] at g1
      exact g1.elim
    | some u =>
      simp only [e] at g1
      split at g1
      · rename_i hs
        obtain ⟨fs, hf⟩ := Option.isSome_iff_exists.mp hs
        obtain ⟨a, C, dx, vs, z1, z2, z3, z4, z5, z6, z7⟩ := put_obj (P2 := P) (v := .ref l) (x := .c u) T st1 hf (fun a z => (r2 a z).2.2.2) (st1.adopt r2 (isCont_of hf)) ⟨l, rfl, r1.lf e⟩ g1
        exact ⟨.ref a, z1, a, C, dx, vs, rfl, z2, z4, z5, z6, z7⟩
      · exact g1.elim
theorem evs_augF {tv : TE} {m : E} {i : Nat} {G : D → D → Option Rv} {rd : V → V → Hp → VK → Prop} (T : FldK K cls f) (h : Ev K c tv (pV K c) m) (hG : ∀ x y z H Q, G (.int x) (.int y) = some (.d (.int z)) → Q (.int z) H → rd (.int x) (.int y) H Q) :
    EvS K c (sFldAug K.K (tVar i) tv rd f) (sAugF cls G i f m) := by
  obtain ⟨C, hm, hc, hn⟩ := T.ex
  intro ρ σ S H D st g
  unfold sAugF at g
  cases e : fldsAt cls ρ[i]? with
  | none =>
    rw [e] at g
    exact g.elim
  | some fs =>
    simp only [e] at g
    obtain ⟨l, hk, h1, p, C', dx, vs, w, p2, w1, w2, b1, b2, b3, b4⟩ := st.objAt e
    rw [hm] at b3
    cases b3
    split at g
    · rename_i x hx
      obtain ⟨v, v1, v2⟩ := b4.look hx
      have v2 : R K S.h v (.int x) := v2
      cases v2
      refine ⟨.ref l, h1, l, C, dx, vs, .int x, rfl, b1, hc, hn, v1, (ev_val h) ρ σ S H _ st ?_⟩
      cases z : val m ρ with
      | bad =>
        simp only [z] at g
        exact g.elim
      | err er ρ' =>
        simp only [z] at g
        exact fun cls od S' H' st' ex er => g cls od σ S' H' st' ex er
      | ok y ρ' =>
        simp only [z] at g
        intro u S1 H1 st1 ex r
        cases y with
        | int y =>
          have r : R K S1.h u (.int y) := r
          cases r
          simp only at g
          split at g
          · rename_i z hz
            split at g
            · rename_i hs
              obtain ⟨fs', hf⟩ := Option.isSome_iff_exists.mp hs
              obtain ⟨a, C', dx', vs', z1, z2, z3, z4, z5, z6, z7⟩ := put_obj (P2 := fun _ => False) (v := .int z) (x := .d (.int z)) T st1 hf (fun _ z => z.elim) st1.adopt0 (R.int z) (GoalS.mono ex g)
              rw [h1] at z1
              cases z1
              rw [hm] at z3
              cases z3
              exact hG x y z H1 _ hz ⟨dx', vs', z2, z6, z7⟩
            · exact g.elim
          · exact g.elim
        | _ => exact g.elim
    · exact g.elim
end
end Dn
set_option Elab.async false
set_option linter.all false
set_option maxRecDepth 100000
set_option maxHeartbeats 4000000
/-! Lists and dicts that stand in attributes, changed in place. -/
namespace Dn
open PySem L2
section
variable {K : Fr} {c : Cxt} {cls f : Str} {ρ : Env} {σ : L2.St} {S : Sh} {H : Hp}
/-- only what may be shared is seen, nothing else is touched -/
abbrev vCx (S : Sh) (H : Hp) : Cxt := ⟨[], S.h, H, fun _ _ => False, noErr, none, fun _ _ z => z.elim⟩
theorem StR.vals (st : StR K c ρ σ S H) : StR K (vCx S H) (valsE ρ) σ ⟨S.h, fun _ => none⟩ H := by
  have at_ : ∀ {i : Nat} {s : Slot}, (valsE ρ)[i]? = some s → (∃ d, s = .val d ∧ ρ[i]? = some (.val d)) ∨ s = .un := fun {i s} h => by
    unfold valsE at h
    rw [List.getElem?_map, Option.map_eq_some_iff] at h
    obtain ⟨t, h1, h2⟩ := h
    cases t with
    | val d => exact .inl ⟨d, h2.symm, h1⟩
    | _ => exact .inr h2.symm
  refine ⟨st.sub, Ex.refl _, fun a o h _ _ => h, fun a h => h, fun a h _ _ => h, ?_, fun i d h => ?_, fun i k h => ?_, fun i k h => ?_, fun i e h => ?_, fun a i h => nomatch h⟩
  · rw [valsE, List.length_map]
    exact st.len
  · rcases at_ h with ⟨d', z, h'⟩ | z
    · cases z
      exact st.val i d h'
    · cases z
  · rcases at_ h with ⟨d', z, _⟩ | z <;> cases z
  · rcases at_ h with ⟨d', z, _⟩ | z <;> cases z
  · rcases at_ h with ⟨d', z, _⟩ | z <;> cases z
theorem StR.unvals {ρ' : Env} {S' : Sh} {H' : Hp} (st : StR K c ρ σ S H) (s2 : StR K (vCx S H) ρ' σ S' H') (ex : Ex S.h S'.h) : StR K c ρ σ ⟨S'.h, S.ow⟩ H' :=
  st.ext (S1 := ⟨S'.h, S.ow⟩) ex rfl s2.sub (fun a o h1 h2 => s2.keep a o h1 h2 fun z => z.elim fun _ z => z.elim) s2.live fun a h1 h2 => s2.hs a h1 h2 fun z => z.elim fun _ z => z.elim
/-- an expression that only sees what may be shared -/
theorem run_vals {m : E} {Q : V → Hp → Prop} {d : D} {ρ' : Env} (st : StR K c ρ σ S H) (e : val m (valsE ρ) = .ok d ρ') (h : ∀ (v : V) (S' : Sh) (H' : Hp), StR K c ρ σ ⟨S'.h, S.ow⟩ H' → Ex S.h S'.h → (∀ a o, H a = some o → S.h a = none → H' a = some o) → R K S'.h v d → Q v H') : eIn K m σ H Q := by
  refine ⟨vCx S H, rfl, valsE ρ, ⟨S.h, fun _ => none⟩, st.vals, ?_⟩
  rw [e]
  exact fun v S' H' s2 ex r => h v S' H' (st.unvals s2 ex) ex (fun a o h1 h2 => s2.keep a o h1 h2 fun z => z.elim fun _ z => z.elim) r
/-- the list or dict of an attribute -/
theorem StR.fldAt {i : Nat} {fs : List (Str × Fd)} {u : Lf} (T : FldK K cls f) (st : StR K c ρ σ S H) (hf : fldsAt cls ρ[i]? = some fs) (hu : fs.lookup f = some (.c u)) :
    ∃ l C dx vs a w, (ρ[i]? = some (.own (.obj cls fs)) ∨ ρ[i]? = some (.bor (.obj cls fs))) ∧ σ[i]? = some (some (.ref l)) ∧ H l = some (.ins C dx vs) ∧ K.mg cls = some (.ref C) ∧ Cls K.K C ∧ NoAttr K.K C f ∧ vs.lookup f = some (.ref a) ∧ ownP S i l ∧ w l = none ∧ ownP S i dx ∧ w dx = none ∧ H dx = some (.own l) ∧
      Rff K S.h H (part (ownP S i) w) 0 vs fs ∧ ContL K S.h H (part (ownP S i) w (0 + posF f fs)) a u := by
  obtain ⟨C, hm, hc, hn⟩ := T.ex
  obtain ⟨l, hk, h1, p, C', dx, vs, w, p2, w1, w2, b1, b2, b3, b4⟩ := st.objAt hf
  rw [hm] at b3
  cases b3
  obtain ⟨v, v1, a, rfl, v3⟩ := b4.look hu
  exact ⟨l, C, dx, vs, a, w, hk, h1, b1, hm, hc, hn, v1, p, w1, p2, w2, b2, b4, v3⟩
theorem chg_inF {i : Nat} {fs : List (Str × Fd)} {u : Lf} {G : Lf → Option Lf} {D : Ends} {l C dx a : Addr} {vs : List (Str × V)} (T : FldK K cls f) (st : StR K c ρ σ S H) (hf : fldsAt cls ρ[i]? = some fs) (hu : fs.lookup f = some (.c u))
    (h1 : σ[i]? = some (some (.ref l))) (h2 : H l = some (.ins C dx vs)) (h3 : vs.lookup f = some (.ref a)) (g : GoalS K c S (chg i (cInF cls f G) ρ) D) :
    ∃ P u', ContL K S.h H P a u ∧ G u = some u' ∧ ∀ o, ContL K S.h (upd H a o) P a u' → D.nx σ (upd H a o) := by
  obtain ⟨l', C', dx', vs', a', w, hk, e1, b1, hm, hc, hn, v1, p, w1, p2, w2, b2, b4, v3⟩ := st.fldAt T hf hu
  rw [h1] at e1
  cases e1
  rw [h2] at b1
  cases b1
  rw [h3] at v1
  cases v1
  obtain ⟨k', q1, q2⟩ := chg_at st hk h1 g
  simp only [cInF, if_true, hu, Option.map_eq_some_iff] at q1
  obtain ⟨u', q3, rfl⟩ := q1
  refine ⟨_, u', v3, q3, fun o z => q2 _ _ (Chg.upd st v3.there.1.1) ?_⟩
  have ne : ∀ {b}, b ≠ a → upd H a o b = H b := fun h => upd_ne h
  have nl : l ≠ a := fun z => by
    have := v3.there.1.2
    rw [← z, w1] at this
    cases this
  have nd : dx ≠ a := fun z => by
    have := v3.there.1.2
    rw [← z, w2] at this
    cases this
  refine ⟨p, C, dx, vs, w, p2, w1, w2, by rw [ne nl]; exact h2, by rw [ne nd]; exact b2, hm, ?_⟩
  have e := b4.put (P' := part (ownP S i) w) (H' := upd H a o) (x := .c u') (v := .ref a) (Ex.refl _) (fun m b hm q => ⟨q, ne fun z => hm (by
    have y := v3.there.1.2
    rw [← z, q.2] at y
    exact Option.some.inj y)⟩) ⟨a, rfl, z⟩
  rw [putF_same h3] at e
  exact e
theorem evs_appF {m : E} {i : Nat} (T : FldK K cls f) : EvS K c (tDrop (tBM K.K "list" rAppend (tFld K.K (tVar i) f) (tCons (eIn K m) tNil))) (sAppF cls f i m) := by
  intro ρ σ S H D st g
  unfold sAppF at g
  split at g
  · rename_i hL
    unfold isLf at hL
    cases hf : fldsAt cls ρ[i]? with
    | none =>
      rw [hf] at hL
      cases hL
    | some fs =>
      simp only [hf] at hL
      split at hL
      · rename_i xs hu
        obtain ⟨l, C, dx, vs, a, w, hk, h1, b1, hm, hc, hn, v1, p, w1, p2, w2, b2, b4, v3⟩ := st.fldAt T hf hu
        obtain ⟨va, ys, y1, y2⟩ := id v3
        refine ⟨.ref l, h1, l, C, dx, vs, .ref a, rfl, b1, hc, hn, v1, ty_list y1, ?_⟩
        cases e : val m (valsE ρ) with
        | bad =>
          simp only [e] at g
          exact g.elim
        | err er ρ' =>
          simp only [e] at g
          exact g.elim
        | ok d ρ' =>
          simp only [e] at g
          refine run_vals st e fun v S' H' st' ex kp r => ?_
          have hl : H' l = some (.ins C dx vs) := kp l _ b1 (st.owF l i p).1
          obtain ⟨P, u', z1, z2, z3⟩ := chg_inF T st' hf hu h1 hl v1 (GoalS.mono ex g)
          obtain ⟨pa, zs, x1, x2⟩ := z1
          simp only [lApp] at z2
          split at z2
          · rename_i hlt
            cases z2
            exact ⟨a, zs, v, rfl, rfl, x1, Evl.sz_lt (by rw [x2.length]; exact hlt), z3 _ ⟨pa, _, upd_same, x2.append (.cons r .nil)⟩⟩
          · cases z2
      · cases hL
  · exact g.elim
theorem evs_extF {m : E} {i : Nat} (T : FldK K cls f) : EvS K c (tDrop (tBM K.K "list" rExtend (tFld K.K (tVar i) f) (tCons (eIn K m) tNil))) (sExtF cls f i m) := by
  intro ρ σ S H D st g
  unfold sExtF at g
  split at g
  · rename_i hL
    unfold isLf at hL
    cases hf : fldsAt cls ρ[i]? with
    | none =>
      rw [hf] at hL
      cases hL
    | some fs =>
      simp only [hf] at hL
      split at hL
      · rename_i xs hu
        obtain ⟨l, C, dx, vs, a, w, hk, h1, b1, hm, hc, hn, v1, p, w1, p2, w2, b2, b4, v3⟩ := st.fldAt T hf hu
        obtain ⟨va, ys, y1, y2⟩ := id v3
        refine ⟨.ref l, h1, l, C, dx, vs, .ref a, rfl, b1, hc, hn, v1, ty_list y1, ?_⟩
        cases e : val m (valsE ρ) with
        | bad =>
          simp only [e] at g
          exact g.elim
        | err er ρ' =>
          simp only [e] at g
          exact g.elim
        | ok d ρ' =>
          cases d with
          | lst ds =>
            simp only [e] at g
            refine run_vals st e fun v S' H' st' ex kp r => ?_
            have hl : H' l = some (.ins C dx vs) := kp l _ b1 (st.owF l i p).1
            obtain ⟨P, u', z1, z2, z3⟩ := chg_inF T st' hf hu h1 hl v1 (GoalS.mono ex g)
            obtain ⟨pa, zs, x1, x2⟩ := z1
            have r : R K S'.h v (.lst ds) := r
            cases r with
            | @lst b bs _ q1 q2 =>
              simp only [lExt] at z2
              split at z2
              · rename_i hlt
                cases z2
                exact ⟨a, b, zs, bs, rfl, rfl, x1, st'.sub _ _ q1, Evl.sz_of (by rw [x2.length, q2.length]; exact hlt), z3 _ ⟨pa, _, upd_same, x2.append q2⟩⟩
              · cases z2
          | _ =>
            simp only [e] at g
            exact g.elim
      · cases hL
  · exact g.elim
theorem evs_putKF {tv : TE} {k v : E} {i : Nat} (T : FldK K cls f) (hv : Ev K c tv (pV K c) v) : EvS K c (sDPutA K (tFld K.K (tVar i) f) (eIn K k) tv) (sPutKF cls f i k v) := by
  intro ρ0 σ S0 H0 D st0 g0
  refine run_at (ev_val hv) st0 g0 fun x vx ρ S H st rx g => ?_
  split at g
  · rename_i hL
    unfold isDf at hL
    cases hf : fldsAt cls ρ[i]? with
    | none =>
      rw [hf] at hL
      cases hL
    | some fs =>
      simp only [hf] at hL
      split at hL
      · rename_i xs hu
        obtain ⟨l, C, dx, vs, a, w, hk, h1, b1, hm, hc, hn, v1, p, w1, p2, w2, b2, b4, v3⟩ := st.fldAt T hf hu
        refine ⟨.ref l, h1, l, C, dx, vs, .ref a, rfl, b1, hc, hn, v1, ?_⟩
        cases e : val k (valsE ρ) with
        | bad =>
          simp only [e] at g
          exact g.elim
        | err er ρ' =>
          simp only [e] at g
          exact g.elim
        | ok d ρ' =>
          simp only [e] at g
          refine run_vals st e fun v S' H' st' ex kp r => ?_
          have hl : H' l = some (.ins C dx vs) := kp l _ b1 (st.owF l i p).1
          obtain ⟨P, u', z1, z2, z3⟩ := chg_inF T st' hf hu h1 hl v1 (GoalS.mono ex g)
          simp only [lPutK] at z2
          split at z2
          · rename_i hlt
            simp only [Bool.and_eq_true, decide_eq_true_eq] at hlt
            cases z2
            have rx : R K S.h vx x := rx
            obtain ⟨o, y1, y2⟩ := dict_put z1 st'.subE r hlt.1 hlt.2 (rx.mono ex)
            exact ⟨a, _, rfl, y1, z3 o y2⟩
          · cases z2
      · cases hL
  · exact g.elim
end
end Dn
set_option Elab.async false
set_option linter.all false
set_option maxRecDepth 100000
set_option maxHeartbeats 4000000
/-! Methods, and the making of objects. -/
namespace Dn
open PySem L2 PySem.Spec PyProof.Rows
/-! ### the readings -/
def tMethS (C : Addr) (m : Str) (sp : Sp) (E : L2.St → XK) (to : TE) (ta : TA) : TE := fun σ H Q => to σ H fun x H1 => ∃ a dx fs, x = .ref a ∧ H1 a = some (.ins C dx fs) ∧ fs.lookup m = none ∧ ta σ H1 fun ws H2 => sp (x :: ws) H2 Q (E σ)
def tNewS (C : Addr) (sp : Sp) (E : L2.St → XK) (ta : TA) : TE := fun σ H Q => ta σ H fun ws H1 => ∀ p q, H1 p = none → H1 q = none → q ≠ p → sp (.ref p :: ws) (upd (upd H1 q (.own p)) p (.ins C q [])) (fun v H2 => v = .non ∧ Q (.ref p) H2) (E σ)
def tNewK (C : Addr) (n : Nat) (gV : List V → List V) (sp : Sp) (E : L2.St → XK) (ta : TA) : TE := fun σ H Q => ta σ H fun ws H1 => ws.length = n ∧ ∀ p q, H1 p = none → H1 q = none → q ≠ p → sp (.ref p :: gV ws) (upd (upd H1 q (.own p)) p (.ins C q [])) (fun v H2 => v = .non ∧ Q (.ref p) H2) (E σ)
section
variable {X : Cx} {CX : CXT} {k : Nat} {f C : Addr} {fd : FuncData} {ps : List Str} {sp : Sp} {E : L2.St → XK} {x m : Str} {p pos apos : Pos} {e o : Expr} {es : List Expr} {kws : List Keyword} {to : TE} {ta : TA}
theorem pe_methS' {pl : Sem Bool} (ho : PE X o to) (hc : Cls X.K C) (hm : Meth X.K C m f) (F : FnOk X.prog X.w X.K X.mg X.base CX k f fd ps sp) (hr : Room k X.A) (hb : Binds X.K fd ps []) (hx : ∀ σ, PassesAt CX X σ (E σ)) (ha : PA X (e :: es) ta)
    (hst : starEach (e :: es) X.env = (false, eval e X.env) :: starEach es X.env := by rfl) (hpl : (backTo pos (starEach es X.env)).any (·.1) = false := by rfl)
    (ht : eval (.Call (.Attribute o m apos) (e :: es) [] pos) X.env = (do let ov ← eval o X.env; standAt apos.atName; let (g, first) ← holding [ov] (getMethod ov m pl); callWith pos g first (backTo pos (starEach (e :: es) X.env)) (backToKw pos (keywordEach [] X.env))) := by rfl) :
    PE X (.Call (.Attribute o m apos) (e :: es) [] pos) (tMethS C m sp E to ta) := ⟨fun pins s σ H Q I h => by
  refine PySem.W.methodCall_KW (pl := pl) (thn (ho.run pins s σ H _ I h) fun u t ⟨y, H1, J, ry, a, dx, fs, ey, hy, hl, q⟩ => ?_) ht
  subst ey
  cases (show u = Value.ref a from ry)
  refine getmeth_ok J hy hc hm hl (PySem.W.callWith_K (first := [.ref a]) (h₀ := X.base) J.ok.mod.kin hm.kp (thn (ha.run pos pins t σ H1 _ J q) fun us t2 ⟨ws, H2, J2, rw, q2⟩ => ⟨J2.kIn, ?_⟩) hst hpl)
  exact run_fnSD (us := .ref a :: us) (vs := .ref a :: ws) (dvs := []) F hr hb .nil (hx σ) J2 (.cons rfl rw) (by rw [List.append_nil]; exact q2)⟩
theorem pe_methS0' {pl : Sem Bool} (ho : PE X o to) (hc : Cls X.K C) (hm : Meth X.K C m f) (F : FnOk X.prog X.w X.K X.mg X.base CX k f fd ps sp) (hr : Room k X.A) (hb : Binds X.K fd ps []) (hx : ∀ σ, PassesAt CX X σ (E σ))
    (ht : eval (.Call (.Attribute o m apos) [] [] pos) X.env = (do let ov ← eval o X.env; standAt apos.atName; let (g, first) ← holding [ov] (getMethod ov m pl); callWith pos g first (backTo pos (starEach [] X.env)) (backToKw pos (keywordEach [] X.env))) := by rfl) :
    PE X (.Call (.Attribute o m apos) [] [] pos) (tMethS C m sp E to tNil) := ⟨fun pins s σ H Q I h => by
  refine PySem.W.methodCall_KW (pl := pl) (thn (ho.run pins s σ H _ I h) fun u t ⟨y, H1, J, ry, a, dx, fs, ey, hy, hl, q⟩ => ?_) ht
  subst ey
  cases (show u = Value.ref a from ry)
  exact getmeth_ok J hy hc hm hl (PySem.W.callWith_K0 (first := [.ref a]) J.kIn hm.kp (run_fnSD (us := [.ref a]) (vs := [.ref a]) (dvs := []) F hr hb .nil (hx σ) J (.cons rfl .nil) q))⟩
/-- the new object, then its __init__ -/
theorem run_newS {pins : List (Addr × Obj)} {σ : L2.St} {H : Hp} {s : Shared} {Q : VK} {us bs : List Value} {kw : List (Str × Value)} {ws : List V} (M : Mk X.K C f) (F : FnOk X.prog X.w X.K X.mg X.base CX k f fd ps sp) (hr : Room (k + 1) X.A)
    (hb : ∀ (t : Shared) (y : Value), X.K.In t.heap → (y :: bs).length = ps.length → BindsTo t fd ⟨y :: us, kw⟩ (ps.zip (y :: bs))) (hx : PassesAt CX X σ (E σ)) (I : Inv X pins σ H s) (r : Vals ws bs)
    (h : ∀ p q, H p = none → H q = none → q ≠ p → sp (.ref p :: ws) (upd (upd H q (.own p)) p (.ins C q [])) (fun v H2 => v = .non ∧ Q (.ref p) H2) (E σ)) :
    wpAny (model X.prog X.w) X.A (call (.ref C) us kw) (EP X pins σ Q) X.xe s := by
  have n0 : H s.heap.objs.size = none := I.hok.fresh (Nat.le_refl _)
  have n1 : H (s.heap.objs.size + 1) = none := I.hok.fresh (Nat.le_succ _)
  have hs := h (s.heap.objs.size + 1) s.heap.objs.size n1 n0 (Nat.ne_of_lt (Nat.lt_succ_self _))
  have J := Inv.made (C := C) I
  have rr : Vals (V.ref (s.heap.objs.size + 1) :: ws) (Value.ref (s.heap.objs.size + 1) :: bs) := .cons rfl r
  have hlen : (Value.ref (s.heap.objs.size + 1) :: bs).length = ps.length := by
    rw [← rr.length]
    exact F.len _ _ _ _ hs
  have body := F.run _ X.stack _ _ ⟨Value.ref (s.heap.objs.size + 1) :: us, kw⟩ (Value.ref (s.heap.objs.size + 1) :: bs) _ _ (E σ) (hr.make C us kw) (J.env0.make C us kw) (hb _ _ J.kIn hlen) rr hs
  refine wpAny_call (make_map (f := f) I.kIn M.makes M.init (beq_iff_eq.mp M.fn) (codeAny_mono body fun o t ho => ?_))
  cases o with
  | error er => exact hx pins _ _ er t J ho
  | ok fl =>
    cases fl with
    | ret u =>
      obtain ⟨y, H2, J2, ry, ey, hq⟩ := J.after ho
      subst ey
      exact ⟨ry, V.ref (s.heap.objs.size + 1), H2, J2, rfl, hq⟩
    | _ => exact ho.elim
theorem pe_newS' (M : Mk X.K C f) (F : FnOk X.prog X.w X.K X.mg X.base CX k f fd ps sp) (hr : Room (k + 1) X.A) (hg : Gl X x) (hm : X.mg x = some (.ref C)) (hb : Binds X.K fd ps []) (hx : ∀ σ, PassesAt CX X σ (E σ)) (ha : PA X (e :: es) ta)
    (hdb : (x == ("__debug__" : Str)) = false := by decide) (he : starEach (e :: es) X.env = (false, eval e X.env) :: starEach es X.env := by rfl) (hpl : (backTo pos (starEach es X.env)).any (·.1) = false := by rfl) : PE X (.Call (.Name x p) (e :: es) [] pos) (tNewS C sp E ta) := ⟨fun pins s σ H Q I h => by
  refine wpAny_Call_Name_kw (ld_glob I hg hm ?_ hdb)
  refine PySem.W.callWith_K (h₀ := X.base) I.ok.mod.kin M.kp (thn (ha.run pos pins s σ H _ I h) fun us t ⟨ws, H1, J, rw, q⟩ => ⟨J.kIn, ?_⟩) he hpl
  exact run_newS M F hr (fun t y K1 l => by
    have z := hb t (y :: us) K1 (by rw [List.append_nil]; exact l)
    rw [List.append_nil] at z
    exact z) (hx σ) J rw q⟩
theorem pe_newS0' (M : Mk X.K C f) (F : FnOk X.prog X.w X.K X.mg X.base CX k f fd ps sp) (hr : Room (k + 1) X.A) (hg : Gl X x) (hm : X.mg x = some (.ref C)) (hb : Binds X.K fd ps []) (hx : ∀ σ, PassesAt CX X σ (E σ))
    (hdb : (x == ("__debug__" : Str)) = false := by decide) : PE X (.Call (.Name x p) [] [] pos) (tNewS C sp E tNil) := ⟨fun pins s σ H Q I h => by
  refine wpAny_Call_Name_kw (ld_glob I hg hm ?_ hdb)
  refine PySem.W.callWith_K0 I.kIn M.kp (run_newS (us := []) (bs := []) M F hr (fun t y K1 l => ?_) (hx σ) I .nil h)
  have z := hb t [y] K1 (by rw [List.append_nil]; exact l)
  rw [List.append_nil] at z
  exact z⟩
/-- how the keywords of a call reach the parameters behind self -/
structure KwB (K : PySem.W.Frag) (fd : FuncData) (ps ks : List Str) (g : List Value → List Value) (gV : List V → List V) : Prop where
  to : ∀ (s : Shared) (y : Value) (us : List Value), K.In s.heap → us.length = ks.length → BindsTo s fd ⟨[y], ks.zip us⟩ (ps.zip (y :: g us))
  rel : ∀ {ws : List V} {us : List Value}, ws.length = ks.length → Vals ws us → Vals (gV ws) (g us)
theorem pe_newK' {ks : List Str} {g : List Value → List Value} {gV : List V → List V} (M : Mk X.K C f) (F : FnOk X.prog X.w X.K X.mg X.base CX k f fd ps sp) (hr : Room (k + 1) X.A) (hg : Gl X x) (hm : X.mg x = some (.ref C)) (hb : KwB X.K fd ps ks g gV) (hx : ∀ σ, PassesAt CX X σ (E σ)) (ha : PK X kws ta)
    (hall : (backToKw pos (keywordEach kws X.env)).all (·.1.isSome) = true := by rfl) (hks : (backToKw pos (keywordEach kws X.env)).filterMap (·.1) = ks := by rfl) (hdb : (x == ("__debug__" : Str)) = false := by decide)
    (hpl : ((backTo pos (starEach [] X.env)).any (·.1) || (backToKw pos (keywordEach kws X.env)).any (·.1.isNone)) = false := by rfl) : PE X (.Call (.Name x p) [] kws pos) (tNewK C ks.length gV sp E ta) := ⟨fun pins s σ H Q I h => by
  refine wpAny_Call_Name_kw (ld_glob I hg hm ?_ hdb)
  refine PySem.W.callWith_KW0 (h₀ := X.base) I.ok.mod.kin M.kp hall (thn (ha.run pos pins s σ H _ I h) fun us t ⟨ws, H1, J, rw, hl, q⟩ => ⟨J.kIn, ?_⟩) hpl
  rw [hks]
  exact run_newS (us := []) (kw := ks.zip us) (bs := g us) M F hr (fun t y K1 _ => hb.to t y us K1 (by rw [← rw.length]; exact hl)) (hx σ) J (hb.rel hl rw) q⟩
end
end Dn
set_option Elab.async false
set_option linter.all false
set_option maxRecDepth 100000
set_option maxHeartbeats 4000000
/-! Methods and the making of objects keep to their denotations. -/
namespace Dn
open PySem L2
section
variable {K : Fr} {c : Cxt} {ρ : Env} {σ : L2.St} {S : Sh} {H : Hp}
/-- a call, its arguments being there -/
theorem callF_sp {n : Nat} {F : FD} {xs : List (D ⊕ Nat)} {vs : List V} {Q : VK} (st : StR K c ρ σ S H) (ra : Ra K S.h σ xs vs) (hn : xs.length = n) (g : Goal K c σ S (pV K c σ) (callF F xs ρ) Q) : spF K n F vs H Q (cE c σ) := by
  unfold callF at g
  split at g
  · rename_i hnd
    cases hl : Dn.lend ρ xs with
    | none =>
      simp only [hl] at g
      exact g.elim
    | some sl =>
      simp only [hl] at g
      refine ⟨by rw [ra.length]; exact hn, lentSh S xs, sl, lentB S xs, hB_of st, st.lend hnd ra hl, ?_⟩
      cases hF : F sl with
      | bad =>
        simp only [hF] at g
        exact g
      | err er sl' =>
        simp only [hF] at g
        exact fun cls od S' H' s2 ex er => g cls od _ H' (st.behind hnd ra hl s2 ex) ex er
      | ok r sl' =>
        simp only [hF] at g
        exact fun v S' H' s2 ex p => g v _ H' (st.behind hnd ra hl s2 ex) ex (p.behind st)
  · exact g.elim
theorem R.isObj {v : V} {d : D} {cls m : Str} (h : R K H v d) (e : isObj cls m d = true) : ∃ a C dx vs, v = .ref a ∧ H a = some (.ins C dx vs) ∧ K.mg cls = some (.ref C) ∧ vs.lookup m = none := by
  cases h with
  | @obj a C dx vs k fs h1 h2 h3 h4 =>
    simp only [Dn.isObj, Bool.and_eq_true, decide_eq_true_eq, Option.isNone_iff_eq_none] at e
    obtain ⟨rfl, e2⟩ := e
    exact ⟨a, C, dx, vs, rfl, h1, h3, h4.none e2⟩
  | _ => cases e
theorem ev_meth {n : Nat} {C : Addr} {cls m : Str} {F : FD} {to : TE} {ta : TA} {mo : E} {as : List Ar} (hm : K.mg cls = some (.ref C)) (ho : Ev K c to (pV K c) mo) (ha : Ev K c ta (pA K) (argv as)) (hn : ∀ ρ xs ρ', argv as ρ = .ok xs ρ' → xs.length + 1 = n) :
    Ev K c (tMethS C m (spF K n F) (cE c) to ta) (pV K c) (eMeth cls m F mo as) := by
  refine ev_bind (u := fun σ x H Q => ∃ a dx fs, x = .ref a ∧ H a = some (.ins C dx fs) ∧ fs.lookup m = none ∧ ta σ H fun ws H2 => spF K n F (x :: ws) H2 Q (cE c σ)) (ev_val ho) fun d v ρ σ S H Q st r g => ?_
  cases e : isObj cls m d with
  | false =>
    rw [e] at g
    exact g.elim
  | true =>
    rw [e] at g
    have r : R K S.h v d := r
    obtain ⟨a, C', dx, vs, rfl, h1, h2, h3⟩ := r.isObj e
    rw [hm] at h2
    cases h2
    refine ⟨a, dx, vs, rfl, st.sub _ _ h1, h3, ha ρ σ S H _ st ?_⟩
    simp only [if_true] at g
    unfold bind at g
    cases z : argv as ρ with
    | bad =>
      rw [z] at g
      exact g
    | err er ρ' =>
      rw [z] at g
      exact g
    | ok xs ρ' =>
      rw [z] at g
      intro ws S' H' st' ex ra
      exact callF_sp st' (.val (r.mono ex) ra) (by rw [List.length_cons]; exact hn _ _ _ z) (Goal.mono ex g)
theorem ev_methB {n i : Nat} {C : Addr} {cls m : Str} {F : FD} {ta : TA} {as : List Ar} (hm : K.mg cls = some (.ref C)) (ha : Ev K c ta (pA K) (argv as)) (hn : ∀ ρ xs ρ', argv as ρ = .ok xs ρ' → xs.length + 1 = n) :
    Ev K c (tMethS C m (spF K n F) (cE c) (tVar i) ta) (pV K c) (eMethB cls m F i as) := by
  intro ρ σ S H Q st g
  unfold eMethB at g
  split at g
  · rename_i hO
    unfold isObS at hO
    cases hf : fldsAt cls ρ[i]? with
    | none =>
      rw [hf] at hO
      cases hO
    | some fs =>
      simp only [hf, Option.isNone_iff_eq_none] at hO
      obtain ⟨l, hk, h1, p, C', dx, vs, w, p2, w1, w2, b1, b2, b3, b4⟩ := st.objAt hf
      rw [hm] at b3
      cases b3
      refine ⟨.ref l, h1, l, dx, vs, rfl, b1, b4.none hO, ha ρ σ S H _ st ?_⟩
      unfold bind at g
      cases z : argv as ρ with
      | bad =>
        rw [z] at g
        exact g
      | err er ρ' =>
        rw [z] at g
        exact g
      | ok xs ρ' =>
        rw [z] at g
        intro ws S' H' st' ex ra
        exact callF_sp st' (.bor h1 ra) (by rw [List.length_cons]; exact hn _ _ _ z) (Goal.mono ex g)
  · exact g.elim
/-! ### a slot more, a slot less -/
theorem StR.push {k : C} {l : Addr} {P : Addr → Prop} (st : StR K c ρ σ S H) (hk : ContR K S.h H P l k) (hl : Loose c S H P) : StR K c (ρ ++ [.own k]) (σ ++ [some (.ref l)]) (S.adopt ρ.length P) H := by
  have len := st.len
  have at1 : ∀ {i : Nat} {s : Slot}, (ρ ++ [Slot.own k])[i]? = some s → (i < ρ.length ∧ ρ[i]? = some s) ∨ (i = ρ.length ∧ s = .own k) := fun {i s} h => by
    rw [List.getElem?_append] at h
    split at h
    · exact .inl ⟨by assumption, h⟩
    · rename_i n
      have : i - ρ.length = 0 := by
        have := (List.getElem?_eq_some_iff.mp h).1
        simp at this
        omega
      rw [this] at h
      simp at h
      exact .inr ⟨by omega, h.symm⟩
  have lo : ∀ {i : Nat}, i < ρ.length → (σ ++ [some (V.ref l)])[i]? = σ[i]? := fun {i} h => by rw [List.getElem?_append_left (by rw [len]; exact h)]
  have lr : ∀ {i : Nat}, i < ρ.length → (ρ ++ [Slot.own k])[i]? = ρ[i]? := fun {i} h => by rw [List.getElem?_append_left h]
  have lt : (σ ++ [some (V.ref l)])[ρ.length]? = some (some (.ref l)) := by rw [← len]; simp
  have lt2 : (ρ ++ [Slot.own k])[ρ.length]? = some (.own k) := by simp
  have sub : ∀ {j a}, ownP S j a → ownP (S.adopt ρ.length P) j a := fun {j a} h => by
    show (S.adopt ρ.length P).ow a = some j
    rw [Sh.adopt_out fun z => by
      have := (hl a z).2.2.2
      rw [show S.ow a = some j from h] at this
      cases this]
    exact h
  refine ⟨st.sub, st.old, st.keep, st.live, st.hs, by simp [len], fun i d h => ?_, fun i k' h => ?_, fun i k' h => ?_, fun i e h => ?_, fun a i h => ?_⟩
  · rcases at1 h with ⟨h1, h2⟩ | ⟨h1, h2⟩
    · rw [lo h1]
      exact st.val i d h2
    · cases h2
  · rcases at1 h with ⟨h1, h2⟩ | ⟨h1, h2⟩
    · rw [lo h1]
      obtain ⟨l', a1, a2⟩ := st.own i k' h2
      exact ⟨l', a1, a2.mono (Ex.refl _) (fun _ _ => rfl) fun a q => sub q⟩
    · cases h2
      subst h1
      exact ⟨l, lt, hk.mono (Ex.refl _) (fun _ _ => rfl) fun a q => Sh.adopt_in q⟩
  · rcases at1 h with ⟨h1, h2⟩ | ⟨h1, h2⟩
    · rw [lo h1]
      obtain ⟨l', a1, a2, a3⟩ := st.bor i k' h2
      exact ⟨l', a1, a2.mono (Ex.refl _) (fun _ _ => rfl) (fun a q => sub q), a3⟩
    · cases h2
  · rcases at1 h with ⟨h1, h2⟩ | ⟨h1, h2⟩
    · rw [lo h1]
      exact st.exc i e h2
    · cases h2
  · by_cases q : P a
    · rw [Sh.adopt_in q] at h
      cases h
      obtain ⟨b1, b2, b3, b4⟩ := hl a q
      exact ⟨b1, b2, .inl b3, .inl ⟨⟨k, lt2⟩, b3⟩⟩
    · rw [Sh.adopt_out q] at h
      obtain ⟨h1, h2, h3, h4⟩ := st.owF a i h
      refine ⟨h1, h2, h3, ?_⟩
      rcases h4 with ⟨⟨k', z⟩, z2⟩ | ⟨⟨k', z⟩, z2⟩
      · exact .inl ⟨⟨k', by rw [lr (lt_of_get z)]; exact z⟩, z2⟩
      · exact .inr ⟨⟨k', by rw [lr (lt_of_get z)]; exact z⟩, z2⟩
theorem StR.pop {s : Slot} {v : Option V} (st : StR K c (ρ ++ [s]) (σ ++ [v]) S H) : StR K c ρ σ (S.rid ρ.length) H := by
  have len : σ.length = ρ.length := by simpa using st.len
  have up : ∀ {i : Nat} {t : Slot}, ρ[i]? = some t → (ρ ++ [s])[i]? = some t := fun {i t} h => by rw [List.getElem?_append_left (lt_of_get h)]; exact h
  have dn : ∀ {i : Nat} {t : Slot}, i ≠ ρ.length → (ρ ++ [s])[i]? = some t → ρ[i]? = some t := fun {i t} n h => by
    have h1 := lt_of_get h
    simp at h1
    rw [List.getElem?_append_left (by omega)] at h
    exact h
  have lo : ∀ {i : Nat} {t : Slot}, ρ[i]? = some t → (σ ++ [v])[i]? = σ[i]? := fun {i t} h => by rw [List.getElem?_append_left (by rw [len]; exact lt_of_get h)]
  refine ⟨st.sub, st.old, st.keep, st.live, st.hs, len, fun i d h => ?_, fun i k h => ?_, fun i k h => ?_, fun i e h => ?_, fun a i h => ?_⟩
  · have z := st.val i d (up h)
    rw [lo h] at z
    exact z
  · have z := st.own i k (up h)
    rw [lo h] at z
    obtain ⟨l', a1, a2⟩ := z
    exact ⟨l', a1, a2.mono (Ex.refl _) (fun _ _ => rfl) fun a q => Sh.rid_some.mpr ⟨q, fun z => by have := lt_of_get h; omega⟩⟩
  · have z := st.bor i k (up h)
    rw [lo h] at z
    obtain ⟨l', a1, a2, a3⟩ := z
    exact ⟨l', a1, a2.mono (Ex.refl _) (fun _ _ => rfl) (fun a q => Sh.rid_some.mpr ⟨q, fun z => by have := lt_of_get h; omega⟩), a3⟩
  · have z := st.exc i e (up h)
    rw [lo h] at z
    exact z
  · obtain ⟨h1, hn⟩ := Sh.rid_some.mp h
    obtain ⟨b1, b2, b3, b4⟩ := st.owF a i h1
    refine ⟨b1, b2, b3, ?_⟩
    rcases b4 with ⟨⟨k', z⟩, z2⟩ | ⟨⟨k', z⟩, z2⟩
    · exact .inl ⟨⟨k', dn hn z⟩, z2⟩
    · exact .inr ⟨⟨k', dn hn z⟩, z2⟩
theorem StR.popO {k : C} {v : Option V} (st : StR K c (ρ ++ [.own k]) (σ ++ [v]) S H) : ∃ l, v = some (.ref l) ∧ ContR K S.h H (ownP S ρ.length) l k ∧ Loose c (S.rid ρ.length) H (ownP S ρ.length) := by
  have len : σ.length = ρ.length := by simpa using st.len
  obtain ⟨l, h1, h2⟩ := st.own ρ.length k (by simp)
  refine ⟨l, ?_, h2, fun a q => ?_⟩
  · rw [← len] at h1
    simpa using h1
  · obtain ⟨b1, b2, b3, b4⟩ := st.owF a ρ.length q
    refine ⟨b1, b2, ?_, ?_⟩
    · rcases b4 with z | ⟨⟨k', z⟩, _⟩
      · exact z.2
      · simp at z
    · cases e : (S.rid ρ.length).ow a with
      | none => rfl
      | some j =>
        obtain ⟨z1, z2⟩ := Sh.rid_some.mp e
        rw [show S.ow a = some ρ.length from q] at z1
        exact absurd (Option.some.inj z1).symm z2
theorem lend_lt : ∀ {xs : List (D ⊕ Nat)} {sl : List Slot}, lend ρ xs = some sl → ∀ i ∈ idxs xs, i < ρ.length
  | [], _, _, i, h => by cases h
  | .inl d :: r, _, h, i, hi => by
    simp only [lend, Option.map_eq_some_iff] at h
    obtain ⟨t, h1, rfl⟩ := h
    exact lend_lt h1 i (by simpa only [idxs] using hi)
  | .inr j :: r, _, h, i, hi => by
    simp only [lend] at h
    simp only [idxs, List.mem_cons] at hi
    split at h
    · rename_i k hk
      rw [Option.map_eq_some_iff] at h
      obtain ⟨t, h1, rfl⟩ := h
      rcases hi with rfl | hi
      · exact lt_of_get hk
      · exact lend_lt h1 i hi
    · rename_i k hk
      rw [Option.map_eq_some_iff] at h
      obtain ⟨t, h1, rfl⟩ := h
      rcases hi with rfl | hi
      · exact lt_of_get hk
      · exact lend_lt h1 i hi
    · cases h
theorem lend_push {t : Slot} : ∀ {xs : List (D ⊕ Nat)} {sl : List Slot}, lend ρ xs = some sl → lend (ρ ++ [t]) xs = some sl
  | [], _, h => h
  | .inl d :: r, _, h => by
    simp only [lend, Option.map_eq_some_iff] at h ⊢
    obtain ⟨u, h1, rfl⟩ := h
    exact ⟨u, lend_push h1, rfl⟩
  | .inr j :: r, _, h => by
    have hj : j < ρ.length := lend_lt h j (by simp [idxs])
    simp only [lend, List.getElem?_append_left hj] at h ⊢
    split at h
    · rename_i k hk
      rw [Option.map_eq_some_iff] at h
      obtain ⟨u, h1, rfl⟩ := h
      simp only [hk, lend_push h1, Option.map_some]
    · rename_i k hk
      rw [Option.map_eq_some_iff] at h
      obtain ⟨u, h1, rfl⟩ := h
      simp only [hk, lend_push h1, Option.map_some]
    · cases h
theorem takeB_push {t : Slot} : ∀ {xs : List (D ⊕ Nat)} {sl : List Slot}, (∀ i ∈ idxs xs, i < ρ.length) → takeB (ρ ++ [t]) xs sl = takeB ρ xs sl ++ [t]
  | [], _, _ => by simp only [takeB]
  | .inl d :: r, [], h => by
    simp only [takeB]
    exact takeB_push (xs := r) (by simpa only [idxs] using h)
  | .inl d :: r, s :: sl, h => by
    simp only [takeB]
    exact takeB_push (xs := r) (by simpa only [idxs] using h)
  | .inr j :: r, [], h => by
    have hj := h j (by simp [idxs])
    have hr : ∀ i ∈ idxs r, i < ρ.length := fun i hi => h i (by simp [idxs, hi])
    simp only [takeB]
    rw [takeB_push hr, List.set_append_left _ _ (by rw [takeB_len]; exact hj)]
  | .inr j :: r, s :: sl, h => by
    have hj := h j (by simp [idxs])
    have hr : ∀ i ∈ idxs r, i < ρ.length := fun i hi => h i (by simp [idxs, hi])
    simp only [takeB]
    rw [takeB_push hr, List.set_append_left _ _ (by rw [takeB_len]; exact hj), List.getElem?_append_left hj]
theorem Ra.push {S : Hp} {t : Option V} {xs : List (D ⊕ Nat)} {vs : List V} (h : Ra K S σ xs vs) : Ra K S (σ ++ [t]) xs vs := by
  induction h with
  | nil => exact .nil
  | val r _ ih => exact .val r ih
  | bor r _ ih => exact .bor (by rw [List.getElem?_append_left (List.getElem?_eq_some_iff.mp r).1]; exact r) ih
/-- a new object is lent to its __init__ -/
theorem new_sp {n : Nat} {cls : Str} {C p q : Addr} {F : FD} {xs : List (D ⊕ Nat)} {vs : List V} {Q : VK} (hm : K.mg cls = some (.ref C)) (st : StR K c ρ σ S H) (ra : Ra K S.h σ xs vs) (hn : xs.length + 1 = n) (hp : H p = none) (hq : H q = none) (hpq : q ≠ p)
    (g : Goal K c σ S (pV K c σ) ((if (idxs xs).Nodup then match lend ρ xs with
    | none => Res.bad
    | some sl => match F (.bor (.obj cls []) :: sl) with
      | .bad => .bad
      | .err e sl' => .err e (takeB ρ xs sl'.tail)
      | .ok (.d .non) (.bor k :: sl') => .ok (Rv.o k) (takeB ρ xs sl')
      | .ok _ _ => .bad
    else .bad : Res Rv)) Q) : spF K n F (.ref p :: vs) (upd (upd H q (.own p)) p (.ins C q [])) (fun v H2 => v = .non ∧ Q (.ref p) H2) (cE c σ) := by
  split at g
  · rename_i hnd
    cases hl : Dn.lend ρ xs with
    | none =>
      simp only [hl] at g
      exact g.elim
    | some sl =>
      simp only [hl] at g
      have hp2 : upd H q (.own p) p = none := by rw [upd_ne (Ne.symm hpq)]; exact hp
      have st1 : StR K c ρ σ S (upd (upd H q (.own p)) p (.ins C q [])) := (st.newO hq).newO hp2
      generalize hH : upd (upd H q (.own p)) p (.ins C q []) = H1 at st1
      have ep : H1 p = some (.ins C q []) := by rw [← hH]; exact upd_same
      have eq : H1 q = some (.own p) := by rw [← hH, upd_ne hpq]; exact upd_same
      have lo : Loose c S H1 (fun a => a = p ∨ a = q) := fun a h => by
        have ha : H a = none := by rcases h with rfl | rfl <;> assumption
        refine ⟨st.freshS ha, ?_, st.live a ha, st.freshO ha⟩
        rcases h with rfl | rfl
        · rw [ep]
          exact fun z => nomatch z
        · rw [eq]
          exact fun z => nomatch z
      have ct : ContR K S.h H1 (fun a => a = p ∨ a = q) p (.obj cls []) := ⟨.inl rfl, C, q, [], fun _ => none, .inr rfl, rfl, rfl, ep, eq, hm, .nil⟩
      have st2 := st1.push ct lo
      have hlt := lend_lt hl
      have hnd2 : (idxs (.inr ρ.length :: xs)).Nodup := by
        simp only [idxs, List.nodup_cons]
        exact ⟨fun z => Nat.lt_irrefl _ (hlt _ z), hnd⟩
      have hl2 : Dn.lend (ρ ++ [.own (.obj cls [])]) (.inr ρ.length :: xs) = some (.bor (.obj cls []) :: sl) := by
        simp only [Dn.lend]
        rw [show (ρ ++ [Slot.own (Dn.C.obj cls [])])[ρ.length]? = some (.own (.obj cls [])) by simp]
        simp only [lend_push hl, Option.map_some]
      have ra2 : Ra K (S.adopt ρ.length fun a => a = p ∨ a = q).h (σ ++ [some (V.ref p)]) (.inr ρ.length :: xs) (.ref p :: vs) := .bor (by rw [← st.len]; simp) ra.push
      refine ⟨by rw [List.length_cons, ra.length]; exact hn, lentSh (S.adopt ρ.length fun a => a = p ∨ a = q) (.inr ρ.length :: xs), _, lentB (S.adopt ρ.length fun a => a = p ∨ a = q) (.inr ρ.length :: xs), hB_of st2, st2.lend hnd2 ra2 hl2, ?_⟩
      have bk : ∀ {sl' : List Slot} {S' : Sh} {H' : Hp}, StR K (entry (.ref p :: vs) (S.adopt ρ.length fun a => a = p ∨ a = q).h H1 (lentB _ (.inr ρ.length :: xs)) (cE c σ) (hB_of st2)) sl' ((V.ref p :: vs).map some) S' H' → Ex S.h S'.h →
          StR K c (takeB (ρ ++ [.own (.obj cls [])]) (.inr ρ.length :: xs) sl') (σ ++ [some (.ref p)]) (backSh (S.adopt ρ.length fun a => a = p ∨ a = q) S' (.inr ρ.length :: xs) sl') H' := fun s2 ex => st2.behind hnd2 ra2 hl2 s2 ex
      have tk : ∀ {s0 : Slot} {sl' : List Slot}, takeB (ρ ++ [Slot.own (.obj cls [])]) (.inr ρ.length :: xs) (s0 :: sl') = takeB ρ xs sl' ++ [back1 (some (.own (.obj cls []))) s0] := fun {s0 sl'} => by
        simp only [takeB]
        rw [takeB_push hlt, show (ρ ++ [Slot.own (Dn.C.obj cls [])])[ρ.length]? = some (.own (.obj cls [])) by simp]
        rw [List.set_append_right _ _ (by rw [takeB_len]; exact Nat.le_refl _), takeB_len, Nat.sub_self]
        rfl
      cases hF : F (.bor (.obj cls []) :: sl) with
      | bad =>
        simp only [hF] at g
        exact g
      | err er sl' =>
        simp only [hF] at g
        intro cls' od S' H' s2 ex er'
        have z := bk s2 ex
        cases sl' with
        | nil => have := s2.len; simp at this
        | cons s0 sl' =>
          rw [tk] at z
          have z2 := z.pop
          exact g cls' od _ H' z2 ex er'
      | ok r sl' =>
        intro v S' H' s2 ex pr
        simp only [hF] at g
        split at g
        · rename_i h1
          cases h1
        · rename_i h1
          cases h1
        · rename_i k sl'' h1
          cases h1
          have pr : R K S'.h v .non := pr
          cases pr
          refine ⟨rfl, ?_⟩
          have z := bk s2 ex
          rw [tk] at z
          have z : StR K c (takeB ρ xs sl'' ++ [.own k]) (σ ++ [some (.ref p)]) (backSh (S.adopt ρ.length fun a => a = p ∨ a = q) S' (.inr ρ.length :: xs) (.bor k :: sl'')) H' := z
          obtain ⟨l, y1, y2, y3⟩ := z.popO
          cases y1
          exact g (.ref p) _ H' z.pop ex ⟨p, _, rfl, y2, y3⟩
        · exact g.elim
  · exact g.elim
theorem ev_new {n : Nat} {C : Addr} {cls : Str} {F : FD} {ta : TA} {as : List Ar} (hm : K.mg cls = some (.ref C)) (ha : Ev K c ta (pA K) (argv as)) (hn : ∀ ρ xs ρ', argv as ρ = .ok xs ρ' → xs.length + 1 = n) :
    Ev K c (tNewS C (spF K n F) (cE c) ta) (pV K c) (eNew cls F as) := by
  intro ρ0 σ S0 H0 Q st0 g0
  refine ha ρ0 σ S0 H0 _ st0 ?_
  unfold eNew bind at g0
  cases hx : argv as ρ0 with
  | bad =>
    simp only [hx] at g0
    exact g0
  | err er ρ' =>
    simp only [hx] at g0
    exact g0
  | ok xs ρ =>
    simp only [hx] at g0
    intro vs S H st ex0 ra p q hp hq hpq
    exact new_sp hm st ra (hn _ _ _ hx) hp hq hpq (Goal.mono ex0 g0)
theorem ev_newK {n : Nat} {C : Addr} {cls : Str} {F : FD} {ta : TA} {as : List Ar} (hm : K.mg cls = some (.ref C)) (ha : Ev K c ta (pA K) (argv as)) (hn : ∀ ρ xs ρ', argv as ρ = .ok xs ρ' → xs.length = n) :
    Ev K c (tNewK C n (fun ws => ws) (spF K (n + 1) F) (cE c) ta) (pV K c) (eNew cls F as) := by
  intro ρ0 σ S0 H0 Q st0 g0
  refine ha ρ0 σ S0 H0 _ st0 ?_
  unfold eNew bind at g0
  cases hx : argv as ρ0 with
  | bad =>
    simp only [hx] at g0
    exact g0
  | err er ρ' =>
    simp only [hx] at g0
    exact g0
  | ok xs ρ =>
    simp only [hx] at g0
    intro vs S H st ex0 ra
    have ra : Ra K S.h σ xs vs := ra
    exact ⟨by rw [ra.length]; exact hn _ _ _ hx, fun p q hp hq hpq => new_sp hm st ra (by rw [hn _ _ _ hx]) hp hq hpq (Goal.mono ex0 g0)⟩
end
end Dn
set_option Elab.async false
set_option linter.all false
set_option maxRecDepth 100000
set_option maxHeartbeats 4000000
/-! The rules for objects that one writes. -/
namespace Dn
open PySem L2
/-- a method, by its class and name; the making of an object; the same with keywords -/
structure MthK (P : Program) (w : World) (K : PySem.W.Frag) (mg : Str → Option Value) (base : Heap) (k : Nat) (cls m : Str) (n : Nat) (F : FD) : Prop where
  ex : ∃ (C f : Addr) (fd : FuncData) (ps : List Str), mg cls = some (.ref C) ∧ Cls K C ∧ Meth K C m f ∧ ps.length = n ∧ FnOk P w K mg base (L2.CX P w) k f fd ps (spF (⟨K, P, w, mg⟩ : Fr) n F) ∧ Binds K fd ps []
structure NewK (P : Program) (w : World) (K : PySem.W.Frag) (mg : Str → Option Value) (base : Heap) (k : Nat) (cls : Str) (n : Nat) (F : FD) : Prop where
  ex : ∃ (C f : Addr) (fd : FuncData) (ps : List Str), mg cls = some (.ref C) ∧ Mk K C f ∧ ps.length = n ∧ FnOk P w K mg base (L2.CX P w) k f fd ps (spF (⟨K, P, w, mg⟩ : Fr) n F) ∧ Binds K fd ps []
structure NewKw (P : Program) (w : World) (K : PySem.W.Frag) (mg : Str → Option Value) (base : Heap) (k : Nat) (cls : Str) (ks : List Str) (F : FD) : Prop where
  ex : ∃ (C f : Addr) (fd : FuncData) (ps : List Str), mg cls = some (.ref C) ∧ Mk K C f ∧ ps.length = ks.length + 1 ∧ FnOk P w K mg base (L2.CX P w) k f fd ps (spF (⟨K, P, w, mg⟩ : Fr) (ks.length + 1) F) ∧ KwB K fd ps ks (fun us => us) (fun ws => ws)
section
variable {P : Program} {w : World} {K : PySem.W.Frag} {mg : Str → Option Value} {base : Heap} {cls m : Str} {n j k : Nat} {F : FD} {ks : List Str}
theorem MthK.mono (h : MthK P w K mg base j cls m n F) (hk : j ≤ k) : MthK P w K mg base k cls m n F := by
  obtain ⟨C, f, fd, ps, a, b, d, e, g, r⟩ := h.ex
  exact ⟨⟨C, f, fd, ps, a, b, d, e, g.mono hk, r⟩⟩
theorem NewK.mono (h : NewK P w K mg base j cls n F) (hk : j ≤ k) : NewK P w K mg base k cls n F := by
  obtain ⟨C, f, fd, ps, a, b, d, g, r⟩ := h.ex
  exact ⟨⟨C, f, fd, ps, a, b, d, g.mono hk, r⟩⟩
theorem NewKw.mono (h : NewKw P w K mg base j cls ks F) (hk : j ≤ k) : NewKw P w K mg base k cls ks F := by
  obtain ⟨C, f, fd, ps, a, b, d, g, r⟩ := h.ex
  exact ⟨⟨C, f, fd, ps, a, b, d, g.mono hk, r⟩⟩
/-- what the top has of a method, of an __init__ -/
structure TopM (K : PySem.W.Frag) (mg : Str → Option Value) (cls m qual : Str) (st : Stmt) (ps : List Str) : Prop where
  ex : ∃ (C f : Addr) (fd : FuncData), mg cls = some (.ref C) ∧ Cls K C ∧ Meth K C m f ∧ Fun K m qual st f fd ∧ Binds K fd ps []
structure TopN (K : PySem.W.Frag) (mg : Str → Option Value) (cls qual : Str) (st : Stmt) (ps : List Str) : Prop where
  ex : ∃ (C f : Addr) (fd : FuncData), mg cls = some (.ref C) ∧ Mk K C f ∧ Fun K "__init__" qual st f fd ∧ Binds K fd ps []
structure TopNk (K : PySem.W.Frag) (mg : Str → Option Value) (cls qual : Str) (st : Stmt) (ps ks : List Str) : Prop where
  ex : ∃ (C f : Addr) (fd : FuncData), mg cls = some (.ref C) ∧ Mk K C f ∧ Fun K "__init__" qual st f fd ∧ KwB K fd ps ks (fun us => us) (fun ws => ws)
abbrev BodyOk (P : Program) (w : World) (K : PySem.W.Frag) (mg : Str → Option Value) (base : Heap) (k : Nat) (N : List Str) (qual : Str) (st : Stmt) (b : S) : Prop :=
  ∀ (c : Cxt) (f : Addr) (cdv : Value) (A : Around) (outer : List PySem.Env) (s : Shared) (H : Hp) (E : XK), Room k (A.deeper (PyProof.Rows.envOfC qual (defScope st) s.heap.objs.size f cdv)) → c.exc = none → Bd (bodyX P w K mg base N qual st f cdv A outer s H E) c →
    PSs (bodyX P w K mg base N qual st f cdv A outer s H E) (defBody st) (tsOf (⟨K, P, w, mg⟩ : Fr) c b)
theorem mth_of {qual : Str} {st : Stmt} {N ps : List Str} {b : S} (T : TopM K mg cls m qual st ps) (S : FnScope N ps (defScope st)) (hb : BodyOk P w K mg base k N qual st b) : MthK P w K mg base (k + 1) cls m ps.length (fn N.length b) := by
  obtain ⟨C, f, fd, a, d, e, F, r⟩ := T.ex
  exact ⟨⟨C, f, fd, ps, a, d, e, rfl, fun_den F S fun c cdv A outer s H E hr hx bd => hb c f cdv A outer s H E hr hx bd, r⟩⟩
theorem new_of {qual : Str} {st : Stmt} {N ps : List Str} {b : S} (T : TopN K mg cls qual st ps) (S : FnScope N ps (defScope st)) (hb : BodyOk P w K mg base k N qual st b) : NewK P w K mg base (k + 1) cls ps.length (fn N.length b) := by
  obtain ⟨C, f, fd, a, d, F, r⟩ := T.ex
  exact ⟨⟨C, f, fd, ps, a, d, rfl, fun_den F S fun c cdv A outer s H E hr hx bd => hb c f cdv A outer s H E hr hx bd, r⟩⟩
theorem newk_of {qual : Str} {st : Stmt} {N ps ks : List Str} {b : S} (T : TopNk K mg cls qual st ps ks) (hl : ps.length = ks.length + 1) (S : FnScope N ps (defScope st)) (hb : BodyOk P w K mg base k N qual st b) : NewKw P w K mg base (k + 1) cls ks (fn N.length b) := by
  obtain ⟨C, f, fd, a, d, F, r⟩ := T.ex
  have h := fun_den (P := P) (w := w) (base := base) F S (k := k) (b := b) fun c cdv A outer s H E hr hx bd => hb c f cdv A outer s H E hr hx bd
  rw [hl] at h
  exact ⟨⟨C, f, fd, ps, a, d, hl, h, r⟩⟩
end
section
variable {X : Cx} {c : Cxt} {a b o e : Expr} {es : List Expr} {as : List Ar} {pos apos p : Pos} {ma mb mo m : E} {cls f x : Str}
theorem d_fld (T : FldK (cxFr X) cls f) (ha : DE X c a ma) (hb : attributeBase a f X.env (eval a X.env) = eval a X.env := by rfl) : DE X c (.Attribute a f pos) (e1 (oFld cls f) ma) := ped (pe_fld ha hb) (ev_oFld T ev_te)
theorem d_fldS (i : Nat) {px : Pos} (T : FldK (cxFr X) cls f) (hN : X.N[i]? = some x := by rfl) (hv : Vis X.env.scope x := by first | exact Or.inl rfl | exact Or.inr (Or.inl rfl) | exact Or.inr (Or.inr rfl)) (hd : (x == ("__debug__" : Str)) = false := by decide)
    (hcd : (x == ("__classdict__" : Str)) = false := by decide) (hb : attributeBase (.Name x px) f X.env (eval (.Name x px) X.env) = eval (.Name x px) X.env := by rfl) : DE X c (.Attribute (.Name x px) f pos) (eFld cls f i) := ped (pe_fld (pe_var hN hv hd hcd) hb) (ev_eFld T)
theorem s_setFd (i : Nat) {px pos' : Pos} (T : FldK (cxFr X) cls f) (h : DE X c a ma) (hN : X.N[i]? = some x := by rfl) (hv : Vis X.env.scope x := by first | exact Or.inl rfl | exact Or.inr (Or.inl rfl) | exact Or.inr (Or.inr rfl)) (hd : (x == ("__debug__" : Str)) = false := by decide)
    (hcd : (x == ("__classdict__" : Str)) = false := by decide) (hs : swapsWith a (some (.Attribute (.Name x px) f pos')) pos.line X.env = pure false := by rfl) : DS X c (.Assign [.Attribute (.Name x px) f pos'] a pos) (sSetFd cls i f ma) := psd (ps_fld (pe_var hN hv hd hcd) h hs) (evs_setFd T ev_te)
theorem s_setFc (i : Nat) {px pos' : Pos} (T : FldK (cxFr X) cls f) (h : DE X c a ma) (hN : X.N[i]? = some x := by rfl) (hv : Vis X.env.scope x := by first | exact Or.inl rfl | exact Or.inr (Or.inl rfl) | exact Or.inr (Or.inr rfl)) (hd : (x == ("__debug__" : Str)) = false := by decide)
    (hcd : (x == ("__classdict__" : Str)) = false := by decide) (hs : swapsWith a (some (.Attribute (.Name x px) f pos')) pos.line X.env = pure false := by rfl) : DS X c (.Assign [.Attribute (.Name x px) f pos'] a pos) (sSetFc cls i f ma) := psd (ps_fld (pe_var hN hv hd hcd) h hs) (evs_setFc T ev_te)
theorem s_augF_add (i : Nat) {px pos' : Pos} (T : FldK (cxFr X) cls f) (h : DE X c a ma) (hN : X.N[i]? = some x := by rfl) (hv : Vis X.env.scope x := by first | exact Or.inl rfl | exact Or.inr (Or.inl rfl) | exact Or.inr (Or.inr rfl)) (hd : (x == ("__debug__" : Str)) = false := by decide)
    (hcd : (x == ("__classdict__" : Str)) = false := by decide) : DS X c (.AugAssign (.Attribute (.Name x px) f pos') .Add a pos) (sAugF cls oAdd i f ma) := psd (ps_fldaug (pe_var hN hv hd hcd) h in_add) (evs_augF T ev_te fun x y z H Q e q => by
      simp only [oAdd, Option.some.injEq, Rv.d.injEq, D.int.injEq] at e
      subst e
      exact ⟨x, y, rfl, rfl, q⟩)
theorem s_augF_sub (i : Nat) {px pos' : Pos} (T : FldK (cxFr X) cls f) (h : DE X c a ma) (hN : X.N[i]? = some x := by rfl) (hv : Vis X.env.scope x := by first | exact Or.inl rfl | exact Or.inr (Or.inl rfl) | exact Or.inr (Or.inr rfl)) (hd : (x == ("__debug__" : Str)) = false := by decide)
    (hcd : (x == ("__classdict__" : Str)) = false := by decide) : DS X c (.AugAssign (.Attribute (.Name x px) f pos') .Sub a pos) (sAugF cls oSub i f ma) := psd (ps_fldaug (pe_var hN hv hd hcd) h in_sub) (evs_augF T ev_te fun x y z H Q e q => by
      simp only [oSub, Option.some.injEq, Rv.d.injEq, D.int.injEq] at e
      subst e
      exact ⟨x, y, rfl, rfl, q⟩)
theorem s_appF (i : Nat) {px fp ap : Pos} (T : FldK (cxFr X) cls f) (hp : PE X (.Call (.Attribute (.Attribute (.Name x px) f fp) "append" ap) [e] [] p) (tBM X.K "list" rAppend (tFld X.K (tVar i) f) (tCons (eIn (cxFr X) m) tNil)))
    (hs : swapsWith (.Call (.Attribute (.Attribute (.Name x px) f fp) "append" ap) [e] [] p) none pos.line X.env = pure false := by rfl) : DS X c (.Expr (.Call (.Attribute (.Attribute (.Name x px) f fp) "append" ap) [e] [] p) pos) (sAppF cls f i m) := psd (ps_expr hp hs) (evs_appF T)
theorem s_extF (i : Nat) {px fp ap : Pos} (T : FldK (cxFr X) cls f) (hp : PE X (.Call (.Attribute (.Attribute (.Name x px) f fp) "extend" ap) [e] [] p) (tBM X.K "list" rExtend (tFld X.K (tVar i) f) (tCons (eIn (cxFr X) m) tNil)))
    (hs : swapsWith (.Call (.Attribute (.Attribute (.Name x px) f fp) "extend" ap) [e] [] p) none pos.line X.env = pure false := by rfl) : DS X c (.Expr (.Call (.Attribute (.Attribute (.Name x px) f fp) "extend" ap) [e] [] p) pos) (sExtF cls f i m) := psd (ps_expr hp hs) (evs_extF T)
theorem s_putKF (i : Nat) {px fp tp : Pos} (T : FldK (cxFr X) cls f) (hu : X.A.units + 65 < cLine) (hk : ∀ c' : Cxt, c'.E = noErr → DE X c' b mb) (h : DE X c a ma) (ho : PE X (.Attribute (.Name x px) f fp) (tFld X.K (tVar i) f))
    (hs : swapsWith a (some (.Subscript (.Attribute (.Name x px) f fp) b tp)) pos.line X.env = pure false := by rfl) : DS X c (.Assign [.Subscript (.Attribute (.Name x px) f fp) b tp] a pos) (sPutKF cls f i mb ma) := psd (ps_dputA (by omega) ho (eIn_of hk) h hs) (evs_putKF T ev_te)
theorem d_meth {k n : Nat} {F : FD} {mt : Str} {pl : Sem Bool} (C : MthK X.prog X.w X.K X.mg X.base k cls mt n F) (tk : Takes X c.E) (hr : Room k X.A) (hn : as.length + 1 = n) (ho : DE X c o mo) (ha : DB X c (a :: es) as)
    (hst : starEach (a :: es) X.env = (false, eval a X.env) :: starEach es X.env := by rfl) (hpl : (backTo pos (starEach es X.env)).any (·.1) = false := by rfl)
    (ht : eval (.Call (.Attribute o mt apos) (a :: es) [] pos) X.env = (do let ov ← eval o X.env; standAt apos.atName; let (g, first) ← holding [ov] (getMethod ov mt pl); callWith pos g first (backTo pos (starEach (a :: es) X.env)) (backToKw pos (keywordEach [] X.env))) := by rfl) :
    DE X c (.Call (.Attribute o mt apos) (a :: es) [] pos) (eMeth cls mt F mo as) := by
  obtain ⟨C, f, fd, ps, hm, hc, hme, hl, hf, hb⟩ := C.ex
  exact ped (pe_methS' (E := cE c) ho hc hme hf hr hb (fun σ => passAt tk σ) ha hst hpl ht) (ev_meth hm ev_te ev_self fun ρ xs ρ' h => by rw [argv_len _ _ _ _ h, hn])
theorem d_meth0 {k n : Nat} {F : FD} {mt : Str} {pl : Sem Bool} (C : MthK X.prog X.w X.K X.mg X.base k cls mt n F) (tk : Takes X c.E) (hr : Room k X.A) (hn : 1 = n) (ho : DE X c o mo)
    (ht : eval (.Call (.Attribute o mt apos) [] [] pos) X.env = (do let ov ← eval o X.env; standAt apos.atName; let (g, first) ← holding [ov] (getMethod ov mt pl); callWith pos g first (backTo pos (starEach [] X.env)) (backToKw pos (keywordEach [] X.env))) := by rfl) :
    DE X c (.Call (.Attribute o mt apos) [] [] pos) (eMeth cls mt F mo []) := by
  obtain ⟨C, f, fd, ps, hm, hc, hme, hl, hf, hb⟩ := C.ex
  exact ped (pe_methS0' (E := cE c) ho hc hme hf hr hb (fun σ => passAt tk σ) ht) (ev_meth hm ev_te ev_anil fun ρ xs ρ' h => by rw [argv_len _ _ _ _ h]; exact hn)
theorem d_methB (i : Nat) {k n : Nat} {F : FD} {mt : Str} {px : Pos} {pl : Sem Bool} (C : MthK X.prog X.w X.K X.mg X.base k cls mt n F) (tk : Takes X c.E) (hr : Room k X.A) (hn : as.length + 1 = n) (ha : DB X c (a :: es) as)
    (hN : X.N[i]? = some x := by rfl) (hv : Vis X.env.scope x := by first | exact Or.inl rfl | exact Or.inr (Or.inl rfl) | exact Or.inr (Or.inr rfl)) (hd : (x == ("__debug__" : Str)) = false := by decide) (hcd : (x == ("__classdict__" : Str)) = false := by decide)
    (hst : starEach (a :: es) X.env = (false, eval a X.env) :: starEach es X.env := by rfl) (hpl : (backTo pos (starEach es X.env)).any (·.1) = false := by rfl)
    (ht : eval (.Call (.Attribute (.Name x px) mt apos) (a :: es) [] pos) X.env = (do let ov ← eval (.Name x px) X.env; standAt apos.atName; let (g, first) ← holding [ov] (getMethod ov mt pl); callWith pos g first (backTo pos (starEach (a :: es) X.env)) (backToKw pos (keywordEach [] X.env))) := by rfl) :
    DE X c (.Call (.Attribute (.Name x px) mt apos) (a :: es) [] pos) (eMethB cls mt F i as) := by
  obtain ⟨C, f, fd, ps, hm, hc, hme, hl, hf, hb⟩ := C.ex
  exact ped (pe_methS' (E := cE c) (pe_var hN hv hd hcd) hc hme hf hr hb (fun σ => passAt tk σ) ha hst hpl ht) (ev_methB hm ev_self fun ρ xs ρ' h => by rw [argv_len _ _ _ _ h, hn])
theorem d_methB0 (i : Nat) {k n : Nat} {F : FD} {mt : Str} {px : Pos} {pl : Sem Bool} (C : MthK X.prog X.w X.K X.mg X.base k cls mt n F) (tk : Takes X c.E) (hr : Room k X.A) (hn : 1 = n)
    (hN : X.N[i]? = some x := by rfl) (hv : Vis X.env.scope x := by first | exact Or.inl rfl | exact Or.inr (Or.inl rfl) | exact Or.inr (Or.inr rfl)) (hd : (x == ("__debug__" : Str)) = false := by decide) (hcd : (x == ("__classdict__" : Str)) = false := by decide)
    (ht : eval (.Call (.Attribute (.Name x px) mt apos) [] [] pos) X.env = (do let ov ← eval (.Name x px) X.env; standAt apos.atName; let (g, first) ← holding [ov] (getMethod ov mt pl); callWith pos g first (backTo pos (starEach [] X.env)) (backToKw pos (keywordEach [] X.env))) := by rfl) :
    DE X c (.Call (.Attribute (.Name x px) mt apos) [] [] pos) (eMethB cls mt F i []) := by
  obtain ⟨C, f, fd, ps, hm, hc, hme, hl, hf, hb⟩ := C.ex
  exact ped (pe_methS0' (E := cE c) (pe_var hN hv hd hcd) hc hme hf hr hb (fun σ => passAt tk σ) ht) (ev_methB hm ev_anil fun ρ xs ρ' h => by rw [argv_len _ _ _ _ h]; exact hn)
theorem d_new {k n : Nat} {F : FD} (C : NewK X.prog X.w X.K X.mg X.base k cls n F) (tk : Takes X c.E) (hr : Room (k + 1) X.A) (hg : Gl X cls) (hn : as.length + 1 = n) (ha : DB X c (a :: es) as) (hdb : (cls == ("__debug__" : Str)) = false := by decide)
    (he : starEach (a :: es) X.env = (false, eval a X.env) :: starEach es X.env := by rfl) (hpl : (backTo pos (starEach es X.env)).any (·.1) = false := by rfl) : DE X c (.Call (.Name cls p) (a :: es) [] pos) (eNew cls F as) := by
  obtain ⟨C, f, fd, ps, hm, hM, hl, hf, hb⟩ := C.ex
  exact ped (pe_newS' (E := cE c) hM hf hr hg hm hb (fun σ => passAt tk σ) ha hdb he hpl) (ev_new hm ev_self fun ρ xs ρ' h => by rw [argv_len _ _ _ _ h, hn])
theorem d_new0 {k n : Nat} {F : FD} (C : NewK X.prog X.w X.K X.mg X.base k cls n F) (tk : Takes X c.E) (hr : Room (k + 1) X.A) (hg : Gl X cls) (hn : 1 = n) (hdb : (cls == ("__debug__" : Str)) = false := by decide) : DE X c (.Call (.Name cls p) [] [] pos) (eNew cls F []) := by
  obtain ⟨C, f, fd, ps, hm, hM, hl, hf, hb⟩ := C.ex
  exact ped (pe_newS0' (E := cE c) hM hf hr hg hm hb (fun σ => passAt tk σ) hdb) (ev_new hm ev_anil fun ρ xs ρ' h => by rw [argv_len _ _ _ _ h]; exact hn)
/-- keywords -/
abbrev DK (X : Cx) (c : Cxt) (kws : List Keyword) (as : List Ar) : Prop := PK X kws (wpOf (cxFr X) c (pA (cxFr X)) (argv as))
theorem pkd {kws : List Keyword} {t : TA} (h : PK X kws t) (ev : Ev (cxFr X) c t (pA (cxFr X)) (argv as)) : DK X c kws as := ⟨fun pos pins s σ H Q I ⟨ρ, S, st, g⟩ => h.run pos pins s σ H Q I (ev ρ σ S H Q st g)⟩
theorem kb_nil : DK X c [] [] := pkd pk_nil ev_anil
theorem kb_v {kws : List Keyword} {nm : Option Str} {kpos : Pos} (ha : DE X c a ma) (hr : DK X c kws as) : DK X c (⟨nm, a, kpos⟩ :: kws) (.v ma :: as) := pkd (pk_cons ha hr) (ev_aval ev_te ev_self)
theorem d_newK {k : Nat} {ks : List Str} {F : FD} {kws : List Keyword} (C : NewKw X.prog X.w X.K X.mg X.base k cls ks F) (tk : Takes X c.E) (hr : Room (k + 1) X.A) (hg : Gl X cls) (hn : as.length = ks.length) (ha : DK X c kws as)
    (hall : (backToKw pos (keywordEach kws X.env)).all (·.1.isSome) = true := by rfl) (hks : (backToKw pos (keywordEach kws X.env)).filterMap (·.1) = ks := by rfl) (hdb : (cls == ("__debug__" : Str)) = false := by decide)
    (hpl : ((backTo pos (starEach [] X.env)).any (·.1) || (backToKw pos (keywordEach kws X.env)).any (·.1.isNone)) = false := by rfl) : DE X c (.Call (.Name cls p) [] kws pos) (eNew cls F as) := by
  obtain ⟨C, f, fd, ps, hm, hM, hl, hf, hb⟩ := C.ex
  exact ped (pe_newK' (E := cE c) hM hf hr hg hm hb (fun σ => passAt tk σ) ha hall hks hdb hpl) (ev_newK hm ev_self fun ρ xs ρ' h => by rw [argv_len _ _ _ _ h, hn])
end
end Dn
set_option linter.all false
/-! More operations. -/
namespace Dn
open PySem
/-- tuples and texts times a number, too -/
def oMulA : D → D → Option Rv
  | .tup xs, .int k => if 0 ≤ k ∧ k ≤ 1000 ∧ xs.length ≤ 1000 then some (.d (.tup (List.replicate k.toNat xs).flatten)) else none
  | .str z, b => oMulS (.str z) b
  | a, b => oMul a b
/-- a, b = x, y -/
@[simp] def sPar (is : List Nat) (ms : List E) : S := runM (args ms) fun ds ρ => match gVs is ds ρ with
  | some ρ' => .nx ρ'
  | none => .bad
def oStr : D → Option Rv
  | .int i => if bigOk i then some (.d (.str (toString i : String))) else none
  | .str x => some (.d (.str x))
  | _ => none
/-- xs.index(x) of flat things -/
def oIndex : D → D → Option Rv
  | .lst xs, y => if flatD y && xs.all flatD then (xs.findIdx? fun x => x.eqv y).map fun j => .d (.int (j : Nat)) else none
  | _, _ => none
@[simp] def isLst : D → Bool
  | .lst _ => true
  | _ => false
@[simp] def eIndex (a b : E) : E := bind (val a) fun d => if isLst d then bind (val b) fun y => opt (oIndex d y) else bad
/-- xs.pop(i) -/
@[simp] def popAt (i : Nat) (j : Int) : E := fun ρ => match ρ[i]? with
  | some (.own (.lst xs)) => (match ixAt xs.length j with
    | some k => (match xs[k]? with
      | some y => .ok (.d y) (ρ.set i (.own (.lst (xs.eraseIdx k))))
      | none => .bad)
    | none => .bad)
  | some (.bor (.lst xs)) => (match ixAt xs.length j with
    | some k => (match xs[k]? with
      | some y => .ok (.d y) (ρ.set i (.bor (.lst (xs.eraseIdx k))))
      | none => .bad)
    | none => .bad)
  | _ => .bad
@[simp] def ePopAt (i : Nat) (m : E) : E := fun ρ => if isLs ρ[i]? then bind (val m) (fun d => match d with
  | .int j => if bigOk j then popAt i j else bad
  | _ => bad) ρ else .bad
/-- list(e), of dicts too -/
def oListA : D → Option Rv
  | .dic kvs => some (.o (.lst (kvs.map (·.1))))
  | d => oList d
/-- x.extend(a list or a tuple) -/
@[simp] def sExtA (i : Nat) (m : E) : S := fun ρ => if isLs ρ[i]? then runM (val m) (fun d ρ => match d with
  | .lst ds => chg i (cExt ds) ρ
  | .tup ds => chg i (cExt ds) ρ
  | _ => .bad) ρ else .bad
/-- dict(e), of a dict of plain keys too -/
def oDictA : D → Option Rv
  | .dic kvs => if kvs.all fun p => isKey p.1 then some (.o (.dic kvs)) else none
  | d => oDictP d
@[simp] def isDS : Option Slot → Bool
  | some (.own (.dic _)) => true
  | some (.bor (.dic _)) => true
  | _ => false
/-- n.get(k, x), n a name whose own or lent dict is looked at -/
@[simp] def eGet2P (i : Nat) (k x : E) : E := fun ρ => if isDS ρ[i]? then bind (val k) (fun y => bind (val x) fun z ρ' => match ρ'[i]? with
  | some (.own (.dic ds)) => opt (oDGetD (.dic ds) y z) ρ'
  | some (.bor (.dic ds)) => opt (oDGetD (.dic ds) y z) ρ'
  | _ => .bad) ρ else .bad
/-- zip of lists, of tuples -/
def srcZipA (m n : E) : M (List D) := bind (val m) fun c => bind (val n) fun d => match c, d with
  | .lst xs, .lst ys => ret (zipD xs ys)
  | .tup xs, .tup ys => ret (zipD xs ys)
  | _, _ => bad
/-- tuple(range(n)) -/
def eTupR1 (a : E) : E := bind (val a) fun x => match x with
  | .int i => if bigOk i && decide (i ≤ 100000) then ret (.d (.tup (upTo 0 i.toNat))) else bad
  | _ => bad
/-- isinstance(e, C), C a class of the text's own -/
def oIsO (c : Str) : D → Option Rv
  | .obj k _ => if k = c then some (.d (.bl true)) else none
  | .dic _ => none
  | .scr _ => none
  | _ => some (.d (.bl false))
end Dn
set_option Elab.async false
set_option linter.all false
set_option maxRecDepth 100000
set_option maxHeartbeats 4000000
/-! tuple * number, for every number from 0. -/
namespace Dn
open PySem L2 PySem.Spec PyProof.Rows
section
variable (l : Addr) (its : Array Value) (n : Nat) (dd : Option Addr) (sl : Array (Option Value)) (x : Int) (u : Tok)
abbrev tupAt (hp : Heap) : Prop := hp.get? l = some { cls := .type "tuple", dict := dd, data := .seq its n, slots := sl }
/-- the same object -/
theorem tmul_same (c0 : (decide (x < -(2 ^ 63)) || decide (x ≥ 2 ^ 63)) = false) (c1 : (its.isEmpty || x == 1) = true) :
    Meets (Builtin.«tuple.__mul__» ⟨[.ref l, .int x u], []⟩) (fun _ R s => tupAt l its n dd sl s.heap ∧ R (.ok (.ret (Value.ref l))) s) :=
  .of_wp fun prog w A R s h => by
    obtain ⟨hp, g, d, tk, os⟩ := s
    obtain ⟨hl, h⟩ := h
    have f1 := AutoSeq1.idx_int
    wp_walk using wpAny_loadPart' hl
    refine wpAny_ite_false (decide_eq_false (by rw [c0]; exact Bool.false_ne_true)) ?_
    wp_walk using wpAny_loadPart' hl
    exact ⟨_, rfl, h⟩
/-- none of it -/
theorem tmul_zero (c0 : (decide (x < -(2 ^ 63)) || decide (x ≥ 2 ^ 63)) = false) (c1 : (its.isEmpty || x == 1) = false) (c2 : (decide (x ≤ 0) || its.isEmpty) = true) :
    Meets (Builtin.«tuple.__mul__» ⟨[.ref l, .int x u], []⟩) (fun _ R s => tupAt l its n dd sl s.heap ∧ R (.ok (.ret (Value.ref s.heap.objs.size))) { s with heap := s.heap.push { cls := Value.type "tuple", data := Data.seq #[] }, toks := s.toks }) :=
  .of_wp fun prog w A R s h => by
    obtain ⟨hp, g, d, tk, os⟩ := s
    obtain ⟨hl, h⟩ := h
    have f1 := AutoSeq1.idx_int
    wp_walk using wpAny_loadPart' hl
    repeat (first
      | (refine wpAny_ite_false (decide_eq_false (by rw [c0]; exact Bool.false_ne_true)) ?_; wp_walk using wpAny_loadPart' hl)
      | (refine wpAny_ite_false (decide_eq_false (by rw [c1]; exact Bool.false_ne_true)) ?_; wp_walk using wpAny_loadPart' hl)
      | (refine wpAny_ite_true (decide_eq_true c2) ?_; wp_walk using wpAny_loadPart' hl))
    exact ⟨_, rfl, h⟩
end
def rMulT (K : PySem.W.Frag) : R2 := fun x y H Q => ∃ l k xs, x = .ref l ∧ y = .int k ∧ SqT K H l xs ∧ 0 ≤ k ∧ k ≤ 1000 ∧ xs.length ≤ 1000 ∧ ((List.replicate k.toNat xs).flatten = xs → Q (.ref l) H) ∧ ∀ p, H p = none → Q (.ref p) (upd H p (.tup (List.replicate k.toNat xs).flatten))
section
variable {X : Cx}
theorem op_mulT : OpR X (binaryOp .Mult) (rMulT X.K) := by
  intro pins s σ H x y v u Q I rx ry h
  obtain ⟨l, k, xs, rfl, rfl, hT, k0, k1, hz, qs, qn⟩ := h
  by_cases big : xs ≠ [] ∧ 2 ≤ k
  · exact op_repT pins s σ H _ _ v u Q I rx ry ⟨l, k, xs, rfl, rfl, hT, big.1, big.2, k1, hz, qn⟩
  · cases rx
    obtain ⟨t, rfl⟩ := ry
    obtain ⟨its, r, ⟨⟨cls, dd, data, sl⟩, ho, hc, n, hd⟩, hs⟩ := I.tuple hT
    simp only at hc hd
    subst hc hd
    have c0 : (decide (k < -(2 ^ 63)) || decide (k ≥ 2 ^ 63)) = false := by
      rw [decide_eq_false (by omega), decide_eq_false (by omega)]
      rfl
    have same : (its.toArray.isEmpty || k == 1) = true → (List.replicate k.toNat xs).flatten = xs := fun e => by
      rcases Bool.or_eq_true_iff.mp e with e | e
      · have h0 : its = [] := by
          cases its with
          | nil => rfl
          | cons a b => simp at e
        subst h0
        cases r
        induction k.toNat with
        | zero => rfl
        | succ m ih => simpa [List.replicate_succ] using ih
      · have e : k = 1 := beq_iff_eq.mp e
        subst e
        simp [List.replicate_succ]
    by_cases c1 : (its.toArray.isEmpty || k == 1) = true
    · refine wpAny_binaryOp_repeat_ref (T := "tuple") (U := "int") (by decide) ⟨_, ho, rfl⟩ (fun s' => typeIs_int s' k t) noFill_tuple_mul F.fills_int_mul F.slot_int_rmul repeat_tuple F.slot_int_index.lookup ?_
      exact call_meets F.slot_int_rmul (typeIs_int s k t) F.entry_int_rmul (F.args_int_rmul_2 _ _) (int_rmul_tuple k t l its.toArray n dd sl) ⟨ho, rfl, ⟨_, ho, rfl⟩,
        call_meets F.slot_tuple_mul ⟨_, ho, rfl⟩ F.entry_tuple_mul (F.args_tuple_mul_2 _ _) (tmul_same l its.toArray n dd sl k t c0 c1) ⟨ho, .ref l, H, I, rfl, qs (same c1)⟩⟩
    · have c1 : (its.toArray.isEmpty || k == 1) = false := Bool.eq_false_iff.mpr c1
      have hne : xs ≠ [] := fun e => by
        subst e
        cases r
        simp at c1
      have hk : k = 0 := by
        have : ¬ 2 ≤ k := fun z => big ⟨hne, z⟩
        have n1 : k ≠ 1 := fun z => by
          rw [z] at c1
          simp at c1
        omega
      subst hk
      refine wpAny_binaryOp_repeat_ref (T := "tuple") (U := "int") (by decide) ⟨_, ho, rfl⟩ (fun s' => typeIs_int s' 0 t) noFill_tuple_mul F.fills_int_mul F.slot_int_rmul repeat_tuple F.slot_int_index.lookup ?_
      refine call_meets F.slot_int_rmul (typeIs_int s 0 t) F.entry_int_rmul (F.args_int_rmul_2 _ _) (int_rmul_tuple 0 t l its.toArray n dd sl) ⟨ho, rfl, ⟨_, ho, rfl⟩,
        call_meets F.slot_tuple_mul ⟨_, ho, rfl⟩ F.entry_tuple_mul (F.args_tuple_mul_2 _ _) (tmul_zero l its.toArray n dd sl 0 t c0 c1 rfl) ⟨ho, ?_⟩⟩
      refine ⟨.ref s.heap.objs.size, _, I.laid (t' := s.toks) (o := .tup []) (fun b ob q => Heap.get?_push_of_some _ q) (Nat.le_refl _) ?_, rfl, qn _ (I.hok.fresh (Nat.le_refl _))⟩
      exact ⟨Nat.zero_le _, [], .nil, IsTup.new _ _⟩
end
end Dn
set_option Elab.async false
set_option linter.all false
set_option maxRecDepth 100000
set_option maxHeartbeats 4000000
/-! More constructs. -/
namespace Dn
open PySem L2
section
variable {K : Fr} {c : Cxt}
theorem o_mulA : Op2 K c (fun x y H Q => (rMulT K.K x y H Q ∨ rMulS x y H Q) ∨ rMulAll x y H Q) oMulA := by
  intro ρ σ S H x y vx vy z Q st rx ry e k
  unfold oMulA at e
  split at e
  · rename_i xs n
    split at e
    · rename_i h
      cases e
      cases rx with
      | @tup a vs ds h1 h2 =>
        cases ry
        refine .inl (.inl ⟨a, n, vs, rfl, rfl, ex_t st.subE h1, h.1, h.2.1, by rw [h2.length]; exact h.2.2, fun q => ?_, fun p hp => ?_⟩)
        · exact keep_d st k (.tup (by rw [q]; exact h1) (h2.rep _))
        · exact new_t st k (h2.rep _) hp
    · cases e
  · exact .inl (.inr (o_mulS ρ σ S H _ _ _ _ z Q st rx ry e k))
  · exact .inr (o_mul ρ σ S H _ _ _ _ z Q st rx ry e k)
/-- a, b = x, y -/
theorem evs_par2 {ta : TA} {ms : List E} {i j : Nat} (ha : Ev K c ta (pL K) (args ms)) : EvS K c (tPar i j ta) (sPar [i, j] ms) := by
  refine evs_run (u := fun σ vs D H => ∃ v w, vs = [v, w] ∧ D.nx ((σ.set i (some v)).set j (some w)) H) ha fun ds vs ρ σ S H D st r g => ?_
  have r : Rs K S.h vs ds := r
  cases e : gVs [i, j] ds ρ with
  | none =>
    simp only [e] at g
    exact g.elim
  | some ρ' =>
    simp only [e] at g
    match ds, gVs_len e, r, e with
    | [d1, d2], _, .cons r1 (.cons r2 .nil), e =>
      simp only [gVs, Option.bind_eq_some_iff] at e
      obtain ⟨ρ1, e1, ρ2, e2, e3⟩ := e
      cases e3
      obtain ⟨S1, s1, q1⟩ := st.store (r := .d d1) e1 r1
      obtain ⟨S2, s2, q2⟩ := s1.store (r := .d d2) e2 (by show R K S1.h _ _; rw [q1]; exact r2)
      exact ⟨_, _, rfl, g _ S2 H s2 (by rw [q2, q1]; exact Ex.refl _)⟩
theorem evs_par3 {ta : TA} {ms : List E} {i j l : Nat} (ha : Ev K c ta (pL K) (args ms)) : EvS K c (tPar3 i j l ta) (sPar [i, j, l] ms) := by
  refine evs_run (u := fun σ vs D H => ∃ u v w, vs = [u, v, w] ∧ D.nx (((σ.set i (some u)).set j (some v)).set l (some w)) H) ha fun ds vs ρ σ S H D st r g => ?_
  have r : Rs K S.h vs ds := r
  cases e : gVs [i, j, l] ds ρ with
  | none =>
    simp only [e] at g
    exact g.elim
  | some ρ' =>
    simp only [e] at g
    match ds, gVs_len e, r, e with
    | [d1, d2, d3], _, .cons r1 (.cons r2 (.cons r3 .nil)), e =>
      simp only [gVs, Option.bind_eq_some_iff] at e
      obtain ⟨ρ1, e1, ρ2, e2, ρ3, e3, e4⟩ := e
      cases e4
      obtain ⟨S1, s1, q1⟩ := st.store (r := .d d1) e1 r1
      obtain ⟨S2, s2, q2⟩ := s1.store (r := .d d2) e2 (by show R K S1.h _ _; rw [q1]; exact r2)
      obtain ⟨S3, s3, q3⟩ := s2.store (r := .d d3) e3 (by show R K S2.h _ _; rw [q2, q1]; exact r3)
      exact ⟨_, _, _, rfl, g _ S3 H s3 (by rw [q3, q2, q1]; exact Ex.refl _)⟩
theorem o_str : Op1 K c (fun v => (fun xs H (Q : VK) => (∃ i, xs = [V.int i] ∧ i.natAbs.log2 < 1920 ∧ Q (.str (toString i : String)) H) ∨ ∃ a, xs = [V.str a] ∧ Q (.str a) H) [v]) oStr := by
  intro ρ σ S H x vx z Q st rx e k
  cases rx <;> first | (simp only [oStr] at e; cases e; done) | skip
  · rename_i i
    simp only [oStr] at e
    split at e
    · rename_i h
      cases e
      refine .inl ⟨_, rfl, ?_, keep_d st k (R.str _)⟩
      simp only [bigOk, Bool.and_eq_true, decide_eq_true_eq] at h
      have h1 : i.natAbs < 2 ^ 30 := by omega
      have h2 : i.natAbs.log2 < 30 := by
        by_cases h0 : i.natAbs = 0
        · rw [h0]
          decide
        · exact (Nat.log2_lt h0).mpr h1
      omega
    · cases e
  · simp only [oStr, Option.some.injEq] at e
    subst e
    exact .inr ⟨_, rfl, keep_d st k (R.str _)⟩
/-- xs.index(x) -/
theorem findIdx_at {α : Type} {p : α → Bool} : ∀ {xs : List α} {j : Nat}, xs.findIdx? p = some j → (∃ x, xs[j]? = some x ∧ p x = true) ∧ ∀ m x, m < j → xs[m]? = some x → p x = false
  | [], j, h => by cases h
  | y :: ys, j, h => by
    rw [List.findIdx?_cons] at h
    split at h
    · rename_i hp
      cases h
      exact ⟨⟨y, rfl, hp⟩, fun m x hm => by omega⟩
    · rename_i hp
      rw [Option.map_eq_some_iff] at h
      obtain ⟨k, h1, rfl⟩ := h
      obtain ⟨⟨x, h2, h3⟩, h4⟩ := findIdx_at h1
      refine ⟨⟨x, h2, h3⟩, fun m z hm hz => ?_⟩
      cases m with
      | zero =>
        cases hz
        exact Bool.eq_false_iff.mpr hp
      | succ m => exact h4 m z (by omega) hz
theorem ev_index {ta tb : TE} {ma mb : E} (ha : Ev K c ta (pV K c) ma) (hb : Ev K c tb (pV K c) mb) : Ev K c (tBM K.K "list" (rIndex K.K) ta (tCons tb tNil)) (pV K c) (eIndex ma mb) := by
  refine ev_bind (u := fun σ x H (Q : VK) => tyV K.K "list" x H ∧ tb σ H fun y H2 => rIndex K.K x [y] H2 Q) (ev_val ha) fun d v ρ σ S H Q st r g => ?_
  have r : R K S.h v d := r
  cases r with
  | @lst a xs ds h1 h2 =>
    refine ⟨ty_list (st.sub _ _ h1), (ev_val hb) ρ σ S H _ st ?_⟩
    have g : Goal K c σ S (pV K c σ) (bind (val mb) (fun y => opt (oIndex (.lst ds) y)) ρ) Q := g
    unfold bind at g
    cases z : val mb ρ with
    | bad =>
      rw [z] at g
      exact g
    | err er ρ' =>
      rw [z] at g
      exact g
    | ok y ρ' =>
      rw [z] at g
      intro w S' H' st' ex r2
      have r2 : R K S'.h w y := r2
      obtain ⟨q, e, g⟩ := goal_opt g
      simp only [oIndex] at e
      split at e
      · rename_i hf
        simp only [Bool.and_eq_true] at hf
        rw [Option.map_eq_some_iff] at e
        obtain ⟨j, e1, rfl⟩ := e
        obtain ⟨⟨x, x1, x2⟩, x3⟩ := findIdx_at e1
        obtain ⟨u, u1, u2⟩ := (h2.mono ex).get x1
        have fl := List.all_eq_true.mp hf.2
        refine ⟨a, xs, w, j, u, rfl, rfl, SqL.of (st'.sub _ _ (ex.at h1 fun z => z)), ?_, ?_, u1, ?_, fun m z hm hz => ?_, g _ S' H' st' ex (R.int _)⟩
        · exact flat_of r2 hf.1
        · rw [List.all_eq_true]
          intro z hz
          obtain ⟨m, hm⟩ := List.getElem?_of_mem hz
          obtain ⟨dz, z1, z2⟩ := (h2.mono ex).getV hm
          exact flat_of z2 (fl _ (List.mem_of_getElem? z1))
        · rw [eqV_of u2 r2 (fl _ (List.mem_of_getElem? x1)) hf.1]
          exact x2
        · obtain ⟨dz, z1, z2⟩ := (h2.mono ex).getV hz
          rw [eqV_of z2 r2 (fl _ (List.mem_of_getElem? z1)) hf.1]
          exact x3 m dz hm z1
      · cases e
  | _ => exact g.elim
theorem ixAt_seq {n : Nat} {j : Int} {k : Nat} (h : ixAt n j = some k) : seqIndex? j n = some k := by
  unfold ixAt at h
  unfold seqIndex?
  split at h
  · rename_i h0
    split at h
    · rename_i h1
      cases h
      rw [show (if j < 0 then j + (n : Int) else j) = j from if_neg (by omega)]
      simp [h0, h1]
    · cases h
  · rename_i h0
    split at h
    · rename_i h1
      cases h
      rw [show (if j < 0 then j + (n : Int) else j) = j + n from if_pos (by omega)]
      have a1 : 0 ≤ j + (n : Int) := by omega
      have a2 : j + (n : Int) < n := by omega
      simp [a1, a2]
    · cases h
theorem Rs.erase {H : Hp} : ∀ {ds : List D} {vs : List V} (j : Nat), Rs K H vs ds → Rs K H (vs.eraseIdx j) (ds.eraseIdx j)
  | [], _, _, h => by
    cases h
    exact .nil
  | x :: ds, _, 0, h => by
    cases h with
    | cons h1 h2 => exact h2
  | x :: ds, _, j + 1, h => by
    cases h with
    | cons h1 h2 => exact .cons h1 (Rs.erase j h2)
theorem ev_popAt {te : TE} {m : E} {i : Nat} (h : Ev K c te (pV K c) m) : Ev K c (tBM K.K "list" rPopAt (tVar i) (tCons te tNil)) (pV K c) (ePopAt i m) := by
  intro ρ σ S H Q st g
  unfold ePopAt at g
  split at g
  · rename_i hL
    obtain ⟨l, xs, h1, h2⟩ := st.lstAt hL
    refine ⟨.ref l, h1, ty_list h2, (ev_val h) ρ σ S H _ st ?_⟩
    unfold bind at g
    cases e : val m ρ with
    | bad =>
      rw [e] at g
      exact g
    | err er ρ' =>
      rw [e] at g
      exact g
    | ok d ρ' =>
      rw [e] at g
      intro v S' H' st' ex r
      have r : R K S'.h v d := r
      cases r with
      | int j =>
        simp only at g
        split at g
        · rename_i hb
          simp only [bigOk, Bool.and_eq_true, decide_eq_true_eq] at hb
          have fin : ∀ {s s' : Slot} {ds : List D}, ρ'[i]? = some s → ((∃ k, s = .own k ∧ s' = .own (.lst ds)) ∨ ∃ k, s = .bor k ∧ s' = .bor (.lst ds)) → True := fun _ _ => trivial
          unfold popAt at g
          split at g
          · rename_i ds hs
            split at g
            · rename_i k hk
              split at g
              · rename_i y hy
                obtain ⟨l', a1, p, zs, a2, a3⟩ := st'.own i _ hs
                rw [h1] at a1
                cases a1
                obtain ⟨w, w1, w2⟩ := a3.get hy
                have st2 := st'.change (k' := .lst (ds.eraseIdx k)) (P := ownP S' i) (H' := upd H' l (.lst (zs.eraseIdx k))) hs (.inl ⟨_, rfl, rfl⟩) h1 (Chg.upd st' p).other (Chg.upd st' p).live (Chg.upd st' p).own ⟨p, _, upd_same, a3.erase k⟩
                exact ⟨l, zs, j, k, w, rfl, rfl, a2, by omega, by omega, ixAt_seq (by rw [a3.length]; exact hk), w1, g w _ _ st2 ex w2⟩
              · exact g.elim
            · exact g.elim
          · rename_i ds hs
            split at g
            · rename_i k hk
              split at g
              · rename_i y hy
                obtain ⟨l', a1, ⟨p, zs, a2, a3⟩, a4⟩ := st'.bor i _ hs
                rw [h1] at a1
                cases a1
                obtain ⟨w, w1, w2⟩ := a3.get hy
                have st2 := st'.change (k' := .lst (ds.eraseIdx k)) (P := ownP S' i) (H' := upd H' l (.lst (zs.eraseIdx k))) hs (.inr ⟨_, rfl, rfl⟩) h1 (Chg.upd st' p).other (Chg.upd st' p).live (Chg.upd st' p).own ⟨p, _, upd_same, a3.erase k⟩
                exact ⟨l, zs, j, k, w, rfl, rfl, a2, by omega, by omega, ixAt_seq (by rw [a3.length]; exact hk), w1, g w _ _ st2 ex w2⟩
              · exact g.elim
            · exact g.elim
          · exact g.elim
        · exact g.elim
      | _ => exact g.elim
  · exact g.elim
theorem ev_tupR1 {ta : TE} {ma : E} (ha : Ev K c ta (pV K c) ma) : Ev K c (tTupRg (tRg1 ta)) (pV K c) (eTupR1 ma) := by
  refine ev_bind (u := fun σ x H (Q : VK) => ∃ n, x = V.int n ∧ RgOk 0 n ∧ ∀ q, H q = none → Q (.ref q) (upd H q (.tup (rgV 0 n)))) (ev_val ha) fun d v ρ σ S H Q st r g => ?_
  have r : R K S.h v d := r
  cases r with
  | int n =>
    simp only at g
    split at g
    · rename_i h
      simp only [Bool.and_eq_true, decide_eq_true_eq, bigOk] at h
      obtain ⟨⟨h1, h2⟩, h3⟩ := h
      have e : (n - 0).toNat = n.toNat := by rw [Int.sub_zero]
      have rs := rs_upTo (K := K) (H := S.h) 0 (n - 0).toNat
      refine ⟨n, rfl, ⟨by omega, by omega, by omega, by omega, by omega⟩, fun q hq => new_t st (fun v S' H' s e p => g v S' H' s e p) ?_ hq⟩
      rw [e] at rs
      unfold rgV
      rw [e]
      exact rs
    · exact g.elim
  | _ => exact g.elim
end
section
variable {K : Fr} {c : Cxt}
theorem walk_zipT {a b : Addr} {xs ys : List V} {K : PySem.W.Frag} {n : Nat} (hn : n = min xs.length ys.length) : Walk (RZ.ItzT K a b) n (fun H => SqT K H a xs ∧ SqT K H b ys) (YPair (fun i => xs[i]?) (fun i => ys[i]?)) := by
  subst hn
  constructor
  · intro i H hi q
    have l1 : i < xs.length := by omega
    have l2 : i < ys.length := by omega
    exact ⟨xs, ys, xs[i], ys[i], q.1, q.2, by simp [l1], by simp [l2]⟩
  · exact fun H q => ⟨xs, ys, q.1, q.2, by omega⟩
  · intro i H v H' hi q y
    obtain ⟨T, x, z, y1, y2, y3, y4, y5⟩ := y
    exact ⟨T, x, z, y1, y2, y3, y4 xs q.1, y5 ys q.2⟩
theorem ev_srcZipA {ta tb : TE} {ma mb : E} (ha : Ev K c ta (pV K c) ma) (hb : Ev K c tb (pV K c) mb) : Ev K c (RZ.iZipA K.K (tCons ta (tCons tb tNil))) (pI K) (srcZipA ma mb) :=
  ev_two (u := fun (x y : V) H (Q : It → Hp → Prop) => ∃ a b xs ys, [x, y] = [V.ref a, V.ref b] ∧ ((SqL K.K H a xs ∧ SqL K.K H b ys ∧ Q (Itz K.K a b) H) ∨ (SqT K.K H a xs ∧ SqT K.K H b ys ∧ Q (RZ.ItzT K.K a b) H))) ha hb fun d e v w ρ σ S H Q st r1 r2 g => by
    cases r1 with
    | @lst a xs ds h1 h2 =>
      cases r2 with
      | @lst b ys es h3 h4 =>
        refine ⟨a, b, xs, ys, rfl, .inl ⟨SqL.of (st.sub _ _ h1), SqL.of (st.sub _ _ h3), g _ S H st (Ex.refl _) ⟨_, _, walk_zip (xs := xs) (ys := ys) (by rw [zipD_len, h2.length, h4.length]), fun H' e => ⟨SqL.of (e.at h1 fun z => z), SqL.of (e.at h3 fun z => z)⟩, fun i H' x H'' hi e y => ?_⟩⟩⟩
        obtain ⟨T, x1, x2, rfl, y2, rfl, y4, y5⟩ := y
        obtain ⟨d1, z1, z2⟩ := h2.getV y4
        obtain ⟨d2, z3, z4⟩ := h4.getV y5
        exact ⟨_, zipD_get ds es i d1 d2 z1 z3, .inr ⟨T, _, _, rfl, y2, rfl, rfl, .cons z2 (.cons z4 .nil)⟩⟩
      | _ => exact g.elim
    | @tup a xs ds h1 h2 =>
      cases r2 with
      | @tup b ys es h3 h4 =>
        refine ⟨a, b, xs, ys, rfl, .inr ⟨ex_t st.subE h1, ex_t st.subE h3, g _ S H st (Ex.refl _) ⟨_, _, walk_zipT (xs := xs) (ys := ys) (by rw [zipD_len, h2.length, h4.length]), fun H' e => ⟨ex_t e h1, ex_t e h3⟩, fun i H' x H'' hi e y => ?_⟩⟩⟩
        obtain ⟨T, x1, x2, rfl, y2, rfl, y4, y5⟩ := y
        obtain ⟨d1, z1, z2⟩ := h2.getV y4
        obtain ⟨d2, z3, z4⟩ := h4.getV y5
        exact ⟨_, zipD_get ds es i d1 d2 z1 z3, .inr ⟨T, _, _, rfl, y2, rfl, rfl, .cons z2 (.cons z4 .nil)⟩⟩
      | _ => exact g.elim
    | _ => exact g.elim
end
/-- what isinstance(e, C) needs -/
structure IsK (K : Fr) (cls : Str) : Prop where
  ex : ∃ C, K.mg cls = some (.ref C) ∧ C8.InsC K.K C ∧ ∀ t ∈ ["NoneType", "bool", "int", "str", "tuple", "list"], PySem.W.kitOne K.K (.type t) (.ref C) = some false
section
variable {X : Cx} {c : Cxt} {a b e : Expr} {es : List Expr} {pos apos p p2 p3 : Pos} {ma mb m : E} {cls x y z : Str}
theorem d_isO (T : IsK (cxFr X) cls) (hg : Gl X "isinstance") (hm : X.mg "isinstance" = none) (hgx : Gl X cls) (ha : DE X c a ma) (hdx : (cls == ("__debug__" : Str)) = false := by decide)
    (he : starEach [a, .Name cls p2] X.env = (false, eval a X.env) :: starEach [.Name cls p2] X.env := by rfl) (he2 : starEach [.Name cls p2] X.env = (false, eval (.Name cls p2) X.env) :: starEach [] X.env := by rfl) (hpl : (backTo pos (starEach [.Name cls p2] X.env)).any (·.1) = false := by rfl) :
    DE X c (.Call (.Name "isinstance" p) [a, .Name cls p2] [] pos) (e1 (oIsO cls) ma) := by
  obtain ⟨C, hC, hI, hT⟩ := T.ex
  refine ped (pe_callB call_isi hg hm PyProof.Rows.boot_isinstance (pa_cons ha (pa_cons (pe_glob (v := .ref C) hgx hC rfl hdx) pa_nil he2) he) (by decide) (by decide) he hpl) ?_
  refine ev_bind (u := fun σ (x : V) H (Q : VK) => rIsi X.K [x, .ref C] H Q) (ev_val ev_te) fun x vx ρ σ S H Q st rx g => ?_
  obtain ⟨z, e, g2⟩ := goal_opt g
  have rx : R (cxFr X) S.h vx x := rx
  have std : ∀ {d : D}, x = d → d.ty ∈ ["NoneType", "bool", "int", "str", "tuple", "list"] → noTy d = false → (oIsO cls d = some (.d (.bl false))) → rIsi X.K [vx, .ref C] H Q := fun {d} e1 h1 h2 h3 => by
    subst e1
    rw [h3] at e
    cases e
    exact ⟨vx, .ref C, _, _, _, rfl, .own C, ty_of (rx.mono st.subE) h2, hT _ h1, g2 _ S H st (Ex.refl _) (R.bl _)⟩
  cases x with
  | non => exact std rfl (by decide) rfl rfl
  | bl b => exact std rfl (by simp [D.ty]) rfl rfl
  | int i => exact std rfl (by simp [D.ty]) rfl rfl
  | str x => exact std rfl (by simp [D.ty]) rfl rfl
  | tup xs => exact std rfl (by simp [D.ty]) rfl rfl
  | lst xs => exact std rfl (by simp [D.ty]) rfl rfl
  | dic kvs => cases e
  | scr ns => cases e
  | obj k fs =>
    simp only [oIsO] at e
    split at e
    · rename_i q
      have e : some (Rv.d (.bl true)) = some z := e
      cases e
      subst q
      cases rx with
      | @obj a C' dx vs _ _ h1 h2 h3 h4 =>
        rw [hC] at h3
        cases h3
        exact ⟨.ref a, .ref C, _, _, _, rfl, .own C, .base (.ins (st.sub _ _ h1) hI.cl hI.ha hI.hn hI.htk hI.hm), hI.me, g2 _ S H st (Ex.refl _) (R.bl _)⟩
    · cases e
theorem d_mulA (ha : DE X c a ma) (hb : DE X c b mb) : DE X c (.BinOp a .Mult b pos) (e2 oMulA ma mb) := ped (pe_op ((op_mulT.or op_mulS).or op_mulAll) ha hb) (ev_op2 o_mulA ev_te ev_te)
theorem s_par2 (i j : Nat) {ms : List E} {px py pt : Pos} {kt k2 : Nat} {pt2 : Pos} (hc : X.calm = true) (hN : X.N.Nodup) (ha : DA X c [a, b] ms) (hi : X.N[i]? = some x := by rfl) (hj : X.N[j]? = some y := by rfl) (hij : i ≠ j := by decide)
    (hx : X.env.scope.names.lookup x = some .local := by rfl) (hy : X.env.scope.names.lookup y = some .local := by rfl) (hw : swappedStores [.Tuple [.Name x px, .Name y py] kt pt] (.Tuple [a, b] k2 pt2) X.env = pure (some [x, y]) := by rfl)
    (hs : swapsWithSole [.Tuple [.Name x px, .Name y py] kt pt] (.Tuple [a, b] k2 pt2) pos.line X.env = pure false := by rfl) : DS X c (.Assign [.Tuple [.Name x px, .Name y py] kt pt] (.Tuple [a, b] k2 pt2) pos) (sPar [i, j] ms) :=
  psd (ps_par hc hN hi hj hij hx hy ha hw hs) (evs_par2 ev_self)
theorem s_par3 (i j l : Nat) {e3 : Expr} {ms : List E} {px py pz pt : Pos} {kt k2 : Nat} {pt2 : Pos} (hc : X.calm = true) (hN : X.N.Nodup) (ha : DA X c [a, b, e3] ms) (hi : X.N[i]? = some x := by rfl) (hj : X.N[j]? = some y := by rfl) (hl : X.N[l]? = some z := by rfl) (hij : i ≠ j := by decide) (hil : i ≠ l := by decide) (hjl : j ≠ l := by decide)
    (hx : X.env.scope.names.lookup x = some .local := by rfl) (hy : X.env.scope.names.lookup y = some .local := by rfl) (hz : X.env.scope.names.lookup z = some .local := by rfl) (hw : swappedStores [.Tuple [.Name x px, .Name y py, .Name z pz] kt pt] (.Tuple [a, b, e3] k2 pt2) X.env = pure (some [x, y, z]) := by rfl)
    (hs : swapsWithSole [.Tuple [.Name x px, .Name y py, .Name z pz] kt pt] (.Tuple [a, b, e3] k2 pt2) pos.line X.env = pure false := by rfl) : DS X c (.Assign [.Tuple [.Name x px, .Name y py, .Name z pz] kt pt] (.Tuple [a, b, e3] k2 pt2) pos) (sPar [i, j, l] ms) :=
  psd (ps_par3 hc hN hi hj hl hij hil hjl hx hy hz ha hw hs) (evs_par3 ev_self)
theorem d_str1 (hg : Gl X "str") (hm : X.mg "str" = none) (ha : DE X c a ma) (he : starEach [a] X.env = (false, eval a X.env) :: starEach [] X.env := by rfl) (hpl : (backTo pos (starEach [] X.env)).any (·.1) = false := by rfl) : DE X c (.Call (.Name "str" p) [a] [] pos) (e1 oStr ma) :=
  d_c1 (call_str_int.or SkE.call_str_str) o_str PyProof.Rows.boot_str (by decide) (by decide) hg hm ha he hpl
theorem d_index {o : Expr} {mo : E} (ho : DE X c o mo) (ha : DE X c a ma) (hp : PE X (.Call (.Attribute o "index" apos) [a] [] p) (tBM X.K "list" (rIndex X.K) (teOf (cxFr X) c mo) (tCons (teOf (cxFr X) c ma) tNil))) : DE X c (.Call (.Attribute o "index" apos) [a] [] p) (eIndex mo ma) := ped hp (ev_index ev_te ev_te)
theorem d_popAt (i : Nat) {px : Pos} (ha : DE X c a ma) (hp : PE X (.Call (.Attribute (.Name x px) "pop" apos) [a] [] p) (tBM X.K "list" rPopAt (tVar i) (tCons (teOf (cxFr X) c ma) tNil))) : DE X c (.Call (.Attribute (.Name x px) "pop" apos) [a] [] p) (ePopAt i ma) := ped hp (ev_popAt ev_te)
theorem i_zipA {tpos : Pos} {elts : List Expr} {kk : Nat} (hg : Gl X "zip") (hm : X.mg "zip" = none) (ha : DE X c a ma) (hb : DE X c b mb) (hs : starEach [a, b] X.env = (false, eval a X.env) :: starEach [b] X.env := by rfl) (hs2 : starEach [b] X.env = (false, eval b X.env) :: starEach [] X.env := by rfl) (hpl : (backTo pos (starEach [b] X.env)).any (·.1) = false := by rfl) :
    DI X c (.Tuple elts kk tpos) (.Call (.Name "zip" p) [a, b] [] pos) (srcZipA ma mb) := pid (RZ.pi_zipA hg hm (pa_cons ha (pa_cons hb pa_nil hs2) hs) hs hpl) (ev_srcZipA ev_te ev_te)
theorem d_tupR1 (hc : X.calm = true) (hg : Gl X "tuple") (hm : X.mg "tuple" = none) (hg2 : Gl X "range") (hm2 : X.mg "range" = none) (ha : DE X c a ma)
    (na : starEach [.Call (.Name "range" p2) [a] [] p3] X.env = (false, eval (.Call (.Name "range" p2) [a] [] p3) X.env) :: starEach [] X.env := by rfl) (hs : starEach [a] X.env = (false, eval a X.env) :: starEach [] X.env := by rfl) : DE X c (.Call (.Name "tuple" p) [.Call (.Name "range" p2) [a] [] p3] [] pos) (eTupR1 ma) :=
  ped (pe_tupRg hc hg hm (prg_1 hg2 hm2 ha hs) na) (ev_tupR1 ev_te)
end
end Dn
namespace Dn
open PySem L2
/-- a method of which nothing is claimed -/
theorem mth_bad {P : Program} {w : World} {K : PySem.W.Frag} {mg : Str → Option Value} {base : Heap} {cls m qual : Str} {st : Stmt} {N ps : List Str} {k : Nat} (T : TopM K mg cls m qual st ps) (S : FnScope N ps (defScope st)) : MthK P w K mg base (k + 1) cls m ps.length (fun _ => .bad) := by
  obtain ⟨C, f, fd, a, d, e, F, r⟩ := T.ex
  refine ⟨⟨C, f, fd, ps, a, d, e, rfl, F.okX S (fun vs H Q E h => h.1) fun cdv A outer s H vs Q E hr h => ?_, r⟩⟩
  obtain ⟨_, _, _, _, _, _, g⟩ := h
  exact g.elim
end Dn
set_option Elab.async false
set_option linter.all false
set_option maxRecDepth 100000
set_option maxHeartbeats 4000000
/-! list(a dict); d.get(k, x) where d is looked at only. -/
namespace Dn
open PySem L2
section
variable {X : Cx}
/-- the keys' own tuples -/
theorem call_list_dN (hc : X.calm = true) : CallR X (.type "list") (fun xs H Q => ∃ d es ds, xs = [V.ref d] ∧ Rd H d (dnO (cxFr X) d es) ∧ Rt (cxFr X) H es ds ∧ ∀ p, H p = none → Q (.ref p) (upd H p (.lst (es.map fun e => V.ref e.2.1)))) := by
  intro pins s σ H xs us Q I r h
  obtain ⟨d, es, ds, rfl, hd, rt, q⟩ := h
  obtain ⟨u, rfl, rx⟩ := r.one
  cases rx
  obtain ⟨z, hs, ks, pn, o, ar, ep, h5, h6, h7, h8, h9, h10⟩ := dn_rd I hd rt
  have l1 : ar.size = ks.length := size_of_entries h8
  have l2 : es.length = ks.length := PN.len pn
  refine PySem.W.kdl_call (kdl_raw hs h6 h7) (I.ok.hd hc) h5 (by omega) fun h' tk acc' c' kp e it => ?_
  have ea : acc'.toList = es.map fun x => Value.ref x.2.1 := by
    have hl : acc'.toList.length = ks.length := by
      rw [Array.length_toList, it.1]
      exact l1
    apply List.ext_getElem?
    intro j
    rw [List.getElem?_map]
    cases hj : acc'.toList[j]? with
    | none =>
      have g1 := List.getElem?_eq_none_iff.mp hj
      have g2 : es.length ≤ j := by omega
      rw [List.getElem?_eq_none g2]
      rfl
    | some v =>
      obtain ⟨en, hen, hv⟩ := it.2 j v (by rw [← Array.getElem?_toList]; exact hj)
      have hjl : j < es.length := by
        have := (List.getElem?_eq_some_iff.mp hj).1
        omega
      obtain ⟨b, hb, e1, e2, _⟩ := paired_get pn (List.getElem?_eq_getElem hjl)
      have w := entry_at h8 j
      rw [hb] at w
      rw [hen] at w
      have w : en = _ := Option.some.inj w
      rw [List.getElem?_eq_getElem hjl]
      simp only [Option.map_some]
      rw [hv, w]
      show some (Value.ref b.2.1) = _
      rw [e2]
  have hv : Vals (es.map fun e => V.ref e.2.1) acc'.toList := by
    rw [ea]
    have go : ∀ es : List (NestedKey × Addr × V), Vals (es.map fun e => V.ref e.2.1) (es.map fun e => Value.ref e.2.1) := fun es => by
      induction es with
      | nil => exact .nil
      | cons a r ih => exact .cons rfl ih
    exact go es
  refine ⟨.ref s.heap.objs.size, upd H s.heap.objs.size (.lst (es.map fun e => V.ref e.2.1)), I.laid (t' := tk) kp (Nat.le_refl _) (show ObjOk X.prog X.w _ _ _ (.lst (es.map fun e => V.ref e.2.1)) from ⟨?_, acc'.toList, c', hv, ?_⟩), rfl, q _ (I.hok.fresh (Nat.le_refl _))⟩
  · rw [List.length_map]
    exact z
  · rw [Array.toArray_toList]
    exact e
end
section
variable {K : Fr} {c : Cxt}
theorem o_listA : Op1 K c (fun v => (fun xs H (Q : VK) => (∃ p ys, xs = [V.ref p] ∧ (SqL K.K H p ys ∨ SqT K.K H p ys) ∧ ∀ l, H l = none → Q (.ref l) (upd H l (.lst ys))) ∨
    ((∃ (a : Addr) (kvs : List (Key × V)), xs = [.ref a] ∧ Rd H a (.dK kvs) ∧ ∀ p, H p = none → Q (.ref p) (upd H p (.lst (kvs.map fun kv => kV kv.1)))) ∨
      ∃ d es ds, xs = [V.ref d] ∧ Rd H d (dnO K d es) ∧ Rt K H es ds ∧ ∀ p, H p = none → Q (.ref p) (upd H p (.lst (es.map fun e => V.ref e.2.1)))) ) [v]) oListA := by
  intro ρ σ S H x vx z Q st rx e k
  by_cases hd : ∃ kvs, x = .dic kvs
  · obtain ⟨ds, rfl⟩ := hd
    simp only [oListA, Option.some.injEq] at e
    subst e
    cases rx with
    | @dic a kvs _ h1 h2 =>
      refine .inr (.inl ⟨a, kvs, rfl, st.subE.rd h1, fun p hp => ?_⟩)
      have go : ∀ {kvs : List (Key × V)} {ds : List (D × D)}, Rk K S.h kvs ds → Rs K S.h (kvs.map fun kv => kV kv.1) (ds.map (·.1)) := fun {kvs ds} h => by
        induction ds generalizing kvs with
        | nil =>
          cases h
          exact .nil
        | cons d ds ih =>
          cases h with
          | cons h1 h2 => exact .cons (r_key _) (ih h2)
      exact new_o st k (go h2) hp
    | @dicT a es _ h0 h1 h2 =>
      refine .inr (.inr ⟨a, es, ds, rfl, st.subE.rd h1, h2.mono st.subE, fun p hp => ?_⟩)
      have go : ∀ {es : List (NestedKey × Addr × V)} {ds : List (D × D)}, Rt K S.h es ds → Rs K S.h (es.map fun e => V.ref e.2.1) (ds.map (·.1)) := fun {es ds} h => by
        induction ds generalizing es with
        | nil =>
          cases h
          exact .nil
        | cons d ds ih =>
          cases h with
          | cons h1 h2 h3 h4 h5 => exact .cons h1 (ih h5)
      exact new_o st k (go h2) hp
  · have e' : oList x = some z := by
      unfold oListA at e
      split at e
      · exact absurd ⟨_, rfl⟩ hd
      · exact e
    exact .inl (o_list ρ σ S H x vx z Q st rx e' k)
theorem o_dictA : Op1 K c (fun v => (fun xs H (Q : VK) => (∃ (a : Addr) (ps : List Addr) (kvs : List (Key × V)), xs = [V.ref a] ∧ SqL K.K H a (ps.map V.ref) ∧ Paired (fun p kv => SqT K.K H p [kV kv.1, kv.2]) ps kvs ∧ ∀ p, H p = none → Q (.ref p) (upd H p (.dK (mergeK [] kvs)))) ∨
    ∃ (a : Addr) (kvs : List (Key × V)), xs = [.ref a] ∧ Rd H a (.dK kvs) ∧ ∀ p, H p = none → Q (.ref p) (upd H p (.dK kvs))) [v]) oDictA := by
  intro ρ σ S H x vx z Q st rx e k
  by_cases hd : ∃ kvs, x = .dic kvs
  · obtain ⟨ds, rfl⟩ := hd
    simp only [oDictA] at e
    split at e
    · rename_i hk
      cases e
      cases rx with
      | @dic a kvs _ h1 h2 => exact .inr ⟨a, kvs, rfl, st.subE.rd h1, fun p hp => new_oD st k h2 hp⟩
      | @dicT a es _ h0 h1 h2 =>
        exfalso
        cases h2 with
        | nil => exact h0 rfl
        | cons q1 q2 q3 q4 q5 =>
          have := List.all_eq_true.mp hk _ List.mem_cons_self
          rw [isKeyT_notKey' q2] at this
          cases this
    · cases e
  · have e' : oDictP x = some z := by
      unfold oDictA at e
      split at e
      · exact absurd ⟨_, rfl⟩ hd
      · exact e
    exact .inl (o_dictP ρ σ S H x vx z Q st rx e' k)
theorem ev_get2P {i : Nat} {tb td : TE} {mb md : E} (hb : Ev K c tb (pV K c) mb) (hd : Ev K c td (pV K c) md) : Ev K c (tDGet2A K (tVar i) tb td) (pV K c) (eGet2P i mb md) := by
  intro ρ σ S H Q st g
  unfold eGet2P at g
  split at g
  · rename_i hi
    have at0 : ∀ {ρ : Env} {S : Sh} {H : Hp}, StR K c ρ σ S H → ∀ {ds : List (D × D)}, (ρ[i]? = some (.own (.dic ds)) ∨ ρ[i]? = some (.bor (.dic ds))) → ∃ l, σ[i]? = some (some (.ref l)) ∧ DicS K S.h H l ds := fun {ρ S H} st {ds} h => by
      rcases h with h | h
      · obtain ⟨l, a1, a2⟩ := st.own i _ h
        exact ⟨l, a1, a2.dicS⟩
      · obtain ⟨l, a1, a2, _⟩ := st.bor i _ h
        exact ⟨l, a1, a2.dicS⟩
    have hi' : ∃ ds, ρ[i]? = some (.own (.dic ds)) ∨ ρ[i]? = some (.bor (.dic ds)) := by
      unfold isDS at hi
      split at hi
      · rename_i ds z
        exact ⟨ds, .inl z⟩
      · rename_i ds z
        exact ⟨ds, .inr z⟩
      · cases hi
    obtain ⟨ds0, h0⟩ := hi'
    obtain ⟨l, hl, hds0⟩ := at0 st h0
    refine ⟨.ref l, hl, l, rfl, hds0.isDA st.subE, ?_⟩
    refine (ev_val hb) ρ σ S H _ st ?_
    unfold bind at g
    cases e : val mb ρ with
    | bad =>
      rw [e] at g
      exact g
    | err er ρ' =>
      rw [e] at g
      exact g
    | ok y ρ1 =>
      rw [e] at g
      intro vy S1 H1 st1 ex1 ry
      refine (ev_val hd) ρ1 σ S1 H1 _ st1 ?_
      simp only at g
      cases e' : val md ρ1 with
      | bad =>
        rw [e'] at g
        exact g
      | err er ρ' =>
        rw [e'] at g
        exact fun cls od S' H' st' ex er => g cls od S' H' st' (ex1.trans ex) er
      | ok z ρ2 =>
        rw [e'] at g
        intro vz S2 H2 st2 ex2 rz
        have fin : ∀ {ds : List (D × D)}, (ρ2[i]? = some (.own (.dic ds)) ∨ ρ2[i]? = some (.bor (.dic ds))) → Goal K c σ S (pV K c σ) (opt (oDGetD (.dic ds) y z) ρ2) Q → ∃ o, DG K H2 l vy o ∧ Q (o.getD vz) H2 := fun {ds} h g => by
          obtain ⟨l', hl', hds⟩ := at0 st2 h
          rw [hl] at hl'
          cases hl'
          obtain ⟨w, ew, gw⟩ := goal_opt g
          simp only [oDGetD] at ew
          split at ew
          · rename_i hk
            cases ew
            rcases hds.get st2.subE (ry.mono ex2) hk with ⟨v1, n⟩ | ⟨u, d, v1, v2, r⟩
            · refine ⟨none, v1, ?_⟩
              rw [n] at gw
              exact gw vz S2 H2 st2 (ex1.trans ex2) rz
            · refine ⟨some u, v1, ?_⟩
              rw [v2] at gw
              exact gw u S2 H2 st2 (ex1.trans ex2) r
          · cases ew
        simp only at g
        split at g
        · rename_i ds hds
          exact fin (.inl hds) g
        · rename_i ds hds
          exact fin (.inr hds) g
        · exact g.elim
  · exact g.elim
end
section
variable {X : Cx} {c : Cxt} {a b d : Expr} {pos p apos px : Pos} {ma mb md : E} {x : Str}
theorem d_listA (hc : X.calm = true) (hg : Gl X "list") (hm : X.mg "list" = none) (ha : DE X c a ma) (he : starEach [a] X.env = (false, eval a X.env) :: starEach [] X.env := by rfl) (hpl : (backTo pos (starEach [] X.env)).any (·.1) = false := by rfl) : DE X c (.Call (.Name "list" p) [a] [] pos) (e1 oListA ma) :=
  d_c1 (call_list_of.or ((call_listD hc).or (call_list_dN hc))) o_listA PyProof.Rows.boot_list (by decide) (by decide) hg hm ha he hpl
theorem d_dictA (hc : X.calm = true) (hg : Gl X "dict") (hm : X.mg "dict" = none) (ha : DE X c a ma) (he : starEach [a] X.env = (false, eval a X.env) :: starEach [] X.env := by rfl) (hpl : (backTo pos (starEach [] X.env)).any (·.1) = false := by rfl) : DE X c (.Call (.Name "dict" p) [a] [] pos) (e1 oDictA ma) :=
  d_c1 ((call_dictP hc).or call_dictD) o_dictA PyProof.Rows.boot_dict (by decide) (by decide) hg hm ha he hpl
theorem d_get2P (i : Nat) (hu : X.A.units + 65 < cLine) (hb : DE X c b mb) (hd : DE X c d md) (hN : X.N[i]? = some x := by rfl) (hv : Vis X.env.scope x := by first | exact Or.inl rfl | exact Or.inr (Or.inl rfl) | exact Or.inr (Or.inr rfl)) (hdb : (x == ("__debug__" : Str)) = false := by decide)
    (hcd : (x == ("__classdict__" : Str)) = false := by decide) (m : M2 X (.Name x px) "get" apos b d pos := by exact ⟨rfl, rfl, rfl, rfl⟩) : DE X c (.Call (.Attribute (.Name x px) "get" apos) [b, d] [] pos) (eGet2P i mb md) :=
  ped (pe_dget2A (by omega) (pe_var hN hv hdb hcd) hb hd m) (ev_get2P ev_te ev_te)
end
end Dn
set_option Elab.async false
set_option linter.all false
set_option maxRecDepth 100000
set_option maxHeartbeats 4000000
/-! xs.extend(a tuple). -/
namespace Dn
open PySem L2 PySem.Spec PyProof.Rows
theorem ext_tup (l : Addr) (xs : Array Value) (n : Nat) (b : Addr) (ys : Array Value) (m : Nat) (dd : Option Addr) (sl : Array (Option Value)) (h0 : ¬(!xs.isEmpty && Builtin.List.listTooLong (xs.size + ys.size)) = true) (h1 : xs.size ≤ sizeLine) (h2 : xs.size + ys.size ≤ sizeLine + 1) :
    Meets (Builtin.«list.extend» ⟨[.ref l, .ref b], []⟩) (fun _ R s => s.heap.get? l = some { cls := .type "list", dict := none, data := .seq xs n, slots := #[] } ∧ s.heap.get? b = some { cls := .type "tuple", dict := dd, data := .seq ys m, slots := sl } ∧
      R (.ok (.ret Value.none)) { s with heap := s.heap.update l (Obj.mapSeq fun x => x ++ ys), toks := s.toks }) :=
  .of_wp fun prog w A R s h => by
    obtain ⟨hp, g, d, tk, os⟩ := s
    obtain ⟨hl, hb, h⟩ := h
    have f1 := AutoSeq1.idx_int
    have f2 := AutoSeq1.sub_tuple_tuple
    have f3 := AutoSeq1.sub_list_list
    have f4 := AutoSeq1.sub_tuple_list
    have f5 := AutoSeq1.sub_list_tuple
    have hz' : (xs ++ ys).size ≤ sizeLine + 1 := by
      rw [Array.size_append]
      exact h2
    wp_walk using (wpAny_updateSeq hl rfl (hz := h1) (_hz' := hz')), wpAny_loadPart' hl, wpAny_loadPart' hb
    exact ⟨_, rfl, h⟩
def rExtA (K : PySem.W.Frag) : V → List V → Hp → VK → Prop := fun x vs H Q => rExtend x vs H Q ∨ ∃ l b xs zs, x = .ref l ∧ vs = [.ref b] ∧ H l = some (.lst xs) ∧ SqT K H b zs ∧ xs.length + zs.length ≤ sizeLine ∧ Q .non (upd H l (.lst (xs ++ zs)))
theorem mt_extA {X : Cx} : MtM X "list.extend" (rExtA X.K) := by
  intro pins s σ H x vs v us Q I rx rv h
  rcases h with h | h
  · exact mt_extend pins s σ H x vs v us Q I rx rv h
  · obtain ⟨l, b, xs, zs, rfl, rfl, hH, hB, hz, q⟩ := h
    cases rx
    obtain ⟨u, rfl, ru⟩ := rv.one
    cases ru
    obtain ⟨z, its, n, r, hl, e⟩ := I.lstM hH
    obtain ⟨its2, r2, ⟨⟨cls, dd, data, sl⟩, e2, hc, m, hd⟩, z2⟩ := I.tuple hB
    simp only at hc hd
    subst hc hd
    have l2 := r2.length
    have fit : its.toArray.size + its2.toArray.size ≤ sizeLine := by
      rw [List.size_toArray, List.size_toArray]
      omega
    have nl : ¬ (!its.toArray.isEmpty && Builtin.List.listTooLong (its.toArray.size + its2.toArray.size)) = true := by
      rw [notLongL fit, Bool.and_false]
      exact Bool.false_ne_true
    refine call_meets F.slot_list_extend ⟨_, e, rfl⟩ F.entry_list_extend (F.args_list_extend_2 _ _) (ext_tup l its.toArray n b its2.toArray m dd sl nl (by rw [List.size_toArray]; omega) (by omega)) ⟨e, e2, ?_⟩
    exact ⟨.non, _, I.lset (its' := its ++ its2) hH e (by simp) (r.append r2) (by rw [List.length_append]; omega), rfl, q⟩
section
variable {K : Fr} {c : Cxt}
theorem evs_extA {te : TE} {m : E} {i : Nat} (h : Ev K c te (pV K c) m) : EvS K c (tDrop (tBM K.K "list" (rExtA K.K) (tVar i) (tCons te tNil))) (sExtA i m) := by
  intro ρ σ S H D st g
  unfold sExtA at g
  split at g
  · rename_i hL
    obtain ⟨l, xs, h1, h2⟩ := st.lstAt hL
    refine ⟨.ref l, h1, ty_list h2, run_at (t := te) (ev_val h) st g fun d v ρ' S' H' st' r g' => ?_⟩
    have r : R K S'.h v d := r
    have fin : ∀ {zs : List V} {ds : List Dn.D}, Rs K S'.h zs ds → GoalS K c S' (chg i (cExt ds) ρ') D → ∃ ys, H' l = some (.lst ys) ∧ ys.length + zs.length ≤ sizeLine ∧ D.nx σ (upd H' l (.lst (ys ++ zs))) := fun {zs ds} q2 g' => by
      obtain ⟨l', k, k', e1, e2, e3, e4⟩ := evs_chg st' g'
      rw [h1] at e1
      cases e1
      cases k with
      | lst es =>
        obtain ⟨p, ys, a', b⟩ := e2
        simp only [cExt] at e3
        split at e3
        · rename_i hl
          cases e3
          exact ⟨ys, a', Evl.sz_of (by rw [b.length, q2.length]; exact hl), e4 _ ⟨p, _, upd_same, b.append q2⟩⟩
        · cases e3
      | _ => cases e3
    cases r with
    | @lst a zs ds q1 q2 =>
      obtain ⟨ys, a1, a2, a3⟩ := fin q2 g'
      exact .inl ⟨l, a, ys, zs, rfl, rfl, a1, st'.sub _ _ q1, a2, a3⟩
    | @tup a zs ds q1 q2 =>
      obtain ⟨ys, a1, a2, a3⟩ := fin q2 g'
      exact .inr ⟨l, a, ys, zs, rfl, rfl, a1, ex_t st'.subE q1, a2, a3⟩
    | _ => exact g'.elim
  · exact g.elim
end
section
variable {X : Cx} {c : Cxt} {p pos : Pos}
theorem s_extA (i : Nat) {x : Str} {px ap : Pos} {e : Expr} {m : E} (h : DE X c e m) (hp : PE X (.Call (.Attribute (.Name x px) "extend" ap) [e] [] p) (tBM X.K "list" (rExtA X.K) (tVar i) (tCons (teOf (cxFr X) c m) tNil))) (hs : swapsWith (.Call (.Attribute (.Name x px) "extend" ap) [e] [] p) none pos.line X.env = pure false := by rfl) :
    DS X c (.Expr (.Call (.Attribute (.Name x px) "extend" ap) [e] [] p) pos) (sExtA i m) := psd (ps_expr hp hs) (evs_extA ev_te)
end
end Dn
set_option linter.all false
/-! Closed runs are reckoned by the kernel: equality of what comes out. -/
namespace Dn
open PySem
mutual
def beqD : D → D → Bool
  | .non, .non => true
  | .bl a, .bl b => a == b
  | .int a, .int b => decide (a = b)
  | .str a, .str b => decide (a = b)
  | .tup xs, .tup ys => beqDs xs ys
  | .lst xs, .lst ys => beqDs xs ys
  | .dic xs, .dic ys => beqPs xs ys
  | .scr a, .scr b => decide (a = b)
  | .obj a xs, .obj b ys => decide (a = b) && beqFs xs ys
  | _, _ => false
def beqDs : List D → List D → Bool
  | [], [] => true
  | x :: xs, y :: ys => beqD x y && beqDs xs ys
  | _, _ => false
def beqP : D × D → D × D → Bool
  | (a, b), (c, d) => beqD a c && beqD b d
def beqPs : List (D × D) → List (D × D) → Bool
  | [], [] => true
  | x :: xs, y :: ys => beqP x y && beqPs xs ys
  | _, _ => false
def beqF : Str × D → Str × D → Bool
  | (a, b), (c, d) => decide (a = c) && beqD b d
def beqFs : List (Str × D) → List (Str × D) → Bool
  | [], [] => true
  | x :: xs, y :: ys => beqF x y && beqFs xs ys
  | _, _ => false
end
mutual
theorem beqD_eq : ∀ {a b : D}, beqD a b = true → a = b
  | .non, b, h => by cases b <;> first | rfl | (simp [beqD] at h)
  | .bl a, b, h => by cases b <;> first | (simp [beqD] at h; done) | (simp [beqD] at h; rw [h])
  | .int a, b, h => by cases b <;> first | (simp [beqD] at h; done) | (simp [beqD] at h; rw [h])
  | .str a, b, h => by cases b <;> first | (simp [beqD] at h; done) | (simp [beqD] at h; rw [h])
  | .scr a, b, h => by cases b <;> first | (simp [beqD] at h; done) | (simp [beqD] at h; rw [h])
  | .tup xs, b, h => by
    cases b with
    | tup ys => simp only [beqD] at h; rw [beqDs_eq h]
    | _ => simp [beqD] at h
  | .lst xs, b, h => by
    cases b with
    | lst ys => simp only [beqD] at h; rw [beqDs_eq h]
    | _ => simp [beqD] at h
  | .dic xs, b, h => by
    cases b with
    | dic ys => simp only [beqD] at h; rw [beqPs_eq h]
    | _ => simp [beqD] at h
  | .obj k xs, b, h => by
    cases b with
    | obj m ys =>
      simp only [beqD, Bool.and_eq_true, decide_eq_true_eq] at h
      rw [h.1, beqFs_eq h.2]
    | _ => simp [beqD] at h
theorem beqDs_eq : ∀ {xs ys : List D}, beqDs xs ys = true → xs = ys
  | [], [], _ => rfl
  | x :: xs, y :: ys, h => by
    simp only [beqDs, Bool.and_eq_true] at h
    rw [beqD_eq h.1, beqDs_eq h.2]
  | [], _ :: _, h => by simp [beqDs] at h
  | _ :: _, [], h => by simp [beqDs] at h
theorem beqP_eq : ∀ {p q : D × D}, beqP p q = true → p = q
  | (a, b), (c, d), h => by
    simp only [beqP, Bool.and_eq_true] at h
    rw [beqD_eq h.1, beqD_eq h.2]
theorem beqPs_eq : ∀ {xs ys : List (D × D)}, beqPs xs ys = true → xs = ys
  | [], [], _ => rfl
  | x :: xs, y :: ys, h => by
    simp only [beqPs, Bool.and_eq_true] at h
    rw [beqP_eq h.1, beqPs_eq h.2]
  | [], _ :: _, h => by simp [beqPs] at h
  | _ :: _, [], h => by simp [beqPs] at h
theorem beqF_eq : ∀ {p q : Str × D}, beqF p q = true → p = q
  | (a, b), (c, d), h => by
    simp only [beqF, Bool.and_eq_true, decide_eq_true_eq] at h
    rw [h.1, beqD_eq h.2]
theorem beqFs_eq : ∀ {xs ys : List (Str × D)}, beqFs xs ys = true → xs = ys
  | [], [], _ => rfl
  | x :: xs, y :: ys, h => by
    simp only [beqFs, Bool.and_eq_true] at h
    rw [beqF_eq h.1, beqFs_eq h.2]
  | [], _ :: _, h => by simp [beqFs] at h
  | _ :: _, [], h => by simp [beqFs] at h
end
/-- objects that nobody knows: lists and dicts of values -/
def beqC : C → C → Bool
  | .lst xs, .lst ys => beqDs xs ys
  | .dic xs, .dic ys => beqPs xs ys
  | _, _ => false
theorem beqC_eq {a b : C} (h : beqC a b = true) : a = b := by
  cases a <;> cases b <;> first | (simp [beqC] at h; done) | (simp only [beqC] at h; first | rw [beqDs_eq h] | rw [beqPs_eq h])
def beqRv : Rv → Rv → Bool
  | .d a, .d b => beqD a b
  | .o a, .o b => beqC a b
  | _, _ => false
theorem beqRv_eq {a b : Rv} (h : beqRv a b = true) : a = b := by
  cases a <;> cases b <;> first | (simp [beqRv] at h; done) | (simp only [beqRv] at h; first | rw [beqD_eq h] | rw [beqC_eq h])
def beqE (a b : Err) : Bool := decide (a.cls = b.cls) && beqFs a.args b.args
theorem beqE_eq {a b : Err} (h : beqE a b = true) : a = b := by
  cases a
  cases b
  simp only [beqE, Bool.and_eq_true, decide_eq_true_eq] at h
  rw [h.1, beqFs_eq h.2]
def beqSl : Slot → Slot → Bool
  | .un, .un => true
  | .val a, .val b => beqD a b
  | .own a, .own b => beqC a b
  | .bor a, .bor b => beqC a b
  | _, _ => false
theorem beqSl_eq {a b : Slot} (h : beqSl a b = true) : a = b := by
  cases a <;> cases b <;> first | rfl | (simp [beqSl] at h; done) | (simp only [beqSl] at h; first | rw [beqD_eq h] | rw [beqC_eq h])
def beqSls : List Slot → List Slot → Bool
  | [], [] => true
  | x :: xs, y :: ys => beqSl x y && beqSls xs ys
  | _, _ => false
theorem beqSls_eq : ∀ {xs ys : List Slot}, beqSls xs ys = true → xs = ys
  | [], [], _ => rfl
  | x :: xs, y :: ys, h => by
    simp only [beqSls, Bool.and_eq_true] at h
    rw [beqSl_eq h.1, beqSls_eq h.2]
  | [], _ :: _, h => by simp [beqSls] at h
  | _ :: _, [], h => by simp [beqSls] at h
def beqR : Res Rv → Res Rv → Bool
  | .err a r, .err b s => beqE a b && beqSls r s
  | .ok a r, .ok b s => beqRv a b && beqSls r s
  | _, _ => false
/-- a closed run -/
theorem run_eq {a b : Res Rv} (h : beqR a b = true) : a = b := by
  cases a <;> cases b <;> first | (simp [beqR] at h; done) | skip
  · simp only [beqR, Bool.and_eq_true] at h
    rw [beqE_eq h.1, beqSls_eq h.2]
  · simp only [beqR, Bool.and_eq_true] at h
    rw [beqRv_eq h.1, beqSls_eq h.2]
/-- many closed runs at once -/
theorem run_all {α : Type} {xs : List α} {f g : α → Res Rv} (h : (xs.all fun x => beqR (f x) (g x)) = true) : ∀ x ∈ xs, f x = g x := fun x hx => run_eq (List.all_eq_true.mp h x hx)
@[simp] theorem takeB_inl (ρ : Env) (d : D) (r : List (D ⊕ Nat)) (sl : List Slot) : takeB ρ (.inl d :: r) sl = takeB ρ r sl.tail := by
  cases sl <;> simp only [takeB, List.tail]
@[simp] theorem takeB_nil (ρ : Env) (sl : List Slot) : takeB ρ [] sl = ρ := by simp only [takeB]
@[simp] theorem beq_lit (a b : String) : (Str.ofString a == Str.ofString b) = decide (a = b) := by
  by_cases h : a = b
  · subst h
    simp
  · rw [decide_eq_false h]
    exact beq_eq_false_iff_ne.mpr fun z => h ((ofString_inj a b).mp z)
theorem fn_err {n : Nat} {b : S} {as : List Slot} {e : Err} {ρ : Env} (h : b (as ++ List.replicate (n - as.length) .un) = .err e ρ) : fn n b as = .err e (outE as.length ρ) := by
  simp only [fn, h]
theorem fn_nx {n : Nat} {b : S} {as : List Slot} {ρ : Env} (h : b (as ++ List.replicate (n - as.length) .un) = .nx ρ) : fn n b as = .ok (.d .non) (outE as.length ρ) := by
  simp only [fn, h]
end Dn
set_option linter.all false
/-! The denotations of the defs of k06_bounds_of_programs. -/
namespace Dn.k06_bounds_of_programs
open PySem Dn
def v_GREATEST_INTEGER : D := .int 1000
def v_LONGEST_SYMBOL : D := .int 12
def v_LONGEST_VARIABLE : D := .int 8
def v_LETTERS : D := .str "abcdefghijklmnopqrstuvwxyz"
def v_VARIABLE_CHARACTERS : D := .str "abcdefghijklmnopqrstuvwxyz0123456789"
def v_SYMBOL_CHARACTERS : D := .str "abcdefghijklmnopqrstuvwxyz0123456789_"
def v_RESERVED : D := .tup [.str "kind", .str "relation", .str "fact", .str "rule", .str "if", .str "not", .str "same", .str "differ", .str "count", .str "sum", .str "least", .str "greatest"]
def v_COMPARISONS : D := .tup [.str "equal", .str "less", .str "atmost"]
def v_TERM_COMPARISONS : D := .tup [.str "same", .str "differ"]
def v_OPERATIONS : D := .tup [.str "count", .str "sum", .str "least", .str "greatest"]
def v_AGGREGATE_WORDS : D := .tup [.str "equal", .str "less", .str "atmost", .str "more", .str "atleast"]
def v_OPERATORS : D := .tup [.str "plus", .str "minus", .str "times"]
def v_MOST_DEPTH : D := .int 4
def v_MOST_VARIABLES : D := .int 5
def v_MOST_OWN_VARIABLES : D := .int 3
def v_MOST_INNER_LITERALS : D := .int 3
def v_MOST_KINDS : D := .int 8
def v_MOST_RELATIONS : D := .int 12
def v_MOST_RULES : D := .int 24
def v_MOST_FACTS : D := .int 200
def v_MOST_VALUES : D := .int 12
def v_MOST_COLUMNS : D := .int 4
def v_MOST_LITERALS : D := .int 6
def b__law_stream : S := sRet (eLst [e1 oList (eV 0), eC (.int 0), eC (.int 0)])
def g__law_stream : FD := fn 1 b__law_stream
def k3__law_next : S := sRet (eMv 4)
def k2__law_next : S := sSeq (sSetI 0 (eC (.int 1)) (e2 oDiv (ePk2 oIxD 0 (eC (.int 1))) (eV 1))) k3__law_next
def k1__law_next : S := sSeq (sAsg 4 (e2 oMod (e1 oInt (ePk2 oIxD 0 (eC (.int 1)))) (eV 1))) k2__law_next
def b__law_next : S := sSeq (sIf (t2 oEq (ePk2 oIxD 0 (eC (.int 1))) (eC (.int 0))) (sSeq (sAsg 2 (ePk2 oIxD 0 (eC (.int 2))))
    (sSeq (sAsg 3 (e2 oAdd (eC (.int 7)) (eV 2)))
    (sSeq (sIf (t2 oLt (eV 2) (e1 oLen (ePk2 oIxD 0 (eC (.int 0))))) (sAsg 3 (e1 oAbs (e2 oIxA (ePk2 oIxD 0 (eC (.int 0))) (eV 2)))) (sNil))
    (sSeq (sIf (t2 oLt (eV 3) (e2 oPow (eC (.int 10)) (eC (.int 18)))) (sSeq (sAsg 3 (e2 oMod (e1 oInt (e2 oAdd (e2 oAdd (e2 oMul (eV 3) (eC (.int 48271))) (e2 oMul (eV 2) (eC (.int 69621)))) (eC (.int 11)))) (eC (.int 2147483647))))
    (sAsg 3 (e2 oAdd (e2 oMul (e2 oMod (e1 oInt (e2 oAdd (e2 oMul (eV 3) (eC (.int 16807))) (eC (.int 13)))) (eC (.int 2147483647))) (eC (.int 65537))) (eV 3)))) (sNil))
    (sSeq (sSetI 0 (eC (.int 1)) (eV 3))
    (sSetI 0 (eC (.int 2)) (e2 oAdd (eV 2) (eC (.int 1))))))))) (sNil)) k1__law_next
def g__law_next : FD := fn 5 b__law_next
def l1__law_deep : S := sAsg 1 (eTup [eC (.str "plus"), eV 1, eTup [eC (.str "int"), eV 2]])
def k2__law_deep : S := sRet (eMv 1)
def k1__law_deep : S := sSeq (sFor (srcR1 (e2 oSub (eV 0) (eC (.int 1)))) (gV 2) l1__law_deep) k2__law_deep
def b__law_deep : S := sSeq (sAsg 1 (eTup [eC (.str "int"), eC (.int 1)])) k1__law_deep
def g__law_deep : FD := fn 3 b__law_deep
def c1__law_case : E := eTup [e2 oAdd (eC (.str "k")) (e1 oStr (eV 9)), eTup [eC (.int 1)]]
def c2__law_case : E := eTup [e2 oAdd (eC (.str "r")) (e1 oStr (eV 9)), eTup []]
def c3__law_case : E := eTup [eC (.str "atom"), eC (.str "p"), eTup [e2 oAdd (eC (.str "?v")) (e1 oStr (eV 9))]]
def c4__law_case : E := eTup [eC (.str "s"), eTup [e2 oDiv (eV 9) (eC (.int 144)), e2 oMod (e1 oInt (e2 oDiv (eV 9) (eC (.int 12)))) (eC (.int 12)), e2 oMod (e1 oInt (eV 9)) (eC (.int 12))]]
def c5__law_case : E := e2 oAdd (eC (.str "?o")) (e1 oStr (eV 9))
def k19__law_case : S := sRet (eTup [eV 2, eTup [eTup [e2 oMulS (eC (.str "a")) (e2 oAdd (eC (.int 12)) (eV 1)), eTup []]], eTup [], eTup [], eTup [eC (.str "relations"), eC (.int 0)], eC (.str "name")])
def k18__law_case : S := sSeq (sIf (t2 oEq (eV 0) (eC (.int 15))) (sSeq (sAsg 8 (e2 oAdd (eC (.str "?")) (e2 oMulS (eC (.str "v")) (e2 oAdd (eC (.int 8)) (eV 1)))))
    (sRet (eTup [eV 2, eV 3, eTup [eTup [eC (.str "p"), eTup [eV 8], eTup []]], eTup [], eTup [eC (.str "rules"), eC (.int 0)], eC (.str "form")]))) (sNil)) k19__law_case
def k17__law_case : S := sSeq (sIf (t2 oEq (eV 0) (eC (.int 14))) (sRet (eTup [eTup [eTup [eC (.str "n"), eTup [eC (.int 7), e2 oAdd (eC (.int 1000)) (eV 1)]]], eTup [], eTup [], eTup [], eTup [eC (.str "kinds"), eC (.int 0)], eC (.str "values")])) (sNil)) k18__law_case
def k16__law_case : S := sSeq (sIf (t2 oEq (eV 0) (eC (.int 13))) (sRet (eTup [eTup [eTup [eC (.str "n"), eTup [e2 oSub (e2 oSub (eC (.int 0)) (eC (.int 1000))) (eV 1), eC (.int 7)]]], eTup [], eTup [], eTup [], eTup [eC (.str "kinds"), eC (.int 0)], eC (.str "values")])) (sNil)) k17__law_case
def k15__law_case : S := sSeq (sIf (t2 oEq (eV 0) (eC (.int 12))) (sSeq (sAsg 5 (eTup [eTup [eC (.str "less"), eTup [eC (.str "int"), e2 oAdd (eC (.int 1000)) (eV 1)], eTup [eC (.str "int"), eC (.int 0)]]]))
    (sRet (eTup [eV 2, eV 3, eTup [eTup [eC (.str "r"), eTup [], eV 5]], eTup [], eTup [eC (.str "rules"), eC (.int 0), eC (.int 0)], eC (.str "range")]))) (sNil)) k16__law_case
def k14__law_case : S := sSeq (sIf (t2 oEq (eV 0) (eC (.int 11))) (sSeq (sAsg 5 (eTup [eTup [eC (.str "less"), eTup [eC (.str "int"), e2 oSub (e2 oSub (eC (.int 0)) (eC (.int 1000))) (eV 1)], eTup [eC (.str "int"), eC (.int 0)]]]))
    (sRet (eTup [eV 2, eV 3, eTup [eTup [eC (.str "r"), eTup [], eV 5]], eTup [], eTup [eC (.str "rules"), eC (.int 0), eC (.int 0)], eC (.str "range")]))) (sNil)) k15__law_case
def k13__law_case : S := sSeq (sIf (t2 oEq (eV 0) (eC (.int 10))) (sSeq (sAsg 5 (eTup [eTup [eC (.str "less"), eCall g__law_deep [.v (e2 oAdd (eC (.int 4)) (eV 1))], eTup [eC (.str "int"), eC (.int 0)]]]))
    (sRet (eTup [eV 2, eV 3, eTup [eTup [eC (.str "r"), eTup [], eV 5]], eTup [], eTup [eC (.str "rules"), eC (.int 0), eC (.int 0)], eC (.str "deep")]))) (sNil)) k14__law_case
def k12__law_case : S := sSeq (sIf (t2 oEq (eV 0) (eC (.int 9))) (sSeq (sAsg 5 (eTup [eTup [eC (.str "count"), eC (.str "less"), eTup [eC (.str "int"), eC (.int 1)], eTup [eC (.str "?a")], e2 oMulA (eTup [eV 4]) (e2 oAdd (eC (.int 3)) (eV 1))]]))
    (sRet (eTup [eV 2, eV 3, eTup [eTup [eC (.str "r"), eTup [], eV 5]], eTup [], eTup [eC (.str "rules"), eC (.int 0), eC (.int 0)], eC (.str "many")]))) (sNil)) k13__law_case
def k11__law_case : S := sSeq (sIf (t2 oEq (eV 0) (eC (.int 8))) (sSeq (sAsg 7 (e1 oTuple (eLc [9] (srcR1 (e2 oAdd (eC (.int 3)) (eV 1))) (gV 9) (tYes) (c5__law_case))))
    (sSeq (sAsg 5 (eTup [eTup [eC (.str "count"), eC (.str "less"), eTup [eC (.str "int"), eC (.int 1)], eV 7, eTup [eTup [eC (.str "atom"), eC (.str "s"), eSl (eV 7) (pNone) (pSome (eC (.int 3)))]]]]))
    (sRet (eTup [eV 2, eTup [eTup [eC (.str "s"), e2 oMulA (eTup [eC (.str "n")]) (eC (.int 3))], eTup [eC (.str "r"), eTup []]], eTup [eTup [eC (.str "r"), eTup [], eV 5]], eTup [], eTup [eC (.str "rules"), eC (.int 0), eC (.int 0)], eC (.str "variables")])))) (sNil)) k12__law_case
def k10__law_case : S := sSeq (sIf (t2 oEq (eV 0) (eC (.int 7))) (sSeq (sAsg 6 (eLc [9] (srcR1 (e2 oAdd (eC (.int 200)) (eV 1))) (gV 9) (tYes) (c4__law_case)))
    (sRet (eTup [eV 2, eTup [eTup [eC (.str "s"), e2 oMulA (eTup [eC (.str "n")]) (eC (.int 3))]], eTup [], e1 oTuple (eV 6), eTup [eC (.str "facts")], eC (.str "many")]))) (sNil)) k11__law_case
def k9__law_case : S := sSeq (sIf (t2 oEq (eV 0) (eC (.int 6))) (sSeq (sAsg 5 (e1 oTuple (eLc [9] (srcR1 (eC (.int 5))) (gV 9) (tYes) (c3__law_case))))
    (sRet (eTup [eV 2, e2 oAdd (eV 3) (eTup [eTup [eC (.str "s"), eTup [eC (.str "n")]]]), eTup [eTup [eC (.str "s"), eTup [eIf (t2 oEq (eV 1) (eC (.int 0))) (eC (.str "?v4")) (eC (.str "?v5"))], eV 5]], eTup [], eTup [eC (.str "rules"), eC (.int 0)], eC (.str "variables")]))) (sNil)) k10__law_case
def k8__law_case : S := sSeq (sIf (t2 oEq (eV 0) (eC (.int 5))) (sRet (eTup [eV 2, eV 3, eTup [eTup [eC (.str "r"), eTup [], e2 oMulA (eTup [eTup [eC (.str "atom"), eC (.str "r"), eTup []]]) (e2 oAdd (eC (.int 6)) (eV 1))]], eTup [], eTup [eC (.str "rules"), eC (.int 0)], eC (.str "many")])) (sNil)) k9__law_case
def k7__law_case : S := sSeq (sIf (t2 oEq (eV 0) (eC (.int 4))) (sRet (eTup [eV 2, eV 3, e2 oMulA (eTup [eTup [eC (.str "r"), eTup [], eTup []]]) (e2 oAdd (eC (.int 24)) (eV 1)), eTup [], eTup [eC (.str "rules")], eC (.str "many")])) (sNil)) k8__law_case
def k6__law_case : S := sSeq (sIf (t2 oEq (eV 0) (eC (.int 3))) (sRet (eTup [eV 2, eTup [eTup [eC (.str "p"), e2 oMulA (eTup [eC (.str "n")]) (e2 oAdd (eC (.int 4)) (eV 1))]], eTup [], eTup [], eTup [eC (.str "relations"), eC (.int 0)], eC (.str "columns")])) (sNil)) k7__law_case
def k5__law_case : S := sSeq (sIf (t2 oEq (eV 0) (eC (.int 2))) (sRet (eTup [eV 2, e1 oTuple (eLc [9] (srcR1 (e2 oAdd (eC (.int 12)) (eV 1))) (gV 9) (tYes) (c2__law_case)), eTup [], eTup [], eTup [eC (.str "relations")], eC (.str "many")])) (sNil)) k6__law_case
def k4__law_case : S := sSeq (sIf (t2 oEq (eV 0) (eC (.int 1))) (sRet (eTup [eTup [eTup [eC (.str "n"), eTupR1 (e2 oAdd (eC (.int 12)) (eV 1))]], eTup [], eTup [], eTup [], eTup [eC (.str "kinds"), eC (.int 0)], eC (.str "values")])) (sNil)) k5__law_case
def k3__law_case : S := sSeq (sIf (t2 oEq (eV 0) (eC (.int 0))) (sRet (eTup [e1 oTuple (eLc [9] (srcR1 (e2 oAdd (eC (.int 8)) (eV 1))) (gV 9) (tYes) (c1__law_case)), eTup [], eTup [], eTup [], eTup [eC (.str "kinds")], eC (.str "many")])) (sNil)) k4__law_case
def k2__law_case : S := sSeq (sAsg 4 (eTup [eC (.str "atom"), eC (.str "p"), eTup [eC (.str "?a")]])) k3__law_case
def k1__law_case : S := sSeq (sAsg 3 (eTup [eTup [eC (.str "p"), eTup [eC (.str "n")]], eTup [eC (.str "r"), eTup []]])) k2__law_case
def b__law_case : S := sSeq (sAsg 2 (eTup [eTup [eC (.str "n"), eTupR1 (eC (.int 12))]])) k1__law_case
def g__law_case : FD := fn 10 b__law_case
def k1_check_part : S := sIf (t2 oGt (e1 oLen (eV 1)) (eV 2)) (sRaise "BadProgram" ["where", "why"] [eTup [eV 0], eC (.str "many")]) (sNil)
def b_check_part : S := sSeq (sIf (tNot (tTr (e1 (oIsi "tuple") (eV 1)))) (sRaise "BadProgram" ["where", "why"] [eTup [eV 0], eC (.str "form")]) (sNil)) k1_check_part
def g_check_part : FD := fn 3 b_check_part
def b_is_named : S := sRet (eAnd (e1 (oIsi "tuple") (eV 0)) (eAnd (eT (t2 oEq (e1 oLen (eV 0)) (eC (.int 2)))) (eAnd (e1 (oIsi "str") (ePk2 oIxD 0 (eC (.int 0)))) (e1 (oIsi "tuple") (ePk2 oIxD 0 (eC (.int 1)))))))
def g_is_named : FD := fn 1 b_is_named
def c1_is_made_of : E := eT (t2k oInA 1 (eV 2))
def b_is_made_of : S := sRet (e1 oAll (eLc [2] (srcS (eV 0)) (gV 2) (tYes) (c1_is_made_of)))
def g_is_made_of : FD := fn 3 b_is_made_of
def k1_is_symbol : S := sRet (eAnd (eT (t2 oInA (ePk2 oIxD 0 (eC (.int 0))) (eC v_LETTERS))) (eAnd (eCall g_is_made_of [.v (eV 0), .v (eC v_SYMBOL_CHARACTERS)]) (eT (t2 oNotInA (eV 0) (eC v_RESERVED)))))
def b_is_symbol : S := sSeq (sIf (tOr (tNot (tTr (e1 (oIsi "str") (eV 0)))) (tNot (eChain oLe oLe (eC (.int 1)) (e1 oLen (eV 0)) (eC v_LONGEST_SYMBOL)))) (sRet (eC (.bl false))) (sNil)) k1_is_symbol
def g_is_symbol : FD := fn 1 b_is_symbol
def k1_check_name : S := sIf (t2k oInA 2 (eV 1)) (sRaise "BadProgram" ["where", "why"] [eV 0, eC (.str "duplicate")]) (sNil)
def b_check_name : S := sSeq (sIf (tNot (tTr (eCall g_is_symbol [.v (eV 1)]))) (sRaise "BadProgram" ["where", "why"] [eV 0, eC (.str "name")]) (sNil)) k1_check_name
def g_check_name : FD := fn 3 b_check_name
def b_is_integer : S := sRet (eAnd (e1 (oIsi "int") (eV 0)) (eNot (e1 (oIsi "bool") (eV 0))))
def g_is_integer : FD := fn 1 b_is_integer
def b_is_in_range : S := sRet (eT (t2 oLe (e1 oAbs (eV 0)) (eC v_GREATEST_INTEGER)))
def g_is_in_range : FD := fn 1 b_is_in_range
def k1_is_value : S := sRet (eCall g_is_symbol [.v (eV 0)])
def b_is_value : S := sSeq (sIf (tTr (eCall g_is_integer [.v (eV 0)])) (sRet (eCall g_is_in_range [.v (eV 0)])) (sNil)) k1_is_value
def g_is_value : FD := fn 1 b_is_value
def k1_value_key : S := sRet (eTup [eC (.int 0), eV 0])
def b_value_key : S := sSeq (sIf (tTr (e1 (oIsi "str") (eV 0))) (sRet (eTup [eC (.int 1), eV 0])) (sNil)) k1_value_key
def g_value_key : FD := fn 1 b_value_key
def c1_are_kind_values : E := eCall g_is_value [.v (eV 1)]
def c2_are_kind_values : E := eT (t2 oLtP (eCall g_value_key [.v (eV 2)]) (eCall g_value_key [.v (eV 3)]))
def k1_are_kind_values : S := sRet (e1 oAll (eLc [2, 3] (srcZipA (eV 0) (eSl (eV 0) (pSome (eC (.int 1))) (pNone))) (gT [2, 3]) (tYes) (c2_are_kind_values)))
def b_are_kind_values : S := sSeq (sIf (tOr (tNot (eChain oLe oLe (eC (.int 1)) (e1 oLen (eV 0)) (eC v_MOST_VALUES))) (tNot (tTr (e1 oAll (eLc [1] (srcSeq (eV 0)) (gV 1) (tYes) (c1_are_kind_values)))))) (sRet (eC (.bl false))) (sNil)) k1_are_kind_values
def g_are_kind_values : FD := fn 4 b_are_kind_values
def l1_check_kinds : S := sSeq (sAsg 4 (eTup [eC (.str "kinds"), eV 2]))
    (sSeq (sIf (tNot (tTr (eCall g_is_named [.v (eV 3)]))) (sRaise "BadProgram" ["where", "why"] [eV 4, eC (.str "form")]) (sNil))
    (sSeq (sUnp [5, 6] (eV 3))
    (sSeq (sExp (eCall g_check_name [.v (eV 4), .v (eV 5), .b 1]))
    (sSeq (sIf (tNot (tTr (eCall g_are_kind_values [.v (eV 6)]))) (sRaise "BadProgram" ["where", "why"] [eV 4, eC (.str "values")]) (sNil))
    (sPutK 1 (eV 5) (eV 6))))))
def k3_check_kinds : S := sRet (eMv 1)
def k2_check_kinds : S := sSeq (sFor (srcEnum (eV 0)) (gT [2, 3]) l1_check_kinds) k3_check_kinds
def k1_check_kinds : S := sSeq (sAsg 1 ((fun ρ => .ok (.o (.dic [])) ρ))) k2_check_kinds
def b_check_kinds : S := sSeq (sExp (eCall g_check_part [.v (eC (.str "kinds")), .v (eV 0), .v (eC v_MOST_KINDS)])) k1_check_kinds
def g_check_kinds : FD := fn 7 b_check_kinds
def c1_are_strings : E := e1 (oIsi "str") (eV 1)
def b_are_strings : S := sRet (e1 oAll (eLc [1] (srcSeq (eV 0)) (gV 1) (tYes) (c1_are_strings)))
def g_are_strings : FD := fn 2 b_are_strings
def c1_check_relations : E := eT (t2k oInA 1 (eV 8))
def c2_check_relations : E := ePk2 oIxD 1 (eV 8)
def l3_check_relations : S := sSeq (sAsg 5 (eTup [eC (.str "relations"), eV 3]))
    (sSeq (sIf (tOr (tNot (tTr (eCall g_is_named [.v (eV 4)]))) (tNot (tTr (eCall g_are_strings [.v (ePk2 oIxD 4 (eC (.int 1)))])))) (sRaise "BadProgram" ["where", "why"] [eV 5, eC (.str "form")]) (sNil))
    (sSeq (sUnp [6, 7] (eV 4))
    (sSeq (sExp (eCall g_check_name [.v (eV 5), .v (eV 6), .b 2]))
    (sSeq (sIf (t2 oGt (e1 oLen (eV 7)) (eC v_MOST_COLUMNS)) (sRaise "BadProgram" ["where", "why"] [eV 5, eC (.str "columns")]) (sNil))
    (sSeq (sIf (tNot (tTr (e1 oAll (eLc [8] (srcSeq (eV 7)) (gV 8) (tYes) (c1_check_relations))))) (sRaise "BadProgram" ["where", "why"] [eV 5, eC (.str "kind")]) (sNil))
    (sPutK 2 (eV 6) (e1 oTuple (eLc [8] (srcSeq (eV 7)) (gV 8) (tYes) (c2_check_relations)))))))))
def k3_check_relations : S := sRet (eMv 2)
def k2_check_relations : S := sSeq (sFor (srcEnum (eV 0)) (gT [3, 4]) l3_check_relations) k3_check_relations
def k1_check_relations : S := sSeq (sAsg 2 ((fun ρ => .ok (.o (.dic [])) ρ))) k2_check_relations
def b_check_relations : S := sSeq (sExp (eCall g_check_part [.v (eC (.str "relations")), .v (eV 0), .v (eC v_MOST_RELATIONS)])) k1_check_relations
def g_check_relations : FD := fn 9 b_check_relations
def k1_is_rule_form : S := sRet (eAnd (e1 (oIsi "tuple") (ePk2 oIxD 0 (eC (.int 1)))) (e1 (oIsi "tuple") (ePk2 oIxD 0 (eC (.int 2)))))
def b_is_rule_form : S := sSeq (sIf (tOr (tNot (tTr (e1 (oIsi "tuple") (eV 0)))) (tOr (t2 oNe (e1 oLen (eV 0)) (eC (.int 3))) (tNot (tTr (e1 (oIsi "str") (ePk2 oIxD 0 (eC (.int 0)))))))) (sRet (eC (.bl false))) (sNil)) k1_is_rule_form
def g_is_rule_form : FD := fn 1 b_is_rule_form
def k1_is_variable : S := sRet (eAnd (eT (t2 oEq (ePk2 oIxD 0 (eC (.int 0))) (eC (.str "?")))) (eCall g_is_made_of [.v (eSl (eV 0) (pSome (eC (.int 1))) (pNone)), .v (eC v_VARIABLE_CHARACTERS)]))
def b_is_variable : S := sSeq (sIf (tOr (tNot (tTr (e1 (oIsi "str") (eV 0)))) (tNot (eChain oLe oLe (eC (.int 2)) (e1 oLen (eV 0)) (e2 oAdd (eC v_LONGEST_VARIABLE) (eC (.int 1)))))) (sRet (eC (.bl false))) (sNil)) k1_is_variable
def g_is_variable : FD := fn 1 b_is_variable
def b_is_term : S := sRet (eOr (eCall g_is_value [.v (eV 0)]) (eCall g_is_variable [.v (eV 0)]))
def g_is_term : FD := fn 1 b_is_term
def l1_check_terms : S := sSeq (sIf (tNot (tTr (eCall g_is_term [.v (eV 4)]))) (sRaise "BadProgram" ["where", "why"] [eV 0, eC (.str "form")]) (sNil))
    (sIf (tAnd (tTr (eCall g_is_value [.v (eV 4)])) (t2 oNotInA (eV 4) (eV 5))) (sRaise "BadProgram" ["where", "why"] [eV 0, eC (.str "value")]) (sNil))
def k2_check_terms : S := sFor (srcZipA (eV 2) (ePk2 oIxD 3 (eV 1))) (gT [4, 5]) l1_check_terms
def k1_check_terms : S := sSeq (sIf (t2 oNe (e1 oLen (eV 2)) (e1 oLen (ePk2 oIxD 3 (eV 1)))) (sRaise "BadProgram" ["where", "why"] [eV 0, eC (.str "count")]) (sNil)) k2_check_terms
def b_check_terms : S := sSeq (sIf (t2 oNotInA (eV 1) (eV 3)) (sRaise "BadProgram" ["where", "why"] [eV 0, eC (.str "unknown")]) (sNil)) k1_check_terms
def g_check_terms : FD := fn 6 b_check_terms
def k1_is_tuple_from : S := sRet (eAnd (e1 (oIsi "str") (ePk2 oIxD 0 (eC (.int 0)))) (eT (t2 oInA (ePk2 oIxD 0 (eC (.int 0))) (eV 1))))
def b_is_tuple_from : S := sSeq (sIf (tOr (tNot (tTr (e1 (oIsi "tuple") (eV 0)))) (t2 oNe (e1 oLen (eV 0)) (eV 2))) (sRet (eC (.bl false))) (sNil)) k1_is_tuple_from
def g_is_tuple_from : FD := fn 3 b_is_tuple_from
def b_is_atom_literal : S := sRet (eAnd (eCall g_is_tuple_from [.v (eV 0), .v (eTup [eC (.str "atom"), eC (.str "not")]), .v (eC (.int 3))]) (eAnd (e1 (oIsi "str") (ePk2 oIxD 0 (eC (.int 1)))) (e1 (oIsi "tuple") (ePk2 oIxD 0 (eC (.int 2))))))
def g_is_atom_literal : FD := fn 1 b_is_atom_literal
def b_is_comparison_literal : S := sRet (eOr (eCall g_is_tuple_from [.v (eV 0), .v (eC v_COMPARISONS), .v (eC (.int 3))]) (eCall g_is_tuple_from [.v (eV 0), .v (eC v_TERM_COMPARISONS), .v (eC (.int 3))]))
def g_is_comparison_literal : FD := fn 1 b_is_comparison_literal
def k2_is_expression_form : S := sRet (eCall g_is_tuple_from [.v (eV 0), .v (eC v_OPERATORS), .v (eC (.int 3))])
def k1_is_expression_form : S := sSeq (sIf (tTr (eCall g_is_tuple_from [.v (eV 0), .v (eTup [eC (.str "var")]), .v (eC (.int 2))])) (sRet (eCall g_is_variable [.v (ePk2 oIxD 0 (eC (.int 1)))])) (sNil)) k2_is_expression_form
def b_is_expression_form : S := sSeq (sIf (tTr (eCall g_is_tuple_from [.v (eV 0), .v (eTup [eC (.str "int")]), .v (eC (.int 2))])) (sRet (eCall g_is_integer [.v (ePk2 oIxD 0 (eC (.int 1)))])) (sNil)) k1_is_expression_form
def g_is_expression_form : FD := fn 1 b_is_expression_form
def k3_check_expression (self : FD) : S := sIf (t2 oInA (ePk2 oIxD 1 (eC (.int 0))) (eC v_OPERATORS)) (sSeq (sExp (eCall (self) [.v (eV 0), .v (ePk2 oIxD 1 (eC (.int 1))), .v (e2 oAdd (eV 2) (eC (.int 1)))]))
    (sExp (eCall (self) [.v (eV 0), .v (ePk2 oIxD 1 (eC (.int 2))), .v (e2 oAdd (eV 2) (eC (.int 1)))]))) (sNil)
def k2_check_expression (self : FD) : S := sSeq (sIf (tAnd (t2 oEq (ePk2 oIxD 1 (eC (.int 0))) (eC (.str "int"))) (tNot (tTr (eCall g_is_in_range [.v (ePk2 oIxD 1 (eC (.int 1)))])))) (sRaise "BadProgram" ["where", "why"] [eV 0, eC (.str "range")]) (sNil)) (k3_check_expression self)
def k1_check_expression (self : FD) : S := sSeq (sIf (tNot (tTr (eCall g_is_expression_form [.v (eV 1)]))) (sRaise "BadProgram" ["where", "why"] [eV 0, eC (.str "form")]) (sNil)) (k2_check_expression self)
def b_check_expression (self : FD) : S := sSeq (sIf (t2 oGt (eV 2) (eC v_MOST_DEPTH)) (sRaise "BadProgram" ["where", "why"] [eV 0, eC (.str "deep")]) (sNil)) (k1_check_expression self)
def g_check_expression : Nat → FD
  | 0 => fun _ => .bad
  | k + 1 => fn 3 (b_check_expression (g_check_expression k))
def l1_check_comparison : S := sIf (t2 oInA (ePk2 oIxD 1 (eC (.int 0))) (eC v_COMPARISONS)) (sExp (eCall (g_check_expression 7) [.v (eV 0), .v (eV 2), .v (eC (.int 1))])) (sIf (tNot (tTr (eCall g_is_term [.v (eV 2)]))) (sRaise "BadProgram" ["where", "why"] [eV 0, eC (.str "form")]) (sNil))
def b_check_comparison : S := sFor (srcSeq (eSl (eV 1) (pSome (eC (.int 1))) (pNone))) (gV 2) l1_check_comparison
def g_check_comparison : FD := fn 3 b_check_comparison
def c1_is_aggregate_literal : E := e1 (oIsi "str") (eV 4)
def k4_is_aggregate_literal : S := sRet (e1 oAll (eLc [4] (srcSeq (eV 2)) (gV 4) (tYes) (c1_is_aggregate_literal)))
def k3_is_aggregate_literal : S := sSeq (sIf (tOr (tNot (tTr (e1 (oIsi "tuple") (eV 2)))) (tNot (tTr (e1 (oIsi "tuple") (eV 3))))) (sRet (eC (.bl false))) (sNil)) k4_is_aggregate_literal
def k2_is_aggregate_literal : S := sSeq (sIf (tOr (tNot (tTr (e1 (oIsi "str") (eV 1)))) (t2 oNotInA (eV 1) (eC v_AGGREGATE_WORDS))) (sRet (eC (.bl false))) (sNil)) k3_is_aggregate_literal
def k1_is_aggregate_literal : S := sSeq (sPar [1, 2, 3] [ePk2 oIxD 0 (eC (.int 1)), ePk2 oIxD 0 (eC (.int 3)), ePk2 oIxD 0 (eC (.int 4))]) k2_is_aggregate_literal
def b_is_aggregate_literal : S := sSeq (sIf (tNot (tTr (eCall g_is_tuple_from [.v (eV 0), .v (eC v_OPERATIONS), .v (eC (.int 5))]))) (sRet (eC (.bl false))) (sNil)) k1_is_aggregate_literal
def g_is_aggregate_literal : FD := fn 5 b_is_aggregate_literal
def b_check_inner : S := sIf (tTr (eCall g_is_comparison_literal [.v (eV 1)])) (sExp (eCall g_check_comparison [.v (eV 0), .v (eV 1)])) (sIf (tAnd (tTr (eCall g_is_atom_literal [.v (eV 1)])) (t2 oEq (ePk2 oIxD 1 (eC (.int 0))) (eC (.str "atom")))) (sExp (eCall g_check_terms [.v (eV 0), .v (ePk2 oIxD 1 (eC (.int 1))), .v (ePk2 oIxD 1 (eC (.int 2))), .v (eV 2)])) (sRaise "BadProgram" ["where", "why"] [eV 0, eC (.str "form")]))
def g_check_inner : FD := fn 3 b_check_inner
def c1_check_aggregate : E := eCall g_is_variable [.v (eV 7)]
def c2_check_aggregate : E := eC (.bl true)
def y3_check_aggregate : E := eV 8
def l4_check_aggregate : S := sExp (eCall g_check_inner [.v (e2 oAdd (eV 0) (eTup [eV 5])), .v (eV 6), .v (eV 2)])
def k5_check_aggregate : S := sFor (srcEnum (eV 4)) (gT [5, 6]) l4_check_aggregate
def k4_check_aggregate : S := sSeq (sIf (tNot (eChain oLe oLe (eC (.int 1)) (e1 oLen (eV 4)) (eC v_MOST_INNER_LITERALS))) (sRaise "BadProgram" ["where", "why"] [eV 0, eC (.str "many")]) (sNil)) k5_check_aggregate
def k3_check_aggregate : S := sSeq (sIf (tOr (tNot (eChain oLe oLe (eC (.int 1)) (e1 oLen (eV 3)) (eC v_MOST_OWN_VARIABLES))) (t2 oLt (e1 oLen (eDc [8] (srcSeq (eV 3)) (gV 8) (tYes) (y3_check_aggregate) (c2_check_aggregate))) (e1 oLen (eV 3)))) (sRaise "BadProgram" ["where", "why"] [eV 0, eC (.str "variables")]) (sNil)) k4_check_aggregate
def k2_check_aggregate : S := sSeq (sIf (tNot (tTr (e1 oAll (eLc [7] (srcSeq (eV 3)) (gV 7) (tYes) (c1_check_aggregate))))) (sRaise "BadProgram" ["where", "why"] [eV 0, eC (.str "form")]) (sNil)) k3_check_aggregate
def k1_check_aggregate : S := sSeq (sPar [3, 4] [ePk2 oIxD 1 (eC (.int 3)), ePk2 oIxD 1 (eC (.int 4))]) k2_check_aggregate
def b_check_aggregate : S := sSeq (sExp (eCall (g_check_expression 7) [.v (eV 0), .v (ePk2 oIxD 1 (eC (.int 2))), .v (eC (.int 1))])) k1_check_aggregate
def g_check_aggregate : FD := fn 9 b_check_aggregate
def b_check_literal : S := sIf (tTr (eCall g_is_atom_literal [.v (eV 1)])) (sExp (eCall g_check_terms [.v (eV 0), .v (ePk2 oIxD 1 (eC (.int 1))), .v (ePk2 oIxD 1 (eC (.int 2))), .v (eV 2)])) (sIf (tTr (eCall g_is_comparison_literal [.v (eV 1)])) (sExp (eCall g_check_comparison [.v (eV 0), .v (eV 1)])) (sIf (tTr (eCall g_is_aggregate_literal [.v (eV 1)])) (sExp (eCall g_check_aggregate [.v (eV 0), .v (eV 1), .v (eV 2)])) (sRaise "BadProgram" ["where", "why"] [eV 0, eC (.str "form")])))
def g_check_literal : FD := fn 3 b_check_literal
def t1_term_variables : T := tTr (eCall g_is_variable [.v (eV 1)])
def c2_term_variables : E := eV 1
def b_term_variables : S := sRet (eLc [1] (srcSeq (eV 0)) (gV 1) (t1_term_variables) (c2_term_variables))
def g_term_variables : FD := fn 2 b_term_variables
def b_is_aggregate : S := sRet (eT (t2 oInA (ePk2 oIxD 0 (eC (.int 0))) (eC v_OPERATIONS)))
def g_is_aggregate : FD := fn 1 b_is_aggregate
def k1_outer_expressions : S := sRet (eIf (tTr (eCall g_is_aggregate [.v (eV 0)])) (eLst [ePk2 oIxD 0 (eC (.int 2))]) (eLst []))
def b_outer_expressions : S := sSeq (sIf (t2 oInA (ePk2 oIxD 0 (eC (.int 0))) (eC v_COMPARISONS)) (sRet (eLst [ePk2 oIxD 0 (eC (.int 1)), ePk2 oIxD 0 (eC (.int 2))])) (sNil)) k1_outer_expressions
def g_outer_expressions : FD := fn 1 b_outer_expressions
def k2_expression_variables (self : FD) : S := sRet (e2 oAdd (eCall (self) [.v (ePk2 oIxD 0 (eC (.int 1)))]) (eCall (self) [.v (ePk2 oIxD 0 (eC (.int 2)))]))
def k1_expression_variables (self : FD) : S := sSeq (sIf (t2 oEq (ePk2 oIxD 0 (eC (.int 0))) (eC (.str "var"))) (sRet (eLst [ePk2 oIxD 0 (eC (.int 1))])) (sNil)) (k2_expression_variables self)
def b_expression_variables (self : FD) : S := sSeq (sIf (t2 oEq (ePk2 oIxD 0 (eC (.int 0))) (eC (.str "int"))) (sRet (eLst [])) (sNil)) (k1_expression_variables self)
def g_expression_variables : Nat → FD
  | 0 => fun _ => .bad
  | k + 1 => fn 1 (b_expression_variables (g_expression_variables k))
def l1_outer_variables : S := sExtA 1 (eCall (g_expression_variables 6) [.v (eV 2)])
def k4_outer_variables : S := sRet (eMv 1)
def k3_outer_variables : S := sSeq (sFor (srcSeq (eCall g_outer_expressions [.v (eV 0)])) (gV 2) l1_outer_variables) k4_outer_variables
def k2_outer_variables : S := sSeq (sAsg 1 (eLst [])) k3_outer_variables
def k1_outer_variables : S := sSeq (sIf (t2 oInA (ePk2 oIxD 0 (eC (.int 0))) (eC v_TERM_COMPARISONS)) (sRet (eCall g_term_variables [.v (eSl (eV 0) (pSome (eC (.int 1))) (pNone))])) (sNil)) k2_outer_variables
def b_outer_variables : S := sSeq (sIf (t2 oInA (ePk2 oIxD 0 (eC (.int 0))) (eTup [eC (.str "atom"), eC (.str "not")])) (sRet (eCall g_term_variables [.v (ePk2 oIxD 0 (eC (.int 2)))])) (sNil)) k1_outer_variables
def g_outer_variables : FD := fn 3 b_outer_variables
def c1_once : E := eC (.bl true)
def y2_once : E := eV 1
def b_once : S := sRet (e1 oListA (eDc [1] (srcSeq (eV 0)) (gV 1) (tYes) (y2_once) (c1_once)))
def g_once : FD := fn 2 b_once
def l1_rule_variables : S := sExtA 1 (eCall g_outer_variables [.v (eV 2)])
def k2_rule_variables : S := sRet (eCall g_once [.v (eV 1)])
def k1_rule_variables : S := sSeq (sFor (srcSeq (ePk2 oIxD 0 (eC (.int 2)))) (gV 2) l1_rule_variables) k2_rule_variables
def b_rule_variables : S := sSeq (sAsg 1 (eCall g_term_variables [.v (ePk2 oIxD 0 (eC (.int 1)))])) k1_rule_variables
def g_rule_variables : FD := fn 3 b_rule_variables
def l1_safe_variables : S := sIf (t2 oEq (ePk2 oIxD 2 (eC (.int 0))) (eC (.str "atom"))) (sExtA 1 (eCall g_term_variables [.v (ePk2 oIxD 2 (eC (.int 2)))])) (sNil)
def k2_safe_variables : S := sRet (eMv 1)
def k1_safe_variables : S := sSeq (sFor (srcSeq (ePk2 oIxD 0 (eC (.int 2)))) (gV 2) l1_safe_variables) k2_safe_variables
def b_safe_variables : S := sSeq (sAsg 1 (eCall g_term_variables [.v (ePk2 oIxD 0 (eC (.int 1)))])) k1_safe_variables
def g_safe_variables : FD := fn 3 b_safe_variables
def b_inner_literals : S := sRet (eIf (tTr (eCall g_is_aggregate [.v (eV 0)])) (ePk2 oIxD 0 (eC (.int 4))) (eTup []))
def g_inner_literals : FD := fn 1 b_inner_literals
def l1_inner_variables : S := sExtA 1 (eCall g_outer_variables [.v (eV 2)])
def k2_inner_variables : S := sRet (eMv 1)
def k1_inner_variables : S := sSeq (sFor (srcSeq (eCall g_inner_literals [.v (eV 0)])) (gV 2) l1_inner_variables) k2_inner_variables
def b_inner_variables : S := sSeq (sAsg 1 (eLst [])) k1_inner_variables
def g_inner_variables : FD := fn 3 b_inner_variables
def t1_literal_atoms : T := t2 oEq (ePk2 oIxD 1 (eC (.int 0))) (eC (.str "atom"))
def c2_literal_atoms : E := eTup [ePk2 oIxD 1 (eC (.int 1)), ePk2 oIxD 1 (eC (.int 2))]
def k1_literal_atoms : S := sRet (eLc [1] (srcSeq (eCall g_inner_literals [.v (eV 0)])) (gV 1) (t1_literal_atoms) (c2_literal_atoms))
def b_literal_atoms : S := sSeq (sIf (t2 oInA (ePk2 oIxD 0 (eC (.int 0))) (eTup [eC (.str "atom"), eC (.str "not")])) (sRet (eLst [eTup [ePk2 oIxD 0 (eC (.int 1)), ePk2 oIxD 0 (eC (.int 2))]])) (sNil)) k1_literal_atoms
def g_literal_atoms : FD := fn 2 b_literal_atoms
def c1_check_scope : E := eT (t2k oInA 3 (eV 8))
def c2_check_scope : E := eOr (eT (t2k oInA 2 (eV 8))) (eT (t2k oInA 4 (eV 8)))
def l3_check_scope : S := sExtA 5 (eCall g_term_variables [.v (eV 7)])
def c4_check_scope : E := eT (t2k oInA 5 (eV 8))
def l5_check_scope : S := sPutK 3 (eV 8) (eC (.bl true))
def k6_check_scope : S := sFor (srcSeq (eV 4)) (gV 8) l5_check_scope
def k5_check_scope : S := sSeq (sIf (tNot (tTr (e1 oAll (eLc [8] (srcSeq (eV 4)) (gV 8) (tYes) (c4_check_scope))))) (sRaise "BadProgram" ["where", "why"] [eV 0, eC (.str "unsafe")]) (sNil)) k6_check_scope
def k4_check_scope : S := sSeq (sFor (srcSeq (eCall g_literal_atoms [.v (eV 1)])) (gT [6, 7]) l3_check_scope) k5_check_scope
def k3_check_scope : S := sSeq (sAsg 5 (eLst [])) k4_check_scope
def k2_check_scope : S := sSeq (sIf (tNot (tTr (e1 oAll (eLc [8] (srcSeq (eCall g_inner_variables [.v (eV 1)])) (gV 8) (tYes) (c2_check_scope))))) (sRaise "BadProgram" ["where", "why"] [eV 0, eC (.str "variables")]) (sNil)) k3_check_scope
def k1_check_scope : S := sSeq (sIf (tTr (e1 oAny (eLc [8] (srcSeq (eV 4)) (gV 8) (tYes) (c1_check_scope)))) (sRaise "BadProgram" ["where", "why"] [eV 0, eC (.str "variables")]) (sNil)) k2_check_scope
def b_check_scope : S := sSeq (sAsg 4 (ePk2 oIxD 1 (eC (.int 3)))) k1_check_scope
def g_check_scope : FD := fn 9 b_check_scope
def l1_rule_atoms : S := sExtA 1 (eCall g_literal_atoms [.v (eV 2)])
def k2_rule_atoms : S := sRet (eMv 1)
def k1_rule_atoms : S := sSeq (sFor (srcSeq (ePk2 oIxD 0 (eC (.int 2)))) (gV 2) l1_rule_atoms) k2_rule_atoms
def b_rule_atoms : S := sSeq (sAsg 1 (eLst [eTup [ePk2 oIxD 0 (eC (.int 0)), ePk2 oIxD 0 (eC (.int 1))]])) k1_rule_atoms
def g_rule_atoms : FD := fn 3 b_rule_atoms
def t1_variable_values : T := t2k oInA 6 (eV 7)
def c2_variable_values : E := eV 7
def l3_variable_values : S := sIf (tTr (eCall g_is_variable [.v (eV 5)])) (sPutK 2 (eV 5) (e1 oTuple (eLc [7] (srcSeq (eGet2P 2 (eV 5) (eV 6))) (gV 7) (t1_variable_values) (c2_variable_values)))) (sNil)
def l4_variable_values : S := sFor (srcZipA (eV 4) (ePk2 oIxD 1 (eV 3))) (gT [5, 6]) l3_variable_values
def k2_variable_values : S := sRet (eMv 2)
def k1_variable_values : S := sSeq (sFor (srcSeq (eCall g_rule_atoms [.v (eV 0)])) (gT [3, 4]) l4_variable_values) k2_variable_values
def b_variable_values : S := sSeq (sAsg 2 ((fun ρ => .ok (.o (.dic [])) ρ))) k1_variable_values
def g_variable_values : FD := fn 8 b_variable_values
def b_own_variables : S := sRet (eIf (tTr (eCall g_is_aggregate [.v (eV 0)])) (ePk2 oIxD 0 (eC (.int 3))) (eTup []))
def g_own_variables : FD := fn 1 b_own_variables
def l1_number_variables : S := sExtA 1 (eCall (g_expression_variables 6) [.v (eV 4)])
def l2_number_variables : S := sFor (srcSeq (eCall g_outer_expressions [.v (eV 3)])) (gV 4) l1_number_variables
def k5_number_variables : S := sRet (eMv 1)
def k4_number_variables : S := sSeq (sIf (tAnd (tTr (eCall g_is_aggregate [.v (eV 0)])) (t2 oNe (ePk2 oIxD 0 (eC (.int 0))) (eC (.str "count")))) (sApp 1 (e2 oIxA (eCall g_own_variables [.v (eV 0)]) (eC (.int 0)))) (sNil)) k5_number_variables
def k3_number_variables : S := sSeq (sFor (srcSeq (eV 2)) (gV 3) l2_number_variables) k4_number_variables
def k2_number_variables : S := sSeq (sExtA 2 (eCall g_inner_literals [.v (eV 0)])) k3_number_variables
def k1_number_variables : S := sSeq (sAsg 2 (eLst [eV 0])) k2_number_variables
def b_number_variables : S := sSeq (sAsg 1 (eLst [])) k1_number_variables
def g_number_variables : FD := fn 5 b_number_variables
def c1_are_integers : E := eCall g_is_integer [.v (eV 1)]
def b_are_integers : S := sRet (e1 oAll (eLc [1] (srcSeq (eV 0)) (gV 1) (tYes) (c1_are_integers)))
def g_are_integers : FD := fn 2 b_are_integers
def c1_check_variables : E := eC (.bl true)
def y2_check_variables : E := eV 9
def c3_check_variables : E := eT (t2k oInA 4 (eV 9))
def l4_check_variables : S := sIf (tTr (eCall g_is_aggregate [.v (eV 7)])) (sExp (eCall g_check_scope [.v (e2 oAdd (eV 0) (eTup [eV 6])), .v (eV 7), .v (eV 3), .b 5])) (sNil)
def c5_check_variables : E := eCall g_are_integers [.v (ePk2 oIxD 8 (eV 9))]
def l6_check_variables : S := sIf (tNot (tTr (e1 oAll (eLc [9] (srcSeq (eCall g_number_variables [.v (eV 7)])) (gV 9) (tYes) (c5_check_variables))))) (sRaise "BadProgram" ["where", "why"] [e2 oAdd (eV 0) (eTup [eV 6]), eC (.str "number")]) (sNil)
def k7_check_variables : S := sFor (srcEnum (ePk2 oIxD 1 (eC (.int 2)))) (gT [6, 7]) l6_check_variables
def k6_check_variables : S := sSeq (sAsg 8 (eCall g_variable_values [.v (eV 1), .v (eV 2)])) k7_check_variables
def k5_check_variables : S := sSeq (sFor (srcEnum (ePk2 oIxD 1 (eC (.int 2)))) (gT [6, 7]) l4_check_variables) k6_check_variables
def k4_check_variables : S := sSeq (sAsg 5 (e1 oDictA (eV 3))) k5_check_variables
def k3_check_variables : S := sSeq (sIf (tNot (tTr (e1 oAll (eLc [9] (srcSeq (eV 3)) (gV 9) (tYes) (c3_check_variables))))) (sRaise "BadProgram" ["where", "why"] [eV 0, eC (.str "unsafe")]) (sNil)) k4_check_variables
def k2_check_variables : S := sSeq (sAsg 4 (eCall g_safe_variables [.v (eV 1)])) k3_check_variables
def k1_check_variables : S := sSeq (sIf (t2 oGt (e1 oLen (eV 3)) (eC v_MOST_VARIABLES)) (sRaise "BadProgram" ["where", "why"] [eV 0, eC (.str "variables")]) (sNil)) k2_check_variables
def b_check_variables : S := sSeq (sAsg 3 (eDc [9] (srcSeq (eCall g_rule_variables [.v (eV 1)])) (gV 9) (tYes) (y2_check_variables) (c1_check_variables))) k1_check_variables
def g_check_variables : FD := fn 10 b_check_variables
def l1_check_rules : S := sExp (eCall g_check_literal [.v (e2 oAdd (eV 4) (eTup [eV 5])), .v (eV 6), .v (eV 1)])
def l2_check_rules : S := sSeq (sAsg 4 (eTup [eC (.str "rules"), eV 2]))
    (sSeq (sIf (tNot (tTr (eCall g_is_rule_form [.v (eV 3)]))) (sRaise "BadProgram" ["where", "why"] [eV 4, eC (.str "form")]) (sNil))
    (sSeq (sExp (eCall g_check_terms [.v (eV 4), .v (ePk2 oIxD 3 (eC (.int 0))), .v (ePk2 oIxD 3 (eC (.int 1))), .v (eV 1)]))
    (sSeq (sIf (t2 oGt (e1 oLen (ePk2 oIxD 3 (eC (.int 2)))) (eC v_MOST_LITERALS)) (sRaise "BadProgram" ["where", "why"] [eV 4, eC (.str "many")]) (sNil))
    (sSeq (sFor (srcEnum (ePk2 oIxD 3 (eC (.int 2)))) (gT [5, 6]) l1_check_rules)
    (sExp (eCall g_check_variables [.v (eV 4), .v (eV 3), .v (eV 1)]))))))
def k1_check_rules : S := sFor (srcEnum (eV 0)) (gT [2, 3]) l2_check_rules
def b_check_rules : S := sSeq (sExp (eCall g_check_part [.v (eC (.str "rules")), .v (eV 0), .v (eC v_MOST_RULES)])) k1_check_rules
def g_check_rules : FD := fn 7 b_check_rules
def c1_is_in_columns : E := eAnd (eCall g_is_value [.v (eV 2)]) (eT (t2 oInA (eV 2) (eV 3)))
def b_is_in_columns : S := sRet (e1 oAll (eLc [2, 3] (srcZipA (eV 0) (eV 1)) (gT [2, 3]) (tYes) (c1_is_in_columns)))
def g_is_in_columns : FD := fn 4 b_is_in_columns
def l1_check_facts : S := sSeq (sAsg 5 (eTup [eC (.str "facts"), eV 3]))
    (sSeq (sIf (tNot (tTr (eCall g_is_named [.v (eV 4)]))) (sRaise "BadProgram" ["where", "why"] [eV 5, eC (.str "form")]) (sNil))
    (sSeq (sUnp [6, 7] (eV 4))
    (sSeq (sIf (t2 oNotInA (eV 6) (eV 1)) (sRaise "BadProgram" ["where", "why"] [eV 5, eC (.str "unknown")]) (sNil))
    (sSeq (sIf (t2 oNe (e1 oLen (eV 7)) (e1 oLen (ePk2 oIxD 1 (eV 6)))) (sRaise "BadProgram" ["where", "why"] [eV 5, eC (.str "count")]) (sNil))
    (sSeq (sIf (tNot (tTr (eCall g_is_in_columns [.v (eV 7), .v (ePk2 oIxD 1 (eV 6))]))) (sRaise "BadProgram" ["where", "why"] [eV 5, eC (.str "value")]) (sNil))
    (sSeq (sIf (t2k oInA 2 (eV 4)) (sRaise "BadProgram" ["where", "why"] [eV 5, eC (.str "duplicate")]) (sNil))
    (sPutK 2 (eV 4) (eC (.bl true)))))))))
def k2_check_facts : S := sFor (srcEnum (eV 0)) (gT [3, 4]) l1_check_facts
def k1_check_facts : S := sSeq (sAsg 2 ((fun ρ => .ok (.o (.dic [])) ρ))) k2_check_facts
def b_check_facts : S := sSeq (sExp (eCall g_check_part [.v (eC (.str "facts")), .v (eV 0), .v (eC v_MOST_FACTS)])) k1_check_facts
def g_check_facts : FD := fn 8 b_check_facts
def c1_Program___init__ : E := eV 5
def y2_Program___init__ : E := ePk2 oIxD 6 (eC (.int 0))
def c3_Program___init__ : E := eCall g_rule_variables [.v (eV 7)]
def c4_Program___init__ : E := eCall g_variable_values [.v (eV 7), .v (eFld "Program" "_columns" 0)]
def k10_Program___init__ : S := sSetFd "Program" 0 "_grounding" (eC .non)
def k9_Program___init__ : S := sSeq (sSetFd "Program" 0 "_variable_values" (eLc [7] (srcSeq (eV 3)) (gV 7) (tYes) (c4_Program___init__))) k10_Program___init__
def k8_Program___init__ : S := sSeq (sSetFd "Program" 0 "_variables" (eLc [7] (srcSeq (eV 3)) (gV 7) (tYes) (c3_Program___init__))) k9_Program___init__
def k7_Program___init__ : S := sSeq (sSetFd "Program" 0 "_places" (eDc [5, 6] (srcEnum (eV 2)) (gT [5, 6]) (tYes) (y2_Program___init__) (c1_Program___init__))) k8_Program___init__
def k6_Program___init__ : S := sSeq (sSetFd "Program" 0 "facts" (eV 4)) k7_Program___init__
def k5_Program___init__ : S := sSeq (sSetFd "Program" 0 "rules" (eV 3)) k6_Program___init__
def k4_Program___init__ : S := sSeq (sSetFd "Program" 0 "relations" (eV 2)) k5_Program___init__
def k3_Program___init__ : S := sSeq (sSetFd "Program" 0 "kinds" (eV 1)) k4_Program___init__
def k2_Program___init__ : S := sSeq (sExp (eCall g_check_facts [.v (eV 4), .v (eFld "Program" "_columns" 0)])) k3_Program___init__
def k1_Program___init__ : S := sSeq (sExp (eCall g_check_rules [.v (eV 3), .v (eFld "Program" "_columns" 0)])) k2_Program___init__
def b_Program___init__ : S := sSeq (sSetFd "Program" 0 "_columns" (eCall g_check_relations [.v (eV 2), .v (eCall g_check_kinds [.v (eV 1)])])) k1_Program___init__
def g_Program___init__ : FD := fn 8 b_Program___init__
def k1__law_told : S := sRet (eTup [])
def b__law_told : S := sSeq (sTry ["BadProgram"] [] 1 (sExp (eNew "Program" g_Program___init__ [.v (ePk2 oIxD 0 (eC (.int 0))), .v (ePk2 oIxD 0 (eC (.int 1))), .v (ePk2 oIxD 0 (eC (.int 2))), .v (ePk2 oIxD 0 (eC (.int 3)))])) (sRet (eTup [eExF 1 "BadProgram" "where", eExF 1 "BadProgram" "why"]))) k1__law_told
def g__law_told : FD := fn 2 b__law_told
def k3_law : S := sRet (eAnd (eT (t2 oEq (eCall g__law_told [.v (eCall g__law_case [.v (eV 2), .v (eC (.int 0))])]) (eTup []))) (eT (t2 oEq (eCall g__law_told [.v (eV 3)]) (eTup [ePk2 oIxD 3 (eC (.int 4)), ePk2 oIxD 3 (eC (.int 5))]))))
def k2_law : S := sSeq (sAsg 3 (eCall g__law_case [.v (eV 2), .v (eC (.int 1))])) k3_law
def k1_law : S := sSeq (sAsg 2 (eCall g__law_next [.b 1, .v (eC (.int 17))])) k2_law
def b_law : S := sSeq (sAsg 1 (eCall g__law_stream [.v (eV 0)])) k1_law
def g_law : FD := fn 4 b_law
end Dn.k06_bounds_of_programs
set_option linter.all false
set_option maxRecDepth 100000
set_option maxHeartbeats 4000000
/-! Seventeen bounds, each kept and each passed by one: reckoned by the kernel. -/
namespace Dn.k06_bounds_of_programs
open PySem
theorem nextE : g__law_next = gNext := rfl
theorem streamE : g__law_stream = gStream := rfl
def dOf : Res Rv → D
  | .ok (.d x) _ => x
  | _ => .non
def inC (p : Nat) : D := dOf (g__law_case [.val (.int p), .val (.int 0)])
def overC (p : Nat) : D := dOf (g__law_case [.val (.int p), .val (.int 1)])
def pc (p j : Nat) : D := match overC p with
  | .tup xs => xs.getD j .non
  | _ => .non
def picks : List Nat := [0, 1, 2, 3, 4, 5, 6, 7, 8, 9, 10, 11, 12, 13, 14, 15, 16]
theorem in_ok : ∀ p ∈ picks, g__law_case [.val (.int p), .val (.int 0)] = .ok (.d (inC p)) [.un, .un] := run_all (by decide +kernel)
theorem over_ok : ∀ p ∈ picks, g__law_case [.val (.int p), .val (.int 1)] = .ok (.d (overC p)) [.un, .un] := run_all (by decide +kernel)
theorem over_row : (picks.all fun p => beqD (overC p) (.tup [pc p 0, pc p 1, pc p 2, pc p 3, pc p 4, pc p 5])) = true := by decide +kernel
theorem told_in : ∀ p ∈ picks, g__law_told [.val (inC p)] = .ok (.d (.tup [])) [.un] := run_all (by decide +kernel)
theorem told_over : ∀ p ∈ picks, g__law_told [.val (overC p)] = .ok (.d (.tup [pc p 4, pc p 5])) [.un] := run_all (by decide +kernel)
theorem eq_over : (picks.all fun p => decide (oEq (.tup [pc p 4, pc p 5]) (.tup [pc p 4, pc p 5]) = some true)) = true := by decide +kernel
theorem eq_in : oEq (.tup []) (.tup []) = some true := by decide +kernel
theorem pick_ok {p : Nat} (hp : p ∈ picks) (x0 x1 : Slot) : k2_law [x0, x1, .val (.int p), .un] = .rt (.d (.bl true)) [x0, x1, .val (.int p), .val (overC p)] := by
  have a := in_ok p hp
  have b := over_ok p hp
  have c := told_in p hp
  have d := told_over p hp
  have e := of_decide_eq_true (List.all_eq_true.mp eq_over p hp)
  have f := beqD_eq (List.all_eq_true.mp over_row p hp)
  have g := eq_in
  have h4 : dAt [pc p 0, pc p 1, pc p 2, pc p 3, pc p 4, pc p 5] 4 = some (pc p 4) := rfl
  unfold k2_law k3_law
  generalize oEq = Q at *
  generalize g__law_told = T at *
  generalize g__law_case = W at *
  generalize pc p 0 = v0 at *
  generalize pc p 1 = v1 at *
  generalize pc p 2 = v2 at *
  generalize pc p 3 = v3 at *
  generalize pc p 4 = v4 at *
  generalize pc p 5 = v5 at *
  generalize inC p = I at *
  generalize overC p = O at *
  subst f
  simp [a, b, c, d, e, g, dAt, ixAt, store]
theorem law_true (ns : List Int) (_ : ns.length ≤ 63) : ∃ sl, g_law [.val (.scr ns)] = .ok (.d (.bl true)) sl := by
  have hs := stream_ok ns
  generalize Sm.new ns = s at hs
  have n := next_ok s (m := 17) (by decide) (by decide)
  have d0 := s.dig_nn (m := 17) (by decide)
  have d1 := s.dig_lt (m := 17) (by decide)
  obtain ⟨p, hp⟩ : ∃ p : Nat, s.dig 17 = (p : Int) := ⟨(s.dig 17).toNat, (Int.toNat_of_nonneg d0).symm⟩
  rw [hp] at n d1
  have hm : p ∈ picks := by
    have : p < 17 := by omega
    have h : ∀ q, q < 17 → q ∈ picks := by decide
    exact h p this
  have step0 : b_law [.val (.scr ns), .un, .un, .un] = k1_law [.val (.scr ns), .own s.C, .un, .un] := by
    unfold b_law
    rw [streamE]
    refine seq_nx ?_
    simp [hs, store]
  have step1 : k1_law [.val (.scr ns), .own s.C, .un, .un] = k2_law [.val (.scr ns), .own (s.nxt 17).C, .val (.int p), .un] := by
    unfold k1_law
    rw [nextE]
    refine seq_nx ?_
    simp [n, store]
  exact ⟨_, fn_ret (step0.trans (step1.trans (pick_ok hm _ _))) rfl⟩
end Dn.k06_bounds_of_programs
set_option Elab.async false
set_option linter.all false
set_option maxRecDepth 100000
set_option maxHeartbeats 4000000
/-! The defs keep to their denotations. -/
namespace Dn.k06_bounds_of_programs
open PySem L2 Dn
def topS (i : Nat) : Stmt := PySem.Challenge.pw_rulestand_k06_bounds_of_programs.main.body.getD i (.Pass ⟨0, 0, 0, 0⟩)
/-- the built-ins that the text leaves as they are -/
structure Blt (mg : Str → Option Value) : Prop where
  abs_ : mg "abs" = none
  all_ : mg "all" = none
  any_ : mg "any" = none
  bool_ : mg "bool" = none
  dict_ : mg "dict" = none
  enumerate_ : mg "enumerate" = none
  int_ : mg "int" = none
  isinstance_ : mg "isinstance" = none
  len_ : mg "len" = none
  list_ : mg "list" = none
  range_ : mg "range" = none
  str_ : mg "str" = none
  tuple_ : mg "tuple" = none
  zip_ : mg "zip" = none
abbrev s__law_stream : Stmt := topS 82
abbrev N__law_stream : List Str := ["script"]
theorem sc__law_stream : FnScope N__law_stream ["script"] (defScope s__law_stream) := ⟨rfl, rfl, rfl, by decide +kernel, rfl, by decide +kernel, by decide +kernel⟩
abbrev s__law_next : Stmt := topS 83
abbrev N__law_next : List Str := ["stream", "many", "k", "cell", "digit"]
theorem sc__law_next : FnScope N__law_next ["stream", "many"] (defScope s__law_next) := ⟨rfl, rfl, rfl, by decide +kernel, rfl, by decide +kernel, by decide +kernel⟩
abbrev s__law_deep : Stmt := topS 84
abbrev N__law_deep : List Str := ["depth", "found", "k"]
theorem sc__law_deep : FnScope N__law_deep ["depth"] (defScope s__law_deep) := ⟨rfl, rfl, rfl, by decide +kernel, rfl, by decide +kernel, by decide +kernel⟩
abbrev s__law_case : Stmt := topS 85
abbrev N__law_case : List Str := ["pick", "over", "kinds", "relations", "inner", "body", "facts", "own", "variable", "k"]
theorem sc__law_case : FnScope N__law_case ["pick", "over"] (defScope s__law_case) := ⟨rfl, rfl, rfl, by decide +kernel, rfl, by decide +kernel, by decide +kernel⟩
abbrev s_check_part : Stmt := topS 71
abbrev N_check_part : List Str := ["part", "entries", "most"]
theorem sc_check_part : FnScope N_check_part ["part", "entries", "most"] (defScope s_check_part) := ⟨rfl, rfl, rfl, by decide +kernel, rfl, by decide +kernel, by decide +kernel⟩
abbrev s_is_named : Stmt := topS 68
abbrev N_is_named : List Str := ["value"]
theorem sc_is_named : FnScope N_is_named ["value"] (defScope s_is_named) := ⟨rfl, rfl, rfl, by decide +kernel, rfl, by decide +kernel, by decide +kernel⟩
abbrev s_is_made_of : Stmt := topS 14
abbrev N_is_made_of : List Str := ["text", "characters", "character"]
theorem sc_is_made_of : FnScope N_is_made_of ["text", "characters"] (defScope s_is_made_of) := ⟨rfl, rfl, rfl, by decide +kernel, rfl, by decide +kernel, by decide +kernel⟩
abbrev s_is_symbol : Stmt := topS 15
abbrev N_is_symbol : List Str := ["value"]
theorem sc_is_symbol : FnScope N_is_symbol ["value"] (defScope s_is_symbol) := ⟨rfl, rfl, rfl, by decide +kernel, rfl, by decide +kernel, by decide +kernel⟩
abbrev s_check_name : Stmt := topS 72
abbrev N_check_name : List Str := ["where", "name", "names"]
theorem sc_check_name : FnScope N_check_name ["where", "name", "names"] (defScope s_check_name) := ⟨rfl, rfl, rfl, by decide +kernel, rfl, by decide +kernel, by decide +kernel⟩
abbrev s_is_integer : Stmt := topS 12
abbrev N_is_integer : List Str := ["value"]
theorem sc_is_integer : FnScope N_is_integer ["value"] (defScope s_is_integer) := ⟨rfl, rfl, rfl, by decide +kernel, rfl, by decide +kernel, by decide +kernel⟩
abbrev s_is_in_range : Stmt := topS 13
abbrev N_is_in_range : List Str := ["number"]
theorem sc_is_in_range : FnScope N_is_in_range ["number"] (defScope s_is_in_range) := ⟨rfl, rfl, rfl, by decide +kernel, rfl, by decide +kernel, by decide +kernel⟩
abbrev s_is_value : Stmt := topS 16
abbrev N_is_value : List Str := ["value"]
theorem sc_is_value : FnScope N_is_value ["value"] (defScope s_is_value) := ⟨rfl, rfl, rfl, by decide +kernel, rfl, by decide +kernel, by decide +kernel⟩
abbrev s_value_key : Stmt := topS 19
abbrev N_value_key : List Str := ["value"]
theorem sc_value_key : FnScope N_value_key ["value"] (defScope s_value_key) := ⟨rfl, rfl, rfl, by decide +kernel, rfl, by decide +kernel, by decide +kernel⟩
abbrev s_are_kind_values : Stmt := topS 70
abbrev N_are_kind_values : List Str := ["values", "value", "low", "high"]
theorem sc_are_kind_values : FnScope N_are_kind_values ["values"] (defScope s_are_kind_values) := ⟨rfl, rfl, rfl, by decide +kernel, rfl, by decide +kernel, by decide +kernel⟩
abbrev s_check_kinds : Stmt := topS 73
abbrev N_check_kinds : List Str := ["kinds", "values_of_kinds", "index", "kind", "where", "name", "values"]
theorem sc_check_kinds : FnScope N_check_kinds ["kinds"] (defScope s_check_kinds) := ⟨rfl, rfl, rfl, by decide +kernel, rfl, by decide +kernel, by decide +kernel⟩
abbrev s_are_strings : Stmt := topS 69
abbrev N_are_strings : List Str := ["values", "value"]
theorem sc_are_strings : FnScope N_are_strings ["values"] (defScope s_are_strings) := ⟨rfl, rfl, rfl, by decide +kernel, rfl, by decide +kernel, by decide +kernel⟩
abbrev s_check_relations : Stmt := topS 74
abbrev N_check_relations : List Str := ["relations", "values_of_kinds", "columns", "index", "relation", "where", "name", "kinds", "kind"]
theorem sc_check_relations : FnScope N_check_relations ["relations", "values_of_kinds"] (defScope s_check_relations) := ⟨rfl, rfl, rfl, by decide +kernel, rfl, by decide +kernel, by decide +kernel⟩
abbrev s_is_rule_form : Stmt := topS 75
abbrev N_is_rule_form : List Str := ["value"]
theorem sc_is_rule_form : FnScope N_is_rule_form ["value"] (defScope s_is_rule_form) := ⟨rfl, rfl, rfl, by decide +kernel, rfl, by decide +kernel, by decide +kernel⟩
abbrev s_is_variable : Stmt := topS 17
abbrev N_is_variable : List Str := ["value"]
theorem sc_is_variable : FnScope N_is_variable ["value"] (defScope s_is_variable) := ⟨rfl, rfl, rfl, by decide +kernel, rfl, by decide +kernel, by decide +kernel⟩
abbrev s_is_term : Stmt := topS 18
abbrev N_is_term : List Str := ["value"]
theorem sc_is_term : FnScope N_is_term ["value"] (defScope s_is_term) := ⟨rfl, rfl, rfl, by decide +kernel, rfl, by decide +kernel, by decide +kernel⟩
abbrev s_check_terms : Stmt := topS 45
abbrev N_check_terms : List Str := ["where", "relation", "terms", "columns", "term", "column"]
theorem sc_check_terms : FnScope N_check_terms ["where", "relation", "terms", "columns"] (defScope s_check_terms) := ⟨rfl, rfl, rfl, by decide +kernel, rfl, by decide +kernel, by decide +kernel⟩
abbrev s_is_tuple_from : Stmt := topS 46
abbrev N_is_tuple_from : List Str := ["value", "words", "length"]
theorem sc_is_tuple_from : FnScope N_is_tuple_from ["value", "words", "length"] (defScope s_is_tuple_from) := ⟨rfl, rfl, rfl, by decide +kernel, rfl, by decide +kernel, by decide +kernel⟩
abbrev s_is_atom_literal : Stmt := topS 47
abbrev N_is_atom_literal : List Str := ["value"]
theorem sc_is_atom_literal : FnScope N_is_atom_literal ["value"] (defScope s_is_atom_literal) := ⟨rfl, rfl, rfl, by decide +kernel, rfl, by decide +kernel, by decide +kernel⟩
abbrev s_is_comparison_literal : Stmt := topS 48
abbrev N_is_comparison_literal : List Str := ["value"]
theorem sc_is_comparison_literal : FnScope N_is_comparison_literal ["value"] (defScope s_is_comparison_literal) := ⟨rfl, rfl, rfl, by decide +kernel, rfl, by decide +kernel, by decide +kernel⟩
abbrev s_is_expression_form : Stmt := topS 50
abbrev N_is_expression_form : List Str := ["value"]
theorem sc_is_expression_form : FnScope N_is_expression_form ["value"] (defScope s_is_expression_form) := ⟨rfl, rfl, rfl, by decide +kernel, rfl, by decide +kernel, by decide +kernel⟩
abbrev s_check_expression : Stmt := topS 51
abbrev N_check_expression : List Str := ["where", "expression", "depth"]
theorem sc_check_expression : FnScope N_check_expression ["where", "expression", "depth"] (defScope s_check_expression) := ⟨rfl, rfl, rfl, by decide +kernel, rfl, by decide +kernel, by decide +kernel⟩
abbrev s_check_comparison : Stmt := topS 52
abbrev N_check_comparison : List Str := ["where", "literal", "part"]
theorem sc_check_comparison : FnScope N_check_comparison ["where", "literal"] (defScope s_check_comparison) := ⟨rfl, rfl, rfl, by decide +kernel, rfl, by decide +kernel, by decide +kernel⟩
abbrev s_is_aggregate_literal : Stmt := topS 49
abbrev N_is_aggregate_literal : List Str := ["value", "word", "variables", "inner", "variable"]
theorem sc_is_aggregate_literal : FnScope N_is_aggregate_literal ["value"] (defScope s_is_aggregate_literal) := ⟨rfl, rfl, rfl, by decide +kernel, rfl, by decide +kernel, by decide +kernel⟩
abbrev s_check_inner : Stmt := topS 54
abbrev N_check_inner : List Str := ["where", "literal", "columns"]
theorem sc_check_inner : FnScope N_check_inner ["where", "literal", "columns"] (defScope s_check_inner) := ⟨rfl, rfl, rfl, by decide +kernel, rfl, by decide +kernel, by decide +kernel⟩
abbrev s_check_aggregate : Stmt := topS 53
abbrev N_check_aggregate : List Str := ["where", "literal", "columns", "variables", "inner", "place", "part", "variable", "name"]
theorem sc_check_aggregate : FnScope N_check_aggregate ["where", "literal", "columns"] (defScope s_check_aggregate) := ⟨rfl, rfl, rfl, by decide +kernel, rfl, by decide +kernel, by decide +kernel⟩
abbrev s_check_literal : Stmt := topS 55
abbrev N_check_literal : List Str := ["where", "literal", "columns"]
theorem sc_check_literal : FnScope N_check_literal ["where", "literal", "columns"] (defScope s_check_literal) := ⟨rfl, rfl, rfl, by decide +kernel, rfl, by decide +kernel, by decide +kernel⟩
abbrev s_term_variables : Stmt := topS 31
abbrev N_term_variables : List Str := ["terms", "term"]
theorem sc_term_variables : FnScope N_term_variables ["terms"] (defScope s_term_variables) := ⟨rfl, rfl, rfl, by decide +kernel, rfl, by decide +kernel, by decide +kernel⟩
abbrev s_is_aggregate : Stmt := topS 26
abbrev N_is_aggregate : List Str := ["literal"]
theorem sc_is_aggregate : FnScope N_is_aggregate ["literal"] (defScope s_is_aggregate) := ⟨rfl, rfl, rfl, by decide +kernel, rfl, by decide +kernel, by decide +kernel⟩
abbrev s_outer_expressions : Stmt := topS 29
abbrev N_outer_expressions : List Str := ["literal"]
theorem sc_outer_expressions : FnScope N_outer_expressions ["literal"] (defScope s_outer_expressions) := ⟨rfl, rfl, rfl, by decide +kernel, rfl, by decide +kernel, by decide +kernel⟩
abbrev s_expression_variables : Stmt := topS 30
abbrev N_expression_variables : List Str := ["expression"]
theorem sc_expression_variables : FnScope N_expression_variables ["expression"] (defScope s_expression_variables) := ⟨rfl, rfl, rfl, by decide +kernel, rfl, by decide +kernel, by decide +kernel⟩
abbrev s_outer_variables : Stmt := topS 32
abbrev N_outer_variables : List Str := ["literal", "found", "expression"]
theorem sc_outer_variables : FnScope N_outer_variables ["literal"] (defScope s_outer_variables) := ⟨rfl, rfl, rfl, by decide +kernel, rfl, by decide +kernel, by decide +kernel⟩
abbrev s_once : Stmt := topS 34
abbrev N_once : List Str := ["names", "name"]
theorem sc_once : FnScope N_once ["names"] (defScope s_once) := ⟨rfl, rfl, rfl, by decide +kernel, rfl, by decide +kernel, by decide +kernel⟩
abbrev s_rule_variables : Stmt := topS 35
abbrev N_rule_variables : List Str := ["rule", "found", "literal"]
theorem sc_rule_variables : FnScope N_rule_variables ["rule"] (defScope s_rule_variables) := ⟨rfl, rfl, rfl, by decide +kernel, rfl, by decide +kernel, by decide +kernel⟩
abbrev s_safe_variables : Stmt := topS 57
abbrev N_safe_variables : List Str := ["rule", "found", "literal"]
theorem sc_safe_variables : FnScope N_safe_variables ["rule"] (defScope s_safe_variables) := ⟨rfl, rfl, rfl, by decide +kernel, rfl, by decide +kernel, by decide +kernel⟩
abbrev s_inner_literals : Stmt := topS 27
abbrev N_inner_literals : List Str := ["literal"]
theorem sc_inner_literals : FnScope N_inner_literals ["literal"] (defScope s_inner_literals) := ⟨rfl, rfl, rfl, by decide +kernel, rfl, by decide +kernel, by decide +kernel⟩
abbrev s_inner_variables : Stmt := topS 33
abbrev N_inner_variables : List Str := ["literal", "found", "inner"]
theorem sc_inner_variables : FnScope N_inner_variables ["literal"] (defScope s_inner_variables) := ⟨rfl, rfl, rfl, by decide +kernel, rfl, by decide +kernel, by decide +kernel⟩
abbrev s_literal_atoms : Stmt := topS 36
abbrev N_literal_atoms : List Str := ["literal", "inner"]
theorem sc_literal_atoms : FnScope N_literal_atoms ["literal"] (defScope s_literal_atoms) := ⟨rfl, rfl, rfl, by decide +kernel, rfl, by decide +kernel, by decide +kernel⟩
abbrev s_check_scope : Stmt := topS 58
abbrev N_check_scope : List Str := ["where", "literal", "variables", "taken", "own", "standing", "_", "terms", "variable"]
theorem sc_check_scope : FnScope N_check_scope ["where", "literal", "variables", "taken"] (defScope s_check_scope) := ⟨rfl, rfl, rfl, by decide +kernel, rfl, by decide +kernel, by decide +kernel⟩
abbrev s_rule_atoms : Stmt := topS 37
abbrev N_rule_atoms : List Str := ["rule", "found", "literal"]
theorem sc_rule_atoms : FnScope N_rule_atoms ["rule"] (defScope s_rule_atoms) := ⟨rfl, rfl, rfl, by decide +kernel, rfl, by decide +kernel, by decide +kernel⟩
abbrev s_variable_values : Stmt := topS 38
abbrev N_variable_values : List Str := ["rule", "columns", "found", "relation", "terms", "term", "column", "value"]
theorem sc_variable_values : FnScope N_variable_values ["rule", "columns"] (defScope s_variable_values) := ⟨rfl, rfl, rfl, by decide +kernel, rfl, by decide +kernel, by decide +kernel⟩
abbrev s_own_variables : Stmt := topS 28
abbrev N_own_variables : List Str := ["literal"]
theorem sc_own_variables : FnScope N_own_variables ["literal"] (defScope s_own_variables) := ⟨rfl, rfl, rfl, by decide +kernel, rfl, by decide +kernel, by decide +kernel⟩
abbrev s_number_variables : Stmt := topS 59
abbrev N_number_variables : List Str := ["literal", "found", "parts", "part", "expression"]
theorem sc_number_variables : FnScope N_number_variables ["literal"] (defScope s_number_variables) := ⟨rfl, rfl, rfl, by decide +kernel, rfl, by decide +kernel, by decide +kernel⟩
abbrev s_are_integers : Stmt := topS 39
abbrev N_are_integers : List Str := ["values", "value"]
theorem sc_are_integers : FnScope N_are_integers ["values"] (defScope s_are_integers) := ⟨rfl, rfl, rfl, by decide +kernel, rfl, by decide +kernel, by decide +kernel⟩
abbrev s_check_variables : Stmt := topS 56
abbrev N_check_variables : List Str := ["where", "rule", "columns", "variables", "safe", "taken", "place", "literal", "values", "variable"]
theorem sc_check_variables : FnScope N_check_variables ["where", "rule", "columns"] (defScope s_check_variables) := ⟨rfl, rfl, rfl, by decide +kernel, rfl, by decide +kernel, by decide +kernel⟩
abbrev s_check_rules : Stmt := topS 76
abbrev N_check_rules : List Str := ["rules", "columns", "index", "rule", "where", "place", "literal"]
theorem sc_check_rules : FnScope N_check_rules ["rules", "columns"] (defScope s_check_rules) := ⟨rfl, rfl, rfl, by decide +kernel, rfl, by decide +kernel, by decide +kernel⟩
abbrev s_is_in_columns : Stmt := topS 77
abbrev N_is_in_columns : List Str := ["values", "columns", "value", "column"]
theorem sc_is_in_columns : FnScope N_is_in_columns ["values", "columns"] (defScope s_is_in_columns) := ⟨rfl, rfl, rfl, by decide +kernel, rfl, by decide +kernel, by decide +kernel⟩
abbrev s_check_facts : Stmt := topS 78
abbrev N_check_facts : List Str := ["facts", "columns", "before", "index", "fact", "where", "name", "values"]
theorem sc_check_facts : FnScope N_check_facts ["facts", "columns"] (defScope s_check_facts) := ⟨rfl, rfl, rfl, by decide +kernel, rfl, by decide +kernel, by decide +kernel⟩
abbrev s_Program___init__ : Stmt := inClass (topS 80) 0
abbrev N_Program___init__ : List Str := ["self", "kinds", "relations", "rules", "facts", "index", "relation", "rule"]
theorem sc_Program___init__ : FnScope N_Program___init__ ["self", "kinds", "relations", "rules", "facts"] (defScope s_Program___init__) := ⟨rfl, rfl, rfl, by decide +kernel, rfl, by decide +kernel, by decide +kernel⟩
abbrev s__law_told : Stmt := topS 86
abbrev N__law_told : List Str := ["case", "problem"]
theorem sc__law_told : FnScope N__law_told ["case"] (defScope s__law_told) := ⟨rfl, rfl, rfl, by decide +kernel, rfl, by decide +kernel, by decide +kernel⟩
abbrev s_law : Stmt := topS 87
abbrev N_law : List Str := ["script", "stream", "pick", "beyond"]
theorem sc_law : FnScope N_law ["script"] (defScope s_law) := ⟨rfl, rfl, rfl, by decide +kernel, rfl, by decide +kernel, by decide +kernel⟩
section
variable {P : Program} {w : World} {K : PySem.W.Frag} {mg : Str → Option Value} {base : Heap}
theorem ok__law_stream (B : Blt mg) (T : Top K mg "_law_stream" s__law_stream ["script"])   : Cal P w K mg base 1 "_law_stream" 1 g__law_stream :=
  cal_of T sc__law_stream fun c f cdv A outer s H E hr hx bd => ss_one (s_ret (d_lst (a_cons (d_list rfl B.list_ (d_v 0)) (a_cons (d_int) (a_cons (d_int) (a_nil))))))
theorem ok__law_next (B : Blt mg) (T : Top K mg "_law_next" s__law_next ["stream", "many"])   : Cal P w K mg base 1 "_law_next" 2 g__law_next :=
  cal_of T sc__law_next fun c f cdv A outer s H E hr hx bd => ss_cons (s_if (t_eq hr.units (d_pkIx 0 (room65 hr) (d_int)) (d_int)) (ss_cons (s_set 2 sc__law_next.nd (d_pkIx 0 (room65 hr) (d_int)))
      (ss_cons (s_set 3 sc__law_next.nd (d_add (d_int) (d_v 2)))
      (ss_cons (s_if (t_lt (d_v 2) (d_len rfl B.len_ (d_pkIx 0 (room65 hr) (d_int)))) (ss_one (s_set 3 sc__law_next.nd (d_abs rfl B.abs_ (d_ix (room65 hr) (d_pkIx 0 (room65 hr) (d_int)) (d_v 2))))) (ss_nil))
      (ss_cons (s_if (t_lt (d_v 3) (d_pow (d_int) (d_int))) (ss_cons (s_set 3 sc__law_next.nd (d_mod (d_intc rfl B.int_ (d_add (d_add (d_mul (d_v 3) (d_int)) (d_mul (d_v 2) (d_int))) (d_int))) (d_int)))
      (ss_one (s_set 3 sc__law_next.nd (d_add (d_mul (d_mod (d_intc rfl B.int_ (d_add (d_mul (d_v 3) (d_int)) (d_int))) (d_int)) (d_int)) (d_v 3))))) (ss_nil))
      (ss_cons (s_setI 0 (d_v 3) (pg_sub (pv 0) (d_int) set_list))
      (ss_one (s_setI 0 (d_add (d_v 2) (d_int)) (pg_sub (pv 0) (d_int) set_list)))))))) (ss_nil))
      (ss_cons (s_set 4 sc__law_next.nd (d_mod (d_intc rfl B.int_ (d_pkIx 0 (room65 hr) (d_int))) (d_v 1)))
      (ss_cons (s_setI 0 (d_div (d_pkIx 0 (room65 hr) (d_int)) (d_v 1)) (pg_sub (pv 0) (d_int) set_list))
      (ss_one (s_ret (d_mv 4)))))
theorem ok__law_deep (B : Blt mg) (T : Top K mg "_law_deep" s__law_deep ["depth"])   : Cal P w K mg base 1 "_law_deep" 1 g__law_deep :=
  cal_of T sc__law_deep fun c f cdv A outer s H E hr hx bd => ss_cons (s_set 1 sc__law_deep.nd (d_tup (a_cons (d_str) (a_cons (d_int) (a_nil)))))
      (ss_cons (s_for bd.po rfl (i_r1 rfl B.range_ (d_sub (d_v 0) (d_int))) ((by first | exact pg_name (i := 2) sc__law_deep.nd rfl (Or.inl rfl) | exact pg_name (i := 2) sc__law_deep.nd rfl (Or.inr rfl))) (evg_v) (ss_one (s_set 1 sc__law_deep.nd (d_tup (a_cons (d_str) (a_cons (d_v 1) (a_cons (d_tup (a_cons (d_str) (a_cons (d_v 2) (a_nil)))) (a_nil))))))))
      (ss_one (s_ret (d_mv 1))))
theorem ok__law_case (B : Blt mg) (T : Top K mg "_law_case" s__law_case ["pick", "over"])  (C__law_deep : Cal P w K mg base 1 "_law_deep" 1 g__law_deep) : Cal P w K mg base 2 "_law_case" 2 g__law_case :=
  cal_of T sc__law_case fun c f cdv A outer s H E hr hx bd => ss_cons (s_set 2 sc__law_case.nd (d_tup (a_cons (d_tup (a_cons (d_str) (a_cons (d_tupR1 rfl rfl B.tuple_ rfl B.range_ (d_int)) (a_nil)))) (a_nil))))
      (ss_cons (s_set 3 sc__law_case.nd (d_tup (a_cons (d_tup (a_cons (d_str) (a_cons (d_tup (a_cons (d_str) (a_nil))) (a_nil)))) (a_cons (d_tup (a_cons (d_str) (a_cons (d_tup (a_nil)) (a_nil)))) (a_nil)))))
      (ss_cons (s_set 4 sc__law_case.nd (d_tup (a_cons (d_str) (a_cons (d_str) (a_cons (d_tup (a_cons (d_str) (a_nil))) (a_nil))))))
      (ss_cons (s_if (t_eq hr.units (d_v 0) (d_int)) (ss_one (s_ret (d_tup (a_cons (d_tuple rfl B.tuple_ (d_lc (own := [("k", 9)]) rfl sc__law_case.nd (i_r1 rfl B.range_ (d_add (d_int) (d_v 1))) (blkOk_by (N := N__law_case) (sc := (defScope s__law_case)) (own := [("k", 9)]) (by decide +kernel)) (fun _ _ _ _ _ => (by first | exact pg_name (i := 9) sc__law_case.nd rfl (Or.inl rfl) | exact pg_name (i := 9) sc__law_case.nd rfl (Or.inr rfl))) (fun c => evg_v) (by decide) (fun c hce _ _ _ _ _ => f_nil) (fun c hce _ _ _ _ _ => d_tup (a_cons (d_add (d_str) (d_str1 rfl B.str_ (d_v 9))) (a_cons (d_tup (a_cons (d_int) (a_nil))) (a_nil)))))) (a_cons (d_tup (a_nil)) (a_cons (d_tup (a_nil)) (a_cons (d_tup (a_nil)) (a_cons (d_tup (a_cons (d_str) (a_nil))) (a_cons (d_str) (a_nil)))))))))) (ss_nil))
      (ss_cons (s_if (t_eq hr.units (d_v 0) (d_int)) (ss_one (s_ret (d_tup (a_cons (d_tup (a_cons (d_tup (a_cons (d_str) (a_cons (d_tupR1 rfl rfl B.tuple_ rfl B.range_ (d_add (d_int) (d_v 1))) (a_nil)))) (a_nil))) (a_cons (d_tup (a_nil)) (a_cons (d_tup (a_nil)) (a_cons (d_tup (a_nil)) (a_cons (d_tup (a_cons (d_str) (a_cons (d_int) (a_nil)))) (a_cons (d_str) (a_nil)))))))))) (ss_nil))
      (ss_cons (s_if (t_eq hr.units (d_v 0) (d_int)) (ss_one (s_ret (d_tup (a_cons (d_v 2) (a_cons (d_tuple rfl B.tuple_ (d_lc (own := [("k", 9)]) rfl sc__law_case.nd (i_r1 rfl B.range_ (d_add (d_int) (d_v 1))) (blkOk_by (N := N__law_case) (sc := (defScope s__law_case)) (own := [("k", 9)]) (by decide +kernel)) (fun _ _ _ _ _ => (by first | exact pg_name (i := 9) sc__law_case.nd rfl (Or.inl rfl) | exact pg_name (i := 9) sc__law_case.nd rfl (Or.inr rfl))) (fun c => evg_v) (by decide) (fun c hce _ _ _ _ _ => f_nil) (fun c hce _ _ _ _ _ => d_tup (a_cons (d_add (d_str) (d_str1 rfl B.str_ (d_v 9))) (a_cons (d_tup (a_nil)) (a_nil)))))) (a_cons (d_tup (a_nil)) (a_cons (d_tup (a_nil)) (a_cons (d_tup (a_cons (d_str) (a_nil))) (a_cons (d_str) (a_nil)))))))))) (ss_nil))
      (ss_cons (s_if (t_eq hr.units (d_v 0) (d_int)) (ss_one (s_ret (d_tup (a_cons (d_v 2) (a_cons (d_tup (a_cons (d_tup (a_cons (d_str) (a_cons (d_mulA (d_tup (a_cons (d_str) (a_nil))) (d_add (d_int) (d_v 1))) (a_nil)))) (a_nil))) (a_cons (d_tup (a_nil)) (a_cons (d_tup (a_nil)) (a_cons (d_tup (a_cons (d_str) (a_cons (d_int) (a_nil)))) (a_cons (d_str) (a_nil)))))))))) (ss_nil))
      (ss_cons (s_if (t_eq hr.units (d_v 0) (d_int)) (ss_one (s_ret (d_tup (a_cons (d_v 2) (a_cons (d_v 3) (a_cons (d_mulA (d_tup (a_cons (d_tup (a_cons (d_str) (a_cons (d_tup (a_nil)) (a_cons (d_tup (a_nil)) (a_nil))))) (a_nil))) (d_add (d_int) (d_v 1))) (a_cons (d_tup (a_nil)) (a_cons (d_tup (a_cons (d_str) (a_nil))) (a_cons (d_str) (a_nil)))))))))) (ss_nil))
      (ss_cons (s_if (t_eq hr.units (d_v 0) (d_int)) (ss_one (s_ret (d_tup (a_cons (d_v 2) (a_cons (d_v 3) (a_cons (d_tup (a_cons (d_tup (a_cons (d_str) (a_cons (d_tup (a_nil)) (a_cons (d_mulA (d_tup (a_cons (d_tup (a_cons (d_str) (a_cons (d_str) (a_cons (d_tup (a_nil)) (a_nil))))) (a_nil))) (d_add (d_int) (d_v 1))) (a_nil))))) (a_nil))) (a_cons (d_tup (a_nil)) (a_cons (d_tup (a_cons (d_str) (a_cons (d_int) (a_nil)))) (a_cons (d_str) (a_nil)))))))))) (ss_nil))
      (ss_cons (s_if (t_eq hr.units (d_v 0) (d_int)) (ss_cons (s_set 5 sc__law_case.nd (d_tuple rfl B.tuple_ (d_lc (own := [("k", 9)]) rfl sc__law_case.nd (i_r1 rfl B.range_ (d_int)) (blkOk_by (N := N__law_case) (sc := (defScope s__law_case)) (own := [("k", 9)]) (by decide +kernel)) (fun _ _ _ _ _ => (by first | exact pg_name (i := 9) sc__law_case.nd rfl (Or.inl rfl) | exact pg_name (i := 9) sc__law_case.nd rfl (Or.inr rfl))) (fun c => evg_v) (by decide) (fun c hce _ _ _ _ _ => f_nil) (fun c hce _ _ _ _ _ => d_tup (a_cons (d_str) (a_cons (d_str) (a_cons (d_tup (a_cons (d_add (d_str) (d_str1 rfl B.str_ (d_v 9))) (a_nil))) (a_nil))))))))
      (ss_one (s_ret (d_tup (a_cons (d_v 2) (a_cons (d_add (d_v 3) (d_tup (a_cons (d_tup (a_cons (d_str) (a_cons (d_tup (a_cons (d_str) (a_nil))) (a_nil)))) (a_nil)))) (a_cons (d_tup (a_cons (d_tup (a_cons (d_str) (a_cons (d_tup (a_cons (d_if (t_eq hr.units (d_v 1) (d_int)) (d_str) (d_str)) (a_nil))) (a_cons (d_v 5) (a_nil))))) (a_nil))) (a_cons (d_tup (a_nil)) (a_cons (d_tup (a_cons (d_str) (a_cons (d_int) (a_nil)))) (a_cons (d_str) (a_nil))))))))))) (ss_nil))
      (ss_cons (s_if (t_eq hr.units (d_v 0) (d_int)) (ss_cons (s_lc (own := [("k", 9)]) 6 rfl sc__law_case.nd rfl rfl (sw_true rfl rfl rfl (by decide +kernel)) (i_r1 rfl B.range_ (d_add (d_int) (d_v 1))) (blkOk_by (N := N__law_case) (sc := (defScope s__law_case)) (own := [("k", 9)]) (by decide +kernel)) (fun _ _ _ _ _ => (by first | exact pg_name (i := 9) sc__law_case.nd rfl (Or.inl rfl) | exact pg_name (i := 9) sc__law_case.nd rfl (Or.inr rfl))) (fun c => evg_v) (by decide) (fun c hce _ _ _ _ _ => f_nil) (fun c hce _ _ _ _ _ => d_tup (a_cons (d_str) (a_cons (d_tup (a_cons (d_div (d_v 9) (d_int)) (a_cons (d_mod (d_intc rfl B.int_ (d_div (d_v 9) (d_int))) (d_int)) (a_cons (d_mod (d_intc rfl B.int_ (d_v 9)) (d_int)) (a_nil))))) (a_nil)))))
      (ss_one (s_ret (d_tup (a_cons (d_v 2) (a_cons (d_tup (a_cons (d_tup (a_cons (d_str) (a_cons (d_mulA (d_tup (a_cons (d_str) (a_nil))) (d_int)) (a_nil)))) (a_nil))) (a_cons (d_tup (a_nil)) (a_cons (d_tuple rfl B.tuple_ (d_v 6)) (a_cons (d_tup (a_cons (d_str) (a_nil))) (a_cons (d_str) (a_nil))))))))))) (ss_nil))
      (ss_cons (s_if (t_eq hr.units (d_v 0) (d_int)) (ss_cons (s_set 7 sc__law_case.nd (d_tuple rfl B.tuple_ (d_lc (own := [("k", 9)]) rfl sc__law_case.nd (i_r1 rfl B.range_ (d_add (d_int) (d_v 1))) (blkOk_by (N := N__law_case) (sc := (defScope s__law_case)) (own := [("k", 9)]) (by decide +kernel)) (fun _ _ _ _ _ => (by first | exact pg_name (i := 9) sc__law_case.nd rfl (Or.inl rfl) | exact pg_name (i := 9) sc__law_case.nd rfl (Or.inr rfl))) (fun c => evg_v) (by decide) (fun c hce _ _ _ _ _ => f_nil) (fun c hce _ _ _ _ _ => d_add (d_str) (d_str1 rfl B.str_ (d_v 9))))))
      (ss_cons (s_set 5 sc__law_case.nd (d_tup (a_cons (d_tup (a_cons (d_str) (a_cons (d_str) (a_cons (d_tup (a_cons (d_str) (a_cons (d_int) (a_nil)))) (a_cons (d_v 7) (a_cons (d_tup (a_cons (d_tup (a_cons (d_str) (a_cons (d_str) (a_cons (d_sl (d_v 7) (o_none) (o_some (d_int))) (a_nil))))) (a_nil))) (a_nil))))))) (a_nil))))
      (ss_one (s_ret (d_tup (a_cons (d_v 2) (a_cons (d_tup (a_cons (d_tup (a_cons (d_str) (a_cons (d_mulA (d_tup (a_cons (d_str) (a_nil))) (d_int)) (a_nil)))) (a_cons (d_tup (a_cons (d_str) (a_cons (d_tup (a_nil)) (a_nil)))) (a_nil)))) (a_cons (d_tup (a_cons (d_tup (a_cons (d_str) (a_cons (d_tup (a_nil)) (a_cons (d_v 5) (a_nil))))) (a_nil))) (a_cons (d_tup (a_nil)) (a_cons (d_tup (a_cons (d_str) (a_cons (d_int) (a_cons (d_int) (a_nil))))) (a_cons (d_str) (a_nil)))))))))))) (ss_nil))
      (ss_cons (s_if (t_eq hr.units (d_v 0) (d_int)) (ss_cons (s_set 5 sc__law_case.nd (d_tup (a_cons (d_tup (a_cons (d_str) (a_cons (d_str) (a_cons (d_tup (a_cons (d_str) (a_cons (d_int) (a_nil)))) (a_cons (d_tup (a_cons (d_str) (a_nil))) (a_cons (d_mulA (d_tup (a_cons (d_v 4) (a_nil))) (d_add (d_int) (d_v 1))) (a_nil))))))) (a_nil))))
      (ss_one (s_ret (d_tup (a_cons (d_v 2) (a_cons (d_v 3) (a_cons (d_tup (a_cons (d_tup (a_cons (d_str) (a_cons (d_tup (a_nil)) (a_cons (d_v 5) (a_nil))))) (a_nil))) (a_cons (d_tup (a_nil)) (a_cons (d_tup (a_cons (d_str) (a_cons (d_int) (a_cons (d_int) (a_nil))))) (a_cons (d_str) (a_nil))))))))))) (ss_nil))
      (ss_cons (s_if (t_eq hr.units (d_v 0) (d_int)) (ss_cons (s_set 5 sc__law_case.nd (d_tup (a_cons (d_tup (a_cons (d_str) (a_cons (d_call C__law_deep bd.tk hr rfl rfl (b_v (d_add (d_int) (d_v 1)) (b_nil))) (a_cons (d_tup (a_cons (d_str) (a_cons (d_int) (a_nil)))) (a_nil))))) (a_nil))))
      (ss_one (s_ret (d_tup (a_cons (d_v 2) (a_cons (d_v 3) (a_cons (d_tup (a_cons (d_tup (a_cons (d_str) (a_cons (d_tup (a_nil)) (a_cons (d_v 5) (a_nil))))) (a_nil))) (a_cons (d_tup (a_nil)) (a_cons (d_tup (a_cons (d_str) (a_cons (d_int) (a_cons (d_int) (a_nil))))) (a_cons (d_str) (a_nil))))))))))) (ss_nil))
      (ss_cons (s_if (t_eq hr.units (d_v 0) (d_int)) (ss_cons (s_set 5 sc__law_case.nd (d_tup (a_cons (d_tup (a_cons (d_str) (a_cons (d_tup (a_cons (d_str) (a_cons (d_sub (d_sub (d_int) (d_int)) (d_v 1)) (a_nil)))) (a_cons (d_tup (a_cons (d_str) (a_cons (d_int) (a_nil)))) (a_nil))))) (a_nil))))
      (ss_one (s_ret (d_tup (a_cons (d_v 2) (a_cons (d_v 3) (a_cons (d_tup (a_cons (d_tup (a_cons (d_str) (a_cons (d_tup (a_nil)) (a_cons (d_v 5) (a_nil))))) (a_nil))) (a_cons (d_tup (a_nil)) (a_cons (d_tup (a_cons (d_str) (a_cons (d_int) (a_cons (d_int) (a_nil))))) (a_cons (d_str) (a_nil))))))))))) (ss_nil))
      (ss_cons (s_if (t_eq hr.units (d_v 0) (d_int)) (ss_cons (s_set 5 sc__law_case.nd (d_tup (a_cons (d_tup (a_cons (d_str) (a_cons (d_tup (a_cons (d_str) (a_cons (d_add (d_int) (d_v 1)) (a_nil)))) (a_cons (d_tup (a_cons (d_str) (a_cons (d_int) (a_nil)))) (a_nil))))) (a_nil))))
      (ss_one (s_ret (d_tup (a_cons (d_v 2) (a_cons (d_v 3) (a_cons (d_tup (a_cons (d_tup (a_cons (d_str) (a_cons (d_tup (a_nil)) (a_cons (d_v 5) (a_nil))))) (a_nil))) (a_cons (d_tup (a_nil)) (a_cons (d_tup (a_cons (d_str) (a_cons (d_int) (a_cons (d_int) (a_nil))))) (a_cons (d_str) (a_nil))))))))))) (ss_nil))
      (ss_cons (s_if (t_eq hr.units (d_v 0) (d_int)) (ss_one (s_ret (d_tup (a_cons (d_tup (a_cons (d_tup (a_cons (d_str) (a_cons (d_tup (a_cons (d_sub (d_sub (d_int) (d_int)) (d_v 1)) (a_cons (d_int) (a_nil)))) (a_nil)))) (a_nil))) (a_cons (d_tup (a_nil)) (a_cons (d_tup (a_nil)) (a_cons (d_tup (a_nil)) (a_cons (d_tup (a_cons (d_str) (a_cons (d_int) (a_nil)))) (a_cons (d_str) (a_nil)))))))))) (ss_nil))
      (ss_cons (s_if (t_eq hr.units (d_v 0) (d_int)) (ss_one (s_ret (d_tup (a_cons (d_tup (a_cons (d_tup (a_cons (d_str) (a_cons (d_tup (a_cons (d_int) (a_cons (d_add (d_int) (d_v 1)) (a_nil)))) (a_nil)))) (a_nil))) (a_cons (d_tup (a_nil)) (a_cons (d_tup (a_nil)) (a_cons (d_tup (a_nil)) (a_cons (d_tup (a_cons (d_str) (a_cons (d_int) (a_nil)))) (a_cons (d_str) (a_nil)))))))))) (ss_nil))
      (ss_cons (s_if (t_eq hr.units (d_v 0) (d_int)) (ss_cons (s_set 8 sc__law_case.nd (d_add (d_str) (d_mulS (d_str) (d_add (d_int) (d_v 1)))))
      (ss_one (s_ret (d_tup (a_cons (d_v 2) (a_cons (d_v 3) (a_cons (d_tup (a_cons (d_tup (a_cons (d_str) (a_cons (d_tup (a_cons (d_v 8) (a_nil))) (a_cons (d_tup (a_nil)) (a_nil))))) (a_nil))) (a_cons (d_tup (a_nil)) (a_cons (d_tup (a_cons (d_str) (a_cons (d_int) (a_nil)))) (a_cons (d_str) (a_nil))))))))))) (ss_nil))
      (ss_one (s_ret (d_tup (a_cons (d_v 2) (a_cons (d_tup (a_cons (d_tup (a_cons (d_mulS (d_str) (d_add (d_int) (d_v 1))) (a_cons (d_tup (a_nil)) (a_nil)))) (a_nil))) (a_cons (d_tup (a_nil)) (a_cons (d_tup (a_nil)) (a_cons (d_tup (a_cons (d_str) (a_cons (d_int) (a_nil)))) (a_cons (d_str) (a_nil))))))))))))))))))))))))))))
theorem ok_check_part (B : Blt mg) (T : Top K mg "check_part" s_check_part ["part", "entries", "most"]) (E_BadProgram : ErrK P w K mg base "BadProgram" ["where", "why"])  : Cal P w K mg base 3 "check_part" 3 g_check_part :=
  cal_of T sc_check_part fun c f cdv A outer s H E hr hx bd => ss_cons (s_if (t_not (t_tr (d_isi kit_tuple PyProof.Rows.boot_tuple rfl B.isinstance_ rfl B.tuple_ (d_v 1)))) (ss_one (s_raise E_BadProgram (hr.mono (by first | decide | omega)) rfl bd.tk rfl (a_cons (d_tup (a_cons (d_v 0) (a_nil))) (a_cons (d_str) (a_nil))))) (ss_nil))
      (ss_one (s_if (t_gt (d_len rfl B.len_ (d_v 1)) (d_v 2)) (ss_one (s_raise E_BadProgram (hr.mono (by first | decide | omega)) rfl bd.tk rfl (a_cons (d_tup (a_cons (d_v 0) (a_nil))) (a_cons (d_str) (a_nil))))) (ss_nil)))
theorem ok_is_named (B : Blt mg) (T : Top K mg "is_named" s_is_named ["value"])   : Cal P w K mg base 1 "is_named" 1 g_is_named :=
  cal_of T sc_is_named fun c f cdv A outer s H E hr hx bd => ss_one (s_ret (d_and (d_isi kit_tuple PyProof.Rows.boot_tuple rfl B.isinstance_ rfl B.tuple_ (d_v 0)) (d_and (d_eq hr.units (d_len rfl B.len_ (d_v 0)) (d_int)) (d_and (d_isi kit_str PyProof.Rows.boot_str rfl B.isinstance_ rfl B.str_ (d_pkIx 0 (room65 hr) (d_int))) (d_one (d_isi kit_tuple PyProof.Rows.boot_tuple rfl B.isinstance_ rfl B.tuple_ (d_pkIx 0 (room65 hr) (d_int))))))))
theorem ok_is_made_of (B : Blt mg) (T : Top K mg "is_made_of" s_is_made_of ["text", "characters"])   : Cal P w K mg base 1 "is_made_of" 2 g_is_made_of :=
  cal_of T sc_is_made_of fun c f cdv A outer s H E hr hx bd => ss_one (s_ret (d_all rfl rfl B.all_ (d_lc (own := [("character", 2)]) rfl sc_is_made_of.nd (i_str (d_v 0)) (blkOk_by (N := N_is_made_of) (sc := (defScope s_is_made_of)) (own := [("character", 2)]) (by decide +kernel)) (fun _ _ _ _ _ => (by first | exact pg_name (i := 2) sc_is_made_of.nd rfl (Or.inl rfl) | exact pg_name (i := 2) sc_is_made_of.nd rfl (Or.inr rfl))) (fun c => evg_v) (by decide) (fun c hce _ _ _ _ _ => f_nil) (fun c hce _ _ _ _ _ => d_inP 1 (room65 hr) (d_v 2)))))
theorem ok_is_symbol (B : Blt mg) (T : Top K mg "is_symbol" s_is_symbol ["value"]) (G_LETTERS : Gv ⟨K, P, w, mg⟩ "LETTERS" v_LETTERS) (G_LONGEST_SYMBOL : Gv ⟨K, P, w, mg⟩ "LONGEST_SYMBOL" v_LONGEST_SYMBOL) (G_RESERVED : Gv ⟨K, P, w, mg⟩ "RESERVED" v_RESERVED) (G_SYMBOL_CHARACTERS : Gv ⟨K, P, w, mg⟩ "SYMBOL_CHARACTERS" v_SYMBOL_CHARACTERS) (C_is_made_of : Cal P w K mg base 1 "is_made_of" 2 g_is_made_of) : Cal P w K mg base 2 "is_symbol" 1 g_is_symbol :=
  cal_of T sc_is_symbol fun c f cdv A outer s H E hr hx bd => ss_cons (s_if (t_w (w_or (t_not (t_tr (d_isi kit_str PyProof.Rows.boot_str rfl B.isinstance_ rfl B.str_ (d_v 0)))) (w_or1 (t_not (t_chain q_le q_le (d_int) (d_len rfl B.len_ (d_v 0)) (d_glob G_LONGEST_SYMBOL rfl)))))) (ss_one (s_ret (d_bl))) (ss_nil))
      (ss_one (s_ret (d_and (d_in (room65 hr) (d_pkIx 0 (room65 hr) (d_int)) (d_glob G_LETTERS rfl)) (d_and (d_call C_is_made_of bd.tk hr rfl rfl (b_v (d_v 0) (b_v (d_glob G_SYMBOL_CHARACTERS rfl) (b_nil)))) (d_one (d_ni (room65 hr) (d_v 0) (d_glob G_RESERVED rfl)))))))
theorem ok_check_name (B : Blt mg) (T : Top K mg "check_name" s_check_name ["where", "name", "names"]) (E_BadProgram : ErrK P w K mg base "BadProgram" ["where", "why"]) (C_is_symbol : Cal P w K mg base 2 "is_symbol" 1 g_is_symbol) : Cal P w K mg base 3 "check_name" 3 g_check_name :=
  cal_of T sc_check_name fun c f cdv A outer s H E hr hx bd => ss_cons (s_if (t_not (t_tr (d_call C_is_symbol bd.tk hr rfl rfl (b_v (d_v 1) (b_nil))))) (ss_one (s_raise E_BadProgram (hr.mono (by first | decide | omega)) rfl bd.tk rfl (a_cons (d_v 0) (a_cons (d_str) (a_nil))))) (ss_nil))
      (ss_one (s_if (t_inP 2 (room65 hr) (d_v 1)) (ss_one (s_raise E_BadProgram (hr.mono (by first | decide | omega)) rfl bd.tk rfl (a_cons (d_v 0) (a_cons (d_str) (a_nil))))) (ss_nil)))
theorem ok_is_integer (B : Blt mg) (T : Top K mg "is_integer" s_is_integer ["value"])   : Cal P w K mg base 1 "is_integer" 1 g_is_integer :=
  cal_of T sc_is_integer fun c f cdv A outer s H E hr hx bd => ss_one (s_ret (d_and (d_isi kit_int PyProof.Rows.boot_int rfl B.isinstance_ rfl B.int_ (d_v 0)) (d_one (d_not (d_isi kit_bool PyProof.Rows.boot_bool rfl B.isinstance_ rfl B.bool_ (d_v 0))))))
theorem ok_is_in_range (B : Blt mg) (T : Top K mg "is_in_range" s_is_in_range ["number"]) (G_GREATEST_INTEGER : Gv ⟨K, P, w, mg⟩ "GREATEST_INTEGER" v_GREATEST_INTEGER)  : Cal P w K mg base 1 "is_in_range" 1 g_is_in_range :=
  cal_of T sc_is_in_range fun c f cdv A outer s H E hr hx bd => ss_one (s_ret (d_le (d_abs rfl B.abs_ (d_v 0)) (d_glob G_GREATEST_INTEGER rfl)))
theorem ok_is_value (B : Blt mg) (T : Top K mg "is_value" s_is_value ["value"])  (C_is_integer : Cal P w K mg base 2 "is_integer" 1 g_is_integer) (C_is_in_range : Cal P w K mg base 2 "is_in_range" 1 g_is_in_range) (C_is_symbol : Cal P w K mg base 2 "is_symbol" 1 g_is_symbol) : Cal P w K mg base 3 "is_value" 1 g_is_value :=
  cal_of T sc_is_value fun c f cdv A outer s H E hr hx bd => ss_cons (s_if (t_tr (d_call C_is_integer bd.tk hr rfl rfl (b_v (d_v 0) (b_nil)))) (ss_one (s_ret (d_call C_is_in_range bd.tk hr rfl rfl (b_v (d_v 0) (b_nil))))) (ss_nil))
      (ss_one (s_ret (d_call C_is_symbol bd.tk hr rfl rfl (b_v (d_v 0) (b_nil)))))
theorem ok_value_key (B : Blt mg) (T : Top K mg "value_key" s_value_key ["value"])   : Cal P w K mg base 1 "value_key" 1 g_value_key :=
  cal_of T sc_value_key fun c f cdv A outer s H E hr hx bd => ss_cons (s_if (t_tr (d_isi kit_str PyProof.Rows.boot_str rfl B.isinstance_ rfl B.str_ (d_v 0))) (ss_one (s_ret (d_tup (a_cons (d_int) (a_cons (d_v 0) (a_nil)))))) (ss_nil))
      (ss_one (s_ret (d_tup (a_cons (d_int) (a_cons (d_v 0) (a_nil))))))
theorem ok_are_kind_values (B : Blt mg) (T : Top K mg "are_kind_values" s_are_kind_values ["values"]) (G_MOST_VALUES : Gv ⟨K, P, w, mg⟩ "MOST_VALUES" v_MOST_VALUES) (C_is_value : Cal P w K mg base 3 "is_value" 1 g_is_value) (C_value_key : Cal P w K mg base 3 "value_key" 1 g_value_key) : Cal P w K mg base 4 "are_kind_values" 1 g_are_kind_values :=
  cal_of T sc_are_kind_values fun c f cdv A outer s H E hr hx bd => ss_cons (s_if (t_w (w_or (t_not (t_chain q_le q_le (d_int) (d_len rfl B.len_ (d_v 0)) (d_glob G_MOST_VALUES rfl))) (w_or1 (t_not (t_tr (d_all rfl rfl B.all_ (d_lc (own := [("value", 1)]) rfl sc_are_kind_values.nd (i_seq (d_v 0)) (blkOk_by (N := N_are_kind_values) (sc := (defScope s_are_kind_values)) (own := [("value", 1)]) (by decide +kernel)) (fun _ _ _ _ _ => (by first | exact pg_name (i := 1) sc_are_kind_values.nd rfl (Or.inl rfl) | exact pg_name (i := 1) sc_are_kind_values.nd rfl (Or.inr rfl))) (fun c => evg_v) (by decide) (fun c hce _ _ _ _ _ => f_nil) (fun c hce _ _ _ _ _ => d_call C_is_value (tk_no hce) hr rfl rfl (b_v (d_v 1) (b_nil)))))))))) (ss_one (s_ret (d_bl))) (ss_nil))
      (ss_one (s_ret (d_all rfl rfl B.all_ (d_lc (own := [("low", 2), ("high", 3)]) rfl sc_are_kind_values.nd (i_zipA rfl B.zip_ (d_v 0) (d_sl (d_v 0) (o_some (d_int)) (o_none))) (blkOk_by (N := N_are_kind_values) (sc := (defScope s_are_kind_values)) (own := [("low", 2), ("high", 3)]) (by decide +kernel)) (fun _ _ _ _ _ => pg_tup rfl (pgs_cons (by first | exact pg_name (i := 2) sc_are_kind_values.nd rfl (Or.inl rfl) | exact pg_name (i := 2) sc_are_kind_values.nd rfl (Or.inr rfl)) (pgs_cons (by first | exact pg_name (i := 3) sc_are_kind_values.nd rfl (Or.inl rfl) | exact pg_name (i := 3) sc_are_kind_values.nd rfl (Or.inr rfl)) (pgs_nil)))) (fun c => evg_t (evgs_cons (evgs_cons (evgs_nil))) rfl) (by decide) (fun c hce _ _ _ _ _ => f_nil) (fun c hce _ _ _ _ _ => d_ltP (hu_of hr) (d_call C_value_key (tk_no hce) hr rfl rfl (b_v (d_v 2) (b_nil))) (d_call C_value_key (tk_no hce) hr rfl rfl (b_v (d_v 3) (b_nil))))))))
theorem ok_check_kinds (B : Blt mg) (T : Top K mg "check_kinds" s_check_kinds ["kinds"]) (G_MOST_KINDS : Gv ⟨K, P, w, mg⟩ "MOST_KINDS" v_MOST_KINDS) (E_BadProgram : ErrK P w K mg base "BadProgram" ["where", "why"]) (C_check_part : Cal P w K mg base 4 "check_part" 3 g_check_part) (C_is_named : Cal P w K mg base 4 "is_named" 1 g_is_named) (C_check_name : Cal P w K mg base 4 "check_name" 3 g_check_name) (C_are_kind_values : Cal P w K mg base 4 "are_kind_values" 1 g_are_kind_values) : Cal P w K mg base 5 "check_kinds" 1 g_check_kinds :=
  cal_of T sc_check_kinds fun c f cdv A outer s H E hr hx bd => ss_cons (s_expr (d_call C_check_part bd.tk hr rfl rfl (b_v (d_str) (b_v (d_v 0) (b_v (d_glob G_MOST_KINDS rfl) (b_nil))))))
      (ss_cons (s_set 1 sc_check_kinds.nd (d_dict0))
      (ss_cons (s_for bd.po rfl (i_enum rfl B.enumerate_ (d_v 0)) (pg_tup rfl (pgs_cons (by first | exact pg_name (i := 2) sc_check_kinds.nd rfl (Or.inl rfl) | exact pg_name (i := 2) sc_check_kinds.nd rfl (Or.inr rfl)) (pgs_cons (by first | exact pg_name (i := 3) sc_check_kinds.nd rfl (Or.inl rfl) | exact pg_name (i := 3) sc_check_kinds.nd rfl (Or.inr rfl)) (pgs_nil)))) (evg_t (evgs_cons (evgs_cons (evgs_nil))) rfl) (ss_cons (s_set 4 sc_check_kinds.nd (d_tup (a_cons (d_str) (a_cons (d_v 2) (a_nil)))))
      (ss_cons (s_if (t_not (t_tr (d_call C_is_named bd.tk hr rfl rfl (b_v (d_v 3) (b_nil))))) (ss_one (s_raise E_BadProgram (hr.mono (by first | decide | omega)) rfl bd.tk rfl (a_cons (d_v 4) (a_cons (d_str) (a_nil))))) (ss_nil))
      (ss_cons (s_unp (is := [5, 6]) rfl (d_v 3) (pgs_cons (by first | exact pg_name (i := 5) sc_check_kinds.nd rfl (Or.inl rfl) | exact pg_name (i := 5) sc_check_kinds.nd rfl (Or.inr rfl)) (pgs_cons (by first | exact pg_name (i := 6) sc_check_kinds.nd rfl (Or.inl rfl) | exact pg_name (i := 6) sc_check_kinds.nd rfl (Or.inr rfl)) (pgs_nil))) (fun c => (evgs_cons (evgs_cons (evgs_nil)))) (pg_tup rfl (pgs_cons (by first | exact pg_name (i := 5) sc_check_kinds.nd rfl (Or.inl rfl) | exact pg_name (i := 5) sc_check_kinds.nd rfl (Or.inr rfl)) (pgs_cons (by first | exact pg_name (i := 6) sc_check_kinds.nd rfl (Or.inl rfl) | exact pg_name (i := 6) sc_check_kinds.nd rfl (Or.inr rfl)) (pgs_nil)))) rfl)
      (ss_cons (s_expr (d_call C_check_name bd.tk hr rfl rfl (b_v (d_v 4) (b_v (d_v 5) (b_b 1 (b_nil))))))
      (ss_cons (s_if (t_not (t_tr (d_call C_are_kind_values bd.tk hr rfl rfl (b_v (d_v 6) (b_nil))))) (ss_one (s_raise E_BadProgram (hr.mono (by first | decide | omega)) rfl bd.tk rfl (a_cons (d_v 4) (a_cons (d_str) (a_nil))))) (ss_nil))
      (ss_one (s_putK 1 (room65 hr) (d_v 5) (d_v 6)))))))))
      (ss_one (s_ret (d_mv 1)))))
theorem ok_are_strings (B : Blt mg) (T : Top K mg "are_strings" s_are_strings ["values"])   : Cal P w K mg base 1 "are_strings" 1 g_are_strings :=
  cal_of T sc_are_strings fun c f cdv A outer s H E hr hx bd => ss_one (s_ret (d_all rfl rfl B.all_ (d_lc (own := [("value", 1)]) rfl sc_are_strings.nd (i_seq (d_v 0)) (blkOk_by (N := N_are_strings) (sc := (defScope s_are_strings)) (own := [("value", 1)]) (by decide +kernel)) (fun _ _ _ _ _ => (by first | exact pg_name (i := 1) sc_are_strings.nd rfl (Or.inl rfl) | exact pg_name (i := 1) sc_are_strings.nd rfl (Or.inr rfl))) (fun c => evg_v) (by decide) (fun c hce _ _ _ _ _ => f_nil) (fun c hce _ _ _ _ _ => d_isi kit_str PyProof.Rows.boot_str rfl B.isinstance_ rfl B.str_ (d_v 1)))))
theorem ok_check_relations (B : Blt mg) (T : Top K mg "check_relations" s_check_relations ["relations", "values_of_kinds"]) (G_MOST_COLUMNS : Gv ⟨K, P, w, mg⟩ "MOST_COLUMNS" v_MOST_COLUMNS) (G_MOST_RELATIONS : Gv ⟨K, P, w, mg⟩ "MOST_RELATIONS" v_MOST_RELATIONS) (E_BadProgram : ErrK P w K mg base "BadProgram" ["where", "why"]) (C_check_part : Cal P w K mg base 3 "check_part" 3 g_check_part) (C_is_named : Cal P w K mg base 3 "is_named" 1 g_is_named) (C_are_strings : Cal P w K mg base 3 "are_strings" 1 g_are_strings) (C_check_name : Cal P w K mg base 3 "check_name" 3 g_check_name) : Cal P w K mg base 4 "check_relations" 2 g_check_relations :=
  cal_of T sc_check_relations fun c f cdv A outer s H E hr hx bd => ss_cons (s_expr (d_call C_check_part bd.tk hr rfl rfl (b_v (d_str) (b_v (d_v 0) (b_v (d_glob G_MOST_RELATIONS rfl) (b_nil))))))
      (ss_cons (s_set 2 sc_check_relations.nd (d_dict0))
      (ss_cons (s_for bd.po rfl (i_enum rfl B.enumerate_ (d_v 0)) (pg_tup rfl (pgs_cons (by first | exact pg_name (i := 3) sc_check_relations.nd rfl (Or.inl rfl) | exact pg_name (i := 3) sc_check_relations.nd rfl (Or.inr rfl)) (pgs_cons (by first | exact pg_name (i := 4) sc_check_relations.nd rfl (Or.inl rfl) | exact pg_name (i := 4) sc_check_relations.nd rfl (Or.inr rfl)) (pgs_nil)))) (evg_t (evgs_cons (evgs_cons (evgs_nil))) rfl) (ss_cons (s_set 5 sc_check_relations.nd (d_tup (a_cons (d_str) (a_cons (d_v 3) (a_nil)))))
      (ss_cons (s_if (t_w (w_or (t_not (t_tr (d_call C_is_named bd.tk hr rfl rfl (b_v (d_v 4) (b_nil))))) (w_or1 (t_not (t_tr (d_call C_are_strings bd.tk hr rfl rfl (b_v (d_pkIx 4 (room65 hr) (d_int)) (b_nil)))))))) (ss_one (s_raise E_BadProgram (hr.mono (by first | decide | omega)) rfl bd.tk rfl (a_cons (d_v 5) (a_cons (d_str) (a_nil))))) (ss_nil))
      (ss_cons (s_unp (is := [6, 7]) rfl (d_v 4) (pgs_cons (by first | exact pg_name (i := 6) sc_check_relations.nd rfl (Or.inl rfl) | exact pg_name (i := 6) sc_check_relations.nd rfl (Or.inr rfl)) (pgs_cons (by first | exact pg_name (i := 7) sc_check_relations.nd rfl (Or.inl rfl) | exact pg_name (i := 7) sc_check_relations.nd rfl (Or.inr rfl)) (pgs_nil))) (fun c => (evgs_cons (evgs_cons (evgs_nil)))) (pg_tup rfl (pgs_cons (by first | exact pg_name (i := 6) sc_check_relations.nd rfl (Or.inl rfl) | exact pg_name (i := 6) sc_check_relations.nd rfl (Or.inr rfl)) (pgs_cons (by first | exact pg_name (i := 7) sc_check_relations.nd rfl (Or.inl rfl) | exact pg_name (i := 7) sc_check_relations.nd rfl (Or.inr rfl)) (pgs_nil)))) rfl)
      (ss_cons (s_expr (d_call C_check_name bd.tk hr rfl rfl (b_v (d_v 5) (b_v (d_v 6) (b_b 2 (b_nil))))))
      (ss_cons (s_if (t_gt (d_len rfl B.len_ (d_v 7)) (d_glob G_MOST_COLUMNS rfl)) (ss_one (s_raise E_BadProgram (hr.mono (by first | decide | omega)) rfl bd.tk rfl (a_cons (d_v 5) (a_cons (d_str) (a_nil))))) (ss_nil))
      (ss_cons (s_if (t_not (t_tr (d_all rfl rfl B.all_ (d_lc (own := [("kind", 8)]) rfl sc_check_relations.nd (i_seq (d_v 7)) (blkOk_by (N := N_check_relations) (sc := (defScope s_check_relations)) (own := [("kind", 8)]) (by decide +kernel)) (fun _ _ _ _ _ => (by first | exact pg_name (i := 8) sc_check_relations.nd rfl (Or.inl rfl) | exact pg_name (i := 8) sc_check_relations.nd rfl (Or.inr rfl))) (fun c => evg_v) (by decide) (fun c hce _ _ _ _ _ => f_nil) (fun c hce _ _ _ _ _ => d_inP 1 (room65 hr) (d_v 8)))))) (ss_one (s_raise E_BadProgram (hr.mono (by first | decide | omega)) rfl bd.tk rfl (a_cons (d_v 5) (a_cons (d_str) (a_nil))))) (ss_nil))
      (ss_one (s_putK 2 (room65 hr) (d_v 6) (d_tuple rfl B.tuple_ (d_lc (own := [("kind", 8)]) rfl sc_check_relations.nd (i_seq (d_v 7)) (blkOk_by (N := N_check_relations) (sc := (defScope s_check_relations)) (own := [("kind", 8)]) (by decide +kernel)) (fun _ _ _ _ _ => (by first | exact pg_name (i := 8) sc_check_relations.nd rfl (Or.inl rfl) | exact pg_name (i := 8) sc_check_relations.nd rfl (Or.inr rfl))) (fun c => evg_v) (by decide) (fun c hce _ _ _ _ _ => f_nil) (fun c hce _ _ _ _ _ => d_pkIx 1 (room65 hr) (d_v 8)))))))))))))
      (ss_one (s_ret (d_mv 2)))))
theorem ok_is_rule_form (B : Blt mg) (T : Top K mg "is_rule_form" s_is_rule_form ["value"])   : Cal P w K mg base 1 "is_rule_form" 1 g_is_rule_form :=
  cal_of T sc_is_rule_form fun c f cdv A outer s H E hr hx bd => ss_cons (s_if (t_w (w_or (t_not (t_tr (d_isi kit_tuple PyProof.Rows.boot_tuple rfl B.isinstance_ rfl B.tuple_ (d_v 0)))) (w_or (t_ne hr.units (d_len rfl B.len_ (d_v 0)) (d_int)) (w_or1 (t_not (t_tr (d_isi kit_str PyProof.Rows.boot_str rfl B.isinstance_ rfl B.str_ (d_pkIx 0 (room65 hr) (d_int))))))))) (ss_one (s_ret (d_bl))) (ss_nil))
      (ss_one (s_ret (d_and (d_isi kit_tuple PyProof.Rows.boot_tuple rfl B.isinstance_ rfl B.tuple_ (d_pkIx 0 (room65 hr) (d_int))) (d_one (d_isi kit_tuple PyProof.Rows.boot_tuple rfl B.isinstance_ rfl B.tuple_ (d_pkIx 0 (room65 hr) (d_int)))))))
theorem ok_is_variable (B : Blt mg) (T : Top K mg "is_variable" s_is_variable ["value"]) (G_LONGEST_VARIABLE : Gv ⟨K, P, w, mg⟩ "LONGEST_VARIABLE" v_LONGEST_VARIABLE) (G_VARIABLE_CHARACTERS : Gv ⟨K, P, w, mg⟩ "VARIABLE_CHARACTERS" v_VARIABLE_CHARACTERS) (C_is_made_of : Cal P w K mg base 1 "is_made_of" 2 g_is_made_of) : Cal P w K mg base 2 "is_variable" 1 g_is_variable :=
  cal_of T sc_is_variable fun c f cdv A outer s H E hr hx bd => ss_cons (s_if (t_w (w_or (t_not (t_tr (d_isi kit_str PyProof.Rows.boot_str rfl B.isinstance_ rfl B.str_ (d_v 0)))) (w_or1 (t_not (t_chain q_le q_le (d_int) (d_len rfl B.len_ (d_v 0)) (d_add (d_glob G_LONGEST_VARIABLE rfl) (d_int))))))) (ss_one (s_ret (d_bl))) (ss_nil))
      (ss_one (s_ret (d_and (d_eq hr.units (d_pkIx 0 (room65 hr) (d_int)) (d_str)) (d_one (d_call C_is_made_of bd.tk hr rfl rfl (b_v (d_sl (d_v 0) (o_some (d_int)) (o_none)) (b_v (d_glob G_VARIABLE_CHARACTERS rfl) (b_nil))))))))
theorem ok_is_term (B : Blt mg) (T : Top K mg "is_term" s_is_term ["value"])  (C_is_value : Cal P w K mg base 3 "is_value" 1 g_is_value) (C_is_variable : Cal P w K mg base 3 "is_variable" 1 g_is_variable) : Cal P w K mg base 4 "is_term" 1 g_is_term :=
  cal_of T sc_is_term fun c f cdv A outer s H E hr hx bd => ss_one (s_ret (d_or (d_call C_is_value bd.tk hr rfl rfl (b_v (d_v 0) (b_nil))) (d_one (d_call C_is_variable bd.tk hr rfl rfl (b_v (d_v 0) (b_nil))))))
theorem ok_check_terms (B : Blt mg) (T : Top K mg "check_terms" s_check_terms ["where", "relation", "terms", "columns"]) (E_BadProgram : ErrK P w K mg base "BadProgram" ["where", "why"]) (C_is_term : Cal P w K mg base 4 "is_term" 1 g_is_term) (C_is_value : Cal P w K mg base 4 "is_value" 1 g_is_value) : Cal P w K mg base 5 "check_terms" 4 g_check_terms :=
  cal_of T sc_check_terms fun c f cdv A outer s H E hr hx bd => ss_cons (s_if (t_ni (room65 hr) (d_v 1) (d_v 3)) (ss_one (s_raise E_BadProgram (hr.mono (by first | decide | omega)) rfl bd.tk rfl (a_cons (d_v 0) (a_cons (d_str) (a_nil))))) (ss_nil))
      (ss_cons (s_if (t_ne hr.units (d_len rfl B.len_ (d_v 2)) (d_len rfl B.len_ (d_pkIx 3 (room65 hr) (d_v 1)))) (ss_one (s_raise E_BadProgram (hr.mono (by first | decide | omega)) rfl bd.tk rfl (a_cons (d_v 0) (a_cons (d_str) (a_nil))))) (ss_nil))
      (ss_one (s_for bd.po rfl (i_zipA rfl B.zip_ (d_v 2) (d_pkIx 3 (room65 hr) (d_v 1))) (pg_tup rfl (pgs_cons (by first | exact pg_name (i := 4) sc_check_terms.nd rfl (Or.inl rfl) | exact pg_name (i := 4) sc_check_terms.nd rfl (Or.inr rfl)) (pgs_cons (by first | exact pg_name (i := 5) sc_check_terms.nd rfl (Or.inl rfl) | exact pg_name (i := 5) sc_check_terms.nd rfl (Or.inr rfl)) (pgs_nil)))) (evg_t (evgs_cons (evgs_cons (evgs_nil))) rfl) (ss_cons (s_if (t_not (t_tr (d_call C_is_term bd.tk hr rfl rfl (b_v (d_v 4) (b_nil))))) (ss_one (s_raise E_BadProgram (hr.mono (by first | decide | omega)) rfl bd.tk rfl (a_cons (d_v 0) (a_cons (d_str) (a_nil))))) (ss_nil))
      (ss_one (s_if (t_w (w_and (t_tr (d_call C_is_value bd.tk hr rfl rfl (b_v (d_v 4) (b_nil)))) (w_and1 (t_ni (room65 hr) (d_v 4) (d_v 5))))) (ss_one (s_raise E_BadProgram (hr.mono (by first | decide | omega)) rfl bd.tk rfl (a_cons (d_v 0) (a_cons (d_str) (a_nil))))) (ss_nil)))))))
theorem ok_is_tuple_from (B : Blt mg) (T : Top K mg "is_tuple_from" s_is_tuple_from ["value", "words", "length"])   : Cal P w K mg base 1 "is_tuple_from" 3 g_is_tuple_from :=
  cal_of T sc_is_tuple_from fun c f cdv A outer s H E hr hx bd => ss_cons (s_if (t_w (w_or (t_not (t_tr (d_isi kit_tuple PyProof.Rows.boot_tuple rfl B.isinstance_ rfl B.tuple_ (d_v 0)))) (w_or1 (t_ne hr.units (d_len rfl B.len_ (d_v 0)) (d_v 2))))) (ss_one (s_ret (d_bl))) (ss_nil))
      (ss_one (s_ret (d_and (d_isi kit_str PyProof.Rows.boot_str rfl B.isinstance_ rfl B.str_ (d_pkIx 0 (room65 hr) (d_int))) (d_one (d_in (room65 hr) (d_pkIx 0 (room65 hr) (d_int)) (d_v 1))))))
theorem ok_is_atom_literal (B : Blt mg) (T : Top K mg "is_atom_literal" s_is_atom_literal ["value"])  (C_is_tuple_from : Cal P w K mg base 1 "is_tuple_from" 3 g_is_tuple_from) : Cal P w K mg base 2 "is_atom_literal" 1 g_is_atom_literal :=
  cal_of T sc_is_atom_literal fun c f cdv A outer s H E hr hx bd => ss_one (s_ret (d_and (d_call C_is_tuple_from bd.tk hr rfl rfl (b_v (d_v 0) (b_v (d_tup (a_cons (d_str) (a_cons (d_str) (a_nil)))) (b_v (d_int) (b_nil))))) (d_and (d_isi kit_str PyProof.Rows.boot_str rfl B.isinstance_ rfl B.str_ (d_pkIx 0 (room65 hr) (d_int))) (d_one (d_isi kit_tuple PyProof.Rows.boot_tuple rfl B.isinstance_ rfl B.tuple_ (d_pkIx 0 (room65 hr) (d_int)))))))
theorem ok_is_comparison_literal (B : Blt mg) (T : Top K mg "is_comparison_literal" s_is_comparison_literal ["value"]) (G_COMPARISONS : Gv ⟨K, P, w, mg⟩ "COMPARISONS" v_COMPARISONS) (G_TERM_COMPARISONS : Gv ⟨K, P, w, mg⟩ "TERM_COMPARISONS" v_TERM_COMPARISONS) (C_is_tuple_from : Cal P w K mg base 1 "is_tuple_from" 3 g_is_tuple_from) : Cal P w K mg base 2 "is_comparison_literal" 1 g_is_comparison_literal :=
  cal_of T sc_is_comparison_literal fun c f cdv A outer s H E hr hx bd => ss_one (s_ret (d_or (d_call C_is_tuple_from bd.tk hr rfl rfl (b_v (d_v 0) (b_v (d_glob G_COMPARISONS rfl) (b_v (d_int) (b_nil))))) (d_one (d_call C_is_tuple_from bd.tk hr rfl rfl (b_v (d_v 0) (b_v (d_glob G_TERM_COMPARISONS rfl) (b_v (d_int) (b_nil))))))))
theorem ok_is_expression_form (B : Blt mg) (T : Top K mg "is_expression_form" s_is_expression_form ["value"]) (G_OPERATORS : Gv ⟨K, P, w, mg⟩ "OPERATORS" v_OPERATORS) (C_is_tuple_from : Cal P w K mg base 2 "is_tuple_from" 3 g_is_tuple_from) (C_is_integer : Cal P w K mg base 2 "is_integer" 1 g_is_integer) (C_is_variable : Cal P w K mg base 2 "is_variable" 1 g_is_variable) : Cal P w K mg base 3 "is_expression_form" 1 g_is_expression_form :=
  cal_of T sc_is_expression_form fun c f cdv A outer s H E hr hx bd => ss_cons (s_if (t_tr (d_call C_is_tuple_from bd.tk hr rfl rfl (b_v (d_v 0) (b_v (d_tup (a_cons (d_str) (a_nil))) (b_v (d_int) (b_nil)))))) (ss_one (s_ret (d_call C_is_integer bd.tk hr rfl rfl (b_v (d_pkIx 0 (room65 hr) (d_int)) (b_nil))))) (ss_nil))
      (ss_cons (s_if (t_tr (d_call C_is_tuple_from bd.tk hr rfl rfl (b_v (d_v 0) (b_v (d_tup (a_cons (d_str) (a_nil))) (b_v (d_int) (b_nil)))))) (ss_one (s_ret (d_call C_is_variable bd.tk hr rfl rfl (b_v (d_pkIx 0 (room65 hr) (d_int)) (b_nil))))) (ss_nil))
      (ss_one (s_ret (d_call C_is_tuple_from bd.tk hr rfl rfl (b_v (d_v 0) (b_v (d_glob G_OPERATORS rfl) (b_v (d_int) (b_nil))))))))
theorem st_check_expression {k : Nat} {self : FD} (B : Blt mg) (T : Top K mg "check_expression" s_check_expression ["where", "expression", "depth"]) (G_MOST_DEPTH : Gv ⟨K, P, w, mg⟩ "MOST_DEPTH" v_MOST_DEPTH) (G_OPERATORS : Gv ⟨K, P, w, mg⟩ "OPERATORS" v_OPERATORS) (E_BadProgram : ErrK P w K mg base "BadProgram" ["where", "why"]) (C_is_expression_form : Cal P w K mg base (k + 3) "is_expression_form" 1 g_is_expression_form) (C_is_in_range : Cal P w K mg base (k + 3) "is_in_range" 1 g_is_in_range) (C_check_expression : Cal P w K mg base (k + 3) "check_expression" 3 self) : Cal P w K mg base (k + 3 + 1) "check_expression" 3 (fn 3 (b_check_expression self)) :=
  cal_of T sc_check_expression fun c f cdv A outer s H E hr hx bd => ss_cons (s_if (t_gt (d_v 2) (d_glob G_MOST_DEPTH rfl)) (ss_one (s_raise E_BadProgram (hr.mono (by first | decide | omega)) rfl bd.tk rfl (a_cons (d_v 0) (a_cons (d_str) (a_nil))))) (ss_nil))
      (ss_cons (s_if (t_not (t_tr (d_call C_is_expression_form bd.tk hr rfl rfl (b_v (d_v 1) (b_nil))))) (ss_one (s_raise E_BadProgram (hr.mono (by first | decide | omega)) rfl bd.tk rfl (a_cons (d_v 0) (a_cons (d_str) (a_nil))))) (ss_nil))
      (ss_cons (s_if (t_w (w_and (t_eq hr.units (d_pkIx 1 (room65 hr) (d_int)) (d_str)) (w_and1 (t_not (t_tr (d_call C_is_in_range bd.tk hr rfl rfl (b_v (d_pkIx 1 (room65 hr) (d_int)) (b_nil)))))))) (ss_one (s_raise E_BadProgram (hr.mono (by first | decide | omega)) rfl bd.tk rfl (a_cons (d_v 0) (a_cons (d_str) (a_nil))))) (ss_nil))
      (ss_one (s_if (t_in (room65 hr) (d_pkIx 1 (room65 hr) (d_int)) (d_glob G_OPERATORS rfl)) (ss_cons (s_expr (d_call C_check_expression bd.tk hr rfl rfl (b_v (d_v 0) (b_v (d_pkIx 1 (room65 hr) (d_int)) (b_v (d_add (d_v 2) (d_int)) (b_nil))))))
      (ss_one (s_expr (d_call C_check_expression bd.tk hr rfl rfl (b_v (d_v 0) (b_v (d_pkIx 1 (room65 hr) (d_int)) (b_v (d_add (d_v 2) (d_int)) (b_nil)))))))) (ss_nil)))))
theorem ok_check_expression (B : Blt mg) (T : Top K mg "check_expression" s_check_expression ["where", "expression", "depth"]) (G_MOST_DEPTH : Gv ⟨K, P, w, mg⟩ "MOST_DEPTH" v_MOST_DEPTH) (G_OPERATORS : Gv ⟨K, P, w, mg⟩ "OPERATORS" v_OPERATORS) (E_BadProgram : ErrK P w K mg base "BadProgram" ["where", "why"]) (C_is_expression_form : Cal P w K mg base 3 "is_expression_form" 1 g_is_expression_form) (C_is_in_range : Cal P w K mg base 3 "is_in_range" 1 g_is_in_range) : ∀ k : Nat, Cal P w K mg base (k + 4) "check_expression" 3 (g_check_expression k)
  | 0 => (cal_bad (k := 0) T sc_check_expression).mono (by omega)
  | k + 1 => (st_check_expression (k := k + 1) B T G_MOST_DEPTH G_OPERATORS E_BadProgram (C_is_expression_form.mono (by omega)) (C_is_in_range.mono (by omega)) ((ok_check_expression B T G_MOST_DEPTH G_OPERATORS E_BadProgram C_is_expression_form C_is_in_range k).mono (by omega))).mono (by omega)
theorem ok_check_comparison (B : Blt mg) (T : Top K mg "check_comparison" s_check_comparison ["where", "literal"]) (G_COMPARISONS : Gv ⟨K, P, w, mg⟩ "COMPARISONS" v_COMPARISONS) (E_BadProgram : ErrK P w K mg base "BadProgram" ["where", "why"]) (C_check_expression : Cal P w K mg base 11 "check_expression" 3 (g_check_expression 7)) (C_is_term : Cal P w K mg base 11 "is_term" 1 g_is_term) : Cal P w K mg base 12 "check_comparison" 2 g_check_comparison :=
  cal_of T sc_check_comparison fun c f cdv A outer s H E hr hx bd => ss_one (s_for bd.po rfl (i_seq (d_sl (d_v 1) (o_some (d_int)) (o_none))) ((by first | exact pg_name (i := 2) sc_check_comparison.nd rfl (Or.inl rfl) | exact pg_name (i := 2) sc_check_comparison.nd rfl (Or.inr rfl))) (evg_v) (ss_one (s_if (t_in (room65 hr) (d_pkIx 1 (room65 hr) (d_int)) (d_glob G_COMPARISONS rfl)) (ss_one (s_expr (d_call C_check_expression bd.tk hr rfl rfl (b_v (d_v 0) (b_v (d_v 2) (b_v (d_int) (b_nil))))))) (ss_one (s_if (t_not (t_tr (d_call C_is_term bd.tk hr rfl rfl (b_v (d_v 2) (b_nil))))) (ss_one (s_raise E_BadProgram (hr.mono (by first | decide | omega)) rfl bd.tk rfl (a_cons (d_v 0) (a_cons (d_str) (a_nil))))) (ss_nil))))))
theorem ok_is_aggregate_literal (B : Blt mg) (T : Top K mg "is_aggregate_literal" s_is_aggregate_literal ["value"]) (G_AGGREGATE_WORDS : Gv ⟨K, P, w, mg⟩ "AGGREGATE_WORDS" v_AGGREGATE_WORDS) (G_OPERATIONS : Gv ⟨K, P, w, mg⟩ "OPERATIONS" v_OPERATIONS) (C_is_tuple_from : Cal P w K mg base 1 "is_tuple_from" 3 g_is_tuple_from) : Cal P w K mg base 2 "is_aggregate_literal" 1 g_is_aggregate_literal :=
  cal_of T sc_is_aggregate_literal fun c f cdv A outer s H E hr hx bd => ss_cons (s_if (t_not (t_tr (d_call C_is_tuple_from bd.tk hr rfl rfl (b_v (d_v 0) (b_v (d_glob G_OPERATIONS rfl) (b_v (d_int) (b_nil))))))) (ss_one (s_ret (d_bl))) (ss_nil))
      (ss_cons (s_par3 1 2 3 rfl sc_is_aggregate_literal.nd (a_cons (d_pkIx 0 (room65 hr) (d_int)) (a_cons (d_pkIx 0 (room65 hr) (d_int)) (a_cons (d_pkIx 0 (room65 hr) (d_int)) (a_nil)))))
      (ss_cons (s_if (t_w (w_or (t_not (t_tr (d_isi kit_str PyProof.Rows.boot_str rfl B.isinstance_ rfl B.str_ (d_v 1)))) (w_or1 (t_ni (room65 hr) (d_v 1) (d_glob G_AGGREGATE_WORDS rfl))))) (ss_one (s_ret (d_bl))) (ss_nil))
      (ss_cons (s_if (t_w (w_or (t_not (t_tr (d_isi kit_tuple PyProof.Rows.boot_tuple rfl B.isinstance_ rfl B.tuple_ (d_v 2)))) (w_or1 (t_not (t_tr (d_isi kit_tuple PyProof.Rows.boot_tuple rfl B.isinstance_ rfl B.tuple_ (d_v 3))))))) (ss_one (s_ret (d_bl))) (ss_nil))
      (ss_one (s_ret (d_all rfl rfl B.all_ (d_lc (own := [("variable", 4)]) rfl sc_is_aggregate_literal.nd (i_seq (d_v 2)) (blkOk_by (N := N_is_aggregate_literal) (sc := (defScope s_is_aggregate_literal)) (own := [("variable", 4)]) (by decide +kernel)) (fun _ _ _ _ _ => (by first | exact pg_name (i := 4) sc_is_aggregate_literal.nd rfl (Or.inl rfl) | exact pg_name (i := 4) sc_is_aggregate_literal.nd rfl (Or.inr rfl))) (fun c => evg_v) (by decide) (fun c hce _ _ _ _ _ => f_nil) (fun c hce _ _ _ _ _ => d_isi kit_str PyProof.Rows.boot_str rfl B.isinstance_ rfl B.str_ (d_v 4)))))))))
theorem ok_check_inner (B : Blt mg) (T : Top K mg "check_inner" s_check_inner ["where", "literal", "columns"]) (E_BadProgram : ErrK P w K mg base "BadProgram" ["where", "why"]) (C_is_comparison_literal : Cal P w K mg base 12 "is_comparison_literal" 1 g_is_comparison_literal) (C_check_comparison : Cal P w K mg base 12 "check_comparison" 2 g_check_comparison) (C_is_atom_literal : Cal P w K mg base 12 "is_atom_literal" 1 g_is_atom_literal) (C_check_terms : Cal P w K mg base 12 "check_terms" 4 g_check_terms) : Cal P w K mg base 13 "check_inner" 3 g_check_inner :=
  cal_of T sc_check_inner fun c f cdv A outer s H E hr hx bd => ss_one (s_if (t_tr (d_call C_is_comparison_literal bd.tk hr rfl rfl (b_v (d_v 1) (b_nil)))) (ss_one (s_expr (d_call C_check_comparison bd.tk hr rfl rfl (b_v (d_v 0) (b_v (d_v 1) (b_nil)))))) (ss_one (s_if (t_w (w_and (t_tr (d_call C_is_atom_literal bd.tk hr rfl rfl (b_v (d_v 1) (b_nil)))) (w_and1 (t_eq hr.units (d_pkIx 1 (room65 hr) (d_int)) (d_str))))) (ss_one (s_expr (d_call C_check_terms bd.tk hr rfl rfl (b_v (d_v 0) (b_v (d_pkIx 1 (room65 hr) (d_int)) (b_v (d_pkIx 1 (room65 hr) (d_int)) (b_v (d_v 2) (b_nil)))))))) (ss_one (s_raise E_BadProgram (hr.mono (by first | decide | omega)) rfl bd.tk rfl (a_cons (d_v 0) (a_cons (d_str) (a_nil))))))))
theorem ok_check_aggregate (B : Blt mg) (T : Top K mg "check_aggregate" s_check_aggregate ["where", "literal", "columns"]) (G_MOST_INNER_LITERALS : Gv ⟨K, P, w, mg⟩ "MOST_INNER_LITERALS" v_MOST_INNER_LITERALS) (G_MOST_OWN_VARIABLES : Gv ⟨K, P, w, mg⟩ "MOST_OWN_VARIABLES" v_MOST_OWN_VARIABLES) (E_BadProgram : ErrK P w K mg base "BadProgram" ["where", "why"]) (C_check_expression : Cal P w K mg base 13 "check_expression" 3 (g_check_expression 7)) (C_is_variable : Cal P w K mg base 13 "is_variable" 1 g_is_variable) (C_check_inner : Cal P w K mg base 13 "check_inner" 3 g_check_inner) : Cal P w K mg base 14 "check_aggregate" 3 g_check_aggregate :=
  cal_of T sc_check_aggregate fun c f cdv A outer s H E hr hx bd => ss_cons (s_expr (d_call C_check_expression bd.tk hr rfl rfl (b_v (d_v 0) (b_v (d_pkIx 1 (room65 hr) (d_int)) (b_v (d_int) (b_nil))))))
      (ss_cons (s_par2 3 4 rfl sc_check_aggregate.nd (a_cons (d_pkIx 1 (room65 hr) (d_int)) (a_cons (d_pkIx 1 (room65 hr) (d_int)) (a_nil))))
      (ss_cons (s_if (t_not (t_tr (d_all rfl rfl B.all_ (d_lc (own := [("variable", 7)]) rfl sc_check_aggregate.nd (i_seq (d_v 3)) (blkOk_by (N := N_check_aggregate) (sc := (defScope s_check_aggregate)) (own := [("variable", 7)]) (by decide +kernel)) (fun _ _ _ _ _ => (by first | exact pg_name (i := 7) sc_check_aggregate.nd rfl (Or.inl rfl) | exact pg_name (i := 7) sc_check_aggregate.nd rfl (Or.inr rfl))) (fun c => evg_v) (by decide) (fun c hce _ _ _ _ _ => f_nil) (fun c hce _ _ _ _ _ => d_call C_is_variable (tk_no hce) hr rfl rfl (b_v (d_v 7) (b_nil))))))) (ss_one (s_raise E_BadProgram (hr.mono (by first | decide | omega)) rfl bd.tk rfl (a_cons (d_v 0) (a_cons (d_str) (a_nil))))) (ss_nil))
      (ss_cons (s_if (t_w (w_or (t_not (t_chain q_le q_le (d_int) (d_len rfl B.len_ (d_v 3)) (d_glob G_MOST_OWN_VARIABLES rfl))) (w_or1 (t_lt (d_len rfl B.len_ (d_dc (own := [("name", 8)]) (room65 hr) rfl sc_check_aggregate.nd (i_seq (d_v 3)) (blkOk_by (N := N_check_aggregate) (sc := (defScope s_check_aggregate)) (own := [("name", 8)]) (by decide +kernel)) (fun _ _ _ _ _ => (by first | exact pg_name (i := 8) sc_check_aggregate.nd rfl (Or.inl rfl) | exact pg_name (i := 8) sc_check_aggregate.nd rfl (Or.inr rfl))) (fun c => evg_v) (by decide) (fun c hce _ _ _ _ _ => f_nil) (fun c hce _ _ _ _ _ => d_v 8) (fun c hce _ _ _ _ _ => d_bl))) (d_len rfl B.len_ (d_v 3)))))) (ss_one (s_raise E_BadProgram (hr.mono (by first | decide | omega)) rfl bd.tk rfl (a_cons (d_v 0) (a_cons (d_str) (a_nil))))) (ss_nil))
      (ss_cons (s_if (t_not (t_chain q_le q_le (d_int) (d_len rfl B.len_ (d_v 4)) (d_glob G_MOST_INNER_LITERALS rfl))) (ss_one (s_raise E_BadProgram (hr.mono (by first | decide | omega)) rfl bd.tk rfl (a_cons (d_v 0) (a_cons (d_str) (a_nil))))) (ss_nil))
      (ss_one (s_for bd.po rfl (i_enum rfl B.enumerate_ (d_v 4)) (pg_tup rfl (pgs_cons (by first | exact pg_name (i := 5) sc_check_aggregate.nd rfl (Or.inl rfl) | exact pg_name (i := 5) sc_check_aggregate.nd rfl (Or.inr rfl)) (pgs_cons (by first | exact pg_name (i := 6) sc_check_aggregate.nd rfl (Or.inl rfl) | exact pg_name (i := 6) sc_check_aggregate.nd rfl (Or.inr rfl)) (pgs_nil)))) (evg_t (evgs_cons (evgs_cons (evgs_nil))) rfl) (ss_one (s_expr (d_call C_check_inner bd.tk hr rfl rfl (b_v (d_add (d_v 0) (d_tup (a_cons (d_v 5) (a_nil)))) (b_v (d_v 6) (b_v (d_v 2) (b_nil)))))))))))))
theorem ok_check_literal (B : Blt mg) (T : Top K mg "check_literal" s_check_literal ["where", "literal", "columns"]) (E_BadProgram : ErrK P w K mg base "BadProgram" ["where", "why"]) (C_is_atom_literal : Cal P w K mg base 14 "is_atom_literal" 1 g_is_atom_literal) (C_check_terms : Cal P w K mg base 14 "check_terms" 4 g_check_terms) (C_is_comparison_literal : Cal P w K mg base 14 "is_comparison_literal" 1 g_is_comparison_literal) (C_check_comparison : Cal P w K mg base 14 "check_comparison" 2 g_check_comparison) (C_is_aggregate_literal : Cal P w K mg base 14 "is_aggregate_literal" 1 g_is_aggregate_literal) (C_check_aggregate : Cal P w K mg base 14 "check_aggregate" 3 g_check_aggregate) : Cal P w K mg base 15 "check_literal" 3 g_check_literal :=
  cal_of T sc_check_literal fun c f cdv A outer s H E hr hx bd => ss_one (s_if (t_tr (d_call C_is_atom_literal bd.tk hr rfl rfl (b_v (d_v 1) (b_nil)))) (ss_one (s_expr (d_call C_check_terms bd.tk hr rfl rfl (b_v (d_v 0) (b_v (d_pkIx 1 (room65 hr) (d_int)) (b_v (d_pkIx 1 (room65 hr) (d_int)) (b_v (d_v 2) (b_nil)))))))) (ss_one (s_if (t_tr (d_call C_is_comparison_literal bd.tk hr rfl rfl (b_v (d_v 1) (b_nil)))) (ss_one (s_expr (d_call C_check_comparison bd.tk hr rfl rfl (b_v (d_v 0) (b_v (d_v 1) (b_nil)))))) (ss_one (s_if (t_tr (d_call C_is_aggregate_literal bd.tk hr rfl rfl (b_v (d_v 1) (b_nil)))) (ss_one (s_expr (d_call C_check_aggregate bd.tk hr rfl rfl (b_v (d_v 0) (b_v (d_v 1) (b_v (d_v 2) (b_nil))))))) (ss_one (s_raise E_BadProgram (hr.mono (by first | decide | omega)) rfl bd.tk rfl (a_cons (d_v 0) (a_cons (d_str) (a_nil))))))))))
theorem ok_term_variables (B : Blt mg) (T : Top K mg "term_variables" s_term_variables ["terms"])  (C_is_variable : Cal P w K mg base 2 "is_variable" 1 g_is_variable) : Cal P w K mg base 3 "term_variables" 1 g_term_variables :=
  cal_of T sc_term_variables fun c f cdv A outer s H E hr hx bd => ss_one (s_ret (d_lc (own := [("term", 1)]) rfl sc_term_variables.nd (i_seq (d_v 0)) (blkOk_by (N := N_term_variables) (sc := (defScope s_term_variables)) (own := [("term", 1)]) (by decide +kernel)) (fun _ _ _ _ _ => (by first | exact pg_name (i := 1) sc_term_variables.nd rfl (Or.inl rfl) | exact pg_name (i := 1) sc_term_variables.nd rfl (Or.inr rfl))) (fun c => evg_v) (by decide) (fun c hce _ _ _ _ _ => f_one (t_tr (d_call C_is_variable (tk_no hce) hr rfl rfl (b_v (d_v 1) (b_nil))))) (fun c hce _ _ _ _ _ => d_v 1)))
theorem ok_is_aggregate (B : Blt mg) (T : Top K mg "is_aggregate" s_is_aggregate ["literal"]) (G_OPERATIONS : Gv ⟨K, P, w, mg⟩ "OPERATIONS" v_OPERATIONS)  : Cal P w K mg base 1 "is_aggregate" 1 g_is_aggregate :=
  cal_of T sc_is_aggregate fun c f cdv A outer s H E hr hx bd => ss_one (s_ret (d_in (room65 hr) (d_pkIx 0 (room65 hr) (d_int)) (d_glob G_OPERATIONS rfl)))
theorem ok_outer_expressions (B : Blt mg) (T : Top K mg "outer_expressions" s_outer_expressions ["literal"]) (G_COMPARISONS : Gv ⟨K, P, w, mg⟩ "COMPARISONS" v_COMPARISONS) (C_is_aggregate : Cal P w K mg base 1 "is_aggregate" 1 g_is_aggregate) : Cal P w K mg base 2 "outer_expressions" 1 g_outer_expressions :=
  cal_of T sc_outer_expressions fun c f cdv A outer s H E hr hx bd => ss_cons (s_if (t_in (room65 hr) (d_pkIx 0 (room65 hr) (d_int)) (d_glob G_COMPARISONS rfl)) (ss_one (s_ret (d_lst (a_cons (d_pkIx 0 (room65 hr) (d_int)) (a_cons (d_pkIx 0 (room65 hr) (d_int)) (a_nil)))))) (ss_nil))
      (ss_one (s_ret (d_if (t_tr (d_call C_is_aggregate bd.tk hr rfl rfl (b_v (d_v 0) (b_nil)))) (d_lst (a_cons (d_pkIx 0 (room65 hr) (d_int)) (a_nil))) (d_lst (a_nil)))))
theorem st_expression_variables {k : Nat} {self : FD} (B : Blt mg) (T : Top K mg "expression_variables" s_expression_variables ["expression"])   (C_expression_variables : Cal P w K mg base (k + 0) "expression_variables" 1 self) : Cal P w K mg base (k + 0 + 1) "expression_variables" 1 (fn 1 (b_expression_variables self)) :=
  cal_of T sc_expression_variables fun c f cdv A outer s H E hr hx bd => ss_cons (s_if (t_eq hr.units (d_pkIx 0 (room65 hr) (d_int)) (d_str)) (ss_one (s_ret (d_lst (a_nil)))) (ss_nil))
      (ss_cons (s_if (t_eq hr.units (d_pkIx 0 (room65 hr) (d_int)) (d_str)) (ss_one (s_ret (d_lst (a_cons (d_pkIx 0 (room65 hr) (d_int)) (a_nil))))) (ss_nil))
      (ss_one (s_ret (d_add (d_call C_expression_variables bd.tk hr rfl rfl (b_v (d_pkIx 0 (room65 hr) (d_int)) (b_nil))) (d_call C_expression_variables bd.tk hr rfl rfl (b_v (d_pkIx 0 (room65 hr) (d_int)) (b_nil)))))))
theorem ok_expression_variables (B : Blt mg) (T : Top K mg "expression_variables" s_expression_variables ["expression"])   : ∀ k : Nat, Cal P w K mg base (k + 1) "expression_variables" 1 (g_expression_variables k)
  | 0 => (cal_bad (k := 0) T sc_expression_variables).mono (by omega)
  | k + 1 => (st_expression_variables (k := k + 1) B T   ((ok_expression_variables B T   k).mono (by omega))).mono (by omega)
theorem ok_outer_variables (B : Blt mg) (T : Top K mg "outer_variables" s_outer_variables ["literal"]) (G_TERM_COMPARISONS : Gv ⟨K, P, w, mg⟩ "TERM_COMPARISONS" v_TERM_COMPARISONS) (C_term_variables : Cal P w K mg base 7 "term_variables" 1 g_term_variables) (C_outer_expressions : Cal P w K mg base 7 "outer_expressions" 1 g_outer_expressions) (C_expression_variables : Cal P w K mg base 7 "expression_variables" 1 (g_expression_variables 6)) : Cal P w K mg base 8 "outer_variables" 1 g_outer_variables :=
  cal_of T sc_outer_variables fun c f cdv A outer s H E hr hx bd => ss_cons (s_if (t_in (room65 hr) (d_pkIx 0 (room65 hr) (d_int)) (d_tup (a_cons (d_str) (a_cons (d_str) (a_nil))))) (ss_one (s_ret (d_call C_term_variables bd.tk hr rfl rfl (b_v (d_pkIx 0 (room65 hr) (d_int)) (b_nil))))) (ss_nil))
      (ss_cons (s_if (t_in (room65 hr) (d_pkIx 0 (room65 hr) (d_int)) (d_glob G_TERM_COMPARISONS rfl)) (ss_one (s_ret (d_call C_term_variables bd.tk hr rfl rfl (b_v (d_sl (d_v 0) (o_some (d_int)) (o_none)) (b_nil))))) (ss_nil))
      (ss_cons (s_set 1 sc_outer_variables.nd (d_lst (a_nil)))
      (ss_cons (s_for bd.po rfl (i_seq (d_call C_outer_expressions bd.tk hr rfl rfl (b_v (d_v 0) (b_nil)))) ((by first | exact pg_name (i := 2) sc_outer_variables.nd rfl (Or.inl rfl) | exact pg_name (i := 2) sc_outer_variables.nd rfl (Or.inr rfl))) (evg_v) (ss_one (s_extA 1 (d_call C_expression_variables bd.tk hr rfl rfl (b_v (d_v 2) (b_nil))) (pe_bm PySem.F.plainAttrs_list PySem.F.slot_list_extend PySem.F.type_list_extend mt_extA (pv 1) (pa_cons (d_call C_expression_variables bd.tk hr rfl rfl (b_v (d_v 2) (b_nil))) pa_nil)))))
      (ss_one (s_ret (d_mv 1))))))
theorem ok_once (B : Blt mg) (T : Top K mg "once" s_once ["names"])   : Cal P w K mg base 1 "once" 1 g_once :=
  cal_of T sc_once fun c f cdv A outer s H E hr hx bd => ss_one (s_ret (d_listA rfl rfl B.list_ (d_dc (own := [("name", 1)]) (room65 hr) rfl sc_once.nd (i_seq (d_v 0)) (blkOk_by (N := N_once) (sc := (defScope s_once)) (own := [("name", 1)]) (by decide +kernel)) (fun _ _ _ _ _ => (by first | exact pg_name (i := 1) sc_once.nd rfl (Or.inl rfl) | exact pg_name (i := 1) sc_once.nd rfl (Or.inr rfl))) (fun c => evg_v) (by decide) (fun c hce _ _ _ _ _ => f_nil) (fun c hce _ _ _ _ _ => d_v 1) (fun c hce _ _ _ _ _ => d_bl))))
theorem ok_rule_variables (B : Blt mg) (T : Top K mg "rule_variables" s_rule_variables ["rule"])  (C_term_variables : Cal P w K mg base 8 "term_variables" 1 g_term_variables) (C_outer_variables : Cal P w K mg base 8 "outer_variables" 1 g_outer_variables) (C_once : Cal P w K mg base 8 "once" 1 g_once) : Cal P w K mg base 9 "rule_variables" 1 g_rule_variables :=
  cal_of T sc_rule_variables fun c f cdv A outer s H E hr hx bd => ss_cons (s_set 1 sc_rule_variables.nd (d_call C_term_variables bd.tk hr rfl rfl (b_v (d_pkIx 0 (room65 hr) (d_int)) (b_nil))))
      (ss_cons (s_for bd.po rfl (i_seq (d_pkIx 0 (room65 hr) (d_int))) ((by first | exact pg_name (i := 2) sc_rule_variables.nd rfl (Or.inl rfl) | exact pg_name (i := 2) sc_rule_variables.nd rfl (Or.inr rfl))) (evg_v) (ss_one (s_extA 1 (d_call C_outer_variables bd.tk hr rfl rfl (b_v (d_v 2) (b_nil))) (pe_bm PySem.F.plainAttrs_list PySem.F.slot_list_extend PySem.F.type_list_extend mt_extA (pv 1) (pa_cons (d_call C_outer_variables bd.tk hr rfl rfl (b_v (d_v 2) (b_nil))) pa_nil)))))
      (ss_one (s_ret (d_call C_once bd.tk hr rfl rfl (b_v (d_v 1) (b_nil))))))
theorem ok_safe_variables (B : Blt mg) (T : Top K mg "safe_variables" s_safe_variables ["rule"])  (C_term_variables : Cal P w K mg base 3 "term_variables" 1 g_term_variables) : Cal P w K mg base 4 "safe_variables" 1 g_safe_variables :=
  cal_of T sc_safe_variables fun c f cdv A outer s H E hr hx bd => ss_cons (s_set 1 sc_safe_variables.nd (d_call C_term_variables bd.tk hr rfl rfl (b_v (d_pkIx 0 (room65 hr) (d_int)) (b_nil))))
      (ss_cons (s_for bd.po rfl (i_seq (d_pkIx 0 (room65 hr) (d_int))) ((by first | exact pg_name (i := 2) sc_safe_variables.nd rfl (Or.inl rfl) | exact pg_name (i := 2) sc_safe_variables.nd rfl (Or.inr rfl))) (evg_v) (ss_one (s_if (t_eq hr.units (d_pkIx 2 (room65 hr) (d_int)) (d_str)) (ss_one (s_extA 1 (d_call C_term_variables bd.tk hr rfl rfl (b_v (d_pkIx 2 (room65 hr) (d_int)) (b_nil))) (pe_bm PySem.F.plainAttrs_list PySem.F.slot_list_extend PySem.F.type_list_extend mt_extA (pv 1) (pa_cons (d_call C_term_variables bd.tk hr rfl rfl (b_v (d_pkIx 2 (room65 hr) (d_int)) (b_nil))) pa_nil)))) (ss_nil))))
      (ss_one (s_ret (d_mv 1))))
theorem ok_inner_literals (B : Blt mg) (T : Top K mg "inner_literals" s_inner_literals ["literal"])  (C_is_aggregate : Cal P w K mg base 1 "is_aggregate" 1 g_is_aggregate) : Cal P w K mg base 2 "inner_literals" 1 g_inner_literals :=
  cal_of T sc_inner_literals fun c f cdv A outer s H E hr hx bd => ss_one (s_ret (d_if (t_tr (d_call C_is_aggregate bd.tk hr rfl rfl (b_v (d_v 0) (b_nil)))) (d_pkIx 0 (room65 hr) (d_int)) (d_tup (a_nil))))
theorem ok_inner_variables (B : Blt mg) (T : Top K mg "inner_variables" s_inner_variables ["literal"])  (C_inner_literals : Cal P w K mg base 8 "inner_literals" 1 g_inner_literals) (C_outer_variables : Cal P w K mg base 8 "outer_variables" 1 g_outer_variables) : Cal P w K mg base 9 "inner_variables" 1 g_inner_variables :=
  cal_of T sc_inner_variables fun c f cdv A outer s H E hr hx bd => ss_cons (s_set 1 sc_inner_variables.nd (d_lst (a_nil)))
      (ss_cons (s_for bd.po rfl (i_seq (d_call C_inner_literals bd.tk hr rfl rfl (b_v (d_v 0) (b_nil)))) ((by first | exact pg_name (i := 2) sc_inner_variables.nd rfl (Or.inl rfl) | exact pg_name (i := 2) sc_inner_variables.nd rfl (Or.inr rfl))) (evg_v) (ss_one (s_extA 1 (d_call C_outer_variables bd.tk hr rfl rfl (b_v (d_v 2) (b_nil))) (pe_bm PySem.F.plainAttrs_list PySem.F.slot_list_extend PySem.F.type_list_extend mt_extA (pv 1) (pa_cons (d_call C_outer_variables bd.tk hr rfl rfl (b_v (d_v 2) (b_nil))) pa_nil)))))
      (ss_one (s_ret (d_mv 1))))
theorem ok_literal_atoms (B : Blt mg) (T : Top K mg "literal_atoms" s_literal_atoms ["literal"])  (C_inner_literals : Cal P w K mg base 2 "inner_literals" 1 g_inner_literals) : Cal P w K mg base 3 "literal_atoms" 1 g_literal_atoms :=
  cal_of T sc_literal_atoms fun c f cdv A outer s H E hr hx bd => ss_cons (s_if (t_in (room65 hr) (d_pkIx 0 (room65 hr) (d_int)) (d_tup (a_cons (d_str) (a_cons (d_str) (a_nil))))) (ss_one (s_ret (d_lst (a_cons (d_tup (a_cons (d_pkIx 0 (room65 hr) (d_int)) (a_cons (d_pkIx 0 (room65 hr) (d_int)) (a_nil)))) (a_nil))))) (ss_nil))
      (ss_one (s_ret (d_lc (own := [("inner", 1)]) rfl sc_literal_atoms.nd (i_seq (d_call C_inner_literals bd.tk hr rfl rfl (b_v (d_v 0) (b_nil)))) (blkOk_by (N := N_literal_atoms) (sc := (defScope s_literal_atoms)) (own := [("inner", 1)]) (by decide +kernel)) (fun _ _ _ _ _ => (by first | exact pg_name (i := 1) sc_literal_atoms.nd rfl (Or.inl rfl) | exact pg_name (i := 1) sc_literal_atoms.nd rfl (Or.inr rfl))) (fun c => evg_v) (by decide) (fun c hce _ _ _ _ _ => f_one (t_eq hr.units (d_pkIx 1 (room65 hr) (d_int)) (d_str))) (fun c hce _ _ _ _ _ => d_tup (a_cons (d_pkIx 1 (room65 hr) (d_int)) (a_cons (d_pkIx 1 (room65 hr) (d_int)) (a_nil)))))))
theorem ok_check_scope (B : Blt mg) (T : Top K mg "check_scope" s_check_scope ["where", "literal", "variables", "taken"]) (E_BadProgram : ErrK P w K mg base "BadProgram" ["where", "why"]) (C_inner_variables : Cal P w K mg base 9 "inner_variables" 1 g_inner_variables) (C_literal_atoms : Cal P w K mg base 9 "literal_atoms" 1 g_literal_atoms) (C_term_variables : Cal P w K mg base 9 "term_variables" 1 g_term_variables) : Cal P w K mg base 10 "check_scope" 4 g_check_scope :=
  cal_of T sc_check_scope fun c f cdv A outer s H E hr hx bd => ss_cons (s_set 4 sc_check_scope.nd (d_pkIx 1 (room65 hr) (d_int)))
      (ss_cons (s_if (t_tr (d_any rfl rfl B.any_ (d_lc (own := [("variable", 8)]) rfl sc_check_scope.nd (i_seq (d_v 4)) (blkOk_by (N := N_check_scope) (sc := (defScope s_check_scope)) (own := [("variable", 8)]) (by decide +kernel)) (fun _ _ _ _ _ => (by first | exact pg_name (i := 8) sc_check_scope.nd rfl (Or.inl rfl) | exact pg_name (i := 8) sc_check_scope.nd rfl (Or.inr rfl))) (fun c => evg_v) (by decide) (fun c hce _ _ _ _ _ => f_nil) (fun c hce _ _ _ _ _ => d_inP 3 (room65 hr) (d_v 8))))) (ss_one (s_raise E_BadProgram (hr.mono (by first | decide | omega)) rfl bd.tk rfl (a_cons (d_v 0) (a_cons (d_str) (a_nil))))) (ss_nil))
      (ss_cons (s_if (t_not (t_tr (d_all rfl rfl B.all_ (d_lc (own := [("variable", 8)]) rfl sc_check_scope.nd (i_seq (d_call C_inner_variables bd.tk hr rfl rfl (b_v (d_v 1) (b_nil)))) (blkOk_by (N := N_check_scope) (sc := (defScope s_check_scope)) (own := [("variable", 8)]) (by decide +kernel)) (fun _ _ _ _ _ => (by first | exact pg_name (i := 8) sc_check_scope.nd rfl (Or.inl rfl) | exact pg_name (i := 8) sc_check_scope.nd rfl (Or.inr rfl))) (fun c => evg_v) (by decide) (fun c hce _ _ _ _ _ => f_nil) (fun c hce _ _ _ _ _ => d_or (d_inP 2 (room65 hr) (d_v 8)) (d_one (d_inP 4 (room65 hr) (d_v 8)))))))) (ss_one (s_raise E_BadProgram (hr.mono (by first | decide | omega)) rfl bd.tk rfl (a_cons (d_v 0) (a_cons (d_str) (a_nil))))) (ss_nil))
      (ss_cons (s_set 5 sc_check_scope.nd (d_lst (a_nil)))
      (ss_cons (s_for bd.po rfl (i_seq (d_call C_literal_atoms bd.tk hr rfl rfl (b_v (d_v 1) (b_nil)))) (pg_tup rfl (pgs_cons (by first | exact pg_name (i := 6) sc_check_scope.nd rfl (Or.inl rfl) | exact pg_name (i := 6) sc_check_scope.nd rfl (Or.inr rfl)) (pgs_cons (by first | exact pg_name (i := 7) sc_check_scope.nd rfl (Or.inl rfl) | exact pg_name (i := 7) sc_check_scope.nd rfl (Or.inr rfl)) (pgs_nil)))) (evg_t (evgs_cons (evgs_cons (evgs_nil))) rfl) (ss_one (s_extA 5 (d_call C_term_variables bd.tk hr rfl rfl (b_v (d_v 7) (b_nil))) (pe_bm PySem.F.plainAttrs_list PySem.F.slot_list_extend PySem.F.type_list_extend mt_extA (pv 5) (pa_cons (d_call C_term_variables bd.tk hr rfl rfl (b_v (d_v 7) (b_nil))) pa_nil)))))
      (ss_cons (s_if (t_not (t_tr (d_all rfl rfl B.all_ (d_lc (own := [("variable", 8)]) rfl sc_check_scope.nd (i_seq (d_v 4)) (blkOk_by (N := N_check_scope) (sc := (defScope s_check_scope)) (own := [("variable", 8)]) (by decide +kernel)) (fun _ _ _ _ _ => (by first | exact pg_name (i := 8) sc_check_scope.nd rfl (Or.inl rfl) | exact pg_name (i := 8) sc_check_scope.nd rfl (Or.inr rfl))) (fun c => evg_v) (by decide) (fun c hce _ _ _ _ _ => f_nil) (fun c hce _ _ _ _ _ => d_inP 5 (room65 hr) (d_v 8)))))) (ss_one (s_raise E_BadProgram (hr.mono (by first | decide | omega)) rfl bd.tk rfl (a_cons (d_v 0) (a_cons (d_str) (a_nil))))) (ss_nil))
      (ss_one (s_for bd.po rfl (i_seq (d_v 4)) ((by first | exact pg_name (i := 8) sc_check_scope.nd rfl (Or.inl rfl) | exact pg_name (i := 8) sc_check_scope.nd rfl (Or.inr rfl))) (evg_v) (ss_one (s_putK 3 (room65 hr) (d_v 8) (d_bl))))))))))
theorem ok_rule_atoms (B : Blt mg) (T : Top K mg "rule_atoms" s_rule_atoms ["rule"])  (C_literal_atoms : Cal P w K mg base 3 "literal_atoms" 1 g_literal_atoms) : Cal P w K mg base 4 "rule_atoms" 1 g_rule_atoms :=
  cal_of T sc_rule_atoms fun c f cdv A outer s H E hr hx bd => ss_cons (s_set 1 sc_rule_atoms.nd (d_lst (a_cons (d_tup (a_cons (d_pkIx 0 (room65 hr) (d_int)) (a_cons (d_pkIx 0 (room65 hr) (d_int)) (a_nil)))) (a_nil))))
      (ss_cons (s_for bd.po rfl (i_seq (d_pkIx 0 (room65 hr) (d_int))) ((by first | exact pg_name (i := 2) sc_rule_atoms.nd rfl (Or.inl rfl) | exact pg_name (i := 2) sc_rule_atoms.nd rfl (Or.inr rfl))) (evg_v) (ss_one (s_extA 1 (d_call C_literal_atoms bd.tk hr rfl rfl (b_v (d_v 2) (b_nil))) (pe_bm PySem.F.plainAttrs_list PySem.F.slot_list_extend PySem.F.type_list_extend mt_extA (pv 1) (pa_cons (d_call C_literal_atoms bd.tk hr rfl rfl (b_v (d_v 2) (b_nil))) pa_nil)))))
      (ss_one (s_ret (d_mv 1))))
theorem ok_variable_values (B : Blt mg) (T : Top K mg "variable_values" s_variable_values ["rule", "columns"])  (C_rule_atoms : Cal P w K mg base 4 "rule_atoms" 1 g_rule_atoms) (C_is_variable : Cal P w K mg base 4 "is_variable" 1 g_is_variable) : Cal P w K mg base 5 "variable_values" 2 g_variable_values :=
  cal_of T sc_variable_values fun c f cdv A outer s H E hr hx bd => ss_cons (s_set 2 sc_variable_values.nd (d_dict0))
      (ss_cons (s_for bd.po rfl (i_seq (d_call C_rule_atoms bd.tk hr rfl rfl (b_v (d_v 0) (b_nil)))) (pg_tup rfl (pgs_cons (by first | exact pg_name (i := 3) sc_variable_values.nd rfl (Or.inl rfl) | exact pg_name (i := 3) sc_variable_values.nd rfl (Or.inr rfl)) (pgs_cons (by first | exact pg_name (i := 4) sc_variable_values.nd rfl (Or.inl rfl) | exact pg_name (i := 4) sc_variable_values.nd rfl (Or.inr rfl)) (pgs_nil)))) (evg_t (evgs_cons (evgs_cons (evgs_nil))) rfl) (ss_one (s_for bd.po rfl (i_zipA rfl B.zip_ (d_v 4) (d_pkIx 1 (room65 hr) (d_v 3))) (pg_tup rfl (pgs_cons (by first | exact pg_name (i := 5) sc_variable_values.nd rfl (Or.inl rfl) | exact pg_name (i := 5) sc_variable_values.nd rfl (Or.inr rfl)) (pgs_cons (by first | exact pg_name (i := 6) sc_variable_values.nd rfl (Or.inl rfl) | exact pg_name (i := 6) sc_variable_values.nd rfl (Or.inr rfl)) (pgs_nil)))) (evg_t (evgs_cons (evgs_cons (evgs_nil))) rfl) (ss_one (s_if (t_tr (d_call C_is_variable bd.tk hr rfl rfl (b_v (d_v 5) (b_nil)))) (ss_one (s_putK 2 (room65 hr) (d_v 5) (d_tuple rfl B.tuple_ (d_lc (own := [("value", 7)]) rfl sc_variable_values.nd (i_seq (d_get2P 2 (room65 hr) (d_v 5) (d_v 6))) (blkOk_by (N := N_variable_values) (sc := (defScope s_variable_values)) (own := [("value", 7)]) (by decide +kernel)) (fun _ _ _ _ _ => (by first | exact pg_name (i := 7) sc_variable_values.nd rfl (Or.inl rfl) | exact pg_name (i := 7) sc_variable_values.nd rfl (Or.inr rfl))) (fun c => evg_v) (by decide) (fun c hce _ _ _ _ _ => f_one (t_inP 6 (room65 hr) (d_v 7))) (fun c hce _ _ _ _ _ => d_v 7))))) (ss_nil))))))
      (ss_one (s_ret (d_mv 2))))
theorem ok_own_variables (B : Blt mg) (T : Top K mg "own_variables" s_own_variables ["literal"])  (C_is_aggregate : Cal P w K mg base 1 "is_aggregate" 1 g_is_aggregate) : Cal P w K mg base 2 "own_variables" 1 g_own_variables :=
  cal_of T sc_own_variables fun c f cdv A outer s H E hr hx bd => ss_one (s_ret (d_if (t_tr (d_call C_is_aggregate bd.tk hr rfl rfl (b_v (d_v 0) (b_nil)))) (d_pkIx 0 (room65 hr) (d_int)) (d_tup (a_nil))))
theorem ok_number_variables (B : Blt mg) (T : Top K mg "number_variables" s_number_variables ["literal"])  (C_inner_literals : Cal P w K mg base 7 "inner_literals" 1 g_inner_literals) (C_outer_expressions : Cal P w K mg base 7 "outer_expressions" 1 g_outer_expressions) (C_expression_variables : Cal P w K mg base 7 "expression_variables" 1 (g_expression_variables 6)) (C_is_aggregate : Cal P w K mg base 7 "is_aggregate" 1 g_is_aggregate) (C_own_variables : Cal P w K mg base 7 "own_variables" 1 g_own_variables) : Cal P w K mg base 8 "number_variables" 1 g_number_variables :=
  cal_of T sc_number_variables fun c f cdv A outer s H E hr hx bd => ss_cons (s_set 1 sc_number_variables.nd (d_lst (a_nil)))
      (ss_cons (s_set 2 sc_number_variables.nd (d_lst (a_cons (d_v 0) (a_nil))))
      (ss_cons (s_extA 2 (d_call C_inner_literals bd.tk hr rfl rfl (b_v (d_v 0) (b_nil))) (pe_bm PySem.F.plainAttrs_list PySem.F.slot_list_extend PySem.F.type_list_extend mt_extA (pv 2) (pa_cons (d_call C_inner_literals bd.tk hr rfl rfl (b_v (d_v 0) (b_nil))) pa_nil)))
      (ss_cons (s_for bd.po rfl (i_seq (d_v 2)) ((by first | exact pg_name (i := 3) sc_number_variables.nd rfl (Or.inl rfl) | exact pg_name (i := 3) sc_number_variables.nd rfl (Or.inr rfl))) (evg_v) (ss_one (s_for bd.po rfl (i_seq (d_call C_outer_expressions bd.tk hr rfl rfl (b_v (d_v 3) (b_nil)))) ((by first | exact pg_name (i := 4) sc_number_variables.nd rfl (Or.inl rfl) | exact pg_name (i := 4) sc_number_variables.nd rfl (Or.inr rfl))) (evg_v) (ss_one (s_extA 1 (d_call C_expression_variables bd.tk hr rfl rfl (b_v (d_v 4) (b_nil))) (pe_bm PySem.F.plainAttrs_list PySem.F.slot_list_extend PySem.F.type_list_extend mt_extA (pv 1) (pa_cons (d_call C_expression_variables bd.tk hr rfl rfl (b_v (d_v 4) (b_nil))) pa_nil)))))))
      (ss_cons (s_if (t_w (w_and (t_tr (d_call C_is_aggregate bd.tk hr rfl rfl (b_v (d_v 0) (b_nil)))) (w_and1 (t_ne hr.units (d_pkIx 0 (room65 hr) (d_int)) (d_str))))) (ss_one (s_app 1 (d_ix (room65 hr) (d_call C_own_variables bd.tk hr rfl rfl (b_v (d_v 0) (b_nil))) (d_int)) (pe_bm PySem.F.plainAttrs_list PySem.F.slot_list_append PySem.F.type_list_append mt_append (pv 1) (pa_cons (d_ix (room65 hr) (d_call C_own_variables bd.tk hr rfl rfl (b_v (d_v 0) (b_nil))) (d_int)) pa_nil)))) (ss_nil))
      (ss_one (s_ret (d_mv 1)))))))
theorem ok_are_integers (B : Blt mg) (T : Top K mg "are_integers" s_are_integers ["values"])  (C_is_integer : Cal P w K mg base 1 "is_integer" 1 g_is_integer) : Cal P w K mg base 2 "are_integers" 1 g_are_integers :=
  cal_of T sc_are_integers fun c f cdv A outer s H E hr hx bd => ss_one (s_ret (d_all rfl rfl B.all_ (d_lc (own := [("value", 1)]) rfl sc_are_integers.nd (i_seq (d_v 0)) (blkOk_by (N := N_are_integers) (sc := (defScope s_are_integers)) (own := [("value", 1)]) (by decide +kernel)) (fun _ _ _ _ _ => (by first | exact pg_name (i := 1) sc_are_integers.nd rfl (Or.inl rfl) | exact pg_name (i := 1) sc_are_integers.nd rfl (Or.inr rfl))) (fun c => evg_v) (by decide) (fun c hce _ _ _ _ _ => f_nil) (fun c hce _ _ _ _ _ => d_call C_is_integer (tk_no hce) hr rfl rfl (b_v (d_v 1) (b_nil))))))
theorem ok_check_variables (B : Blt mg) (T : Top K mg "check_variables" s_check_variables ["where", "rule", "columns"]) (G_MOST_VARIABLES : Gv ⟨K, P, w, mg⟩ "MOST_VARIABLES" v_MOST_VARIABLES) (E_BadProgram : ErrK P w K mg base "BadProgram" ["where", "why"]) (C_rule_variables : Cal P w K mg base 10 "rule_variables" 1 g_rule_variables) (C_safe_variables : Cal P w K mg base 10 "safe_variables" 1 g_safe_variables) (C_is_aggregate : Cal P w K mg base 10 "is_aggregate" 1 g_is_aggregate) (C_check_scope : Cal P w K mg base 10 "check_scope" 4 g_check_scope) (C_variable_values : Cal P w K mg base 10 "variable_values" 2 g_variable_values) (C_number_variables : Cal P w K mg base 10 "number_variables" 1 g_number_variables) (C_are_integers : Cal P w K mg base 10 "are_integers" 1 g_are_integers) : Cal P w K mg base 11 "check_variables" 3 g_check_variables :=
  cal_of T sc_check_variables fun c f cdv A outer s H E hr hx bd => ss_cons (s_dc (own := [("variable", 9)]) 3 (room65 hr) rfl sc_check_variables.nd rfl rfl (swD_true rfl rfl rfl (by decide +kernel)) (i_seq (d_call C_rule_variables bd.tk hr rfl rfl (b_v (d_v 1) (b_nil)))) (blkOk_by (N := N_check_variables) (sc := (defScope s_check_variables)) (own := [("variable", 9)]) (by decide +kernel)) (fun _ _ _ _ _ => (by first | exact pg_name (i := 9) sc_check_variables.nd rfl (Or.inl rfl) | exact pg_name (i := 9) sc_check_variables.nd rfl (Or.inr rfl))) (fun c => evg_v) (by decide) (fun c hce _ _ _ _ _ => f_nil) (fun c hce _ _ _ _ _ => d_v 9) (fun c hce _ _ _ _ _ => d_bl))
      (ss_cons (s_if (t_gt (d_len rfl B.len_ (d_v 3)) (d_glob G_MOST_VARIABLES rfl)) (ss_one (s_raise E_BadProgram (hr.mono (by first | decide | omega)) rfl bd.tk rfl (a_cons (d_v 0) (a_cons (d_str) (a_nil))))) (ss_nil))
      (ss_cons (s_set 4 sc_check_variables.nd (d_call C_safe_variables bd.tk hr rfl rfl (b_v (d_v 1) (b_nil))))
      (ss_cons (s_if (t_not (t_tr (d_all rfl rfl B.all_ (d_lc (own := [("variable", 9)]) rfl sc_check_variables.nd (i_seq (d_v 3)) (blkOk_by (N := N_check_variables) (sc := (defScope s_check_variables)) (own := [("variable", 9)]) (by decide +kernel)) (fun _ _ _ _ _ => (by first | exact pg_name (i := 9) sc_check_variables.nd rfl (Or.inl rfl) | exact pg_name (i := 9) sc_check_variables.nd rfl (Or.inr rfl))) (fun c => evg_v) (by decide) (fun c hce _ _ _ _ _ => f_nil) (fun c hce _ _ _ _ _ => d_inP 4 (room65 hr) (d_v 9)))))) (ss_one (s_raise E_BadProgram (hr.mono (by first | decide | omega)) rfl bd.tk rfl (a_cons (d_v 0) (a_cons (d_str) (a_nil))))) (ss_nil))
      (ss_cons (s_set 5 sc_check_variables.nd (d_dictA rfl rfl B.dict_ (d_v 3)))
      (ss_cons (s_for bd.po rfl (i_enum rfl B.enumerate_ (d_pkIx 1 (room65 hr) (d_int))) (pg_tup rfl (pgs_cons (by first | exact pg_name (i := 6) sc_check_variables.nd rfl (Or.inl rfl) | exact pg_name (i := 6) sc_check_variables.nd rfl (Or.inr rfl)) (pgs_cons (by first | exact pg_name (i := 7) sc_check_variables.nd rfl (Or.inl rfl) | exact pg_name (i := 7) sc_check_variables.nd rfl (Or.inr rfl)) (pgs_nil)))) (evg_t (evgs_cons (evgs_cons (evgs_nil))) rfl) (ss_one (s_if (t_tr (d_call C_is_aggregate bd.tk hr rfl rfl (b_v (d_v 7) (b_nil)))) (ss_one (s_expr (d_call C_check_scope bd.tk hr rfl rfl (b_v (d_add (d_v 0) (d_tup (a_cons (d_v 6) (a_nil)))) (b_v (d_v 7) (b_v (d_v 3) (b_b 5 (b_nil)))))))) (ss_nil))))
      (ss_cons (s_set 8 sc_check_variables.nd (d_call C_variable_values bd.tk hr rfl rfl (b_v (d_v 1) (b_v (d_v 2) (b_nil)))))
      (ss_one (s_for bd.po rfl (i_enum rfl B.enumerate_ (d_pkIx 1 (room65 hr) (d_int))) (pg_tup rfl (pgs_cons (by first | exact pg_name (i := 6) sc_check_variables.nd rfl (Or.inl rfl) | exact pg_name (i := 6) sc_check_variables.nd rfl (Or.inr rfl)) (pgs_cons (by first | exact pg_name (i := 7) sc_check_variables.nd rfl (Or.inl rfl) | exact pg_name (i := 7) sc_check_variables.nd rfl (Or.inr rfl)) (pgs_nil)))) (evg_t (evgs_cons (evgs_cons (evgs_nil))) rfl) (ss_one (s_if (t_not (t_tr (d_all rfl rfl B.all_ (d_lc (own := [("variable", 9)]) rfl sc_check_variables.nd (i_seq (d_call C_number_variables bd.tk hr rfl rfl (b_v (d_v 7) (b_nil)))) (blkOk_by (N := N_check_variables) (sc := (defScope s_check_variables)) (own := [("variable", 9)]) (by decide +kernel)) (fun _ _ _ _ _ => (by first | exact pg_name (i := 9) sc_check_variables.nd rfl (Or.inl rfl) | exact pg_name (i := 9) sc_check_variables.nd rfl (Or.inr rfl))) (fun c => evg_v) (by decide) (fun c hce _ _ _ _ _ => f_nil) (fun c hce _ _ _ _ _ => d_call C_are_integers (tk_no hce) hr rfl rfl (b_v (d_pkIx 8 (room65 hr) (d_v 9)) (b_nil))))))) (ss_one (s_raise E_BadProgram (hr.mono (by first | decide | omega)) rfl bd.tk rfl (a_cons (d_add (d_v 0) (d_tup (a_cons (d_v 6) (a_nil)))) (a_cons (d_str) (a_nil))))) (ss_nil)))))))))))
theorem ok_check_rules (B : Blt mg) (T : Top K mg "check_rules" s_check_rules ["rules", "columns"]) (G_MOST_LITERALS : Gv ⟨K, P, w, mg⟩ "MOST_LITERALS" v_MOST_LITERALS) (G_MOST_RULES : Gv ⟨K, P, w, mg⟩ "MOST_RULES" v_MOST_RULES) (E_BadProgram : ErrK P w K mg base "BadProgram" ["where", "why"]) (C_check_part : Cal P w K mg base 15 "check_part" 3 g_check_part) (C_is_rule_form : Cal P w K mg base 15 "is_rule_form" 1 g_is_rule_form) (C_check_terms : Cal P w K mg base 15 "check_terms" 4 g_check_terms) (C_check_literal : Cal P w K mg base 15 "check_literal" 3 g_check_literal) (C_check_variables : Cal P w K mg base 15 "check_variables" 3 g_check_variables) : Cal P w K mg base 16 "check_rules" 2 g_check_rules :=
  cal_of T sc_check_rules fun c f cdv A outer s H E hr hx bd => ss_cons (s_expr (d_call C_check_part bd.tk hr rfl rfl (b_v (d_str) (b_v (d_v 0) (b_v (d_glob G_MOST_RULES rfl) (b_nil))))))
      (ss_one (s_for bd.po rfl (i_enum rfl B.enumerate_ (d_v 0)) (pg_tup rfl (pgs_cons (by first | exact pg_name (i := 2) sc_check_rules.nd rfl (Or.inl rfl) | exact pg_name (i := 2) sc_check_rules.nd rfl (Or.inr rfl)) (pgs_cons (by first | exact pg_name (i := 3) sc_check_rules.nd rfl (Or.inl rfl) | exact pg_name (i := 3) sc_check_rules.nd rfl (Or.inr rfl)) (pgs_nil)))) (evg_t (evgs_cons (evgs_cons (evgs_nil))) rfl) (ss_cons (s_set 4 sc_check_rules.nd (d_tup (a_cons (d_str) (a_cons (d_v 2) (a_nil)))))
      (ss_cons (s_if (t_not (t_tr (d_call C_is_rule_form bd.tk hr rfl rfl (b_v (d_v 3) (b_nil))))) (ss_one (s_raise E_BadProgram (hr.mono (by first | decide | omega)) rfl bd.tk rfl (a_cons (d_v 4) (a_cons (d_str) (a_nil))))) (ss_nil))
      (ss_cons (s_expr (d_call C_check_terms bd.tk hr rfl rfl (b_v (d_v 4) (b_v (d_pkIx 3 (room65 hr) (d_int)) (b_v (d_pkIx 3 (room65 hr) (d_int)) (b_v (d_v 1) (b_nil)))))))
      (ss_cons (s_if (t_gt (d_len rfl B.len_ (d_pkIx 3 (room65 hr) (d_int))) (d_glob G_MOST_LITERALS rfl)) (ss_one (s_raise E_BadProgram (hr.mono (by first | decide | omega)) rfl bd.tk rfl (a_cons (d_v 4) (a_cons (d_str) (a_nil))))) (ss_nil))
      (ss_cons (s_for bd.po rfl (i_enum rfl B.enumerate_ (d_pkIx 3 (room65 hr) (d_int))) (pg_tup rfl (pgs_cons (by first | exact pg_name (i := 5) sc_check_rules.nd rfl (Or.inl rfl) | exact pg_name (i := 5) sc_check_rules.nd rfl (Or.inr rfl)) (pgs_cons (by first | exact pg_name (i := 6) sc_check_rules.nd rfl (Or.inl rfl) | exact pg_name (i := 6) sc_check_rules.nd rfl (Or.inr rfl)) (pgs_nil)))) (evg_t (evgs_cons (evgs_cons (evgs_nil))) rfl) (ss_one (s_expr (d_call C_check_literal bd.tk hr rfl rfl (b_v (d_add (d_v 4) (d_tup (a_cons (d_v 5) (a_nil)))) (b_v (d_v 6) (b_v (d_v 1) (b_nil))))))))
      (ss_one (s_expr (d_call C_check_variables bd.tk hr rfl rfl (b_v (d_v 4) (b_v (d_v 3) (b_v (d_v 1) (b_nil))))))))))))))
theorem ok_is_in_columns (B : Blt mg) (T : Top K mg "is_in_columns" s_is_in_columns ["values", "columns"])  (C_is_value : Cal P w K mg base 3 "is_value" 1 g_is_value) : Cal P w K mg base 4 "is_in_columns" 2 g_is_in_columns :=
  cal_of T sc_is_in_columns fun c f cdv A outer s H E hr hx bd => ss_one (s_ret (d_all rfl rfl B.all_ (d_lc (own := [("value", 2), ("column", 3)]) rfl sc_is_in_columns.nd (i_zipA rfl B.zip_ (d_v 0) (d_v 1)) (blkOk_by (N := N_is_in_columns) (sc := (defScope s_is_in_columns)) (own := [("value", 2), ("column", 3)]) (by decide +kernel)) (fun _ _ _ _ _ => pg_tup rfl (pgs_cons (by first | exact pg_name (i := 2) sc_is_in_columns.nd rfl (Or.inl rfl) | exact pg_name (i := 2) sc_is_in_columns.nd rfl (Or.inr rfl)) (pgs_cons (by first | exact pg_name (i := 3) sc_is_in_columns.nd rfl (Or.inl rfl) | exact pg_name (i := 3) sc_is_in_columns.nd rfl (Or.inr rfl)) (pgs_nil)))) (fun c => evg_t (evgs_cons (evgs_cons (evgs_nil))) rfl) (by decide) (fun c hce _ _ _ _ _ => f_nil) (fun c hce _ _ _ _ _ => d_and (d_call C_is_value (tk_no hce) hr rfl rfl (b_v (d_v 2) (b_nil))) (d_one (d_in (room65 hr) (d_v 2) (d_v 3)))))))
theorem ok_check_facts (B : Blt mg) (T : Top K mg "check_facts" s_check_facts ["facts", "columns"]) (G_MOST_FACTS : Gv ⟨K, P, w, mg⟩ "MOST_FACTS" v_MOST_FACTS) (E_BadProgram : ErrK P w K mg base "BadProgram" ["where", "why"]) (C_check_part : Cal P w K mg base 4 "check_part" 3 g_check_part) (C_is_named : Cal P w K mg base 4 "is_named" 1 g_is_named) (C_is_in_columns : Cal P w K mg base 4 "is_in_columns" 2 g_is_in_columns) : Cal P w K mg base 5 "check_facts" 2 g_check_facts :=
  cal_of T sc_check_facts fun c f cdv A outer s H E hr hx bd => ss_cons (s_expr (d_call C_check_part bd.tk hr rfl rfl (b_v (d_str) (b_v (d_v 0) (b_v (d_glob G_MOST_FACTS rfl) (b_nil))))))
      (ss_cons (s_set 2 sc_check_facts.nd (d_dict0))
      (ss_one (s_for bd.po rfl (i_enum rfl B.enumerate_ (d_v 0)) (pg_tup rfl (pgs_cons (by first | exact pg_name (i := 3) sc_check_facts.nd rfl (Or.inl rfl) | exact pg_name (i := 3) sc_check_facts.nd rfl (Or.inr rfl)) (pgs_cons (by first | exact pg_name (i := 4) sc_check_facts.nd rfl (Or.inl rfl) | exact pg_name (i := 4) sc_check_facts.nd rfl (Or.inr rfl)) (pgs_nil)))) (evg_t (evgs_cons (evgs_cons (evgs_nil))) rfl) (ss_cons (s_set 5 sc_check_facts.nd (d_tup (a_cons (d_str) (a_cons (d_v 3) (a_nil)))))
      (ss_cons (s_if (t_not (t_tr (d_call C_is_named bd.tk hr rfl rfl (b_v (d_v 4) (b_nil))))) (ss_one (s_raise E_BadProgram (hr.mono (by first | decide | omega)) rfl bd.tk rfl (a_cons (d_v 5) (a_cons (d_str) (a_nil))))) (ss_nil))
      (ss_cons (s_unp (is := [6, 7]) rfl (d_v 4) (pgs_cons (by first | exact pg_name (i := 6) sc_check_facts.nd rfl (Or.inl rfl) | exact pg_name (i := 6) sc_check_facts.nd rfl (Or.inr rfl)) (pgs_cons (by first | exact pg_name (i := 7) sc_check_facts.nd rfl (Or.inl rfl) | exact pg_name (i := 7) sc_check_facts.nd rfl (Or.inr rfl)) (pgs_nil))) (fun c => (evgs_cons (evgs_cons (evgs_nil)))) (pg_tup rfl (pgs_cons (by first | exact pg_name (i := 6) sc_check_facts.nd rfl (Or.inl rfl) | exact pg_name (i := 6) sc_check_facts.nd rfl (Or.inr rfl)) (pgs_cons (by first | exact pg_name (i := 7) sc_check_facts.nd rfl (Or.inl rfl) | exact pg_name (i := 7) sc_check_facts.nd rfl (Or.inr rfl)) (pgs_nil)))) rfl)
      (ss_cons (s_if (t_ni (room65 hr) (d_v 6) (d_v 1)) (ss_one (s_raise E_BadProgram (hr.mono (by first | decide | omega)) rfl bd.tk rfl (a_cons (d_v 5) (a_cons (d_str) (a_nil))))) (ss_nil))
      (ss_cons (s_if (t_ne hr.units (d_len rfl B.len_ (d_v 7)) (d_len rfl B.len_ (d_pkIx 1 (room65 hr) (d_v 6)))) (ss_one (s_raise E_BadProgram (hr.mono (by first | decide | omega)) rfl bd.tk rfl (a_cons (d_v 5) (a_cons (d_str) (a_nil))))) (ss_nil))
      (ss_cons (s_if (t_not (t_tr (d_call C_is_in_columns bd.tk hr rfl rfl (b_v (d_v 7) (b_v (d_pkIx 1 (room65 hr) (d_v 6)) (b_nil)))))) (ss_one (s_raise E_BadProgram (hr.mono (by first | decide | omega)) rfl bd.tk rfl (a_cons (d_v 5) (a_cons (d_str) (a_nil))))) (ss_nil))
      (ss_cons (s_if (t_inP 2 (room65 hr) (d_v 4)) (ss_one (s_raise E_BadProgram (hr.mono (by first | decide | omega)) rfl bd.tk rfl (a_cons (d_v 5) (a_cons (d_str) (a_nil))))) (ss_nil))
      (ss_one (s_putK 2 (room65 hr) (d_v 4) (d_bl)))))))))))))
theorem ok_Program___init__ (B : Blt mg) (T : TopNk K mg "Program" "Program.__init__" s_Program___init__ ["self", "kinds", "relations", "rules", "facts"] ["kinds", "relations", "rules", "facts"]) (A_Program__columns : FldK ⟨K, P, w, mg⟩ "Program" "_columns") (A_Program__grounding : FldK ⟨K, P, w, mg⟩ "Program" "_grounding") (A_Program__places : FldK ⟨K, P, w, mg⟩ "Program" "_places") (A_Program__variable_values : FldK ⟨K, P, w, mg⟩ "Program" "_variable_values") (A_Program__variables : FldK ⟨K, P, w, mg⟩ "Program" "_variables") (A_Program_facts : FldK ⟨K, P, w, mg⟩ "Program" "facts") (A_Program_kinds : FldK ⟨K, P, w, mg⟩ "Program" "kinds") (A_Program_relations : FldK ⟨K, P, w, mg⟩ "Program" "relations") (A_Program_rules : FldK ⟨K, P, w, mg⟩ "Program" "rules") (C_check_kinds : Cal P w K mg base 16 "check_kinds" 1 g_check_kinds) (C_check_relations : Cal P w K mg base 16 "check_relations" 2 g_check_relations) (C_check_rules : Cal P w K mg base 16 "check_rules" 2 g_check_rules) (C_check_facts : Cal P w K mg base 16 "check_facts" 2 g_check_facts) (C_rule_variables : Cal P w K mg base 16 "rule_variables" 1 g_rule_variables) (C_variable_values : Cal P w K mg base 16 "variable_values" 2 g_variable_values) : NewKw P w K mg base 17 "Program" ["kinds", "relations", "rules", "facts"] g_Program___init__ :=
  newk_of T rfl sc_Program___init__ fun c f cdv A outer s H E hr hx bd => ss_cons (s_setFd 0 A_Program__columns (d_call C_check_relations bd.tk hr rfl rfl (b_v (d_v 2) (b_v (d_call C_check_kinds bd.tk hr rfl rfl (b_v (d_v 1) (b_nil))) (b_nil)))))
      (ss_cons (s_expr (d_call C_check_rules bd.tk hr rfl rfl (b_v (d_v 3) (b_v (d_fldS 0 A_Program__columns) (b_nil)))))
      (ss_cons (s_expr (d_call C_check_facts bd.tk hr rfl rfl (b_v (d_v 4) (b_v (d_fldS 0 A_Program__columns) (b_nil)))))
      (ss_cons (s_setFd 0 A_Program_kinds (d_v 1))
      (ss_cons (s_setFd 0 A_Program_relations (d_v 2))
      (ss_cons (s_setFd 0 A_Program_rules (d_v 3))
      (ss_cons (s_setFd 0 A_Program_facts (d_v 4))
      (ss_cons (s_setFd 0 A_Program__places (d_dc (own := [("index", 5), ("relation", 6)]) (room65 hr) rfl sc_Program___init__.nd (i_enum rfl B.enumerate_ (d_v 2)) (blkOk_by (N := N_Program___init__) (sc := (defScope s_Program___init__)) (own := [("index", 5), ("relation", 6)]) (by decide +kernel)) (fun _ _ _ _ _ => pg_tup rfl (pgs_cons (by first | exact pg_name (i := 5) sc_Program___init__.nd rfl (Or.inl rfl) | exact pg_name (i := 5) sc_Program___init__.nd rfl (Or.inr rfl)) (pgs_cons (by first | exact pg_name (i := 6) sc_Program___init__.nd rfl (Or.inl rfl) | exact pg_name (i := 6) sc_Program___init__.nd rfl (Or.inr rfl)) (pgs_nil)))) (fun c => evg_t (evgs_cons (evgs_cons (evgs_nil))) rfl) (by decide) (fun c hce _ _ _ _ _ => f_nil) (fun c hce _ _ _ _ _ => d_pkIx 6 (room65 hr) (d_int)) (fun c hce _ _ _ _ _ => d_v 5)))
      (ss_cons (s_setFd 0 A_Program__variables (d_lc (own := [("rule", 7)]) rfl sc_Program___init__.nd (i_seq (d_v 3)) (blkOk_by (N := N_Program___init__) (sc := (defScope s_Program___init__)) (own := [("rule", 7)]) (by decide +kernel)) (fun _ _ _ _ _ => (by first | exact pg_name (i := 7) sc_Program___init__.nd rfl (Or.inl rfl) | exact pg_name (i := 7) sc_Program___init__.nd rfl (Or.inr rfl))) (fun c => evg_v) (by decide) (fun c hce _ _ _ _ _ => f_nil) (fun c hce _ _ _ _ _ => d_call C_rule_variables (tk_no hce) hr rfl rfl (b_v (d_v 7) (b_nil)))))
      (ss_cons (s_setFd 0 A_Program__variable_values (d_lc (own := [("rule", 7)]) rfl sc_Program___init__.nd (i_seq (d_v 3)) (blkOk_by (N := N_Program___init__) (sc := (defScope s_Program___init__)) (own := [("rule", 7)]) (by decide +kernel)) (fun _ _ _ _ _ => (by first | exact pg_name (i := 7) sc_Program___init__.nd rfl (Or.inl rfl) | exact pg_name (i := 7) sc_Program___init__.nd rfl (Or.inr rfl))) (fun c => evg_v) (by decide) (fun c hce _ _ _ _ _ => f_nil) (fun c hce _ _ _ _ _ => d_call C_variable_values (tk_no hce) hr rfl rfl (b_v (d_v 7) (b_v (d_fldS 0 A_Program__columns) (b_nil))))))
      (ss_one (s_setFd 0 A_Program__grounding (d_non))))))))))))
theorem ok__law_told (B : Blt mg) (T : Top K mg "_law_told" s__law_told ["case"]) (E_BadProgram : ErrK P w K mg base "BadProgram" ["where", "why"]) (M_BadProgram : CatK ⟨K, P, w, mg⟩ "BadProgram" ["BadProgram"] []) (Z_Program : NewKw P w K mg base 17 "Program" ["kinds", "relations", "rules", "facts"] g_Program___init__) : Cal P w K mg base 19 "_law_told" 1 g__law_told :=
  cal_of T sc__law_told fun c f cdv A outer s H E hr hx bd => ss_cons (s_try 1 M_BadProgram rfl rfl sc__law_told.nd rfl rfl rfl bd hx (fun c pn xe hx bd => ss_one (s_expr (d_newK Z_Program bd.tk hr rfl rfl (kb_v (d_pkIx 0 (room65 hr) (d_int)) (kb_v (d_pkIx 0 (room65 hr) (d_int)) (kb_v (d_pkIx 0 (room65 hr) (d_int)) (kb_v (d_pkIx 0 (room65 hr) (d_int)) (kb_nil)))))))) (fun a oe vc d pn hz hf => ss_one (s_ret (d_tup (a_cons (d_exf 1 E_BadProgram (by decide) hz hf) (a_cons (d_exf 1 E_BadProgram (by decide) hz hf) (a_nil)))))))
      (ss_one (s_ret (d_tup (a_nil))))
theorem fn_law {f : Addr} {fd : FuncData} (F : Fun K "law" "law" s_law f fd) (B : Blt mg)  (C__law_stream : Cal P w K mg base 19 "_law_stream" 1 g__law_stream) (C__law_next : Cal P w K mg base 19 "_law_next" 2 g__law_next) (C__law_case : Cal P w K mg base 19 "_law_case" 2 g__law_case) (C__law_told : Cal P w K mg base 19 "_law_told" 1 g__law_told) (hF : ∀ ns : List Int, ns.length ≤ 63 → ∃ sl, g_law [.val (.scr ns)] = .ok (.d (.bl true)) sl) : FnOk P w K mg base CX0 20 f fd ["script"] (spLaw K) :=
  law_den F sc_law rfl hF fun c cdv A outer s H E hr hx bd => ss_cons (s_set 1 sc_law.nd (d_call C__law_stream bd.tk hr rfl rfl (b_v (d_v 0) (b_nil))))
      (ss_cons (s_set 2 sc_law.nd (d_call C__law_next bd.tk hr rfl rfl (b_b 1 (b_v (d_int) (b_nil)))))
      (ss_cons (s_set 3 sc_law.nd (d_call C__law_case bd.tk hr rfl rfl (b_v (d_v 2) (b_v (d_int) (b_nil)))))
      (ss_one (s_ret (d_and (d_eq hr.units (d_call C__law_told bd.tk hr rfl rfl (b_v (d_call C__law_case bd.tk hr rfl rfl (b_v (d_v 2) (b_v (d_int) (b_nil)))) (b_nil))) (d_tup (a_nil))) (d_one (d_eq hr.units (d_call C__law_told bd.tk hr rfl rfl (b_v (d_v 3) (b_nil))) (d_tup (a_cons (d_pkIx 3 (room65 hr) (d_int)) (a_cons (d_pkIx 3 (room65 hr) (d_int)) (a_nil)))))))))))
end
end Dn.k06_bounds_of_programs
set_option Elab.async false
set_option linter.all false
set_option maxRecDepth 100000
set_option maxHeartbeats 4000000
namespace Dn.k06_bounds_of_programs
open PySem L2 Dn PyProof.Rows
theorem all_mk {l : PySem.W.OpenLaw} {w : World} {K : PySem.W.Frag} {h : Heap} {mg : Str → Option Value} {fa : Addr} (X : K.In h) (G : h.Ns mainGlobals mg) (hfa : mg "law" = some (.ref fa))
    {CProgram : Addr} (oaProgram : PySem.W.nsIn K mainGlobals "Program" = some (some (.ref CProgram))) (opProgram : PySem.W.plainGet K CProgram Str.empty = true) (ohProgram : PySem.W.hasDictIn K CProgram = true) (ooProgram : PySem.W.plainOver K CProgram = true) (osProgram : PySem.W.findIn K (.ref CProgram) "__setattr__" = some (some (.builtin "object.__setattr__")))
    (onProgram_columns : PySem.W.findIn K (.ref CProgram) "_columns" = some none)
    (onProgram_grounding : PySem.W.findIn K (.ref CProgram) "_grounding" = some none)
    (onProgram_places : PySem.W.findIn K (.ref CProgram) "_places" = some none)
    (onProgram_variable_values : PySem.W.findIn K (.ref CProgram) "_variable_values" = some none)
    (onProgram_variables : PySem.W.findIn K (.ref CProgram) "_variables" = some none)
    (onProgramfacts : PySem.W.findIn K (.ref CProgram) "facts" = some none)
    (onProgramkinds : PySem.W.findIn K (.ref CProgram) "kinds" = some none)
    (onProgramrelations : PySem.W.findIn K (.ref CProgram) "relations" = some none)
    (onProgramrules : PySem.W.findIn K (.ref CProgram) "rules" = some none)
    (omProgram : PySem.W.makesIn K CProgram = true) (okProgram : PySem.W.keepIn K (.ref CProgram) = true)
    {f0 : Addr} {od0 an0 : Option Addr} {sl0 : Array (Option Value)} {oc0 kV0 dc0 pm0 cd0 ct0 : Value}
    (a0 : PySem.W.nsIn K mainGlobals "_law_stream" = some (some (.ref f0)))
    (l0 : K.lookup f0 = some ⟨oc0, od0, .func (PySem.W.fnOf "_law_stream" "_law_stream" (defArgs s__law_stream) (defBody s__law_stream) (defScope s__law_stream) .none kV0 dc0 pm0 an0 cd0 ct0), sl0⟩) (c0 : PySem.W.codeIn K cd0 "_law_stream" = true) (k0 : PySem.W.keepIn K (.ref f0) = true)
    {f1 : Addr} {od1 an1 : Option Addr} {sl1 : Array (Option Value)} {oc1 kV1 dc1 pm1 cd1 ct1 : Value}
    (a1 : PySem.W.nsIn K mainGlobals "_law_next" = some (some (.ref f1)))
    (l1 : K.lookup f1 = some ⟨oc1, od1, .func (PySem.W.fnOf "_law_next" "_law_next" (defArgs s__law_next) (defBody s__law_next) (defScope s__law_next) .none kV1 dc1 pm1 an1 cd1 ct1), sl1⟩) (c1 : PySem.W.codeIn K cd1 "_law_next" = true) (k1 : PySem.W.keepIn K (.ref f1) = true)
    {f2 : Addr} {od2 an2 : Option Addr} {sl2 : Array (Option Value)} {oc2 kV2 dc2 pm2 cd2 ct2 : Value}
    (a2 : PySem.W.nsIn K mainGlobals "_law_deep" = some (some (.ref f2)))
    (l2 : K.lookup f2 = some ⟨oc2, od2, .func (PySem.W.fnOf "_law_deep" "_law_deep" (defArgs s__law_deep) (defBody s__law_deep) (defScope s__law_deep) .none kV2 dc2 pm2 an2 cd2 ct2), sl2⟩) (c2 : PySem.W.codeIn K cd2 "_law_deep" = true) (k2 : PySem.W.keepIn K (.ref f2) = true)
    {f3 : Addr} {od3 an3 : Option Addr} {sl3 : Array (Option Value)} {oc3 kV3 dc3 pm3 cd3 ct3 : Value}
    (a3 : PySem.W.nsIn K mainGlobals "_law_case" = some (some (.ref f3)))
    (l3 : K.lookup f3 = some ⟨oc3, od3, .func (PySem.W.fnOf "_law_case" "_law_case" (defArgs s__law_case) (defBody s__law_case) (defScope s__law_case) .none kV3 dc3 pm3 an3 cd3 ct3), sl3⟩) (c3 : PySem.W.codeIn K cd3 "_law_case" = true) (k3 : PySem.W.keepIn K (.ref f3) = true)
    {f4 : Addr} {od4 an4 : Option Addr} {sl4 : Array (Option Value)} {oc4 kV4 dc4 pm4 cd4 ct4 : Value}
    (a4 : PySem.W.nsIn K mainGlobals "check_part" = some (some (.ref f4)))
    (l4 : K.lookup f4 = some ⟨oc4, od4, .func (PySem.W.fnOf "check_part" "check_part" (defArgs s_check_part) (defBody s_check_part) (defScope s_check_part) .none kV4 dc4 pm4 an4 cd4 ct4), sl4⟩) (c4 : PySem.W.codeIn K cd4 "check_part" = true) (k4 : PySem.W.keepIn K (.ref f4) = true)
    {f5 : Addr} {od5 an5 : Option Addr} {sl5 : Array (Option Value)} {oc5 kV5 dc5 pm5 cd5 ct5 : Value}
    (a5 : PySem.W.nsIn K mainGlobals "is_named" = some (some (.ref f5)))
    (l5 : K.lookup f5 = some ⟨oc5, od5, .func (PySem.W.fnOf "is_named" "is_named" (defArgs s_is_named) (defBody s_is_named) (defScope s_is_named) .none kV5 dc5 pm5 an5 cd5 ct5), sl5⟩) (c5 : PySem.W.codeIn K cd5 "is_named" = true) (k5 : PySem.W.keepIn K (.ref f5) = true)
    {f6 : Addr} {od6 an6 : Option Addr} {sl6 : Array (Option Value)} {oc6 kV6 dc6 pm6 cd6 ct6 : Value}
    (a6 : PySem.W.nsIn K mainGlobals "is_made_of" = some (some (.ref f6)))
    (l6 : K.lookup f6 = some ⟨oc6, od6, .func (PySem.W.fnOf "is_made_of" "is_made_of" (defArgs s_is_made_of) (defBody s_is_made_of) (defScope s_is_made_of) .none kV6 dc6 pm6 an6 cd6 ct6), sl6⟩) (c6 : PySem.W.codeIn K cd6 "is_made_of" = true) (k6 : PySem.W.keepIn K (.ref f6) = true)
    {f7 : Addr} {od7 an7 : Option Addr} {sl7 : Array (Option Value)} {oc7 kV7 dc7 pm7 cd7 ct7 : Value}
    (a7 : PySem.W.nsIn K mainGlobals "is_symbol" = some (some (.ref f7)))
    (l7 : K.lookup f7 = some ⟨oc7, od7, .func (PySem.W.fnOf "is_symbol" "is_symbol" (defArgs s_is_symbol) (defBody s_is_symbol) (defScope s_is_symbol) .none kV7 dc7 pm7 an7 cd7 ct7), sl7⟩) (c7 : PySem.W.codeIn K cd7 "is_symbol" = true) (k7 : PySem.W.keepIn K (.ref f7) = true)
    {f8 : Addr} {od8 an8 : Option Addr} {sl8 : Array (Option Value)} {oc8 kV8 dc8 pm8 cd8 ct8 : Value}
    (a8 : PySem.W.nsIn K mainGlobals "check_name" = some (some (.ref f8)))
    (l8 : K.lookup f8 = some ⟨oc8, od8, .func (PySem.W.fnOf "check_name" "check_name" (defArgs s_check_name) (defBody s_check_name) (defScope s_check_name) .none kV8 dc8 pm8 an8 cd8 ct8), sl8⟩) (c8 : PySem.W.codeIn K cd8 "check_name" = true) (k8 : PySem.W.keepIn K (.ref f8) = true)
    {f9 : Addr} {od9 an9 : Option Addr} {sl9 : Array (Option Value)} {oc9 kV9 dc9 pm9 cd9 ct9 : Value}
    (a9 : PySem.W.nsIn K mainGlobals "is_integer" = some (some (.ref f9)))
    (l9 : K.lookup f9 = some ⟨oc9, od9, .func (PySem.W.fnOf "is_integer" "is_integer" (defArgs s_is_integer) (defBody s_is_integer) (defScope s_is_integer) .none kV9 dc9 pm9 an9 cd9 ct9), sl9⟩) (c9 : PySem.W.codeIn K cd9 "is_integer" = true) (k9 : PySem.W.keepIn K (.ref f9) = true)
    {f10 : Addr} {od10 an10 : Option Addr} {sl10 : Array (Option Value)} {oc10 kV10 dc10 pm10 cd10 ct10 : Value}
    (a10 : PySem.W.nsIn K mainGlobals "is_in_range" = some (some (.ref f10)))
    (l10 : K.lookup f10 = some ⟨oc10, od10, .func (PySem.W.fnOf "is_in_range" "is_in_range" (defArgs s_is_in_range) (defBody s_is_in_range) (defScope s_is_in_range) .none kV10 dc10 pm10 an10 cd10 ct10), sl10⟩) (c10 : PySem.W.codeIn K cd10 "is_in_range" = true) (k10 : PySem.W.keepIn K (.ref f10) = true)
    {f11 : Addr} {od11 an11 : Option Addr} {sl11 : Array (Option Value)} {oc11 kV11 dc11 pm11 cd11 ct11 : Value}
    (a11 : PySem.W.nsIn K mainGlobals "is_value" = some (some (.ref f11)))
    (l11 : K.lookup f11 = some ⟨oc11, od11, .func (PySem.W.fnOf "is_value" "is_value" (defArgs s_is_value) (defBody s_is_value) (defScope s_is_value) .none kV11 dc11 pm11 an11 cd11 ct11), sl11⟩) (c11 : PySem.W.codeIn K cd11 "is_value" = true) (k11 : PySem.W.keepIn K (.ref f11) = true)
    {f12 : Addr} {od12 an12 : Option Addr} {sl12 : Array (Option Value)} {oc12 kV12 dc12 pm12 cd12 ct12 : Value}
    (a12 : PySem.W.nsIn K mainGlobals "value_key" = some (some (.ref f12)))
    (l12 : K.lookup f12 = some ⟨oc12, od12, .func (PySem.W.fnOf "value_key" "value_key" (defArgs s_value_key) (defBody s_value_key) (defScope s_value_key) .none kV12 dc12 pm12 an12 cd12 ct12), sl12⟩) (c12 : PySem.W.codeIn K cd12 "value_key" = true) (k12 : PySem.W.keepIn K (.ref f12) = true)
    {f13 : Addr} {od13 an13 : Option Addr} {sl13 : Array (Option Value)} {oc13 kV13 dc13 pm13 cd13 ct13 : Value}
    (a13 : PySem.W.nsIn K mainGlobals "are_kind_values" = some (some (.ref f13)))
    (l13 : K.lookup f13 = some ⟨oc13, od13, .func (PySem.W.fnOf "are_kind_values" "are_kind_values" (defArgs s_are_kind_values) (defBody s_are_kind_values) (defScope s_are_kind_values) .none kV13 dc13 pm13 an13 cd13 ct13), sl13⟩) (c13 : PySem.W.codeIn K cd13 "are_kind_values" = true) (k13 : PySem.W.keepIn K (.ref f13) = true)
    {f14 : Addr} {od14 an14 : Option Addr} {sl14 : Array (Option Value)} {oc14 kV14 dc14 pm14 cd14 ct14 : Value}
    (a14 : PySem.W.nsIn K mainGlobals "check_kinds" = some (some (.ref f14)))
    (l14 : K.lookup f14 = some ⟨oc14, od14, .func (PySem.W.fnOf "check_kinds" "check_kinds" (defArgs s_check_kinds) (defBody s_check_kinds) (defScope s_check_kinds) .none kV14 dc14 pm14 an14 cd14 ct14), sl14⟩) (c14 : PySem.W.codeIn K cd14 "check_kinds" = true) (k14 : PySem.W.keepIn K (.ref f14) = true)
    {f15 : Addr} {od15 an15 : Option Addr} {sl15 : Array (Option Value)} {oc15 kV15 dc15 pm15 cd15 ct15 : Value}
    (a15 : PySem.W.nsIn K mainGlobals "are_strings" = some (some (.ref f15)))
    (l15 : K.lookup f15 = some ⟨oc15, od15, .func (PySem.W.fnOf "are_strings" "are_strings" (defArgs s_are_strings) (defBody s_are_strings) (defScope s_are_strings) .none kV15 dc15 pm15 an15 cd15 ct15), sl15⟩) (c15 : PySem.W.codeIn K cd15 "are_strings" = true) (k15 : PySem.W.keepIn K (.ref f15) = true)
    {f16 : Addr} {od16 an16 : Option Addr} {sl16 : Array (Option Value)} {oc16 kV16 dc16 pm16 cd16 ct16 : Value}
    (a16 : PySem.W.nsIn K mainGlobals "check_relations" = some (some (.ref f16)))
    (l16 : K.lookup f16 = some ⟨oc16, od16, .func (PySem.W.fnOf "check_relations" "check_relations" (defArgs s_check_relations) (defBody s_check_relations) (defScope s_check_relations) .none kV16 dc16 pm16 an16 cd16 ct16), sl16⟩) (c16 : PySem.W.codeIn K cd16 "check_relations" = true) (k16 : PySem.W.keepIn K (.ref f16) = true)
    {f17 : Addr} {od17 an17 : Option Addr} {sl17 : Array (Option Value)} {oc17 kV17 dc17 pm17 cd17 ct17 : Value}
    (a17 : PySem.W.nsIn K mainGlobals "is_rule_form" = some (some (.ref f17)))
    (l17 : K.lookup f17 = some ⟨oc17, od17, .func (PySem.W.fnOf "is_rule_form" "is_rule_form" (defArgs s_is_rule_form) (defBody s_is_rule_form) (defScope s_is_rule_form) .none kV17 dc17 pm17 an17 cd17 ct17), sl17⟩) (c17 : PySem.W.codeIn K cd17 "is_rule_form" = true) (k17 : PySem.W.keepIn K (.ref f17) = true)
    {f18 : Addr} {od18 an18 : Option Addr} {sl18 : Array (Option Value)} {oc18 kV18 dc18 pm18 cd18 ct18 : Value}
    (a18 : PySem.W.nsIn K mainGlobals "is_variable" = some (some (.ref f18)))
    (l18 : K.lookup f18 = some ⟨oc18, od18, .func (PySem.W.fnOf "is_variable" "is_variable" (defArgs s_is_variable) (defBody s_is_variable) (defScope s_is_variable) .none kV18 dc18 pm18 an18 cd18 ct18), sl18⟩) (c18 : PySem.W.codeIn K cd18 "is_variable" = true) (k18 : PySem.W.keepIn K (.ref f18) = true)
    {f19 : Addr} {od19 an19 : Option Addr} {sl19 : Array (Option Value)} {oc19 kV19 dc19 pm19 cd19 ct19 : Value}
    (a19 : PySem.W.nsIn K mainGlobals "is_term" = some (some (.ref f19)))
    (l19 : K.lookup f19 = some ⟨oc19, od19, .func (PySem.W.fnOf "is_term" "is_term" (defArgs s_is_term) (defBody s_is_term) (defScope s_is_term) .none kV19 dc19 pm19 an19 cd19 ct19), sl19⟩) (c19 : PySem.W.codeIn K cd19 "is_term" = true) (k19 : PySem.W.keepIn K (.ref f19) = true)
    {f20 : Addr} {od20 an20 : Option Addr} {sl20 : Array (Option Value)} {oc20 kV20 dc20 pm20 cd20 ct20 : Value}
    (a20 : PySem.W.nsIn K mainGlobals "check_terms" = some (some (.ref f20)))
    (l20 : K.lookup f20 = some ⟨oc20, od20, .func (PySem.W.fnOf "check_terms" "check_terms" (defArgs s_check_terms) (defBody s_check_terms) (defScope s_check_terms) .none kV20 dc20 pm20 an20 cd20 ct20), sl20⟩) (c20 : PySem.W.codeIn K cd20 "check_terms" = true) (k20 : PySem.W.keepIn K (.ref f20) = true)
    {f21 : Addr} {od21 an21 : Option Addr} {sl21 : Array (Option Value)} {oc21 kV21 dc21 pm21 cd21 ct21 : Value}
    (a21 : PySem.W.nsIn K mainGlobals "is_tuple_from" = some (some (.ref f21)))
    (l21 : K.lookup f21 = some ⟨oc21, od21, .func (PySem.W.fnOf "is_tuple_from" "is_tuple_from" (defArgs s_is_tuple_from) (defBody s_is_tuple_from) (defScope s_is_tuple_from) .none kV21 dc21 pm21 an21 cd21 ct21), sl21⟩) (c21 : PySem.W.codeIn K cd21 "is_tuple_from" = true) (k21 : PySem.W.keepIn K (.ref f21) = true)
    {f22 : Addr} {od22 an22 : Option Addr} {sl22 : Array (Option Value)} {oc22 kV22 dc22 pm22 cd22 ct22 : Value}
    (a22 : PySem.W.nsIn K mainGlobals "is_atom_literal" = some (some (.ref f22)))
    (l22 : K.lookup f22 = some ⟨oc22, od22, .func (PySem.W.fnOf "is_atom_literal" "is_atom_literal" (defArgs s_is_atom_literal) (defBody s_is_atom_literal) (defScope s_is_atom_literal) .none kV22 dc22 pm22 an22 cd22 ct22), sl22⟩) (c22 : PySem.W.codeIn K cd22 "is_atom_literal" = true) (k22 : PySem.W.keepIn K (.ref f22) = true)
    {f23 : Addr} {od23 an23 : Option Addr} {sl23 : Array (Option Value)} {oc23 kV23 dc23 pm23 cd23 ct23 : Value}
    (a23 : PySem.W.nsIn K mainGlobals "is_comparison_literal" = some (some (.ref f23)))
    (l23 : K.lookup f23 = some ⟨oc23, od23, .func (PySem.W.fnOf "is_comparison_literal" "is_comparison_literal" (defArgs s_is_comparison_literal) (defBody s_is_comparison_literal) (defScope s_is_comparison_literal) .none kV23 dc23 pm23 an23 cd23 ct23), sl23⟩) (c23 : PySem.W.codeIn K cd23 "is_comparison_literal" = true) (k23 : PySem.W.keepIn K (.ref f23) = true)
    {f24 : Addr} {od24 an24 : Option Addr} {sl24 : Array (Option Value)} {oc24 kV24 dc24 pm24 cd24 ct24 : Value}
    (a24 : PySem.W.nsIn K mainGlobals "is_expression_form" = some (some (.ref f24)))
    (l24 : K.lookup f24 = some ⟨oc24, od24, .func (PySem.W.fnOf "is_expression_form" "is_expression_form" (defArgs s_is_expression_form) (defBody s_is_expression_form) (defScope s_is_expression_form) .none kV24 dc24 pm24 an24 cd24 ct24), sl24⟩) (c24 : PySem.W.codeIn K cd24 "is_expression_form" = true) (k24 : PySem.W.keepIn K (.ref f24) = true)
    {f25 : Addr} {od25 an25 : Option Addr} {sl25 : Array (Option Value)} {oc25 kV25 dc25 pm25 cd25 ct25 : Value}
    (a25 : PySem.W.nsIn K mainGlobals "check_expression" = some (some (.ref f25)))
    (l25 : K.lookup f25 = some ⟨oc25, od25, .func (PySem.W.fnOf "check_expression" "check_expression" (defArgs s_check_expression) (defBody s_check_expression) (defScope s_check_expression) .none kV25 dc25 pm25 an25 cd25 ct25), sl25⟩) (c25 : PySem.W.codeIn K cd25 "check_expression" = true) (k25 : PySem.W.keepIn K (.ref f25) = true)
    {f26 : Addr} {od26 an26 : Option Addr} {sl26 : Array (Option Value)} {oc26 kV26 dc26 pm26 cd26 ct26 : Value}
    (a26 : PySem.W.nsIn K mainGlobals "check_comparison" = some (some (.ref f26)))
    (l26 : K.lookup f26 = some ⟨oc26, od26, .func (PySem.W.fnOf "check_comparison" "check_comparison" (defArgs s_check_comparison) (defBody s_check_comparison) (defScope s_check_comparison) .none kV26 dc26 pm26 an26 cd26 ct26), sl26⟩) (c26 : PySem.W.codeIn K cd26 "check_comparison" = true) (k26 : PySem.W.keepIn K (.ref f26) = true)
    {f27 : Addr} {od27 an27 : Option Addr} {sl27 : Array (Option Value)} {oc27 kV27 dc27 pm27 cd27 ct27 : Value}
    (a27 : PySem.W.nsIn K mainGlobals "is_aggregate_literal" = some (some (.ref f27)))
    (l27 : K.lookup f27 = some ⟨oc27, od27, .func (PySem.W.fnOf "is_aggregate_literal" "is_aggregate_literal" (defArgs s_is_aggregate_literal) (defBody s_is_aggregate_literal) (defScope s_is_aggregate_literal) .none kV27 dc27 pm27 an27 cd27 ct27), sl27⟩) (c27 : PySem.W.codeIn K cd27 "is_aggregate_literal" = true) (k27 : PySem.W.keepIn K (.ref f27) = true)
    {f28 : Addr} {od28 an28 : Option Addr} {sl28 : Array (Option Value)} {oc28 kV28 dc28 pm28 cd28 ct28 : Value}
    (a28 : PySem.W.nsIn K mainGlobals "check_inner" = some (some (.ref f28)))
    (l28 : K.lookup f28 = some ⟨oc28, od28, .func (PySem.W.fnOf "check_inner" "check_inner" (defArgs s_check_inner) (defBody s_check_inner) (defScope s_check_inner) .none kV28 dc28 pm28 an28 cd28 ct28), sl28⟩) (c28 : PySem.W.codeIn K cd28 "check_inner" = true) (k28 : PySem.W.keepIn K (.ref f28) = true)
    {f29 : Addr} {od29 an29 : Option Addr} {sl29 : Array (Option Value)} {oc29 kV29 dc29 pm29 cd29 ct29 : Value}
    (a29 : PySem.W.nsIn K mainGlobals "check_aggregate" = some (some (.ref f29)))
    (l29 : K.lookup f29 = some ⟨oc29, od29, .func (PySem.W.fnOf "check_aggregate" "check_aggregate" (defArgs s_check_aggregate) (defBody s_check_aggregate) (defScope s_check_aggregate) .none kV29 dc29 pm29 an29 cd29 ct29), sl29⟩) (c29 : PySem.W.codeIn K cd29 "check_aggregate" = true) (k29 : PySem.W.keepIn K (.ref f29) = true)
    {f30 : Addr} {od30 an30 : Option Addr} {sl30 : Array (Option Value)} {oc30 kV30 dc30 pm30 cd30 ct30 : Value}
    (a30 : PySem.W.nsIn K mainGlobals "check_literal" = some (some (.ref f30)))
    (l30 : K.lookup f30 = some ⟨oc30, od30, .func (PySem.W.fnOf "check_literal" "check_literal" (defArgs s_check_literal) (defBody s_check_literal) (defScope s_check_literal) .none kV30 dc30 pm30 an30 cd30 ct30), sl30⟩) (c30 : PySem.W.codeIn K cd30 "check_literal" = true) (k30 : PySem.W.keepIn K (.ref f30) = true)
    {f31 : Addr} {od31 an31 : Option Addr} {sl31 : Array (Option Value)} {oc31 kV31 dc31 pm31 cd31 ct31 : Value}
    (a31 : PySem.W.nsIn K mainGlobals "term_variables" = some (some (.ref f31)))
    (l31 : K.lookup f31 = some ⟨oc31, od31, .func (PySem.W.fnOf "term_variables" "term_variables" (defArgs s_term_variables) (defBody s_term_variables) (defScope s_term_variables) .none kV31 dc31 pm31 an31 cd31 ct31), sl31⟩) (c31 : PySem.W.codeIn K cd31 "term_variables" = true) (k31 : PySem.W.keepIn K (.ref f31) = true)
    {f32 : Addr} {od32 an32 : Option Addr} {sl32 : Array (Option Value)} {oc32 kV32 dc32 pm32 cd32 ct32 : Value}
    (a32 : PySem.W.nsIn K mainGlobals "is_aggregate" = some (some (.ref f32)))
    (l32 : K.lookup f32 = some ⟨oc32, od32, .func (PySem.W.fnOf "is_aggregate" "is_aggregate" (defArgs s_is_aggregate) (defBody s_is_aggregate) (defScope s_is_aggregate) .none kV32 dc32 pm32 an32 cd32 ct32), sl32⟩) (c32 : PySem.W.codeIn K cd32 "is_aggregate" = true) (k32 : PySem.W.keepIn K (.ref f32) = true)
    {f33 : Addr} {od33 an33 : Option Addr} {sl33 : Array (Option Value)} {oc33 kV33 dc33 pm33 cd33 ct33 : Value}
    (a33 : PySem.W.nsIn K mainGlobals "outer_expressions" = some (some (.ref f33)))
    (l33 : K.lookup f33 = some ⟨oc33, od33, .func (PySem.W.fnOf "outer_expressions" "outer_expressions" (defArgs s_outer_expressions) (defBody s_outer_expressions) (defScope s_outer_expressions) .none kV33 dc33 pm33 an33 cd33 ct33), sl33⟩) (c33 : PySem.W.codeIn K cd33 "outer_expressions" = true) (k33 : PySem.W.keepIn K (.ref f33) = true)
    {f34 : Addr} {od34 an34 : Option Addr} {sl34 : Array (Option Value)} {oc34 kV34 dc34 pm34 cd34 ct34 : Value}
    (a34 : PySem.W.nsIn K mainGlobals "expression_variables" = some (some (.ref f34)))
    (l34 : K.lookup f34 = some ⟨oc34, od34, .func (PySem.W.fnOf "expression_variables" "expression_variables" (defArgs s_expression_variables) (defBody s_expression_variables) (defScope s_expression_variables) .none kV34 dc34 pm34 an34 cd34 ct34), sl34⟩) (c34 : PySem.W.codeIn K cd34 "expression_variables" = true) (k34 : PySem.W.keepIn K (.ref f34) = true)
    {f35 : Addr} {od35 an35 : Option Addr} {sl35 : Array (Option Value)} {oc35 kV35 dc35 pm35 cd35 ct35 : Value}
    (a35 : PySem.W.nsIn K mainGlobals "outer_variables" = some (some (.ref f35)))
    (l35 : K.lookup f35 = some ⟨oc35, od35, .func (PySem.W.fnOf "outer_variables" "outer_variables" (defArgs s_outer_variables) (defBody s_outer_variables) (defScope s_outer_variables) .none kV35 dc35 pm35 an35 cd35 ct35), sl35⟩) (c35 : PySem.W.codeIn K cd35 "outer_variables" = true) (k35 : PySem.W.keepIn K (.ref f35) = true)
    {f36 : Addr} {od36 an36 : Option Addr} {sl36 : Array (Option Value)} {oc36 kV36 dc36 pm36 cd36 ct36 : Value}
    (a36 : PySem.W.nsIn K mainGlobals "once" = some (some (.ref f36)))
    (l36 : K.lookup f36 = some ⟨oc36, od36, .func (PySem.W.fnOf "once" "once" (defArgs s_once) (defBody s_once) (defScope s_once) .none kV36 dc36 pm36 an36 cd36 ct36), sl36⟩) (c36 : PySem.W.codeIn K cd36 "once" = true) (k36 : PySem.W.keepIn K (.ref f36) = true)
    {f37 : Addr} {od37 an37 : Option Addr} {sl37 : Array (Option Value)} {oc37 kV37 dc37 pm37 cd37 ct37 : Value}
    (a37 : PySem.W.nsIn K mainGlobals "rule_variables" = some (some (.ref f37)))
    (l37 : K.lookup f37 = some ⟨oc37, od37, .func (PySem.W.fnOf "rule_variables" "rule_variables" (defArgs s_rule_variables) (defBody s_rule_variables) (defScope s_rule_variables) .none kV37 dc37 pm37 an37 cd37 ct37), sl37⟩) (c37 : PySem.W.codeIn K cd37 "rule_variables" = true) (k37 : PySem.W.keepIn K (.ref f37) = true)
    {f38 : Addr} {od38 an38 : Option Addr} {sl38 : Array (Option Value)} {oc38 kV38 dc38 pm38 cd38 ct38 : Value}
    (a38 : PySem.W.nsIn K mainGlobals "safe_variables" = some (some (.ref f38)))
    (l38 : K.lookup f38 = some ⟨oc38, od38, .func (PySem.W.fnOf "safe_variables" "safe_variables" (defArgs s_safe_variables) (defBody s_safe_variables) (defScope s_safe_variables) .none kV38 dc38 pm38 an38 cd38 ct38), sl38⟩) (c38 : PySem.W.codeIn K cd38 "safe_variables" = true) (k38 : PySem.W.keepIn K (.ref f38) = true)
    {f39 : Addr} {od39 an39 : Option Addr} {sl39 : Array (Option Value)} {oc39 kV39 dc39 pm39 cd39 ct39 : Value}
    (a39 : PySem.W.nsIn K mainGlobals "inner_literals" = some (some (.ref f39)))
    (l39 : K.lookup f39 = some ⟨oc39, od39, .func (PySem.W.fnOf "inner_literals" "inner_literals" (defArgs s_inner_literals) (defBody s_inner_literals) (defScope s_inner_literals) .none kV39 dc39 pm39 an39 cd39 ct39), sl39⟩) (c39 : PySem.W.codeIn K cd39 "inner_literals" = true) (k39 : PySem.W.keepIn K (.ref f39) = true)
    {f40 : Addr} {od40 an40 : Option Addr} {sl40 : Array (Option Value)} {oc40 kV40 dc40 pm40 cd40 ct40 : Value}
    (a40 : PySem.W.nsIn K mainGlobals "inner_variables" = some (some (.ref f40)))
    (l40 : K.lookup f40 = some ⟨oc40, od40, .func (PySem.W.fnOf "inner_variables" "inner_variables" (defArgs s_inner_variables) (defBody s_inner_variables) (defScope s_inner_variables) .none kV40 dc40 pm40 an40 cd40 ct40), sl40⟩) (c40 : PySem.W.codeIn K cd40 "inner_variables" = true) (k40 : PySem.W.keepIn K (.ref f40) = true)
    {f41 : Addr} {od41 an41 : Option Addr} {sl41 : Array (Option Value)} {oc41 kV41 dc41 pm41 cd41 ct41 : Value}
    (a41 : PySem.W.nsIn K mainGlobals "literal_atoms" = some (some (.ref f41)))
    (l41 : K.lookup f41 = some ⟨oc41, od41, .func (PySem.W.fnOf "literal_atoms" "literal_atoms" (defArgs s_literal_atoms) (defBody s_literal_atoms) (defScope s_literal_atoms) .none kV41 dc41 pm41 an41 cd41 ct41), sl41⟩) (c41 : PySem.W.codeIn K cd41 "literal_atoms" = true) (k41 : PySem.W.keepIn K (.ref f41) = true)
    {f42 : Addr} {od42 an42 : Option Addr} {sl42 : Array (Option Value)} {oc42 kV42 dc42 pm42 cd42 ct42 : Value}
    (a42 : PySem.W.nsIn K mainGlobals "check_scope" = some (some (.ref f42)))
    (l42 : K.lookup f42 = some ⟨oc42, od42, .func (PySem.W.fnOf "check_scope" "check_scope" (defArgs s_check_scope) (defBody s_check_scope) (defScope s_check_scope) .none kV42 dc42 pm42 an42 cd42 ct42), sl42⟩) (c42 : PySem.W.codeIn K cd42 "check_scope" = true) (k42 : PySem.W.keepIn K (.ref f42) = true)
    {f43 : Addr} {od43 an43 : Option Addr} {sl43 : Array (Option Value)} {oc43 kV43 dc43 pm43 cd43 ct43 : Value}
    (a43 : PySem.W.nsIn K mainGlobals "rule_atoms" = some (some (.ref f43)))
    (l43 : K.lookup f43 = some ⟨oc43, od43, .func (PySem.W.fnOf "rule_atoms" "rule_atoms" (defArgs s_rule_atoms) (defBody s_rule_atoms) (defScope s_rule_atoms) .none kV43 dc43 pm43 an43 cd43 ct43), sl43⟩) (c43 : PySem.W.codeIn K cd43 "rule_atoms" = true) (k43 : PySem.W.keepIn K (.ref f43) = true)
    {f44 : Addr} {od44 an44 : Option Addr} {sl44 : Array (Option Value)} {oc44 kV44 dc44 pm44 cd44 ct44 : Value}
    (a44 : PySem.W.nsIn K mainGlobals "variable_values" = some (some (.ref f44)))
    (l44 : K.lookup f44 = some ⟨oc44, od44, .func (PySem.W.fnOf "variable_values" "variable_values" (defArgs s_variable_values) (defBody s_variable_values) (defScope s_variable_values) .none kV44 dc44 pm44 an44 cd44 ct44), sl44⟩) (c44 : PySem.W.codeIn K cd44 "variable_values" = true) (k44 : PySem.W.keepIn K (.ref f44) = true)
    {f45 : Addr} {od45 an45 : Option Addr} {sl45 : Array (Option Value)} {oc45 kV45 dc45 pm45 cd45 ct45 : Value}
    (a45 : PySem.W.nsIn K mainGlobals "own_variables" = some (some (.ref f45)))
    (l45 : K.lookup f45 = some ⟨oc45, od45, .func (PySem.W.fnOf "own_variables" "own_variables" (defArgs s_own_variables) (defBody s_own_variables) (defScope s_own_variables) .none kV45 dc45 pm45 an45 cd45 ct45), sl45⟩) (c45 : PySem.W.codeIn K cd45 "own_variables" = true) (k45 : PySem.W.keepIn K (.ref f45) = true)
    {f46 : Addr} {od46 an46 : Option Addr} {sl46 : Array (Option Value)} {oc46 kV46 dc46 pm46 cd46 ct46 : Value}
    (a46 : PySem.W.nsIn K mainGlobals "number_variables" = some (some (.ref f46)))
    (l46 : K.lookup f46 = some ⟨oc46, od46, .func (PySem.W.fnOf "number_variables" "number_variables" (defArgs s_number_variables) (defBody s_number_variables) (defScope s_number_variables) .none kV46 dc46 pm46 an46 cd46 ct46), sl46⟩) (c46 : PySem.W.codeIn K cd46 "number_variables" = true) (k46 : PySem.W.keepIn K (.ref f46) = true)
    {f47 : Addr} {od47 an47 : Option Addr} {sl47 : Array (Option Value)} {oc47 kV47 dc47 pm47 cd47 ct47 : Value}
    (a47 : PySem.W.nsIn K mainGlobals "are_integers" = some (some (.ref f47)))
    (l47 : K.lookup f47 = some ⟨oc47, od47, .func (PySem.W.fnOf "are_integers" "are_integers" (defArgs s_are_integers) (defBody s_are_integers) (defScope s_are_integers) .none kV47 dc47 pm47 an47 cd47 ct47), sl47⟩) (c47 : PySem.W.codeIn K cd47 "are_integers" = true) (k47 : PySem.W.keepIn K (.ref f47) = true)
    {f48 : Addr} {od48 an48 : Option Addr} {sl48 : Array (Option Value)} {oc48 kV48 dc48 pm48 cd48 ct48 : Value}
    (a48 : PySem.W.nsIn K mainGlobals "check_variables" = some (some (.ref f48)))
    (l48 : K.lookup f48 = some ⟨oc48, od48, .func (PySem.W.fnOf "check_variables" "check_variables" (defArgs s_check_variables) (defBody s_check_variables) (defScope s_check_variables) .none kV48 dc48 pm48 an48 cd48 ct48), sl48⟩) (c48 : PySem.W.codeIn K cd48 "check_variables" = true) (k48 : PySem.W.keepIn K (.ref f48) = true)
    {f49 : Addr} {od49 an49 : Option Addr} {sl49 : Array (Option Value)} {oc49 kV49 dc49 pm49 cd49 ct49 : Value}
    (a49 : PySem.W.nsIn K mainGlobals "check_rules" = some (some (.ref f49)))
    (l49 : K.lookup f49 = some ⟨oc49, od49, .func (PySem.W.fnOf "check_rules" "check_rules" (defArgs s_check_rules) (defBody s_check_rules) (defScope s_check_rules) .none kV49 dc49 pm49 an49 cd49 ct49), sl49⟩) (c49 : PySem.W.codeIn K cd49 "check_rules" = true) (k49 : PySem.W.keepIn K (.ref f49) = true)
    {f50 : Addr} {od50 an50 : Option Addr} {sl50 : Array (Option Value)} {oc50 kV50 dc50 pm50 cd50 ct50 : Value}
    (a50 : PySem.W.nsIn K mainGlobals "is_in_columns" = some (some (.ref f50)))
    (l50 : K.lookup f50 = some ⟨oc50, od50, .func (PySem.W.fnOf "is_in_columns" "is_in_columns" (defArgs s_is_in_columns) (defBody s_is_in_columns) (defScope s_is_in_columns) .none kV50 dc50 pm50 an50 cd50 ct50), sl50⟩) (c50 : PySem.W.codeIn K cd50 "is_in_columns" = true) (k50 : PySem.W.keepIn K (.ref f50) = true)
    {f51 : Addr} {od51 an51 : Option Addr} {sl51 : Array (Option Value)} {oc51 kV51 dc51 pm51 cd51 ct51 : Value}
    (a51 : PySem.W.nsIn K mainGlobals "check_facts" = some (some (.ref f51)))
    (l51 : K.lookup f51 = some ⟨oc51, od51, .func (PySem.W.fnOf "check_facts" "check_facts" (defArgs s_check_facts) (defBody s_check_facts) (defScope s_check_facts) .none kV51 dc51 pm51 an51 cd51 ct51), sl51⟩) (c51 : PySem.W.codeIn K cd51 "check_facts" = true) (k51 : PySem.W.keepIn K (.ref f51) = true)
    {f52 : Addr} {od52 an52 : Option Addr} {sl52 : Array (Option Value)} {oc52 kV52 dc52 pm52 cd52 ct52 : Value}
    (a52 : PySem.W.findIn K (.ref CProgram) "__init__" = some (some (.ref f52))) (i52 : PySem.W.isFn K (.ref f52) = true)
    (l52 : K.lookup f52 = some ⟨oc52, od52, .func (PySem.W.fnOf "__init__" "Program.__init__" (defArgs s_Program___init__) (defBody s_Program___init__) (defScope s_Program___init__) .none kV52 dc52 pm52 an52 cd52 ct52), sl52⟩) (c52 : PySem.W.codeIn K cd52 "Program.__init__" = true) (k52 : PySem.W.keepIn K (.ref f52) = true)
    {f53 : Addr} {od53 an53 : Option Addr} {sl53 : Array (Option Value)} {oc53 kV53 dc53 pm53 cd53 ct53 : Value}
    (a53 : PySem.W.nsIn K mainGlobals "_law_told" = some (some (.ref f53)))
    (l53 : K.lookup f53 = some ⟨oc53, od53, .func (PySem.W.fnOf "_law_told" "_law_told" (defArgs s__law_told) (defBody s__law_told) (defScope s__law_told) .none kV53 dc53 pm53 an53 cd53 ct53), sl53⟩) (c53 : PySem.W.codeIn K cd53 "_law_told" = true) (k53 : PySem.W.keepIn K (.ref f53) = true)
    {f54 : Addr} {od54 an54 : Option Addr} {sl54 : Array (Option Value)} {oc54 kV54 dc54 pm54 cd54 ct54 : Value}
    (a54 : PySem.W.nsIn K mainGlobals "law" = some (some (.ref f54)))
    (l54 : K.lookup f54 = some ⟨oc54, od54, .func (PySem.W.fnOf "law" "law" (defArgs s_law) (defBody s_law) (defScope s_law) .none kV54 dc54 pm54 an54 cd54 ct54), sl54⟩) (c54 : PySem.W.codeIn K cd54 "law" = true) (k54 : PySem.W.keepIn K (.ref f54) = true)
    (z0 : PySem.W.nsIn K mainGlobals "abs" = some none)
    (z1 : PySem.W.nsIn K mainGlobals "all" = some none)
    (z2 : PySem.W.nsIn K mainGlobals "any" = some none)
    (z3 : PySem.W.nsIn K mainGlobals "bool" = some none)
    (z4 : PySem.W.nsIn K mainGlobals "dict" = some none)
    (z5 : PySem.W.nsIn K mainGlobals "enumerate" = some none)
    (z6 : PySem.W.nsIn K mainGlobals "int" = some none)
    (z7 : PySem.W.nsIn K mainGlobals "isinstance" = some none)
    (z8 : PySem.W.nsIn K mainGlobals "len" = some none)
    (z9 : PySem.W.nsIn K mainGlobals "list" = some none)
    (z10 : PySem.W.nsIn K mainGlobals "range" = some none)
    (z11 : PySem.W.nsIn K mainGlobals "str" = some none)
    (z12 : PySem.W.nsIn K mainGlobals "tuple" = some none)
    (z13 : PySem.W.nsIn K mainGlobals "zip" = some none)
    {ga0 : Addr} {gd0 : Option Addr} {gs0 : Array (Option Value)} {gn0 : Nat} {tg0_0 tg0_1 tg0_2 tg0_3 tg0_4 : Tok} (gv0 : PySem.W.nsIn K mainGlobals "AGGREGATE_WORDS" = some (some (.ref ga0))) (gw0 : K.lookup ga0 = some ⟨.type "tuple", gd0, .seq #[.str "equal" tg0_0, .str "less" tg0_1, .str "atmost" tg0_2, .str "more" tg0_3, .str "atleast" tg0_4] gn0, gs0⟩)
    {ga1 : Addr} {gd1 : Option Addr} {gs1 : Array (Option Value)} {gn1 : Nat} {tg1_0 tg1_1 tg1_2 : Tok} (gv1 : PySem.W.nsIn K mainGlobals "COMPARISONS" = some (some (.ref ga1))) (gw1 : K.lookup ga1 = some ⟨.type "tuple", gd1, .seq #[.str "equal" tg1_0, .str "less" tg1_1, .str "atmost" tg1_2] gn1, gs1⟩)
    {tg2 : Tok} (gv2 : PySem.W.nsIn K mainGlobals "GREATEST_INTEGER" = some (some (.int 1000 tg2)))
    {tg3 : Tok} (gv3 : PySem.W.nsIn K mainGlobals "LETTERS" = some (some (.str "abcdefghijklmnopqrstuvwxyz" tg3)))
    {tg4 : Tok} (gv4 : PySem.W.nsIn K mainGlobals "LONGEST_SYMBOL" = some (some (.int 12 tg4)))
    {tg5 : Tok} (gv5 : PySem.W.nsIn K mainGlobals "LONGEST_VARIABLE" = some (some (.int 8 tg5)))
    {tg6 : Tok} (gv6 : PySem.W.nsIn K mainGlobals "MOST_COLUMNS" = some (some (.int 4 tg6)))
    {tg7 : Tok} (gv7 : PySem.W.nsIn K mainGlobals "MOST_DEPTH" = some (some (.int 4 tg7)))
    {tg8 : Tok} (gv8 : PySem.W.nsIn K mainGlobals "MOST_FACTS" = some (some (.int 200 tg8)))
    {tg9 : Tok} (gv9 : PySem.W.nsIn K mainGlobals "MOST_INNER_LITERALS" = some (some (.int 3 tg9)))
    {tg10 : Tok} (gv10 : PySem.W.nsIn K mainGlobals "MOST_KINDS" = some (some (.int 8 tg10)))
    {tg11 : Tok} (gv11 : PySem.W.nsIn K mainGlobals "MOST_LITERALS" = some (some (.int 6 tg11)))
    {tg12 : Tok} (gv12 : PySem.W.nsIn K mainGlobals "MOST_OWN_VARIABLES" = some (some (.int 3 tg12)))
    {tg13 : Tok} (gv13 : PySem.W.nsIn K mainGlobals "MOST_RELATIONS" = some (some (.int 12 tg13)))
    {tg14 : Tok} (gv14 : PySem.W.nsIn K mainGlobals "MOST_RULES" = some (some (.int 24 tg14)))
    {tg15 : Tok} (gv15 : PySem.W.nsIn K mainGlobals "MOST_VALUES" = some (some (.int 12 tg15)))
    {tg16 : Tok} (gv16 : PySem.W.nsIn K mainGlobals "MOST_VARIABLES" = some (some (.int 5 tg16)))
    {ga17 : Addr} {gd17 : Option Addr} {gs17 : Array (Option Value)} {gn17 : Nat} {tg17_0 tg17_1 tg17_2 tg17_3 : Tok} (gv17 : PySem.W.nsIn K mainGlobals "OPERATIONS" = some (some (.ref ga17))) (gw17 : K.lookup ga17 = some ⟨.type "tuple", gd17, .seq #[.str "count" tg17_0, .str "sum" tg17_1, .str "least" tg17_2, .str "greatest" tg17_3] gn17, gs17⟩)
    {ga18 : Addr} {gd18 : Option Addr} {gs18 : Array (Option Value)} {gn18 : Nat} {tg18_0 tg18_1 tg18_2 : Tok} (gv18 : PySem.W.nsIn K mainGlobals "OPERATORS" = some (some (.ref ga18))) (gw18 : K.lookup ga18 = some ⟨.type "tuple", gd18, .seq #[.str "plus" tg18_0, .str "minus" tg18_1, .str "times" tg18_2] gn18, gs18⟩)
    {ga19 : Addr} {gd19 : Option Addr} {gs19 : Array (Option Value)} {gn19 : Nat} {tg19_0 tg19_1 tg19_2 tg19_3 tg19_4 tg19_5 tg19_6 tg19_7 tg19_8 tg19_9 tg19_10 tg19_11 : Tok} (gv19 : PySem.W.nsIn K mainGlobals "RESERVED" = some (some (.ref ga19))) (gw19 : K.lookup ga19 = some ⟨.type "tuple", gd19, .seq #[.str "kind" tg19_0, .str "relation" tg19_1, .str "fact" tg19_2, .str "rule" tg19_3, .str "if" tg19_4, .str "not" tg19_5, .str "same" tg19_6, .str "differ" tg19_7, .str "count" tg19_8, .str "sum" tg19_9, .str "least" tg19_10, .str "greatest" tg19_11] gn19, gs19⟩)
    {tg20 : Tok} (gv20 : PySem.W.nsIn K mainGlobals "SYMBOL_CHARACTERS" = some (some (.str "abcdefghijklmnopqrstuvwxyz0123456789_" tg20)))
    {ga21 : Addr} {gd21 : Option Addr} {gs21 : Array (Option Value)} {gn21 : Nat} {tg21_0 tg21_1 : Tok} (gv21 : PySem.W.nsIn K mainGlobals "TERM_COMPARISONS" = some (some (.ref ga21))) (gw21 : K.lookup ga21 = some ⟨.type "tuple", gd21, .seq #[.str "same" tg21_0, .str "differ" tg21_1] gn21, gs21⟩)
    {tg22 : Tok} (gv22 : PySem.W.nsIn K mainGlobals "VARIABLE_CHARACTERS" = some (some (.str "abcdefghijklmnopqrstuvwxyz0123456789" tg22)))
    {CBadProgram fiBadProgram RBadProgram0 : Addr} {nmBadProgram qBadProgram : Str} {NBadProgram : Addr} {bsBadProgram : List Value} {snBadProgram : List Str} {subBadProgram : List Value} {abBadProgram : Bool} {colBadProgram : Option Bool} {ddBadProgram : Option Addr} {u0BadProgram u1BadProgram u2BadProgram u3BadProgram u5BadProgram : Option Value} {oidBadProgram ianBadProgram : Option Addr} {islBadProgram : Array (Option Value)} {iocBadProgram ikVBadProgram idcBadProgram ipmBadProgram icdBadProgram ictBadProgram : Value}
    (xaBadProgram : PySem.W.nsIn K mainGlobals "BadProgram" = some (some (.ref CBadProgram))) (xlBadProgram : K.lookup CBadProgram = some (excClassObj nmBadProgram qBadProgram CBadProgram NBadProgram bsBadProgram [.ref RBadProgram0, .type "ValueError", .type "Exception", .type "BaseException", .type "object"] true snBadProgram subBadProgram abBadProgram colBadProgram ddBadProgram u0BadProgram u1BadProgram u2BadProgram u3BadProgram u5BadProgram "ValueError.__new__")) (xsBadProgram : PySem.W.findIn K (.ref CBadProgram) "__setattr__" = some (some (.builtin "object.__setattr__"))) (xgBadProgram : PySem.W.findIn K (.ref CBadProgram) "__getattribute__" = some (some (.builtin "BaseException.__getattribute__"))) (xhBadProgram : PySem.W.findIn K (.ref CBadProgram) "__getattr__" = some none)
    (xnBadProgram0 : PySem.W.findIn K (.ref CBadProgram) "where" = some none) (xnBadProgram1 : PySem.W.findIn K (.ref CBadProgram) "why" = some none)
    (xiBadProgram : PySem.W.findIn K (.ref CBadProgram) "__init__" = some (some (.ref fiBadProgram))) (xtBadProgram : PySem.W.typeIn K (.ref fiBadProgram) = some (.type "function")) (xfBadProgram : K.lookup fiBadProgram = some ⟨iocBadProgram, oidBadProgram, .func (PySem.W.fnOf "__init__" "BadProgram.__init__" (defArgs (inClass (topS 3) 0)) (defBody (inClass (topS 3) 0)) (defScope (inClass (topS 3) 0)) .none ikVBadProgram idcBadProgram ipmBadProgram ianBadProgram icdBadProgram ictBadProgram), islBadProgram⟩) (xcBadProgram : PySem.W.codeIn K icdBadProgram "BadProgram.__init__" = true) (xkBadProgram : PySem.W.keepIn K (.ref fiBadProgram) = true)
    (xKBadProgram : PySem.W.keepIn K (.ref CBadProgram) = true) (xeBadProgram : PySem.W.subIn K (.ref CBadProgram) (.type "BaseException") = some true) (xyBadProgram : PySem.W.typeIn K (.ref CBadProgram) = some (.type "type")) (xdBadProgram : PySem.W.hasDictIn K CBadProgram = true)
    (xvBadProgram : PySem.W.subIn K (.ref CBadProgram) (.ref CBadProgram) = some true) :
    ∃ fd : FuncData, (∀ (s : Shared) (v : Value), BindsTo s fd ⟨[v], []⟩ [("script", v)]) ∧ ∀ base : Heap, K.In base → base.Ns mainGlobals mg → FnOk l.prog w K mg base CX0 20 fa fd ["script"] (spLaw K) := by
  have e := hfa.symm.trans (PySem.W.mg_of X G a54)
  cases e
  have B : Blt mg := ⟨PySem.W.mg_none_of X G z0, PySem.W.mg_none_of X G z1, PySem.W.mg_none_of X G z2, PySem.W.mg_none_of X G z3, PySem.W.mg_none_of X G z4, PySem.W.mg_none_of X G z5, PySem.W.mg_none_of X G z6, PySem.W.mg_none_of X G z7, PySem.W.mg_none_of X G z8, PySem.W.mg_none_of X G z9, PySem.W.mg_none_of X G z10, PySem.W.mg_none_of X G z11, PySem.W.mg_none_of X G z12, PySem.W.mg_none_of X G z13⟩
  have F0 := fun_mk (st := s__law_stream) l0 c0 k0
  have T0 : Top K mg "_law_stream" s__law_stream ["script"] := ⟨⟨_, _, F0, PySem.W.mg_of X G a0, F0.binds (ps := ["script"]) fun _ _ _ _ _ _ us hl => match us, hl with | [_], _ => rfl⟩⟩
  have F1 := fun_mk (st := s__law_next) l1 c1 k1
  have T1 : Top K mg "_law_next" s__law_next ["stream", "many"] := ⟨⟨_, _, F1, PySem.W.mg_of X G a1, F1.binds (ps := ["stream", "many"]) fun _ _ _ _ _ _ us hl => match us, hl with | [_, _], _ => rfl⟩⟩
  have F2 := fun_mk (st := s__law_deep) l2 c2 k2
  have T2 : Top K mg "_law_deep" s__law_deep ["depth"] := ⟨⟨_, _, F2, PySem.W.mg_of X G a2, F2.binds (ps := ["depth"]) fun _ _ _ _ _ _ us hl => match us, hl with | [_], _ => rfl⟩⟩
  have F3 := fun_mk (st := s__law_case) l3 c3 k3
  have T3 : Top K mg "_law_case" s__law_case ["pick", "over"] := ⟨⟨_, _, F3, PySem.W.mg_of X G a3, F3.binds (ps := ["pick", "over"]) fun _ _ _ _ _ _ us hl => match us, hl with | [_, _], _ => rfl⟩⟩
  have F4 := fun_mk (st := s_check_part) l4 c4 k4
  have T4 : Top K mg "check_part" s_check_part ["part", "entries", "most"] := ⟨⟨_, _, F4, PySem.W.mg_of X G a4, F4.binds (ps := ["part", "entries", "most"]) fun _ _ _ _ _ _ us hl => match us, hl with | [_, _, _], _ => rfl⟩⟩
  have F5 := fun_mk (st := s_is_named) l5 c5 k5
  have T5 : Top K mg "is_named" s_is_named ["value"] := ⟨⟨_, _, F5, PySem.W.mg_of X G a5, F5.binds (ps := ["value"]) fun _ _ _ _ _ _ us hl => match us, hl with | [_], _ => rfl⟩⟩
  have F6 := fun_mk (st := s_is_made_of) l6 c6 k6
  have T6 : Top K mg "is_made_of" s_is_made_of ["text", "characters"] := ⟨⟨_, _, F6, PySem.W.mg_of X G a6, F6.binds (ps := ["text", "characters"]) fun _ _ _ _ _ _ us hl => match us, hl with | [_, _], _ => rfl⟩⟩
  have F7 := fun_mk (st := s_is_symbol) l7 c7 k7
  have T7 : Top K mg "is_symbol" s_is_symbol ["value"] := ⟨⟨_, _, F7, PySem.W.mg_of X G a7, F7.binds (ps := ["value"]) fun _ _ _ _ _ _ us hl => match us, hl with | [_], _ => rfl⟩⟩
  have F8 := fun_mk (st := s_check_name) l8 c8 k8
  have T8 : Top K mg "check_name" s_check_name ["where", "name", "names"] := ⟨⟨_, _, F8, PySem.W.mg_of X G a8, F8.binds (ps := ["where", "name", "names"]) fun _ _ _ _ _ _ us hl => match us, hl with | [_, _, _], _ => rfl⟩⟩
  have F9 := fun_mk (st := s_is_integer) l9 c9 k9
  have T9 : Top K mg "is_integer" s_is_integer ["value"] := ⟨⟨_, _, F9, PySem.W.mg_of X G a9, F9.binds (ps := ["value"]) fun _ _ _ _ _ _ us hl => match us, hl with | [_], _ => rfl⟩⟩
  have F10 := fun_mk (st := s_is_in_range) l10 c10 k10
  have T10 : Top K mg "is_in_range" s_is_in_range ["number"] := ⟨⟨_, _, F10, PySem.W.mg_of X G a10, F10.binds (ps := ["number"]) fun _ _ _ _ _ _ us hl => match us, hl with | [_], _ => rfl⟩⟩
  have F11 := fun_mk (st := s_is_value) l11 c11 k11
  have T11 : Top K mg "is_value" s_is_value ["value"] := ⟨⟨_, _, F11, PySem.W.mg_of X G a11, F11.binds (ps := ["value"]) fun _ _ _ _ _ _ us hl => match us, hl with | [_], _ => rfl⟩⟩
  have F12 := fun_mk (st := s_value_key) l12 c12 k12
  have T12 : Top K mg "value_key" s_value_key ["value"] := ⟨⟨_, _, F12, PySem.W.mg_of X G a12, F12.binds (ps := ["value"]) fun _ _ _ _ _ _ us hl => match us, hl with | [_], _ => rfl⟩⟩
  have F13 := fun_mk (st := s_are_kind_values) l13 c13 k13
  have T13 : Top K mg "are_kind_values" s_are_kind_values ["values"] := ⟨⟨_, _, F13, PySem.W.mg_of X G a13, F13.binds (ps := ["values"]) fun _ _ _ _ _ _ us hl => match us, hl with | [_], _ => rfl⟩⟩
  have F14 := fun_mk (st := s_check_kinds) l14 c14 k14
  have T14 : Top K mg "check_kinds" s_check_kinds ["kinds"] := ⟨⟨_, _, F14, PySem.W.mg_of X G a14, F14.binds (ps := ["kinds"]) fun _ _ _ _ _ _ us hl => match us, hl with | [_], _ => rfl⟩⟩
  have F15 := fun_mk (st := s_are_strings) l15 c15 k15
  have T15 : Top K mg "are_strings" s_are_strings ["values"] := ⟨⟨_, _, F15, PySem.W.mg_of X G a15, F15.binds (ps := ["values"]) fun _ _ _ _ _ _ us hl => match us, hl with | [_], _ => rfl⟩⟩
  have F16 := fun_mk (st := s_check_relations) l16 c16 k16
  have T16 : Top K mg "check_relations" s_check_relations ["relations", "values_of_kinds"] := ⟨⟨_, _, F16, PySem.W.mg_of X G a16, F16.binds (ps := ["relations", "values_of_kinds"]) fun _ _ _ _ _ _ us hl => match us, hl with | [_, _], _ => rfl⟩⟩
  have F17 := fun_mk (st := s_is_rule_form) l17 c17 k17
  have T17 : Top K mg "is_rule_form" s_is_rule_form ["value"] := ⟨⟨_, _, F17, PySem.W.mg_of X G a17, F17.binds (ps := ["value"]) fun _ _ _ _ _ _ us hl => match us, hl with | [_], _ => rfl⟩⟩
  have F18 := fun_mk (st := s_is_variable) l18 c18 k18
  have T18 : Top K mg "is_variable" s_is_variable ["value"] := ⟨⟨_, _, F18, PySem.W.mg_of X G a18, F18.binds (ps := ["value"]) fun _ _ _ _ _ _ us hl => match us, hl with | [_], _ => rfl⟩⟩
  have F19 := fun_mk (st := s_is_term) l19 c19 k19
  have T19 : Top K mg "is_term" s_is_term ["value"] := ⟨⟨_, _, F19, PySem.W.mg_of X G a19, F19.binds (ps := ["value"]) fun _ _ _ _ _ _ us hl => match us, hl with | [_], _ => rfl⟩⟩
  have F20 := fun_mk (st := s_check_terms) l20 c20 k20
  have T20 : Top K mg "check_terms" s_check_terms ["where", "relation", "terms", "columns"] := ⟨⟨_, _, F20, PySem.W.mg_of X G a20, F20.binds (ps := ["where", "relation", "terms", "columns"]) fun _ _ _ _ _ _ us hl => match us, hl with | [_, _, _, _], _ => rfl⟩⟩
  have F21 := fun_mk (st := s_is_tuple_from) l21 c21 k21
  have T21 : Top K mg "is_tuple_from" s_is_tuple_from ["value", "words", "length"] := ⟨⟨_, _, F21, PySem.W.mg_of X G a21, F21.binds (ps := ["value", "words", "length"]) fun _ _ _ _ _ _ us hl => match us, hl with | [_, _, _], _ => rfl⟩⟩
  have F22 := fun_mk (st := s_is_atom_literal) l22 c22 k22
  have T22 : Top K mg "is_atom_literal" s_is_atom_literal ["value"] := ⟨⟨_, _, F22, PySem.W.mg_of X G a22, F22.binds (ps := ["value"]) fun _ _ _ _ _ _ us hl => match us, hl with | [_], _ => rfl⟩⟩
  have F23 := fun_mk (st := s_is_comparison_literal) l23 c23 k23
  have T23 : Top K mg "is_comparison_literal" s_is_comparison_literal ["value"] := ⟨⟨_, _, F23, PySem.W.mg_of X G a23, F23.binds (ps := ["value"]) fun _ _ _ _ _ _ us hl => match us, hl with | [_], _ => rfl⟩⟩
  have F24 := fun_mk (st := s_is_expression_form) l24 c24 k24
  have T24 : Top K mg "is_expression_form" s_is_expression_form ["value"] := ⟨⟨_, _, F24, PySem.W.mg_of X G a24, F24.binds (ps := ["value"]) fun _ _ _ _ _ _ us hl => match us, hl with | [_], _ => rfl⟩⟩
  have F25 := fun_mk (st := s_check_expression) l25 c25 k25
  have T25 : Top K mg "check_expression" s_check_expression ["where", "expression", "depth"] := ⟨⟨_, _, F25, PySem.W.mg_of X G a25, F25.binds (ps := ["where", "expression", "depth"]) fun _ _ _ _ _ _ us hl => match us, hl with | [_, _, _], _ => rfl⟩⟩
  have F26 := fun_mk (st := s_check_comparison) l26 c26 k26
  have T26 : Top K mg "check_comparison" s_check_comparison ["where", "literal"] := ⟨⟨_, _, F26, PySem.W.mg_of X G a26, F26.binds (ps := ["where", "literal"]) fun _ _ _ _ _ _ us hl => match us, hl with | [_, _], _ => rfl⟩⟩
  have F27 := fun_mk (st := s_is_aggregate_literal) l27 c27 k27
  have T27 : Top K mg "is_aggregate_literal" s_is_aggregate_literal ["value"] := ⟨⟨_, _, F27, PySem.W.mg_of X G a27, F27.binds (ps := ["value"]) fun _ _ _ _ _ _ us hl => match us, hl with | [_], _ => rfl⟩⟩
  have F28 := fun_mk (st := s_check_inner) l28 c28 k28
  have T28 : Top K mg "check_inner" s_check_inner ["where", "literal", "columns"] := ⟨⟨_, _, F28, PySem.W.mg_of X G a28, F28.binds (ps := ["where", "literal", "columns"]) fun _ _ _ _ _ _ us hl => match us, hl with | [_, _, _], _ => rfl⟩⟩
  have F29 := fun_mk (st := s_check_aggregate) l29 c29 k29
  have T29 : Top K mg "check_aggregate" s_check_aggregate ["where", "literal", "columns"] := ⟨⟨_, _, F29, PySem.W.mg_of X G a29, F29.binds (ps := ["where", "literal", "columns"]) fun _ _ _ _ _ _ us hl => match us, hl with | [_, _, _], _ => rfl⟩⟩
  have F30 := fun_mk (st := s_check_literal) l30 c30 k30
  have T30 : Top K mg "check_literal" s_check_literal ["where", "literal", "columns"] := ⟨⟨_, _, F30, PySem.W.mg_of X G a30, F30.binds (ps := ["where", "literal", "columns"]) fun _ _ _ _ _ _ us hl => match us, hl with | [_, _, _], _ => rfl⟩⟩
  have F31 := fun_mk (st := s_term_variables) l31 c31 k31
  have T31 : Top K mg "term_variables" s_term_variables ["terms"] := ⟨⟨_, _, F31, PySem.W.mg_of X G a31, F31.binds (ps := ["terms"]) fun _ _ _ _ _ _ us hl => match us, hl with | [_], _ => rfl⟩⟩
  have F32 := fun_mk (st := s_is_aggregate) l32 c32 k32
  have T32 : Top K mg "is_aggregate" s_is_aggregate ["literal"] := ⟨⟨_, _, F32, PySem.W.mg_of X G a32, F32.binds (ps := ["literal"]) fun _ _ _ _ _ _ us hl => match us, hl with | [_], _ => rfl⟩⟩
  have F33 := fun_mk (st := s_outer_expressions) l33 c33 k33
  have T33 : Top K mg "outer_expressions" s_outer_expressions ["literal"] := ⟨⟨_, _, F33, PySem.W.mg_of X G a33, F33.binds (ps := ["literal"]) fun _ _ _ _ _ _ us hl => match us, hl with | [_], _ => rfl⟩⟩
  have F34 := fun_mk (st := s_expression_variables) l34 c34 k34
  have T34 : Top K mg "expression_variables" s_expression_variables ["expression"] := ⟨⟨_, _, F34, PySem.W.mg_of X G a34, F34.binds (ps := ["expression"]) fun _ _ _ _ _ _ us hl => match us, hl with | [_], _ => rfl⟩⟩
  have F35 := fun_mk (st := s_outer_variables) l35 c35 k35
  have T35 : Top K mg "outer_variables" s_outer_variables ["literal"] := ⟨⟨_, _, F35, PySem.W.mg_of X G a35, F35.binds (ps := ["literal"]) fun _ _ _ _ _ _ us hl => match us, hl with | [_], _ => rfl⟩⟩
  have F36 := fun_mk (st := s_once) l36 c36 k36
  have T36 : Top K mg "once" s_once ["names"] := ⟨⟨_, _, F36, PySem.W.mg_of X G a36, F36.binds (ps := ["names"]) fun _ _ _ _ _ _ us hl => match us, hl with | [_], _ => rfl⟩⟩
  have F37 := fun_mk (st := s_rule_variables) l37 c37 k37
  have T37 : Top K mg "rule_variables" s_rule_variables ["rule"] := ⟨⟨_, _, F37, PySem.W.mg_of X G a37, F37.binds (ps := ["rule"]) fun _ _ _ _ _ _ us hl => match us, hl with | [_], _ => rfl⟩⟩
  have F38 := fun_mk (st := s_safe_variables) l38 c38 k38
  have T38 : Top K mg "safe_variables" s_safe_variables ["rule"] := ⟨⟨_, _, F38, PySem.W.mg_of X G a38, F38.binds (ps := ["rule"]) fun _ _ _ _ _ _ us hl => match us, hl with | [_], _ => rfl⟩⟩
  have F39 := fun_mk (st := s_inner_literals) l39 c39 k39
  have T39 : Top K mg "inner_literals" s_inner_literals ["literal"] := ⟨⟨_, _, F39, PySem.W.mg_of X G a39, F39.binds (ps := ["literal"]) fun _ _ _ _ _ _ us hl => match us, hl with | [_], _ => rfl⟩⟩
  have F40 := fun_mk (st := s_inner_variables) l40 c40 k40
  have T40 : Top K mg "inner_variables" s_inner_variables ["literal"] := ⟨⟨_, _, F40, PySem.W.mg_of X G a40, F40.binds (ps := ["literal"]) fun _ _ _ _ _ _ us hl => match us, hl with | [_], _ => rfl⟩⟩
  have F41 := fun_mk (st := s_literal_atoms) l41 c41 k41
  have T41 : Top K mg "literal_atoms" s_literal_atoms ["literal"] := ⟨⟨_, _, F41, PySem.W.mg_of X G a41, F41.binds (ps := ["literal"]) fun _ _ _ _ _ _ us hl => match us, hl with | [_], _ => rfl⟩⟩
  have F42 := fun_mk (st := s_check_scope) l42 c42 k42
  have T42 : Top K mg "check_scope" s_check_scope ["where", "literal", "variables", "taken"] := ⟨⟨_, _, F42, PySem.W.mg_of X G a42, F42.binds (ps := ["where", "literal", "variables", "taken"]) fun _ _ _ _ _ _ us hl => match us, hl with | [_, _, _, _], _ => rfl⟩⟩
  have F43 := fun_mk (st := s_rule_atoms) l43 c43 k43
  have T43 : Top K mg "rule_atoms" s_rule_atoms ["rule"] := ⟨⟨_, _, F43, PySem.W.mg_of X G a43, F43.binds (ps := ["rule"]) fun _ _ _ _ _ _ us hl => match us, hl with | [_], _ => rfl⟩⟩
  have F44 := fun_mk (st := s_variable_values) l44 c44 k44
  have T44 : Top K mg "variable_values" s_variable_values ["rule", "columns"] := ⟨⟨_, _, F44, PySem.W.mg_of X G a44, F44.binds (ps := ["rule", "columns"]) fun _ _ _ _ _ _ us hl => match us, hl with | [_, _], _ => rfl⟩⟩
  have F45 := fun_mk (st := s_own_variables) l45 c45 k45
  have T45 : Top K mg "own_variables" s_own_variables ["literal"] := ⟨⟨_, _, F45, PySem.W.mg_of X G a45, F45.binds (ps := ["literal"]) fun _ _ _ _ _ _ us hl => match us, hl with | [_], _ => rfl⟩⟩
  have F46 := fun_mk (st := s_number_variables) l46 c46 k46
  have T46 : Top K mg "number_variables" s_number_variables ["literal"] := ⟨⟨_, _, F46, PySem.W.mg_of X G a46, F46.binds (ps := ["literal"]) fun _ _ _ _ _ _ us hl => match us, hl with | [_], _ => rfl⟩⟩
  have F47 := fun_mk (st := s_are_integers) l47 c47 k47
  have T47 : Top K mg "are_integers" s_are_integers ["values"] := ⟨⟨_, _, F47, PySem.W.mg_of X G a47, F47.binds (ps := ["values"]) fun _ _ _ _ _ _ us hl => match us, hl with | [_], _ => rfl⟩⟩
  have F48 := fun_mk (st := s_check_variables) l48 c48 k48
  have T48 : Top K mg "check_variables" s_check_variables ["where", "rule", "columns"] := ⟨⟨_, _, F48, PySem.W.mg_of X G a48, F48.binds (ps := ["where", "rule", "columns"]) fun _ _ _ _ _ _ us hl => match us, hl with | [_, _, _], _ => rfl⟩⟩
  have F49 := fun_mk (st := s_check_rules) l49 c49 k49
  have T49 : Top K mg "check_rules" s_check_rules ["rules", "columns"] := ⟨⟨_, _, F49, PySem.W.mg_of X G a49, F49.binds (ps := ["rules", "columns"]) fun _ _ _ _ _ _ us hl => match us, hl with | [_, _], _ => rfl⟩⟩
  have F50 := fun_mk (st := s_is_in_columns) l50 c50 k50
  have T50 : Top K mg "is_in_columns" s_is_in_columns ["values", "columns"] := ⟨⟨_, _, F50, PySem.W.mg_of X G a50, F50.binds (ps := ["values", "columns"]) fun _ _ _ _ _ _ us hl => match us, hl with | [_, _], _ => rfl⟩⟩
  have F51 := fun_mk (st := s_check_facts) l51 c51 k51
  have T51 : Top K mg "check_facts" s_check_facts ["facts", "columns"] := ⟨⟨_, _, F51, PySem.W.mg_of X G a51, F51.binds (ps := ["facts", "columns"]) fun _ _ _ _ _ _ us hl => match us, hl with | [_, _], _ => rfl⟩⟩
  have F52 := fun_mk (st := s_Program___init__) l52 c52 k52
  have T52 : TopNk K mg "Program" "Program.__init__" s_Program___init__ ["self", "kinds", "relations", "rules", "facts"] ["kinds", "relations", "rules", "facts"] := ⟨⟨_, _, _, PySem.W.mg_of X G oaProgram, ⟨omProgram, a52, i52, okProgram⟩, F52, ⟨fun s y us _ hl => match us, hl with | [_, _, _, _], _ => .of_eq rfl, fun _ r => r⟩⟩⟩
  have F53 := fun_mk (st := s__law_told) l53 c53 k53
  have T53 : Top K mg "_law_told" s__law_told ["case"] := ⟨⟨_, _, F53, PySem.W.mg_of X G a53, F53.binds (ps := ["case"]) fun _ _ _ _ _ _ us hl => match us, hl with | [_], _ => rfl⟩⟩
  have F54 := fun_mk (st := s_law) l54 c54 k54
  have G_AGGREGATE_WORDS : Gv ⟨K, l.prog, w, mg⟩ "AGGREGATE_WORDS" v_AGGREGATE_WORDS := ⟨⟨.ref ga0, _, PySem.W.mg_of X G gv0, rfl, fun H => .tup (.inr ⟨_, _, _, gw0, rfl, rfl, by simp only [List.size_toArray, List.length_cons, List.length_nil]; decide, (show Vals [V.str "equal", V.str "less", V.str "atmost", V.str "more", V.str "atleast"] _ from .cons ⟨_, rfl⟩ (.cons ⟨_, rfl⟩ (.cons ⟨_, rfl⟩ (.cons ⟨_, rfl⟩ (.cons ⟨_, rfl⟩ (.nil))))))⟩) (.cons (.str _) (.cons (.str _) (.cons (.str _) (.cons (.str _) (.cons (.str _) (.nil))))))⟩⟩
  have G_COMPARISONS : Gv ⟨K, l.prog, w, mg⟩ "COMPARISONS" v_COMPARISONS := ⟨⟨.ref ga1, _, PySem.W.mg_of X G gv1, rfl, fun H => .tup (.inr ⟨_, _, _, gw1, rfl, rfl, by simp only [List.size_toArray, List.length_cons, List.length_nil]; decide, (show Vals [V.str "equal", V.str "less", V.str "atmost"] _ from .cons ⟨_, rfl⟩ (.cons ⟨_, rfl⟩ (.cons ⟨_, rfl⟩ (.nil))))⟩) (.cons (.str _) (.cons (.str _) (.cons (.str _) (.nil))))⟩⟩
  have G_GREATEST_INTEGER : Gv ⟨K, l.prog, w, mg⟩ "GREATEST_INTEGER" v_GREATEST_INTEGER := ⟨⟨V.int (1000), _, PySem.W.mg_of X G gv2, ⟨_, rfl⟩, fun H => .int _⟩⟩
  have G_LETTERS : Gv ⟨K, l.prog, w, mg⟩ "LETTERS" v_LETTERS := ⟨⟨V.str "abcdefghijklmnopqrstuvwxyz", _, PySem.W.mg_of X G gv3, ⟨_, rfl⟩, fun H => .str _⟩⟩
  have G_LONGEST_SYMBOL : Gv ⟨K, l.prog, w, mg⟩ "LONGEST_SYMBOL" v_LONGEST_SYMBOL := ⟨⟨V.int (12), _, PySem.W.mg_of X G gv4, ⟨_, rfl⟩, fun H => .int _⟩⟩
  have G_LONGEST_VARIABLE : Gv ⟨K, l.prog, w, mg⟩ "LONGEST_VARIABLE" v_LONGEST_VARIABLE := ⟨⟨V.int (8), _, PySem.W.mg_of X G gv5, ⟨_, rfl⟩, fun H => .int _⟩⟩
  have G_MOST_COLUMNS : Gv ⟨K, l.prog, w, mg⟩ "MOST_COLUMNS" v_MOST_COLUMNS := ⟨⟨V.int (4), _, PySem.W.mg_of X G gv6, ⟨_, rfl⟩, fun H => .int _⟩⟩
  have G_MOST_DEPTH : Gv ⟨K, l.prog, w, mg⟩ "MOST_DEPTH" v_MOST_DEPTH := ⟨⟨V.int (4), _, PySem.W.mg_of X G gv7, ⟨_, rfl⟩, fun H => .int _⟩⟩
  have G_MOST_FACTS : Gv ⟨K, l.prog, w, mg⟩ "MOST_FACTS" v_MOST_FACTS := ⟨⟨V.int (200), _, PySem.W.mg_of X G gv8, ⟨_, rfl⟩, fun H => .int _⟩⟩
  have G_MOST_INNER_LITERALS : Gv ⟨K, l.prog, w, mg⟩ "MOST_INNER_LITERALS" v_MOST_INNER_LITERALS := ⟨⟨V.int (3), _, PySem.W.mg_of X G gv9, ⟨_, rfl⟩, fun H => .int _⟩⟩
  have G_MOST_KINDS : Gv ⟨K, l.prog, w, mg⟩ "MOST_KINDS" v_MOST_KINDS := ⟨⟨V.int (8), _, PySem.W.mg_of X G gv10, ⟨_, rfl⟩, fun H => .int _⟩⟩
  have G_MOST_LITERALS : Gv ⟨K, l.prog, w, mg⟩ "MOST_LITERALS" v_MOST_LITERALS := ⟨⟨V.int (6), _, PySem.W.mg_of X G gv11, ⟨_, rfl⟩, fun H => .int _⟩⟩
  have G_MOST_OWN_VARIABLES : Gv ⟨K, l.prog, w, mg⟩ "MOST_OWN_VARIABLES" v_MOST_OWN_VARIABLES := ⟨⟨V.int (3), _, PySem.W.mg_of X G gv12, ⟨_, rfl⟩, fun H => .int _⟩⟩
  have G_MOST_RELATIONS : Gv ⟨K, l.prog, w, mg⟩ "MOST_RELATIONS" v_MOST_RELATIONS := ⟨⟨V.int (12), _, PySem.W.mg_of X G gv13, ⟨_, rfl⟩, fun H => .int _⟩⟩
  have G_MOST_RULES : Gv ⟨K, l.prog, w, mg⟩ "MOST_RULES" v_MOST_RULES := ⟨⟨V.int (24), _, PySem.W.mg_of X G gv14, ⟨_, rfl⟩, fun H => .int _⟩⟩
  have G_MOST_VALUES : Gv ⟨K, l.prog, w, mg⟩ "MOST_VALUES" v_MOST_VALUES := ⟨⟨V.int (12), _, PySem.W.mg_of X G gv15, ⟨_, rfl⟩, fun H => .int _⟩⟩
  have G_MOST_VARIABLES : Gv ⟨K, l.prog, w, mg⟩ "MOST_VARIABLES" v_MOST_VARIABLES := ⟨⟨V.int (5), _, PySem.W.mg_of X G gv16, ⟨_, rfl⟩, fun H => .int _⟩⟩
  have G_OPERATIONS : Gv ⟨K, l.prog, w, mg⟩ "OPERATIONS" v_OPERATIONS := ⟨⟨.ref ga17, _, PySem.W.mg_of X G gv17, rfl, fun H => .tup (.inr ⟨_, _, _, gw17, rfl, rfl, by simp only [List.size_toArray, List.length_cons, List.length_nil]; decide, (show Vals [V.str "count", V.str "sum", V.str "least", V.str "greatest"] _ from .cons ⟨_, rfl⟩ (.cons ⟨_, rfl⟩ (.cons ⟨_, rfl⟩ (.cons ⟨_, rfl⟩ (.nil)))))⟩) (.cons (.str _) (.cons (.str _) (.cons (.str _) (.cons (.str _) (.nil)))))⟩⟩
  have G_OPERATORS : Gv ⟨K, l.prog, w, mg⟩ "OPERATORS" v_OPERATORS := ⟨⟨.ref ga18, _, PySem.W.mg_of X G gv18, rfl, fun H => .tup (.inr ⟨_, _, _, gw18, rfl, rfl, by simp only [List.size_toArray, List.length_cons, List.length_nil]; decide, (show Vals [V.str "plus", V.str "minus", V.str "times"] _ from .cons ⟨_, rfl⟩ (.cons ⟨_, rfl⟩ (.cons ⟨_, rfl⟩ (.nil))))⟩) (.cons (.str _) (.cons (.str _) (.cons (.str _) (.nil))))⟩⟩
  have G_RESERVED : Gv ⟨K, l.prog, w, mg⟩ "RESERVED" v_RESERVED := ⟨⟨.ref ga19, _, PySem.W.mg_of X G gv19, rfl, fun H => .tup (.inr ⟨_, _, _, gw19, rfl, rfl, by simp only [List.size_toArray, List.length_cons, List.length_nil]; decide, (show Vals [V.str "kind", V.str "relation", V.str "fact", V.str "rule", V.str "if", V.str "not", V.str "same", V.str "differ", V.str "count", V.str "sum", V.str "least", V.str "greatest"] _ from .cons ⟨_, rfl⟩ (.cons ⟨_, rfl⟩ (.cons ⟨_, rfl⟩ (.cons ⟨_, rfl⟩ (.cons ⟨_, rfl⟩ (.cons ⟨_, rfl⟩ (.cons ⟨_, rfl⟩ (.cons ⟨_, rfl⟩ (.cons ⟨_, rfl⟩ (.cons ⟨_, rfl⟩ (.cons ⟨_, rfl⟩ (.cons ⟨_, rfl⟩ (.nil)))))))))))))⟩) (.cons (.str _) (.cons (.str _) (.cons (.str _) (.cons (.str _) (.cons (.str _) (.cons (.str _) (.cons (.str _) (.cons (.str _) (.cons (.str _) (.cons (.str _) (.cons (.str _) (.cons (.str _) (.nil)))))))))))))⟩⟩
  have G_SYMBOL_CHARACTERS : Gv ⟨K, l.prog, w, mg⟩ "SYMBOL_CHARACTERS" v_SYMBOL_CHARACTERS := ⟨⟨V.str "abcdefghijklmnopqrstuvwxyz0123456789_", _, PySem.W.mg_of X G gv20, ⟨_, rfl⟩, fun H => .str _⟩⟩
  have G_TERM_COMPARISONS : Gv ⟨K, l.prog, w, mg⟩ "TERM_COMPARISONS" v_TERM_COMPARISONS := ⟨⟨.ref ga21, _, PySem.W.mg_of X G gv21, rfl, fun H => .tup (.inr ⟨_, _, _, gw21, rfl, rfl, by simp only [List.size_toArray, List.length_cons, List.length_nil]; decide, (show Vals [V.str "same", V.str "differ"] _ from .cons ⟨_, rfl⟩ (.cons ⟨_, rfl⟩ (.nil)))⟩) (.cons (.str _) (.cons (.str _) (.nil)))⟩⟩
  have G_VARIABLE_CHARACTERS : Gv ⟨K, l.prog, w, mg⟩ "VARIABLE_CHARACTERS" v_VARIABLE_CHARACTERS := ⟨⟨V.str "abcdefghijklmnopqrstuvwxyz0123456789", _, PySem.W.mg_of X G gv22, ⟨_, rfl⟩, fun H => .str _⟩⟩
  refine ⟨PySem.W.fnOf "law" "law" (defArgs s_law) (defBody s_law) (defScope s_law) .none kV54 dc54 pm54 an54 cd54 ct54, fun s v => .of_eq rfl, fun base _ _ => ?_⟩
  have OBadProgram : OexC K CBadProgram := ⟨⟨_, _, _, _, _, _, _, _, _, _, _, _, _, _, _, xlBadProgram, rfl⟩, xsBadProgram, xeBadProgram, xyBadProgram, xKBadProgram⟩
  have FIBadProgram := fun_mk (st := (inClass (topS 3) 0)) xfBadProgram xcBadProgram xkBadProgram
  have NABadProgram : ∀ f ∈ (["where", "why"] : List Str), PySem.W.findIn K (.ref CBadProgram) f = some none := fun f hf => by
    simp only [List.mem_cons, List.not_mem_nil, or_false] at hf
    rcases hf with rfl | rfl
    · exact xnBadProgram0
    · exact xnBadProgram1
  have E_BadProgram : ErrK l.prog w K mg base "BadProgram" ["where", "why"] := ⟨⟨CBadProgram, fiBadProgram, _, ["self", "where", "why"], PySem.W.mg_of X G xaBadProgram, OBadProgram, ⟨xgBadProgram, xhBadProgram, xeBadProgram, xdBadProgram⟩, NABadProgram, xiBadProgram, xtBadProgram, init2 FIBadProgram (⟨rfl, rfl, rfl, by decide +kernel, rfl, by decide +kernel, by decide +kernel⟩ : FnScope ["self", "where", "why"] ["self", "where", "why"] (defScope (inClass (topS 3) 0))) rfl OBadProgram xnBadProgram0 xnBadProgram1 fun cdv A outer s H E => pss_cons (ps_ost (pv 0) (pv 1)) (pss_one (ps_ost (pv 0) (pv 2))), FIBadProgram.binds (ps := ["self", "where", "why"]) fun _ _ _ _ _ _ us hl => match us, hl with | [_, _, _], _ => rfl, by decide⟩⟩
  have M_BadProgram : CatK ⟨K, l.prog, w, mg⟩ "BadProgram" ["BadProgram"] [] := ⟨⟨_, PySem.W.mg_of X G xaBadProgram, fun s hs => ⟨CBadProgram, by rw [List.mem_singleton.mp hs]; exact PySem.W.mg_of X G xaBadProgram, PySem.W.exm_ref xeBadProgram xdBadProgram xyBadProgram xvBadProgram⟩, fun _ h => nomatch h⟩⟩
  have A_Program__columns : FldK ⟨K, l.prog, w, mg⟩ "Program" "_columns" := ⟨⟨CProgram, PySem.W.mg_of X G oaProgram, ⟨opProgram, ohProgram, ooProgram, osProgram⟩, onProgram_columns⟩⟩
  have A_Program__grounding : FldK ⟨K, l.prog, w, mg⟩ "Program" "_grounding" := ⟨⟨CProgram, PySem.W.mg_of X G oaProgram, ⟨opProgram, ohProgram, ooProgram, osProgram⟩, onProgram_grounding⟩⟩
  have A_Program__places : FldK ⟨K, l.prog, w, mg⟩ "Program" "_places" := ⟨⟨CProgram, PySem.W.mg_of X G oaProgram, ⟨opProgram, ohProgram, ooProgram, osProgram⟩, onProgram_places⟩⟩
  have A_Program__variable_values : FldK ⟨K, l.prog, w, mg⟩ "Program" "_variable_values" := ⟨⟨CProgram, PySem.W.mg_of X G oaProgram, ⟨opProgram, ohProgram, ooProgram, osProgram⟩, onProgram_variable_values⟩⟩
  have A_Program__variables : FldK ⟨K, l.prog, w, mg⟩ "Program" "_variables" := ⟨⟨CProgram, PySem.W.mg_of X G oaProgram, ⟨opProgram, ohProgram, ooProgram, osProgram⟩, onProgram_variables⟩⟩
  have A_Program_facts : FldK ⟨K, l.prog, w, mg⟩ "Program" "facts" := ⟨⟨CProgram, PySem.W.mg_of X G oaProgram, ⟨opProgram, ohProgram, ooProgram, osProgram⟩, onProgramfacts⟩⟩
  have A_Program_kinds : FldK ⟨K, l.prog, w, mg⟩ "Program" "kinds" := ⟨⟨CProgram, PySem.W.mg_of X G oaProgram, ⟨opProgram, ohProgram, ooProgram, osProgram⟩, onProgramkinds⟩⟩
  have A_Program_relations : FldK ⟨K, l.prog, w, mg⟩ "Program" "relations" := ⟨⟨CProgram, PySem.W.mg_of X G oaProgram, ⟨opProgram, ohProgram, ooProgram, osProgram⟩, onProgramrelations⟩⟩
  have A_Program_rules : FldK ⟨K, l.prog, w, mg⟩ "Program" "rules" := ⟨⟨CProgram, PySem.W.mg_of X G oaProgram, ⟨opProgram, ohProgram, ooProgram, osProgram⟩, onProgramrules⟩⟩
  have C__law_stream : Cal l.prog w K mg base 1 "_law_stream" 1 g__law_stream := ok__law_stream B T0  
  have C__law_next : Cal l.prog w K mg base 1 "_law_next" 2 g__law_next := ok__law_next B T1  
  have C__law_deep : Cal l.prog w K mg base 1 "_law_deep" 1 g__law_deep := ok__law_deep B T2  
  have C__law_case : Cal l.prog w K mg base 2 "_law_case" 2 g__law_case := ok__law_case B T3  (C__law_deep.mono (by decide))
  have C_check_part : Cal l.prog w K mg base 3 "check_part" 3 g_check_part := ok_check_part B T4 E_BadProgram 
  have C_is_named : Cal l.prog w K mg base 1 "is_named" 1 g_is_named := ok_is_named B T5  
  have C_is_made_of : Cal l.prog w K mg base 1 "is_made_of" 2 g_is_made_of := ok_is_made_of B T6  
  have C_is_symbol : Cal l.prog w K mg base 2 "is_symbol" 1 g_is_symbol := ok_is_symbol B T7 G_LETTERS G_LONGEST_SYMBOL G_RESERVED G_SYMBOL_CHARACTERS (C_is_made_of.mono (by decide))
  have C_check_name : Cal l.prog w K mg base 3 "check_name" 3 g_check_name := ok_check_name B T8 E_BadProgram (C_is_symbol.mono (by decide))
  have C_is_integer : Cal l.prog w K mg base 1 "is_integer" 1 g_is_integer := ok_is_integer B T9  
  have C_is_in_range : Cal l.prog w K mg base 1 "is_in_range" 1 g_is_in_range := ok_is_in_range B T10 G_GREATEST_INTEGER 
  have C_is_value : Cal l.prog w K mg base 3 "is_value" 1 g_is_value := ok_is_value B T11  (C_is_integer.mono (by decide)) (C_is_in_range.mono (by decide)) (C_is_symbol.mono (by decide))
  have C_value_key : Cal l.prog w K mg base 1 "value_key" 1 g_value_key := ok_value_key B T12  
  have C_are_kind_values : Cal l.prog w K mg base 4 "are_kind_values" 1 g_are_kind_values := ok_are_kind_values B T13 G_MOST_VALUES (C_is_value.mono (by decide)) (C_value_key.mono (by decide))
  have C_check_kinds : Cal l.prog w K mg base 5 "check_kinds" 1 g_check_kinds := ok_check_kinds B T14 G_MOST_KINDS E_BadProgram (C_check_part.mono (by decide)) (C_is_named.mono (by decide)) (C_check_name.mono (by decide)) (C_are_kind_values.mono (by decide))
  have C_are_strings : Cal l.prog w K mg base 1 "are_strings" 1 g_are_strings := ok_are_strings B T15  
  have C_check_relations : Cal l.prog w K mg base 4 "check_relations" 2 g_check_relations := ok_check_relations B T16 G_MOST_COLUMNS G_MOST_RELATIONS E_BadProgram (C_check_part.mono (by decide)) (C_is_named.mono (by decide)) (C_are_strings.mono (by decide)) (C_check_name.mono (by decide))
  have C_is_rule_form : Cal l.prog w K mg base 1 "is_rule_form" 1 g_is_rule_form := ok_is_rule_form B T17  
  have C_is_variable : Cal l.prog w K mg base 2 "is_variable" 1 g_is_variable := ok_is_variable B T18 G_LONGEST_VARIABLE G_VARIABLE_CHARACTERS (C_is_made_of.mono (by decide))
  have C_is_term : Cal l.prog w K mg base 4 "is_term" 1 g_is_term := ok_is_term B T19  (C_is_value.mono (by decide)) (C_is_variable.mono (by decide))
  have C_check_terms : Cal l.prog w K mg base 5 "check_terms" 4 g_check_terms := ok_check_terms B T20 E_BadProgram (C_is_term.mono (by decide)) (C_is_value.mono (by decide))
  have C_is_tuple_from : Cal l.prog w K mg base 1 "is_tuple_from" 3 g_is_tuple_from := ok_is_tuple_from B T21  
  have C_is_atom_literal : Cal l.prog w K mg base 2 "is_atom_literal" 1 g_is_atom_literal := ok_is_atom_literal B T22  (C_is_tuple_from.mono (by decide))
  have C_is_comparison_literal : Cal l.prog w K mg base 2 "is_comparison_literal" 1 g_is_comparison_literal := ok_is_comparison_literal B T23 G_COMPARISONS G_TERM_COMPARISONS (C_is_tuple_from.mono (by decide))
  have C_is_expression_form : Cal l.prog w K mg base 3 "is_expression_form" 1 g_is_expression_form := ok_is_expression_form B T24 G_OPERATORS (C_is_tuple_from.mono (by decide)) (C_is_integer.mono (by decide)) (C_is_variable.mono (by decide))
  have C_check_expression : Cal l.prog w K mg base 11 "check_expression" 3 (g_check_expression 7) := ok_check_expression B T25 G_MOST_DEPTH G_OPERATORS E_BadProgram (C_is_expression_form.mono (by decide)) (C_is_in_range.mono (by decide)) 7
  have C_check_comparison : Cal l.prog w K mg base 12 "check_comparison" 2 g_check_comparison := ok_check_comparison B T26 G_COMPARISONS E_BadProgram (C_check_expression.mono (by decide)) (C_is_term.mono (by decide))
  have C_is_aggregate_literal : Cal l.prog w K mg base 2 "is_aggregate_literal" 1 g_is_aggregate_literal := ok_is_aggregate_literal B T27 G_AGGREGATE_WORDS G_OPERATIONS (C_is_tuple_from.mono (by decide))
  have C_check_inner : Cal l.prog w K mg base 13 "check_inner" 3 g_check_inner := ok_check_inner B T28 E_BadProgram (C_is_comparison_literal.mono (by decide)) (C_check_comparison.mono (by decide)) (C_is_atom_literal.mono (by decide)) (C_check_terms.mono (by decide))
  have C_check_aggregate : Cal l.prog w K mg base 14 "check_aggregate" 3 g_check_aggregate := ok_check_aggregate B T29 G_MOST_INNER_LITERALS G_MOST_OWN_VARIABLES E_BadProgram (C_check_expression.mono (by decide)) (C_is_variable.mono (by decide)) (C_check_inner.mono (by decide))
  have C_check_literal : Cal l.prog w K mg base 15 "check_literal" 3 g_check_literal := ok_check_literal B T30 E_BadProgram (C_is_atom_literal.mono (by decide)) (C_check_terms.mono (by decide)) (C_is_comparison_literal.mono (by decide)) (C_check_comparison.mono (by decide)) (C_is_aggregate_literal.mono (by decide)) (C_check_aggregate.mono (by decide))
  have C_term_variables : Cal l.prog w K mg base 3 "term_variables" 1 g_term_variables := ok_term_variables B T31  (C_is_variable.mono (by decide))
  have C_is_aggregate : Cal l.prog w K mg base 1 "is_aggregate" 1 g_is_aggregate := ok_is_aggregate B T32 G_OPERATIONS 
  have C_outer_expressions : Cal l.prog w K mg base 2 "outer_expressions" 1 g_outer_expressions := ok_outer_expressions B T33 G_COMPARISONS (C_is_aggregate.mono (by decide))
  have C_expression_variables : Cal l.prog w K mg base 7 "expression_variables" 1 (g_expression_variables 6) := ok_expression_variables B T34   6
  have C_outer_variables : Cal l.prog w K mg base 8 "outer_variables" 1 g_outer_variables := ok_outer_variables B T35 G_TERM_COMPARISONS (C_term_variables.mono (by decide)) (C_outer_expressions.mono (by decide)) (C_expression_variables.mono (by decide))
  have C_once : Cal l.prog w K mg base 1 "once" 1 g_once := ok_once B T36  
  have C_rule_variables : Cal l.prog w K mg base 9 "rule_variables" 1 g_rule_variables := ok_rule_variables B T37  (C_term_variables.mono (by decide)) (C_outer_variables.mono (by decide)) (C_once.mono (by decide))
  have C_safe_variables : Cal l.prog w K mg base 4 "safe_variables" 1 g_safe_variables := ok_safe_variables B T38  (C_term_variables.mono (by decide))
  have C_inner_literals : Cal l.prog w K mg base 2 "inner_literals" 1 g_inner_literals := ok_inner_literals B T39  (C_is_aggregate.mono (by decide))
  have C_inner_variables : Cal l.prog w K mg base 9 "inner_variables" 1 g_inner_variables := ok_inner_variables B T40  (C_inner_literals.mono (by decide)) (C_outer_variables.mono (by decide))
  have C_literal_atoms : Cal l.prog w K mg base 3 "literal_atoms" 1 g_literal_atoms := ok_literal_atoms B T41  (C_inner_literals.mono (by decide))
  have C_check_scope : Cal l.prog w K mg base 10 "check_scope" 4 g_check_scope := ok_check_scope B T42 E_BadProgram (C_inner_variables.mono (by decide)) (C_literal_atoms.mono (by decide)) (C_term_variables.mono (by decide))
  have C_rule_atoms : Cal l.prog w K mg base 4 "rule_atoms" 1 g_rule_atoms := ok_rule_atoms B T43  (C_literal_atoms.mono (by decide))
  have C_variable_values : Cal l.prog w K mg base 5 "variable_values" 2 g_variable_values := ok_variable_values B T44  (C_rule_atoms.mono (by decide)) (C_is_variable.mono (by decide))
  have C_own_variables : Cal l.prog w K mg base 2 "own_variables" 1 g_own_variables := ok_own_variables B T45  (C_is_aggregate.mono (by decide))
  have C_number_variables : Cal l.prog w K mg base 8 "number_variables" 1 g_number_variables := ok_number_variables B T46  (C_inner_literals.mono (by decide)) (C_outer_expressions.mono (by decide)) (C_expression_variables.mono (by decide)) (C_is_aggregate.mono (by decide)) (C_own_variables.mono (by decide))
  have C_are_integers : Cal l.prog w K mg base 2 "are_integers" 1 g_are_integers := ok_are_integers B T47  (C_is_integer.mono (by decide))
  have C_check_variables : Cal l.prog w K mg base 11 "check_variables" 3 g_check_variables := ok_check_variables B T48 G_MOST_VARIABLES E_BadProgram (C_rule_variables.mono (by decide)) (C_safe_variables.mono (by decide)) (C_is_aggregate.mono (by decide)) (C_check_scope.mono (by decide)) (C_variable_values.mono (by decide)) (C_number_variables.mono (by decide)) (C_are_integers.mono (by decide))
  have C_check_rules : Cal l.prog w K mg base 16 "check_rules" 2 g_check_rules := ok_check_rules B T49 G_MOST_LITERALS G_MOST_RULES E_BadProgram (C_check_part.mono (by decide)) (C_is_rule_form.mono (by decide)) (C_check_terms.mono (by decide)) (C_check_literal.mono (by decide)) (C_check_variables.mono (by decide))
  have C_is_in_columns : Cal l.prog w K mg base 4 "is_in_columns" 2 g_is_in_columns := ok_is_in_columns B T50  (C_is_value.mono (by decide))
  have C_check_facts : Cal l.prog w K mg base 5 "check_facts" 2 g_check_facts := ok_check_facts B T51 G_MOST_FACTS E_BadProgram (C_check_part.mono (by decide)) (C_is_named.mono (by decide)) (C_is_in_columns.mono (by decide))
  have Z_Program : NewKw l.prog w K mg base 17 "Program" ["kinds", "relations", "rules", "facts"] g_Program___init__ := ok_Program___init__ B T52 A_Program__columns A_Program__grounding A_Program__places A_Program__variable_values A_Program__variables A_Program_facts A_Program_kinds A_Program_relations A_Program_rules (C_check_kinds.mono (by decide)) (C_check_relations.mono (by decide)) (C_check_rules.mono (by decide)) (C_check_facts.mono (by decide)) (C_rule_variables.mono (by decide)) (C_variable_values.mono (by decide))
  have C__law_told : Cal l.prog w K mg base 19 "_law_told" 1 g__law_told := ok__law_told B T53 E_BadProgram M_BadProgram (Z_Program.mono (by decide))
  exact fn_law F54 B  (C__law_stream.mono (by decide)) (C__law_next.mono (by decide)) (C__law_case.mono (by decide)) (C__law_told.mono (by decide)) law_true
end Dn.k06_bounds_of_programs
open PySem PySem.W PyProof.Rows
set_option maxHeartbeats 0 in
theorem PySem.Challenge.cw_rulestand_k06_bounds_of_programs_holds : PySem.Challenge.rw_rulestand_k06_bounds_of_programs.Holds := by
  w_on; o_law; k_head; (case hw => w_witness2)
  k_fill
  refine L2.walk_of (l := PySem.Challenge.rw_rulestand_k06_bounds_of_programs) (n := 63) (k := 20) (x := "script") (CX := fun _ => L2.CX0) (sp := fun w => Dn.spLaw _) rfl (by decide) rfl ⟨rfl, by decide, by decide⟩ (fun w h Y => PySem.W.kIn_of Y) ?F (fun _ _ a ns hl _ hS => ⟨a, ns, rfl, hS, hl, fun _ => rfl⟩) (fun _ _ _ _ _ h => h)
  case F =>
    intro w mg fa h KX G hmg
    refine' Dn.k06_bounds_of_programs.all_mk KX G hmg ?oaProgram ?opProgram ?ohProgram ?ooProgram ?osProgram ?onProgram_columns ?onProgram_grounding ?onProgram_places ?onProgram_variable_values ?onProgram_variables ?onProgramfacts ?onProgramkinds ?onProgramrelations ?onProgramrules ?omProgram ?okProgram ?a0 ?l0 ?c0 ?k0 ?a1 ?l1 ?c1 ?k1 ?a2 ?l2 ?c2 ?k2 ?a3 ?l3 ?c3 ?k3 ?a4 ?l4 ?c4 ?k4 ?a5 ?l5 ?c5 ?k5 ?a6 ?l6 ?c6 ?k6 ?a7 ?l7 ?c7 ?k7 ?a8 ?l8 ?c8 ?k8 ?a9 ?l9 ?c9 ?k9 ?a10 ?l10 ?c10 ?k10 ?a11 ?l11 ?c11 ?k11 ?a12 ?l12 ?c12 ?k12 ?a13 ?l13 ?c13 ?k13 ?a14 ?l14 ?c14 ?k14 ?a15 ?l15 ?c15 ?k15 ?a16 ?l16 ?c16 ?k16 ?a17 ?l17 ?c17 ?k17 ?a18 ?l18 ?c18 ?k18 ?a19 ?l19 ?c19 ?k19 ?a20 ?l20 ?c20 ?k20 ?a21 ?l21 ?c21 ?k21 ?a22 ?l22 ?c22 ?k22 ?a23 ?l23 ?c23 ?k23 ?a24 ?l24 ?c24 ?k24 ?a25 ?l25 ?c25 ?k25 ?a26 ?l26 ?c26 ?k26 ?a27 ?l27 ?c27 ?k27 ?a28 ?l28 ?c28 ?k28 ?a29 ?l29 ?c29 ?k29 ?a30 ?l30 ?c30 ?k30 ?a31 ?l31 ?c31 ?k31 ?a32 ?l32 ?c32 ?k32 ?a33 ?l33 ?c33 ?k33 ?a34 ?l34 ?c34 ?k34 ?a35 ?l35 ?c35 ?k35 ?a36 ?l36 ?c36 ?k36 ?a37 ?l37 ?c37 ?k37 ?a38 ?l38 ?c38 ?k38 ?a39 ?l39 ?c39 ?k39 ?a40 ?l40 ?c40 ?k40 ?a41 ?l41 ?c41 ?k41 ?a42 ?l42 ?c42 ?k42 ?a43 ?l43 ?c43 ?k43 ?a44 ?l44 ?c44 ?k44 ?a45 ?l45 ?c45 ?k45 ?a46 ?l46 ?c46 ?k46 ?a47 ?l47 ?c47 ?k47 ?a48 ?l48 ?c48 ?k48 ?a49 ?l49 ?c49 ?k49 ?a50 ?l50 ?c50 ?k50 ?a51 ?l51 ?c51 ?k51 ?i52 ?a52 ?l52 ?c52 ?k52 ?a53 ?l53 ?c53 ?k53 ?a54 ?l54 ?c54 ?k54 ?z0 ?z1 ?z2 ?z3 ?z4 ?z5 ?z6 ?z7 ?z8 ?z9 ?z10 ?z11 ?z12 ?z13 ?gv0 ?gw0 ?gv1 ?gw1 ?gv2 ?gv3 ?gv4 ?gv5 ?gv6 ?gv7 ?gv8 ?gv9 ?gv10 ?gv11 ?gv12 ?gv13 ?gv14 ?gv15 ?gv16 ?gv17 ?gw17 ?gv18 ?gw18 ?gv19 ?gw19 ?gv20 ?gv21 ?gw21 ?gv22 ?xaBadProgram ?xlBadProgram ?xsBadProgram ?xgBadProgram ?xhBadProgram ?xnBadProgram0 ?xnBadProgram1 ?xiBadProgram ?xtBadProgram ?xfBadProgram ?xcBadProgram ?xkBadProgram ?xKBadProgram ?xeBadProgram ?xyBadProgram ?xdBadProgram ?xvBadProgram
    (case oaProgram => k_is); (case opProgram => k_is); (case ohProgram => k_is); (case ooProgram => k_is); (case osProgram => k_is); (case onProgram_columns => k_is); (case onProgram_grounding => k_is); (case onProgram_places => k_is); (case onProgram_variable_values => k_is); (case onProgram_variables => k_is); (case onProgramfacts => k_is); (case onProgramkinds => k_is); (case onProgramrelations => k_is); (case onProgramrules => k_is); (case omProgram => k_is); (case okProgram => k_is); (case a0 => k_is); (case l0 => k_is); (case c0 => k_is); (case k0 => k_is); (case a1 => k_is); (case l1 => k_is); (case c1 => k_is); (case k1 => k_is); (case a2 => k_is); (case l2 => k_is); (case c2 => k_is); (case k2 => k_is); (case a3 => k_is); (case l3 => k_is); (case c3 => k_is); (case k3 => k_is); (case a4 => k_is); (case l4 => k_is); (case c4 => k_is); (case k4 => k_is); (case a5 => k_is); (case l5 => k_is); (case c5 => k_is); (case k5 => k_is); (case a6 => k_is); (case l6 => k_is); (case c6 => k_is); (case k6 => k_is); (case a7 => k_is); (case l7 => k_is); (case c7 => k_is); (case k7 => k_is); (case a8 => k_is); (case l8 => k_is); (case c8 => k_is); (case k8 => k_is); (case a9 => k_is); (case l9 => k_is); (case c9 => k_is); (case k9 => k_is); (case a10 => k_is); (case l10 => k_is); (case c10 => k_is); (case k10 => k_is); (case a11 => k_is); (case l11 => k_is); (case c11 => k_is); (case k11 => k_is); (case a12 => k_is); (case l12 => k_is); (case c12 => k_is); (case k12 => k_is); (case a13 => k_is); (case l13 => k_is); (case c13 => k_is); (case k13 => k_is); (case a14 => k_is); (case l14 => k_is); (case c14 => k_is); (case k14 => k_is); (case a15 => k_is); (case l15 => k_is); (case c15 => k_is); (case k15 => k_is); (case a16 => k_is); (case l16 => k_is); (case c16 => k_is); (case k16 => k_is); (case a17 => k_is); (case l17 => k_is); (case c17 => k_is); (case k17 => k_is); (case a18 => k_is); (case l18 => k_is); (case c18 => k_is); (case k18 => k_is); (case a19 => k_is); (case l19 => k_is); (case c19 => k_is); (case k19 => k_is); (case a20 => k_is); (case l20 => k_is); (case c20 => k_is); (case k20 => k_is); (case a21 => k_is); (case l21 => k_is); (case c21 => k_is); (case k21 => k_is); (case a22 => k_is); (case l22 => k_is); (case c22 => k_is); (case k22 => k_is); (case a23 => k_is); (case l23 => k_is); (case c23 => k_is); (case k23 => k_is); (case a24 => k_is); (case l24 => k_is); (case c24 => k_is); (case k24 => k_is); (case a25 => k_is); (case l25 => k_is); (case c25 => k_is); (case k25 => k_is); (case a26 => k_is); (case l26 => k_is); (case c26 => k_is); (case k26 => k_is); (case a27 => k_is); (case l27 => k_is); (case c27 => k_is); (case k27 => k_is); (case a28 => k_is); (case l28 => k_is); (case c28 => k_is); (case k28 => k_is); (case a29 => k_is); (case l29 => k_is); (case c29 => k_is); (case k29 => k_is); (case a30 => k_is); (case l30 => k_is); (case c30 => k_is); (case k30 => k_is); (case a31 => k_is); (case l31 => k_is); (case c31 => k_is); (case k31 => k_is); (case a32 => k_is); (case l32 => k_is); (case c32 => k_is); (case k32 => k_is); (case a33 => k_is); (case l33 => k_is); (case c33 => k_is); (case k33 => k_is); (case a34 => k_is); (case l34 => k_is); (case c34 => k_is); (case k34 => k_is); (case a35 => k_is); (case l35 => k_is); (case c35 => k_is); (case k35 => k_is); (case a36 => k_is); (case l36 => k_is); (case c36 => k_is); (case k36 => k_is); (case a37 => k_is); (case l37 => k_is); (case c37 => k_is); (case k37 => k_is); (case a38 => k_is); (case l38 => k_is); (case c38 => k_is); (case k38 => k_is); (case a39 => k_is); (case l39 => k_is); (case c39 => k_is); (case k39 => k_is); (case a40 => k_is); (case l40 => k_is); (case c40 => k_is); (case k40 => k_is); (case a41 => k_is); (case l41 => k_is); (case c41 => k_is); (case k41 => k_is); (case a42 => k_is); (case l42 => k_is); (case c42 => k_is); (case k42 => k_is); (case a43 => k_is); (case l43 => k_is); (case c43 => k_is); (case k43 => k_is); (case a44 => k_is); (case l44 => k_is); (case c44 => k_is); (case k44 => k_is); (case a45 => k_is); (case l45 => k_is); (case c45 => k_is); (case k45 => k_is); (case a46 => k_is); (case l46 => k_is); (case c46 => k_is); (case k46 => k_is); (case a47 => k_is); (case l47 => k_is); (case c47 => k_is); (case k47 => k_is); (case a48 => k_is); (case l48 => k_is); (case c48 => k_is); (case k48 => k_is); (case a49 => k_is); (case l49 => k_is); (case c49 => k_is); (case k49 => k_is); (case a50 => k_is); (case l50 => k_is); (case c50 => k_is); (case k50 => k_is); (case a51 => k_is); (case l51 => k_is); (case c51 => k_is); (case k51 => k_is); (case i52 => k_is); (case a52 => k_is); (case l52 => k_is); (case c52 => k_is); (case k52 => k_is); (case a53 => k_is); (case l53 => k_is); (case c53 => k_is); (case k53 => k_is); (case a54 => k_is); (case l54 => k_is); (case c54 => k_is); (case k54 => k_is); (case z0 => k_is); (case z1 => k_is); (case z2 => k_is); (case z3 => k_is); (case z4 => k_is); (case z5 => k_is); (case z6 => k_is); (case z7 => k_is); (case z8 => k_is); (case z9 => k_is); (case z10 => k_is); (case z11 => k_is); (case z12 => k_is); (case z13 => k_is); (case gv0 => k_is); (case gw0 => k_is); (case gv1 => k_is); (case gw1 => k_is); (case gv2 => k_is); (case gv3 => k_is); (case gv4 => k_is); (case gv5 => k_is); (case gv6 => k_is); (case gv7 => k_is); (case gv8 => k_is); (case gv9 => k_is); (case gv10 => k_is); (case gv11 => k_is); (case gv12 => k_is); (case gv13 => k_is); (case gv14 => k_is); (case gv15 => k_is); (case gv16 => k_is); (case gv17 => k_is); (case gw17 => k_is); (case gv18 => k_is); (case gw18 => k_is); (case gv19 => k_is); (case gw19 => k_is); (case gv20 => k_is); (case gv21 => k_is); (case gw21 => k_is); (case gv22 => k_is); (case xaBadProgram => k_is); (case xlBadProgram => k_is); (case xsBadProgram => k_is); (case xgBadProgram => k_is); (case xhBadProgram => k_is); (case xnBadProgram0 => k_is); (case xnBadProgram1 => k_is); (case xiBadProgram => k_is); (case xtBadProgram => k_is); (case xfBadProgram => k_is); (case xcBadProgram => k_is); (case xkBadProgram => k_is); (case xKBadProgram => k_is); (case xeBadProgram => k_is); (case xyBadProgram => k_is); (case xdBadProgram => k_is); (case xvBadProgram => k_is)
