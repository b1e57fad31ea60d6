import PyProof.Rows.All
import Wide.All
import OpenK.AllK
import Wide.FinOn
import HandS.ForMost
import HandS.FStr
import HandS.IsInst
import HandS.EndBits
import HandS.Flow
import HandS.TupAny
import PyProof.CallFns
import HandS.Exc
import KE.IntBitsLaws
import KE.KxText
import PySem.Challenge.RW_sharerules_k05_names_by_name
set_option Elab.async false
set_option linter.all false
set_option maxRecDepth 100000
set_option maxHeartbeats 4000000
/-! A small reader of the program's own tree, over data: what it answers, the program answers (Z2 shows it). -/
namespace Z
open PySem PySem.Spec L2

/-- a value: tuples are held whole (they never change), so is a list that nobody writes (fl); ref i is the i-th thing of the store; glo x is what the module's name x holds -/
inductive W where
  | non | bl (b : Bool) | int (i : Int) | str (x : Str) | ty (n : String) | tup (xs : List W) | fl (xs : List W) | ref (i : Nat) | glo (x : Str)
  deriving Inhabited

/-- a thing of the store -/
inductive O where
  | lst (xs : List W)
  | dct (kvs : List (Key × W))
  | ins (C : Str) (fs : List (Str × W))
  deriving Inhabited

abbrev So := List O
abbrev En := List (Option W)
/-- an error of the program's own class -/
structure Er where
  cls : Str
  fs : List (Str × W)
inductive Res (α : Type) where
  | ok (a : α) (S : So)
  | exn (x : Er) (S : So)
  | bad
def Res.bind {α β : Type} : Res α → (α → So → Res β) → Res β
  | .ok a S, f => f a S
  | .exn x S, _ => .exn x S
  | .bad, _ => .bad
def ofO {α : Type} (o : Option α) (S : So) : Res α := match o with
  | some a => .ok a S
  | none => .bad

structure Sx where
  N : List Str
  sc : Scope
  fn : Str → Bool
/-- a def of the program: its statement, its parameters, its names by slot -/
structure Fi where
  st : Stmt
  ps : List Str
  N : List Str
  kws : List (Nat × List Str)
structure Pg where
  G : Str → Option W
  F : Str → Option Fi
abbrev Cf := Str → List W → So → Res W

def idx (N : List Str) (x : Str) : Option Nat := N.findIdx? fun y => decide (y = x)
def slot (e : En) (i : Nat) : Option W := match e[i]? with
  | some (some w) => some w
  | _ => none
def isVis : Option NameKind → Bool
  | some .local => true
  | some .cell => true
  | some .free => true
  | _ => false
/-- an ordinary name -/
def okN (x : Str) : Bool := !(x == ("__debug__" : Str)) && !(x == ("__classdict__" : Str)) && !(decide (x = "__name__"))
def nameE (P : Pg) (sx : Sx) (e : En) (x : Str) : Option W :=
  if isVis (sx.sc.names.lookup x) then (idx sx.N x).bind (slot e)
  else if sx.sc.names.lookup x = some .globalImplicit then P.G x
  else none

/-! ### data that stands deep -/
mutual
def dW (f : Nat → Option PyData) : W → Option PyData
  | .non => some .none
  | .bl b => some (.bool b)
  | .int i => some (.int i)
  | .str x => some (.str x)
  | .ty _ => none
  | .tup xs => (dWs f xs).map .tuple
  | .fl xs => (dWs f xs).map .list
  | .ref i => f i
  | .glo _ => none
def dWs (f : Nat → Option PyData) : List W → Option (List PyData)
  | [] => some []
  | x :: xs => match dW f x with
    | none => none
    | some d => match dWs f xs with
      | none => none
      | some ds => some (d :: ds)
end
def kD : Key → PyData
  | .inl i => .int i
  | .inr x => .str x
def dKvs (f : Nat → Option PyData) : List (Key × W) → Option (List (PyData × PyData))
  | [] => some []
  | (k, x) :: xs => match dW f x with
    | none => none
    | some d => match dKvs f xs with
      | none => none
      | some ds => some ((kD k, d) :: ds)
def dR (S : So) : Nat → Nat → Option PyData
  | 0, _ => none
  | n + 1, i => match S[i]? with
    | some (.lst xs) => (dWs (dR S n) xs).map .list
    | some (.dct kvs) => (dKvs (dR S n) kvs).map .dict
    | _ => none
/-- how deep things of the store may stand in each other -/
def deepS : Nat := 12
def toD (S : So) (x : W) : Option PyData := dW (dR S deepS) x

/-! ### operations -/
def truth (x : W) (S : So) : Option Bool := match x with
  | .non => some false
  | .bl b => some b
  | .int i => some (i != 0)
  | .str x => if x.length ≤ sizeLine then some (x.length != 0) else none
  | .tup xs => some (!xs.isEmpty)
  | .fl xs => some (!xs.isEmpty)
  | .ref i => match S[i]? with
    | some (.lst xs) => some (!xs.isEmpty)
    | some (.dct xs) => some (!xs.isEmpty)
    | _ => none
  | _ => none
def new (o : O) (S : So) : Res W := .ok (.ref S.length) (S ++ [o])
def lstOf (x : W) (S : So) : Option (List W) := match x with
  | .ref i => match S[i]? with
    | some (.lst xs) => some xs
    | _ => none
  | .fl xs => some xs
  | _ => none
/-- a list or a tuple -/
def seqOf (x : W) (S : So) : Option (List W) := match x with
  | .tup xs => some xs
  | _ => lstOf x S
def binop (op : Operator) (x y : W) (S : So) : Res W := match op, x, y with
  | .Add, .int i, .int j => .ok (.int (i + j)) S
  | .Sub, .int i, .int j => .ok (.int (i - j)) S
  | .Mult, .int i, .int j => if Builtin.Int.intBits i + Builtin.Int.intBits j ≤ 134217728 then .ok (.int (i * j)) S else .bad
  | .Mod, .int i, .int j => if 0 < j then .ok (.int (i % j)) S else .bad
  | .FloorDiv, .int i, .int j => if 0 < j ∧ j < 1073741824 then .ok (.int (i / j)) S else .bad
  | .Pow, .int i, .int j => if 0 ≤ j ∧ (Builtin.Int.intBits i : Int) * j ≤ 134217728 then .ok (.int (i ^ j.toNat)) S else .bad
  | .Add, .str a, .str b => if a.length + b.length ≤ sizeLine then .ok (.str (a ++ b)) S else .bad
  | .Add, .tup a, .tup b => if a.length + b.length ≤ sizeLine then .ok (.tup (a ++ b)) S else .bad
  | .Add, .ref i, .ref j => match S[i]?, S[j]? with
    | some (.lst a), some (.lst b) => if a.length + b.length ≤ sizeLine then new (.lst (a ++ b)) S else .bad
    | _, _ => .bad
  | .Mult, .ref i, .int k => match S[i]? with
    | some (.lst a) => if -(2 ^ 63) ≤ k ∧ k < 2 ^ 63 ∧ a.length * k.toNat ≤ sizeLine then new (.lst (List.replicate k.toNat a).flatten) S else .bad
    | _ => .bad
  | _, _, _ => .bad
def flatW : W → Bool
  | .non => true
  | .bl _ => true
  | .int _ => true
  | .str _ => true
  | _ => false
def eqW : W → W → Bool
  | .non, .non => true
  | .bl a, .bl b => a == b
  | .bl a, .int j => (if a then 1 else 0) == j
  | .int i, .bl b => i == (if b then 1 else 0)
  | .int i, .int j => i == j
  | .str a, .str b => decide (a = b)
  | _, _ => false
/-- == of any data -/
def eqD (x y : W) (S : So) : Option Bool := match toD S x, toD S y with
  | some d, some e => if SeqAt.shaped d && SeqAt.shaped e then some (PyData.eqv d e) else none
  | _, _ => none
/-- == of two texts, of two ints; else of data -/
def eqX (x y : W) (S : So) : Option Bool := match x, y with
  | .str a, .str b => some (decide (a = b))
  | .int i, .int j => some (decide (i = j))
  | _, _ => eqD x y S
def inW (x : W) (xs : List W) : Bool := xs.any fun y => eqW y x
def cmp (op : CmpOp) (x y : W) (S : So) : Option Bool := match op with
  | .Eq => eqX x y S
  | .NotEq => (eqX x y S).map (!·)
  | .Lt => match x, y with
    | .int i, .int j => some (decide (i < j))
    | .str a, .str b => some (decide (a.cps.toList < b.cps.toList))
    | _, _ => none
  | .LtE => match x, y with
    | .int i, .int j => some (decide (i ≤ j))
    | .str a, .str b => some (!decide (b.cps.toList < a.cps.toList))
    | _, _ => none
  | .Gt => match x, y with
    | .int i, .int j => some (decide (j < i))
    | .str a, .str b => some (decide (b.cps.toList < a.cps.toList))
    | _, _ => none
  | .GtE => match x, y with
    | .int i, .int j => some (decide (j ≤ i))
    | .str a, .str b => some (!decide (a.cps.toList < b.cps.toList))
    | _, _ => none
  | .Is => match y with
    | .non => some (match x with | .non => true | _ => false)
    | _ => none
  | .IsNot => match y with
    | .non => some (match x with | .non => false | _ => true)
    | _ => none
  | .In => match seqOf y S with
    | some ys => if flatW x && ys.all flatW then some (inW x ys) else none
    | none => none
  | .NotIn => match seqOf y S with
    | some ys => if flatW x && ys.all flatW then some (!inW x ys) else none
    | none => none

def cutW {α : Type} (xs : List α) (lo hi : Option Int) : List α := (xs.drop (HT.sIx xs.length 0 lo)).take (HT.sIx xs.length xs.length hi - HT.sIx xs.length 0 lo)
def slice (x : W) (lo hi : Option Int) (S : So) : Res W := match x with
  | .tup xs => .ok (.tup (cutW xs lo hi)) S
  | .str x => if x.length ≤ sizeLine then .ok (.str (cutS x lo hi)) S else .bad
  | _ => match lstOf x S with
    | some xs => new (.lst (cutW xs lo hi)) S
    | none => .bad
def findK (kvs : List (Key × W)) (k : Key) : Option W := (kvs.find? fun kv => decide (kv.1 = k)).map (·.2)
def toK : W → Option Key
  | .int i => some (.inl i)
  | .str x => some (.inr x)
  | _ => none
def item (x y : W) (S : So) : Option W := match x, y with
  | .tup xs, .int i => atI xs i
  | .str z, .int i => if z.length ≤ sizeLine then (atI z.cps.toList i).map fun c => .str ⟨#[c]⟩ else none
  | .fl xs, .int i => atI xs i
  | .ref j, y => match S[j]? with
    | some (.lst xs) => (match y with | .int i => atI xs i | _ => none)
    | some (.dct kvs) => (toK y).bind (findK kvs)
    | _ => none
  | _, _ => none
def putW (kvs : List (Key × W)) (k : Key) (v : W) : List (Key × W) :=
  if (kvs.any fun kv => decide (kv.1 = k)) = true then kvs.map (fun kv => if kv.1 = k then (kv.1, v) else kv) else kvs ++ [(k, v)]
def setItem (x y v : W) (S : So) : Option So := match x with
  | .ref j => match S[j]? with
    | some (.lst xs) => (match y with | .int i => (ixN xs.length i).map fun k => S.set j (.lst (xs.set k v)) | _ => none)
    | some (.dct kvs) => (match toK y with | some k => if kvs.length < sizeLine then some (S.set j (.dct (putW kvs k v))) else none | none => none)
    | _ => none
  | _ => none
def strsOf : List W → Option (List Str)
  | [] => some []
  | .str x :: r => (strsOf r).map (x :: ·)
  | _ :: _ => none
def blsOf : List W → Option (List Bool)
  | [] => some []
  | .bl x :: r => (blsOf r).map (x :: ·)
  | _ :: _ => none
def tyOf (x : W) (S : So) : Option String := match x with
  | .non => some "NoneType"
  | .bl _ => some "bool"
  | .int _ => some "int"
  | .str _ => some "str"
  | .tup _ => some "tuple"
  | .fl _ => some "list"
  | .ref i => match S[i]? with
    | some (.lst _) => some "list"
    | some (.dct _) => some "dict"
    | _ => none
  | _ => none
/-- the built-in functions and types, by name -/
def builtin (f : Str) (args : List W) (S : So) : Res W :=
  if f = "len" then match args with
    | [.str z] => if z.length ≤ sizeLine then .ok (.int z.length) S else .bad
    | [x] => (match seqOf x S with | some xs => .ok (.int xs.length) S | none => .bad)
    | _ => .bad
  else if f = "int" then match args with
    | [.int i] => .ok (.int i) S
    | [.bl b] => .ok (.int (if b then 1 else 0)) S
    | _ => .bad
  else if f = "max" then match args with
    | [.int i, .int j] => .ok (.int (if j > i then j else i)) S
    | _ => .bad
  else if f = "min" then match args with
    | [.int i, .int j] => .ok (.int (if j < i then j else i)) S
    | _ => .bad
  else if f = "tuple" then match args with
    | [.tup xs] => .ok (.tup xs) S
    | [x] => (match lstOf x S with | some xs => .ok (.tup xs) S | none => .bad)
    | _ => .bad
  else if f = "list" then match args with
    | [x] => (match seqOf x S with | some xs => new (.lst xs) S | none => .bad)
    | _ => .bad
  else if f = "all" then match args with
    | [x] => (match (lstOf x S).bind blsOf with | some bs => .ok (.bl (bs.all id)) S | none => .bad)
    | _ => .bad
  else if f = "any" then match args with
    | [x] => (match (lstOf x S).bind blsOf with | some bs => .ok (.bl (bs.any id)) S | none => .bad)
    | _ => .bad
  else if f = "isinstance" then match args with
    | [x, .ty n] => (match tyOf x S with
      | some t => (match kitB t n with | some b => .ok (.bl b) S | none => .bad)
      | none => .bad)
    | _ => .bad
  else if f = "repr" then match args with
    | [x] => (match toD S x with
      | some d => if d.showable && decide (d.shown.length ≤ sizeLine) && decide (d.depth ≤ 150) then .ok (.str d.shown) S else .bad
      | none => .bad)
    | _ => .bad
  else .bad
def builtins : List Str := ["len", "int", "max", "min", "tuple", "list", "all", "any", "isinstance", "repr"]
/-- whose method it is -/
def methTy (m : Str) : Option String :=
  if m = "append" then some "list" else if m = "join" then some "str" else if m = "split" then some "str" else if m = "partition" then some "str" else none
def valTy (x : W) (S : So) : Option String := match x with
  | .str _ => some "str"
  | .fl _ => some "list"
  | .ref i => match S[i]? with
    | some (.lst _) => some "list"
    | some (.dct _) => some "dict"
    | _ => none
  | _ => none
/-- the methods of built-in values -/
def method (x : W) (m : Str) (args : List W) (S : So) : Res W :=
  if m = "append" then match x, args with
    | .ref i, [v] => (match S[i]? with
      | some (.lst xs) => if xs.length < sizeLine then .ok .non (S.set i (.lst (xs ++ [v]))) else .bad
      | _ => .bad)
    | _, _ => .bad
  else if m = "join" then match x, args with
    | .str a, [v] => (match (seqOf v S).bind strsOf with
      | some ys => if (ys.map (·.length)).sum + ys.length * a.length ≤ 16777216 then .ok (.str (Txt.join a ys)) S else .bad
      | none => .bad)
    | _, _ => .bad
  else if m = "split" then match x, args with
    | .str a, [.str b] => if (b.length == 0) = false ∧ a.length + 2 ≤ sizeLine then new (.lst ((Txt.split a b).map .str)) S else .bad
    | _, _ => .bad
  else if m = "partition" then match x, args with
    | .str a, [.str b] => if (b.length == 0) = false ∧ a.length ≤ sizeLine then .ok (.tup [.str (Txt.partition a b).1, .str (Txt.partition a b).2.1, .str (Txt.partition a b).2.2]) S else .bad
    | _, _ => .bad
  else .bad

/-! ### the reader -/
/-- the parts of an f-string are written texts and plain fields -/
def partJ : Expr → Bool
  | .Constant (.str _) _ _ => true
  | .FormattedValue _ c none _ => decide (c = -1)
  | _ => false
def isStar : Expr → Bool
  | .Starred _ _ => true
  | _ => false
def isSet : Expr → Bool
  | .Set _ _ _ => true
  | _ => false
def isSuper : Expr → Bool
  | .Call (.Name _ _) [] [] _ => true
  | _ => false
def isSlice : Expr → Bool
  | .Slice _ _ _ _ => true
  | _ => false
def isComp : Expr → Bool
  | .ListComp _ _ _ _ => true
  | .SetComp _ _ _ _ => true
  | .DictComp _ _ _ _ _ => true
  | _ => false
/-- the written arguments are plain -/
def plainA (es : List Expr) (kws : List Keyword) : Bool := es.all (fun e => !isStar e) && (kws.map (·.arg)).all (·.isSome)
def evL (f : Expr → So → Res W) : List Expr → So → Res (List W)
  | [], S => .ok [] S
  | x :: xs, S => (f x S).bind fun w S1 => (evL f xs S1).bind fun ws S2 => .ok (w :: ws) S2
def evK (f : Expr → So → Res W) : List Keyword → So → Res (List W)
  | [], S => .ok [] S
  | x :: xs, S => (f x.value S).bind fun w S1 => (evK f xs S1).bind fun ws S2 => .ok (w :: ws) S2
def evO (f : Expr → So → Res W) : Option Expr → So → Res (Option Int)
  | none, S => .ok none S
  | some x, S => (f x S).bind fun w S1 => match w with
    | .int i => .ok (some i) S1
    | _ => .bad
def evB (isAnd : Bool) (f : Expr → So → Res W) : List Expr → So → Res W
  | [], _ => .bad
  | [x], S => f x S
  | x :: xs, S => (f x S).bind fun w S1 => match truth w S1 with
    | some b => if b = isAnd then evB isAnd f xs S1 else .ok w S1
    | none => .bad
def evP (f : Expr → So → Res W) : List (Option Expr) → List Expr → So → Res (List (Key × W))
  | [], [], S => .ok [] S
  | some k :: ks, v :: vs, S => (f k S).bind fun x S1 => (f v S1).bind fun y S2 => match toK x with
    | some q => (evP f ks vs S2).bind fun r S3 => .ok ((q, y) :: r) S3
    | none => .bad
  | _, _, _ => .bad
/-- the parts of an f-string -/
def evJ (f : Expr → So → Res W) : List Expr → Str → So → Res Str
  | [], acc, S => .ok acc S
  | .Constant (.str y) _ _ :: r, acc, S => if (acc ++ y).length ≤ sizeLine then evJ f r (acc ++ y) S else .bad
  | .FormattedValue x (-1) none _ :: r, acc, S => (f x S).bind fun w S1 => match w with
    | .str y => if y.length ≤ sizeLine ∧ (acc ++ y).length ≤ sizeLine then evJ f r (acc ++ y) S1 else .bad
    | _ => .bad
  | _, _, _ => .bad
/-- what is walked: written down at the start, or a list of the store as it stands -/
inductive Wk where
  | seq (ws : List W)
  | live (i : Nat) (n : Nat)
def Wk.len : Wk → Nat
  | .seq ws => ws.length
  | .live _ n => n
/-- at turn j: none: it cannot go on; some none: the end -/
def Wk.at (k : Wk) (j : Nat) (S : So) : Option (Option W) := match k with
  | .seq ws => some ws[j]?
  | .live i _ => match S[i]? with
    | some (.lst xs) => some xs[j]?
    | _ => none
def rangeW (lo : Int) (n : Nat) : List W := (List.range n).map fun (k : Nat) => W.int (lo + (k : Int))
/-- what a for or a comprehension walks -/
def walkV (u : W) (S : So) : Res Wk := match u with
  | .tup ws => .ok (.seq ws) S
  | .fl ws => .ok (.seq ws) S
  | .str z => .ok (.seq (z.cps.toList.map fun c => W.str ⟨#[c]⟩)) S
  | .ref i => match S[i]? with
    | some (.lst xs) => .ok (.live i xs.length) S
    | _ => .bad
  | _ => .bad
def isRange : Expr → Option (List Expr)
  | .Call (.Name f _) es [] _ => if f = "range" ∧ es.all (fun e => !isStar e) = true ∧ (es.length = 1 ∨ es.length = 2) then some es else none
  | _ => none
/-- range is the built-in one -/
def rgOk (P : Pg) (sx : Sx) : Bool := (P.F "range").isNone && decide (sx.sc.names.lookup ("range" : Str) = some .globalImplicit)
def walkE (rg : Bool) (f : Expr → So → Res W) (iter : Expr) (S : So) : Res Wk := if isSet iter = true then .bad else match isRange iter with
  | some es => if rg = true then (evL f es S).bind fun us S1 => match us with
      | [.int j] => if -(2 ^ 62) ≤ j ∧ j < 2 ^ 62 then .ok (.seq (rangeW 0 j.toNat)) S1 else .bad
      | [.int i, .int j] => if (-(2 ^ 62) ≤ i ∧ i < 2 ^ 62) ∧ -(2 ^ 62) ≤ j ∧ j < 2 ^ 62 then .ok (.seq (rangeW i (j - i).toNat)) S1 else .bad
      | _ => .bad
    else .bad
  | none => (f iter S).bind walkV
def asgN (sx : Sx) (e : En) (x : Str) (w : W) : Option En := match sx.sc.names.lookup x with
  | some .local => (idx sx.N x).map fun i => e.set i (some w)
  | some .cell => if sx.fn x = true then (idx sx.N x).map fun i => e.set i (some w) else none
  | _ => none
def asgL (sx : Sx) : List Expr → List W → En → Option En
  | [], [], e => some e
  | .Name x _ :: r, w :: ws, e => (asgN sx e x w).bind (asgL sx r ws)
  | _, _, _ => none
def asg (sx : Sx) (e : En) (tg : Expr) (w : W) : Option En := match tg with
  | .Name x _ => asgN sx e x w
  | .Tuple es _ _ => match w with
    | .tup ws => asgL sx es ws e
    | _ => none
  | _ => none
/-- the slots that a target writes -/
def slotsL (N : List Str) : List Expr → List Nat
  | [] => []
  | .Name x _ :: r => (idx N x).toList ++ slotsL N r
  | _ :: r => slotsL N r
def slotsT (N : List Str) : Expr → List Nat
  | .Name x _ => (idx N x).toList
  | .Tuple es _ _ => slotsL N es
  | _ => []
def ownOf (N : List Str) (sc : Scope) : List (Str × Nat) := sc.names.filterMap fun y => match y.2 with
  | .local => (idx N y.1).map fun i => (y.1, i)
  | .cell => (idx N y.1).map fun i => (y.1, i)
  | _ => none
def wipeW (e : En) : List Nat → En
  | [] => e
  | v :: vs => (wipeW e vs).set v none
/-- one turn after the other: f item state store; the answer's Bool: go on -/
def turns {α : Type} (k : Wk) (f : W → α → So → Res (α × Bool)) : Nat → Nat → α → So → Res α
  | n, j, a, S => match k.at j S with
    | none => .bad
    | some none => .ok a S
    | some (some w) => match n with
      | 0 => .bad
      | n + 1 => (f w a S).bind fun r S1 => if r.2 then turns k f n (j + 1) r.1 S1 else .ok r.1 S1
def pushTo (D : Nat) (y : W) (S : So) : Option So := match S[D]? with
  | some (.lst acc) => if acc.length < sizeLine then some (S.set D (.lst (acc ++ [y]))) else none
  | _ => none
def ifsE (f : Expr → So → Res W) : List Expr → So → Res Bool
  | [], S => .ok true S
  | [c], S => (f c S).bind fun w S1 => ofO (truth w S1) S1
  | _, _ => .bad
def constE (c : Const) (S : So) : Res W := match c with
  | .none => .ok .non S
  | .bool b => .ok (.bl b) S
  | .int i => .ok (.int i) S
  | .str x => .ok (.str x) S
  | _ => .bad
/-- the arguments in the parameters' order: the keywords ks, of values ws, behind the positional ones us -/
def ordK {α : Type} (ps ks : List Str) (us ws : List α) : List α := us ++ (ps.drop us.length).filterMap fun p => (ks.zip ws).lookup p
def argsOf (fi : Fi) (us : List W) (ks : List (Option Str)) (ws : List W) : Option (List W) :=
  if ks.isEmpty then (if us.length = fi.ps.length then some us else none)
  else if (us.length, ks.filterMap id) ∈ fi.kws ∧ ks.all (·.isSome) = true then some (ordK fi.ps (ks.filterMap id) us ws) else none
/-- where no error may leave -/
def noX {α : Type} : Res α → Res α
  | .ok a S => .ok a S
  | _ => .bad

/-- a turn of a comprehension: the new list is the D-th thing -/
def lcTurn (f : En → Expr → So → Res W) (sx : Sx) (e : En) (tg : Expr) (ifs : List Expr) (elt : Expr) (D : Nat) : W → Unit → So → Res (Unit × Bool) := fun w _ S2 => match asg sx e tg w with
  | none => .bad
  | some e2 => (ifsE (f e2) ifs S2).bind fun b S3 => if b then (f e2 elt S3).bind fun y S4 => (ofO (pushTo D y S4) S4).bind fun S5 _ => .ok ((), true) S5
    else .ok ((), true) S3
def evalE (P : Pg) (call : Cf) : Nat → Sx → En → Expr → So → Res W
  | 0, _, _, _, _ => .bad
  | d + 1, sx, e, x, S => match x with
    | .Constant c _ _ => constE c S
    | .Name n _ => if okN n = true then ofO (nameE P sx e n) S else .bad
    | .BinOp a op b _ => (evalE P call d sx e a S).bind fun u S1 => (evalE P call d sx e b S1).bind fun v S2 => binop op u v S2
    | .UnaryOp .Not a _ => (evalE P call d sx e a S).bind fun u S1 => match truth u S1 with
      | some b => .ok (.bl (!b)) S1
      | none => .bad
    | .BoolOp op vs _ => evB (match op with | .And => true | .Or => false) (evalE P call d sx e) vs S
    | .Compare a [op] [b] _ => if isSet b = true then .bad else (evalE P call d sx e a S).bind fun u S1 => (evalE P call d sx e b S1).bind fun v S2 => (ofO (cmp op u v S2) S2).bind fun r S3 => .ok (.bl r) S3
    | .Compare a [op, op'] [b, c] _ => if (isSet b || isSet c) = true then .bad else (evalE P call d sx e a S).bind fun u S1 => (evalE P call d sx e b S1).bind fun v S2 => (ofO (cmp op u v S2) S2).bind fun r S3 =>
        if r then (evalE P call d sx e c S3).bind fun z S4 => (ofO (cmp op' v z S4) S4).bind fun r S5 => .ok (.bl r) S5 else .ok (.bl false) S3
    | .IfExp c a b _ => (evalE P call d sx e c S).bind fun u S1 => match truth u S1 with
      | some true => evalE P call d sx e a S1
      | some false => evalE P call d sx e b S1
      | none => .bad
    | .Tuple es _ _ => (evL (evalE P call d sx e) es S).bind fun ws S1 => if ws.length ≤ sizeLine then .ok (.tup ws) S1 else .bad
    | .List es _ => (evL (evalE P call d sx e) es S).bind fun ws S1 => if ws.length ≤ sizeLine then new (.lst ws) S1 else .bad
    | .Dict [] [] _ => new (.dct []) S
    | .Dict ks vs _ => if (ks.all (·.isSome) = true ∧ ks.length = vs.length) ∧ ks.length ≤ 15 then (evP (evalE P call d sx e) ks vs (S ++ [.dct []])).bind fun kvs S1 => match S1[S.length]? with
        | some (.dct []) => if kvs.length ≤ 15 then .ok (.ref S.length) (S1.set S.length (.dct (kvs.foldl (fun r kv => putW r kv.1 kv.2) []))) else .bad
        | _ => .bad
      else .bad
    | .Subscript a (.Slice lo hi none _) _ => (evalE P call d sx e a S).bind fun u S1 => (evO (evalE P call d sx e) lo S1).bind fun l S2 => (evO (evalE P call d sx e) hi S2).bind fun h S3 => slice u l h S3
    | .Subscript a b _ => if isSlice b = true then .bad else (evalE P call d sx e a S).bind fun u S1 => (evalE P call d sx e b S1).bind fun v S2 => ofO (item u v S2) S2
    | .JoinedStr es _ => if es.all partJ = true ∧ 2 ≤ es.length then (evJ (evalE P call d sx e) es Str.empty S).bind fun x S1 => .ok (.str x) S1 else .bad
    | .Call (.Name f _) es kws _ =>
      if (okN f = true ∧ plainA es kws = true) ∧ sx.sc.names.lookup f = some .globalImplicit then match P.F f with
        | some fi => (evL (evalE P call d sx e) es S).bind fun us S1 => (evK (evalE P call d sx e) kws S1).bind fun ws S2 => match argsOf fi us (kws.map (·.arg)) ws with
          | some vs => call f vs S2
          | none => .bad
        | none => if kws.isEmpty = true ∧ f ∈ builtins then (evL (evalE P call d sx e) es S).bind fun us S1 => builtin f us S1 else .bad
      else .bad
    | .Call (.Attribute o m ap) es [] cp => match methTy m with
      | none => .bad
      | some T => if ((ap.endLine == cp.line) = true ∧ plainA es [] = true) ∧ (1 ≤ es.length ∧ es.length < 20) ∧ isSuper o = false then
          (evalE P call d sx e o S).bind fun u S1 => if valTy u S1 = some T then (evL (evalE P call d sx e) es S1).bind fun us S2 => method u m us S2 else .bad
        else .bad
    | .ListComp elt [⟨tg, iter, ifs, 0⟩] scope _ =>
      if blkC sx.N sx.sc scope (ownOf sx.N scope) = true ∧ ((slotsT sx.N tg).all fun i => ((ownOf sx.N scope).map (·.2)).contains i) = true ∧ ifs.length ≤ 1 then
        (walkE (rgOk P sx) (evalE P call d sx e) iter S).bind fun k S1 =>
        (noX (turns k (lcTurn (evalE P call d ⟨sx.N, relS scope sx.sc, fun x => scope.names.lookup x == some .cell⟩) ⟨sx.N, relS scope sx.sc, fun x => scope.names.lookup x == some .cell⟩ (wipeW e ((ownOf sx.N scope).map (·.2))) tg ifs elt S1.length) k.len 0 () (S1 ++ [.lst []]))).bind fun _ S6 => .ok (.ref S1.length) S6
      else .bad
    | _ => .bad

/-! ### statements -/
inductive Fl where
  | nx | ret (w : W) | brk | ct
/-- a block -/
def evS (f : Stmt → En → So → Res (En × Fl)) : List Stmt → En → So → Res (En × Fl)
  | [], e, S => .ok (e, .nx) S
  | x :: xs, e, S => (f x e S).bind fun r S1 => match r.2 with
    | .nx => evS f xs r.1 S1
    | _ => .ok r S1
/-- while: n turns at most -/
def whileE (c : En → So → Res Bool) (f : En → So → Res (En × Fl)) : Nat → En → So → Res (En × Fl)
  | 0, _, _ => .bad
  | n + 1, e, S => (c e S).bind fun b S1 => if b then (f e S1).bind fun r S2 => match r.2 with
      | .nx => whileE c f n r.1 S2
      | .ct => whileE c f n r.1 S2
      | .brk => .ok (r.1, .nx) S2
      | .ret w => .ok (r.1, .ret w) S2
    else .ok (e, .nx) S1
/-- a turn of a for: the names and what has left it -/
def forTurn (sx : Sx) (tg : Expr) (body : En → So → Res (En × Fl)) : W → En × Fl → So → Res ((En × Fl) × Bool) := fun w r S2 => match asg sx r.1 tg w with
  | none => .bad
  | some e2 => (body e2 S2).bind fun r S3 => match r.2 with
    | .nx => .ok ((r.1, Fl.nx), true) S3
    | .ct => .ok ((r.1, Fl.nx), true) S3
    | .brk => .ok ((r.1, Fl.nx), false) S3
    | .ret w => .ok ((r.1, Fl.ret w), false) S3
/-- a, b = x, y: none: it cannot be told; some true: two plain names, stored from the right; some false: the pair is made and unpacked -/
def swK (sx : Sx) (tg v : Expr) : Option Bool := match tg, v with
  | .Tuple ts _ _, .Tuple vs _ _ =>
    if (!(ts.length == 2 || ts.length == 3) || vs.length != ts.length) = true then some false
    else if (vs.any isStar) = true then none
    else
      let names := ts.filterMap fun t => match t with
        | .Name id pos => if (decide (sx.sc.names.lookup id = some .local) && pos.line == (ts.head?.map (·.pos.line)).getD 0) = true then some id else none
        | _ => none
      if (names.length != ts.length || names.eraseDups.length != names.length) = true then some false
      else if vs.all (foldedForSure 8) = true then some false
      else if vs.all (constantsAlone 8) = true then none
      else if ts.length = 2 then some true else none
  | _, _ => some false
def nmOk (N : List Str) : Expr → Bool
  | .Name x _ => (idx N x).isSome
  | _ => false
def tgOk (N : List Str) : Expr → Bool
  | .Name x _ => (idx N x).isSome
  | .Tuple es _ _ => es.all (nmOk N)
  | _ => false
def execS (P : Pg) (call : Cf) : Nat → Sx → Stmt → En → So → Res (En × Fl)
  | 0, _, _, _, _ => .bad
  | d + 1, sx, x, e, S => match x with
    | .Assign [.Subscript o i _] v _ => if isSlice i = true then .bad else (evalE P call d sx e v S).bind fun w S1 => (evalE P call d sx e o S1).bind fun u S2 => (evalE P call d sx e i S2).bind fun k S3 => (ofO (setItem u k w S3) S3).bind fun S4 _ => .ok (e, .nx) S4
    | .Assign [tg] v _ => if swK sx tg v = none ∨ tgOk sx.N tg = false then .bad else (evalE P call d sx e v S).bind fun w S1 => (ofO (asg sx e tg w) S1).bind fun e2 S2 => .ok (e2, .nx) S2
    | .Expr v _ => if isComp v = true then .bad else (evalE P call d sx e v S).bind fun _ S1 => .ok (e, .nx) S1
    | .Return (some v) _ => (evalE P call d sx e v S).bind fun w S1 => .ok (e, .ret w) S1
    | .Return none _ => .ok (e, .ret .non) S
    | .If c a b _ => (evalE P call d sx e c S).bind fun u S1 => match truth u S1 with
      | some true => evS (execS P call d sx) a e S1
      | some false => evS (execS P call d sx) b e S1
      | none => .bad
    | .For tg iter body [] _ => (walkE (rgOk P sx) (evalE P call d sx e) iter S).bind fun k S1 =>
        turns k (forTurn sx tg (evS (execS P call d sx) body)) k.len 0 (e, Fl.nx) S1
    | .Pass _ => .ok (e, .nx) S
    | .Break _ => .ok (e, .brk) S
    | .Continue _ => .ok (e, .ct) S
    | _ => .bad
/-- how deep a def's tree may be -/
def deepT : Nat := 40
/-- the call of a def, at most k deep -/
def callN (P : Pg) : Nat → Cf
  | 0, _, _, _ => .bad
  | k + 1, f, vs, S => match P.F f with
    | none => .bad
    | some fi => if vs.length = fi.ps.length then
        (evS (execS P (callN P k) deepT ⟨fi.N, defScope fi.st, fun _ => true⟩) (defBody fi.st) (vs.map some ++ List.replicate (fi.N.length - vs.length) none) S).bind fun r S1 => match r.2 with
          | .nx => .ok .non S1
          | .ret w => .ok w S1
          | _ => .bad
      else .bad
end Z

/-! The store of the reader and the abstract heap of the layer. -/
namespace Z
open PySem PySem.Spec L2

/-- what never changes in the heap, stays -/
structure Keep (H H' : Hp) : Prop where
  tup : ∀ a xs, H a = some (.tup xs) → H' a = some (.tup xs)
  frz : ∀ a o u, H a = some (.frz o u) → H' a = some (.frz o u)
  xd : ∀ a fs, H a = some (.xd fs) → H' a = some (.xd fs)
theorem Keep.refl (H : Hp) : Keep H H := ⟨fun _ _ h => h, fun _ _ _ h => h, fun _ _ h => h⟩
theorem Keep.trans {H H1 H2 : Hp} (a : Keep H H1) (b : Keep H1 H2) : Keep H H2 := ⟨fun x xs h => b.tup x xs (a.tup x xs h), fun x o u h => b.frz x o u (a.frz x o u h), fun x u h => b.xd x u (a.xd x u h)⟩
theorem Keep.new {H : Hp} {p : Addr} {o : HO} (h : H p = none) : Keep H (upd H p o) :=
  ⟨fun a xs e => by rw [upd_ne (ne_of_none e h)]; exact e, fun a ob u e => by rw [upd_ne (ne_of_none e h)]; exact e, fun a u e => by rw [upd_ne (ne_of_none e h)]; exact e⟩
/-- a list or a dict is written -/
def isM : HO → Bool
  | .lst _ => true
  | .dK _ => true
  | .ins _ _ _ => true
  | .own _ => true
  | _ => false
theorem Keep.upd {H : Hp} {p : Addr} {o u : HO} (h : H p = some u) (m : isM u = true) : Keep H (upd H p o) :=
  ⟨fun a xs e => by
    have n : a ≠ p := fun z => by subst z; rw [h] at e; cases e; cases m
    rw [upd_ne n]; exact e,
   fun a ob w e => by
    have n : a ≠ p := fun z => by subst z; rw [h] at e; cases e; cases m
    rw [upd_ne n]; exact e,
   fun a w e => by
    have n : a ≠ p := fun z => by subst z; rw [h] at e; cases e; cases m
    rw [upd_ne n]; exact e⟩
theorem keepT {K : PySem.W.Frag} {H H' : Hp} {a : Addr} {xs : List V} (k : Keep H H') (h : SqT K H a xs) : SqT K H' a xs := by
  rcases h with (h | ⟨o, h⟩) | h
  · exact .inl (.inl (k.tup _ _ h))
  · exact .inl (.inr ⟨o, k.frz _ _ _ h⟩)
  · exact .inr h
/-- a list that nobody writes -/
def SqF (K : PySem.W.Frag) (H : Hp) (a : Addr) (xs : List V) : Prop := ∀ H', Keep H H' → SqL K H' a xs
theorem keepF {K : PySem.W.Frag} {H H' : Hp} {a : Addr} {xs : List V} (k : Keep H H') (h : SqF K H a xs) : SqF K H' a xs := fun H2 k2 => h H2 (k.trans k2)
theorem SqF.now {K : PySem.W.Frag} {H : Hp} {a : Addr} {xs : List V} (h : SqF K H a xs) : SqL K H a xs := h H (Keep.refl H)

/-- the written part and the module's names -/
structure Gd where
  K : PySem.W.Frag
  mg : Str → Option Value

mutual
def RW (G : Gd) (H : Hp) (I : List Addr) : W → V → Prop
  | .non, v => v = .non
  | .bl b, v => v = .bl b
  | .int i, v => v = .int i
  | .str x, v => v = .str x
  | .ty n, v => v = .ty n
  | .tup ws, v => ∃ a vs, v = .ref a ∧ SqT G.K H a vs ∧ RWs G H I ws vs
  | .fl ws, v => ∃ a vs, v = .ref a ∧ SqF G.K H a vs ∧ RWs G H I ws vs
  | .ref i, v => ∃ a, v = .ref a ∧ I[i]? = some a
  | .glo x, v => ∃ a, v = .ref a ∧ G.mg x = some (.ref a)
def RWs (G : Gd) (H : Hp) (I : List Addr) : List W → List V → Prop
  | [], vs => vs = []
  | w :: ws, vs => ∃ v r, vs = v :: r ∧ RW G H I w v ∧ RWs G H I ws r
end
theorem pre_get {I I' : List Addr} (p : I <+: I') {i : Nat} {a : Addr} (h : I[i]? = some a) : I'[i]? = some a := by
  obtain ⟨t, rfl⟩ := p
  obtain ⟨hl, _⟩ := List.getElem?_eq_some_iff.mp h
  rw [List.getElem?_append_left hl]; exact h
mutual
theorem RW.mono {G : Gd} {H H' : Hp} {I I' : List Addr} (k : Keep H H') (p : I <+: I') : ∀ {w : W} {v : V}, RW G H I w v → RW G H' I' w v
  | .non, _, h => by unfold RW at h ⊢; exact h
  | .bl _, _, h => by unfold RW at h ⊢; exact h
  | .int _, _, h => by unfold RW at h ⊢; exact h
  | .str _, _, h => by unfold RW at h ⊢; exact h
  | .ty _, _, h => by unfold RW at h ⊢; exact h
  | .tup ws, _, h => by
    unfold RW at h ⊢
    obtain ⟨a, vs, e, s, r⟩ := h
    exact ⟨a, vs, e, keepT k s, RWs.mono k p r⟩
  | .fl ws, _, h => by
    unfold RW at h ⊢
    obtain ⟨a, vs, e, s, r⟩ := h
    exact ⟨a, vs, e, keepF k s, RWs.mono k p r⟩
  | .ref i, _, h => by
    unfold RW at h ⊢
    obtain ⟨a, e, s⟩ := h
    exact ⟨a, e, pre_get p s⟩
  | .glo x, _, h => by unfold RW at h ⊢; exact h
theorem RWs.mono {G : Gd} {H H' : Hp} {I I' : List Addr} (k : Keep H H') (p : I <+: I') : ∀ {ws : List W} {vs : List V}, RWs G H I ws vs → RWs G H' I' ws vs
  | [], _, h => by unfold RWs at h ⊢; exact h
  | w :: ws, _, h => by
    unfold RWs at h ⊢
    obtain ⟨v, r, e, h1, h2⟩ := h
    exact ⟨v, r, e, RW.mono k p h1, RWs.mono k p h2⟩
end
theorem RWs.nil {G : Gd} {H : Hp} {I : List Addr} : RWs G H I [] [] := by unfold RWs; rfl
theorem RWs.cons {G : Gd} {H : Hp} {I : List Addr} {w : W} {ws : List W} {v : V} {vs : List V} (h : RW G H I w v) (r : RWs G H I ws vs) : RWs G H I (w :: ws) (v :: vs) := by
  rw [RWs]; exact ⟨v, vs, rfl, h, r⟩
theorem RWs.inv {G : Gd} {H : Hp} {I : List Addr} {w : W} {ws : List W} {vs : List V} (h : RWs G H I (w :: ws) vs) : ∃ v r, vs = v :: r ∧ RW G H I w v ∧ RWs G H I ws r := by
  rw [RWs] at h; exact h
theorem RWs.inv0 {G : Gd} {H : Hp} {I : List Addr} {vs : List V} (h : RWs G H I [] vs) : vs = [] := by
  rw [RWs] at h; exact h
theorem RWs.len {G : Gd} {H : Hp} {I : List Addr} : ∀ {ws : List W} {vs : List V}, RWs G H I ws vs → ws.length = vs.length
  | [], _, h => by have q := h.inv0; subst q; rfl
  | w :: ws, _, h => by
    obtain ⟨v, r, rfl, _, h2⟩ := h.inv
    simp [RWs.len h2]
theorem RWs.get {G : Gd} {H : Hp} {I : List Addr} : ∀ {ws : List W} {vs : List V} {i : Nat} {w : W}, RWs G H I ws vs → ws[i]? = some w → ∃ v, vs[i]? = some v ∧ RW G H I w v
  | [], _, _, _, _, e => by simp at e
  | x :: ws, _, 0, w, h, e => by
    obtain ⟨v, r, rfl, h1, _⟩ := h.inv
    simp at e; subst e
    exact ⟨v, by simp, h1⟩
  | x :: ws, _, i + 1, w, h, e => by
    obtain ⟨v, r, rfl, _, h2⟩ := h.inv
    obtain ⟨u, h3, h4⟩ := RWs.get (i := i) h2 (by simpa using e)
    exact ⟨u, by simpa using h3, h4⟩
theorem RWs.getN {G : Gd} {H : Hp} {I : List Addr} {ws : List W} {vs : List V} {i : Nat} (h : RWs G H I ws vs) (e : ws[i]? = none) : vs[i]? = none := by
  have := h.len
  rw [List.getElem?_eq_none_iff] at e ⊢
  omega
theorem RWs.append {G : Gd} {H : Hp} {I : List Addr} : ∀ {ws zs : List W} {vs us : List V}, RWs G H I ws vs → RWs G H I zs us → RWs G H I (ws ++ zs) (vs ++ us)
  | [], _, _, _, h, q => by rw [h.inv0]; exact q
  | w :: ws, _, _, _, h, q => by
    obtain ⟨v, r, rfl, h1, h2⟩ := h.inv
    exact .cons h1 (RWs.append h2 q)
theorem RWs.take {G : Gd} {H : Hp} {I : List Addr} : ∀ {ws : List W} {vs : List V} (n : Nat), RWs G H I ws vs → RWs G H I (ws.take n) (vs.take n)
  | _, _, 0, _ => .nil
  | [], _, n + 1, h => by rw [h.inv0]; exact .nil
  | w :: ws, _, n + 1, h => by
    obtain ⟨v, r, rfl, h1, h2⟩ := h.inv
    exact .cons h1 (RWs.take n h2)
theorem RWs.drop {G : Gd} {H : Hp} {I : List Addr} : ∀ {ws : List W} {vs : List V} (n : Nat), RWs G H I ws vs → RWs G H I (ws.drop n) (vs.drop n)
  | _, _, 0, h => h
  | [], _, n + 1, h => by rw [h.inv0]; exact .nil
  | w :: ws, _, n + 1, h => by
    obtain ⟨v, r, rfl, h1, h2⟩ := h.inv
    exact RWs.drop n h2
theorem RWs.cut {G : Gd} {H : Hp} {I : List Addr} {ws : List W} {vs : List V} (lo hi : Option Int) (h : RWs G H I ws vs) : RWs G H I (cutW ws lo hi) (cutV vs lo hi) := by
  unfold cutW cutV
  rw [h.len]
  exact (h.drop _).take _
theorem RWs.set {G : Gd} {H : Hp} {I : List Addr} {w : W} {v : V} (r : RW G H I w v) : ∀ {ws : List W} {vs : List V} (i : Nat), RWs G H I ws vs → RWs G H I (ws.set i w) (vs.set i v)
  | [], _, _, h => by rw [h.inv0]; exact .nil
  | x :: ws, _, 0, h => by
    obtain ⟨v, r, rfl, h1, h2⟩ := h.inv
    exact .cons (by assumption) h2
  | x :: ws, _, i + 1, h => by
    obtain ⟨u, q, rfl, h1, h2⟩ := h.inv
    exact .cons h1 (RWs.set r i h2)
theorem RWs.flat {G : Gd} {H : Hp} {I : List Addr} {ws : List W} {vs : List V} (h : RWs G H I ws vs) : ∀ k : Nat, RWs G H I (List.replicate k ws).flatten (List.replicate k vs).flatten
  | 0 => .nil
  | k + 1 => by
    simp only [List.replicate_succ, List.flatten_cons]
    exact h.append (RWs.flat h k)

/-- keys and values of a dict -/
def RKs (G : Gd) (H : Hp) (I : List Addr) : List (Key × W) → List (Key × V) → Prop
  | [], ys => ys = []
  | (k, w) :: r, ys => ∃ v q, ys = (k, v) :: q ∧ RW G H I w v ∧ RKs G H I r q
theorem RKs.mono {G : Gd} {H H' : Hp} {I I' : List Addr} (k : Keep H H') (p : I <+: I') : ∀ {ws : List (Key × W)} {vs : List (Key × V)}, RKs G H I ws vs → RKs G H' I' ws vs
  | [], _, h => h
  | (_, w) :: ws, _, ⟨v, q, e, h1, h2⟩ => ⟨v, q, e, h1.mono k p, RKs.mono k p h2⟩
theorem RKs.len {G : Gd} {H : Hp} {I : List Addr} : ∀ {ws : List (Key × W)} {vs : List (Key × V)}, RKs G H I ws vs → ws.length = vs.length
  | [], _, h => by subst h; rfl
  | (_, _) :: ws, _, ⟨v, q, e, h1, h2⟩ => by subst e; simp [RKs.len h2]
theorem RKs.empty {G : Gd} {H : Hp} {I : List Addr} {ws : List (Key × W)} {vs : List (Key × V)} (h : RKs G H I ws vs) : ws.isEmpty = vs.isEmpty := by
  have := h.len
  cases ws <;> cases vs <;> simp_all
theorem RKs.find {G : Gd} {H : Hp} {I : List Addr} (k : Key) : ∀ {ws : List (Key × W)} {vs : List (Key × V)} {w : W}, RKs G H I ws vs → findK ws k = some w → ∃ v, valV vs k = some v ∧ RW G H I w v
  | [], _, _, _, e => by simp [findK] at e
  | (q, x) :: ws, _, w, ⟨v, r, e, h1, h2⟩, f => by
    subst e
    unfold findK at f
    unfold valV
    by_cases h : q = k
    · subst h
      simp at f ⊢
      subst f
      exact h1
    · simp only [List.find?_cons, h, decide_false] at f ⊢
      exact RKs.find k h2 f

def RO (G : Gd) (H : Hp) (I : List Addr) (a : Addr) : O → Prop
  | .lst ws => ∃ vs, H a = some (.lst vs) ∧ RWs G H I ws vs
  | .dct ws => ∃ vs, H a = some (.dK vs) ∧ RKs G H I ws vs
  | .ins _ _ => False
theorem RO.some {G : Gd} {H : Hp} {I : List Addr} {a : Addr} {o : O} (h : RO G H I a o) : ∃ u, H a = some u ∧ isM u = true := by
  cases o with
  | lst ws => obtain ⟨vs, e, _⟩ := h; exact ⟨_, e, rfl⟩
  | dct ws => obtain ⟨vs, e, _⟩ := h; exact ⟨_, e, rfl⟩
  | ins _ _ => exact False.elim h
theorem RO.mono {G : Gd} {H H' : Hp} {I I' : List Addr} {a : Addr} {o : O} (k : Keep H H') (p : I <+: I') (e : H' a = H a) (h : RO G H I a o) : RO G H' I' a o := by
  cases o with
  | lst ws => obtain ⟨vs, q, r⟩ := h; exact ⟨vs, e.trans q, r.mono k p⟩
  | dct ws => obtain ⟨vs, q, r⟩ := h; exact ⟨vs, e.trans q, r.mono k p⟩
  | ins _ _ => exact False.elim h

structure Rel (G : Gd) (H : Hp) (I : List Addr) (S : So) : Prop where
  len : I.length = S.length
  nd : ∀ (i j : Nat) (a : Addr), I[i]? = some a → I[j]? = some a → i = j
  obj : ∀ (i : Nat) (o : O) (a : Addr), S[i]? = some o → I[i]? = some a → RO G H I a o
theorem Rel.addr {G : Gd} {H : Hp} {I : List Addr} {S : So} (r : Rel G H I S) {i : Nat} {o : O} (h : S[i]? = some o) : ∃ a, I[i]? = some a ∧ RO G H I a o := by
  obtain ⟨hl, _⟩ := List.getElem?_eq_some_iff.mp h
  have hi : i < I.length := by rw [r.len]; exact hl
  exact ⟨I[i], List.getElem?_eq_getElem hi, r.obj i o _ h (List.getElem?_eq_getElem hi)⟩
theorem Rel.there {G : Gd} {H : Hp} {I : List Addr} {S : So} (r : Rel G H I S) {i : Nat} {a : Addr} (h : I[i]? = some a) : ∃ u, H a = some u ∧ isM u = true := by
  obtain ⟨hl, _⟩ := List.getElem?_eq_some_iff.mp h
  have hi : i < S.length := by rw [← r.len]; exact hl
  exact (r.obj i S[i] a (List.getElem?_eq_getElem hi) h).some
/-- a new thing that the store does not know -/
theorem Rel.junk {G : Gd} {H : Hp} {I : List Addr} {S : So} (r : Rel G H I S) {p : Addr} {u : HO} (h : H p = none) : Rel G (upd H p u) I S :=
  ⟨r.len, r.nd, fun i o a e1 e2 => (r.obj i o a e1 e2).mono (Keep.new h) (List.prefix_refl _) (by
    obtain ⟨u, q, _⟩ := r.there e2
    rw [upd_ne (ne_of_none q h)])⟩
/-- a new thing of the store -/
theorem Rel.new {G : Gd} {H : Hp} {I : List Addr} {S : So} (r : Rel G H I S) {p : Addr} {u : HO} {o : O} (h : H p = none) (n : RO G (upd H p u) (I ++ [p]) p o) : Rel G (upd H p u) (I ++ [p]) (S ++ [o]) := by
  have hp : ∀ (i : Nat), I[i]? ≠ some p := fun i e => by
    obtain ⟨u, q, _⟩ := r.there e
    rw [h] at q; cases q
  have look : ∀ (i : Nat) (a : Addr), (I ++ [p])[i]? = some a → I[i]? = some a ∨ (i = I.length ∧ a = p) := fun i a e => by
    by_cases hi : i < I.length
    · rw [List.getElem?_append_left hi] at e; exact .inl e
    · rw [List.getElem?_append_right (by omega)] at e
      have : i - I.length = 0 := by
        cases q : i - I.length with
        | zero => rfl
        | succ m => rw [q] at e; simp at e
      rw [this] at e
      simp at e
      exact .inr ⟨by omega, e.symm⟩
  refine ⟨by simp [r.len], fun i j a e1 e2 => ?_, fun i ob a e1 e2 => ?_⟩
  · rcases look i a e1 with q1 | ⟨q1, z1⟩ <;> rcases look j a e2 with q2 | ⟨q2, z2⟩
    · exact r.nd i j a q1 q2
    · subst z2; exact absurd q1 (hp i)
    · subst z1; exact absurd q2 (hp j)
    · omega
  · rcases look i a e2 with q | ⟨q, z⟩
    · have hi : i < S.length := by
        rw [← r.len]; exact (List.getElem?_eq_some_iff.mp q).1
      rw [List.getElem?_append_left hi] at e1
      exact (r.obj i ob a e1 q).mono (Keep.new h) (List.prefix_append _ _) (by
        obtain ⟨u, q', _⟩ := r.there q
        rw [upd_ne (ne_of_none q' h)])
    · subst z
      rw [q, r.len, List.getElem?_append_right (Nat.le_refl _)] at e1
      simp at e1
      subst e1
      exact n
/-- a thing of the store is written -/
theorem Rel.put {G : Gd} {H : Hp} {I : List Addr} {S : So} (r : Rel G H I S) {i : Nat} {a : Addr} {u : HO} {o : O} (e : I[i]? = some a) (n : RO G (upd H a u) I a o) : Rel G (upd H a u) I (S.set i o) := by
  obtain ⟨w, hw, m⟩ := r.there e
  refine ⟨by simp [r.len], r.nd, fun j ob b e1 e2 => ?_⟩
  by_cases hj : j = i
  · subst hj
    rw [e] at e2; cases e2
    have hl : j < S.length := by rw [← r.len]; exact (List.getElem?_eq_some_iff.mp e).1
    rw [List.getElem?_set_self hl] at e1
    cases e1
    exact n
  · rw [List.getElem?_set_ne (Ne.symm hj)] at e1
    have hb : b ≠ a := fun z => by subst z; exact hj (r.nd j i b e2 e)
    exact (r.obj j ob b e1 e2).mono (Keep.upd hw m) (List.prefix_refl _) (upd_ne hb)
theorem Rel.keepPut {G : Gd} {H : Hp} {I : List Addr} {S : So} (r : Rel G H I S) {i : Nat} {a : Addr} {u : HO} (e : I[i]? = some a) : Keep H (upd H a u) := by
  obtain ⟨w, hw, m⟩ := r.there e
  exact Keep.upd hw m

/-- the names' values -/
structure RS (G : Gd) (H : Hp) (I : List Addr) (e : En) (σ : St) : Prop where
  len : e.length = σ.length
  get : ∀ (i : Nat) (w : W), e[i]? = some (some w) → ∃ v, σ[i]? = some (some v) ∧ RW G H I w v
theorem RS.mono {G : Gd} {H H' : Hp} {I I' : List Addr} {e : En} {σ : St} (k : Keep H H') (p : I <+: I') (r : RS G H I e σ) : RS G H' I' e σ :=
  ⟨r.len, fun i w h => let ⟨v, a, b⟩ := r.get i w h; ⟨v, a, b.mono k p⟩⟩
theorem RS.put {G : Gd} {H : Hp} {I : List Addr} {e : En} {σ : St} {w : W} {v : V} (r : RS G H I e σ) (h : RW G H I w v) (i : Nat) : RS G H I (e.set i (some w)) (σ.set i (some v)) := by
  refine ⟨by simp [r.len], fun j x q => ?_⟩
  by_cases hj : j = i
  · subst hj
    by_cases hl : j < e.length
    · rw [List.getElem?_set_self hl] at q
      cases q
      exact ⟨v, List.getElem?_set_self (by rw [← r.len]; exact hl), h⟩
    · rw [List.getElem?_eq_none (by simpa using hl)] at q; cases q
  · rw [List.getElem?_set_ne (Ne.symm hj)] at q ⊢
    exact r.get j x q
theorem RS.wipe {G : Gd} {H : Hp} {I : List Addr} {e : En} {σ : St} (r : RS G H I e σ) : ∀ vs : List Nat, RS G H I (wipeW e vs) (wipe σ vs)
  | [] => r
  | x :: vs => by
    have q := RS.wipe r vs
    unfold wipeW L2.wipe
    refine ⟨by simp [q.len], fun j w z => ?_⟩
    by_cases hj : j = x
    · subst hj
      by_cases hl : j < (wipeW e vs).length
      · rw [List.getElem?_set_self hl] at z; cases z
      · rw [List.getElem?_eq_none (by simpa using hl)] at z; cases z
    · rw [List.getElem?_set_ne (Ne.symm hj)] at z ⊢
      exact q.get j w z
end Z

/-! What the operations answer. -/
namespace Z
open PySem PySem.Spec L2

/-- what is wanted of an error that leaves -/
abbrev EK := Er → Hp → List Addr → Prop
/-- what is wanted of an answer: it, the store, the heap, the addresses -/
abbrev AK (α : Type) := α → So → Hp → List Addr → Prop
def RE (G : Gd) (E : EK) (H : Hp) (I : List Addr) {α : Type} (k : AK α) : Res α → Prop
  | .ok a S => ∀ H' I', Keep H H' → I <+: I' → Rel G H' I' S → k a S H' I'
  | .exn x S => ∀ H' I', Keep H H' → I <+: I' → Rel G H' I' S → E x H' I'
  | .bad => False
section
variable {G : Gd} {E : EK} {H H' : Hp} {I I' : List Addr} {α β : Type}
theorem RE.mono {k : AK α} {r : Res α} (hk : Keep H H') (hp : I <+: I') (h : RE G E H I k r) : RE G E H' I' k r := by
  cases r with
  | ok a S => exact fun H2 I2 k2 p2 => h H2 I2 (hk.trans k2) (hp.trans p2)
  | exn x S => exact fun H2 I2 k2 p2 => h H2 I2 (hk.trans k2) (hp.trans p2)
  | bad => exact h
theorem RE.bind {k : AK β} {r : Res α} {f : α → So → Res β} (h : RE G E H I k (r.bind f)) : RE G E H I (fun a S H' I' => RE G E H' I' k (f a S)) r := by
  cases r with
  | ok a S => exact fun H2 I2 k2 p2 _ => RE.mono k2 p2 (show RE G E H I k (f a S) from h)
  | exn x S => exact h
  | bad => exact h
theorem RE.imp {k k' : AK α} {r : Res α} (h : RE G E H I k r) (q : ∀ a S H' I', Keep H H' → I <+: I' → Rel G H' I' S → k a S H' I' → k' a S H' I') : RE G E H I k' r := by
  cases r with
  | ok a S => exact fun H2 I2 k2 p2 r2 => q a S H2 I2 k2 p2 r2 (h H2 I2 k2 p2 r2)
  | exn x S => exact h
  | bad => exact h
/-- the answer stands now -/
theorem RE.now {k : AK α} {a : α} {S : So} (h : RE G E H I k (.ok a S)) (r : Rel G H I S) : k a S H I := h H I (Keep.refl H) (List.prefix_refl I) r
end
def kV' (G : Gd) (Q : VK) : AK W := fun w _ H' I' => ∀ v, RW G H' I' w v → Q v H'
def kVs (G : Gd) (Q : List V → Hp → Prop) : AK (List W) := fun w _ H' I' => ∀ v, RWs G H' I' w v → Q v H'
def kB (Q : Bool → Hp → Prop) : AK Bool := fun b _ H' _ => Q b H'

section
variable {G : Gd} {E : EK} {H : Hp} {I : List Addr} {S : So}
/-- a new list, a new dict, of the store -/
theorem new_lst {Q : VK} {ws : List W} {vs : List V} (r : Rel G H I S) (rw' : RWs G H I ws vs) (h : RE G E H I (kV' G Q) (new (.lst ws) S)) : ∀ p, H p = none → Q (.ref p) (upd H p (.lst vs)) := fun p hp => by
  have kn := Keep.new (o := .lst vs) hp
  have r2 : Rel G (upd H p (.lst vs)) (I ++ [p]) (S ++ [.lst ws]) := r.new hp ⟨vs, upd_same, rw'.mono kn (List.prefix_append _ _)⟩
  refine h _ _ kn (List.prefix_append _ _) r2 (.ref p) ?_
  unfold RW
  exact ⟨p, rfl, by rw [← r.len]; simp⟩
theorem put_lst {k : AK Unit} {ws : List W} {vs : List V} {i : Nat} {a : Addr} (r : Rel G H I S) (e : I[i]? = some a) (rw' : RWs G H I ws vs) (h : RE G E H I k (.ok () (S.set i (.lst ws)))) :
    k () (S.set i (.lst ws)) (upd H a (.lst vs)) I := by
  have kn := r.keepPut (u := .lst vs) e
  exact h _ _ kn (List.prefix_refl _) (r.put e ⟨vs, upd_same, rw'.mono kn (List.prefix_refl _)⟩)

/-- the seq of a value, as the layer reads it -/
theorem lst_of {x : W} {v : V} {ws : List W} (r : Rel G H I S) (h : RW G H I x v) (e : lstOf x S = some ws) : ∃ a vs, v = .ref a ∧ SqL G.K H a vs ∧ RWs G H I ws vs := by
  unfold lstOf at e
  split at e
  · rename_i i
    split at e
    · rename_i xs hS
      cases e
      unfold RW at h
      obtain ⟨a, rfl, hi⟩ := h
      obtain ⟨vs, q, z⟩ := r.obj _ _ _ hS hi
      exact ⟨a, vs, rfl, .of q, z⟩
    · cases e
  · rename_i xs
    cases e
    unfold RW at h
    obtain ⟨a, vs, rfl, s, z⟩ := h
    exact ⟨a, vs, rfl, s.now, z⟩
  · cases e
theorem seq_of {x : W} {v : V} {ws : List W} (r : Rel G H I S) (h : RW G H I x v) (e : seqOf x S = some ws) : ∃ a vs, v = .ref a ∧ (SqL G.K H a vs ∨ SqT G.K H a vs) ∧ RWs G H I ws vs := by
  unfold seqOf at e
  split at e
  · cases e
    unfold RW at h
    obtain ⟨a, vs, rfl, s, z⟩ := h
    exact ⟨a, vs, rfl, .inr s, z⟩
  · obtain ⟨a, vs, e1, s, z⟩ := lst_of r h e
    exact ⟨a, vs, e1, .inl s, z⟩

/-! ### truth -/
theorem truth_ok {x : W} {v : V} {b : Bool} (r : Rel G H I S) (h : RW G H I x v) (e : truth x S = some b) : TruV G.K v H b := by
  unfold truth at e
  cases x with
  | non => unfold RW at h; subst h; cases e; rfl
  | bl c => unfold RW at h; subst h; cases e; rfl
  | int i => unfold RW at h; subst h; cases e; rfl
  | str y =>
    unfold RW at h; subst h
    simp only at e
    split at e
    · rename_i hz
      cases e
      refine ⟨hz, ?_⟩
      cases q : y.length with
      | zero => rfl
      | succ n =>
        have h1 : ((n + 1 != 0) : Bool) = true := by simp
        have h2 : ((((n + 1 : Nat) : Int)) != 0) = true := by simp; omega
        rw [h1, h2]
    · cases e
  | tup xs =>
    unfold RW at h
    obtain ⟨a, vs, rfl, s, z⟩ := h
    cases e
    refine .inr (.inl ⟨vs, s, ?_⟩)
    have := z.len
    cases xs <;> cases vs <;> simp_all
  | fl xs =>
    unfold RW at h
    obtain ⟨a, vs, rfl, s, z⟩ := h
    cases e
    refine .inl ⟨vs, s.now, ?_⟩
    have := z.len
    cases xs <;> cases vs <;> simp_all
  | ref i =>
    simp only at e
    split at e
    · rename_i xs hS
      cases e
      unfold RW at h
      obtain ⟨a, rfl, hi⟩ := h
      obtain ⟨vs, q, z⟩ := r.obj _ _ _ hS hi
      refine .inl ⟨vs, .of q, ?_⟩
      have := z.len
      cases xs <;> cases vs <;> simp_all
    · rename_i xs hS
      cases e
      unfold RW at h
      obtain ⟨a, rfl, hi⟩ := h
      obtain ⟨vs, q, z⟩ := r.obj _ _ _ hS hi
      refine .inr (.inr ⟨vs, q, ?_⟩)
      rw [z.empty]
    · cases e
  | ty n => cases e
  | glo n => cases e
end
end Z

open PyProof.Rows hiding St RelV
/-! What the operators answer. -/
namespace Z
open PySem PySem.Spec L2

theorem bits_lt {i j : Int} (h : Builtin.Int.intBits i + Builtin.Int.intBits j ≤ 134217728) : IntMulOk i j := by
  unfold IntMulOk
  intro z
  rw [Bool.and_eq_true] at z
  have z2 := z.2
  unfold Builtin.Int.intTooBig at z2
  have z3 := of_decide_eq_true z2
  have e : bitsLine = 134217728 := by decide
  rw [e] at z3
  omega
section
variable {X : Cx}
theorem op_mulZ : OpR X (binaryOp .Mult) (rI (fun i j => Builtin.Int.intBits i + Builtin.Int.intBits j ≤ 134217728) fun i j => .int (i * j)) :=
  opI fun _ _ _ _ _ _ _ hc q => PyProof.Rows.mul_int q (bits_lt hc)
theorem op_powZ : OpR X (binaryOp .Pow) (rI (fun i j => 0 ≤ j ∧ (Builtin.Int.intBits i : Int) * j ≤ 134217728) fun i j => .int (i ^ j.toNat)) :=
  opI fun _ _ _ _ _ _ _ hc q => PyProof.Rows.pow_int hc.1 (by have := hc.2; simpa using this) q
variable {G : Gd} {E : EK}
def rZ (G : Gd) (E : EK) (f : W → W → So → Res W) : R2 := fun x y H Q => ∃ I S u v, Rel G H I S ∧ RW G H I u x ∧ RW G H I v y ∧ RE G E H I (kV' G Q) (f u v S)
theorem kV_now {H : Hp} {I : List Addr} {S : So} {Q : VK} {w : W} {v : V} (h : RE G E H I (kV' G Q) (.ok w S)) (r : Rel G H I S) (q : RW G H I w v) : Q v H := RE.now (k := kV' G Q) h r v q
theorem op_Z (hG : G.K = X.K) (op : Operator) : OpR X (binaryOp op) (rZ G E (binop op)) := by
  rintro pins s σ H x y v u Q J rx ry ⟨I, S, a, b, r, ha, hb, h⟩
  unfold binop at h
  split at h
  · unfold RW at ha hb; subst ha hb
    exact op_add pins s σ H _ _ v u Q J rx ry ⟨_, _, rfl, rfl, kV_now h r (by unfold RW; rfl)⟩
  · unfold RW at ha hb; subst ha hb
    exact op_sub pins s σ H _ _ v u Q J rx ry ⟨_, _, rfl, rfl, kV_now h r (by unfold RW; rfl)⟩
  · unfold RW at ha hb; subst ha hb
    split at h
    · exact op_mulZ pins s σ H _ _ v u Q J rx ry ⟨_, _, rfl, rfl, by assumption, kV_now h r (by unfold RW; rfl)⟩
    · exact False.elim h
  · unfold RW at ha hb; subst ha hb
    split at h
    · exact op_mod pins s σ H _ _ v u Q J rx ry ⟨_, _, rfl, rfl, by assumption, kV_now h r (by unfold RW; rfl)⟩
    · exact False.elim h
  · unfold RW at ha hb; subst ha hb
    split at h
    · exact op_fdiv pins s σ H _ _ v u Q J rx ry ⟨_, _, rfl, rfl, by assumption, kV_now h r (by unfold RW; rfl)⟩
    · exact False.elim h
  · unfold RW at ha hb; subst ha hb
    split at h
    · exact op_powZ pins s σ H _ _ v u Q J rx ry ⟨_, _, rfl, rfl, by assumption, kV_now h r (by unfold RW; rfl)⟩
    · exact False.elim h
  · unfold RW at ha hb; subst ha hb
    split at h
    · exact op_add_str pins s σ H _ _ v u Q J rx ry ⟨_, _, rfl, rfl, by assumption, kV_now h r (by unfold RW; rfl)⟩
    · exact False.elim h
  · rename_i xs ys
    unfold RW at ha hb
    obtain ⟨p, vs, rfl, s1, z1⟩ := ha
    obtain ⟨q, us, rfl, s2, z2⟩ := hb
    split at h
    · rename_i hl
      rw [hG] at s1 s2
      have hl2 : vs.length + us.length ≤ sizeLine := by rw [← z1.len, ← z2.len]; exact hl
      refine op_catA pins s σ H _ _ v u Q J rx ry ⟨p, q, vs, us, rfl, rfl, s1, s2, hl2, fun e => ?_, fun _ e => ?_, fun _ _ t ht => ?_⟩
      · subst e
        have e2 : xs = [] := by cases xs with | nil => rfl | cons _ _ => have := z1.len; simp at this
        subst e2
        exact kV_now h r (by unfold RW; exact ⟨q, us, rfl, by rw [hG]; exact s2, z2⟩)
      · subst e
        have e2 : ys = [] := by cases ys with | nil => rfl | cons _ _ => have := z2.len; simp at this
        subst e2
        rw [List.append_nil] at h
        exact kV_now h r (by unfold RW; exact ⟨p, vs, rfl, by rw [hG]; exact s1, z1⟩)
      · have kn := Keep.new (o := .tup (vs ++ us)) ht
        refine h _ I kn (List.prefix_refl _) (r.junk ht) _ ?_
        unfold RW
        exact ⟨t, vs ++ us, rfl, .of upd_same, (z1.append z2).mono kn (List.prefix_refl _)⟩
    · exact False.elim h
  · split at h
    · rename_i xs ys e1 e2
      unfold RW at ha hb
      obtain ⟨p, rfl, i1⟩ := ha
      obtain ⟨q, rfl, i2⟩ := hb
      obtain ⟨vs, q1, z1⟩ := r.obj _ _ _ e1 i1
      obtain ⟨us, q2, z2⟩ := r.obj _ _ _ e2 i2
      split at h
      · rename_i hl
        exact op_cat pins s σ H _ _ v u Q J rx ry ⟨p, q, vs, us, rfl, rfl, q1, q2, by rw [← z1.len, ← z2.len]; exact hl, new_lst r (z1.append z2) h⟩
      · exact False.elim h
    · exact False.elim h
  · split at h
    · rename_i xs e1
      unfold RW at ha hb
      obtain ⟨p, rfl, i1⟩ := ha
      subst hb
      obtain ⟨vs, q1, z1⟩ := r.obj _ _ _ e1 i1
      split at h
      · rename_i hl
        exact op_rep pins s σ H _ _ v u Q J rx ry ⟨p, _, vs, rfl, rfl, q1, hl.1, hl.2.1, by rw [← z1.len]; exact hl.2.2, new_lst r (z1.flat _) h⟩
      · exact False.elim h
    · exact False.elim h
  · exact False.elim h

/-! ### data -/
end
mutual
/-- what a value of the heap reads as (dicts too) -/
inductive Dq (K : PySem.W.Frag) (H : Hp) : V → PyData → Prop
  | non : Dq K H .non .none
  | bl (b : Bool) : Dq K H (.bl b) (.bool b)
  | int (i : Int) : Dq K H (.int i) (.int i)
  | str (x : Str) : Dq K H (.str x) (.str x)
  | lst {a : Addr} {xs : List V} {ds : List PyData} : SqL K H a xs → DqAll K H xs ds → Dq K H (.ref a) (.list ds)
  | tup {a : Addr} {xs : List V} {ds : List PyData} : SqT K H a xs → DqAll K H xs ds → Dq K H (.ref a) (.tuple ds)
  | dct {a : Addr} {kvs : List (Key × V)} {ds : List (PyData × PyData)} : H a = some (.dK kvs) → DqKv K H kvs ds → Dq K H (.ref a) (.dict ds)
inductive DqAll (K : PySem.W.Frag) (H : Hp) : List V → List PyData → Prop
  | nil : DqAll K H [] []
  | cons {v : V} {vs : List V} {d : PyData} {ds : List PyData} : Dq K H v d → DqAll K H vs ds → DqAll K H (v :: vs) (d :: ds)
inductive DqKv (K : PySem.W.Frag) (H : Hp) : List (Key × V) → List (PyData × PyData) → Prop
  | nil : DqKv K H [] []
  | cons {k : Key} {v : V} {vs : List (Key × V)} {d : PyData} {ds : List (PyData × PyData)} : Dq K H v d → DqKv K H vs ds → DqKv K H ((k, v) :: vs) ((kD k, d) :: ds)
end
section
variable {G : Gd} {H : Hp} {I : List Addr} {S : So} {f : Nat → Option PyData}
mutual
theorem dW_ok (hf : ∀ (i : Nat) (d : PyData) (a : Addr), f i = some d → I[i]? = some a → Dq G.K H (.ref a) d) : ∀ (w : W) (v : V) (d : PyData), RW G H I w v → dW f w = some d → Dq G.K H v d
  | .non, _, _, h, e => by unfold RW at h; unfold dW at e; subst h; cases e; exact .non
  | .bl b, _, _, h, e => by unfold RW at h; unfold dW at e; subst h; cases e; exact .bl b
  | .int b, _, _, h, e => by unfold RW at h; unfold dW at e; subst h; cases e; exact .int b
  | .str b, _, _, h, e => by unfold RW at h; unfold dW at e; subst h; cases e; exact .str b
  | .ty _, _, _, _, e => by unfold dW at e; cases e
  | .glo _, _, _, _, e => by unfold dW at e; cases e
  | .ref i, _, _, h, e => by
    unfold RW at h; unfold dW at e
    obtain ⟨a, rfl, hi⟩ := h
    exact hf i _ a e hi
  | .tup ws, _, _, h, e => by
    unfold RW at h; unfold dW at e
    obtain ⟨a, vs, rfl, s, z⟩ := h
    obtain ⟨ds, e1, rfl⟩ := Option.map_eq_some_iff.mp e
    exact .tup s (dWs_ok hf ws vs ds z e1)
  | .fl ws, _, _, h, e => by
    unfold RW at h; unfold dW at e
    obtain ⟨a, vs, rfl, s, z⟩ := h
    obtain ⟨ds, e1, rfl⟩ := Option.map_eq_some_iff.mp e
    exact .lst s.now (dWs_ok hf ws vs ds z e1)
theorem dWs_ok (hf : ∀ (i : Nat) (d : PyData) (a : Addr), f i = some d → I[i]? = some a → Dq G.K H (.ref a) d) : ∀ (ws : List W) (vs : List V) (ds : List PyData), RWs G H I ws vs → dWs f ws = some ds → DqAll G.K H vs ds
  | [], _, _, h, e => by rw [h.inv0]; unfold dWs at e; cases e; exact .nil
  | w :: ws, _, _, h, e => by
    obtain ⟨v, r, rfl, h1, h2⟩ := h.inv
    unfold dWs at e
    split at e
    · cases e
    · rename_i d hd
      split at e
      · cases e
      · rename_i ds hds
        cases e
        exact .cons (dW_ok hf w v d h1 hd) (dWs_ok hf ws r ds h2 hds)
end
theorem dKvs_ok (hf : ∀ (i : Nat) (d : PyData) (a : Addr), f i = some d → I[i]? = some a → Dq G.K H (.ref a) d) : ∀ (ws : List (Key × W)) (vs : List (Key × V)) (ds : List (PyData × PyData)), RKs G H I ws vs → dKvs f ws = some ds → DqKv G.K H vs ds
  | [], _, _, h, e => by rw [show _ = [] from h]; unfold dKvs at e; cases e; exact .nil
  | (k, w) :: ws, _, _, ⟨v, r, e0, h1, h2⟩, e => by
    subst e0
    unfold dKvs at e
    split at e
    · cases e
    · rename_i d hd
      split at e
      · cases e
      · rename_i ds hds
        cases e
        exact .cons (dW_ok hf w v d h1 hd) (dKvs_ok hf ws r ds h2 hds)
theorem dR_ok (r : Rel G H I S) : ∀ (n i : Nat) (d : PyData) (a : Addr), dR S n i = some d → I[i]? = some a → Dq G.K H (.ref a) d
  | 0, _, _, _, e, _ => by unfold dR at e; cases e
  | n + 1, i, d, a, e, hi => by
    unfold dR at e
    split at e
    · rename_i xs hS
      obtain ⟨vs, q, z⟩ := r.obj _ _ _ hS hi
      obtain ⟨ds, e1, rfl⟩ := Option.map_eq_some_iff.mp e
      exact .lst (.of q) (dWs_ok (dR_ok r n) _ _ _ z e1)
    · rename_i xs hS
      obtain ⟨vs, q, z⟩ := r.obj _ _ _ hS hi
      obtain ⟨ds, e1, rfl⟩ := Option.map_eq_some_iff.mp e
      exact .dct q (dKvs_ok (dR_ok r n) _ _ _ z e1)
    · cases e
theorem toD_ok (r : Rel G H I S) {w : W} {v : V} {d : PyData} (h : RW G H I w v) (e : toD S w = some d) : Dq G.K H v d := dW_ok (dR_ok r deepS) w v d h e
end
section
variable {X : Cx} {pins : List (Addr × Obj)} {σ : St} {H : Hp} {s : Shared}
theorem kD_reads {h : Heap} {k : Key} {v : Value} (e : keyIs k v = true) : Reads h v (kD k) [] := by
  rcases keyIs_shape e with ⟨i, t, e1, e2⟩ | ⟨x, t, e1, e2⟩
  · subst e1 e2; exact Reads.int i t
  · subst e1 e2; exact Reads.str x t
theorem pairs_keys {P : Program} {w : World} {h : Heap} {es : List DictEntry} {vs : List (Key × Value)} (p : Pairs (mixKind P w) es vs) : ∀ {kvs : List (Key × V)} {ds : List (PyData × PyData)}, KV kvs vs → DqKv X.K H kvs ds →
    ReadsAll h (es.map (·.key)) (ds.map (·.1)) [] := by
  induction p with
  | nil => intro kvs ds k d; cases k; cases d; exact .nil
  | @cons e kv es vs h1 h2 _ ih =>
    intro kvs ds k d
    cases k with
    | cons q r =>
      cases d with
      | cons q2 r2 =>
        have h3 : keyIs kv.1 e.key = true := h1
        rw [← q.1] at h3
        exact ReadsAll.cons (kD_reads h3) (ih r r2)
/-- the object that stands at sysModules is a dict, and no thing of ours -/
def Sys (base : Heap) : Prop := ∃ o es ep, base.get? sysModules = some o ∧ o.data = .dict es ep
theorem ne_sys (J : Inv X pins σ H s) (y : Sys X.base) {a : Addr} {u : HO} (h : H a = some u) : a ≠ sysModules := by
  obtain ⟨o, es, ep, e, _⟩ := y
  rintro rfl
  rw [(J.bs _ _ e).2] at h; cases h
theorem ne_sysL (J : Inv X pins σ H s) (y : Sys X.base) {a : Addr} {xs : List V} (h : SqL X.K H a xs) : a ≠ sysModules := by
  rcases h with (h | ⟨o, h⟩) | ⟨o, its, n, e, c, _, d, _⟩
  · exact ne_sys J y h
  · exact ne_sys J y h
  · obtain ⟨o2, es, ep, e2, d2⟩ := y
    rintro rfl
    have e3 := J.mod.kin _ _ e
    rw [e2] at e3; cases e3
    rw [d] at d2; cases d2
mutual
theorem Dq.reads (J : Inv X pins σ H s) (y : Sys X.base) : ∀ (d : PyData) (v : V) (u : Value), Dq X.K H v d → RelV v u → ∃ as, Reads s.heap u d as ∧ sysModules ∉ as
  | .none, _, _, h, r => by cases h; cases r; exact ⟨_, Reads.none, by simp⟩
  | .bool b, _, _, h, r => by cases h; cases r; exact ⟨_, Reads.bool b, by simp⟩
  | .int i, _, _, h, r => by cases h; obtain ⟨t, rfl⟩ := r; exact ⟨_, Reads.int i t, by simp⟩
  | .str x, _, _, h, r => by cases h; obtain ⟨t, rfl⟩ := r; exact ⟨_, Reads.str x t, by simp⟩
  | .list ds, _, _, h, r => by
    cases h with
    | lst hs ha =>
      cases r
      obtain ⟨its, rv, ⟨o, n, ho, hc, _, hd⟩, _⟩ := J.list hs
      obtain ⟨as, hr, hn⟩ := Dq.readsAll J y ds _ its ha rv
      refine ⟨_, Reads.list ho hc hd hr, ?_⟩
      simp only [List.mem_cons, not_or]
      exact ⟨(ne_sysL J y hs).symm, hn⟩
  | .tuple ds, _, _, h, r => by
    cases h with
    | tup hs ha =>
      cases r
      obtain ⟨its, rv, ⟨o, ho, hc, n, hd⟩, _⟩ := J.tuple hs
      obtain ⟨as, hr, hn⟩ := Dq.readsAll J y ds _ its ha rv
      exact ⟨_, Reads.tuple ho hc hd hr, hn⟩
  | .dict ds, _, _, h, r => by
    cases h with
    | dct hs ha =>
      cases r
      obtain ⟨_, hS, vs, rk, o, es, ep, ho, hx, hd, _, hp, _⟩ := J.hok _ _ hs
      obtain ⟨bs, hr, hn⟩ := Dq.readsKv J y ds _ vs _ ha rk hp
      refine ⟨_, Reads.dict ho hx.1 hd (pairs_keys hp rk ha) hr, ?_⟩
      simp only [List.append_nil, List.mem_append, List.mem_cons, List.not_mem_nil, or_false, not_or]
      exact ⟨(ne_sys J y hs).symm, hn⟩
theorem Dq.readsAll (J : Inv X pins σ H s) (y : Sys X.base) : ∀ (ds : List PyData) (vs : List V) (us : List Value), DqAll X.K H vs ds → Vals vs us → ∃ as, ReadsAll s.heap us ds as ∧ sysModules ∉ as
  | [], _, _, h, r => by cases h; cases r; exact ⟨_, ReadsAll.nil, by simp⟩
  | d :: ds, _, _, h, r => by
    cases h with
    | cons h1 h2 =>
      cases r with
      | cons r1 r2 =>
        obtain ⟨as, q1, n1⟩ := Dq.reads J y d _ _ h1 r1
        obtain ⟨bs, q2, n2⟩ := Dq.readsAll J y ds _ _ h2 r2
        exact ⟨_, ReadsAll.cons q1 q2, by simp only [List.mem_append, not_or]; exact ⟨n1, n2⟩⟩
theorem Dq.readsKv (J : Inv X pins σ H s) (y : Sys X.base) : ∀ (ds : List (PyData × PyData)) (kvs : List (Key × V)) (vs : List (Key × Value)) (es : List DictEntry), DqKv X.K H kvs ds → KV kvs vs → Pairs (mixKind X.prog X.w) es vs →
    ∃ as, ReadsAll s.heap (es.map (·.val)) (ds.map (·.2)) as ∧ sysModules ∉ as
  | [], _, _, _, h, r, p => by cases h; cases r; cases p; exact ⟨_, ReadsAll.nil, by simp⟩
  | (k, d) :: ds, _, _, _, h, r, p => by
    cases h with
    | cons h1 h2 =>
      cases r with
      | cons r1 r2 =>
        cases p with
        | cons p1 p2 p3 =>
          obtain ⟨as, q1, n1⟩ := Dq.reads J y d _ _ h1 (p2 ▸ r1.2)
          obtain ⟨bs, q2, n2⟩ := Dq.readsKv J y ds _ _ _ h2 r2 p3
          exact ⟨_, ReadsAll.cons q1 q2, by simp only [List.mem_append, not_or]; exact ⟨n1, n2⟩⟩
end
/-- repr(x) of data -/
theorem call_reprD (hg : X.A.guards = some []) (hu : X.A.units + 200 < cLine) (y : Sys X.base) : CallR X (.builtin "repr") (fun xs H Q => ∃ x d, xs = [x] ∧ Dq X.K H x d ∧ d.showable = true ∧ d.shown.length ≤ sizeLine ∧ d.depth ≤ 150 ∧ Q (.str d.shown) H) := by
  rintro pins s σ H xs us Q J r ⟨x, d, rfl, hd, h1, h2, h3, q⟩
  obtain ⟨u, rfl, rx⟩ := vals1 r
  obtain ⟨as, hr, hn⟩ := Dq.reads J y d x u hd rx
  have fin : ∀ h' t tk, (∀ b o, s.heap.get? b = some o → h'.get? b = some o) → EP X pins σ Q (.str d.shown t) { s with heap := h', toks := tk } := fun h' t tk k => ⟨.str d.shown, H, J.kept k, ⟨_, rfl⟩, q⟩
  cases hr with
  | none => exact PySem.P.repr_of_none (fin s.heap _ _ fun _ _ e => e)
  | bool b => exact PySem.P.repr_of_bool (fin s.heap _ _ fun _ _ e => e)
  | int i t => exact PySem.P.repr_of_int (by unfold PyData.showable at h1; exact of_decide_eq_true h1) (fin s.heap _ _ fun _ _ e => e)
  | str x t => exact PySem.P.repr_of_str (fin s.heap _ _ fun _ _ e => e) h2
  | list a1 a2 a3 a4 => exact repr_of_reads' (.list a1 a2 a3 a4) h1 (fun _ => hn) hg (by omega) (fun _ _ e => e) (fun h' u tk k => fin h' u tk k) h2
  | tuple a1 a2 a3 a4 => exact repr_of_reads' (.tuple a1 a2 a3 a4) h1 (fun _ => hn) hg (by omega) (fun _ _ e => e) (fun h' u tk k => fin h' u tk k) h2
  | dict a1 a2 a3 a4 a5 => exact repr_of_reads' (.dict a1 a2 a3 a4 a5) h1 (fun _ => hn) hg (by omega) (fun _ _ e => e) (fun h' u tk k => fin h' u tk k) h2
end
end Z

/-! What the comparisons, the built-ins and the methods answer. -/
namespace Z
open PySem PySem.Spec L2
section
variable {X : Cx} {G : Gd} {E : EK}
/-- a comparison by values -/
def rC (G : Gd) (f : W → W → So → Option Bool) : R2 := fun x y H Q => ∃ I S u v b, Rel G H I S ∧ RW G H I u x ∧ RW G H I v y ∧ f u v S = some b ∧ Q (.bl b) H
theorem DqAll.noDict {K : PySem.W.Frag} {H : Hp} {v : V} {d : PyData} (h : Dq K H v d) (q : SeqAt.shaped d = true) : d.hasDict = false := PyData.hasDict_of_canLay d (SeqAt.canLay_of_shaped q)
theorem op_eqZ (hu : X.A.units + 64 < cLine) (y : Sys X.base) : OpR X (compareOp .Eq) (fun x z H Q => ∃ d e, Dq X.K H x d ∧ Dq X.K H z e ∧ SeqAt.shaped d = true ∧ SeqAt.shaped e = true ∧ Q (.bl (PyData.eqv d e)) H) := by
  rintro pins s σ H x z v u Q J rx rz ⟨d, e, hd, he, sd, se, q⟩
  obtain ⟨as, r1, _⟩ := Dq.reads J y d x v hd rx
  obtain ⟨bs, r2, _⟩ := Dq.reads J y e z u he rz
  exact SeqAt.compareEq_shaped r1 r2 sd se hu ⟨.bl _, H, J, rfl, q⟩
theorem op_neZ (hu : X.A.units + 64 < cLine) (y : Sys X.base) : OpR X (compareOp .NotEq) (fun x z H Q => ∃ d e, Dq X.K H x d ∧ Dq X.K H z e ∧ SeqAt.shaped d = true ∧ SeqAt.shaped e = true ∧ Q (.bl (!PyData.eqv d e)) H) := by
  rintro pins s σ H x z v u Q J rx rz ⟨d, e, hd, he, sd, se, q⟩
  obtain ⟨as, r1, _⟩ := Dq.reads J y d x v hd rx
  obtain ⟨bs, r2, _⟩ := Dq.reads J y e z u he rz
  exact SeqAt.compareNe_shaped r1 r2 sd se hu ⟨.bl _, H, J, rfl, q⟩
theorem eqD_ok {H : Hp} {I : List Addr} {S : So} {x y : W} {v u : V} {b : Bool} (r : Rel G H I S) (h1 : RW G H I x v) (h2 : RW G H I y u) (e : eqD x y S = some b) :
    ∃ d e, Dq G.K H v d ∧ Dq G.K H u e ∧ SeqAt.shaped d = true ∧ SeqAt.shaped e = true ∧ b = PyData.eqv d e := by
  unfold eqD at e
  split at e
  · rename_i d1 d2 e1 e2
    split at e
    · rename_i hs
      rw [Bool.and_eq_true] at hs
      cases e
      exact ⟨d1, d2, toD_ok r h1 e1, toD_ok r h2 e2, hs.1, hs.2, rfl⟩
    · cases e
  · cases e
theorem flat_ok {H : Hp} {I : List Addr} {x : W} {v : V} (h : RW G H I x v) (f : flatW x = true) : flatV v = true := by
  cases x <;> simp only [flatW] at f <;> (try cases f) <;> (unfold RW at h; subst h; rfl)
theorem eqV_ok {H : Hp} {I : List Addr} {x y : W} {v u : V} (h1 : RW G H I x v) (h2 : RW G H I y u) (f1 : flatW x = true) (f2 : flatW y = true) : eqV v u = eqW x y := by
  cases x <;> simp only [flatW] at f1 <;> (try cases f1) <;> (unfold RW at h1; subst h1) <;>
    (cases y <;> simp only [flatW] at f2 <;> (try cases f2) <;> (unfold RW at h2; subst h2; first | rfl | (simp [eqV, eqW]; done) | skip))
theorem RWs.allFlat {H : Hp} {I : List Addr} : ∀ {ws : List W} {vs : List V}, RWs G H I ws vs → ws.all flatW = true → vs.all flatV = true
  | [], _, h, _ => by rw [h.inv0]; rfl
  | w :: ws, _, h, f => by
    obtain ⟨v, r, rfl, h1, h2⟩ := h.inv
    rw [List.all_cons, Bool.and_eq_true] at f ⊢
    exact ⟨flat_ok h1 f.1, RWs.allFlat h2 f.2⟩
theorem RWs.inV {H : Hp} {I : List Addr} {x : W} {v : V} (hx : RW G H I x v) (fx : flatW x = true) : ∀ {ws : List W} {vs : List V}, RWs G H I ws vs → ws.all flatW = true → L2.inV v vs = inW x ws
  | [], _, h, _ => by rw [h.inv0]; rfl
  | w :: ws, _, h, f => by
    obtain ⟨u, r, rfl, h1, h2⟩ := h.inv
    rw [List.all_cons, Bool.and_eq_true] at f
    have q := RWs.inV hx fx h2 f.2
    unfold L2.inV inW at q ⊢
    rw [List.any_cons, List.any_cons, q, eqV_ok h1 hx f.1 fx]
theorem isN_ok {H : Hp} {I : List Addr} {x : W} {v : V} (h : RW G H I x v) : decide (v = .non) = (match x with | .non => true | _ => false) := by
  cases x <;> unfold RW at h
  case non => subst h; rfl
  case bl => subst h; rfl
  case int => subst h; rfl
  case str => subst h; rfl
  case ty => subst h; rfl
  case tup => obtain ⟨a, vs, rfl, _⟩ := h; rfl
  case fl => obtain ⟨a, vs, rfl, _⟩ := h; rfl
  case ref => obtain ⟨a, rfl, _⟩ := h; rfl
  case glo => obtain ⟨a, rfl, _⟩ := h; rfl
theorem cmp_Z (hG : G.K = X.K) (hu : X.A.units + 64 < cLine) (ys : Sys X.base) (op : CmpOp) : OpR X (compareOp op) (rC G (cmp op)) := by
  rintro pins s σ H x y v u Q J rx ry ⟨I, S, a, b, c, r, ha, hb, e, q⟩
  unfold cmp at e
  cases op with
  | Eq =>
    have e : eqX a b S = some c := e
    unfold eqX at e
    split at e
    · cases e; unfold RW at ha hb; subst ha hb
      exact op_eq pins s σ H _ _ v u Q J rx ry ⟨rfl, by simpa using q⟩
    · cases e; unfold RW at ha hb; subst ha hb
      exact op_eq pins s σ H _ _ v u Q J rx ry ⟨rfl, by simpa using q⟩
    · obtain ⟨d1, d2, q1, q2, s1, s2, rfl⟩ := eqD_ok r ha hb e
      rw [hG] at q1 q2
      exact op_eqZ hu ys pins s σ H _ _ v u Q J rx ry ⟨d1, d2, q1, q2, s1, s2, q⟩
  | NotEq =>
    have e : (eqX a b S).map (!·) = some c := e
    obtain ⟨k, e3, rfl⟩ := Option.map_eq_some_iff.mp e
    unfold eqX at e3
    split at e3
    · cases e3; unfold RW at ha hb; subst ha hb
      exact op_ne pins s σ H _ _ v u Q J rx ry ⟨rfl, by simpa using q⟩
    · cases e3; unfold RW at ha hb; subst ha hb
      exact op_ne pins s σ H _ _ v u Q J rx ry ⟨rfl, by simpa using q⟩
    · obtain ⟨d1, d2, q1, q2, s1, s2, rfl⟩ := eqD_ok r ha hb e3
      rw [hG] at q1 q2
      exact op_neZ hu ys pins s σ H _ _ v u Q J rx ry ⟨d1, d2, q1, q2, s1, s2, q⟩
  | Lt =>
    simp only at e
    split at e
    · cases e; unfold RW at ha hb; subst ha hb
      exact op_lt pins s σ H _ _ v u Q J rx ry ⟨_, _, rfl, rfl, q⟩
    · cases e; unfold RW at ha hb; subst ha hb
      exact op_lt_str pins s σ H _ _ v u Q J rx ry ⟨_, _, rfl, rfl, q⟩
    · cases e
  | LtE =>
    simp only at e
    split at e
    · cases e; unfold RW at ha hb; subst ha hb
      exact op_le pins s σ H _ _ v u Q J rx ry ⟨_, _, rfl, rfl, q⟩
    · cases e; unfold RW at ha hb; subst ha hb
      exact op_le_str pins s σ H _ _ v u Q J rx ry ⟨_, _, rfl, rfl, q⟩
    · cases e
  | Gt =>
    simp only at e
    split at e
    · cases e; unfold RW at ha hb; subst ha hb
      exact op_gt pins s σ H _ _ v u Q J rx ry ⟨_, _, rfl, rfl, q⟩
    · cases e; unfold RW at ha hb; subst ha hb
      exact op_gt_str pins s σ H _ _ v u Q J rx ry ⟨_, _, rfl, rfl, q⟩
    · cases e
  | GtE =>
    simp only at e
    split at e
    · cases e; unfold RW at ha hb; subst ha hb
      exact op_ge pins s σ H _ _ v u Q J rx ry ⟨_, _, rfl, rfl, q⟩
    · cases e; unfold RW at ha hb; subst ha hb
      exact op_ge_str pins s σ H _ _ v u Q J rx ry ⟨_, _, rfl, rfl, q⟩
    · cases e
  | Is =>
    simp only at e
    split at e
    · unfold RW at hb; subst hb
      have h := isN_ok ha
      cases e
      refine op_isN pins s σ H _ _ v u Q J rx ry ⟨rfl, ?_⟩
      rw [h]
      cases a <;> exact q
    · cases e
  | IsNot =>
    simp only at e
    split at e
    · unfold RW at hb; subst hb
      have h := isN_ok ha
      cases e
      refine op_notN pins s σ H _ _ v u Q J rx ry ⟨rfl, ?_⟩
      rw [h]
      cases a <;> exact q
    · cases e
  | In =>
    simp only at e
    split at e
    · rename_i ws es
      split at e
      · rename_i hf
        rw [Bool.and_eq_true] at hf
        cases e
        obtain ⟨p, vs, rfl, hs, z⟩ := seq_of r hb es
        rw [hG] at hs
        exact op_in_seq pins s σ H _ _ v u Q J rx ry ⟨p, vs, rfl, hs, flat_ok ha hf.1, z.allFlat hf.2, by rw [RWs.inV ha hf.1 z hf.2]; exact q⟩
      · cases e
    · cases e
  | NotIn =>
    simp only at e
    split at e
    · rename_i ws es
      split at e
      · rename_i hf
        rw [Bool.and_eq_true] at hf
        cases e
        obtain ⟨p, vs, rfl, hs, z⟩ := seq_of r hb es
        rw [hG] at hs
        exact op_notIn_seq pins s σ H _ _ v u Q J rx ry ⟨p, vs, rfl, hs, flat_ok ha hf.1, z.allFlat hf.2, by rw [RWs.inV ha hf.1 z hf.2]; exact q⟩
      · cases e
    · cases e

/-! ### subscripts -/
theorem ixN_len {n m : Nat} {i : Int} (h : n = m) : ixN n i = ixN m i := by rw [h]
theorem RWs.atI {H : Hp} {I : List Addr} {ws : List W} {vs : List V} {i : Int} {w : W} (h : RWs G H I ws vs) (e : L2.atI ws i = some w) : ∃ v, L2.atI vs i = some v ∧ RW G H I w v := by
  unfold L2.atI at e ⊢
  rw [← h.len]
  obtain ⟨j, e1, e2⟩ := Option.bind_eq_some_iff.mp e
  obtain ⟨v, e3, q⟩ := h.get e2
  exact ⟨v, by rw [e1]; exact e3, q⟩
theorem toK_ok {H : Hp} {I : List Addr} {y : W} {u : V} {k : Key} (h : RW G H I y u) (e : toK y = some k) : u = kV k := by
  cases y <;> simp only [toK] at e <;> (try cases e) <;> (unfold RW at h; subst h; rfl)
/-- d[k] by values -/
theorem ix_dictZ (hu : X.A.units + 1 < cLine) : IxR X (fun x y H Q => ∃ a z, x = .ref a ∧ DGet H a y (some z) ∧ Q z H) := by
  rintro ve se pins s σ H x y v u Q J rx ry ⟨a, z, rfl, g, q⟩ hs
  obtain rfl : v = Value.ref a := rx
  have isd := dict_typeIs J g
  have tail : wpAny (model X.prog X.w) X.A (subscripted se false (Value.ref a) u) (fun r t => wpAny (model X.prog X.w) X.A (letTemporaryGo ve (Value.ref a) r >>= fun _ => pure r) (EP X pins σ Q) X.xe t) X.xe s := by
    rw [hs]
    refine wpAny_operating (wpAny_mono (d_getItem (Q := EP X pins σ Q) hu J g ry fun w' t It rw' => ⟨z, H, It, rw', q⟩) (fun r t ht => wpAny_bind (wpAny_letTemporaryGo (wpAny_pure ht))) fun _ _ z => z)
  unfold PyProof.Rows.subscriptTail
  refine wpAny_bind ?_
  rw [getitemInPython_of_ne isd.not_modules]
  refine wpAny_bind (wpAny_specialOf isd PySem.F.slot_dict_getitem.lookup ?_)
  first
    | exact wpAny_pure (wpAny_bind tail)
    | exact wpAny_bind (wpAny_pure (wpAny_bind tail))
    | exact wpAny_bind tail
/-- x[y] by values -/
def rIt (G : Gd) : R2 := fun x y H Q => ∃ I S u v w, Rel G H I S ∧ RW G H I u x ∧ RW G H I v y ∧ item u v S = some w ∧ (∀ z, RW G H I w z → Q z H)
theorem ix_Z (hG : G.K = X.K) (hu : X.A.units + 1 < cLine) : IxR X (rIt G) := by
  rintro ve se pins s σ H x y v u Q J rx ry ⟨I, S, a, b, w, r, ha, hb, e, q⟩ hs
  unfold item at e
  split at e
  · unfold RW at ha hb
    obtain ⟨p, vs, rfl, sq, z⟩ := ha
    subst hb
    obtain ⟨v', e1, q1⟩ := z.atI e
    exact ix_tup ve se pins s σ H _ _ v u Q J rx ry ⟨p, vs, _, v', rfl, rfl, by rw [← hG]; exact sq, e1, q _ q1⟩ hs
  · unfold RW at ha hb
    subst ha hb
    split at e
    · rename_i hz
      obtain ⟨c, e1, rfl⟩ := Option.map_eq_some_iff.mp e
      exact ix_str ve se pins s σ H _ _ v u Q J rx ry ⟨_, _, c, rfl, rfl, hz, e1, q _ (by unfold RW; rfl)⟩ hs
    · cases e
  · unfold RW at ha hb
    obtain ⟨p, vs, rfl, sq, z⟩ := ha
    subst hb
    obtain ⟨v', e1, q1⟩ := z.atI e
    exact ix_list ve se pins s σ H _ _ v u Q J rx ry ⟨p, vs, _, v', rfl, rfl, by rw [← hG]; exact sq.now, e1, q _ q1⟩ hs
  · split at e
    · rename_i xs hS
      unfold RW at ha
      obtain ⟨p, rfl, hi⟩ := ha
      obtain ⟨vs, q1, z⟩ := r.obj _ _ _ hS hi
      split at e
      · unfold RW at hb
        subst hb
        obtain ⟨v', e1, q2⟩ := z.atI e
        exact ix_list ve se pins s σ H _ _ v u Q J rx ry ⟨p, vs, _, v', rfl, rfl, .of q1, e1, q _ q2⟩ hs
      · cases e
    · rename_i xs hS
      unfold RW at ha
      obtain ⟨p, rfl, hi⟩ := ha
      obtain ⟨vs, q1, z⟩ := r.obj _ _ _ hS hi
      obtain ⟨k, e1, e2⟩ := Option.bind_eq_some_iff.mp e
      have hy := toK_ok hb e1
      subst hy
      obtain ⟨v', e3, q2⟩ := z.find k e2
      exact ix_dictZ hu ve se pins s σ H _ _ v u Q J rx ry ⟨p, v', rfl, by rw [← e3]; exact DGet.k q1, q _ q2⟩ hs
    · cases e
  · cases e
/-- x[lo:hi] by values -/
def rSlZ (G : Gd) (E : EK) : V → Option Int → Option Int → Hp → VK → Prop := fun x lo hi H Q => ∃ I S u, Rel G H I S ∧ RW G H I u x ∧ RE G E H I (kV' G Q) (slice u lo hi S)
theorem cut_whole {α : Type} {xs : List α} {lo hi : Option Int} (h : HT.sIx xs.length 0 lo = 0 ∧ HT.sIx xs.length xs.length hi = xs.length) : cutW xs lo hi = xs := by
  unfold cutW
  rw [h.1, h.2]
  simp
theorem sl_Z (hG : G.K = X.K) : SlR X (rSlZ G E) := by
  rintro pins s σ H x v vl vu lo hi sl Q J rx hs pl pu ⟨I, S, a, r, ha, h⟩
  unfold slice at h
  split at h
  · unfold RW at ha
    obtain ⟨p, vs, rfl, sq, z⟩ := ha
    refine sl_tupA pins s σ H _ v vl vu lo hi sl Q J rx hs pl pu ⟨p, vs, rfl, by rw [← hG]; exact sq, fun e => ?_, fun _ t ht => ?_⟩
    · rw [← z.len] at e
      rw [cut_whole e] at h
      exact kV_now h r (by unfold RW; exact ⟨p, vs, rfl, sq, z⟩)
    · have kn := Keep.new (o := .tup (cutV vs lo hi)) ht
      refine h _ I kn (List.prefix_refl _) (r.junk ht) _ ?_
      unfold RW
      exact ⟨t, _, rfl, .of upd_same, (z.cut lo hi).mono kn (List.prefix_refl _)⟩
  · unfold RW at ha
    subst ha
    split at h
    · rename_i hz
      exact sl_str pins s σ H _ v vl vu lo hi sl Q J rx hs pl pu ⟨_, rfl, hz, kV_now h r (by unfold RW; rfl)⟩
    · exact False.elim h
  · split at h
    · rename_i xs es
      obtain ⟨p, vs, rfl, sq, z⟩ := lst_of r ha es
      exact sl_list pins s σ H _ v vl vu lo hi sl Q J rx hs pl pu ⟨p, vs, rfl, by rw [← hG]; exact sq, new_lst r (z.cut lo hi) h⟩
    · exact False.elim h
/-- x[y] = v by values -/
theorem RKs.any {H : Hp} {I : List Addr} (k : Key) : ∀ {ws : List (Key × W)} {vs : List (Key × V)}, RKs G H I ws vs → (ws.any fun kv => decide (kv.1 = k)) = (vs.any fun kv => decide (kv.1 = k))
  | [], _, h => by subst h; rfl
  | (q, x) :: ws, _, ⟨v, r, e, h1, h2⟩ => by subst e; rw [List.any_cons, List.any_cons, RKs.any k h2]
theorem RKs.mapP {H : Hp} {I : List Addr} {k : Key} {w : W} {v : V} (h : RW G H I w v) : ∀ {ws : List (Key × W)} {vs : List (Key × V)}, RKs G H I ws vs →
    RKs G H I (ws.map fun kv => if kv.1 = k then (kv.1, w) else kv) (vs.map fun kv => if kv.1 = k then (kv.1, v) else kv)
  | [], _, h => by subst h; rfl
  | (q, x) :: ws, _, ⟨y, r, e, h1, h2⟩ => by
    subst e
    have t := RKs.mapP (k := k) h h2
    by_cases z : q = k
    · simp only [List.map_cons, z, if_true]
      exact ⟨v, _, rfl, h, t⟩
    · simp only [List.map_cons, z, if_false]
      exact ⟨y, _, rfl, h1, t⟩
theorem RKs.snoc {H : Hp} {I : List Addr} {k : Key} {w : W} {v : V} (h : RW G H I w v) : ∀ {ws : List (Key × W)} {vs : List (Key × V)}, RKs G H I ws vs → RKs G H I (ws ++ [(k, w)]) (vs ++ [(k, v)])
  | [], _, e => by subst e; exact ⟨v, [], rfl, h, rfl⟩
  | (q, x) :: ws, _, ⟨y, r, e, h1, h2⟩ => by subst e; exact ⟨y, _, rfl, h1, RKs.snoc h h2⟩
theorem RKs.put {H : Hp} {I : List Addr} {k : Key} {w : W} {v : V} {ws : List (Key × W)} {vs : List (Key × V)} (r : RKs G H I ws vs) (h : RW G H I w v) : RKs G H I (putW ws k w) (putK vs k v) := by
  unfold putW putK
  rw [r.any k]
  split
  · exact r.mapP h
  · exact r.snoc h
def rSetZ (G : Gd) : TSet := fun o i v H Q => ∃ I S uo ui uv S', Rel G H I S ∧ RW G H I uo o ∧ RW G H I ui i ∧ RW G H I uv v ∧ Z.setItem uo ui uv S = some S' ∧ (∀ H', Keep H H' → Rel G H' I S' → Q H')
theorem set_Z (hu : X.A.units + 1 < cLine) : PSet X (rSetZ G) := by
  rintro pins s σ H o i v ov iv u Q J ro ri rv ⟨I, S, a, b, c, S', r, ha, hb, hc, e, q⟩
  unfold Z.setItem at e
  split at e
  · unfold RW at ha
    obtain ⟨p, rfl, hi⟩ := ha
    split at e
    · rename_i xs hS
      obtain ⟨vs, q1, z⟩ := r.obj _ _ _ hS hi
      split at e
      · unfold RW at hb
        subst hb
        obtain ⟨k, e1, rfl⟩ := Option.map_eq_some_iff.mp e
        have kn := r.keepPut (u := .lst (vs.set k v)) hi
        exact set_list pins s σ H _ _ _ ov iv u Q J ro ri rv ⟨p, vs, _, k, rfl, rfl, q1, by rw [← z.len]; exact e1,
          q _ kn (r.put hi ⟨_, upd_same, (RWs.set hc k z).mono kn (List.prefix_refl _)⟩)⟩
      · cases e
    · rename_i xs hS
      obtain ⟨vs, q1, z⟩ := r.obj _ _ _ hS hi
      split at e
      · rename_i k ek
        split at e
        · rename_i hl
          cases e
          have hy := toK_ok hb ek
          subst hy
          have kn := r.keepPut (u := .dK (putK vs k v)) hi
          obtain rfl : ov = Value.ref p := ro
          refine d_setItem hu J (DPut.k q1 (by rw [← z.len]; exact hl)) ri rv fun s' J' => ⟨_, J', q _ kn (r.put hi ⟨_, upd_same, (z.put hc).mono kn (List.prefix_refl _)⟩)⟩
        · cases e
      · cases e
    · cases e
  · cases e
end
end Z

/-! What the built-ins and the methods answer. -/
namespace Z
open PySem PySem.Spec L2
section
variable {X : Cx} {G : Gd} {E : EK}
def rBi (G : Gd) (E : EK) (f : Str) : List V → Hp → VK → Prop := fun vs H Q => ∃ I S ws, Rel G H I S ∧ RWs G H I ws vs ∧ RE G E H I (kV' G Q) (builtin f ws S)
theorem RWs.one {H : Hp} {I : List Addr} {w : W} {vs : List V} (h : RWs G H I [w] vs) : ∃ v, vs = [v] ∧ RW G H I w v := by
  obtain ⟨v, r, rfl, h1, h2⟩ := h.inv
  rw [h2.inv0]; exact ⟨v, rfl, h1⟩
theorem RWs.two {H : Hp} {I : List Addr} {w z : W} {vs : List V} (h : RWs G H I [w, z] vs) : ∃ v u, vs = [v, u] ∧ RW G H I w v ∧ RW G H I z u := by
  obtain ⟨v, r, rfl, h1, h2⟩ := h.inv
  obtain ⟨u, rfl, h3⟩ := h2.one
  exact ⟨v, u, rfl, h1, h3⟩
theorem bi_len (hG : G.K = X.K) : CallR X (.builtin "len") (rBi G E "len") := by
  rintro pins s σ H xs us Q J r ⟨I, S, ws, rl, z, h⟩
  unfold builtin at h
  rw [if_pos rfl] at h
  split at h
  · obtain ⟨v, rfl, h1⟩ := z.one
    unfold RW at h1; subst h1
    split at h
    · rename_i hz
      exact call_len_str pins s σ H _ us Q J r ⟨_, rfl, hz, kV_now h rl (by unfold RW; rfl)⟩
    · exact False.elim h
  · obtain ⟨v, rfl, h1⟩ := z.one
    split at h
    · rename_i ys e
      obtain ⟨a, vs, rfl, sq, z2⟩ := seq_of rl h1 e
      rw [hG] at sq
      exact call_len_seq pins s σ H _ us Q J r ⟨a, vs, rfl, sq, by rw [← z2.len]; exact kV_now h rl (by unfold RW; rfl)⟩
    · exact False.elim h
  · exact False.elim h
theorem bi_int : CallR X (.type "int") (rBi G E "int") := by
  rintro pins s σ H xs us Q J r ⟨I, S, ws, rl, z, h⟩
  unfold builtin at h
  rw [if_neg (by decide), if_pos rfl] at h
  split at h
  · obtain ⟨v, rfl, h1⟩ := z.one
    unfold RW at h1; subst h1
    exact call_int1 pins s σ H _ us Q J r (.inl ⟨_, rfl, kV_now h rl (by unfold RW; rfl)⟩)
  · obtain ⟨v, rfl, h1⟩ := z.one
    unfold RW at h1; subst h1
    exact call_int1 pins s σ H _ us Q J r (.inr ⟨_, rfl, kV_now h rl (by unfold RW; rfl)⟩)
  · exact False.elim h
theorem bi_max (hc : X.calm = true) : CallR X (.builtin "max") (rBi G E "max") := by
  rintro pins s σ H xs us Q J r ⟨I, S, ws, rl, z, h⟩
  unfold builtin at h
  rw [if_neg (by decide), if_neg (by decide), if_pos rfl] at h
  split at h
  · obtain ⟨v, u, rfl, h1, h2⟩ := z.two
    unfold RW at h1 h2; subst h1 h2
    exact call_max2 hc pins s σ H _ us Q J r ⟨_, _, rfl, kV_now h rl (by unfold RW; rfl)⟩
  · exact False.elim h
theorem bi_min (hc : X.calm = true) : CallR X (.builtin "min") (rBi G E "min") := by
  rintro pins s σ H xs us Q J r ⟨I, S, ws, rl, z, h⟩
  unfold builtin at h
  rw [if_neg (by decide), if_neg (by decide), if_neg (by decide), if_pos rfl] at h
  split at h
  · obtain ⟨v, u, rfl, h1, h2⟩ := z.two
    unfold RW at h1 h2; subst h1 h2
    exact call_min2 hc pins s σ H _ us Q J r ⟨_, _, rfl, kV_now h rl (by unfold RW; rfl)⟩
  · exact False.elim h
theorem bi_tuple (hG : G.K = X.K) : CallR X (.type "tuple") (rBi G E "tuple") := by
  rintro pins s σ H xs us Q J r ⟨I, S, ws, rl, z, h⟩
  unfold builtin at h
  rw [if_neg (by decide), if_neg (by decide), if_neg (by decide), if_neg (by decide), if_pos rfl] at h
  split at h
  · obtain ⟨v, rfl, h1⟩ := z.one
    have h2 := h1
    unfold RW at h1
    obtain ⟨a, vs, rfl, sq, _⟩ := h1
    rw [hG] at sq
    exact call_tuple_of pins s σ H _ us Q J r ⟨a, vs, rfl, .inr ⟨sq, kV_now h rl h2⟩⟩
  · obtain ⟨v, rfl, h1⟩ := z.one
    split at h
    · rename_i ys e
      obtain ⟨a, vs, rfl, sq, z2⟩ := lst_of rl h1 e
      rw [hG] at sq
      refine call_tuple_of pins s σ H _ us Q J r ⟨a, vs, rfl, .inl ⟨sq, fun t ht => ?_⟩⟩
      have kn := Keep.new (o := .tup vs) ht
      refine h _ I kn (List.prefix_refl _) (rl.junk ht) _ ?_
      unfold RW
      exact ⟨t, _, rfl, .of upd_same, z2.mono kn (List.prefix_refl _)⟩
    · exact False.elim h
  · exact False.elim h
theorem bi_list (hG : G.K = X.K) : CallR X (.type "list") (rBi G E "list") := by
  rintro pins s σ H xs us Q J r ⟨I, S, ws, rl, z, h⟩
  unfold builtin at h
  rw [if_neg (by decide), if_neg (by decide), if_neg (by decide), if_neg (by decide), if_neg (by decide), if_pos rfl] at h
  split at h
  · obtain ⟨v, rfl, h1⟩ := z.one
    split at h
    · rename_i ys e
      obtain ⟨a, vs, rfl, sq, z2⟩ := seq_of rl h1 e
      rw [hG] at sq
      exact call_list_of pins s σ H _ us Q J r ⟨a, vs, rfl, sq, new_lst rl z2 h⟩
    · exact False.elim h
  · exact False.elim h
theorem bls_ok {H : Hp} {I : List Addr} : ∀ {ws : List W} {vs : List V} {bs : List Bool}, RWs G H I ws vs → blsOf ws = some bs → vs = bs.map V.bl
  | [], _, _, h, e => by rw [h.inv0]; unfold blsOf at e; cases e; rfl
  | .bl x :: ws, _, _, h, e => by
    obtain ⟨v, r, rfl, h1, h2⟩ := h.inv
    unfold blsOf at e
    obtain ⟨bs, e1, rfl⟩ := Option.map_eq_some_iff.mp e
    unfold RW at h1; subst h1
    rw [bls_ok h2 e1]; rfl
  | .non :: _, _, _, _, e => by unfold blsOf at e; cases e
  | .int _ :: _, _, _, _, e => by unfold blsOf at e; cases e
  | .str _ :: _, _, _, _, e => by unfold blsOf at e; cases e
  | .ty _ :: _, _, _, _, e => by unfold blsOf at e; cases e
  | .tup _ :: _, _, _, _, e => by unfold blsOf at e; cases e
  | .fl _ :: _, _, _, _, e => by unfold blsOf at e; cases e
  | .ref _ :: _, _, _, _, e => by unfold blsOf at e; cases e
  | .glo _ :: _, _, _, _, e => by unfold blsOf at e; cases e
theorem strs_ok {H : Hp} {I : List Addr} : ∀ {ws : List W} {vs : List V} {bs : List Str}, RWs G H I ws vs → strsOf ws = some bs → vs = bs.map V.str
  | [], _, _, h, e => by rw [h.inv0]; unfold strsOf at e; cases e; rfl
  | .str x :: ws, _, _, h, e => by
    obtain ⟨v, r, rfl, h1, h2⟩ := h.inv
    unfold strsOf at e
    obtain ⟨bs, e1, rfl⟩ := Option.map_eq_some_iff.mp e
    unfold RW at h1; subst h1
    rw [strs_ok h2 e1]; rfl
  | .non :: _, _, _, _, e => by unfold strsOf at e; cases e
  | .int _ :: _, _, _, _, e => by unfold strsOf at e; cases e
  | .bl _ :: _, _, _, _, e => by unfold strsOf at e; cases e
  | .ty _ :: _, _, _, _, e => by unfold strsOf at e; cases e
  | .tup _ :: _, _, _, _, e => by unfold strsOf at e; cases e
  | .fl _ :: _, _, _, _, e => by unfold strsOf at e; cases e
  | .ref _ :: _, _, _, _, e => by unfold strsOf at e; cases e
  | .glo _ :: _, _, _, _, e => by unfold strsOf at e; cases e
theorem bi_all (hG : G.K = X.K) (hc : X.calm = true) : CallR X (.builtin "all") (rBi G E "all") := by
  rintro pins s σ H xs us Q J r ⟨I, S, ws, rl, z, h⟩
  unfold builtin at h
  rw [if_neg (by decide), if_neg (by decide), if_neg (by decide), if_neg (by decide), if_neg (by decide), if_neg (by decide), if_pos rfl] at h
  split at h
  · obtain ⟨v, rfl, h1⟩ := z.one
    split at h
    · rename_i bs e
      obtain ⟨ys, e1, e2⟩ := Option.bind_eq_some_iff.mp e
      obtain ⟨a, vs, rfl, sq, z2⟩ := lst_of rl h1 e1
      rw [hG, bls_ok z2 e2] at sq
      exact cr_all hc pins s σ H _ us Q J r ⟨a, bs, rfl, sq, kV_now h rl (by unfold RW; rfl)⟩
    · exact False.elim h
  · exact False.elim h
theorem bi_any (hG : G.K = X.K) (hc : X.calm = true) : CallR X (.builtin "any") (rBi G E "any") := by
  rintro pins s σ H xs us Q J r ⟨I, S, ws, rl, z, h⟩
  unfold builtin at h
  rw [if_neg (by decide), if_neg (by decide), if_neg (by decide), if_neg (by decide), if_neg (by decide), if_neg (by decide), if_neg (by decide), if_pos rfl] at h
  split at h
  · obtain ⟨v, rfl, h1⟩ := z.one
    split at h
    · rename_i bs e
      obtain ⟨ys, e1, e2⟩ := Option.bind_eq_some_iff.mp e
      obtain ⟨a, vs, rfl, sq, z2⟩ := lst_of rl h1 e1
      rw [hG, bls_ok z2 e2] at sq
      exact cr_any hc pins s σ H _ us Q J r ⟨a, bs, rfl, sq, kV_now h rl (by unfold RW; rfl)⟩
    · exact False.elim h
  · exact False.elim h
theorem SqF.isList {pins : List (Addr × Obj)} {σ : L2.St} {H : Hp} {s : Shared} {a : Addr} {xs : List V} (J : Inv X pins σ H s) (h : SqL X.K H a xs) : TyX X.K H (.ref a) (.type "list") := by
  rcases h with (h | ⟨o, h⟩) | ⟨o, its, n, e, c, _⟩
  · exact .base (.lst h)
  · exact .base (.frz h)
  · exact .kList e c
theorem SqT.isTup {H : Hp} {a : Addr} {xs : List V} (h : SqT X.K H a xs) : TyX X.K H (.ref a) (.type "tuple") := by
  rcases h with (h | ⟨o, h⟩) | ⟨o, its, n, e, c, _⟩
  · exact .base (.tup h)
  · exact .fTuple h
  · exact .kTuple e c
theorem ty_ok (hG : G.K = X.K) {pins : List (Addr × Obj)} {σ : L2.St} {H : Hp} {s : Shared} {I : List Addr} {S : So} {x : W} {v : V} {n : String} (J : Inv X pins σ H s) (r : Rel G H I S) (h : RW G H I x v) (e : tyOf x S = some n) : TyX X.K H v (.type n) := by
  unfold tyOf at e
  split at e
  · unfold RW at h; subst h; cases e; exact .base .non
  · unfold RW at h; subst h; cases e; exact .base (.bl _)
  · unfold RW at h; subst h; cases e; exact .base (.int _)
  · unfold RW at h; subst h; cases e; exact .base (.str _)
  · unfold RW at h; obtain ⟨a, vs, rfl, sq, _⟩ := h; cases e; rw [hG] at sq; exact SqT.isTup sq
  · unfold RW at h; obtain ⟨a, vs, rfl, sq, _⟩ := h; cases e
    have q := sq.now
    rw [hG] at q
    exact SqF.isList J q
  · unfold RW at h; obtain ⟨a, rfl, hi⟩ := h
    split at e
    · rename_i hS
      obtain ⟨vs, q, _⟩ := r.obj _ _ _ hS hi
      cases e; exact .base (.lst q)
    · rename_i hS
      obtain ⟨vs, q, _⟩ := r.obj _ _ _ hS hi
      cases e; exact .base (.dK q)
    · cases e
  · cases e
theorem bi_isi (hG : G.K = X.K) : CallR X (.builtin "isinstance") (rBi G E "isinstance") := by
  rintro pins s σ H xs us Q J r ⟨I, S, ws, rl, z, h⟩
  unfold builtin at h
  rw [if_neg (by decide), if_neg (by decide), if_neg (by decide), if_neg (by decide), if_neg (by decide), if_neg (by decide), if_neg (by decide), if_neg (by decide), if_pos rfl] at h
  split at h
  · obtain ⟨v, u, rfl, h1, h2⟩ := z.two
    unfold RW at h2; subst h2
    split at h
    · rename_i t et
      split at h
      · rename_i b eb
        exact call_isi pins s σ H _ us Q J r ⟨v, .ty _, .type t, .type _, b, rfl, .ty _, ty_ok hG J rl h1 et, kit_ty eb, kV_now h rl (by unfold RW; rfl)⟩
      · exact False.elim h
    · exact False.elim h
  · exact False.elim h
theorem bi_repr (hG : G.K = X.K) (hg : X.A.guards = some []) (hu : X.A.units + 200 < cLine) (y : Sys X.base) : CallR X (.builtin "repr") (rBi G E "repr") := by
  rintro pins s σ H xs us Q J r ⟨I, S, ws, rl, z, h⟩
  unfold builtin at h
  rw [if_neg (by decide), if_neg (by decide), if_neg (by decide), if_neg (by decide), if_neg (by decide), if_neg (by decide), if_neg (by decide), if_neg (by decide), if_neg (by decide), if_pos rfl] at h
  split at h
  · obtain ⟨v, rfl, h1⟩ := z.one
    split at h
    · rename_i d ed
      split at h
      · rename_i hc
        simp only [Bool.and_eq_true, decide_eq_true_eq] at hc
        have q := toD_ok rl h1 ed
        rw [hG] at q
        exact call_reprD hg hu y pins s σ H _ us Q J r ⟨v, d, rfl, q, hc.1.1, hc.1.2, hc.2, kV_now h rl (by unfold RW; rfl)⟩
      · exact False.elim h
    · exact False.elim h
  · exact False.elim h

/-! ### methods -/
def rMt (G : Gd) (E : EK) (m : Str) : V → List V → Hp → VK → Prop := fun x vs H Q => ∃ I S w ws, Rel G H I S ∧ RW G H I w x ∧ RWs G H I ws vs ∧ RE G E H I (kV' G Q) (method w m ws S)
theorem mz_append : MtR X "list.append" (rMt G E "append") := by
  rintro pins s σ H x xs v us Q J rx rs ⟨I, S, w, ws, rl, hx, z, h⟩
  unfold method at h
  rw [if_pos rfl] at h
  split at h
  · obtain ⟨y, rfl, h1⟩ := z.one
    unfold RW at hx
    obtain ⟨a, rfl, hi⟩ := hx
    split at h
    · rename_i ys hS
      obtain ⟨vs, q, z2⟩ := rl.obj _ _ _ hS hi
      split at h
      · rename_i hl
        have kn := rl.keepPut (u := .lst (vs ++ [y])) hi
        refine mt_append pins s σ H _ _ v us Q J rx rs ⟨a, vs, y, rfl, rfl, q, by rw [← z2.len]; exact hl, ?_⟩
        exact h _ I kn (List.prefix_refl _) (rl.put hi ⟨_, upd_same, (z2.append (.cons h1 .nil)).mono kn (List.prefix_refl _)⟩) _ (by unfold RW; rfl)
      · exact False.elim h
    · exact False.elim h
  · exact False.elim h
theorem mz_join (hG : G.K = X.K) : MtR X "str.join" (rMt G E "join") := by
  rintro pins s σ H x xs v us Q J rx rs ⟨I, S, w, ws, rl, hx, z, h⟩
  unfold method at h
  rw [if_neg (by decide), if_pos rfl] at h
  split at h
  · obtain ⟨y, rfl, h1⟩ := z.one
    unfold RW at hx; subst hx
    split at h
    · rename_i ys e
      obtain ⟨ks, e1, e2⟩ := Option.bind_eq_some_iff.mp e
      obtain ⟨a, vs, rfl, sq, z2⟩ := seq_of rl h1 e1
      rw [hG, strs_ok z2 e2] at sq
      split at h
      · rename_i hl
        exact mt_join pins s σ H _ _ v us Q J rx rs ⟨_, a, ys, rfl, rfl, sq, hl, kV_now h rl (by unfold RW; rfl)⟩
      · exact False.elim h
    · exact False.elim h
  · exact False.elim h
theorem RWs.strs {H : Hp} {I : List Addr} : ∀ ys : List Str, RWs G H I (ys.map W.str) (ys.map V.str)
  | [] => .nil
  | y :: ys => .cons (by unfold RW; rfl) (RWs.strs ys)
theorem mz_split : MtR X "str.split" (rMt G E "split") := by
  rintro pins s σ H x xs v us Q J rx rs ⟨I, S, w, ws, rl, hx, z, h⟩
  unfold method at h
  rw [if_neg (by decide), if_neg (by decide), if_pos rfl] at h
  split at h
  · obtain ⟨y, rfl, h1⟩ := z.one
    unfold RW at hx h1; subst hx h1
    split at h
    · rename_i hl
      exact mt_split pins s σ H _ _ v us Q J rx rs ⟨_, _, rfl, rfl, hl.1, hl.2, new_lst rl (RWs.strs _) h⟩
    · exact False.elim h
  · exact False.elim h
theorem mz_partition : MtR X "str.partition" (rMt G E "partition") := by
  rintro pins s σ H x xs v us Q J rx rs ⟨I, S, w, ws, rl, hx, z, h⟩
  unfold method at h
  rw [if_neg (by decide), if_neg (by decide), if_neg (by decide), if_pos rfl] at h
  split at h
  · obtain ⟨y, rfl, h1⟩ := z.one
    unfold RW at hx h1; subst hx h1
    split at h
    · rename_i hl
      refine mt_partition pins s σ H _ _ v us Q J rx rs ⟨_, _, rfl, rfl, hl.1, hl.2, fun t ht => ?_⟩
      refine h _ I (Keep.new ht) (List.prefix_refl _) (rl.junk ht) _ ?_
      unfold RW
      exact ⟨t, _, rfl, .of upd_same, .cons (by unfold RW; rfl) (.cons (by unfold RW; rfl) (.cons (by unfold RW; rfl) .nil))⟩
    · exact False.elim h
  · exact False.elim h
end
end Z

/-! Where one stands, calls, arguments. -/
namespace Z
open PySem PySem.Spec L2
/-- the fields of an error -/
def RF (G : Gd) (H : Hp) (I : List Addr) : List (Str × W) → List (Str × V) → Prop
  | [], ys => ys = []
  | (k, w) :: r, ys => ∃ v q, ys = (k, v) :: q ∧ RW G H I w v ∧ RF G H I r q
/-- the layer's wish of an error, as ours -/
def EKof (G : Gd) (E : XK) : EK := fun x H I => ∃ C, G.mg x.cls = some (.ref C) ∧ ∀ d vs, H d = some (.xd vs) → RF G H I x.fs vs → E (.ref C) (some d) H
/-- a def keeps its promise, where no repr runs -/
structure FnG (P : Program) (w : World) (K : PySem.W.Frag) (mg : Str → Option Value) (base : Heap) (CX : CXT) (k : Nat) (f : Addr) (fd : FuncData) (ps : List Str) (sp : Sp) : Prop where
  len : ∀ vs H Q E, sp vs H Q E → vs.length = ps.length
  run : ∀ (A : Around) (outer : List Env) (s : Shared) (H : Hp) (args : Args) (us : List Value) (vs : List V) (Q : VK) (E : XK), Room k A → A.guards = some [] → Env0 P w K mg base A outer s H → BindsTo s fd args (ps.zip us) → Vals vs us → sp vs H Q E →
    codeAny (model P w) A (.call (.ref f) args) (CR CX outer P w H s Q E) s
theorem FnG.mono {P : Program} {w : World} {K : PySem.W.Frag} {mg : Str → Option Value} {base : Heap} {CX : CXT} {j k : Nat} {f : Addr} {fd : FuncData} {ps : List Str} {sp : Sp} (F : FnG P w K mg base CX j f fd ps sp) (h : j ≤ k) : FnG P w K mg base CX k f fd ps sp :=
  ⟨F.len, fun A outer s H args us vs Q E hr => F.run A outer s H args us vs Q E (hr.mono h)⟩
def spZ (G : Gd) (call : Cf) (f : Str) (n : Nat) : Sp := fun vs H Q E => ∃ I S ws, Rel G H I S ∧ RWs G H I ws vs ∧ ws.length = n ∧ RE G (EKof G E) H I (kV' G Q) (call f ws S)
/-- a def of the table as it stands behind the top -/
structure CalF (K : PySem.W.Frag) (mg : Str → Option Value) (f : Str) (fi : Fi) (fa : Addr) (fd : FuncData) : Prop where
  mg : mg f = some (.ref fa)
  kp : PySem.W.keepIn K (.ref fa) = true
  bind : ∀ us : List Value, us.length = fi.ps.length → bindArgs fd ⟨us, []⟩ = pure (fi.ps.zip us)
  kws : ∀ (n : Nat) (ks : List Str), (n, ks) ∈ fi.kws → n + ks.length = fi.ps.length ∧ ∀ us ws : List Value, us.length = n → ws.length = ks.length → (ordK fi.ps ks us ws).length = fi.ps.length ∧ bindArgs fd ⟨us, ks.zip ws⟩ = pure (fi.ps.zip (ordK fi.ps ks us ws))
/-- the module's values: a thing of the written part, or a built-in type -/
def GOk (K : PySem.W.Frag) (mg : Str → Option Value) (P : Pg) : Prop := ∀ x w, P.G x = some w →
  (∃ u v, mg x = some u ∧ RelV v u ∧ ∀ H I, RW ⟨K, mg⟩ H I w v) ∨ (∃ n, w = .ty n ∧ mg x = none ∧ bootBuiltins x = some (.type n))
/-- where one stands -/
structure Cz (P : Pg) (call : Cf) (CX : CXT) (k : Nat) (sx : Sx) (G : Gd) (E : XK) (X : Cx) : Prop where
  hN : X.N = sx.N
  nd : sx.N.Nodup
  sc : X.env.scope = sx.sc
  kind : X.env.scope.kind = .function
  K : G.K = X.K
  mg : G.mg = X.mg
  calm : X.calm = true
  room : Room k X.A
  grd : X.A.guards = some []
  sys : Sys X.base
  fn : ∀ x, sx.fn x = true → X.fn x = true
  glb : GOk X.K X.mg P
  bi : ∀ x ∈ ("range" : Str) :: builtins, P.F x = none → X.mg x = none
  cal : ∀ f fi, P.F f = some fi → ∃ fa fd, CalF X.K X.mg f fi fa fd ∧ FnG X.prog X.w X.K X.mg X.base CX k fa fd fi.ps (spZ G call f fi.ps.length)
  px : Passes CX X E
  p0 : ∀ (outer : List Env) (H : Hp) (s : Shared) (e : Value) (s' : Shared), CX outer H s (fun _ _ _ => False) e s' → False

/-! ### readings -/
def tE (G : Gd) (E : EK) (r : En → So → Res W) : TE := fun σ H Q => ∃ I S e, Rel G H I S ∧ RS G H I e σ ∧ RE G E H I (kV' G Q) (r e S)
def tAs (G : Gd) (E : EK) (r : En → So → Res (List W)) : TA := fun σ H Q => ∃ I S e, Rel G H I S ∧ RS G H I e σ ∧ RE G E H I (kVs G Q) (r e S)
def tT (G : Gd) (E : EK) (r : En → So → Res Bool) : TT := fun σ H Q => ∃ I S e, Rel G H I S ∧ RS G H I e σ ∧ RE G E H I (kB Q) (r e S)
theorem _root_.L2.PE.of {X : Cx} {e : Expr} {t t' : TE} (h : PE X e t) (w : ∀ σ H Q, t' σ H Q → t σ H Q) : PE X e t' := ⟨fun pins s σ H Q J q => h.run pins s σ H Q J (w _ _ _ q)⟩
theorem _root_.L2.PT.of {X : Cx} {e : Expr} {t t' : TT} (h : PT X e t) (w : ∀ σ H Q, t' σ H Q → t σ H Q) : PT X e t' := ⟨fun pins s σ H Q J q => h.run pins s σ H Q J (w _ _ _ q)⟩
theorem _root_.L2.PA.of {X : Cx} {e : List Expr} {t t' : TA} (h : PA X e t) (w : ∀ σ H Q, t' σ H Q → t σ H Q) : PA X e t' := ⟨fun pos pins s σ H Q J q => h.run pos pins s σ H Q J (w _ _ _ q)⟩
/-- a rule chosen by the reading -/
theorem _root_.L2.PE.by {X : Cx} {e : Expr} {t : TE} (h : ∀ σ H Q, t σ H Q → ∃ t', PE X e t' ∧ t' σ H Q) : PE X e t := ⟨fun pins s σ H Q J q => by
  obtain ⟨t', p, q'⟩ := h _ _ _ q
  exact p.run pins s σ H Q J q'⟩
theorem _root_.L2.PE.never {X : Cx} {e : Expr} {t : TE} (h : ∀ σ H Q, t σ H Q → False) : PE X e t := ⟨fun _ _ σ H Q _ q => (h σ H Q q).elim⟩
section
variable {G : Gd} {E : EK} {σ : L2.St} {H : Hp}
/-- the first of two steps -/
theorem tE.step {α : Type} {k : AK α} {I : List Addr} {S : So} {e : En} {r : En → So → Res W} {f : W → So → Res α} {Q : VK} (rl : Rel G H I S) (rs : RS G H I e σ) (h : RE G E H I k ((r e S).bind f))
    (c : ∀ w S' H' I' v, Keep H H' → I <+: I' → Rel G H' I' S' → RW G H' I' w v → RE G E H' I' k (f w S') → Q v H') : tE G E r σ H Q :=
  ⟨I, S, e, rl, rs, (RE.bind h).imp fun w S' H' I' k2 p2 r2 q v hv => c w S' H' I' v k2 p2 r2 hv q⟩
theorem tAs.step {α : Type} {k : AK α} {I : List Addr} {S : So} {e : En} {r : En → So → Res (List W)} {f : List W → So → Res α} {Q : List V → Hp → Prop} (rl : Rel G H I S) (rs : RS G H I e σ) (h : RE G E H I k ((r e S).bind f))
    (c : ∀ w S' H' I' v, Keep H H' → I <+: I' → Rel G H' I' S' → RWs G H' I' w v → RE G E H' I' k (f w S') → Q v H') : tAs G E r σ H Q :=
  ⟨I, S, e, rl, rs, (RE.bind h).imp fun w S' H' I' k2 p2 r2 q v hv => c w S' H' I' v k2 p2 r2 hv q⟩
theorem tT.step {α : Type} {k : AK α} {I : List Addr} {S : So} {e : En} {r : En → So → Res Bool} {f : Bool → So → Res α} {Q : Bool → Hp → Prop} (rl : Rel G H I S) (rs : RS G H I e σ) (h : RE G E H I k ((r e S).bind f))
    (c : ∀ w S' H' I', Keep H H' → I <+: I' → Rel G H' I' S' → RE G E H' I' k (f w S') → Q w H') : tT G E r σ H Q :=
  ⟨I, S, e, rl, rs, (RE.bind h).imp fun w S' H' I' k2 p2 r2 q => c w S' H' I' k2 p2 r2 q⟩
end
/-! ### arguments -/
theorem starE {e : Expr} {es : List Expr} {env : Env} (h : isStar e = false) : starEach (e :: es) env = (false, eval e env) :: starEach es env := by
  cases e <;> first | rfl | cases h
theorem plainS {pos : Pos} {env : Env} : ∀ {es : List Expr}, es.all (fun e => !isStar e) = true → (backTo pos (starEach es env)).any (·.1) = false
  | [], _ => rfl
  | e :: es, h => by
    rw [List.all_cons, Bool.and_eq_true] at h
    rw [starE (by simpa using h.1)]
    show (false || (backTo pos (starEach es env)).any (·.1)) = false
    rw [plainS h.2]; rfl
section
variable {X : Cx} {G : Gd} {E : EK} {f : Expr → En → So → Res W}
theorem pa_Z (hf : ∀ x, PE X x (tE G E (f x))) (hs : ∀ x e S, isStar x = true → f x e S = .bad) : ∀ es : List Expr, PA X es (tAs G E fun e S => evL (fun x => f x e) es S)
  | [] => pa_nil.of fun σ H Q ⟨I, S, e, rl, rs, h⟩ => RE.now (k := kVs G Q) h rl [] .nil
  | x :: es => by
    by_cases hx : isStar x = true
    · refine ⟨fun pos pins s σ H Q J ⟨I, S, e, rl, rs, h⟩ => ?_⟩
      have h2 : RE G E H I (kVs G Q) ((f x e S).bind fun w S1 => (evL (fun x => f x e) es S1).bind fun ws S2 => .ok (w :: ws) S2) := h
      rw [hs x e S hx] at h2
      exact False.elim h2
    · have hx' : isStar x = false := by simpa using hx
      refine (pa_cons (hf x) (pa_Z hf hs es) (starE hx')).of fun σ H Q ⟨I, S, e, rl, rs, h⟩ => ?_
      unfold evL at h
      refine tE.step rl rs h fun w S1 H1 I1 v k1 p1 rl1 hv h1 => ?_
      refine tAs.step (S := S1) rl1 (rs.mono k1 p1) h1 fun ws S2 H2 I2 vs k2 p2 rl2 hvs h2 => ?_
      exact RE.now (k := kVs G Q) h2 rl2 (v :: vs) (.cons (hv.mono k2 p2) hvs)
theorem pk_Z (hf : ∀ x, PE X x (tE G E (f x))) : ∀ es : List Keyword, PK X es (tAs G E fun e S => evK (fun x => f x e) es S)
  | [] => ⟨fun pos pins s σ H Q J ⟨I, S, e, rl, rs, h⟩ => pk_nil.run pos pins s σ H Q J (RE.now (k := kVs G Q) h rl [] .nil)⟩
  | ⟨nm, x, kp⟩ :: es => ⟨fun pos pins s σ H Q J ⟨I, S, e, rl, rs, h⟩ => by
      refine (pk_cons (nm := nm) (kpos := kp) (hf x) (pk_Z hf es)).run pos pins s σ H Q J ?_
      unfold evK at h
      refine tE.step rl rs h fun w S1 H1 I1 v k1 p1 rl1 hv h1 => ?_
      refine tAs.step (S := S1) rl1 (rs.mono k1 p1) h1 fun ws S2 H2 I2 vs k2 p2 rl2 hvs h2 => ?_
      exact RE.now (k := kVs G Q) h2 rl2 (v :: vs) (.cons (hv.mono k2 p2) hvs)⟩
theorem evL_len : ∀ {es : List Expr} {g : Expr → So → Res W} {S S' : So} {ws : List W}, evL g es S = .ok ws S' → ws.length = es.length
  | [], g, S, S', ws, h => by unfold evL at h; cases h; rfl
  | x :: es, g, S, S', ws, h => by
    unfold evL at h
    cases q : g x S with
    | ok w S1 =>
      rw [q] at h
      cases q2 : evL g es S1 with
      | ok r S2 =>
        simp only [Res.bind, q2] at h
        cases h
        simp [evL_len q2]
      | exn _ _ => simp only [Res.bind, q2] at h; cases h
      | bad => simp only [Res.bind, q2] at h; cases h
    | exn _ _ => rw [q] at h; cases h
    | bad => rw [q] at h; cases h
end
/-! ### the order of keyword arguments -/
section
variable {α β : Type} {R : α → β → Prop}
theorem look_zip : ∀ {ks : List Str} {ws : List α} {us : List β} (p : Str), Paired R ws us → (∃ w u, (ks.zip ws).lookup p = some w ∧ (ks.zip us).lookup p = some u ∧ R w u) ∨ ((ks.zip ws).lookup p = none ∧ (ks.zip us).lookup p = none)
  | [], _, _, _, _ => .inr ⟨rfl, rfl⟩
  | k :: ks, _, _, p, .nil => .inr ⟨rfl, rfl⟩
  | k :: ks, _, _, p, .cons (a := a) (b := b) h t => by
    simp only [List.zip_cons_cons, List.lookup_cons]
    cases e : p == k with
    | true => exact .inl ⟨a, b, rfl, rfl, h⟩
    | false => exact look_zip p t
theorem Paired.app : ∀ {a c : List α} {b d : List β}, Paired R a b → Paired R c d → Paired R (a ++ c) (b ++ d)
  | _, _, _, _, .nil, q => q
  | _, _, _, _, .cons h t, q => .cons h (Paired.app t q)
theorem ord_pair {ps ks : List Str} {us ws : List α} {vs zs : List β} (a : Paired R us vs) (b : Paired R ws zs) : Paired R (ordK ps ks us ws) (ordK ps ks vs zs) := by
  unfold ordK
  have hl : us.length = vs.length := Paired.length a
  rw [hl]
  refine Paired.app a ?_
  induction ps.drop vs.length with
  | nil => exact .nil
  | cons p r ih =>
    rcases look_zip (ks := ks) p b with ⟨w, u, e1, e2, h⟩ | ⟨e1, e2⟩
    · rw [List.filterMap_cons, List.filterMap_cons, e1, e2]; exact .cons h ih
    · rw [List.filterMap_cons, List.filterMap_cons, e1, e2]; exact ih
end
theorem RWs.paired {G : Gd} {H : Hp} {I : List Addr} : ∀ {ws : List W} {vs : List V}, RWs G H I ws vs → Paired (RW G H I) ws vs
  | [], _, h => by rw [h.inv0]; exact .nil
  | w :: ws, _, h => by
    obtain ⟨v, r, rfl, h1, h2⟩ := h.inv
    exact .cons h1 (RWs.paired h2)
theorem RWs.ofP {G : Gd} {H : Hp} {I : List Addr} : ∀ {ws : List W} {vs : List V}, Paired (RW G H I) ws vs → RWs G H I ws vs
  | _, _, .nil => .nil
  | _, _, .cons h t => .cons h (RWs.ofP t)
end Z

/-! Calls. -/
namespace Z
open PySem PySem.Spec L2
section
variable {P : Pg} {call : Cf} {CX : CXT} {k : Nat} {sx : Sx} {G : Gd} {E : XK} {X : Cx}
theorem Cz.gl (C : Cz P call CX k sx G E X) {x : Str} (h : sx.sc.names.lookup x = some .globalImplicit) : Gl X x := by
  show X.env.scope.names.lookup x = _
  rw [C.sc]; exact h
theorem okN_d {x : Str} (h : okN x = true) : (x == ("__debug__" : Str)) = false ∧ (x == ("__classdict__" : Str)) = false ∧ x ≠ "__name__" := by
  unfold okN at h
  simp only [Bool.and_eq_true, Bool.not_eq_true', decide_eq_false_iff_not] at h
  exact ⟨h.1.1, h.1.2, h.2⟩
theorem run_own (C : Cz P call CX k sx G E X) {fa : Addr} {fd : FuncData} {ps : List Str} {sp : Sp} (F : FnG X.prog X.w X.K X.mg X.base CX k fa fd ps sp) {pins : List (Addr × Obj)} {σ : L2.St} {H : Hp} {s : Shared} {Q : VK} {us us' : List Value} {kw : List (Str × Value)} {vs : List V}
    (J : Inv X pins σ H s) (bt : BindsTo s fd ⟨us, kw⟩ (ps.zip us')) (r : Vals vs us') (h : sp vs H Q E) : wpAny (model X.prog X.w) X.A (PySem.call (.ref fa) us kw) (EP X pins σ Q) X.xe s := by
  refine wpAny_call (codeAny_mono (F.run X.A X.stack s H ⟨us, kw⟩ us' vs Q E C.room C.grd J.env0 bt r h) fun res t hq => ?_)
  cases res with
  | error e => exact C.px pins σ H s e t J hq
  | ok fl =>
    cases fl with
    | ret u => exact J.after hq
    | next => exact False.elim hq
    | brk => exact False.elim hq
    | cont => exact False.elim hq
theorem kw_names : ∀ {kws : List Keyword} {pos : Pos} {env : Env}, (kws.map (·.arg)).all (·.isSome) = true → (backToKw pos (keywordEach kws env)).all (·.1.isSome) = true ∧ (backToKw pos (keywordEach kws env)).any (·.1.isNone) = false ∧
    (backToKw pos (keywordEach kws env)).filterMap (·.1) = (kws.map (·.arg)).filterMap id
  | [], _, _, _ => ⟨rfl, rfl, rfl⟩
  | ⟨nm, x, kp⟩ :: r, pos, env, h => by
    simp only [List.map_cons, List.all_cons, Bool.and_eq_true] at h
    obtain ⟨a, b, c⟩ := kw_names (kws := r) (pos := pos) (env := env) h.2
    cases nm with
    | none => cases h.1
    | some y =>
      refine ⟨?_, ?_, ?_⟩
      · show ((some y).isSome && (backToKw pos (keywordEach r env)).all (·.1.isSome)) = true
        rw [a]; rfl
      · show ((some y).isNone || (backToKw pos (keywordEach r env)).any (·.1.isNone)) = false
        rw [b]; rfl
      · show y :: (backToKw pos (keywordEach r env)).filterMap (·.1) = _
        rw [c]; rfl
theorem fin0 (C : Cz P call CX k sx G E X) {f : Str} {fi : Fi} {sp : Sp} {fa : Addr} {fd : FuncData} (cf : CalF X.K X.mg f fi fa fd) (F : FnG X.prog X.w X.K X.mg X.base CX k fa fd fi.ps sp) {pins : List (Addr × Obj)} {σ : L2.St} {H : Hp} {s : Shared} {Q : VK} {us : List Value} {vs : List V}
    (J : Inv X pins σ H s) (r : Vals vs us) (hl : vs.length = fi.ps.length) (q : sp vs H Q E) : wpAny (model X.prog X.w) X.A (PySem.call (.ref fa) us []) (EP X pins σ Q) X.xe s :=
  run_own C F J (.of_eq (cf.bind us (by rw [← r.length]; exact hl))) r q
theorem fin1 (C : Cz P call CX k sx G E X) {f : Str} {fi : Fi} {sp : Sp} {fa : Addr} {fd : FuncData} (cf : CalF X.K X.mg f fi fa fd) (F : FnG X.prog X.w X.K X.mg X.base CX k fa fd fi.ps sp) {pins : List (Addr × Obj)} {σ : L2.St} {H : Hp} {s : Shared} {Q : VK} {us ws : List Value} {vs zs : List V} {ks : List Str}
    (J : Inv X pins σ H s) (r : Vals vs us) (rz : Vals zs ws) (hm : (vs.length, ks) ∈ fi.kws) (hl : zs.length = ks.length) (q : sp (ordK fi.ps ks vs zs) H Q E) : wpAny (model X.prog X.w) X.A (PySem.call (.ref fa) us (ks.zip ws)) (EP X pins σ Q) X.xe s := by
  obtain ⟨_, hb⟩ := cf.kws _ _ hm
  obtain ⟨_, hb⟩ := hb us ws r.length.symm (by rw [← rz.length]; exact hl)
  exact run_own C F J (.of_eq hb) (ord_pair r rz) q
section
variable {f : Str} {fi : Fi} {p pos : Pos} {e : Expr} {es : List Expr} {kws : List Keyword} {ta tk : TA} {sp : Sp} {fa : Addr} {fd : FuncData}
theorem own0 (C : Cz P call CX k sx G E X) (hok : okN f = true) (hg : sx.sc.names.lookup f = some .globalImplicit) (cf : CalF X.K X.mg f fi fa fd) (F : FnG X.prog X.w X.K X.mg X.base CX k fa fd fi.ps sp) :
    PE X (.Call (.Name f p) [] [] pos) (fun σ H Q => 0 = fi.ps.length ∧ sp [] H Q E) := by
  refine ⟨fun pins s σ H Q J ⟨hl, q⟩ => ?_⟩
  refine wpAny_Call_Name_kw (ld_glob J (C.gl hg) cf.mg ?_ (okN_d hok).1)
  exact PySem.W.callWith_K0 (K := X.K) J.kIn cf.kp (fin0 C cf F J .nil hl q)
theorem own1 (C : Cz P call CX k sx G E X) (hok : okN f = true) (hg : sx.sc.names.lookup f = some .globalImplicit) (cf : CalF X.K X.mg f fi fa fd) (F : FnG X.prog X.w X.K X.mg X.base CX k fa fd fi.ps sp) (ha : PA X (e :: es) ta) (hst : (e :: es).all (fun e => !isStar e) = true) :
    PE X (.Call (.Name f p) (e :: es) [] pos) (fun σ H Q => ta σ H fun vs H1 => vs.length = fi.ps.length ∧ sp vs H1 Q E) := by
  refine ⟨fun pins s σ H Q J h => ?_⟩
  rw [List.all_cons, Bool.and_eq_true] at hst
  refine wpAny_Call_Name_kw (ld_glob J (C.gl hg) cf.mg ?_ (okN_d hok).1)
  exact PySem.W.callWith_K (h₀ := X.base) J.ok.mod.kin cf.kp (thn (ha.run pos pins s σ H _ J h) fun us s1 ⟨vs, H1, J1, rv, hl, q⟩ => ⟨J1.kIn, fin0 C cf F J1 rv hl q⟩) (starE (by simpa using hst.1)) (plainS hst.2)
theorem own2 (C : Cz P call CX k sx G E X) (hok : okN f = true) (hg : sx.sc.names.lookup f = some .globalImplicit) (cf : CalF X.K X.mg f fi fa fd) (F : FnG X.prog X.w X.K X.mg X.base CX k fa fd fi.ps sp) (hk : PK X kws tk) (hkw : (kws.map (·.arg)).all (·.isSome) = true) :
    PE X (.Call (.Name f p) [] kws pos) (fun σ H Q => tk σ H fun zs H1 => (0, (kws.map (·.arg)).filterMap id) ∈ fi.kws ∧ zs.length = ((kws.map (·.arg)).filterMap id).length ∧ sp (ordK fi.ps ((kws.map (·.arg)).filterMap id) [] zs) H1 Q E) := by
  refine ⟨fun pins s σ H Q J h => ?_⟩
  obtain ⟨n1, n2, n3⟩ := kw_names (pos := pos) (env := X.env) hkw
  refine wpAny_Call_Name_kw (ld_glob J (C.gl hg) cf.mg ?_ (okN_d hok).1)
  refine PySem.W.callWith_KW0 (h₀ := X.base) J.ok.mod.kin cf.kp n1 (thn (hk.run pos pins s σ H _ J h) fun ws s1 ⟨zs, H1, J1, rz, hm, hl, q⟩ => ⟨J1.kIn, ?_⟩) (by show (false || _) = false; rw [n2]; rfl)
  rw [n3]
  exact fin1 (us := []) (vs := []) C cf F J1 .nil rz hm hl q
theorem own3 (C : Cz P call CX k sx G E X) (hok : okN f = true) (hg : sx.sc.names.lookup f = some .globalImplicit) (cf : CalF X.K X.mg f fi fa fd) (F : FnG X.prog X.w X.K X.mg X.base CX k fa fd fi.ps sp) (ha : PA X (e :: es) ta) (hst : (e :: es).all (fun e => !isStar e) = true) (hk : PK X kws tk) (hkw : (kws.map (·.arg)).all (·.isSome) = true) :
    PE X (.Call (.Name f p) (e :: es) kws pos) (fun σ H Q => ta σ H fun vs H1 => tk σ H1 fun zs H2 => (vs.length, (kws.map (·.arg)).filterMap id) ∈ fi.kws ∧ zs.length = ((kws.map (·.arg)).filterMap id).length ∧ sp (ordK fi.ps ((kws.map (·.arg)).filterMap id) vs zs) H2 Q E) := by
  refine ⟨fun pins s σ H Q J h => ?_⟩
  obtain ⟨n1, n2, n3⟩ := kw_names (pos := pos) (env := X.env) hkw
  have hpl := plainS (pos := pos) (env := X.env) hst
  rw [List.all_cons, Bool.and_eq_true] at hst
  refine wpAny_Call_Name_kw (ld_glob J (C.gl hg) cf.mg ?_ (okN_d hok).1)
  refine PySem.W.callWith_KW (h₀ := X.base) J.ok.mod.kin cf.kp n1 (thn (ha.run pos pins s σ H _ J h) fun us s1 ⟨vs, H1, J1, rv, q1⟩ => thn (hk.run pos pins s1 σ H1 _ J1 q1) fun ws s2 ⟨zs, H2, J2, rz, hm, hl, q⟩ => ⟨J2.kIn, ?_⟩) (by rw [hpl, n2]; rfl) (starE (by simpa using hst.1))
  rw [n3]
  exact fin1 C cf F J2 rv rz hm hl q
end
end
end Z

/-! Expressions: what the reader answers, the program answers. -/
namespace Z
open PySem PySem.Spec L2
theorem idx_ok {N : List Str} {x : Str} {i : Nat} (h : idx N x = some i) : N[i]? = some x := by
  unfold idx at h
  obtain ⟨hl, h1, _⟩ := List.findIdx?_eq_some_iff_getElem.mp h
  rw [List.getElem?_eq_getElem hl]
  exact congrArg some (of_decide_eq_true h1)
theorem slot_ok {e : En} {i : Nat} {w : W} (h : slot e i = some w) : e[i]? = some (some w) := by
  unfold slot at h
  split at h
  · rename_i q; cases h; exact q
  · cases h
theorem vis_ok {sc : Scope} {x : Str} (h : isVis (sc.names.lookup x) = true) : Vis sc x := by
  unfold Vis
  cases e : sc.names.lookup x with
  | none => rw [e] at h; cases h
  | some k => cases k <;> first | exact .inl rfl | exact .inr (.inl rfl) | exact .inr (.inr rfl) | (rw [e] at h; cases h)
section
variable {P : Pg} {call : Cf} {CX : CXT} {k : Nat} {sx : Sx} {G : Gd} {E : XK} {X : Cx}
theorem RE.ofO {α : Type} {EE : EK} {H : Hp} {I : List Addr} {kk : AK α} {o : Option α} {S : So} (h : RE G EE H I kk (ofO o S)) : ∃ a, o = some a ∧ RE G EE H I kk (.ok a S) := by
  cases o with
  | none => exact False.elim h
  | some a => exact ⟨a, rfl, h⟩
/-- a name -/
theorem se_name (C : Cz P call CX k sx G E X) (n : Str) (p : Pos) : PE X (.Name n p) (tE G (EKof G E) fun e S => if okN n = true then ofO (nameE P sx e n) S else .bad) := by
  refine PE.by fun σ H Q ⟨I, S, e, rl, rs, h⟩ => ?_
  simp only at h
  split at h
  · rename_i hok
    obtain ⟨h1, h2, h3⟩ := okN_d hok
    obtain ⟨w, e1, h⟩ := RE.ofO h
    unfold nameE at e1
    split at e1
    · rename_i hv
      obtain ⟨i, e2, e3⟩ := Option.bind_eq_some_iff.mp e1
      obtain ⟨v, e4, q⟩ := rs.get _ _ (slot_ok e3)
      refine ⟨tVar i, pe_var (by rw [C.hN]; exact idx_ok e2) (by rw [C.sc]; exact vis_ok hv) h1 h2, v, e4, kV_now h rl q⟩
    · split at e1
      · rename_i hg
        rcases C.glb n w e1 with ⟨u, v, m1, r1, q⟩ | ⟨t, rfl, m1, b1⟩
        · have hq : RW G H I w v := by
            have := q H I
            rw [← C.K, ← C.mg] at this
            exact this
          exact ⟨tC v, pe_glob (C.gl hg) m1 r1 h1, kV_now h rl hq⟩
        · exact ⟨tC (.ty t), pe_bltn (C.gl hg) m1 b1 rfl h3 h1, kV_now h rl (by unfold RW; rfl)⟩
      · cases e1
  · exact False.elim h
theorem se_const (c : Const) (j : Nat) (p : Pos) : PE X (.Constant c j p) (tE G (EKof G E) fun _ S => constE c S) := by
  refine PE.by fun σ H Q ⟨I, S, e, rl, rs, h⟩ => ?_
  cases c with
  | none => exact ⟨_, pe_non, kV_now h rl (by unfold RW; rfl)⟩
  | bool b => exact ⟨_, pe_bl, kV_now h rl (by unfold RW; rfl)⟩
  | int i => exact ⟨_, pe_int, kV_now h rl (by unfold RW; rfl)⟩
  | str x => exact ⟨_, pe_str, kV_now h rl (by unfold RW; rfl)⟩
  | float _ => exact False.elim h
  | complex _ _ => exact False.elim h
  | bytes _ => exact False.elim h
  | ellipsis => exact False.elim h
/-- two steps, then a rule of values -/
theorem two_Z {a b : Expr} {EE : EK} {ra rb : En → So → Res W} {f : W → W → So → Res W} {t : TE → TE → TE} {x : Expr} (ha : PE X a (tE G EE ra)) (hb : PE X b (tE G EE rb)) (hx : PE X x (tOp (rZ G EE f) (tE G EE ra) (tE G EE rb))) :
    PE X x (tE G EE fun e S => (ra e S).bind fun u S1 => (rb e S1).bind fun v S2 => f u v S2) := by
  refine hx.of fun σ H Q ⟨I, S, e, rl, rs, h⟩ => ?_
  refine tE.step rl rs h fun w S1 H1 I1 v k1 p1 rl1 hv h1 => ?_
  refine tE.step (S := S1) rl1 (rs.mono k1 p1) h1 fun z S2 H2 I2 u k2 p2 rl2 hu h2 => ?_
  exact ⟨I2, S2, w, z, rl2, hv.mono k2 p2, hu, h2⟩
theorem se_bin (C : Cz P call CX k sx G E X) {a b : Expr} {op : Operator} {p : Pos} {ra rb : En → So → Res W} (ha : PE X a (tE G (EKof G E) ra)) (hb : PE X b (tE G (EKof G E) rb)) :
    PE X (.BinOp a op b p) (tE G (EKof G E) fun e S => (ra e S).bind fun u S1 => (rb e S1).bind fun v S2 => binop op u v S2) :=
  two_Z (t := fun a b => a) ha hb (pe_op (op_Z C.K op) ha hb)
/-- a comparison's reading -/
def fC (op : CmpOp) : W → W → So → Res W := fun u v S2 => (ofO (cmp op u v S2) S2).bind fun r S3 => .ok (.bl r) S3
theorem rC_Z {EE : EK} {op : CmpOp} {x y : V} {H : Hp} {Q : VK} (h : rZ G EE (fC op) x y H Q) : rC G (cmp op) x y H Q := by
  obtain ⟨I, S, u, v, rl, h1, h2, h⟩ := h
  unfold fC at h
  cases e : cmp op u v S with
  | none => rw [e] at h; exact False.elim h
  | some b =>
    rw [e] at h
    exact ⟨I, S, u, v, b, rl, h1, h2, e, kV_now (E := EE) (S := S) h rl (by unfold RW; rfl)⟩
theorem units64 {A : Around} {k : Nat} (r : Room k A) : A.units + 64 < cLine := r.units
theorem units200 {A : Around} {k : Nat} (r : Room k A) : A.units + 200 < cLine := by have := r.un; omega
theorem mark_ok {op : CmpOp} {b : Expr} (h : isSet b = false) : behindInMarks op b = false := by
  cases b <;> first | rfl | cases h
theorem op_C (C : Cz P call CX k sx G E X) (op : CmpOp) : OpR X (compareOp op) (rZ G (EKof G E) (fC op)) := by
  intro pins s σ H x y v u Q J rx ry h
  exact cmp_Z C.K (units64 C.room) C.sys op pins s σ H x y v u Q J rx ry (rC_Z h)
theorem se_cmp (C : Cz P call CX k sx G E X) {a b : Expr} {op : CmpOp} {p : Pos} {ra rb : En → So → Res W} (ha : PE X a (tE G (EKof G E) ra)) (hb : PE X b (tE G (EKof G E) rb)) :
    PE X (.Compare a [op] [b] p) (tE G (EKof G E) fun e S => if isSet b = true then .bad else (ra e S).bind fun u S1 => (rb e S1).bind fun v S2 => fC op u v S2) := by
  by_cases hs : isSet b = true
  · exact PE.never fun σ H Q ⟨I, S, e, rl, rs, h⟩ => by simp only [hs, if_true] at h; exact h
  · simp only [hs, if_false]
    exact two_Z (t := fun a b => a) ha hb (pe_cmpR (op_C C op) ha hb (mark_ok (by simpa using hs)))
/-- two comparisons in a chain -/
def fC2 (op op' : CmpOp) (rc : So → Res W) : W → W → So → Res W := fun u v S2 => (ofO (cmp op u v S2) S2).bind fun r S3 =>
  if r then (rc S3).bind fun z S4 => fC op' v z S4 else .ok (.bl false) S3
theorem chain_Z (C : Cz P call CX k sx G E X) {a b c : Expr} {op op' : CmpOp} {p : Pos} {ra rb rc : En → So → Res W} {σ : L2.St} {H : Hp} {Q : VK} {I : List Addr} {S : So} {e : En}
    (rl : Rel G H I S) (rs : RS G H I e σ) (h : RE G (EKof G E) H I (kV' G Q) ((ra e S).bind fun u S1 => (rb e S1).bind fun v S2 => fC2 op op' (rc e) u v S2)) :
    tChain (rZ G (EKof G E) (fC op)) (rZ G (EKof G E) (fC op')) (tE G (EKof G E) ra) (tE G (EKof G E) rb) (tE G (EKof G E) rc) σ H Q := by
  refine tE.step rl rs h fun w S1 H1 I1 v k1 p1 rl1 hv h1 => ?_
  refine tE.step (S := S1) rl1 (rs.mono k1 p1) h1 fun z S2 H2 I2 u k2 p2 rl2 hu h2 => ?_
  refine ⟨I2, S2, w, z, rl2, hv.mono k2 p2, hu, ?_⟩
  unfold fC2 at h2
  unfold fC
  cases q : cmp op w z S2 with
  | none => rw [q] at h2; exact False.elim h2
  | some r =>
    rw [q] at h2
    intro H3 I3 k3 p3 rl3 y hy
    unfold RW at hy
    subst hy
    refine ⟨r, rfl, ?_⟩
    cases r with
    | false => exact iteF (kV_now (h2.mono k3 p3) rl3 (by unfold RW; rfl))
    | true =>
      refine iteT (tE.step (S := S2) rl3 ((rs.mono k1 p1).mono (k2.trans k3) (p2.trans p3)) (show RE G (EKof G E) H3 I3 (kV' G Q) ((rc e S2).bind fun z' S4 => fC op' z z' S4) from h2.mono k3 p3) fun w' S4 H4 I4 v' k4 p4 rl4 hv' h4 => ?_)
      exact ⟨I4, S4, z, w', rl4, hu.mono (k3.trans k4) (p3.trans p4), hv', h4⟩
theorem marks2 {op op' : CmpOp} {b c : Expr} (h : isSet c = false) : lastMarks [op, op'] [b, c] = false := mark_ok (op := op') h
theorem se_cmp2 (C : Cz P call CX k sx G E X) {a b c : Expr} {op op' : CmpOp} {p : Pos} {ra rb rc : En → So → Res W} (ha : PE X a (tE G (EKof G E) ra)) (hb : PE X b (tE G (EKof G E) rb)) (hc : PE X c (tE G (EKof G E) rc)) :
    PE X (.Compare a [op, op'] [b, c] p) (tE G (EKof G E) fun e S => if (isSet b || isSet c) = true then .bad else (ra e S).bind fun u S1 => (rb e S1).bind fun v S2 => fC2 op op' (rc e) u v S2) := by
  by_cases hs : (isSet b || isSet c) = true
  · exact PE.never fun σ H Q ⟨I, S, e, rl, rs, h⟩ => by simp only [hs, if_true] at h; exact h
  · simp only [hs, if_false]
    have hc2 : isSet c = false := by cases q : isSet c <;> simp_all
    refine (pe_chain (op_C C op) (op_C C op') ha hb hc (marks2 hc2)).of fun σ H Q ⟨I, S, e, rl, rs, h⟩ => ?_
    exact chain_Z (a := a) (b := b) (c := c) (p := p) C rl rs h
theorem se_not {EE : EK} (hK : G.K = X.K) {a : Expr} {p : Pos} {ra : En → So → Res W} (ha : PE X a (tE G EE ra)) :
    PE X (.UnaryOp .Not a p) (tE G EE fun e S => (ra e S).bind fun u S1 => match truth u S1 with | some b => .ok (.bl (!b)) S1 | none => .bad) := by
  refine (pe_notT ha).of fun σ H Q ⟨I, S, e, rl, rs, h⟩ => ?_
  refine tE.step rl rs h fun w S1 H1 I1 v k1 p1 rl1 hv h1 => ?_
  cases q : truth w S1 with
  | none => rw [q] at h1; exact False.elim h1
  | some b =>
    rw [q] at h1
    exact ⟨b, by rw [← hK]; exact truth_ok rl1 hv q, kV_now h1 rl1 (by unfold RW; rfl)⟩
theorem se_bool {EE : EK} (hK : G.K = X.K) {op : BoolOp} {p : Pos} {f : Expr → En → So → Res W} (hf : ∀ x, PE X x (tE G EE (f x))) : ∀ vs : List Expr,
    PE X (.BoolOp op vs p) (tE G EE fun e S => evB (match op with | .And => true | .Or => false) (fun x => f x e) vs S)
  | [] => PE.never fun σ H Q ⟨I, S, e, rl, rs, h⟩ => h
  | [x] => (pe_one (hf x)).of fun σ H Q q => q
  | x :: y :: r => by
    have ih := se_bool (p := p) (op := op) hK hf (y :: r)
    cases op with
    | And =>
      refine (pe_andT (hf x) ih).of fun σ H Q ⟨I, S, e, rl, rs, h⟩ => ?_
      refine tE.step rl rs h fun w S1 H1 I1 v k1 p1 rl1 hv h1 => ?_
      cases q : truth w S1 with
      | none => rw [q] at h1; exact False.elim h1
      | some b =>
        rw [q] at h1
        refine ⟨b, by rw [← hK]; exact truth_ok rl1 hv q, ?_⟩
        cases b with
        | true => exact iteT ⟨I1, S1, e, rl1, rs.mono k1 p1, h1⟩
        | false => exact iteF (kV_now h1 rl1 hv)
    | Or =>
      refine (pe_orT (hf x) ih).of fun σ H Q ⟨I, S, e, rl, rs, h⟩ => ?_
      refine tE.step rl rs h fun w S1 H1 I1 v k1 p1 rl1 hv h1 => ?_
      cases q : truth w S1 with
      | none => rw [q] at h1; exact False.elim h1
      | some b =>
        rw [q] at h1
        refine ⟨b, by rw [← hK]; exact truth_ok rl1 hv q, ?_⟩
        cases b with
        | true => exact iteT (kV_now h1 rl1 hv)
        | false => exact iteF ⟨I1, S1, e, rl1, rs.mono k1 p1, h1⟩
/-- the test of an expression -/
def tst (r : En → So → Res W) : En → So → Res Bool := fun e S => (r e S).bind fun u S1 => ofO (truth u S1) S1
theorem se_if {EE : EK} {c a b : Expr} {p : Pos} {rc ra rb : En → So → Res W} (hc : PT X c (tT G EE (tst rc))) (ha : PE X a (tE G EE ra)) (hb : PE X b (tE G EE rb)) :
    PE X (.IfExp c a b p) (tE G EE fun e S => (rc e S).bind fun u S1 => match truth u S1 with | some true => ra e S1 | some false => rb e S1 | none => .bad) := by
  refine (pe_ifExp hc ha hb).of fun σ H Q ⟨I, S, e, rl, rs, h⟩ => ?_
  refine ⟨I, S, e, rl, rs, ?_⟩
  unfold tst
  simp only at h
  cases q : rc e S with
  | bad => rw [q] at h; exact False.elim h
  | exn x S1 => rw [q] at h; exact h
  | ok u S1 =>
    rw [q] at h
    simp only [Res.bind] at h ⊢
    cases q2 : truth u S1 with
    | none => rw [q2] at h; exact False.elim h
    | some t =>
      rw [q2] at h
      intro H1 I1 k1 p1 rl1
      cases t with
      | true =>
        show if true = true then tE G EE ra σ H1 Q else tE G EE rb σ H1 Q
        exact iteT ⟨I1, S1, e, rl1, rs.mono k1 p1, RE.mono k1 p1 h⟩
      | false =>
        show if false = true then tE G EE ra σ H1 Q else tE G EE rb σ H1 Q
        exact iteF ⟨I1, S1, e, rl1, rs.mono k1 p1, RE.mono k1 p1 h⟩
theorem se_tup {EE : EK} {es : List Expr} {j : Nat} {p : Pos} {rs' : En → So → Res (List W)} (ha : PA X es (tAs G EE rs')) :
    PE X (.Tuple es j p) (tE G EE fun e S => (rs' e S).bind fun ws S1 => if ws.length ≤ sizeLine then .ok (.tup ws) S1 else .bad) := by
  refine (pe_tup ha).of fun σ H Q ⟨I, S, e, rl, rs, h⟩ => ?_
  refine tAs.step rl rs h fun ws S1 H1 I1 vs k1 p1 rl1 hv h1 => ?_
  split at h1
  · rename_i hl
    refine ⟨by rw [← hv.len]; exact hl, fun t ht => ?_⟩
    have kn := Keep.new (o := .tup vs) ht
    refine h1 _ I1 kn (List.prefix_refl _) (rl1.junk ht) _ ?_
    unfold RW
    exact ⟨t, vs, rfl, .of upd_same, hv.mono kn (List.prefix_refl _)⟩
  · exact False.elim h1
theorem se_lst {EE : EK} {es : List Expr} {p : Pos} {rs' : En → So → Res (List W)} (ha : PA X es (tAs G EE rs')) :
    PE X (.List es p) (tE G EE fun e S => (rs' e S).bind fun ws S1 => if ws.length ≤ sizeLine then new (.lst ws) S1 else .bad) := by
  refine (pe_lst ha).of fun σ H Q ⟨I, S, e, rl, rs, h⟩ => ?_
  refine tAs.step rl rs h fun ws S1 H1 I1 vs k1 p1 rl1 hv h1 => ?_
  split at h1
  · rename_i hl
    exact ⟨by rw [← hv.len]; exact hl, new_lst rl1 hv h1⟩
  · exact False.elim h1
end
end Z

/-! Subscripts, displays of dicts, f-strings, calls of built-ins and methods. -/
namespace Z
open PySem PySem.Spec L2
section
variable {P : Pg} {call : Cf} {CX : CXT} {k : Nat} {sx : Sx} {G : Gd} {E : XK} {X : Cx} {EE : EK}
def tOs (G : Gd) (E : EK) (r : En → So → Res (Option Int)) : TO := fun σ H Q => ∃ I S e, Rel G H I S ∧ RS G H I e σ ∧ RE G E H I (fun o _ H' _ => Q o H') (r e S)
theorem po_Z {f : Expr → En → So → Res W} (hf : ∀ x, PE X x (tE G EE (f x))) : ∀ o : Option Expr, PO X o (tOs G EE fun e S => evO (fun x => f x e) o S)
  | none => ⟨fun pins s σ H Q J ⟨I, S, e, rl, rs, h⟩ => po_none.run pins s σ H Q J (RE.now (k := fun o _ H' _ => Q o H') h rl)⟩
  | some x => ⟨fun pins s σ H Q J ⟨I, S, e, rl, rs, h⟩ => by
      refine (po_some (hf x)).run pins s σ H Q J ?_
      refine tE.step rl rs h fun w S1 H1 I1 v k1 p1 rl1 hv h1 => ?_
      cases w with
      | int i =>
        unfold RW at hv
        subst hv
        exact ⟨i, rfl, RE.now (k := fun o _ H' _ => Q o H') h1 rl1⟩
      | _ => exact False.elim h1⟩
theorem tOs.step {α : Type} {kk : AK α} {σ : L2.St} {H : Hp} {I : List Addr} {S : So} {e : En} {r : En → So → Res (Option Int)} {f : Option Int → So → Res α} {Q : Option Int → Hp → Prop} (rl : Rel G H I S) (rs : RS G H I e σ) (h : RE G EE H I kk ((r e S).bind f))
    (c : ∀ w S' H' I', Keep H H' → I <+: I' → Rel G H' I' S' → RE G EE H' I' kk (f w S') → Q w H') : tOs G EE r σ H Q :=
  ⟨I, S, e, rl, rs, (RE.bind h).imp fun w S' H' I' k2 p2 r2 q => c w S' H' I' k2 p2 r2 q⟩
theorem se_slice (C : Cz P call CX k sx G E X) {a : Expr} {lo hi : Option Expr} {p2 p : Pos} {ra : En → So → Res W} {f : Expr → En → So → Res W} (ha : PE X a (tE G EE ra)) (hf : ∀ x, PE X x (tE G EE (f x))) :
    PE X (.Subscript a (.Slice lo hi none p2) p) (tE G EE fun e S => (ra e S).bind fun u S1 => (evO (fun x => f x e) lo S1).bind fun l S2 => (evO (fun x => f x e) hi S2).bind fun h S3 => slice u l h S3) := by
  refine (pe_slice (sl_Z (G := G) (E := EE) C.K) ha (po_Z hf lo) (po_Z hf hi)).of fun σ H Q ⟨I, S, e, rl, rs, h⟩ => ?_
  refine tE.step rl rs h fun w S1 H1 I1 v k1 p1 rl1 hv h1 => ?_
  refine tOs.step (S := S1) rl1 (rs.mono k1 p1) h1 fun l S2 H2 I2 k2 p2 rl2 h2 => ?_
  refine tOs.step (S := S2) rl2 ((rs.mono k1 p1).mono k2 p2) h2 fun hh S3 H3 I3 k3 p3 rl3 h3 => ?_
  exact ⟨I3, S3, w, rl3, hv.mono (k2.trans k3) (p2.trans p3), h3⟩
theorem plainIx {b : Expr} (h : isSlice b = false) : PlainIx b := by
  intro o i
  cases b <;> first | rfl | cases h
theorem se_item (C : Cz P call CX k sx G E X) {a b : Expr} {p : Pos} {ra rb : En → So → Res W} (ha : PE X a (tE G EE ra)) (hb : PE X b (tE G EE rb)) :
    PE X (.Subscript a b p) (tE G EE fun e S => if isSlice b = true then .bad else (ra e S).bind fun u S1 => (rb e S1).bind fun v S2 => ofO (item u v S2) S2) := by
  by_cases hs : isSlice b = true
  · exact PE.never fun σ H Q ⟨I, S, e, rl, rs, h⟩ => by simp only [hs, if_true] at h; exact h
  · simp only [hs, if_false]
    refine (pe_ix (ix_Z (G := G) C.K (by have := units200 C.room; omega)) ha hb (plainIx (by simpa using hs))).of fun σ H Q ⟨I, S, e, rl, rs, h⟩ => ?_
    refine tE.step rl rs h fun w S1 H1 I1 v k1 p1 rl1 hv h1 => ?_
    refine tE.step (S := S1) rl1 (rs.mono k1 p1) h1 fun z S2 H2 I2 u k2 p2 rl2 hu h2 => ?_
    obtain ⟨y, e1, h2⟩ := RE.ofO h2
    exact ⟨I2, S2, w, z, y, rl2, hv.mono k2 p2, hu, e1, fun t ht => kV_now h2 rl2 ht⟩

/-! ### displays of dicts -/
theorem se_dict0 {p : Pos} : PE X (.Dict [] [] p) (tE G EE fun _ S => new (.dct []) S) := by
  refine pe_dnewK.of fun σ H Q ⟨I, S, e, rl, rs, h⟩ p hp => ?_
  have kn := Keep.new (o := .dK []) hp
  have r2 : Rel G (upd H p (.dK [])) (I ++ [p]) (S ++ [.dct []]) := rl.new hp ⟨[], upd_same, rfl⟩
  refine h _ _ kn (List.prefix_append _ _) r2 (.ref p) ?_
  unfold RW
  exact ⟨p, rfl, by rw [← rl.len]; simp⟩
/-- the pairs of a display -/
def RPs (G : Gd) (H : Hp) (I : List Addr) : List (Key × W) → List (V × V) → Prop
  | [], ps => ps = []
  | (q, w) :: r, ps => ∃ v t, ps = (kV q, v) :: t ∧ RW G H I w v ∧ RPs G H I r t
theorem RPs.mono {H H' : Hp} {I I' : List Addr} (k : Keep H H') (p : I <+: I') : ∀ {ws : List (Key × W)} {vs : List (V × V)}, RPs G H I ws vs → RPs G H' I' ws vs
  | [], _, h => h
  | (_, w) :: ws, _, ⟨v, q, e, h1, h2⟩ => ⟨v, q, e, h1.mono k p, RPs.mono k p h2⟩
theorem RPs.kvs {H : Hp} {I : List Addr} : ∀ {ws : List (Key × W)} {ps : List (V × V)}, RPs G H I ws ps → ∃ kvs : List (Key × V), ps = kvs.map (fun kv => (kV kv.1, kv.2)) ∧ RKs G H I ws kvs
  | [], _, h => ⟨[], h, rfl⟩
  | (q, w) :: ws, _, ⟨v, t, e, h1, h2⟩ => by
    obtain ⟨kvs, e1, r⟩ := RPs.kvs h2
    exact ⟨(q, v) :: kvs, by rw [e, e1]; rfl, v, kvs, rfl, h1, r⟩
theorem RKs.merge {H : Hp} {I : List Addr} : ∀ {ws acc : List (Key × W)} {vs avs : List (Key × V)}, RKs G H I ws vs → RKs G H I acc avs → RKs G H I (ws.foldl (fun r kv => putW r kv.1 kv.2) acc) (mergeK avs vs)
  | [], _, _, _, h, a => by subst h; exact a
  | (q, w) :: ws, acc, _, avs, ⟨v, t, e, h1, h2⟩, a => by
    subst e
    have q2 := RKs.merge (acc := putW acc q w) (avs := putK avs q v) h2 (a.put h1)
    exact q2
theorem pps_Z {f : Expr → En → So → Res W} (hf : ∀ x, PE X x (tE G EE (f x))) {pos : Pos} : ∀ (ks : List (Option Expr)) (vs : List Expr), ks.all (·.isSome) = true → ks.length = vs.length →
    ∃ trs, PPs X pos ks vs trs ∧ ∀ (σ : L2.St) (H : Hp) (I : List Addr) (S : So) (e : En) (Q : List (V × V) → Hp → Prop) (kk : AK (List (Key × W))), Rel G H I S → RS G H I e σ → RE G EE H I kk (evP (fun x => f x e) ks vs S) →
      (∀ kvs S' H' I' ps, Keep H H' → I <+: I' → Rel G H' I' S' → RPs G H' I' kvs ps → kk kvs S' H' I' → Q ps H') → tPairs trs σ H Q
  | [], [], _, _ => ⟨[], pps_nil, fun σ H I S e Q kk rl rs h c => c [] S H I [] (Keep.refl H) (List.prefix_refl I) rl rfl (RE.now h rl)⟩
  | some x :: ks, y :: vs, ha, hl => by
    obtain ⟨trs, p1, r1⟩ := pps_Z hf (pos := pos) ks vs ha (by simpa using hl)
    refine ⟨_, pps_cons (hf x) (hf y) p1, fun σ H I S e Q kk rl rs h c => ?_⟩
    refine tE.step rl rs h fun w S1 H1 I1 v k1 p1 rl1 hv h1 => ?_
    refine tE.step (S := S1) rl1 (rs.mono k1 p1) h1 fun z S2 H2 I2 u k2 p2 rl2 hu h2 => ?_
    cases q : toK w with
    | none => rw [q] at h2; exact False.elim h2
    | some key =>
      rw [q] at h2
      refine r1 σ H2 I2 S2 e _ _ rl2 ((rs.mono k1 p1).mono k2 p2) (RE.bind h2) fun kvs S3 H3 I3 ps k3 p3 rl3 hp h3 => ?_
      have hv2 := toK_ok (hv.mono (k2.trans k3) (p2.trans p3)) q
      subst hv2
      exact c ((key, z) :: kvs) S3 H3 I3 _ ((k1.trans k2).trans k3) ((p1.trans p2).trans p3) rl3 ⟨u, ps, rfl, hu.mono k3 p3, hp⟩ (RE.now h3 rl3)
  | none :: _, _ :: _, ha, _ => by cases ha
  | [], _ :: _, _, hl => by cases hl
  | _ :: _, [], _, hl => by cases hl
theorem se_dict {f : Expr → En → So → Res W} (hf : ∀ x, PE X x (tE G EE (f x))) {ks : List (Option Expr)} {vs : List Expr} {p : Pos} (ha : ks.all (·.isSome) = true) (hl : ks.length = vs.length) (h0 : ks ≠ []) (h15 : ks.length ≤ 15) :
    PE X (.Dict ks vs p) (tE G EE fun e S => (evP (fun x => f x e) ks vs (S ++ [.dct []])).bind fun kvs S1 => match S1[S.length]? with
        | some (.dct []) => if kvs.length ≤ 15 then .ok (.ref S.length) (S1.set S.length (.dct (kvs.foldl (fun r kv => putW r kv.1 kv.2) []))) else .bad
        | _ => .bad) := by
  obtain ⟨trs, p1, r1⟩ := pps_Z hf (pos := p) ks vs ha hl
  refine (pe_disp p1 ha hl h0 h15).of fun σ H Q ⟨I, S, e, rl, rs, h⟩ D hD => ?_
  have kn := Keep.new (o := .dK []) hD
  have rl0 : Rel G (upd H D (.dK [])) (I ++ [D]) (S ++ [.dct []]) := rl.new hD ⟨[], upd_same, rfl⟩
  have rs0 := rs.mono (e := e) kn (List.prefix_append I [D])
  refine r1 σ _ _ _ e _ _ rl0 rs0 (RE.bind (h.mono kn (List.prefix_append _ _))) fun kvs S1 H1 I1 ps k1 p1 rl1 hp h1 => ?_
  have hDi : I1[S.length]? = some D := pre_get p1 (by rw [← rl.len]; simp)
  split at h1
  · rename_i eS
    split at h1
    · rename_i h15'
      obtain ⟨vs0, q, z⟩ := rl1.obj _ _ _ eS hDi
      have z0 : vs0 = [] := z
      subst z0
      obtain ⟨kv, e1, rk⟩ := hp.kvs
      refine ⟨q, kv, e1, by rw [← rk.len]; exact h15', ?_⟩
      have kp := rl1.keepPut (u := .dK (mergeK [] kv)) hDi
      refine h1 _ I1 kp (List.prefix_refl _) (rl1.put hDi ⟨_, upd_same, (RKs.merge (acc := []) rk rfl).mono kp (List.prefix_refl _)⟩) _ ?_
      unfold RW
      exact ⟨D, rfl, hDi⟩
    · exact False.elim h1
  · exact False.elim h1
/-! ### f-strings -/
theorem se_part {x : Expr} {ra : En → So → Res W} {p : Pos} (hx : PE X x (tE G EE ra)) : PE X (.FormattedValue x (-1) none p) (tFmt (tE G EE ra)) := pe_fmt hx
theorem evJ_Z {f : Expr → En → So → Res W} (hf : ∀ x, PE X x (tE G EE (f x))) : ∀ es : List Expr, (∃ ts, PJ X es ts ∧ ∀ (acc : Str) (σ : L2.St) (H : Hp) (I : List Addr) (S : So) (e : En) (Q : Str → Hp → Prop) (kk : AK Str), Rel G H I S → RS G H I e σ → RE G EE H I kk (evJ (fun x => f x e) es acc S) →
      (∀ out S' H' I', Keep H H' → I <+: I' → Rel G H' I' S' → kk out S' H' I' → Q out H') → tJs ts acc σ H Q) ∨ ∃ x, x ∈ es ∧ (∀ y j q, x ≠ .Constant (.str y) j q) ∧ ∀ y p, x ≠ .FormattedValue y (-1) none p
  | [] => .inl ⟨[], .nil, fun acc σ H I S e Q kk rl rs h c => c acc S H I (Keep.refl H) (List.prefix_refl I) rl (RE.now h rl)⟩
  | x :: es => by
    rcases evJ_Z hf es with ⟨ts, pj, ih⟩ | ⟨y, hy, hn⟩
    · by_cases h1 : ∃ y j q, x = .Constant (.str y) j q
      · obtain ⟨y, j, q, rfl⟩ := h1
        refine .inl ⟨_, .cons pe_str pj, fun acc σ H I S e Q kk rl rs h c => ?_⟩
        unfold evJ at h
        split at h
        · rename_i hl
          exact ⟨y, rfl, hl, ih _ σ H I S e Q kk rl rs h c⟩
        · exact False.elim h
      · by_cases h2 : ∃ y p, x = .FormattedValue y (-1) none p
        · obtain ⟨y, p, rfl⟩ := h2
          refine .inl ⟨_, .cons (pe_fmt (hf y)) pj, fun acc σ H I S e Q kk rl rs h c => ?_⟩
          unfold evJ at h
          refine tE.step rl rs h fun w S1 H1 I1 v k1 p1 rl1 hv h3 => ?_
          cases w with
          | str z =>
            unfold RW at hv
            subst hv
            simp only at h3
            split at h3
            · rename_i hl
              refine .inl ⟨z, rfl, hl.1, z, rfl, hl.2, ih _ σ H1 I1 S1 e Q kk rl1 (rs.mono k1 p1) h3 fun out S' H' I' k2 p2 => c out S' H' I' (k1.trans k2) (p1.trans p2)⟩
            · exact False.elim h3
          | _ => exact False.elim h3
        · exact .inr ⟨x, List.mem_cons_self, fun y j q z => h1 ⟨y, j, q, z⟩, fun y p z => h2 ⟨y, p, z⟩⟩
    · exact .inr ⟨y, List.mem_cons_of_mem _ hy, hn⟩
theorem se_joined {f : Expr → En → So → Res W} (hf : ∀ x, PE X x (tE G EE (f x))) {es : List Expr} {p : Pos} (ha : es.all partJ = true) (h2 : 2 ≤ es.length) :
    PE X (.JoinedStr es p) (tE G EE fun e S => (evJ (fun x => f x e) es Str.empty S).bind fun x S1 => .ok (.str x) S1) := by
  rcases evJ_Z hf es with ⟨ts, pj, ih⟩ | ⟨y, hy, n1, n2⟩
  · cases es with
    | nil => simp at h2
    | cons a r =>
      cases r with
      | nil => simp at h2
      | cons b r =>
        refine (pe_joined pj).of fun σ H Q ⟨I, S, e, rl, rs, h⟩ => ?_
        exact ih Str.empty σ H I S e _ _ rl rs (RE.bind h) fun out S' H' I' k1 p1 rl1 h1 => kV_now (E := EE) (S := S') h1 rl1 (by unfold RW; rfl)
  · have q := List.all_eq_true.mp ha y hy
    unfold partJ at q
    split at q
    · exact absurd rfl (n1 _ _ _)
    · have := of_decide_eq_true q
      subst this
      exact absurd rfl (n2 _ _)
    · cases q

/-! ### calls of built-ins and methods -/
theorem builtin_nil (f : Str) (S : So) : builtin f [] S = .bad := by
  unfold builtin
  simp only [ite_self]
theorem tCB_Z {es : List Expr} {rs' : En → So → Res (List W)} {f : Str} {σ : L2.St} {H : Hp} {Q : VK} (h : tE G EE (fun e S => (rs' e S).bind fun us S1 => builtin f us S1) σ H Q) : tCB (rBi G EE f) (tAs G EE rs') σ H Q := by
  obtain ⟨I, S, e, rl, rs, h⟩ := h
  exact tAs.step rl rs h fun ws S1 H1 I1 vs k1 p1 rl1 hv h1 => ⟨I1, S1, ws, rl1, hv, h1⟩
theorem se_builtin (C : Cz P call CX k sx G E X) {f : Str} {p pos : Pos} {es : List Expr} {rs' : En → So → Res (List W)} (hF : P.F f = none) (hb : f ∈ builtins) (hg : sx.sc.names.lookup f = some .globalImplicit) (ha : PA X es (tAs G EE rs')) (hst : es.all (fun e => !isStar e) = true)
    (hn : ∀ e S, es = [] → rs' e S = .ok [] S) : PE X (.Call (.Name f p) es [] pos) (tE G EE fun e S => (rs' e S).bind fun us S1 => builtin f us S1) := by
  cases es with
  | nil => exact PE.never fun σ H Q ⟨I, S, e, rl, rs, h⟩ => by simp only [hn e S rfl, Res.bind, builtin_nil] at h; exact h
  | cons x r =>
    have hst2 := hst
    rw [List.all_cons, Bool.and_eq_true] at hst2
    have hs1 := starE (es := r) (env := X.env) (e := x) (by simpa using hst2.1)
    have hs2 := plainS (pos := pos) (env := X.env) hst2.2
    · have hm : X.mg f = none := C.bi f (List.mem_cons_of_mem _ hb) hF
      have gl := C.gl hg
      have u1 : X.A.units + 200 < cLine := units200 C.room
      unfold builtins at hb
      simp only [List.mem_cons, List.not_mem_nil, or_false] at hb
      rcases hb with rfl | rfl | rfl | rfl | rfl | rfl | rfl | rfl | rfl | rfl
      · exact (pe_callB (bi_len C.K) gl hm PySem.boot_len ha (by decide) (by decide) hs1 hs2).of fun σ H Q h => tCB_Z (es := []) h
      · exact (pe_callTy bi_int gl hm (by decide +kernel) ha (by decide) (by decide) hs1 hs2).of fun σ H Q h => tCB_Z (es := []) h
      · exact (pe_callB (bi_max C.calm) gl hm (by decide +kernel) ha (by decide) (by decide) hs1 hs2).of fun σ H Q h => tCB_Z (es := []) h
      · exact (pe_callB (bi_min C.calm) gl hm (by decide +kernel) ha (by decide) (by decide) hs1 hs2).of fun σ H Q h => tCB_Z (es := []) h
      · exact (pe_callTy (bi_tuple C.K) gl hm (by decide +kernel) ha (by decide) (by decide) hs1 hs2).of fun σ H Q h => tCB_Z (es := []) h
      · exact (pe_callTy (bi_list C.K) gl hm (by decide +kernel) ha (by decide) (by decide) hs1 hs2).of fun σ H Q h => tCB_Z (es := []) h
      · exact (pe_callB (bi_all C.K C.calm) gl hm (by decide +kernel) ha (by decide) (by decide) hs1 hs2).of fun σ H Q h => tCB_Z (es := []) h
      · exact (pe_callB (bi_any C.K C.calm) gl hm (by decide +kernel) ha (by decide) (by decide) hs1 hs2).of fun σ H Q h => tCB_Z (es := []) h
      · exact (pe_callB (bi_isi C.K) gl hm (by decide +kernel) ha (by decide) (by decide) hs1 hs2).of fun σ H Q h => tCB_Z (es := []) h
      · exact (pe_callB (bi_repr C.K C.grd u1 C.sys) gl hm (by decide +kernel) ha (by decide) (by decide) hs1 hs2).of fun σ H Q h => tCB_Z (es := []) h
end
end Z

/-! Methods, own calls. -/
namespace Z
open PySem PySem.Spec L2
section
variable {P : Pg} {call : Cf} {CX : CXT} {k : Nat} {sx : Sx} {G : Gd} {E : XK} {X : Cx} {EE : EK}
theorem base_ok {o : Expr} {m : Str} {env : Env} {whole : Sem Value} (h : isSuper o = false) : attributeBase o m env whole = whole := by
  unfold attributeBase
  split
  · cases h
  · rfl
theorem valTy_ok (hG : G.K = X.K) {H : Hp} {I : List Addr} {S : So} {x : W} {v : V} {T : String} (r : Rel G H I S) (h : RW G H I x v) (e : valTy x S = some T) : tyV X.K T v H := by
  unfold valTy at e
  split at e
  · unfold RW at h; subst h; cases e; rfl
  · unfold RW at h; obtain ⟨a, vs, rfl, sq, _⟩ := h; cases e
    have q := sq.now
    rw [hG] at q
    exact .inl ⟨rfl, vs, q⟩
  · unfold RW at h; obtain ⟨a, rfl, hi⟩ := h
    split at e
    · rename_i hS
      obtain ⟨vs, q, _⟩ := r.obj _ _ _ hS hi
      cases e; exact .inl ⟨rfl, vs, .of q⟩
    · rename_i hS
      obtain ⟨vs, q, _⟩ := r.obj _ _ _ hS hi
      cases e; exact .inr (.inr (.inl ⟨rfl, .inl ⟨vs, q⟩⟩))
    · cases e
  · cases e
theorem few_ok {es : List Expr} {cp : Pos} {env : Env} (hst : es.all (fun e => !isStar e) = true) (hl : es.length < 20) :
    ((backTo cp (starEach es env)).all (fun x => !x.1) && (backToKw cp (keywordEach [] env)).all (fun x => x.1.isSome) && decide (es.length + ([] : List Keyword).length + (if ([] : List Keyword).isEmpty then 0 else 1) < 30)) = true := by
  have h1 : (backTo cp (starEach es env)).all (fun x => !x.1) = true := by
    have := plainS (pos := cp) (env := env) hst
    rw [List.any_eq_false] at this
    rw [List.all_eq_true]
    intro x hx
    have := this x hx
    simpa using this
  rw [h1]
  simp only [Bool.true_and, keywordEach, backToKw, List.map_nil, List.all_nil, List.length_nil, List.isEmpty_nil, if_true]
  exact decide_eq_true (by omega)
theorem tBM_Z (hG : G.K = X.K) {ra : En → So → Res W} {rs' : En → So → Res (List W)} {m : Str} {T : String} {σ : L2.St} {H : Hp} {Q : VK}
    (h : tE G EE (fun e S => (ra e S).bind fun u S1 => if valTy u S1 = some T then (rs' e S1).bind fun us S2 => method u m us S2 else .bad) σ H Q) : tBM X.K T (rMt G EE m) (tE G EE ra) (tAs G EE rs') σ H Q := by
  obtain ⟨I, S, e, rl, rs, h⟩ := h
  refine tE.step rl rs h fun w S1 H1 I1 v k1 p1 rl1 hv h1 => ?_
  split at h1
  · rename_i hty
    refine ⟨valTy_ok hG rl1 hv hty, ?_⟩
    exact tAs.step (S := S1) rl1 (rs.mono k1 p1) h1 fun ws S2 H2 I2 vs k2 p2 rl2 hvs h2 => ⟨I2, S2, w, ws, rl2, hv.mono k2 p2, hvs, h2⟩
  · exact False.elim h1
theorem se_meth (C : Cz P call CX k sx G E X) {o : Expr} {m : Str} {ap cp : Pos} {es : List Expr} {ra : En → So → Res W} {rs' : En → So → Res (List W)} (ho : PE X o (tE G EE ra)) (ha : PA X es (tAs G EE rs'))
    (hl : (ap.endLine == cp.line) = true) (hst : es.all (fun e => !isStar e) = true) (h1 : 1 ≤ es.length) (h20 : es.length < 20) (hs : isSuper o = false) {T : String} (hT : methTy m = some T) :
    PE X (.Call (.Attribute o m ap) es [] cp) (tE G EE fun e S => (ra e S).bind fun u S1 => if valTy u S1 = some T then (rs' e S1).bind fun us S2 => method u m us S2 else .bad) := by
  cases es with
  | nil => simp at h1
  | cons x r =>
    have hfew := few_ok (cp := cp) (env := X.env) hst h20
    rw [List.all_cons, Bool.and_eq_true] at hst
    have hs1 := starE (es := r) (env := X.env) (e := x) (by simpa using hst.1)
    have hs2 := plainS (pos := cp) (env := X.env) hst.2
    have hb := base_ok (m := m) (env := X.env) (whole := eval o X.env) hs
    by_cases m1 : m = "append"
    · subst m1
      cases hT
      exact (pe_bm PySem.F.plainAttrs_list PySem.F.slot_list_append PySem.F.type_list_append mz_append ho ha hb hfew hl hs1 hs2).of fun σ H Q h => tBM_Z C.K h
    · by_cases m2 : m = "join"
      · subst m2
        cases hT
        exact (pe_bm PySem.F.plainAttrs_str PySem.F.slot_str_join PySem.F.type_str_join (mz_join C.K) ho ha hb hfew hl hs1 hs2).of fun σ H Q h => tBM_Z C.K h
      · by_cases m3 : m = "split"
        · subst m3
          cases hT
          exact (pe_bm PySem.F.plainAttrs_str PySem.F.slot_str_split PySem.F.type_str_split mz_split ho ha hb hfew hl hs1 hs2).of fun σ H Q h => tBM_Z C.K h
        · by_cases m4 : m = "partition"
          · subst m4
            cases hT
            exact (pe_bm PySem.F.plainAttrs_str PySem.F.slot_str_partition PySem.F.type_str_partition mz_partition ho ha hb hfew hl hs1 hs2).of fun σ H Q h => tBM_Z C.K h
          · have hn : methTy m = none := by
              unfold methTy
              rw [if_neg m1, if_neg m2, if_neg m3, if_neg m4]
            rw [hn] at hT
            cases hT
/-- the call of a def of the program -/
def ownR (call : Cf) (f : Str) (fi : Fi) (ks : List (Option Str)) (us ws : List W) (S : So) : Res W := match argsOf fi us ks ws with
  | some vs => call f vs S
  | none => .bad
theorem sp_of {f : Str} {fi : Fi} {H : Hp} {I : List Addr} {S : So} {ws : List W} {vs : List V} {Q : VK} (rl : Rel G H I S) (h : RWs G H I ws vs) (hl : ws.length = fi.ps.length) (q : RE G (EKof G E) H I (kV' G Q) (call f ws S)) : spZ G call f fi.ps.length vs H Q E :=
  ⟨I, S, ws, rl, h, hl, q⟩
theorem se_own (C : Cz P call CX k sx G E X) {f : Str} {fi : Fi} {p pos : Pos} {es : List Expr} {kws : List Keyword} {g : Expr → En → So → Res W} (hF : P.F f = some fi) (hok : okN f = true) (hg : sx.sc.names.lookup f = some .globalImplicit)
    (hf : ∀ x, PE X x (tE G (EKof G E) (g x))) (hs : ∀ x e S, isStar x = true → g x e S = .bad) (hpl : plainA es kws = true) :
    PE X (.Call (.Name f p) es kws pos) (tE G (EKof G E) fun e S => (evL (fun x => g x e) es S).bind fun us S1 => (evK (fun x => g x e) kws S1).bind fun ws S2 => ownR call f fi (kws.map (·.arg)) us ws S2) := by
  obtain ⟨fa, fd, cf, F⟩ := C.cal f fi hF
  unfold plainA at hpl
  rw [Bool.and_eq_true] at hpl
  obtain ⟨hst, hkw⟩ := hpl
  have ha := pa_Z hf hs es
  have hk := pk_Z hf kws
  have noK : ∀ {us : List W} {S : So} {H : Hp} {I : List Addr} {vs : List V} {Q : VK}, Rel G H I S → RWs G H I us vs → RE G (EKof G E) H I (kV' G Q) (ownR call f fi [] us [] S) → vs.length = fi.ps.length ∧ spZ G call f fi.ps.length vs H Q E := fun {us S H I vs Q} rl hv h => by
    unfold ownR argsOf at h
    simp only [List.isEmpty_nil, if_true] at h
    by_cases hl : us.length = fi.ps.length
    · simp only [hl, if_true] at h
      exact ⟨by rw [← hv.len]; exact hl, sp_of rl hv hl h⟩
    · simp only [hl, if_false] at h
      exact False.elim h
  have wiK : ∀ {us ws : List W} {S : So} {H : Hp} {I : List Addr} {vs zs : List V} {Q : VK} {kw : Keyword} {kr : List Keyword}, kws = kw :: kr → ws.length = kws.length → Rel G H I S → RWs G H I us vs → RWs G H I ws zs → RE G (EKof G E) H I (kV' G Q) (ownR call f fi (kws.map (·.arg)) us ws S) →
      (vs.length, (kws.map (·.arg)).filterMap id) ∈ fi.kws ∧ zs.length = ((kws.map (·.arg)).filterMap id).length ∧ spZ G call f fi.ps.length (ordK fi.ps ((kws.map (·.arg)).filterMap id) vs zs) H Q E := fun {us ws S H I vs zs Q kw kr} ek hwl rl hv hz h => by
    unfold ownR argsOf at h
    have he : (kws.map (·.arg)).isEmpty = false := by rw [ek]; rfl
    simp only [he, Bool.false_eq_true, if_false] at h
    split at h
    · rename_i q
      split at q
      · rename_i hm
        cases q
        have hfl : ((kws.map (·.arg)).filterMap id).length = kws.length := by
          have : ∀ l : List Keyword, (l.map (·.arg)).all (·.isSome) = true → ((l.map (·.arg)).filterMap id).length = l.length := by
            intro l
            induction l with
            | nil => intro _; rfl
            | cons a r ih =>
              intro ha
              simp only [List.map_cons, List.all_cons, Bool.and_eq_true] at ha
              obtain ⟨y, hy⟩ := Option.isSome_iff_exists.mp ha.1
              rw [List.map_cons, List.filterMap_cons, hy]
              show (_ :: _).length = _
              rw [List.length_cons, List.length_cons, ih ha.2]
          exact this kws hkw
        have hzl : zs.length = ((kws.map (·.arg)).filterMap id).length := by rw [hfl, ← hwl, hz.len]
        refine ⟨by rw [← hv.len]; exact hm.1, hzl, sp_of rl (.ofP (ord_pair hv.paired hz.paired)) ?_ h⟩
        obtain ⟨_, hb⟩ := cf.kws _ _ hm.1
        obtain ⟨h1, _⟩ := hb (us.map fun _ => Value.none) (ws.map fun _ => Value.none) (by simp) (by rw [List.length_map, hwl, hfl])
        have h2 : (ordK fi.ps ((kws.map (·.arg)).filterMap id) us ws).length = (ordK fi.ps ((kws.map (·.arg)).filterMap id) (us.map fun _ => Value.none) (ws.map fun _ => Value.none)).length := by
          have pr : ∀ l : List W, Paired (fun (_ : W) (_ : Value) => True) l (l.map fun _ => Value.none) := fun l => by
            induction l with
            | nil => exact .nil
            | cons a r ih => exact .cons True.intro ih
          exact Paired.length (ord_pair (R := fun (_ : W) (_ : Value) => True) (pr us) (pr ws))
        rw [h2]; exact h1
      · cases q
    · exact False.elim h
  have kLen : ∀ {e : En} {S S' : So} {ws : List W} {l : List Keyword}, evK (fun x => g x e) l S = .ok ws S' → ws.length = l.length := by
    intro e S S' ws l
    induction l generalizing S ws with
    | nil => intro h; unfold evK at h; cases h; rfl
    | cons a r ih =>
      intro h
      unfold evK at h
      cases q : g a.value e S with
      | ok w S1 =>
        simp only [q, Res.bind] at h
        cases q2 : evK (fun x => g x e) r S1 with
        | ok r' S2 => simp only [q2] at h; cases h; simp [ih q2]
        | exn _ _ => simp only [q2] at h; cases h
        | bad => simp only [q2] at h; cases h
      | exn _ _ => simp only [q, Res.bind] at h; cases h
      | bad => simp only [q, Res.bind] at h; cases h
  cases kws with
  | nil =>
    cases es with
    | nil =>
      refine (own0 C hok hg cf F).of fun σ H Q ⟨I, S, e, rl, rs, h⟩ => ?_
      exact noK (us := []) (vs := []) rl .nil h
    | cons x r =>
      refine (own1 C hok hg cf F ha hst).of fun σ H Q ⟨I, S, e, rl, rs, h⟩ => ?_
      exact tAs.step rl rs h fun us S1 H1 I1 vs k1 p1 rl1 hv h1 => noK rl1 hv h1
  | cons kw kr =>
    have kstep : ∀ {σ : L2.St} {H : Hp} {I : List Addr} {S : So} {e : En} {us : List W} {vs : List V} {Q : VK}, Rel G H I S → RS G H I e σ → RWs G H I us vs → RE G (EKof G E) H I (kV' G Q) ((evK (fun x => g x e) (kw :: kr) S).bind fun ws S2 => ownR call f fi ((kw :: kr).map (·.arg)) us ws S2) →
        tAs G (EKof G E) (fun e S => evK (fun x => g x e) (kw :: kr) S) σ H (fun zs H1 => (vs.length, ((kw :: kr).map (·.arg)).filterMap id) ∈ fi.kws ∧ zs.length = (((kw :: kr).map (·.arg)).filterMap id).length ∧ spZ G call f fi.ps.length (ordK fi.ps (((kw :: kr).map (·.arg)).filterMap id) vs zs) H1 Q E) := fun {σ H I S e us vs Q} rl rs hv h => by
      refine ⟨I, S, e, rl, rs, ?_⟩
      show RE G (EKof G E) H I _ (evK (fun x => g x e) (kw :: kr) S)
      cases q : evK (fun x => g x e) (kw :: kr) S with
      | bad => rw [q] at h; exact h
      | exn x S1 => rw [q] at h; exact h
      | ok ws S1 =>
        rw [q] at h
        exact fun H1 I1 k1 p1 rl1 zs hz => wiK rfl (kLen q) rl1 (hv.mono k1 p1) hz (RE.mono k1 p1 h)
    cases es with
    | nil =>
      refine (own2 C hok hg cf F hk hkw).of fun σ H Q ⟨I, S, e, rl, rs, h⟩ => ?_
      exact kstep (us := []) (vs := []) rl rs .nil h
    | cons x r =>
      refine (own3 C hok hg cf F ha hst hk hkw).of fun σ H Q ⟨I, S, e, rl, rs, h⟩ => ?_
      exact tAs.step rl rs h fun us S1 H1 I1 vs k1 p1 rl1 hv h1 => kstep rl1 (rs.mono k1 p1) hv h1
end
end Z

/-! Walks, targets, comprehensions. -/
namespace Z
open PySem PySem.Spec L2
section
variable {P : Pg} {call : Cf} {CX : CXT} {k : Nat} {sx : Sx} {G : Gd} {E : XK} {X : Cx} {EE : EK}
/-- the layer's walk J does what ours does -/
def WkJ (G : Gd) (q : Wk) (J : It) (H : Hp) (I : List Addr) : Prop := ∀ H2 I2 S2 j, Keep H H2 → I <+: I2 → Rel G H2 I2 S2 →
  (∀ w, q.at j S2 = some (some w) → J.go j H2 ∧ ∀ x H3, J.yld j H2 x H3 → Keep H2 H3 ∧ Rel G H3 I2 S2 ∧ RW G H3 I2 w x) ∧ (q.at j S2 = some none → J.stop j H2)
def kW (G : Gd) (R : It → Hp → Prop) : AK Wk := fun q _ H I => ∀ J, WkJ G q J H I → R J H
def tI (G : Gd) (EE : EK) (r : En → So → Res Wk) : TI := fun σ H R => ∃ I S e, Rel G H I S ∧ RS G H I e σ ∧ RE G EE H I (kW G R) (r e S)
theorem RWs.inv2 {H : Hp} {I : List Addr} {ws : List W} {vs us : List V} (h : RWs G H I ws vs) (j : Nat) {w : W} (e : ws[j]? = some w) : ∃ v, vs[j]? = some v ∧ RW G H I w v := h.get e
theorem wk_tup (hG : G.K = X.K) {pins : List (Addr × Obj)} {σ : L2.St} {s : Shared} {H : Hp} {I : List Addr} {a : Addr} {ws : List W} {vs : List V} (sq : SqT G.K H a vs) (z : RWs G H I ws vs)
    : WkJ G (.seq ws) (Itt X.K a) H I := by
  intro H2 I2 S2 j k2 p2 rl2
  rw [hG] at sq
  have sq2 := keepT k2 sq
  have z2 := z.mono k2 p2
  refine ⟨fun w e => ?_, fun e => ?_⟩
  · have e' : ws[j]? = some w := Option.some.inj e
    obtain ⟨v, e1, hv⟩ := z2.get e'
    refine ⟨⟨vs, v, sq2, e1⟩, fun x H3 ⟨e2, e3⟩ => ?_⟩
    subst e2
    have e4 := e3 vs sq2
    rw [e1] at e4; cases e4
    exact ⟨Keep.refl _, rl2, hv⟩
  · have e' : ws[j]? = none := Option.some.inj e
    have e1 := z2.getN e'
    exact ⟨vs, sq2, by rw [List.getElem?_eq_none_iff] at e1; exact e1⟩
theorem wk_fl (hG : G.K = X.K) {H : Hp} {I : List Addr} {a : Addr} {ws : List W} {vs : List V} (sq : SqF G.K H a vs) (z : RWs G H I ws vs) : WkJ G (.seq ws) (Itl X.K a) H I := by
  intro H2 I2 S2 j k2 p2 rl2
  have sq2 := (keepF k2 sq).now
  rw [hG] at sq2
  have z2 := z.mono k2 p2
  refine ⟨fun w e => ?_, fun e => ?_⟩
  · have e' : ws[j]? = some w := Option.some.inj e
    obtain ⟨v, e1, hv⟩ := z2.get e'
    refine ⟨⟨vs, v, sq2, e1⟩, fun x H3 ⟨e2, e3⟩ => ?_⟩
    subst e2
    have e4 := e3 vs sq2
    rw [e1] at e4; cases e4
    exact ⟨Keep.refl _, rl2, hv⟩
  · have e' : ws[j]? = none := Option.some.inj e
    have e1 := z2.getN e'
    exact ⟨vs, sq2, by rw [List.getElem?_eq_none_iff] at e1; exact e1⟩
theorem wk_live {H : Hp} {I : List Addr} {a : Addr} {i n : Nat} (hi : I[i]? = some a) : WkJ G (.live i n) (Itl X.K a) H I := by
  intro H2 I2 S2 j k2 p2 rl2
  have hi2 := pre_get p2 hi
  refine ⟨fun w e => ?_, fun e => ?_⟩
  · unfold Wk.at at e
    simp only at e
    split at e
    · rename_i xs hS
      have e' : xs[j]? = some w := Option.some.inj e
      obtain ⟨vs, q, z⟩ := rl2.obj _ _ _ hS hi2
      obtain ⟨v, e1, hv⟩ := z.get e'
      refine ⟨⟨vs, v, .of q, e1⟩, fun x H3 ⟨e2, e3⟩ => ?_⟩
      subst e2
      have e4 := e3 vs (.of q)
      rw [e1] at e4; cases e4
      exact ⟨Keep.refl _, rl2, hv⟩
    · cases e
  · unfold Wk.at at e
    simp only at e
    split at e
    · rename_i xs hS
      have e' : xs[j]? = none := Option.some.inj e
      obtain ⟨vs, q, z⟩ := rl2.obj _ _ _ hS hi2
      have e1 := z.getN e'
      exact ⟨vs, .of q, by rw [List.getElem?_eq_none_iff] at e1; exact e1⟩
    · cases e
theorem wk_str {H : Hp} {I : List Addr} (z : Str) : WkJ G (.seq (z.cps.toList.map fun c => W.str ⟨#[c]⟩)) (Its z) H I := by
  intro H2 I2 S2 j k2 p2 rl2
  refine ⟨fun w e => ?_, fun e => ?_⟩
  · have e' := Option.some.inj e
    rw [List.getElem?_map] at e'
    obtain ⟨c, e1, e2⟩ := Option.map_eq_some_iff.mp e'
    rw [Array.getElem?_toList] at e1
    refine ⟨(Array.getElem?_eq_some_iff.mp e1).1, fun x H3 ⟨e3, c', e4, e5⟩ => ?_⟩
    subst e3 e5 e2
    rw [e1] at e4; cases e4
    exact ⟨Keep.refl _, rl2, by unfold RW; rfl⟩
  · have e' := Option.some.inj e
    rw [List.getElem?_map, Option.map_eq_none_iff, Array.getElem?_toList] at e'
    exact Array.getElem?_eq_none_iff.mp e'
theorem wk_range {H : Hp} {I : List Addr} (lo : Int) (n : Nat) : WkJ G (.seq (rangeW lo n)) (Itr lo n) H I := by
  intro H2 I2 S2 j k2 p2 rl2
  unfold rangeW
  refine ⟨fun w e => ?_, fun e => ?_⟩
  · have e' := Option.some.inj e
    rw [List.getElem?_map] at e'
    obtain ⟨c, e1, e2⟩ := Option.map_eq_some_iff.mp e'
    obtain ⟨hl, e3⟩ := List.getElem?_eq_some_iff.mp e1
    rw [List.getElem_range] at e3
    rw [List.length_range] at hl
    subst e3
    refine ⟨hl, fun x H3 ⟨e4, e5⟩ => ?_⟩
    subst e4 e5 e2
    exact ⟨Keep.refl _, rl2, by unfold RW; rfl⟩
  · have e' := Option.some.inj e
    rw [List.getElem?_map, Option.map_eq_none_iff, List.getElem?_eq_none_iff, List.length_range] at e'
    exact e'
theorem fold_ok {iter : Expr} {env : Env} (h : isSet iter = false) (x : Value) : foldedSetIterable iter env x = pure x := by
  cases iter <;> first | rfl | cases h
theorem isRange_ok {iter : Expr} {es : List Expr} (h : isRange iter = some es) : ∃ p pos, iter = .Call (.Name "range" p) es [] pos ∧ es.all (fun e => !isStar e) = true ∧ (es.length = 1 ∨ es.length = 2) := by
  unfold isRange at h
  split at h
  · split at h
    · rename_i hc
      cases h
      obtain ⟨rfl, h1, h2⟩ := hc
      exact ⟨_, _, rfl, h1, h2⟩
    · cases h
  · cases h
theorem pi_Z (C : Cz P call CX k sx G E X) {tg : Expr} {f : Expr → En → So → Res W} (hf : ∀ x, PE X x (tE G EE (f x))) (hs : ∀ x e S, isStar x = true → f x e S = .bad) (iter : Expr) : PI X tg iter (tI G EE fun e S => walkE (rgOk P sx) (fun x => f x e) iter S) := by
  refine ⟨fun pins s σ H R J ⟨I, S, e, rl, rs, h⟩ => ?_⟩
  unfold walkE at h
  simp only at h
  split at h
  · exact False.elim h
  · rename_i hset
    split at h
    · rename_i es er
      obtain ⟨p, pos, rfl, hst, hl⟩ := isRange_ok er
      split at h
      · rename_i hrg
        unfold rgOk at hrg
        rw [Bool.and_eq_true] at hrg
        have hF : P.F "range" = none := by simpa using hrg.1
        have hg := C.gl (of_decide_eq_true hrg.2)
        have hm := C.bi "range" List.mem_cons_self hF
        have ha := pa_Z hf hs es
        cases q : evL (fun x => f x e) es S with
        | bad => rw [q] at h; exact False.elim h
        | exn y S1 =>
          rw [q] at h
          cases es with
          | nil => rcases hl with h | h <;> simp at h
          | cons a r =>
            rw [List.all_cons, Bool.and_eq_true] at hst
            cases r with
            | nil => exact (pi_range1 hg hm ha (by rw [starE (by simpa using hst.1)]; rfl)).run pins s σ H R J ⟨I, S, e, rl, rs, by show RE G EE H I _ (evL (fun x => f x e) _ S); rw [q]; exact h⟩
            | cons b r =>
              rw [List.all_cons, Bool.and_eq_true] at hst
              cases r with
              | nil => exact (pi_range2 hg hm ha (by rw [starE (by simpa using hst.1), starE (by simpa using hst.2.1)]; rfl) (by rw [starE (by simpa using hst.2.1)]; rfl)).run pins s σ H R J ⟨I, S, e, rl, rs, by show RE G EE H I _ (evL (fun x => f x e) _ S); rw [q]; exact h⟩
              | cons c r => rcases hl with h | h <;> simp at h
        | ok us S1 =>
          rw [q] at h
          simp only [Res.bind] at h
          have hul := evL_len q
          cases es with
          | nil => rcases hl with h | h <;> simp at h
          | cons a r =>
            rw [List.all_cons, Bool.and_eq_true] at hst
            cases r with
            | nil =>
              refine (pi_range1 hg hm ha (by rw [starE (by simpa using hst.1)]; rfl)).run pins s σ H R J ⟨I, S, e, rl, rs, ?_⟩
              show RE G EE H I _ (evL (fun x => f x e) _ S)
              rw [q]
              intro H1 I1 k1 p1 rl1 vs hv
              split at h
              · obtain ⟨v, rfl, q⟩ := hv.one
                unfold RW at q; subst q
                split at h
                · rename_i hb
                  exact ⟨_, rfl, hb.1, hb.2, h H1 I1 k1 p1 rl1 _ (wk_range 0 _)⟩
                · exact False.elim h
              · simp at hul
              · exact False.elim h
            | cons b r =>
              rw [List.all_cons, Bool.and_eq_true] at hst
              cases r with
              | nil =>
                refine (pi_range2 hg hm ha (by rw [starE (by simpa using hst.1), starE (by simpa using hst.2.1)]; rfl) (by rw [starE (by simpa using hst.2.1)]; rfl)).run pins s σ H R J ⟨I, S, e, rl, rs, ?_⟩
                show RE G EE H I _ (evL (fun x => f x e) _ S)
                rw [q]
                intro H1 I1 k1 p1 rl1 vs hv
                split at h
                · simp at hul
                · obtain ⟨v, u, rfl, q1, q2⟩ := hv.two
                  unfold RW at q1 q2; subst q1 q2
                  split at h
                  · rename_i hb
                    exact ⟨_, _, rfl, ⟨hb.1.1, hb.1.2, hb.2.1, hb.2.2⟩, h H1 I1 k1 p1 rl1 _ (wk_range _ _)⟩
                  · exact False.elim h
                · exact False.elim h
              | cons c r => rcases hl with h | h <;> simp at h
      · exact False.elim h
    · cases q : f iter e S with
      | bad => rw [q] at h; exact False.elim h
      | exn x S1 =>
        rw [q] at h
        exact (pi_list (hf iter)).run pins s σ H R J ⟨I, S, e, rl, rs, by rw [q]; exact h⟩
      | ok u S1 =>
        rw [q] at h
        simp only [Res.bind] at h
        unfold walkV at h
        cases u with
        | tup ws =>
          refine (pi_tup (hf iter)).run pins s σ H R J ⟨I, S, e, rl, rs, ?_⟩
          rw [q]
          intro H1 I1 k1 p1 rl1 v hv
          unfold RW at hv
          obtain ⟨a, vs, rfl, sq, z⟩ := hv
          exact ⟨a, rfl, ⟨vs, by rw [← C.K]; exact sq⟩, h H1 I1 k1 p1 rl1 _ (wk_tup (pins := pins) (σ := σ) (s := s) C.K sq z)⟩
        | fl ws =>
          refine (pi_list (hf iter)).run pins s σ H R J ⟨I, S, e, rl, rs, ?_⟩
          rw [q]
          intro H1 I1 k1 p1 rl1 v hv
          unfold RW at hv
          obtain ⟨a, vs, rfl, sq, z⟩ := hv
          exact ⟨a, rfl, ⟨vs, by rw [← C.K]; exact sq.now⟩, h H1 I1 k1 p1 rl1 _ (wk_fl C.K sq z)⟩
        | str z =>
          refine (pi_str (hf iter)).run pins s σ H R J ⟨I, S, e, rl, rs, ?_⟩
          rw [q]
          intro H1 I1 k1 p1 rl1 v hv
          unfold RW at hv
          subst hv
          exact ⟨z, rfl, h H1 I1 k1 p1 rl1 _ (wk_str z)⟩
        | ref i =>
          simp only at h
          split at h
          · rename_i xs hS
            refine (pi_list (hf iter)).run pins s σ H R J ⟨I, S, e, rl, rs, ?_⟩
            rw [q]
            intro H1 I1 k1 p1 rl1 v hv
            unfold RW at hv
            obtain ⟨a, rfl, hi⟩ := hv
            obtain ⟨vs, q1, z⟩ := rl1.obj _ _ _ hS hi
            exact ⟨a, rfl, ⟨vs, .of q1⟩, h H1 I1 k1 p1 rl1 _ (wk_live hi)⟩
          · exact False.elim h
        | _ => exact False.elim h

/-! ### targets -/
theorem loc_ok {sc : Scope} {x : Str} (h : sc.names.lookup x = some .local ∨ sc.names.lookup x = some .cell) : Loc sc x := h
/-- what a store leaves: the names' new values; other slots as they were -/
def gZ (G : Gd) (sx : Sx) (tg : Expr) : TG := fun v σ H Q => ∃ I S e w e2, Rel G H I S ∧ RS G H I e σ ∧ RW G H I w v ∧ asg sx e tg w = some e2 ∧
  ∀ σ', RS G H I e2 σ' → σ'.length = σ.length → (∀ i, i ∉ slotsT sx.N tg → σ'[i]? = σ[i]?) → Q σ' H
theorem asgN_ok {e e2 : En} {x : Str} {w : W} (h : asgN sx e x w = some e2) : ∃ i, idx sx.N x = some i ∧ e2 = e.set i (some w) ∧ (sx.sc.names.lookup x = some .local ∨ (sx.sc.names.lookup x = some .cell ∧ sx.fn x = true)) := by
  unfold asgN at h
  split at h
  · rename_i hl
    obtain ⟨i, e1, rfl⟩ := Option.map_eq_some_iff.mp h
    exact ⟨i, e1, rfl, .inl hl⟩
  · rename_i hl
    split at h
    · rename_i hf
      obtain ⟨i, e1, rfl⟩ := Option.map_eq_some_iff.mp h
      exact ⟨i, e1, rfl, .inr ⟨hl, hf⟩⟩
    · cases h
  · cases h
theorem pg_nameZ (C : Cz P call CX k sx G E X) {x : Str} {p : Pos} {i : Nat} (h1 : idx sx.N x = some i) (h2 : sx.sc.names.lookup x = some .local ∨ (sx.sc.names.lookup x = some .cell ∧ sx.fn x = true)) : PG X (.Name x p) (gName i) := by
  refine pg_name (by rw [C.hN]; exact C.nd) (by rw [C.hN]; exact idx_ok h1) (by rw [C.sc]; exact h2.elim .inl fun q => .inr q.1) ?_
  rcases h2 with q | q
  · exact .inr (by rw [C.sc]; exact q)
  · exact .inl (C.fn x q.2)
theorem set_other {σ : L2.St} {i j : Nat} {v : Option V} (h : j ≠ i) : (σ.set i v)[j]? = σ[j]? := List.getElem?_set_ne (Ne.symm h)
/-- several names, one after another -/
theorem pgs_Z (C : Cz P call CX k sx G E X) : ∀ (es : List Expr) (ws : List W) (e e2 : En), asgL sx es ws e = some e2 → ∃ t, PGs X es t ∧ ws.length = es.length ∧ ∀ (vs : List V) (σ : L2.St) (H : Hp) (I : List Addr) (Q : L2.St → Hp → Prop), RS G H I e σ → RWs G H I ws vs →
    (∀ σ', RS G H I e2 σ' → σ'.length = σ.length → (∀ i, i ∉ slotsL sx.N es → σ'[i]? = σ[i]?) → Q σ' H) → t vs σ H Q
  | [], [], e, e2, h => by
    unfold asgL at h; cases h
    exact ⟨gNil, pgs_nil, rfl, fun vs σ H I Q rs z q => ⟨z.inv0, q σ rs rfl fun _ _ => rfl⟩⟩
  | x :: r, w :: ws, e, e2, h => by
    cases x with
    | Name x p =>
      unfold asgL at h
      obtain ⟨e1, h1, h2⟩ := Option.bind_eq_some_iff.mp h
      obtain ⟨i, hi, rfl, hk⟩ := asgN_ok h1
      obtain ⟨t, pt, hl, ht⟩ := pgs_Z C r ws _ e2 h2
      refine ⟨_, pgs_cons (pg_nameZ C hi hk) pt, by simp [hl], fun vs σ H I Q rs z q => ?_⟩
      obtain ⟨v, vr, rfl, hv, hz⟩ := z.inv
      refine ⟨v, vr, rfl, ht vr _ H I Q (rs.put hv i) hz fun σ' rs' hl' ho => q σ' rs' (by rw [hl']; simp) fun j hj => ?_⟩
      have hj' : j ∉ (idx sx.N x).toList ++ slotsL sx.N r := hj
      rw [hi] at hj'
      simp only [Option.toList_some, List.mem_append, List.mem_singleton, not_or] at hj'
      rw [ho j hj'.2, set_other hj'.1]
    | _ => simp [asgL] at h
  | [], _ :: _, _, _, h => by simp [asgL] at h
  | .Name _ _ :: _, [], _, _, h => by simp [asgL] at h
  | _ :: _, [], _, _, h => by simp [asgL] at h
theorem each_len {env : Env} : ∀ {es : List Expr}, (∀ x ∈ es, ∃ y p, x = .Name y p) → (assignEach es env).length = es.length ∧ (assignEach es env).findIdx? (·.1) = none
  | [], _ => ⟨rfl, rfl⟩
  | x :: es, h => by
    obtain ⟨y, p, rfl⟩ := h x List.mem_cons_self
    obtain ⟨a, b⟩ := each_len (es := es) (env := env) fun z hz => h z (List.mem_cons_of_mem _ hz)
    refine ⟨?_, ?_⟩
    · show ((false, assign (.Name y p) env) :: assignEach es env).length = _
      rw [List.length_cons, a]; rfl
    · show ((false, assign (.Name y p) env) :: assignEach es env).findIdx? (·.1) = none
      rw [List.findIdx?_cons, b]; rfl
theorem asgL_names : ∀ {es : List Expr} {ws : List W} {e e2 : En}, asgL sx es ws e = some e2 → ∀ x ∈ es, ∃ y p, x = .Name y p
  | [], _, _, _, _, x, hx => by cases hx
  | x :: r, [], e, e2, h, _, _ => by cases x <;> simp [asgL] at h
  | x :: r, w :: ws, e, e2, h, y, hy => by
    cases x with
    | Name x p =>
      unfold asgL at h
      obtain ⟨e1, h1, h2⟩ := Option.bind_eq_some_iff.mp h
      rcases List.mem_cons.mp hy with rfl | hy
      · exact ⟨x, p, rfl⟩
      · exact asgL_names h2 y hy
    | _ => simp [asgL] at h
theorem pg_Z (C : Cz P call CX k sx G E X) (tg : Expr) : PG X tg (gZ G sx tg) := by
  refine ⟨fun pins s σ H v u Q J rv ⟨I, S, e, w, e2, rl, rs, hw, ha, q⟩ => ?_⟩
  cases tg with
  | Name x p =>
    obtain ⟨i, hi, rfl, hk⟩ := asgN_ok ha
    refine (pg_nameZ C hi hk).run pins s σ H v u Q J rv (q _ (rs.put hw i) (by simp) fun j hj => set_other ?_)
    have hj' : j ∉ (idx sx.N x).toList := hj
    rw [hi] at hj'
    simpa using hj'
  | Tuple es kk p =>
    unfold asg at ha
    simp only at ha
    split at ha
    · rename_i ws
      obtain ⟨t, pt, hl, ht⟩ := pgs_Z C es ws e e2 ha
      obtain ⟨l1, l2⟩ := each_len (env := X.env) (asgL_names ha)
      unfold RW at hw
      obtain ⟨a, vs, rfl, sq, z⟩ := hw
      rw [C.K] at sq
      exact (pg_tup C.calm pt l1 l2).run pins s σ H _ u Q J rv ⟨a, vs, rfl, sq, by rw [← z.len]; exact hl, ht vs σ H I Q rs z q⟩
    · cases ha
  | _ => cases ha
end
end Z

/-! Comprehensions; every expression. -/
namespace Z
open PySem PySem.Spec L2
theorem RE.noX {α : Type} {G : Gd} {E E' : EK} {H : Hp} {I : List Addr} {k : AK α} {r : Res α} (h : RE G E H I k (noX r)) : RE G E' H I k r := by
  cases r with
  | ok a S => exact h
  | exn x S => exact False.elim h
  | bad => exact h
/-- forgotten slots: two lists that differ in them alone are the same behind -/
theorem wipe_at {σ : L2.St} {i : Nat} : ∀ {vs : List Nat}, i ∈ vs → i < σ.length → (wipe σ vs)[i]? = some none
  | v :: vs, h, hl => by
    unfold wipe
    by_cases e : v = i
    · subst e
      exact List.getElem?_set_self (by rw [wipe_length]; exact hl)
    · rw [List.getElem?_set_ne e]
      exact wipe_at ((List.mem_cons.mp h).resolve_left fun q => e q.symm) hl
theorem wipe_eq {σ σ2 : L2.St} {vs : List Nat} (hl : σ2.length = σ.length) (h : ∀ i, i ∉ vs → σ2[i]? = (wipe σ vs)[i]?) : wipe σ2 vs = wipe σ vs := by
  apply List.ext_getElem?
  intro i
  by_cases hi : i ∈ vs
  · by_cases hlt : i < σ.length
    · rw [wipe_at hi hlt, wipe_at hi (by rw [hl]; exact hlt)]
    · rw [List.getElem?_eq_none (by rw [wipe_length]; omega), List.getElem?_eq_none (by rw [wipe_length]; omega)]
  · rw [wipe_out hi, h i hi]
section
variable {P : Pg} {call : Cf} {CX : CXT} {k : Nat} {sx : Sx} {G : Gd} {E : XK} {X : Cx} {EE : EK}
abbrev E0' : XK := fun _ _ _ => False
/-- the context of a comprehension's block -/
def sxB (sx : Sx) (scope : Scope) : Sx := ⟨sx.N, relS scope sx.sc, fun x => scope.names.lookup x == some .cell⟩
theorem Cz.blk (C : Cz P call CX k sx G E X) {scope : Scope} (hk : scope.kind = .function) (s : Shared) (H : Hp) (D : Addr) (cl : List (Str × Addr)) (fp : List Addr) :
    Cz P call CX k (sxB sx scope) G E0' (X.blk s H scope (compEnvC scope cl D X.env) fp) where
  hN := C.hN
  nd := C.nd
  sc := by
    show relS scope X.env.scope = relS scope sx.sc
    rw [C.sc]
  kind := hk
  K := C.K
  mg := C.mg
  calm := C.calm
  room := C.room
  grd := C.grd
  sys := C.sys
  fn := fun x h => h
  glb := C.glb
  bi := C.bi
  cal := C.cal
  px := fun pins σ H' s' e t J h => C.p0 _ _ _ _ _ h
  p0 := C.p0
theorem pts_Z {f : Expr → En → So → Res W} {Y : Cx} (hf : ∀ x, PT Y x (tT G EE (tst (f x)))) : ∀ ifs : List Expr, ifs.length ≤ 1 → PTs Y ifs (tT G EE fun e S => ifsE (fun x => f x e) ifs S)
  | [], _ => ⟨fun pins s σ H Q J ⟨I, S, e, rl, rs, h⟩ => pts_nil.run pins s σ H Q J (RE.now (k := kB Q) h rl)⟩
  | [c], _ => ⟨fun pins s σ H Q J q => (pts_one (hf c)).run pins s σ H Q J q⟩
  | _ :: _ :: _, h => by simp at h
theorem lcTurn_eq {f : En → Expr → So → Res W} {sx : Sx} {e : En} {tg : Expr} {ifs : List Expr} {elt : Expr} {D : Nat} {w : W} {u : Unit} {S : So} : lcTurn f sx e tg ifs elt D w u S = (match asg sx e tg w with
  | none => .bad
  | some e2 => (ifsE (f e2) ifs S).bind fun b S3 => if b then (f e2 elt S3).bind fun y S4 => (ofO (pushTo D y S4) S4).bind fun S5 _ => .ok ((), true) S5
    else .ok ((), true) S3) := rfl
theorem push_ok {G : Gd} {H : Hp} {I : List Addr} {S S' : So} {D : Nat} {y : W} (r : Rel G H I S) {a : Addr} (hi : I[D]? = some a) (h : pushTo D y S = some S') : ∃ acc ws, H a = some (.lst acc) ∧ acc.length < sizeLine ∧ RWs G H I ws acc ∧ S' = S.set D (.lst (ws ++ [y])) := by
  unfold pushTo at h
  split at h
  · rename_i ws hS
    obtain ⟨acc, q, z⟩ := r.obj _ _ _ hS hi
    split at h
    · rename_i hl
      cases h
      exact ⟨acc, ws, q, by rw [← z.len]; exact hl, z, rfl⟩
    · cases h
  · cases h
abbrev compR (P : Pg) (sx : Sx) (f : Sx → En → Expr → So → Res W) (elt tg iter : Expr) (ifs : List Expr) (scope : Scope) : En → So → Res W := fun e S => (walkE (rgOk P sx) (f sx e) iter S).bind fun q S1 =>
      (noX (turns q (lcTurn (f (sxB sx scope)) (sxB sx scope) (wipeW e ((ownOf sx.N scope).map (·.2))) tg ifs elt S1.length) q.len 0 () (S1 ++ [.lst []]))).bind fun _ S6 => .ok (.ref S1.length) S6
abbrev compT (P : Pg) (sx : Sx) (G : Gd) (E : XK) (f : Sx → En → Expr → So → Res W) (elt tg iter : Expr) (ifs : List Expr) (scope : Scope) : TE :=
  tLc (tI G (EKof G E) fun e S => walkE (rgOk P sx) (fun x => f sx e x) iter S) (gZ G (sxB sx scope) tg) (tT G (EKof G E0') fun e S => ifsE (fun x => f (sxB sx scope) e x) ifs S) (tE G (EKof G E0') fun e S => f (sxB sx scope) e elt S) ((ownOf sx.N scope).map (·.2))
theorem lc_Z {f : Sx → En → Expr → So → Res W} {elt tg iter : Expr} {ifs : List Expr} {scope : Scope} (ho : ((slotsT sx.N tg).all fun i => ((ownOf sx.N scope).map (·.2)).contains i) = true) :
    ∀ (σ : L2.St) (H : Hp) (Q : VK), tE G (EKof G E) (compR P sx f elt tg iter ifs scope) σ H Q → compT P sx G E f elt tg iter ifs scope σ H Q := by
  rintro σ H Q ⟨I, S, e, rl, rs, h⟩
  refine ⟨I, S, e, rl, rs, (RE.bind h).imp fun q S1 H1 I1 k1 p1 rl1 h1 J hJ D hD => ?_⟩
  -- the new list
  have kn := Keep.new (o := .lst []) hD
  have rl2 : Rel G (upd H1 D (.lst [])) (I1 ++ [D]) (S1 ++ [.lst []]) := rl1.new hD ⟨[], upd_same, .nil⟩
  have hDi : (I1 ++ [D])[S1.length]? = some D := by rw [← rl1.len]; simp
  have rs1 := rs.mono k1 p1
  have h2 := RE.noX (E' := EKof G E0') (RE.bind (h1.mono kn (List.prefix_append I1 [D])))
  refine ⟨fun j m Hj => ∃ Ij Sj, Rel G Hj Ij Sj ∧ Keep H1 Hj ∧ (I1 ++ [D]) <+: Ij ∧ RE G (EKof G E0') Hj Ij (fun (_ : Unit) S6 H6 I6 => RE G (EKof G E) H6 I6 (kV' G Q) (.ok (.ref S1.length) S6)) (turns q (lcTurn (f (sxB sx scope)) (sxB sx scope) (wipeW e ((ownOf sx.N scope).map (·.2))) tg ifs elt S1.length) m j () Sj), ⟨q.len, _, _, rl2, kn, List.prefix_refl _, h2⟩, ?_⟩
  rintro j m Hj ⟨Ij, Sj, rlj, kj, pj, hj⟩
  obtain ⟨w1, w2⟩ := hJ Hj Ij Sj j kj ((List.prefix_append _ _).trans pj) rlj
  unfold turns at hj
  cases qa : q.at j Sj with
  | none => rw [qa] at hj; exact False.elim hj
  | some o =>
    rw [qa] at hj
    cases o with
    | none =>
      have h3 := RE.now (k := fun (_ : Unit) S6 H6 I6 => RE G (EKof G E) H6 I6 (kV' G Q) (.ok (.ref S1.length) S6)) hj rlj
      exact .inl ⟨w2 qa, kV_now h3 rlj (by unfold RW; exact ⟨D, rfl, pre_get pj hDi⟩)⟩
    | some w =>
      cases m with
      | zero => exact False.elim hj
      | succ m =>
        simp only at hj
        obtain ⟨jg, jy⟩ := w1 w qa
        refine .inr ⟨jg, fun H' => ∃ I' S', Rel G H' I' S' ∧ Keep H1 H' ∧ (I1 ++ [D]) <+: I' ∧ RE G (EKof G E0') H' I' (fun (_ : Unit) S6 H6 I6 => RE G (EKof G E) H6 I6 (kV' G Q) (.ok (.ref S1.length) S6)) (turns q (lcTurn (f (sxB sx scope)) (sxB sx scope) (wipeW e ((ownOf sx.N scope).map (·.2))) tg ifs elt S1.length) m (j + 1) () S'),
          fun H' nx => ⟨m, Nat.lt_succ_self m, nx⟩, fun x H3 hy => ?_⟩
        obtain ⟨k3, rl3, hw3⟩ := jy x H3 hy
        have hj3 := hj.mono k3 (List.prefix_refl Ij)
        rw [lcTurn_eq] at hj3
        cases ea : asg (sxB sx scope) (wipeW e ((ownOf sx.N scope).map (·.2))) tg w with
        | none => rw [ea] at hj3; exact False.elim hj3
        | some e2 =>
          rw [ea] at hj3
          simp only at hj3
          have rs3 : RS G H3 Ij (wipeW e ((ownOf sx.N scope).map (·.2))) (wipe σ ((ownOf sx.N scope).map (·.2))) := (rs1.mono (kj.trans k3) ((List.prefix_append _ _).trans pj)).wipe _
          refine ⟨Ij, Sj, _, w, e2, rl3, rs3, hw3, ea, fun σ2 rs4 hl4 ho4 => ?_⟩
          refine ⟨wipe_eq (by rw [hl4, wipe_length]) fun i hi => ho4 i fun hm => ?_, ?_⟩
          · have := List.all_eq_true.mp ho i hm
            exact hi (List.contains_iff_mem.mp this)
          · refine ⟨Ij, Sj, e2, rl3, rs4, (RE.bind (RE.bind hj3)).imp fun b S4 H4 I4 k4 p4 rl4 h4 => ?_⟩
            cases b with
            | false =>
              unfold kB
              simp only [Bool.false_eq_true, if_false] at h4 ⊢
              exact ⟨I4, S4, rl4, (kj.trans k3).trans k4, pj.trans p4, RE.now h4 rl4⟩
            | true =>
              unfold kB
              simp only [if_true] at h4 ⊢
              refine ⟨I4, S4, e2, rl4, rs4.mono k4 p4, (RE.bind h4).imp fun y S5 H5 I5 k5 p5 rl5 h5 v hv => ?_⟩
              have hD5 : I5[S1.length]? = some D := pre_get ((pj.trans p4).trans p5) hDi
              cases e6 : pushTo S1.length y S5 with
              | none => rw [e6] at h5; exact False.elim h5
              | some S6 =>
                rw [e6] at h5
                simp only [ofO, Res.bind] at h5
                obtain ⟨acc, ws, qD, hlt, z, rfl⟩ := push_ok rl5 hD5 e6
                have kp := rl5.keepPut (u := .lst (acc ++ [v])) hD5
                have rl6 := rl5.put (u := .lst (acc ++ [v])) (o := .lst (ws ++ [y])) hD5 ⟨_, upd_same, (z.append (.cons hv .nil)).mono kp (List.prefix_refl _)⟩
                have h7 := RE.now (h5.mono kp (List.prefix_refl _)) rl6
                exact ⟨acc, qD, hlt, I5, _, rl6, (((kj.trans k3).trans k4).trans k5).trans kp, (pj.trans p4).trans p5, h7⟩
theorem se_comp (C : Cz P call CX k sx G E X) {f : Sx → En → Expr → So → Res W}
    (hE : ∀ sx E X, Cz P call CX k sx G E X → ∀ x, PE X x (tE G (EKof G E) fun e => f sx e x))
    (hT : ∀ sx E X, Cz P call CX k sx G E X → ∀ x, PT X x (tT G (EKof G E) (tst fun e => f sx e x)))
    (hs : ∀ sx x e S, isStar x = true → f sx e x S = .bad) {elt tg iter : Expr} {ifs : List Expr} {scope : Scope} {pos : Pos}
    (hb : blkC sx.N sx.sc scope (ownOf sx.N scope) = true) (ho : ((slotsT sx.N tg).all fun i => ((ownOf sx.N scope).map (·.2)).contains i) = true) (hi1 : ifs.length ≤ 1) (hset : isSet iter = false) :
    PE X (.ListComp elt [⟨tg, iter, ifs, 0⟩] scope pos) (tE G (EKof G E) (compR P sx f elt tg iter ifs scope)) := by
  have ok := blkOk_by hb
  have hw := pi_Z (tg := tg) C (hE sx E X C) (fun x e S h => hs sx x e S h) iter
  have ok' : BlkOk X.N X.env.scope scope (ownOf sx.N scope) := by rw [C.hN, C.sc]; exact ok
  exact (pe_lc (own := ownOf sx.N scope) C.calm (by rw [C.hN]; exact C.nd) hw ok' (fun s H D cl fp => pg_Z (C.blk ok.kind s H D cl fp) tg) (fun s H D cl fp => pts_Z (hT _ _ _ (C.blk ok.kind s H D cl fp)) ifs hi1) (fun s H D cl fp => hE _ _ _ (C.blk ok.kind s H D cl fp) elt) (fold_ok hset)).of (lc_Z ho)
/-- name = [..] where the list's name is stored ahead of the block's end -/
theorem ss_comp (C : Cz P call CX k sx G E X) {f : Sx → En → Expr → So → Res W}
    (hE : ∀ sx E X, Cz P call CX k sx G E X → ∀ x, PE X x (tE G (EKof G E) fun e => f sx e x))
    (hT : ∀ sx E X, Cz P call CX k sx G E X → ∀ x, PT X x (tT G (EKof G E) (tst fun e => f sx e x)))
    (hs : ∀ sx x e S, isStar x = true → f sx e x S = .bad) {elt tg iter : Expr} {ifs : List Expr} {scope : Scope} {pos py spos : Pos} {y : Str} {i : Nat}
    (hb : blkC sx.N sx.sc scope (ownOf sx.N scope) = true) (hi1 : ifs.length ≤ 1) (hset : isSet iter = false) (hy : idx sx.N y = some i) (hyl : sx.sc.names.lookup y = some .local)
    (hsw : swapsWith (.ListComp elt [⟨tg, iter, ifs, 0⟩] scope pos) (some (.Name y py)) spos.line X.env = pure true) :
    PS X (.Assign [.Name y py] (.ListComp elt [⟨tg, iter, ifs, 0⟩] scope pos) spos) (tAsg (compT P sx G E f elt tg iter ifs scope) (gName i)) := by
  have ok := blkOk_by hb
  have hw := pi_Z (tg := tg) C (hE sx E X C) (fun x e S h => hs sx x e S h) iter
  have ok' : BlkOk X.N X.env.scope scope (ownOf sx.N scope) := by rw [C.hN, C.sc]; exact ok
  exact ps_setLc (own := ownOf sx.N scope) C.calm (by rw [C.hN]; exact C.nd) (by rw [C.hN]; exact idx_ok hy) (by rw [C.sc]; exact hyl) hsw hw ok' (fun s H D cl fp => pg_Z (C.blk ok.kind s H D cl fp) tg) (fun s H D cl fp => pts_Z (hT _ _ _ (C.blk ok.kind s H D cl fp)) ifs hi1) (fun s H D cl fp => hE _ _ _ (C.blk ok.kind s H D cl fp) elt) (fold_ok hset)
end
end Z

/-! Every expression. -/
namespace Z
open PySem PySem.Spec L2
section
variable {P : Pg} {call : Cf} {CX : CXT} {k : Nat} {G : Gd}
def SE (P : Pg) (call : Cf) (CX : CXT) (k : Nat) (G : Gd) (d : Nat) : Prop := ∀ (sx : Sx) (E : XK) (X : Cx), Cz P call CX k sx G E X → ∀ x, PE X x (tE G (EKof G E) fun e S => evalE P call d sx e x S)
def ST (P : Pg) (call : Cf) (CX : CXT) (k : Nat) (G : Gd) (d : Nat) : Prop := ∀ (sx : Sx) (E : XK) (X : Cx), Cz P call CX k sx G E X → ∀ x, PT X x (tT G (EKof G E) (tst fun e S => evalE P call d sx e x S))
theorem star_bad {d : Nat} {sx : Sx} {e : En} {x : Expr} {S : So} (h : isStar x = true) : evalE P call d sx e x S = .bad := by
  cases x <;> first | (cases d <;> rfl) | cases h
theorem se_bad {X : Cx} {x : Expr} {EE : EK} {r : En → So → Res W} (h : ∀ e S, r e S = .bad) : PE X x (tE G EE r) := PE.never fun σ H Q ⟨I, S, e, rl, rs, q⟩ => by rw [h] at q; exact q
theorem se_of {X : Cx} {x : Expr} {EE : EK} {r r' : En → So → Res W} (h : PE X x (tE G EE r)) (q : ∀ e S, r' e S = r e S) : PE X x (tE G EE r') := by
  have : r' = r := funext fun e => funext fun S => q e S
  rw [this]; exact h
theorem se_succ {d : Nat} (hE : SE P call CX k G d) (hT : ST P call CX k G d) : SE P call CX k G (d + 1) := by
  intro sx E X C x
  have hf := hE sx E X C
  have sb : ∀ x e S, isStar x = true → evalE P call d sx e x S = .bad := fun x e S h => star_bad h
  cases x with
  | Constant c j p => exact se_const c j p
  | Name n p => exact se_name C n p
  | BinOp a op b p => exact se_bin C (hf a) (hf b)
  | UnaryOp op a p =>
    cases op with
    | Not => exact se_not C.K (hf a)
    | _ => exact se_bad fun e S => rfl
  | BoolOp op vs p => exact se_bool (f := fun x e S => evalE P call d sx e x S) C.K hf vs
  | Compare a ops cs p =>
    cases ops with
    | nil => exact se_bad fun e S => by cases cs <;> rfl
    | cons op r =>
      cases r with
      | nil =>
        cases cs with
        | nil => exact se_bad fun e S => rfl
        | cons b t =>
          cases t with
          | nil => exact se_cmp C (hf a) (hf b)
          | cons c t => exact se_bad fun e S => rfl
      | cons op' r =>
        cases r with
        | nil =>
          cases cs with
          | nil => exact se_bad fun e S => rfl
          | cons b t =>
            cases t with
            | nil => exact se_bad fun e S => rfl
            | cons c t =>
              cases t with
              | nil => exact se_cmp2 C (hf a) (hf b) (hf c)
              | cons _ _ => exact se_bad fun e S => rfl
        | cons _ _ => exact se_bad fun e S => by cases cs with | nil => rfl | cons _ t => (cases t with | nil => rfl | cons _ t => (cases t <;> rfl))
  | IfExp c a b p => exact se_if (rc := fun e S => evalE P call d sx e c S) (hT sx E X C c) (hf a) (hf b)
  | Tuple es j p => exact se_tup (pa_Z (f := fun x e S => evalE P call d sx e x S) hf sb es)
  | List es p => exact se_lst (pa_Z (f := fun x e S => evalE P call d sx e x S) hf sb es)
  | Dict ks vs p =>
    by_cases h0 : ks = []
    · subst h0
      cases vs with
      | nil => exact se_dict0
      | cons v r => exact se_bad fun e S => rfl
    · have hd : ∀ e S, evalE P call (d + 1) sx e (.Dict ks vs p) S = (if (ks.all (·.isSome) = true ∧ ks.length = vs.length) ∧ ks.length ≤ 15 then (evP (evalE P call d sx e) ks vs (S ++ [.dct []])).bind fun kvs S1 => match S1[S.length]? with
        | some (.dct []) => if kvs.length ≤ 15 then .ok (.ref S.length) (S1.set S.length (.dct (kvs.foldl (fun r kv => putW r kv.1 kv.2) []))) else .bad
        | _ => .bad
      else .bad) := fun e S => by
        cases ks with
        | nil => exact absurd rfl h0
        | cons a r => rfl
      by_cases h : (ks.all (·.isSome) = true ∧ ks.length = vs.length) ∧ ks.length ≤ 15
      · refine se_of (se_dict (f := fun x e S => evalE P call d sx e x S) (p := p) hf h.1.1 h.1.2 h0 h.2) fun e S => ?_
        rw [hd, if_pos h]
        try rfl
      · exact se_bad fun e S => by rw [hd, if_neg h]
  | Subscript a b p =>
    by_cases hb : ∃ lo hi q, b = .Slice lo hi none q
    · obtain ⟨lo, hi, q, rfl⟩ := hb
      exact se_slice (f := fun x e S => evalE P call d sx e x S) C (hf a) hf
    · refine se_of (se_item C (hf a) (hf b)) fun e S => ?_
      cases b with
      | Slice lo hi st q =>
        cases st with
        | none => exact absurd ⟨lo, hi, q, rfl⟩ hb
        | some _ => rfl
      | _ => rfl
  | JoinedStr es p =>
    by_cases h : es.all partJ = true ∧ 2 ≤ es.length
    · refine se_of (se_joined (f := fun x e S => evalE P call d sx e x S) (p := p) hf h.1 h.2) fun e S => ?_
      show (if es.all partJ = true ∧ 2 ≤ es.length then _ else _) = _
      rw [if_pos h]
    · exact se_bad fun e S => by
        show (if es.all partJ = true ∧ 2 ≤ es.length then _ else _) = _
        rw [if_neg h]
  | Call fn es kws pos =>
    cases fn with
    | Name f p =>
      have hd : ∀ e S, evalE P call (d + 1) sx e (.Call (.Name f p) es kws pos) S = (if (okN f = true ∧ plainA es kws = true) ∧ sx.sc.names.lookup f = some .globalImplicit then match P.F f with
        | some fi => (evL (evalE P call d sx e) es S).bind fun us S1 => (evK (evalE P call d sx e) kws S1).bind fun ws S2 => ownR call f fi (kws.map (·.arg)) us ws S2
        | none => if kws.isEmpty = true ∧ f ∈ builtins then (evL (evalE P call d sx e) es S).bind fun us S1 => builtin f us S1 else .bad
        else .bad) := fun e S => rfl
      by_cases h : (okN f = true ∧ plainA es kws = true) ∧ sx.sc.names.lookup f = some .globalImplicit
      · cases hF : P.F f with
        | some fi =>
          refine se_of (se_own (g := fun x e S => evalE P call d sx e x S) (p := p) (pos := pos) C hF h.1.1 h.2 hf sb h.1.2) fun e S => ?_
          rw [hd, if_pos h, hF]
        | none =>
          by_cases hb : kws.isEmpty = true ∧ f ∈ builtins
          · have hk : kws = [] := List.isEmpty_iff.mp hb.1
            subst hk
            have hst : es.all (fun e => !isStar e) = true := by
              have := h.1.2
              unfold plainA at this
              rw [Bool.and_eq_true] at this
              exact this.1
            refine se_of (se_builtin (p := p) (pos := pos) C hF hb.2 h.2 (pa_Z (f := fun x e S => evalE P call d sx e x S) hf sb es) hst fun e S he => by subst he; rfl) fun e S => ?_
            rw [hd, if_pos h, hF]
            exact if_pos hb
          · exact se_bad fun e S => by
              rw [hd, if_pos h, hF]
              exact if_neg hb
      · exact se_bad fun e S => by rw [hd, if_neg h]
    | Attribute o m ap =>
      cases kws with
      | cons _ _ => exact se_bad fun e S => rfl
      | nil =>
        have hd : ∀ e S, evalE P call (d + 1) sx e (.Call (.Attribute o m ap) es [] pos) S = (match methTy m with
          | none => .bad
          | some T => if ((ap.endLine == pos.line) = true ∧ plainA es [] = true) ∧ (1 ≤ es.length ∧ es.length < 20) ∧ isSuper o = false then
              (evalE P call d sx e o S).bind fun u S1 => if valTy u S1 = some T then (evL (evalE P call d sx e) es S1).bind fun us S2 => method u m us S2 else .bad
            else .bad) := fun e S => rfl
        cases hT : methTy m with
        | none => exact se_bad fun e S => by rw [hd, hT]
        | some T =>
          by_cases h : ((ap.endLine == pos.line) = true ∧ plainA es [] = true) ∧ (1 ≤ es.length ∧ es.length < 20) ∧ isSuper o = false
          · have hst : es.all (fun e => !isStar e) = true := by
              have := h.1.2
              unfold plainA at this
              rw [Bool.and_eq_true] at this
              exact this.1
            refine se_of (se_meth (ap := ap) (cp := pos) C (hf o) (pa_Z (f := fun x e S => evalE P call d sx e x S) hf sb es) h.1.1 hst h.2.1.1 h.2.1.2 h.2.2 hT) fun e S => ?_
            rw [hd, hT]
            exact if_pos h
          · exact se_bad fun e S => by
              rw [hd, hT]
              exact if_neg h
    | _ => exact se_bad fun e S => rfl
  | ListComp elt gs scope pos =>
    cases gs with
    | nil => exact se_bad fun e S => rfl
    | cons g r =>
      cases r with
      | cons _ _ => exact se_bad fun e S => by obtain ⟨tg, iter, ifs, a⟩ := g; cases a with | ofNat n => (cases n <;> rfl) | negSucc n => rfl
      | nil =>
        obtain ⟨tg, iter, ifs, a⟩ := g
        by_cases ha : a = 0
        · subst ha
          have hd : ∀ e S, evalE P call (d + 1) sx e (.ListComp elt [⟨tg, iter, ifs, 0⟩] scope pos) S = (if blkC sx.N sx.sc scope (ownOf sx.N scope) = true ∧ ((slotsT sx.N tg).all fun i => ((ownOf sx.N scope).map (·.2)).contains i) = true ∧ ifs.length ≤ 1 then
              (walkE (rgOk P sx) (evalE P call d sx e) iter S).bind fun q S1 =>
              (noX (turns q (lcTurn (evalE P call d (sxB sx scope)) (sxB sx scope) (wipeW e ((ownOf sx.N scope).map (·.2))) tg ifs elt S1.length) q.len 0 () (S1 ++ [.lst []]))).bind fun _ S6 => .ok (.ref S1.length) S6
            else .bad) := fun e S => rfl
          by_cases h : blkC sx.N sx.sc scope (ownOf sx.N scope) = true ∧ ((slotsT sx.N tg).all fun i => ((ownOf sx.N scope).map (·.2)).contains i) = true ∧ ifs.length ≤ 1
          · by_cases hset : isSet iter = true
            · exact se_bad fun e S => by
                rw [hd, if_pos h]
                unfold walkE
                rw [if_pos hset]; rfl
            · refine se_of (se_comp (f := fun sx e x S => evalE P call d sx e x S) (pos := pos) C hE hT (fun sx x e S h => star_bad h) h.1 h.2.1 h.2.2 (by simpa using hset)) fun e S => ?_
              rw [hd, if_pos h]
          · exact se_bad fun e S => by rw [hd, if_neg h]
        · exact se_bad fun e S => by
            cases a with
            | ofNat n => cases n with
              | zero => exact absurd rfl ha
              | succ n => rfl
            | negSucc n => rfl
  | _ => exact se_bad fun e S => rfl
/-! ### tests -/
theorem tst_Z {X : Cx} {EE : EK} (hG : G.K = X.K) {a : Expr} {r : En → So → Res W} (h : PE X a (tE G EE r)) (he : ∀ whole, isTrue a X.env whole = (do let v ← whole; standAt a.pos; holding [v] (truthy v))) : PT X a (tT G EE (tst r)) := by
  refine (pt_truth h he).of fun σ H Q ⟨I, S, e, rl, rs, h⟩ => ?_
  unfold tst at h
  refine tE.step rl rs h fun w S1 H1 I1 v k1 p1 rl1 hv h1 => ?_
  obtain ⟨b, e1, h2⟩ := RE.ofO h1
  exact ⟨b, by rw [← hG]; exact truth_ok rl1 hv e1, RE.now (k := kB Q) h2 rl1⟩
theorem PT.never' {X : Cx} {e : Expr} {t : TT} (h : ∀ σ H Q, t σ H Q → False) : PT X e t := ⟨fun _ _ σ H Q _ q => (h σ H Q q).elim⟩
theorem st_bad {X : Cx} {x : Expr} {EE : EK} {r : En → So → Res W} (h : ∀ e S, r e S = .bad) : PT X x (tT G EE (tst r)) := PT.never' fun σ H Q ⟨I, S, e, rl, rs, q⟩ => by unfold tst at q; rw [h] at q; exact q
theorem st_of {X : Cx} {x : Expr} {EE : EK} {r r' : En → So → Res Bool} (h : PT X x (tT G EE r)) (q : ∀ e S, r' e S = r e S) : PT X x (tT G EE r') := by
  have : r' = r := funext fun e => funext fun S => q e S
  rw [this]; exact h
theorem st_not {X : Cx} {EE : EK} {a : Expr} {p : Pos} {r : En → So → Res W} (h : PT X a (tT G EE (tst r))) :
    PT X (.UnaryOp .Not a p) (tT G EE (tst fun e S => (r e S).bind fun u S1 => match truth u S1 with | some b => .ok (.bl (!b)) S1 | none => .bad)) := by
  refine (pt_not h).of fun σ H Q ⟨I, S, e, rl, rs, h⟩ => ⟨I, S, e, rl, rs, ?_⟩
  unfold tst at h ⊢
  cases q : r e S with
  | bad => simp only [q] at h; exact h
  | exn x S1 => simp only [q] at h; exact h
  | ok u S1 =>
    simp only [q, Res.bind] at h ⊢
    cases q2 : truth u S1 with
    | none => simp only [q2] at h; exact h
    | some b =>
      simp only [q2] at h
      exact h
theorem st_bool {X : Cx} {EE : EK} {op : BoolOp} {p : Pos} {f : Expr → En → So → Res W} (hf : ∀ x, PT X x (tT G EE (tst (f x)))) : ∀ vs : List Expr, vs ≠ [] →
    PW X (.BoolOp op vs p) (tT G EE (tst fun e S => evB (match op with | .And => true | .Or => false) (fun x => f x e) vs S))
  | [], h => absurd rfl h
  | [x], _ => by
    cases op with
    | And => exact pw_and1 (hf x)
    | Or => exact pw_or1 (hf x)
  | x :: y :: r, _ => by
    have ih := st_bool (p := p) (op := op) hf (y :: r) (by simp)
    have core : ∀ (isAnd : Bool) (σ : L2.St) (H : Hp) (Q : Bool → Hp → Prop), tT G EE (tst fun e S => evB isAnd (fun x => f x e) (x :: y :: r) S) σ H Q →
        tT G EE (tst (f x)) σ H (fun c H1 => if c = isAnd then tT G EE (tst fun e S => evB isAnd (fun x => f x e) (y :: r) S) σ H1 Q else Q c H1) := fun isAnd σ H Q ⟨I, S, e, rl, rs, h⟩ => by
      refine ⟨I, S, e, rl, rs, ?_⟩
      unfold tst at h ⊢
      have hd : evB isAnd (fun x => f x e) (x :: y :: r) S = (f x e S).bind fun w S1 => match truth w S1 with
        | some b => if b = isAnd then evB isAnd (fun x => f x e) (y :: r) S1 else .ok w S1
        | none => .bad := rfl
      simp only [hd] at h
      cases q : f x e S with
      | bad => simp only [q] at h; exact h
      | exn x S1 => simp only [q] at h; exact h
      | ok u S1 =>
        simp only [q, Res.bind] at h ⊢
        cases q2 : truth u S1 with
        | none => simp only [q2] at h; exact h
        | some b =>
          simp only [q2] at h
          intro H1 I1 k1 p1 rl1
          by_cases hb : b = isAnd
          · simp only [hb, if_true] at h
            unfold kB
            dsimp only
            rw [if_pos hb]
            exact ⟨I1, S1, e, rl1, rs.mono k1 p1, RE.mono k1 p1 h⟩
          · simp only [hb, if_false, q2, ofO] at h
            unfold kB
            dsimp only
            rw [if_neg hb]
            exact RE.now (k := kB Q) (RE.mono k1 p1 h) rl1
    cases op with
    | And =>
      refine ⟨fun whole pins s σ H Q J h => (pw_and (hf x) ih).run whole pins s σ H Q J ?_⟩
      have h2 := core true σ H Q h
      obtain ⟨I, S, e, rl, rs, h3⟩ := h2
      refine ⟨I, S, e, rl, rs, h3.imp fun b S1 H1 I1 k1 p1 rl1 q => ?_⟩
      cases b with
      | true => exact q
      | false => exact q
    | Or =>
      refine ⟨fun whole pins s σ H Q J h => (pw_or (hf x) ih).run whole pins s σ H Q J ?_⟩
      have h2 := core false σ H Q h
      obtain ⟨I, S, e, rl, rs, h3⟩ := h2
      refine ⟨I, S, e, rl, rs, h3.imp fun b S1 H1 I1 k1 p1 rl1 q => ?_⟩
      cases b with
      | true => exact q
      | false => exact q
theorem _root_.Z.Res.assoc {α β γ : Type} {r : Res α} {f : α → So → Res β} {g : β → So → Res γ} : (r.bind f).bind g = r.bind fun a S => (f a S).bind g := by
  cases r <;> rfl
theorem st_cmp {sx : Sx} {E : XK} {X : Cx} (C : Cz P call CX k sx G E X) {a b : Expr} {op : CmpOp} {p : Pos} {ra rb : En → So → Res W} (ha : PE X a (tE G (EKof G E) ra)) (hb : PE X b (tE G (EKof G E) rb)) :
    PT X (.Compare a [op] [b] p) (tT G (EKof G E) (tst fun e S => if isSet b = true then .bad else (ra e S).bind fun u S1 => (rb e S1).bind fun v S2 => fC op u v S2)) := by
  by_cases hs : isSet b = true
  · exact st_bad fun e S => by simp only [hs, if_true]
  · refine (pt_cmpR (op_C C op) ha hb (mark_ok (by simpa using hs))).of fun σ H Q ⟨I, S, e, rl, rs, h⟩ => ?_
    unfold tst at h
    simp only [hs, Bool.false_eq_true, if_false, Res.assoc] at h
    refine tE.step rl rs h fun w S1 H1 I1 v k1 p1 rl1 hv h1 => ?_
    refine tE.step (S := S1) rl1 (rs.mono k1 p1) h1 fun z S2 H2 I2 u k2 p2 rl2 hu h2 => ?_
    refine ⟨I2, S2, w, z, rl2, hv.mono k2 p2, hu, ?_⟩
    unfold fC at h2 ⊢
    cases q : cmp op w z S2 with
    | none => rw [q] at h2; exact h2
    | some t =>
      rw [q] at h2
      intro H3 I3 k3 p3 rl3 y hy
      unfold RW at hy
      exact ⟨t, hy, RE.now (k := kB Q) (RE.mono k3 p3 (show RE G (EKof G E) H2 I2 (kB Q) (.ok t S2) from h2)) rl3⟩
theorem st_cmp2 {sx : Sx} {E : XK} {X : Cx} (C : Cz P call CX k sx G E X) {a b c : Expr} {op op' : CmpOp} {p : Pos} {ra rb rc : En → So → Res W} (ha : PE X a (tE G (EKof G E) ra)) (hb : PE X b (tE G (EKof G E) rb)) (hc : PE X c (tE G (EKof G E) rc)) :
    PT X (.Compare a [op, op'] [b, c] p) (tT G (EKof G E) (tst fun e S => if (isSet b || isSet c) = true then .bad else (ra e S).bind fun u S1 => (rb e S1).bind fun v S2 => fC2 op op' (rc e) u v S2)) := by
  by_cases hs : (isSet b || isSet c) = true
  · exact st_bad fun e S => by simp only [hs, if_true]
  · have hc2 : isSet c = false := by cases q : isSet c <;> simp_all
    refine (pt_chain (op_C C op) (op_C C op') ha hb hc (marks2 hc2)).of fun σ H Q ⟨I, S, e, rl, rs, h⟩ => ?_
    unfold tst at h
    simp only [hs, Bool.false_eq_true, if_false, Res.assoc] at h
    refine tE.step rl rs h fun w S1 H1 I1 v k1 p1 rl1 hv h1 => ?_
    refine tE.step (S := S1) rl1 (rs.mono k1 p1) h1 fun z S2 H2 I2 u k2 p2 rl2 hu h2 => ?_
    refine ⟨I2, S2, w, z, rl2, hv.mono k2 p2, hu, ?_⟩
    unfold fC2 at h2
    unfold fC
    cases q : cmp op w z S2 with
    | none => rw [q] at h2; exact h2
    | some t =>
      rw [q] at h2
      intro H3 I3 k3 p3 rl3 y hy
      unfold RW at hy
      refine ⟨t, hy, ?_⟩
      have h3 := RE.mono k3 p3 h2
      cases t with
      | false => exact iteF ⟨false, rfl, RE.now (k := kB Q) (show RE G (EKof G E) H3 I3 (kB Q) (.ok false S2) from h3) rl3⟩
      | true =>
        have h4 : RE G (EKof G E) H3 I3 (kB Q) ((rc e S2).bind fun z' S4 => (fC op' z z' S4).bind fun u S1 => ofO (truth u S1) S1) := by
          rw [← Res.assoc]; exact h3
        refine iteT (tE.step (S := S2) rl3 ((rs.mono k1 p1).mono (k2.trans k3) (p2.trans p3)) h4 fun w' S4 H4 I4 v' k4 p4 rl4 hv' h5 => ?_)
        refine ⟨I4, S4, z, w', rl4, hu.mono (k3.trans k4) (p3.trans p4), hv', ?_⟩
        unfold fC at h5
        dsimp only
        cases q2 : cmp op' z w' S4 with
        | none => rw [q2] at h5; exact h5
        | some t =>
          rw [q2] at h5
          intro H5 I5 k5 p5 rl5 y hy
          unfold RW at hy
          exact ⟨t, hy, RE.now (k := kB Q) (RE.mono k5 p5 (show RE G (EKof G E) H4 I4 (kB Q) (.ok t S4) from h5)) rl5⟩
theorem st_if {X : Cx} {EE : EK} {c a b : Expr} {p : Pos} {rc ra rb : En → So → Res W} (hc : PT X c (tT G EE (tst rc))) (ha : PT X a (tT G EE (tst ra))) (hb : PT X b (tT G EE (tst rb))) :
    PT X (.IfExp c a b p) (tT G EE (tst fun e S => (rc e S).bind fun u S1 => match truth u S1 with | some true => ra e S1 | some false => rb e S1 | none => .bad)) := by
  refine ⟨fun pins s σ H Q J ⟨I, S, e, rl, rs, h⟩ => ?_⟩
  refine PyProof.Rows.isTrue_IfExp (thn (hc.run pins s σ H (fun t H1 => if t = true then tT G EE (tst ra) σ H1 Q else tT G EE (tst rb) σ H1 Q) J ⟨I, S, e, rl, rs, ?_⟩) fun t s1 ⟨H1, J1, q⟩ => ?_)
  · unfold tst at h ⊢
    cases q : rc e S with
    | bad => simp only [q] at h; exact h
    | exn x S1 => simp only [q] at h; exact h
    | ok u S1 =>
      simp only [q, Res.bind] at h ⊢
      cases q2 : truth u S1 with
      | none => simp only [q2] at h; exact h
      | some t =>
        simp only [q2] at h
        intro H1 I1 k1 p1 rl1
        unfold kB
        dsimp only
        cases t with
        | true => exact iteT ⟨I1, S1, e, rl1, rs.mono k1 p1, RE.mono k1 p1 h⟩
        | false => exact iteF ⟨I1, S1, e, rl1, rs.mono k1 p1, RE.mono k1 p1 h⟩
  · cases t with
    | true => exact ha.run pins s1 σ H1 Q J1 q
    | false => exact hb.run pins s1 σ H1 Q J1 q
theorem st_succ {d : Nat} (hE1 : SE P call CX k G (d + 1)) (hE : SE P call CX k G d) (hT : ST P call CX k G d) : ST P call CX k G (d + 1) := by
  intro sx E X C x
  have hf := hE sx E X C
  have hft := hT sx E X C
  have hx := hE1 sx E X C
  cases x with
  | UnaryOp op a p =>
    cases op with
    | Not => exact st_not (r := fun e S => evalE P call d sx e a S) (hft a)
    | _ => exact st_bad fun e S => rfl
  | BoolOp op vs p =>
    by_cases hv : vs = []
    · subst hv; exact st_bad fun e S => rfl
    · exact (st_bool (p := p) (f := fun x e S => evalE P call d sx e x S) hft vs hv).pt
  | Compare a ops cs p =>
    cases ops with
    | nil => exact st_bad fun e S => by cases cs <;> rfl
    | cons op r =>
      cases r with
      | nil =>
        cases cs with
        | nil => exact st_bad fun e S => rfl
        | cons b t =>
          cases t with
          | nil => exact st_cmp C (hf a) (hf b)
          | cons c t => exact st_bad fun e S => rfl
      | cons op' r =>
        cases r with
        | nil =>
          cases cs with
          | nil => exact st_bad fun e S => rfl
          | cons b t =>
            cases t with
            | nil => exact st_bad fun e S => rfl
            | cons c t =>
              cases t with
              | nil => exact st_cmp2 C (hf a) (hf b) (hf c)
              | cons _ _ => exact st_bad fun e S => rfl
        | cons _ _ => exact st_bad fun e S => by cases cs with | nil => rfl | cons _ t => (cases t with | nil => rfl | cons _ t => (cases t <;> rfl))
  | IfExp c a b p => exact st_if (rc := fun e S => evalE P call d sx e c S) (hft c) (hft a) (hft b)
  | _ => exact tst_Z C.K (hx _) (fun _ => rfl)
theorem se_zero : SE P call CX k G 0 := fun sx E X C x => se_bad fun e S => rfl
theorem st_zero : ST P call CX k G 0 := fun sx E X C x => st_bad fun e S => rfl
/-- EVERY EXPRESSION, at any depth -/
theorem se_all : ∀ d, SE P call CX k G d ∧ ST P call CX k G d
  | 0 => ⟨se_zero, st_zero⟩
  | d + 1 => by
    obtain ⟨a, b⟩ := se_all d
    have c := se_succ a b
    exact ⟨c, st_succ c a b⟩
end
end Z

/-! Statements. -/
namespace Z
open PySem PySem.Spec L2
def kS (G : Gd) (D : Ends) : AK (En × Fl) := fun r _ H' I' => match r.2 with
  | .nx => ∀ σ', RS G H' I' r.1 σ' → D.nx σ' H'
  | .brk => ∀ σ', RS G H' I' r.1 σ' → D.bk σ' H'
  | .ct => ∀ σ', RS G H' I' r.1 σ' → D.ct σ' H'
  | .ret w => ∀ v, RW G H' I' w v → D.rt v H'
def tS (G : Gd) (E : EK) (r : En → So → Res (En × Fl)) : TS := fun D σ H => ∃ I S e, Rel G H I S ∧ RS G H I e σ ∧ RE G E H I (kS G D) (r e S)
theorem _root_.L2.PS.of {X : Cx} {e : Stmt} {t t' : TS} (h : PS X e t) (w : ∀ D σ H, t' D σ H → t D σ H) : PS X e t' := ⟨fun pins s σ H Q J q => h.run pins s σ H Q J (w _ _ _ q)⟩
theorem _root_.L2.PSs.of {X : Cx} {e : List Stmt} {t t' : TS} (h : PSs X e t) (w : ∀ D σ H, t' D σ H → t D σ H) : PSs X e t' := ⟨fun pins s σ H Q J q => h.run pins s σ H Q J (w _ _ _ q)⟩
theorem _root_.L2.PS.never' {X : Cx} {e : Stmt} {t : TS} (h : ∀ D σ H, t D σ H → False) : PS X e t := ⟨fun _ _ σ H Q _ q => (h Q σ H q).elim⟩
section
variable {P : Pg} {call : Cf} {CX : CXT} {k : Nat} {sx : Sx} {G : Gd} {E : XK} {X : Cx} {EE : EK}
theorem ss_bad {x : Stmt} {r : En → So → Res (En × Fl)} (h : ∀ e S, r e S = .bad) : PS X x (tS G EE r) := PS.never' fun D σ H ⟨I, S, e, rl, rs, q⟩ => by rw [h] at q; exact q
theorem ss_of {x : Stmt} {r r' : En → So → Res (En × Fl)} (h : PS X x (tS G EE r)) (q : ∀ e S, r' e S = r e S) : PS X x (tS G EE r') := by
  have : r' = r := funext fun e => funext fun S => q e S
  rw [this]; exact h
theorem ss_blk {f : Stmt → En → So → Res (En × Fl)} (hf : ∀ x, PS X x (tS G EE (f x))) : ∀ l : List Stmt, PSs X l (tS G EE fun e S => evS (fun x => f x) l e S)
  | [] => pss_nil.of fun D σ H ⟨I, S, e, rl, rs, h⟩ => RE.now (k := kS G D) h rl σ rs
  | x :: l => (pss_cons (hf x) (ss_blk hf l)).of fun D σ H ⟨I, S, e, rl, rs, h⟩ => by
    refine ⟨I, S, e, rl, rs, (RE.bind (r := f x e S) h).imp fun r S1 H1 I1 k1 p1 rl1 h1 => ?_⟩
    obtain ⟨e1, fl⟩ := r
    cases fl with
    | nx => exact fun σ' rs' => ⟨I1, S1, e1, rl1, rs', h1⟩
    | brk => exact RE.now (k := kS G D) h1 rl1
    | ct => exact RE.now (k := kS G D) h1 rl1
    | ret w => exact RE.now (k := kS G D) h1 rl1
theorem ss_if {c : Expr} {a b : List Stmt} {p : Pos} {rc : En → So → Res W} {ra rb : En → So → Res (En × Fl)} (hc : PT X c (tT G EE (tst rc))) (ha : PSs X a (tS G EE ra)) (hb : PSs X b (tS G EE rb)) :
    PS X (.If c a b p) (tS G EE fun e S => (rc e S).bind fun u S1 => match truth u S1 with | some true => ra e S1 | some false => rb e S1 | none => .bad) := by
  refine (ps_if hc ha hb).of fun D σ H ⟨I, S, e, rl, rs, h⟩ => ⟨I, S, e, rl, rs, ?_⟩
  unfold tst
  cases q : rc e S with
  | bad => simp only [q] at h; exact h
  | exn x S1 => simp only [q] at h; exact h
  | ok u S1 =>
    simp only [q, Res.bind] at h ⊢
    cases q2 : truth u S1 with
    | none => simp only [q2] at h; exact h
    | some t =>
      simp only [q2] at h
      intro H1 I1 k1 p1 rl1
      unfold kB
      dsimp only
      cases t with
      | true => exact iteT ⟨I1, S1, e, rl1, rs.mono k1 p1, RE.mono k1 p1 h⟩
      | false => exact iteF ⟨I1, S1, e, rl1, rs.mono k1 p1, RE.mono k1 p1 h⟩
theorem ss_expr {v : Expr} {p : Pos} {r : En → So → Res W} (hc : isComp v = false) (h : PE X v (tE G EE r)) : PS X (.Expr v p) (tS G EE fun e S => (r e S).bind fun _ S1 => .ok (e, .nx) S1) := by
  refine (ps_expr h (by cases v <;> first | rfl | cases hc)).of fun D σ H ⟨I, S, e, rl, rs, h⟩ => ?_
  refine tE.step rl rs h fun w S1 H1 I1 v k1 p1 rl1 hv h1 => ?_
  exact RE.now (k := kS G D) h1 rl1 σ (rs.mono k1 p1)
theorem ss_ret {v : Expr} {p : Pos} {r : En → So → Res W} (h : PE X v (tE G EE r)) : PS X (.Return (some v) p) (tS G EE fun e S => (r e S).bind fun w S1 => .ok (e, .ret w) S1) := by
  refine (ps_ret h).of fun D σ H ⟨I, S, e, rl, rs, h⟩ => ?_
  refine tE.step rl rs h fun w S1 H1 I1 v k1 p1 rl1 hv h1 => ?_
  exact RE.now (k := kS G D) h1 rl1 v hv
theorem asgL_len : ∀ {es : List Expr} {ws : List W} {e e2 : En}, asgL sx es ws e = some e2 → e2.length = e.length
  | [], [], e, e2, h => by unfold asgL at h; cases h; rfl
  | x :: r, w :: ws, e, e2, h => by
    cases x with
    | Name x p =>
      unfold asgL at h
      obtain ⟨e1, h1, h2⟩ := Option.bind_eq_some_iff.mp h
      obtain ⟨i, hi, rfl, hk⟩ := asgN_ok h1
      rw [asgL_len h2]; simp
    | _ => simp [asgL] at h
  | [], _ :: _, _, _, h => by simp [asgL] at h
  | .Name _ _ :: _, [], _, _, h => by simp [asgL] at h
  | _ :: _, [], _, _, h => by simp [asgL] at h
/-- target = value, one store after the value -/
theorem ss_asg (C : Cz P call CX k sx G E X) {tg v : Expr} {p : Pos} {r : En → So → Res W} (h : PE X v (tE G EE r)) (hs : swapsWithSole [tg] v p.line X.env = pure false) (hw : swappedStores [tg] v X.env = pure none) (h1 : (assignEach [tg] X.env).map (·.2) = [assign tg X.env]) :
    PS X (.Assign [tg] v p) (tS G EE fun e S => (r e S).bind fun w S1 => (ofO (asg sx e tg w) S1).bind fun e2 S2 => .ok (e2, .nx) S2) := by
  refine (ps_asg h (pg_Z C tg) hs hw h1).of fun D σ H ⟨I, S, e, rl, rs, h⟩ => ?_
  refine tE.step rl rs h fun w S1 H1 I1 v k1 p1 rl1 hv h1 => ?_
  obtain ⟨e2, ea, h2⟩ := RE.ofO (RE.bind h1)
  exact ⟨I1, S1, e, w, e2, rl1, rs.mono k1 p1, hv, ea, fun σ' rs' _ _ => RE.now (k := kS G D) (RE.now h2 rl1) rl1 σ' rs'⟩
theorem plainSub {o i : Expr} {pos : Pos} {env : Env} (h : isSlice i = false) : ∀ v, assign (.Subscript o i pos) env v = (do
      let ov ← holding [v] (eval o env)
      let iv ← holding [v, ov] (eval i env)
      standAt pos
      holding [v, ov, iv] (PySem.setItem ov iv v)
      release [v, ov, iv] []) := by
  intro v
  cases i <;> first | rfl | cases h
theorem sw_sub {o i v : Expr} {p : Pos} {l : Nat} {env : Env} : swapsWithSole [.Subscript o i p] v l env = pure false := by
  cases v <;> rfl
theorem sw_subS {o i v : Expr} {p : Pos} {env : Env} : swappedStores [.Subscript o i p] v env = pure none := by rfl
theorem ss_sub (C : Cz P call CX k sx G E X) {o i v : Expr} {p p' : Pos} {ro ri rv : En → So → Res W} (ho : PE X o (tE G EE ro)) (hi : PE X i (tE G EE ri)) (hv : PE X v (tE G EE rv)) (hs : isSlice i = false) :
    PS X (.Assign [.Subscript o i p'] v p) (tS G EE fun e S => (rv e S).bind fun w S1 => (ro e S1).bind fun u S2 => (ri e S2).bind fun k S3 => (ofO (Z.setItem u k w S3) S3).bind fun S4 _ => .ok (e, .nx) S4) := by
  refine (ps_asg hv (pg_sub ho hi (set_Z (G := G) (by have := units200 C.room; omega)) (plainSub hs)) sw_sub sw_subS rfl).of fun D σ H ⟨I, S, e, rl, rs, h⟩ => ?_
  refine tE.step rl rs h fun w S1 H1 I1 v k1 p1 rl1 hv h1 => ?_
  refine tE.step (S := S1) rl1 (rs.mono k1 p1) h1 fun u S2 H2 I2 y k2 p2 rl2 hu h2 => ?_
  refine tE.step (S := S2) rl2 (rs.mono (k1.trans k2) (p1.trans p2)) h2 fun q S3 H3 I3 z k3 p3 rl3 hq h3 => ?_
  cases es : Z.setItem u q w S3 with
  | none => rw [es] at h3; exact False.elim h3
  | some S4 =>
    rw [es] at h3
    refine ⟨I3, S3, u, q, w, S4, rl3, hu.mono k3 p3, hq, hv.mono (k2.trans k3) (p2.trans p3), es, fun H4 k4 rl4 => ?_⟩
    have h4 : RE G EE H3 I3 (kS G D) (.ok (e, .nx) S4) := h3
    exact h4 H4 I3 k4 (List.prefix_refl _) rl4 σ ((rs.mono (k1.trans (k2.trans k3)) (p1.trans (p2.trans p3))).mono k4 (List.prefix_refl _))
/-! ### for -/
theorem ss_for (C : Cz P call CX k sx G E X) (po : PassesOwn (model X.prog X.w) X.A X.env X.xe) {tg iter : Expr} {body : List Stmt} {p : Pos} {f : Expr → En → So → Res W} {g : En → So → Res (En × Fl)} (hf : ∀ x, PE X x (tE G EE (f x))) (hs : ∀ x e S, isStar x = true → f x e S = .bad) (hb : PSs X body (tS G EE g)) (hset : isSet iter = false) :
    PS X (.For tg iter body [] p) (tS G EE fun e S => (walkE (rgOk P sx) (fun x => f x e) iter S).bind fun q S1 => turns q (forTurn sx tg g) q.len 0 (e, Fl.nx) S1) := by
  refine (ps_forE po C.calm (pi_Z (tg := tg) C hf hs iter) (pg_Z C tg) hb pss_nil (fold_ok hset)).of fun D σ H ⟨I, S, e, rl, rs, h⟩ => ?_
  refine ⟨I, S, e, rl, rs, (RE.bind h).imp fun q S1 H1 I1 k1 p1 rl1 h1 J hJ => ?_⟩
  refine ⟨fun j m σj Hj => ∃ Ij Sj ej, Rel G Hj Ij Sj ∧ RS G Hj Ij ej σj ∧ Keep H1 Hj ∧ I1 <+: Ij ∧ RE G EE Hj Ij (kS G D) (turns q (forTurn sx tg g) m j (ej, Fl.nx) Sj), ⟨q.len, I1, S1, e, rl1, rs.mono k1 p1, Keep.refl _, List.prefix_refl _, h1⟩, ?_⟩
  rintro j m σj Hj ⟨Ij, Sj, ej, rlj, rsj, kj, pj, hj⟩
  obtain ⟨w1, w2⟩ := hJ Hj Ij Sj j kj pj rlj
  unfold turns at hj
  cases qa : q.at j Sj with
  | none => rw [qa] at hj; exact False.elim hj
  | some o =>
    rw [qa] at hj
    cases o with
    | none => exact .inl ⟨w2 qa, RE.now (k := kS G D) hj rlj σj rsj⟩
    | some w =>
      cases m with
      | zero => exact False.elim hj
      | succ m =>
        simp only at hj
        obtain ⟨jg, jy⟩ := w1 w qa
        refine .inr ⟨jg, fun σ' H' => ∃ I' S' e', Rel G H' I' S' ∧ RS G H' I' e' σ' ∧ Keep H1 H' ∧ I1 <+: I' ∧ RE G EE H' I' (kS G D) (turns q (forTurn sx tg g) m (j + 1) (e', Fl.nx) S'),
          fun σ' H' nx => ⟨m, Nat.lt_succ_self m, nx⟩, fun x H3 hy => ?_⟩
        obtain ⟨k3, rl3, hw3⟩ := jy x H3 hy
        have hj3 := hj.mono k3 (List.prefix_refl Ij)
        unfold forTurn at hj3
        simp only at hj3
        cases ea : asg sx ej tg w with
        | none => rw [ea] at hj3; exact False.elim hj3
        | some e2 =>
          rw [ea] at hj3
          simp only at hj3
          refine ⟨Ij, Sj, ej, w, e2, rl3, rsj.mono k3 (List.prefix_refl _), hw3, ea, fun σ2 rs4 hl4 ho4 => ?_⟩
          refine ⟨Ij, Sj, e2, rl3, rs4, (RE.bind (RE.bind hj3)).imp fun r S4 H4 I4 k4 p4 rl4 h4 => ?_⟩
          obtain ⟨e4, fl⟩ := r
          cases fl with
          | nx => exact fun σ' rs' => ⟨I4, S4, e4, rl4, rs', (kj.trans k3).trans k4, pj.trans p4, RE.now h4 rl4⟩
          | ct => exact fun σ' rs' => ⟨I4, S4, e4, rl4, rs', (kj.trans k3).trans k4, pj.trans p4, RE.now h4 rl4⟩
          | brk => exact RE.now (k := kS G D) (RE.now h4 rl4) rl4
          | ret w => exact RE.now (k := kS G D) (RE.now h4 rl4) rl4
theorem sw_name {x : Str} {v : Expr} {p : Pos} {env : Env} : swappedStores [.Name x p] v env = pure none := rfl
theorem sole_plain {tg v : Expr} {l : Nat} {env : Env} (h : isComp v = false) : swapsWithSole [tg] v l env = pure false := by
  cases v <;> first | rfl | cases h
theorem bk_fn (C : Cz P call CX k sx G E X) : X.env.blockKind = .function := by
  unfold Env.blockKind
  rw [C.kind]; rfl
theorem eqK {o : Option NameKind} {k : NameKind} : (o == some k) = decide (o = some k) := by
  cases o with
  | none => cases k <;> rfl
  | some a => cases a <;> cases k <;> rfl
theorem star_fun {vs : List Expr} : (vs.any fun | .Starred .. => true | _ => false) = vs.any isStar := by
  induction vs with
  | nil => rfl
  | cons a r ih =>
    rw [List.any_cons, List.any_cons, ← ih]
    cases a <;> rfl
theorem swS (C : Cz P call CX k sx G E X) {ts vs : List Expr} {kk k2 : Nat} {p p2 : Pos} : ∃ A : List Str, A = (ts.filterMap fun t => match t with
        | .Name id pos => if (decide (sx.sc.names.lookup id = some .local) && pos.line == (ts.head?.map (·.pos.line)).getD 0) = true then some id else none
        | _ => none) ∧ swappedStores [.Tuple ts kk p] (.Tuple vs k2 p2) X.env = (if (!(ts.length == 2 || ts.length == 3) || vs.length != ts.length) = true then pure none else if (vs.any isStar) = true then pure none
      else if (A.length != ts.length || A.eraseDups.length != A.length) = true then pure none
      else if vs.all (foldedForSure 8) = true then pure none
      else if vs.all (constantsAlone 8) = true then (do unsupported "assign.tuple-of-constant-expressions:order-of-the-stores"; pure (some A)) else pure (some A)) := by
  refine ⟨_, rfl, ?_⟩
  unfold swappedStores
  simp only [bk_fn C]
  generalize hA : List.filterMap _ ts = A
  generalize hB : List.filterMap _ ts = B
  have e : A = B := by
    rw [← hA, ← hB]
    congr 1
    funext x
    cases x with
    | Name id pos =>
      show (if _ then _ else _) = (if _ then _ else _)
      rw [eqK]
      unfold Env.kindOf
      rw [C.sc]
    | _ => rfl
  subst e
  have hs : ((vs.any fun x => match x with | .Starred .. => true | _ => false)) = vs.any isStar := star_fun
  simp only [bne_self_eq_false, Bool.or_false]
  rw [← hs]
  rfl
theorem swK_eq {ts vs : List Expr} {kk k2 : Nat} {p p2 : Pos} {A : List Str} (hA : A = (ts.filterMap fun t => match t with
        | .Name id pos => if (decide (sx.sc.names.lookup id = some .local) && pos.line == (ts.head?.map (·.pos.line)).getD 0) = true then some id else none
        | _ => none)) : swK sx (.Tuple ts kk p) (.Tuple vs k2 p2) = (if (!(ts.length == 2 || ts.length == 3) || vs.length != ts.length) = true then some false else if (vs.any isStar) = true then none
      else if (A.length != ts.length || A.eraseDups.length != A.length) = true then some false
      else if vs.all (foldedForSure 8) = true then some false
      else if vs.all (constantsAlone 8) = true then none else if ts.length = 2 then some true else none) := by
  subst hA; rfl
theorem sw_tup (C : Cz P call CX k sx G E X) {ts : List Expr} {v : Expr} {kk : Nat} {p : Pos} (h : swK sx (.Tuple ts kk p) v = some false) : swappedStores [.Tuple ts kk p] v X.env = pure none := by
  cases v with
  | Tuple vs k2 p2 =>
    obtain ⟨A, hA, e⟩ := swS (ts := ts) (vs := vs) (kk := kk) (k2 := k2) (p := p) (p2 := p2) C
    rw [e]
    rw [swK_eq hA] at h
    split at h
    · rename_i c; rw [if_pos c]
    · rename_i c; rw [if_neg c]
      split at h
      · cases h
      · rename_i c; rw [if_neg c]
        split at h
        · rename_i c; rw [if_pos c]
        · rename_i c; rw [if_neg c]
          split at h
          · rename_i c; rw [if_pos c]
          · rename_i c; rw [if_neg c]
            split at h
            · cases h
            · split at h <;> cases h
  | _ => rfl
theorem names_mem {f : Expr → Option Str} : ∀ {ts : List Expr}, (ts.filterMap f).length = ts.length → ∀ t ∈ ts, ∃ x, f t = some x
  | [], _, t, h => by cases h
  | a :: r, hl, t, h => by
    rw [List.filterMap_cons] at hl
    cases q : f a with
    | none =>
      rw [q] at hl
      have := List.length_filterMap_le f r
      simp only [List.length_cons] at hl
      omega
    | some x =>
      rw [q] at hl
      rcases List.mem_cons.mp h with rfl | h
      · exact ⟨x, q⟩
      · exact names_mem (by simpa using hl) t h
/-- two plain names, stored from the right -/
theorem sw_par (C : Cz P call CX k sx G E X) {ts : List Expr} {v : Expr} {kk : Nat} {p : Pos} (h : swK sx (.Tuple ts kk p) v = some true) :
    ∃ x y px py a b k2 p2, ts = [.Name x px, .Name y py] ∧ v = .Tuple [a, b] k2 p2 ∧ x ≠ y ∧ sx.sc.names.lookup x = some .local ∧ sx.sc.names.lookup y = some .local ∧ swappedStores [.Tuple ts kk p] v X.env = pure (some [x, y]) := by
  cases v with
  | Tuple vs k2 p2 =>
    obtain ⟨A, hA, e⟩ := swS (ts := ts) (vs := vs) (kk := kk) (k2 := k2) (p := p) (p2 := p2) C
    rw [swK_eq hA] at h
    split at h
    · cases h
    · rename_i c1
      rw [if_neg c1] at e
      split at h
      · cases h
      · rename_i c2
        rw [if_neg c2] at e
        split at h
        · cases h
        · rename_i c3
          rw [if_neg c3] at e
          split at h
          · cases h
          · rename_i c4
            rw [if_neg c4] at e
            split at h
            · cases h
            · rename_i c5
              rw [if_neg c5] at e
              split at h
              · rename_i c6
                rw [c6] at c1 c3
                have hv : vs.length = 2 := by
                  cases q : (vs.length != 2) with
                  | true => rw [q] at c1; simp at c1
                  | false => simpa using q
                have hl : A.length = 2 ∧ A.eraseDups.length = A.length := by
                  cases q : (A.length != 2) with
                  | true => rw [q] at c3; simp at c3
                  | false =>
                    rw [q] at c3
                    refine ⟨by simpa using q, ?_⟩
                    cases q2 : (A.eraseDups.length != A.length) with
                    | true => rw [q2] at c3; simp at c3
                    | false => simpa using q2
                have nm := names_mem (ts := ts) (by rw [← hA, c6]; exact hl.1)
                match ts, c6, vs, hv with
                | [t1, t2], _, [a, b], _ =>
                  obtain ⟨x, hx⟩ := nm t1 (by simp)
                  obtain ⟨y, hy⟩ := nm t2 (by simp)
                  have hA2 : A = [x, y] := by
                    rw [hA, List.filterMap_cons, hx]
                    show x :: List.filterMap _ [t2] = _
                    rw [List.filterMap_cons, hy]; rfl
                  cases t1 with
                  | Name x1 px =>
                    cases t2 with
                    | Name y1 py =>
                      dsimp only at hx hy
                      split at hx
                      · rename_i d1
                        cases hx
                        split at hy
                        · rename_i d2
                          cases hy
                          rw [Bool.and_eq_true] at d1 d2
                          refine ⟨x, y, px, py, a, b, k2, p2, rfl, rfl, ?_, of_decide_eq_true d1.1, of_decide_eq_true d2.1, by rw [e, hA2]⟩
                          rintro rfl
                          rw [hA2] at hl
                          have := hl.2
                          simp [List.eraseDups_cons] at this
                        · cases hy
                      · cases hx
                    | _ => simp at hy
                  | _ => simp at hx
              · cases h
  | _ => simp [swK] at h
theorem ss_par (C : Cz P call CX k sx G E X) {ts : List Expr} {v : Expr} {kk : Nat} {p pos : Pos} {d : Nat} (h : swK sx (.Tuple ts kk p) v = some true) (ht : tgOk sx.N (.Tuple ts kk p) = true) (hE : SE P call CX k G d) :
    PS X (.Assign [.Tuple ts kk p] v pos) (tS G (EKof G E) fun e S => (evalE P call (d + 1) sx e v S).bind fun w S1 => (ofO (asg sx e (.Tuple ts kk p) w) S1).bind fun e2 S2 => .ok (e2, .nx) S2) := by
  obtain ⟨x, y, px, py, a, b, k2, p2, rfl, rfl, hxy, hx, hy, hw⟩ := sw_par C h
  have ha := pa_Z (f := fun x e S => evalE P call d sx e x S) (hE sx E X C) (fun x e S h => star_bad h) [a, b]
  have hd : ∀ e S, evalE P call (d + 1) sx e (.Tuple [a, b] k2 p2) S = ((evL (evalE P call d sx e) [a, b] S).bind fun ws S1 => if ws.length ≤ sizeLine then .ok (.tup ws) S1 else .bad) := fun _ _ => rfl
  have ht2 : ((idx sx.N x).isSome && ((idx sx.N y).isSome && true)) = true := ht
  simp only [Bool.and_eq_true, and_true] at ht2
  obtain ⟨i, hi⟩ := Option.isSome_iff_exists.mp ht2.1
  obtain ⟨j, hj⟩ := Option.isSome_iff_exists.mp ht2.2
  have hij : i ≠ j := by
    rintro rfl
    have a1 := idx_ok hi
    rw [idx_ok hj] at a1
    cases a1
    exact hxy rfl
  refine (ps_par C.calm (by rw [C.hN]; exact C.nd) (by rw [C.hN]; exact idx_ok hi) (by rw [C.hN]; exact idx_ok hj) hij (by rw [C.sc]; exact hx) (by rw [C.sc]; exact hy) ha hw).of fun D σ H ⟨I, S, e, rl, rs, h⟩ => ?_
  dsimp only at h
  rw [hd, Res.assoc] at h
  refine tAs.step rl rs h fun ws S1 H1 I1 vs k1 p1 rl1 hv h1 => ?_
  split at h1
  · simp only [Res.bind] at h1
    obtain ⟨e2, ea, h2⟩ := RE.ofO (RE.bind h1)
    have h3 := RE.now (k := kS G D) (RE.now h2 rl1) rl1
    have ea2 : asgL sx [.Name x px, .Name y py] ws e = some e2 := ea
    match ws, hv, ea2 with
    | [], _, ea2 => simp [asgL] at ea2
    | [w1], _, ea2 => simp [asgL] at ea2
    | [w1, w2], hv, ea2 =>
      obtain ⟨v, u, rfl, q1, q2⟩ := hv.two
      have e3 : e2 = (e.set i (some w1)).set j (some w2) := by
        simp only [asgL, asgN, hx, hy, hi, hj, Option.map_some, Option.bind_some] at ea2
        exact (Option.some.inj ea2).symm
      subst e3
      exact ⟨v, u, rfl, h3 _ (((rs.mono k1 p1).put q1 i).put q2 j)⟩
    | _ :: _ :: _ :: _, _, ea2 => simp [asgL] at ea2
  · exact False.elim h1
/-- name = [..] -/
theorem ss_nmc (C : Cz P call CX k sx G E X) {y : Str} {py pos : Pos} {v : Expr} {d : Nat} (ht : tgOk sx.N (.Name y py) = true) (hc : isComp v = true) (hA : ∀ d, SE P call CX k G d ∧ ST P call CX k G d) :
    PS X (.Assign [.Name y py] v pos) (tS G (EKof G E) fun e S => (evalE P call d sx e v S).bind fun w S1 => (ofO (asg sx e (.Name y py) w) S1).bind fun e2 S2 => .ok (e2, .nx) S2) := by
  cases d with
  | zero => exact ss_bad fun e S => rfl
  | succ d =>
  cases v with
  | ListComp elt gs scope cp =>
    cases hb : (X.env.blockKind == .function && X.env.kindOf y == some .local && py.line == cp.line && !(scope.names.any fun (n, k) => n == y && (k == .local || k == .cell))) with
    | false =>
      have hs : swapsWithSole [.Name y py] (.ListComp elt gs scope cp) pos.line X.env = pure (X.env.blockKind == .function && X.env.kindOf y == some .local && py.line == cp.line && !(scope.names.any fun (n, k) => n == y && (k == .local || k == .cell))) := rfl
      rw [hb] at hs
      exact ss_asg C ((hA (d + 1)).1 sx E X C (.ListComp elt gs scope cp)) hs rfl rfl
    | true =>
      have hs : swapsWith (.ListComp elt gs scope cp) (some (.Name y py)) pos.line X.env = pure (X.env.blockKind == .function && X.env.kindOf y == some .local && py.line == cp.line && !(scope.names.any fun (n, k) => n == y && (k == .local || k == .cell))) := rfl
      rw [hb] at hs
      cases gs with
      | nil => exact ss_bad fun e S => rfl
      | cons g r =>
        cases r with
        | cons _ _ => exact ss_bad fun e S => by obtain ⟨tg, iter, ifs, a⟩ := g; cases a with | ofNat n => (cases n <;> rfl) | negSucc n => rfl
        | nil =>
          obtain ⟨tg, iter, ifs, a⟩ := g
          by_cases ha : a = 0
          · subst ha
            have hd : ∀ e S, evalE P call (d + 1) sx e (.ListComp elt [⟨tg, iter, ifs, 0⟩] scope cp) S = (if blkC sx.N sx.sc scope (ownOf sx.N scope) = true ∧ ((slotsT sx.N tg).all fun i => ((ownOf sx.N scope).map (·.2)).contains i) = true ∧ ifs.length ≤ 1 then
                compR P sx (fun sx e x S => evalE P call d sx e x S) elt tg iter ifs scope e S
              else .bad) := fun e S => rfl
            by_cases h : blkC sx.N sx.sc scope (ownOf sx.N scope) = true ∧ ((slotsT sx.N tg).all fun i => ((ownOf sx.N scope).map (·.2)).contains i) = true ∧ ifs.length ≤ 1
            · by_cases hset : isSet iter = true
              · exact ss_bad fun e S => by
                  rw [hd, if_pos h]
                  unfold compR walkE
                  rw [if_pos hset]; rfl
              · obtain ⟨i, hi⟩ := Option.isSome_iff_exists.mp (show (idx sx.N y).isSome = true from ht)
                have hyl : sx.sc.names.lookup y = some .local := by
                  rw [Bool.and_eq_true, Bool.and_eq_true, Bool.and_eq_true] at hb
                  have := hb.1.1.2
                  rw [eqK] at this
                  rw [← C.sc]
                  exact of_decide_eq_true this
                refine (ss_comp (f := fun sx e x S => evalE P call d sx e x S) C (hA d).1 (hA d).2 (fun sx x e S h => star_bad h) h.1 h.2.2 (by simpa using hset) hi hyl hs).of fun D σ H ⟨I, S, e, rl, rs, h4⟩ => ?_
                dsimp only at h4
                rw [hd, if_pos h] at h4
                show compT _ _ _ _ _ _ _ _ _ _ σ H (fun x H1 => D.nx (σ.set i (some x)) H1)
                refine lc_Z (ifs := ifs) h.2.1 σ H _ ?_
                refine tE.step rl rs h4 fun w S1 H1 I1 v k1 p1 rl1 hv h1 => ?_
                obtain ⟨e2, ea, h2⟩ := RE.ofO (RE.bind h1)
                have h3 := RE.now (k := kS G D) (RE.now h2 rl1) rl1
                have e3 : e2 = e.set i (some w) := by
                  unfold asg asgN at ea
                  simp only [hyl, hi, Option.map_some] at ea
                  exact (Option.some.inj ea).symm
                subst e3
                exact h3 _ ((rs.mono k1 p1).put hv i)
            · exact ss_bad fun e S => by rw [hd, if_neg h]; rfl
          · exact ss_bad fun e S => by
              cases a with
              | ofNat n => cases n with
                | zero => exact absurd rfl ha
                | succ n => rfl
              | negSucc n => rfl
  | SetComp _ _ _ _ => exact ss_bad fun e S => rfl
  | DictComp _ _ _ _ _ => exact ss_bad fun e S => rfl
  | _ => cases hc
def SS (P : Pg) (call : Cf) (CX : CXT) (k : Nat) (G : Gd) (d : Nat) : Prop := ∀ (sx : Sx) (E : XK) (X : Cx), Cz P call CX k sx G E X → PassesOwn (model X.prog X.w) X.A X.env X.xe → ∀ x, PS X x (tS G (EKof G E) fun e S => execS P call d sx x e S)
theorem ss_asgs (C : Cz P call CX k sx G E X) {tg v : Expr} {pos : Pos} {d : Nat} (hA : ∀ d, SE P call CX k G d ∧ ST P call CX k G d) : PS X (.Assign [tg] v pos) (tS G (EKof G E) fun e S => if swK sx tg v = none ∨ tgOk sx.N tg = false then .bad else (evalE P call d sx e v S).bind fun w S1 => (ofO (asg sx e tg w) S1).bind fun e2 S2 => .ok (e2, .nx) S2) := by
  by_cases h : swK sx tg v = none ∨ tgOk sx.N tg = false
  · exact ss_bad fun e S => if_pos h
  · refine ss_of (r := fun e S => (evalE P call d sx e v S).bind fun w S1 => (ofO (asg sx e tg w) S1).bind fun e2 S2 => .ok (e2, .nx) S2) ?_ fun e S => if_neg h
    have h2 : tgOk sx.N tg = true := by
      cases q : tgOk sx.N tg with
      | true => rfl
      | false => exact absurd (.inr q) h
    cases tg with
    | Name y py =>
      cases hc : isComp v with
      | true => exact ss_nmc C h2 hc hA
      | false => exact ss_asg C ((hA d).1 sx E X C v) (sole_plain hc) rfl rfl
    | Tuple ts kk p =>
      cases q : swK sx (.Tuple ts kk p) v with
      | none => exact absurd (.inl q) h
      | some b =>
        cases b with
        | false => exact ss_asg C ((hA d).1 sx E X C v) (by cases v <;> rfl) (sw_tup C q) rfl
        | true =>
          cases d with
          | zero => exact ss_bad fun e S => rfl
          | succ d => exact ss_par C q h2 (hA d).1
    | _ => cases h2
theorem ss_succ {d : Nat} (hA : ∀ d, SE P call CX k G d ∧ ST P call CX k G d) (ih : SS P call CX k G d) : SS P call CX k G (d + 1) := by
  intro sx E X C po x
  have hf := (hA d).1 sx E X C
  have ht := (hA d).2 sx E X C
  have hb := ss_blk (ih sx E X C po)
  cases x with
  | Assign ts v pos =>
    cases ts with
    | nil => exact ss_bad fun e S => rfl
    | cons tg r =>
      cases r with
      | cons _ _ => exact ss_bad fun e S => by cases tg <;> rfl
      | nil =>
        cases tg with
        | Subscript o i p' =>
          by_cases hs : isSlice i = true
          · exact ss_bad fun e S => if_pos hs
          · exact ss_of (ss_sub (p := pos) (p' := p') C (hf o) (hf i) (hf v) (by simpa using hs)) fun e S => if_neg hs
        | _ => exact ss_of (ss_asgs (d := d) C hA) fun e S => rfl
  | Expr v pos =>
    by_cases hc : isComp v = true
    · exact ss_bad fun e S => if_pos hc
    · exact ss_of (ss_expr (p := pos) (by simpa using hc) (hf v)) fun e S => if_neg hc
  | Return v pos =>
    cases v with
    | none => exact ps_retN.of fun D σ H ⟨I, S, e, rl, rs, h⟩ => RE.now (k := kS G D) h rl .non (by unfold RW; rfl)
    | some v => exact ss_ret (hf v)
  | If c a b pos => exact ss_if (rc := fun e S => evalE P call d sx e c S) (ht c) (hb a) (hb b)
  | For tg iter body orelse pos =>
    cases orelse with
    | cons _ _ => exact ss_bad fun e S => rfl
    | nil =>
      by_cases hset : isSet iter = true
      · exact ss_bad fun e S => by
          show (walkE (rgOk P sx) (evalE P call d sx e) iter S).bind _ = _
          unfold walkE
          rw [if_pos hset]; rfl
      · exact ss_for C po (f := fun x e S => evalE P call d sx e x S) hf (fun x e S h => star_bad h) (hb body) (by simpa using hset)
  | Pass pos => exact ps_pass.of fun D σ H ⟨I, S, e, rl, rs, h⟩ => RE.now (k := kS G D) h rl σ rs
  | Break pos => exact ps_break.of fun D σ H ⟨I, S, e, rl, rs, h⟩ => RE.now (k := kS G D) h rl σ rs
  | Continue pos => exact ps_continue.of fun D σ H ⟨I, S, e, rl, rs, h⟩ => RE.now (k := kS G D) h rl σ rs
  | _ => exact ss_bad fun e S => rfl
/-- EVERY STATEMENT, at any depth -/
theorem ss_all : ∀ d, SS P call CX k G d
  | 0 => fun sx E X C po x => ss_bad fun e S => rfl
  | d + 1 => ss_succ se_all (ss_all d)
end
end Z

/-! Defs: each def of the table keeps its promise, at any depth of calls. -/
namespace Z
open PySem PySem.Spec L2 PyProof.Rows
/-- how a def of the table stands behind the top -/
structure DefAt (K : PySem.W.Frag) (mg : Str → Option Value) (f : Str) (fi : Fi) (fa : Addr) (fd : FuncData) : Prop where
  cal : CalF K mg f fi fa fd
  ex : ∃ (x qual : Str) (oc : Value) (od : Option Addr) (kV doc pm : Value) (an : Option Addr) (cdv ct : Value) (osl : Array (Option Value)),
    fd = PySem.W.fnOf x qual (defArgs fi.st) (defBody fi.st) (defScope fi.st) .none kV doc pm an cdv ct ∧ K.lookup fa = some ⟨oc, od, .func fd, osl⟩ ∧ PySem.W.codeIn K cdv qual = true
  sc : FnScope fi.N fi.ps (defScope fi.st)
section
variable {Pr : Program} {w : World} {K : PySem.W.Frag} {mg : Str → Option Value} {base : Heap}
theorem fnG_of {cxt : CXT} {k : Nat} {fa : Addr} {nm ql : Str} {pars : Arguments} {bd : List Stmt} {sc : Scope} {d1 d2 d3 d4 cdv ct oc : Value} {an od : Option Addr} {osl : Array (Option Value)} {N ps : List Str} {sp : Sp}
    (look : K.lookup fa = some ⟨oc, od, .func (PySem.W.fnOf nm ql pars bd sc d1 d2 d3 d4 an cdv ct), osl⟩) (code : PySem.W.codeIn K cdv ql = true) (F : FnScope N ps sc) (hlen : ∀ vs H Q E, sp vs H Q E → vs.length = ps.length)
    (bodyOk : ∀ (A : Around) (outer : List Env) (s : Shared) (H : Hp) (vs : List V) (Q : VK) (E : XK), Room k (A.deeper (envOfC ql sc s.heap.objs.size fa cdv)) → A.guards = some [] → Sys base → sp vs H Q E →
      ∃ t, PSs (cxOf cxt Pr w K mg base N ql sc fa cdv A outer s H E) bd t ∧ t { nx := fun _ H' => Q .non H', rt := Q } (L2.start N vs) H) (sys : Sys base) :
    FnG Pr w K mg base cxt (k + 1) fa (PySem.W.fnOf nm ql pars bd sc d1 d2 d3 d4 an cdv ct) ps sp where
  len := hlen
  run := by
    intro A outer s H args us vs Q E room grd e0 bnd rel prom
    have lens := hlen _ _ _ _ prom
    have inK : K.In s.heap := e0.mod.kin.keeps fun b o q => (e0.bs b o q).1
    have noLim : s.heap.NoLimit := e0.mod.nolimit.keeps fun b o q => (e0.bs b o q).1
    refine codeAny_call_function room.depth (inK _ _ look) rfl F.co F.gen rfl (PySem.W.codeRec_of inK code) (bnd _ _ _ _ ?_)
    refine wpAny_newFunctionEnv_cells F.kind (fun y hy => ?_) fun env he s1 x => ?_
    · obtain ⟨n, v⟩ := y
      exact (F.par n (List.of_mem_zip hy).1).imp id fun q => ⟨q, PySem.W.cellsFrom_some _ _ _ (.inl q)⟩
    · subst he
      obtain ⟨t, body, fin⟩ := bodyOk A outer s H vs Q E (room.deeper _) grd sys prom
      have I0 : Inv (cxOf cxt Pr w K mg base N ql sc fa cdv A outer s H E) [] (L2.start N vs) H s1 := inv_start F room.hd e0 lens rel x
      refine ⟨noLim.keeps x.toInCall.keep, codeAny_func (wpAny_mono (body.run [] s1 (L2.start N vs) H _ I0 fin) (fun fl s' q => ?_) fun e s' q => q)⟩
      cases fl with
      | ret u => obtain ⟨v, σ', H', J, r, z⟩ := q; exact ⟨v, H', J.os, J.bare, J.base, J.hok, r, z⟩
      | next => obtain ⟨σ', H', J, z⟩ := q; exact ⟨.non, H', J.os, J.bare, J.base, J.hok, rfl, z⟩
      | brk => obtain ⟨_, _, _, z⟩ := q; exact z.elim
      | cont => obtain ⟨_, _, _, z⟩ := q; exact z.elim
end
/-- the table as it stands -/
structure TabAt (P : Pg) (K : PySem.W.Frag) (mg : Str → Option Value) : Prop where
  defs : ∀ f fi, P.F f = some fi → ∃ fa fd, DefAt K mg f fi fa fd
  glb : GOk K mg P
  bi : ∀ x ∈ ("range" : Str) :: builtins, P.F x = none → mg x = none
theorem start_ok {G : Gd} {H : Hp} {I : List Addr} {ws : List W} {vs : List V} {N : List Str} (z : RWs G H I ws vs) : RS G H I (ws.map some ++ List.replicate (N.length - ws.length) none) (L2.start N vs) := by
  have hl := z.len
  refine ⟨by unfold L2.start; simp [hl], fun i w h => ?_⟩
  unfold L2.start
  by_cases hi : i < ws.length
  · rw [List.getElem?_append_left (by simpa using hi), List.getElem?_map] at h
    cases q : ws[i]? with
    | none => rw [q] at h; cases h
    | some x =>
      rw [q] at h; cases h
      obtain ⟨v, e, r⟩ := z.get q
      exact ⟨v, by rw [List.getElem?_append_left (by rw [List.length_map, ← hl]; exact hi), List.getElem?_map, e]; rfl, r⟩
  · rw [List.getElem?_append_right (by simpa using hi), List.getElem?_replicate] at h
    split at h <;> cases h
theorem spZ_len {G : Gd} {call : Cf} {f : Str} {n : Nat} {vs : List V} {H : Hp} {Q : VK} {E : XK} (h : spZ G call f n vs H Q E) : vs.length = n := by
  obtain ⟨I, S, ws, rl, z, hl, _⟩ := h
  rw [← z.len]; exact hl
/-- EVERY DEF -/
theorem fn_all {P : Pg} {Pr : Program} {w : World} {K : PySem.W.Frag} {mg : Str → Option Value} {base : Heap} (T : TabAt P K mg) (sys : Sys base) : ∀ (k : Nat) (f : Str) (fi : Fi), P.F f = some fi → ∀ (fa : Addr) (fd : FuncData), DefAt K mg f fi fa fd →
    FnG Pr w K mg base (L2.CX Pr w) k fa fd fi.ps (spZ ⟨K, mg⟩ (callN P k) f fi.ps.length)
  | 0, f, fi, hf, fa, fd, D => ⟨fun vs H Q E h => spZ_len h, fun A outer s H args us vs Q E _ _ _ _ _ h => by obtain ⟨I, S, ws, _, _, _, h⟩ := h; exact False.elim h⟩
  | k + 1, f, fi, hf, fa, fd, D => by
    obtain ⟨x, qual, oc, od, kV, doc, pm, an, cdv, ct, osl, rfl, lk, hcd⟩ := D.ex
    refine fnG_of lk hcd D.sc (fun vs H Q E h => spZ_len h) (fun A outer s H vs Q E hr hg sys h => ?_) sys
    obtain ⟨I, S, ws, rl, z, hl, h⟩ := h
    have C : Cz P (callN P k) (L2.CX Pr w) k ⟨fi.N, defScope fi.st, fun _ => true⟩ ⟨K, mg⟩ E (cxOf (L2.CX Pr w) Pr w K mg base fi.N qual (defScope fi.st) fa cdv A outer s H E) :=
      { hN := rfl
        nd := D.sc.nd
        sc := rfl
        kind := D.sc.kind
        K := rfl
        mg := rfl
        calm := rfl
        room := hr
        grd := hg
        sys := sys
        fn := fun _ _ => rfl
        glb := T.glb
        bi := T.bi
        cal := fun g gi hg => by
          obtain ⟨ga, gd, Dg⟩ := T.defs g gi hg
          exact ⟨ga, gd, Dg.cal, fn_all T sys k g gi hg ga gd Dg⟩
        px := passes_call (takes_of rfl rfl rfl rfl) fun _ _ _ _ h => h
        p0 := fun _ _ _ _ _ ⟨_, _, _, _, _, _, _, _, _, _, _, _, h⟩ => h }
    have po : PassesOwn (model Pr w) (A.deeper (envOfC qual (defScope fi.st) s.heap.objs.size fa cdv)) (envOfC qual (defScope fi.st) s.heap.objs.size fa cdv) (cxOf (L2.CX Pr w) Pr w K mg base fi.N qual (defScope fi.st) fa cdv A outer s H E).xe :=
      passes_of (X := cxOf (L2.CX Pr w) Pr w K mg base fi.N qual (defScope fi.st) fa cdv A outer s H E) rfl
    refine ⟨_, ss_blk (f := fun x e S => execS P (callN P k) deepT ⟨fi.N, defScope fi.st, fun _ => true⟩ x e S) (ss_all deepT _ _ _ C po) (defBody fi.st), I, S, ws.map some ++ List.replicate (fi.N.length - ws.length) none, rl, start_ok z, ?_⟩
    unfold callN at h
    simp only [hf, hl, if_true] at h
    rw [hl]
    refine (RE.bind h).imp fun r S1 H1 I1 k1 p1 rl1 h1 => ?_
    obtain ⟨e1, fl⟩ := r
    cases fl with
    | nx => exact fun σ' _ => RE.now (k := kV' _ Q) h1 rl1 .non (by unfold RW; rfl)
    | ret w => exact RE.now (k := kV' _ Q) h1 rl1
    | brk => exact False.elim h1
    | ct => exact False.elim h1
end Z

/-! The end: a law of the program, from the reader's answer. -/
namespace Z
open PySem PySem.Spec L2 PyProof.Rows
theorem ints_W {G : Gd} {H : Hp} {I : List Addr} : ∀ ns : List Int, RWs G H I (ns.map W.int) (ns.map V.int)
  | [] => .nil
  | n :: r => .cons (by unfold RW; rfl) (ints_W r)
/-- behind the top, from a heap of which nothing is tracked but the script a -/
theorem law_mid {P : Pg} {Pr : Program} {w : World} {K : PySem.W.Frag} {mg mb : Str → Option Value} {kd : Nat} {fa a : Addr} {fi : Fi} {nm : Str} {s₁ : Shared} {vs : List Value} {ns : List Int} {H : Hp}
    (inK : K.In s₁.heap) (gl : s₁.heap.Ns mainGlobals mg) (bl : s₁.heap.Ns builtinsNs mb) (bb : ∀ x : Str, x ≠ "__name__" → mb x = bootBuiltins x) (nl : s₁.heap.NoLimit) (nt : s₁.heap.NoSeer) (gs : s₁.gens = #[])
    (ob : s₁.heap.get? a = some { cls := .type "list", data := .seq vs.toArray }) (room : Room kd callerA) (T : TabAt P K mg) (hF : P.F nm = some fi) (hm : mg nm = some (.ref fa)) (h1 : fi.ps.length = 1)
    (only : ∀ b, H b = none ∨ (b = a ∧ K.lookup a = none ∧ ∃ o xs, H b = some (.frz o (.lst xs)))) (hS : SqF K H a (ns.map V.int)) (hok : HOk Pr w H s₁.heap)
    (ans : ∃ S, callN P kd nm [.fl (ns.map W.int)] [] = .ok (.bl true) S) :
    codeAny (model Pr w) callerA (.call (.ref fa) ⟨[.ref a], []⟩) (fun r s' => r = .ok (.ret (.bool true)) ∧ OldK s₁.heap s'.heap ∧ s'.os = s₁.os ∧ AllBare s'.gens) s₁ := by
  have clear : ∀ {b : Addr} {o : Obj}, s₁.heap.get? b = some o → (b = a → K.lookup a ≠ none ∨ ∃ es ep, o.data = .dict es ep) → H b = none := fun {b o} e q => by
    rcases only b with z | ⟨rfl, z, _⟩
    · exact z
    · rcases q rfl with q | ⟨es, ep, q⟩
      · exact absurd z q
      · rw [ob] at e; cases e; cases q
  have keepNs : ∀ {b : Addr} {m : Str → Option Value}, s₁.heap.Ns b m → (hidT s₁.heap H).Ns b m := fun {b m} ⟨o, es, ep, e, d, r⟩ => ⟨o, es, ep, hidT_get e (clear e fun _ => .inr ⟨es, ep, d⟩), d, r⟩
  have inK2 : K.In (hidT s₁.heap H) := fun b o e => hidT_get (inK b o e) (clear (inK b o e) fun q => .inl (by subst q; rw [e]; simp))
  have md : Mod K mg (hidT s₁.heap H) := ⟨inK2, keepNs gl, ⟨mb, keepNs bl, bb⟩, by obtain ⟨mc, q1, q2⟩ := nl; exact ⟨mc, keepNs q1, q2⟩⟩
  have env : Env0 Pr w K mg (hidT s₁.heap H) callerA [] s₁ H := ⟨rfl, md, fun b o e => of_hidT e, Nat.le_of_eq (hidT_size _ _), trivial, fun b q => (by cases q), hok, .of_eq gs⟩
  have sys : Sys (hidT s₁.heap H) := by
    obtain ⟨mm, q, _⟩ := nt.mods
    obtain ⟨o, es, ep, e, d, _⟩ := keepNs q
    exact ⟨o, es, ep, e, d⟩
  obtain ⟨ga, gd, D⟩ := T.defs nm fi hF
  obtain rfl : fa = ga := by
    have q := D.cal.mg
    rw [hm] at q; cases q; rfl
  obtain ⟨S, ea⟩ := ans
  have fin := (fn_all (Pr := Pr) (w := w) T sys kd nm fi hF fa gd D).run callerA [] s₁ H ⟨[.ref a], []⟩ [.ref a] [.ref a] (fun v _ => v = .bl true) (fun _ _ _ => False) room rfl env (.of_eq (D.cal.bind [.ref a] (by rw [h1]; rfl))) (.cons rfl .nil)
    ⟨[], [], [.fl (ns.map W.int)], ⟨rfl, fun i j b e => by simp at e, fun i o b e => by simp at e⟩, .cons (by unfold RW; exact ⟨a, _, rfl, hS, ints_W ns⟩) .nil, by rw [h1]; rfl, by
      rw [ea]
      intro H2 I2 k2 p2 rl2 v hv
      unfold RW at hv
      exact hv⟩
  refine codeAny_mono fin fun r s' h => ?_
  cases r with
  | error e => obtain ⟨_, _, _, _, _, _, _, _, _, _, _, _, h⟩ := h; exact h.elim
  | ok fl =>
    cases fl with
    | next => exact False.elim h
    | brk => exact False.elim h
    | cont => exact False.elim h
    | ret u =>
      obtain ⟨v, H2, os, bare, un, hok2, rv, q⟩ := h
      have q : v = .bl true := q
      subst q
      obtain rfl : u = Value.bool true := rv
      refine ⟨rfl, OldK.of_keep fun b o e => ?_, os, bare⟩
      rcases only b with z | ⟨_, _, o2, xs, z⟩
      · exact un.keep b o e z (by intro q; cases q) (by simp)
      · have z2 := un.frzs b o2 _ z
        obtain ⟨e1, _⟩ := hok b _ z
        obtain ⟨e2, _⟩ := hok2 b _ z2
        rw [e] at e1; cases e1
        exact e2
theorem law_end {P : Pg} {Pr : Program} {w : World} {K : PySem.W.Frag} {mg mb : Str → Option Value} {kd : Nat} {fa a : Addr} {fi : Fi} {nm : Str} {s₁ : Shared} {vs : List Value} {ns : List Int}
    (inK : K.In s₁.heap) (gl : s₁.heap.Ns mainGlobals mg) (bl : s₁.heap.Ns builtinsNs mb) (bb : ∀ x : Str, x ≠ "__name__" → mb x = bootBuiltins x) (nl : s₁.heap.NoLimit) (nt : s₁.heap.NoSeer) (gs : s₁.gens = #[])
    (ob : s₁.heap.get? a = some { cls := .type "list", data := .seq vs.toArray }) (it : IntsAre vs ns) (hl : ns.length ≤ sizeLine) (room : Room kd callerA) (T : TabAt P K mg) (hF : P.F nm = some fi) (hm : mg nm = some (.ref fa)) (h1 : fi.ps.length = 1)
    (ans : ∃ S, callN P kd nm [.fl (ns.map W.int)] [] = .ok (.bl true) S) :
    codeAny (model Pr w) callerA (.call (.ref fa) ⟨[.ref a], []⟩) (fun r s' => r = .ok (.ret (.bool true)) ∧ OldK s₁.heap s'.heap ∧ s'.os = s₁.os ∧ AllBare s'.gens) s₁ := by
  have rv := vals_ints it
  have len := it.length
  cases hk : K.lookup a with
  | some o =>
    have e := inK a o hk
    rw [ob] at e
    cases e
    refine law_mid (H := fun _ => none) inK gl bl bb nl nt gs ob room T hF hm h1 (fun b => .inl rfl) (fun H2 _ => .inr ⟨_, vs.toArray, _, hk, rfl, rfl, rfl, ?_, ?_⟩) (fun b u z => by cases z) ans
    · rw [List.size_toArray, len]; exact hl
    · simpa using rv
  | none =>
    have here : (fun b => if b = a then some (HO.frz { cls := .type "list", data := .seq vs.toArray } (.lst (ns.map V.int))) else none) a = some (HO.frz { cls := .type "list", data := .seq vs.toArray } (.lst (ns.map V.int))) := if_pos rfl
    refine law_mid (H := fun b => if b = a then some (HO.frz { cls := .type "list", data := .seq vs.toArray } (.lst (ns.map V.int))) else none) inK gl bl bb nl nt gs ob room T hF hm h1 (fun b => ?_) (fun H2 k2 => .inl (.inr ⟨_, k2.frz _ _ _ here⟩)) (fun b u z => ?_) ans
    · by_cases q : b = a
      · subst q; exact .inr ⟨rfl, hk, _, _, here⟩
      · exact .inl (if_neg q)
    · by_cases q : b = a
      · subst q
        have z2 := here.symm.trans z
        cases z2
        exact ⟨ob, by rw [List.length_map]; exact hl, vs, _, rv, ob⟩
      · have z2 := (if_neg q).symm.trans z
        cases z2
/-- the goal that the head leaves, from the reader's answer -/
theorem walkZ {l : PySem.W.OpenLaw} {n kd : Nat} {q : Program} {loose : List Str} {XP : (Str → Option Value) → Heap → Prop} {YP : World → Heap → Prop} {d : DefRec} {K : Params → PySem.W.Frag} {P : Pg} {fi : Fi}
    (most : l.most = some n) (most2 : n ≤ sizeLine) (nodf : d.params.defaults = []) (room : Room kd callerA) (seer : importsNone q = true) (inK : ∀ (w : World) (h : Heap), YP w h → (K w.params).In h)
    (T : ∀ (w : World) (mg : Str → Option Value) (h : Heap), (K w.params).In h → h.Ns mainGlobals mg → TabAt P (K w.params) mg) (hF : P.F d.name = some fi) (h1 : fi.ps.length = 1)
    (ans : ∀ ns : List Int, ns.length ≤ n → (∀ z ∈ ns, Builtin.Int.intBits z ≤ 1048576) → ∃ S, callN P kd d.name [.fl (ns.map W.int)] [] = .ok (.bl true) S) :
    PySem.W.WalkO q loose XP YP l.row.toRowW d [] (fun f vs => PySem.call f vs) := by
  refine Att.attach_callB most nodf fun w s₀ s₁ mg mb fa o pm cd doc a vs ns G Y ho hd hcd hm ob it len bits gs => ?_
  exact law_end (inK w _ Y) G.T.g G.T.b G.T.builtins G.T.nolimit (G.T.seer seer) gs ob it (Nat.le_trans len most2) room (T w mg _ (inK w _ Y) G.T.g) hF hm h1 (ans ns len bits)
end Z

/-! What the top has written, for the table. -/
namespace Z
open PySem PySem.Spec L2 PyProof.Rows
/-- how arguments bind, told by the parameters alone -/
def BindsAll (fi : Fi) : Prop := ∀ (x qual : Str) (kV doc pm : Value) (an : Option Addr) (cdv ct : Value),
  (∀ us : List Value, us.length = fi.ps.length → bindArgs (PySem.W.fnOf x qual (defArgs fi.st) (defBody fi.st) (defScope fi.st) .none kV doc pm an cdv ct) ⟨us, []⟩ = pure (fi.ps.zip us)) ∧
  ∀ (n : Nat) (ks : List Str), (n, ks) ∈ fi.kws → n + ks.length = fi.ps.length ∧ ∀ us ws : List Value, us.length = n → ws.length = ks.length → (ordK fi.ps ks us ws).length = fi.ps.length ∧ bindArgs (PySem.W.fnOf x qual (defArgs fi.st) (defBody fi.st) (defScope fi.st) .none kV doc pm an cdv ct) ⟨us, ks.zip ws⟩ = pure (fi.ps.zip (ordK fi.ps ks us ws))
theorem defAt_mk {K : PySem.W.Frag} {mg : Str → Option Value} {h : Heap} {f : Str} {fi : Fi} {fa : Addr} {x qual : Str} {oc : Value} {od : Option Addr} {kV doc pm : Value} {an : Option Addr} {cdv ct : Value} {osl : Array (Option Value)} (X : K.In h) (G : h.Ns mainGlobals mg)
    (a : PySem.W.nsIn K mainGlobals f = some (some (.ref fa))) (l : K.lookup fa = some ⟨oc, od, .func (PySem.W.fnOf x qual (defArgs fi.st) (defBody fi.st) (defScope fi.st) .none kV doc pm an cdv ct), osl⟩) (c : PySem.W.codeIn K cdv qual = true) (k : PySem.W.keepIn K (.ref fa) = true)
    (sc : FnScope fi.N fi.ps (defScope fi.st)) (b : BindsAll fi) : ∃ fa fd, DefAt K mg f fi fa fd :=
  ⟨fa, _, ⟨PySem.W.mg_of X G a, k, (b x qual kV doc pm an cdv ct).1, (b x qual kV doc pm an cdv ct).2⟩, ⟨x, qual, oc, od, kV, doc, pm, an, cdv, ct, osl, rfl, l, c⟩, sc⟩
def pgT (gs : List (Str × W)) (fs : List (Str × Fi)) : Pg := ⟨fun x => gs.lookup x, fun x => fs.lookup x⟩
theorem tab_mk {K : PySem.W.Frag} {mg : Str → Option Value} {gs : List (Str × W)} {fs : List (Str × Fi)} (defs : ∀ p ∈ fs, ∃ fa fd, DefAt K mg p.1 p.2 fa fd) (glb : GOk K mg (pgT gs fs)) (bi : ∀ x ∈ ("range" : Str) :: builtins, mg x = none) : TabAt (pgT gs fs) K mg :=
  ⟨fun f fi h => defs (f, fi) (PySem.mem_of_lookup h), glb, fun x h _ => bi x h⟩
end Z

/-! The reader, one construct a lemma: to be run by simp. -/
namespace Z
open PySem
section
variable {P : Pg} {call : Cf} {d : Nat} {sx : Sx} {e : En} {S : So}
theorem xName {n : Str} {p : Pos} : evalE P call (d + 1) sx e (.Name n p) S = if okN n = true then ofO (nameE P sx e n) S else .bad := rfl
theorem xConst {c : Const} {j : Nat} {p : Pos} : evalE P call (d + 1) sx e (.Constant c j p) S = constE c S := rfl
theorem xBin {a b : Expr} {op : Operator} {p : Pos} : evalE P call (d + 1) sx e (.BinOp a op b p) S = (evalE P call d sx e a S).bind fun u S1 => (evalE P call d sx e b S1).bind fun v S2 => binop op u v S2 := rfl
theorem xNot {a : Expr} {p : Pos} : evalE P call (d + 1) sx e (.UnaryOp .Not a p) S = (evalE P call d sx e a S).bind fun u S1 => match truth u S1 with | some b => .ok (.bl (!b)) S1 | none => .bad := rfl
theorem xCmp {a b : Expr} {op : CmpOp} {p : Pos} (h : isSet b = false) : evalE P call (d + 1) sx e (.Compare a [op] [b] p) S = (evalE P call d sx e a S).bind fun u S1 => (evalE P call d sx e b S1).bind fun v S2 => (ofO (cmp op u v S2) S2).bind fun r S3 => .ok (.bl r) S3 := by
  show (if isSet b = true then _ else _) = _
  rw [h]; rfl
theorem xIf {c a b : Expr} {p : Pos} : evalE P call (d + 1) sx e (.IfExp c a b p) S = (evalE P call d sx e c S).bind fun u S1 => match truth u S1 with | some true => evalE P call d sx e a S1 | some false => evalE P call d sx e b S1 | none => .bad := rfl
theorem xTup {es : List Expr} {j : Nat} {p : Pos} : evalE P call (d + 1) sx e (.Tuple es j p) S = (evL (evalE P call d sx e) es S).bind fun ws S1 => if ws.length ≤ sizeLine then .ok (.tup ws) S1 else .bad := rfl
theorem xLst {es : List Expr} {p : Pos} : evalE P call (d + 1) sx e (.List es p) S = (evL (evalE P call d sx e) es S).bind fun ws S1 => if ws.length ≤ sizeLine then new (.lst ws) S1 else .bad := rfl
theorem xSlice {a : Expr} {lo hi : Option Expr} {p p' : Pos} : evalE P call (d + 1) sx e (.Subscript a (.Slice lo hi none p') p) S = (evalE P call d sx e a S).bind fun u S1 => (evO (evalE P call d sx e) lo S1).bind fun l S2 => (evO (evalE P call d sx e) hi S2).bind fun h S3 => slice u l h S3 := rfl
theorem xSub {a b : Expr} {p : Pos} (h : isSlice b = false) : evalE P call (d + 1) sx e (.Subscript a b p) S = (evalE P call d sx e a S).bind fun u S1 => (evalE P call d sx e b S1).bind fun v S2 => ofO (item u v S2) S2 := by
  cases b <;> first | rfl | cases h
theorem xCall {f : Str} {es : List Expr} {p p' : Pos} : evalE P call (d + 1) sx e (.Call (.Name f p) es [] p') S = if (okN f = true ∧ plainA es [] = true) ∧ sx.sc.names.lookup f = some .globalImplicit then match P.F f with
        | some fi => (evL (evalE P call d sx e) es S).bind fun us S1 => if us.length = fi.ps.length then call f us S1 else .bad
        | none => if f ∈ builtins then (evL (evalE P call d sx e) es S).bind fun us S1 => builtin f us S1 else .bad
      else .bad := by
  show (if _ then (match P.F f with
        | some fi => (evL (evalE P call d sx e) es S).bind fun us S1 => (evK (evalE P call d sx e) [] S1).bind fun ws S2 => match argsOf fi us [] ws with
          | some vs => call f vs S2
          | none => .bad
        | none => if ([] : List Keyword).isEmpty = true ∧ f ∈ builtins then _ else _) else _) = _
  congr 1
  cases P.F f with
  | none =>
    show (if _ then _ else _) = (if _ then _ else _)
    simp
  | some fi =>
    show (evL (evalE P call d sx e) es S).bind _ = (evL (evalE P call d sx e) es S).bind _
    congr 1
    funext us S1
    by_cases h : us.length = fi.ps.length
    · simp only [evK, Res.bind, argsOf, List.isEmpty_nil, if_true, h]
    · simp only [evK, Res.bind, argsOf, List.isEmpty_nil, if_true, h, if_false]
/-- a call of a def, of a built-in -/
theorem xOwn {f : Str} {fi : Fi} {es : List Expr} {p p' : Pos} (h1 : (okN f = true ∧ plainA es [] = true) ∧ sx.sc.names.lookup f = some .globalImplicit) (h2 : P.F f = some fi) : evalE P call (d + 1) sx e (.Call (.Name f p) es [] p') S = (evL (evalE P call d sx e) es S).bind fun us S1 => if us.length = fi.ps.length then call f us S1 else .bad := by
  rw [xCall, if_pos h1, h2]
theorem xBlt {f : Str} {es : List Expr} {p p' : Pos} (h1 : (okN f = true ∧ plainA es [] = true) ∧ sx.sc.names.lookup f = some .globalImplicit) (h2 : P.F f = none) (h3 : f ∈ builtins) : evalE P call (d + 1) sx e (.Call (.Name f p) es [] p') S = (evL (evalE P call d sx e) es S).bind fun us S1 => builtin f us S1 := by
  rw [xCall, if_pos h1, h2, if_pos h3]
theorem xMeth {o : Expr} {m : Str} {ap cp : Pos} {es : List Expr} {T : String} (h : methTy m = some T) (h2 : ((ap.endLine == cp.line) = true ∧ plainA es [] = true) ∧ (1 ≤ es.length ∧ es.length < 20) ∧ isSuper o = false) : evalE P call (d + 1) sx e (.Call (.Attribute o m ap) es [] cp) S =
    (evalE P call d sx e o S).bind fun u S1 => if valTy u S1 = some T then (evL (evalE P call d sx e) es S1).bind fun us S2 => method u m us S2 else .bad := by
  show (match methTy m with | none => _ | some T => if ((ap.endLine == cp.line) = true ∧ plainA es [] = true) ∧ (1 ≤ es.length ∧ es.length < 20) ∧ isSuper o = false then _ else _) = _
  rw [h]
  exact if_pos h2
theorem bOk {α β : Type} {a : α} {f : α → So → Res β} : (Res.ok a S).bind f = f a S := rfl
theorem oOk {α : Type} {a : α} : ofO (some a) S = .ok a S := rfl
/-! statements -/
theorem yIf {c : Expr} {a b : List Stmt} {p : Pos} : execS P call (d + 1) sx (.If c a b p) e S = (evalE P call d sx e c S).bind fun u S1 => match truth u S1 with
      | some true => evS (execS P call d sx) a e S1
      | some false => evS (execS P call d sx) b e S1
      | none => .bad := rfl
theorem ySub {o i v : Expr} {p p' : Pos} (h : isSlice i = false) : execS P call (d + 1) sx (.Assign [.Subscript o i p'] v p) e S = (evalE P call d sx e v S).bind fun w S1 => (evalE P call d sx e o S1).bind fun u S2 => (evalE P call d sx e i S2).bind fun k S3 => (ofO (setItem u k w S3) S3).bind fun S4 _ => .ok (e, .nx) S4 := by
  show (if isSlice i = true then _ else _) = _
  rw [h]; rfl
theorem yName {x : Str} {v : Expr} {p p' : Pos} (h : tgOk sx.N (.Name x p') = true) : execS P call (d + 1) sx (.Assign [.Name x p'] v p) e S = (evalE P call d sx e v S).bind fun w S1 => (ofO (asg sx e (.Name x p') w) S1).bind fun e2 S2 => .ok (e2, .nx) S2 := by
  show (if swK sx (.Name x p') v = none ∨ tgOk sx.N (.Name x p') = false then _ else _) = _
  rw [h]
  exact if_neg (by rintro (q | q) <;> cases q)
theorem yTup {es : List Expr} {j : Nat} {v : Expr} {p p' : Pos} {b : Bool} (h : tgOk sx.N (.Tuple es j p') = true) (h2 : swK sx (.Tuple es j p') v = some b) : execS P call (d + 1) sx (.Assign [.Tuple es j p'] v p) e S = (evalE P call d sx e v S).bind fun w S1 => (ofO (asg sx e (.Tuple es j p') w) S1).bind fun e2 S2 => .ok (e2, .nx) S2 := by
  show (if swK sx (.Tuple es j p') v = none ∨ tgOk sx.N (.Tuple es j p') = false then _ else _) = _
  rw [h, h2]
  exact if_neg (by rintro (q | q) <;> cases q)
theorem yExpr {v : Expr} {p : Pos} (h : isComp v = false) : execS P call (d + 1) sx (.Expr v p) e S = (evalE P call d sx e v S).bind fun _ S1 => .ok (e, .nx) S1 := by
  show (if isComp v = true then _ else _) = _
  rw [h]; rfl
theorem yRet {v : Expr} {p : Pos} : execS P call (d + 1) sx (.Return (some v) p) e S = (evalE P call d sx e v S).bind fun w S1 => .ok (e, .ret w) S1 := rfl
theorem yFor {tg iter : Expr} {body : List Stmt} {p : Pos} : execS P call (d + 1) sx (.For tg iter body [] p) e S = (walkE (rgOk P sx) (evalE P call d sx e) iter S).bind fun k S1 => turns k (forTurn sx tg (evS (execS P call d sx) body)) k.len 0 (e, Fl.nx) S1 := rfl
end
end Z

/-! The reader on a program: what every law needs. -/
namespace Z
open PySem
/-- the answer is there, and Q holds of it -/
def Yes {α : Type} (r : Res α) (Q : α → So → Prop) : Prop := ∃ a S, r = .ok a S ∧ Q a S
theorem yes_bind {α β : Type} {r : Res α} {g : α → So → Res β} {R : α → So → Prop} {Q : β → So → Prop} (h : Yes r R) (k : ∀ a S, R a S → Yes (g a S) Q) : Yes (r.bind g) Q := by
  obtain ⟨a, S, rfl, q⟩ := h
  exact k a S q
theorem yes_ok {α : Type} {a : α} {S : So} {Q : α → So → Prop} (h : Q a S) : Yes (.ok a S) Q := ⟨a, S, rfl, h⟩
theorem yes_imp {α : Type} {r : Res α} {R Q : α → So → Prop} (h : Yes r R) (k : ∀ a S, R a S → Q a S) : Yes r Q := by
  obtain ⟨a, S, e, q⟩ := h
  exact ⟨a, S, e, k a S q⟩
def sxOf (fi : Fi) : Sx := ⟨fi.N, defScope' fi, fun _ => true⟩
where defScope' (fi : Fi) : Scope := L2.defScope fi.st
theorem nv {P : Pg} {sx : Sx} {e : En} {S : So} {x : Str} {i : Nat} (h : okN x = true ∧ isVis (sx.sc.names.lookup x) = true ∧ idx sx.N x = some i) : (if okN x = true then ofO (nameE P sx e x) S else .bad) = ofO (slot e i) S := by
  rw [if_pos h.1]
  unfold nameE
  rw [if_pos h.2.1, h.2.2]; rfl
theorem callN_eq {P : Pg} {k : Nat} {f : Str} {fi : Fi} {vs : List W} {S : So} {e : En} {b : List Stmt} (h : P.F f = some fi) (hl : vs.length = fi.ps.length) (hb : L2.defBody fi.st = b) (he : vs.map some ++ List.replicate (fi.N.length - vs.length) none = e) : callN P (k+1) f vs S = (evS (execS P (callN P k) 40 (sxOf fi)) b e S).bind fun r S1 => match r.2 with
          | .nx => .ok .non S1
          | .ret w => .ok w S1
          | _ => .bad := by
  subst hb he
  unfold callN
  rw [h]
  exact if_pos hl
theorem blt {P : Pg} {sx : Sx} {f : Str} {call : Cf} {d : Nat} {e : En} {S : So} {es : List Expr} {p p' : Pos} (h1 : okN f = true ∧ sx.sc.names.lookup f = some .globalImplicit) (h2 : P.F f = none ∧ f ∈ builtins) (h4 : plainA es [] = true) : evalE P call (d + 1) sx e (.Call (.Name f p) es [] p') S = (evL (evalE P call d sx e) es S).bind fun us S1 => builtin f us S1 := xBlt ⟨⟨h1.1, h4⟩, h1.2⟩ h2.1 h2.2
theorem own {P : Pg} {sx : Sx} {f : Str} {fi : Fi} {call : Cf} {d : Nat} {e : En} {S : So} {es : List Expr} {p p' : Pos} (h1 : okN f = true ∧ sx.sc.names.lookup f = some .globalImplicit) (h2 : P.F f = some fi) (h3 : es.length = fi.ps.length) (h4 : plainA es [] = true) : evalE P call (d + 1) sx e (.Call (.Name f p) es [] p') S = (evL (evalE P call d sx e) es S).bind fun us S1 => call f us S1 := by
  rw [xOwn ⟨⟨h1.1, h4⟩, h1.2⟩ h2]
  cases q : evL (evalE P call d sx e) es S with
  | ok us S1 =>
    show (if us.length = fi.ps.length then call f us S1 else .bad) = call f us S1
    rw [if_pos (by rw [evL_len q, h3])]
  | exn _ _ => rfl
  | bad => rfl
theorem get_set {S : So} {i : Nat} {x o : O} (h : S[i]? = some x) : (S.set i o)[i]? = some o := List.getElem?_set_self (List.getElem?_eq_some_iff.mp h).1
theorem sl0 {w : W} {r : En} : slot (some w :: r) 0 = some w := rfl
theorem slS {a : Option W} {r : En} {i : Nat} : slot (a :: r) (i + 1) = slot r i := by
  unfold slot; rw [List.getElem?_cons_succ]
theorem asgV {sx : Sx} {e : En} {x : Str} {p : Pos} {i : Nat} {w : W} (h : sx.sc.names.lookup x = some .local ∧ idx sx.N x = some i) : asg sx e (.Name x p) w = some (e.set i (some w)) := by
  show asgN sx e x w = _
  unfold asgN
  rw [h.1, h.2]; rfl
theorem asg2 {sx : Sx} {e : En} {x y : Str} {p p' p'' : Pos} {i j c : Nat} {v w : W} (h : sx.sc.names.lookup x = some .local ∧ idx sx.N x = some i) (h2 : sx.sc.names.lookup y = some .local ∧ idx sx.N y = some j) : asg sx e (.Tuple [.Name x p, .Name y p'] c p'') (.tup [v, w]) = some ((e.set i (some v)).set j (some w)) := by
  show asgL sx [.Name x p, .Name y p'] [v, w] e = _
  simp only [asgL, asgN, h.1, h.2, h2.1, h2.2, Option.map_some, Option.bind_some]
theorem tgN {sx : Sx} {x : Str} {p : Pos} {i : Nat} (h : sx.sc.names.lookup x = some .local ∧ idx sx.N x = some i) : tgOk sx.N (.Name x p) = true := by
  show (idx sx.N x).isSome = true
  rw [h.2]; rfl
theorem tg2 {sx : Sx} {x y : Str} {p p' p'' : Pos} {i j c : Nat} (h : sx.sc.names.lookup x = some .local ∧ idx sx.N x = some i) (h2 : sx.sc.names.lookup y = some .local ∧ idx sx.N y = some j) : tgOk sx.N (.Tuple [.Name x p, .Name y p'] c p'') = true := by
  show ((idx sx.N x).isSome && ((idx sx.N y).isSome && true)) = true
  rw [h.2, h2.2]; rfl
theorem cstr {x : Str} {S : So} : constE (.str x) S = .ok (.str x) S := rfl
theorem cint {x : Int} {S : So} : constE (.int x) S = .ok (.int x) S := rfl
theorem cbool {x : Bool} {S : So} : constE (.bool x) S = .ok (.bl x) S := rfl
theorem evL0 {f : Expr → So → Res W} {S : So} : evL f [] S = .ok [] S := rfl
theorem evLc {f : Expr → So → Res W} {x : Expr} {xs : List Expr} {S : So} : evL f (x :: xs) S = (f x S).bind fun w S1 => (evL f xs S1).bind fun ws S2 => .ok (w :: ws) S2 := rfl
theorem bmod {i j : Int} {S : So} (h : 0 < j) : binop .Mod (.int i) (.int j) S = .ok (.int (i % j)) S := if_pos h
theorem bdiv {i j : Int} {S : So} (h : 0 < j ∧ j < 1073741824) : binop .FloorDiv (.int i) (.int j) S = .ok (.int (i / j)) S := if_pos h
theorem bmul {i j : Int} {S : So} (h : Builtin.Int.intBits i + Builtin.Int.intBits j ≤ 134217728) : binop .Mult (.int i) (.int j) S = .ok (.int (i * j)) S := if_pos h
theorem bpow {i j : Int} {S : So} (h : 0 ≤ j ∧ (Builtin.Int.intBits i : Int) * j ≤ 134217728) : binop .Pow (.int i) (.int j) S = .ok (.int (i ^ j.toNat)) S := if_pos h
theorem badd {i j : Int} {S : So} : binop .Add (.int i) (.int j) S = .ok (.int (i + j)) S := rfl
theorem bsub {i j : Int} {S : So} : binop .Sub (.int i) (.int j) S = .ok (.int (i - j)) S := rfl
theorem cge {i j : Int} {S : So} : cmp .GtE (.int i) (.int j) S = some (decide (j ≤ i)) := rfl
theorem clt {i j : Int} {S : So} : cmp .Lt (.int i) (.int j) S = some (decide (i < j)) := rfl
theorem tbl {b : Bool} {S : So} : truth (.bl b) S = some b := rfl
theorem bi_intI {i : Int} {S : So} : builtin "int" [.int i] S = .ok (.int i) S := rfl
theorem bits_ltI {x : Int} {n : Nat} (h0 : 0 ≤ x) (h : x < 2 ^ n) : Builtin.Int.intBits x ≤ n := by
  rw [intBits_le_iff]
  have e : ((x.natAbs : Nat) : Int) = x := Int.natAbs_of_nonneg h0
  have e2 : (((2 : Nat) ^ n : Nat) : Int) = (2 : Int) ^ n := by simp
  omega
/-! loops -/
theorem turns_seq {α : Type} {ws : List W} {f : W → α → So → Res (α × Bool)} {Inv : Nat → α → So → Prop} (step : ∀ j a S w, ws[j]? = some w → Inv j a S → Yes (f w a S) fun r S' => r.2 = true ∧ Inv (j + 1) r.1 S') : ∀ (n j : Nat) (a : α) (S : So), j + n = ws.length → Inv j a S → Yes (turns (.seq ws) f n j a S) (Inv ws.length)
  | 0, j, a, S, h, q => by
    have e : ws[j]? = none := by rw [List.getElem?_eq_none_iff]; omega
    have hj : j = ws.length := by omega
    unfold turns Wk.at
    simp only [e]
    exact yes_ok (by rw [← hj]; exact q)
  | n + 1, j, a, S, h, q => by
    have hj : j < ws.length := by omega
    have e : ws[j]? = some ws[j] := List.getElem?_eq_getElem hj
    unfold turns Wk.at
    simp only [e]
    refine yes_bind (step j a S _ e q) fun r S' ⟨h1, h2⟩ => ?_
    rw [h1]
    exact turns_seq step n (j + 1) r.1 S' (by omega) h2
theorem yes_turns {α β : Type} {ws : List W} {f : W → α → So → Res (α × Bool)} {a : α} {S : So} {g : α → So → Res β} {Q : β → So → Prop} (Inv : Nat → α → So → Prop) (h0 : Inv 0 a S) (step : ∀ j a S w, ws[j]? = some w → Inv j a S → Yes (f w a S) fun r S' => r.2 = true ∧ Inv (j + 1) r.1 S') (k : ∀ a S, Inv ws.length a S → Yes (g a S) Q) :
    Yes ((turns (.seq ws) f (Wk.seq ws).len 0 a S).bind g) Q := yes_bind (turns_seq step ws.length 0 a S (by omega) h0) k
theorem yes_turnsX {α β : Type} {ws : List W} {f : W → α → So → Res (α × Bool)} {a : α} {S : So} {g : α → So → Res β} {Q : β → So → Prop} (Inv : Nat → α → So → Prop) (h0 : Inv 0 a S) (step : ∀ j a S w, ws[j]? = some w → Inv j a S → Yes (f w a S) fun r S' => r.2 = true ∧ Inv (j + 1) r.1 S') (k : ∀ a S, Inv ws.length a S → Yes (g a S) Q) :
    Yes ((noX (turns (.seq ws) f (Wk.seq ws).len 0 a S)).bind g) Q := by
  obtain ⟨b, S', e, q⟩ := turns_seq step ws.length 0 a S (by omega) h0
  show Yes ((noX (turns (.seq ws) f ws.length 0 a S)).bind g) Q
  rw [e]
  exact k b S' q
theorem forTurn_yes {sx : Sx} {tg : Expr} {body : En → So → Res (En × Fl)} {w : W} {e e2 : En} {fl : Fl} {S : So} {R : En → So → Prop} (h : asg sx e tg w = some e2) (hb : Yes (body e2 S) fun r S' => r.2 = .nx ∧ R r.1 S') : Yes (forTurn sx tg body w (e, fl) S) fun r S' => r.2 = true ∧ r.1.2 = .nx ∧ R r.1.1 S' := by
  unfold forTurn
  simp only [h]
  refine yes_bind hb fun r S' ⟨h1, h2⟩ => ?_
  rw [h1]
  exact yes_ok ⟨rfl, rfl, h2⟩
theorem lcTurn_yes {f : En → Expr → So → Res W} {sx : Sx} {e e2 : En} {tg elt : Expr} {D : Nat} {w : W} {S : So} {R : So → Prop} (h : asg sx e tg w = some e2) (hf : Yes (f e2 elt S) fun y S' => ∃ S2, pushTo D y S' = some S2 ∧ R S2) : Yes (lcTurn f sx e tg [] elt D w () S) fun r S' => r.2 = true ∧ R S' := by
  unfold lcTurn
  simp only [h, ifsE, bOk, if_true]
  refine yes_bind hf fun y S' ⟨S2, h1, h2⟩ => ?_
  rw [h1]
  exact yes_ok ⟨rfl, h2⟩
/-- all but the thing at i stands as it stood -/
def Fr (i : Nat) (S S' : So) : Prop := S.length ≤ S'.length ∧ ∀ j, j < S.length → j ≠ i → S'[j]? = S[j]?
theorem Fr.refl {i : Nat} {S : So} : Fr i S S := ⟨Nat.le_refl _, fun _ _ _ => rfl⟩
theorem Fr.trans {i : Nat} {S S1 S2 : So} (a : Fr i S S1) (b : Fr i S1 S2) : Fr i S S2 := ⟨Nat.le_trans a.1 b.1, fun j h n => (b.2 j (Nat.lt_of_lt_of_le h a.1) n).trans (a.2 j h n)⟩
theorem Fr.set {i : Nat} {S : So} {o : O} : Fr i S (S.set i o) := ⟨by simp, fun j _ n => List.getElem?_set_ne (Ne.symm n)⟩
theorem Fr.push {i : Nat} {S : So} {o : O} : Fr i S (S ++ [o]) := ⟨by simp, fun j h _ => List.getElem?_append_left h⟩
/-- a new thing behind is written -/
theorem Fr.put {i D : Nat} {S S1 : So} {o : O} (a : Fr i S S1) (h : S.length ≤ D) : Fr i S (S1.set D o) := ⟨by rw [List.length_set]; exact a.1, fun j hj n => by rw [List.getElem?_set_ne (by omega)]; exact a.2 j hj n⟩
theorem rg_at {n j : Nat} {lo : Int} {w : W} (h : (rangeW lo n)[j]? = some w) : w = .int (lo + (j : Int)) ∧ j < n := by
  unfold rangeW at h
  rw [List.getElem?_map] at h
  obtain ⟨c, e1, e2⟩ := Option.map_eq_some_iff.mp h
  obtain ⟨hl, e3⟩ := List.getElem?_eq_some_iff.mp e1
  rw [List.getElem_range] at e3
  rw [List.length_range] at hl
  subst e3
  exact ⟨e2.symm, hl⟩
theorem rg_len {lo : Int} {n : Nat} : (rangeW lo n).length = n := by unfold rangeW; simp
section
variable {P : Pg} {call : Cf} {d : Nat} {sx : Sx} {e : En} {S : So}
theorem walkR {f : Expr → So → Res W} {iter x : Expr} (h1 : isSet iter = false) (h2 : isRange iter = some [x]) (h3 : rgOk P sx = true) : walkE (rgOk P sx) f iter S = (f x S).bind fun w S1 => match w with
    | .int j => if -(2 ^ 62) ≤ j ∧ j < 2 ^ 62 then .ok (.seq (rangeW 0 j.toNat)) S1 else .bad
    | _ => .bad := by
  unfold walkE
  rw [h1, h3]
  simp only [h2, Bool.false_eq_true, if_false, if_true, evLc, evL0]
  cases f x S with
  | ok w S1 => cases w <;> rfl
  | exn _ _ => rfl
  | bad => rfl
theorem walkO {f : Expr → So → Res W} {iter : Expr} (h1 : isSet iter = false) (h2 : isRange iter = none) {rg : Bool} : walkE rg f iter S = (f iter S).bind walkV := by
  unfold walkE
  rw [h1]
  simp only [h2, Bool.false_eq_true, if_false]
theorem xComp {elt tg iter : Expr} {ifs : List Expr} {scope : Scope} {p : Pos} (h : L2.blkC sx.N sx.sc scope (ownOf sx.N scope) = true ∧ ((slotsT sx.N tg).all fun i => ((ownOf sx.N scope).map (·.2)).contains i) = true ∧ ifs.length ≤ 1) :
    evalE P call (d + 1) sx e (.ListComp elt [⟨tg, iter, ifs, 0⟩] scope p) S = (walkE (rgOk P sx) (evalE P call d sx e) iter S).bind fun k S1 =>
        (noX (turns k (lcTurn (evalE P call d (sxB sx scope)) (sxB sx scope) (wipeW e ((ownOf sx.N scope).map (·.2))) tg ifs elt S1.length) k.len 0 () (S1 ++ [.lst []]))).bind fun _ S6 => .ok (.ref S1.length) S6 := if_pos h
theorem xDict {ks : List (Option Expr)} {vs : List Expr} {p : Pos} (h0 : ks ≠ []) (h : (ks.all (·.isSome) = true ∧ ks.length = vs.length) ∧ ks.length ≤ 15) : evalE P call (d + 1) sx e (.Dict ks vs p) S = (evP (evalE P call d sx e) ks vs (S ++ [.dct []])).bind fun kvs S1 => match S1[S.length]? with
        | some (.dct []) => if kvs.length ≤ 15 then .ok (.ref S.length) (S1.set S.length (.dct (kvs.foldl (fun r kv => putW r kv.1 kv.2) []))) else .bad
        | _ => .bad := by
  cases ks with
  | nil => exact absurd rfl h0
  | cons a r => exact if_pos h
theorem evP0 {f : Expr → So → Res W} : evP f [] [] S = .ok [] S := rfl
theorem evPc {f : Expr → So → Res W} {k v : Expr} {ks : List (Option Expr)} {vs : List Expr} : evP f (some k :: ks) (v :: vs) S = (f k S).bind fun x S1 => (f v S1).bind fun y S2 => match toK x with
    | some q => (evP f ks vs S2).bind fun r S3 => .ok ((q, y) :: r) S3
    | none => .bad := rfl
theorem xAnd {vs : List Expr} {p : Pos} : evalE P call (d + 1) sx e (.BoolOp .And vs p) S = evB true (evalE P call d sx e) vs S := rfl
theorem xOr {vs : List Expr} {p : Pos} : evalE P call (d + 1) sx e (.BoolOp .Or vs p) S = evB false (evalE P call d sx e) vs S := rfl
theorem evB1 {b : Bool} {f : Expr → So → Res W} {x : Expr} : evB b f [x] S = f x S := rfl
theorem evBc {b : Bool} {f : Expr → So → Res W} {x y : Expr} {xs : List Expr} : evB b f (x :: y :: xs) S = (f x S).bind fun w S1 => match truth w S1 with
    | some c => if c = b then evB b f (y :: xs) S1 else .ok w S1
    | none => .bad := rfl
end
/-! by decision -/
section
variable {P : Pg} {call : Cf} {d : Nat} {sx : Sx} {e : En} {S : So}
theorem qName {x : Str} {p : Pos} (h : (okN x && isVis (sx.sc.names.lookup x) && (idx sx.N x).isSome) = true) : evalE P call (d + 1) sx e (.Name x p) S = ofO (slot e ((idx sx.N x).getD 0)) S := by
  rw [Bool.and_eq_true, Bool.and_eq_true] at h
  obtain ⟨i, hi⟩ := Option.isSome_iff_exists.mp h.2
  rw [hi]
  exact nv ⟨h.1.1, h.1.2, hi⟩
def isLoc : Option NameKind → Bool
  | some .local => true
  | _ => false
theorem isLoc_ok {o : Option NameKind} (h : isLoc o = true) : o = some .local := by
  unfold isLoc at h
  split at h
  · rfl
  · cases h
def isGl : Option NameKind → Bool
  | some .globalImplicit => true
  | _ => false
theorem isGl_ok {o : Option NameKind} (h : isGl o = true) : o = some .globalImplicit := by
  unfold isGl at h
  split at h
  · rfl
  · cases h
def asgOk (sx : Sx) (x : Str) : Bool := (match sx.sc.names.lookup x with | some .local => true | some .cell => sx.fn x | _ => false) && (idx sx.N x).isSome
theorem asgOk_ok {x : Str} {w : W} (h : asgOk sx x = true) : (idx sx.N x).isSome = true ∧ asgN sx e x w = some (e.set ((idx sx.N x).getD 0) (some w)) := by
  unfold asgOk at h
  rw [Bool.and_eq_true] at h
  obtain ⟨i, hi⟩ := Option.isSome_iff_exists.mp h.2
  refine ⟨h.2, ?_⟩
  have h1 := h.1
  unfold asgN
  rw [hi]
  split at h1
  · rename_i q; (try rw [q]); rfl
  · rename_i q; (try rw [q])
    show (if sx.fn x = true then _ else _) = _
    rw [if_pos h1]; rfl
  · cases h1
theorem qAsg {x : Str} {p : Pos} {w : W} (h : asgOk sx x = true) : asg sx e (.Name x p) w = some (e.set ((idx sx.N x).getD 0) (some w)) := (asgOk_ok h).2
theorem qAsg2 {x y : Str} {p p' p'' : Pos} {c : Nat} {v w : W} (h : (asgOk sx x && asgOk sx y) = true) : asg sx e (.Tuple [.Name x p, .Name y p'] c p'') (.tup [v, w]) = some ((e.set ((idx sx.N x).getD 0) (some v)).set ((idx sx.N y).getD 0) (some w)) := by
  rw [Bool.and_eq_true] at h
  show asgL sx [.Name x p, .Name y p'] [v, w] e = _
  simp only [asgL, (asgOk_ok h.1).2, (asgOk_ok h.2).2, Option.bind_some]
theorem qSet {x : Str} {v : Expr} {p p' : Pos} (h : asgOk sx x = true) : execS P call (d + 1) sx (.Assign [.Name x p'] v p) e S = (evalE P call d sx e v S).bind fun w S1 => .ok (e.set ((idx sx.N x).getD 0) (some w), .nx) S1 := by
  rw [yName (show tgOk sx.N (.Name x p') = true from (asgOk_ok (e := e) (w := .non) h).1)]
  cases evalE P call d sx e v S with
  | ok w S1 => show (ofO (asg sx e (.Name x p') w) S1).bind _ = _; rw [qAsg h]; rfl
  | exn _ _ => rfl
  | bad => rfl
theorem qTup {es : List Expr} {j : Nat} {v : Expr} {p p' : Pos} (h : tgOk sx.N (.Tuple es j p') = true) (h2 : (swK sx (.Tuple es j p') v).isSome = true) : execS P call (d + 1) sx (.Assign [.Tuple es j p'] v p) e S = (evalE P call d sx e v S).bind fun w S1 => (ofO (asg sx e (.Tuple es j p') w) S1).bind fun e2 S2 => .ok (e2, .nx) S2 := by
  obtain ⟨b, hb⟩ := Option.isSome_iff_exists.mp h2
  exact yTup h hb
theorem qBlt {f : Str} {es : List Expr} {p p' : Pos} (h : (okN f && isGl (sx.sc.names.lookup f) && (P.F f).isNone && builtins.contains f && plainA es []) = true) : evalE P call (d + 1) sx e (.Call (.Name f p) es [] p') S = (evL (evalE P call d sx e) es S).bind fun us S1 => builtin f us S1 := by
  simp only [Bool.and_eq_true] at h
  exact blt ⟨h.1.1.1.1, isGl_ok h.1.1.1.2⟩ ⟨by simpa using h.1.1.2, List.contains_iff_mem.mp h.1.2⟩ h.2
def okOwn (P : Pg) (f : Str) (n : Nat) : Bool := match P.F f with
  | some fi => n == fi.ps.length
  | none => false
theorem qOwn {f : Str} {es : List Expr} {p p' : Pos} (h : (okN f && isGl (sx.sc.names.lookup f) && okOwn P f es.length && plainA es []) = true) : evalE P call (d + 1) sx e (.Call (.Name f p) es [] p') S = (evL (evalE P call d sx e) es S).bind fun us S1 => call f us S1 := by
  simp only [Bool.and_eq_true] at h
  have h3 := h.1.2
  unfold okOwn at h3
  split at h3
  · rename_i fi hf
    exact own ⟨h.1.1.1, isGl_ok h.1.1.2⟩ hf (by simpa using h3) h.2
  · cases h3
def okMeth (m : Str) (ap cp : Pos) (es : List Expr) (o : Expr) : Bool := (methTy m).isSome && (ap.endLine == cp.line) && plainA es [] && decide (1 ≤ es.length) && decide (es.length < 20) && !isSuper o
theorem qMeth {o : Expr} {m : Str} {ap cp : Pos} {es : List Expr} (h : okMeth m ap cp es o = true) : evalE P call (d + 1) sx e (.Call (.Attribute o m ap) es [] cp) S =
    (evalE P call d sx e o S).bind fun u S1 => if valTy u S1 = methTy m then (evL (evalE P call d sx e) es S1).bind fun us S2 => method u m us S2 else .bad := by
  unfold okMeth at h
  simp only [Bool.and_eq_true, decide_eq_true_eq, Bool.not_eq_true'] at h
  obtain ⟨T, hT⟩ := Option.isSome_iff_exists.mp h.1.1.1.1.1
  rw [hT]
  exact xMeth hT ⟨⟨h.1.1.1.1.2, h.1.1.1.2⟩, ⟨h.1.1.2, h.1.2⟩, h.2⟩
def okComp (sx : Sx) (scope : Scope) (tg : Expr) (n : Nat) : Bool := L2.blkC sx.N sx.sc scope (ownOf sx.N scope) && ((slotsT sx.N tg).all fun i => ((ownOf sx.N scope).map (·.2)).contains i) && decide (n ≤ 1)
theorem qComp {elt tg iter : Expr} {ifs : List Expr} {scope : Scope} {p : Pos} (h : okComp sx scope tg ifs.length = true) :
    evalE P call (d + 1) sx e (.ListComp elt [⟨tg, iter, ifs, 0⟩] scope p) S = (walkE (rgOk P sx) (evalE P call d sx e) iter S).bind fun k S1 =>
        (noX (turns k (lcTurn (evalE P call d (sxB sx scope)) (sxB sx scope) (wipeW e ((ownOf sx.N scope).map (·.2))) tg ifs elt S1.length) k.len 0 () (S1 ++ [.lst []]))).bind fun _ S6 => .ok (.ref S1.length) S6 := by
  unfold okComp at h
  simp only [Bool.and_eq_true, decide_eq_true_eq] at h
  exact xComp ⟨h.1.1, h.1.2, h.2⟩
theorem sxB_N {scope : Scope} : (sxB sx scope).N = sx.N := rfl
/-- what range(..) gives to walk -/
def rgV (w : W) (S : So) : Res Wk := match w with
  | .int j => if -(2 ^ 62) ≤ j ∧ j < 2 ^ 62 then .ok (.seq (rangeW 0 j.toNat)) S else .bad
  | _ => .bad
theorem rgV_ok {j : Int} (h : -(2 ^ 62) ≤ j ∧ j < 2 ^ 62) : rgV (.int j) S = .ok (.seq (rangeW 0 j.toNat)) S := if_pos h
theorem qRange {f : Expr → So → Res W} {x : Expr} {p p' : Pos} (h : (rgOk P sx && !isStar x) = true) : walkE (rgOk P sx) f (.Call (.Name "range" p) [x] [] p') S = (f x S).bind rgV := by
  rw [Bool.and_eq_true] at h
  have e : isRange (.Call (.Name "range" p) [x] [] p') = some [x] := by
    show (if ("range" : Str) = "range" ∧ [x].all (fun e => !isStar e) = true ∧ ([x].length = 1 ∨ [x].length = 2) then some [x] else none) = _
    rw [if_pos ⟨rfl, by simpa using h.2, .inl rfl⟩]
  rw [walkR rfl e h.1]
  first
    | done
    | rfl
    | (congr 1; funext w S1; cases w <;> rfl)
theorem qWalk {f : Expr → So → Res W} {iter : Expr} {rg : Bool} (h : (!isSet iter && (isRange iter).isNone) = true) : walkE rg f iter S = (f iter S).bind walkV := by
  rw [Bool.and_eq_true] at h
  exact walkO (by simpa using h.1) (by simpa using h.2)
theorem wipeAt (j : Nat) {L : List Nat} (h : decide (L = [j]) = true) : wipeW e L = e.set j none := by
  rw [of_decide_eq_true h]; rfl
theorem mJoin {α : Type} {x : Str} {a b : α} : (if valTy (.str x) S = methTy "join" then a else b) = a := if_pos (show some "str" = methTy "join" by decide +kernel)
theorem getApp {D : Nat} {x o : O} (h : S[D]? = some x) : (S ++ [o])[D]? = some x := by
  rw [List.getElem?_append_left (List.getElem?_eq_some_iff.mp h).1]; exact h
theorem getNew {o : O} : (S ++ [o])[S.length]? = some o := by
  rw [List.getElem?_append_right (Nat.le_refl _)]; simp
theorem getSet {i D : Nat} {x o : O} (h : S[D]? = some x) (n : D ≠ i) : (S.set i o)[D]? = some x := by rw [List.getElem?_set_ne (Ne.symm n)]; exact h
theorem method_join {D : Nat} {ys : List Str} (h : (seqOf (.ref D) S).bind strsOf = some ys) (h2 : (ys.map (·.length)).sum ≤ 16777216) : method (.str "") "join" [.ref D] S = .ok (.str (Txt.join "" ys)) S := by
  have e : method (.str "") "join" [.ref D] S = (match (seqOf (.ref D) S).bind strsOf with
      | some ys => if (ys.map (fun y : Str => y.length)).sum + ys.length * ("" : Str).length ≤ 16777216 then Res.ok (W.str (Txt.join "" ys)) S else Res.bad
      | none => Res.bad) := rfl
  rw [e, h]
  have z : ("" : Str).length = 0 := by decide
  exact if_pos (by rw [z]; omega)
end
theorem push_at {S : So} {D : Nat} {acc : List W} {y : W} (h : S[D]? = some (.lst acc)) (hl : acc.length < sizeLine) : pushTo D y S = some (S.set D (.lst (acc ++ [y]))) := by
  unfold pushTo
  rw [h]
  exact if_pos hl
theorem lst_at {S : So} {D : Nat} {xs : List W} (h : S[D]? = some (.lst xs)) : lstOf (.ref D) S = some xs := by
  unfold lstOf; simp only [h]
theorem seq_at {S : So} {D : Nat} {xs : List W} (h : S[D]? = some (.lst xs)) : seqOf (.ref D) S = some xs := lst_at h
/-- a sign as a text -/
def one (c : Nat) : Str := ⟨#[c]⟩
theorem strs_ones : ∀ cs : List Nat, strsOf (cs.map fun c => W.str (one c)) = some (cs.map one)
  | [] => rfl
  | c :: r => by
    show (strsOf (r.map fun c => W.str (one c))).map (one c :: ·) = _
    rw [strs_ones r]; rfl
theorem join_ones : ∀ cs : List Nat, (Str.join "" (cs.map one)).cps.toList = cs
  | [] => rfl
  | [c] => rfl
  | c :: d :: r => by
    have ih := join_ones (d :: r)
    show ((one c ++ "" ++ Str.join "" ((d :: r).map one) : Str)).cps.toList = _
    show (((one c).cps ++ (("" : Str).cps)) ++ (Str.join "" ((d :: r).map one)).cps).toList = _
    rw [Array.toList_append, ih]
    rfl
theorem txt_ones (cs : List Nat) : (Txt.join "" (cs.map one)).cps.toList = cs := by
  show (Builtin.Str.glued "" (cs.map one)).cps.toList = cs
  rw [StrLaws.glued_eq_join]
  exact join_ones cs
/-- a short word of plain signs -/
def Wd (z : Str) : Prop := z.cps.toList.length ≤ 8 ∧ ∀ c ∈ z.cps.toList, c < 128
theorem Wd.ones {cs : List Nat} (h : cs.length ≤ 8) (h2 : ∀ c ∈ cs, c < 128) : Wd (Txt.join "" (cs.map one)) := by
  unfold Wd
  rw [txt_ones]
  exact ⟨h, h2⟩
theorem sum_ones : ∀ cs : List Nat, ((cs.map one).map (·.length)).sum = cs.length
  | [] => rfl
  | c :: r => by
    show (one c).length + ((r.map one).map (·.length)).sum = _
    rw [sum_ones r]
    show 1 + r.length = r.length + 1
    omega
end Z

namespace Z5
open PySem Z L2
def top (i : Nat) : Stmt := PySem.Challenge.pw_sharerules_k05_names_by_name.main.body.getD i (.Pass ⟨0, 0, 0, 0⟩)
def fIsName : Fi := ⟨top 3, ["value"], ["value", "sign"], [(0, ["value"])]⟩
def fIsRel : Fi := ⟨top 4, ["value"], ["value"], [(0, ["value"])]⟩
def fIsObj : Fi := ⟨top 5, ["value"], ["value"], [(0, ["value"])]⟩
def fIsGrp : Fi := ⟨top 6, ["value"], ["value"], [(0, ["value"])]⟩
def fIsSub : Fi := ⟨top 7, ["value"], ["value"], [(0, ["value"])]⟩
def fIsRow : Fi := ⟨top 8, ["value"], ["value"], [(0, ["value"])]⟩
def fSubTxt : Fi := ⟨top 9, ["subject"], ["subject", "text"], [(0, ["subject"])]⟩
def fRowTxt : Fi := ⟨top 10, ["row"], ["row"], [(0, ["row"])]⟩
def fRdSub : Fi := ⟨top 11, ["text"], ["text", "kind", "_", "rest", "name", "mark", "relation", "subject"], [(0, ["text"])]⟩
def fRdRow : Fi := ⟨top 12, ["text"], ["text", "words", "row"], [(0, ["text"])]⟩
def fShape : Fi := ⟨top 13, ["subject"], ["subject"], [(0, ["subject"])]⟩
def fTarget : Fi := ⟨top 14, ["subject"], ["subject"], [(0, ["subject"])]⟩
def fWell : Fi := ⟨top 16, ["script", "start"], ["script", "start", "mixed", "entry", "digits"], []⟩
def fDraw : Fi := ⟨top 17, ["well", "size"], ["well", "size", "found"], []⟩
def fChoose : Fi := ⟨top 18, ["well", "things"], ["well", "things"], []⟩
def fLaw : Fi := ⟨top 19, ["script"], ["script", "start", "well", "turn", "one", "line", "thing", "pairs", "pair"], []⟩
def noRel : List W := [.str "or", .str "and", .str "via", .str "but", .str "not", .str "rows"]
def glo : List (Str × W) := [("LONGEST_NAME", .int 8), ("NO_RELATIONS", .tup noRel), ("str", .ty "str"), ("tuple", .ty "tuple")]
def tab : List (Str × Fi) := [("is_name", fIsName), ("is_relation", fIsRel), ("is_object", fIsObj), ("is_group", fIsGrp), ("is_subject", fIsSub), ("is_row", fIsRow), ("subject_text", fSubTxt), ("row_text", fRowTxt), ("read_subject", fRdSub), ("read_row", fRdRow), ("shape", fShape), ("target", fTarget), ("_law_well", fWell), ("_law_draw", fDraw), ("_law_choose", fChoose), ("law", fLaw)]
def P : Pg := pgT glo tab
theorem scIsName : FnScope fIsName.N fIsName.ps (defScope fIsName.st) := ⟨rfl, rfl, rfl, by decide +kernel, rfl, by decide +kernel, by decide +kernel⟩
theorem scIsRel : FnScope fIsRel.N fIsRel.ps (defScope fIsRel.st) := ⟨rfl, rfl, rfl, by decide +kernel, rfl, by decide +kernel, by decide +kernel⟩
theorem scIsObj : FnScope fIsObj.N fIsObj.ps (defScope fIsObj.st) := ⟨rfl, rfl, rfl, by decide +kernel, rfl, by decide +kernel, by decide +kernel⟩
theorem scIsGrp : FnScope fIsGrp.N fIsGrp.ps (defScope fIsGrp.st) := ⟨rfl, rfl, rfl, by decide +kernel, rfl, by decide +kernel, by decide +kernel⟩
theorem scIsSub : FnScope fIsSub.N fIsSub.ps (defScope fIsSub.st) := ⟨rfl, rfl, rfl, by decide +kernel, rfl, by decide +kernel, by decide +kernel⟩
theorem scIsRow : FnScope fIsRow.N fIsRow.ps (defScope fIsRow.st) := ⟨rfl, rfl, rfl, by decide +kernel, rfl, by decide +kernel, by decide +kernel⟩
theorem scSubTxt : FnScope fSubTxt.N fSubTxt.ps (defScope fSubTxt.st) := ⟨rfl, rfl, rfl, by decide +kernel, rfl, by decide +kernel, by decide +kernel⟩
theorem scRowTxt : FnScope fRowTxt.N fRowTxt.ps (defScope fRowTxt.st) := ⟨rfl, rfl, rfl, by decide +kernel, rfl, by decide +kernel, by decide +kernel⟩
theorem scRdSub : FnScope fRdSub.N fRdSub.ps (defScope fRdSub.st) := ⟨rfl, rfl, rfl, by decide +kernel, rfl, by decide +kernel, by decide +kernel⟩
theorem scRdRow : FnScope fRdRow.N fRdRow.ps (defScope fRdRow.st) := ⟨rfl, rfl, rfl, by decide +kernel, rfl, by decide +kernel, by decide +kernel⟩
theorem scShape : FnScope fShape.N fShape.ps (defScope fShape.st) := ⟨rfl, rfl, rfl, by decide +kernel, rfl, by decide +kernel, by decide +kernel⟩
theorem scTarget : FnScope fTarget.N fTarget.ps (defScope fTarget.st) := ⟨rfl, rfl, rfl, by decide +kernel, rfl, by decide +kernel, by decide +kernel⟩
theorem scWell : FnScope fWell.N fWell.ps (defScope fWell.st) := ⟨rfl, rfl, rfl, by decide +kernel, rfl, by decide +kernel, by decide +kernel⟩
theorem scDraw : FnScope fDraw.N fDraw.ps (defScope fDraw.st) := ⟨rfl, rfl, rfl, by decide +kernel, rfl, by decide +kernel, by decide +kernel⟩
theorem scChoose : FnScope fChoose.N fChoose.ps (defScope fChoose.st) := ⟨rfl, rfl, rfl, by decide +kernel, rfl, by decide +kernel, by decide +kernel⟩
theorem scLaw : FnScope fLaw.N fLaw.ps (defScope fLaw.st) := ⟨rfl, rfl, rfl, by decide +kernel, rfl, by decide +kernel, by decide +kernel⟩
theorem noKw {fi : Fi} (h : fi.kws = []) {p : Nat → List Str → Prop} : ∀ (n : Nat) (ks : List Str), (n, ks) ∈ fi.kws → p n ks := fun n ks m => by rw [h] at m; cases m
theorem b1 {fi : Fi} {a : Str} (h : fi.kws = []) (hp : fi.ps = [a]) (hb : ∀ (x qual : Str) (kV doc pm : Value) (an : Option Addr) (cdv ct u : Value), bindArgs (PySem.W.fnOf x qual (defArgs fi.st) (defBody fi.st) (defScope fi.st) .none kV doc pm an cdv ct) ⟨[u], []⟩ = pure [(a, u)]) : BindsAll fi :=
  fun x qual kV doc pm an cdv ct => ⟨fun us hl => by
    rw [hp] at hl ⊢
    match us, hl with
    | [u], _ => exact hb x qual kV doc pm an cdv ct u, noKw h⟩
theorem b2 {fi : Fi} {a b : Str} (h : fi.kws = []) (hp : fi.ps = [a, b]) (hb : ∀ (x qual : Str) (kV doc pm : Value) (an : Option Addr) (cdv ct u v : Value), bindArgs (PySem.W.fnOf x qual (defArgs fi.st) (defBody fi.st) (defScope fi.st) .none kV doc pm an cdv ct) ⟨[u, v], []⟩ = pure [(a, u), (b, v)]) : BindsAll fi :=
  fun x qual kV doc pm an cdv ct => ⟨fun us hl => by
    rw [hp] at hl ⊢
    match us, hl with
    | [u, v], _ => exact hb x qual kV doc pm an cdv ct u v, noKw h⟩
/-- one parameter, given by its place or by its name -/
theorem bk {fi : Fi} {a : Str} (h : fi.kws = [(0, [a])]) (hp : fi.ps = [a]) (hb : ∀ (x qual : Str) (kV doc pm : Value) (an : Option Addr) (cdv ct u : Value), bindArgs (PySem.W.fnOf x qual (defArgs fi.st) (defBody fi.st) (defScope fi.st) .none kV doc pm an cdv ct) ⟨[u], []⟩ = pure [(a, u)])
    (hk : ∀ (x qual : Str) (kV doc pm : Value) (an : Option Addr) (cdv ct u : Value), bindArgs (PySem.W.fnOf x qual (defArgs fi.st) (defBody fi.st) (defScope fi.st) .none kV doc pm an cdv ct) ⟨[], [(a, u)]⟩ = pure [(a, u)]) : BindsAll fi :=
  fun x qual kV doc pm an cdv ct => ⟨fun us hl => by
    rw [hp] at hl ⊢
    match us, hl with
    | [u], _ => exact hb x qual kV doc pm an cdv ct u, fun n ks m => by
    rw [h, List.mem_singleton] at m
    cases m
    rw [hp]
    refine ⟨rfl, fun us ws h1 h2 => ?_⟩
    match us, h1, ws, h2 with
    | [], _, [w], _ =>
      have e : ordK [a] [a] ([] : List Value) [w] = [w] := by
        show ([] : List Value) ++ ([a].drop 0).filterMap (fun p => ([a].zip [w]).lookup p) = [w]
        simp
      rw [e]
      exact ⟨rfl, hk x qual kV doc pm an cdv ct w⟩⟩
theorem bIsName : BindsAll fIsName := bk rfl rfl (fun _ _ _ _ _ _ _ _ _ => rfl) fun _ _ _ _ _ _ _ _ _ => rfl
theorem bIsRel : BindsAll fIsRel := bk rfl rfl (fun _ _ _ _ _ _ _ _ _ => rfl) fun _ _ _ _ _ _ _ _ _ => rfl
theorem bIsObj : BindsAll fIsObj := bk rfl rfl (fun _ _ _ _ _ _ _ _ _ => rfl) fun _ _ _ _ _ _ _ _ _ => rfl
theorem bIsGrp : BindsAll fIsGrp := bk rfl rfl (fun _ _ _ _ _ _ _ _ _ => rfl) fun _ _ _ _ _ _ _ _ _ => rfl
theorem bIsSub : BindsAll fIsSub := bk rfl rfl (fun _ _ _ _ _ _ _ _ _ => rfl) fun _ _ _ _ _ _ _ _ _ => rfl
theorem bIsRow : BindsAll fIsRow := bk rfl rfl (fun _ _ _ _ _ _ _ _ _ => rfl) fun _ _ _ _ _ _ _ _ _ => rfl
theorem bSubTxt : BindsAll fSubTxt := bk rfl rfl (fun _ _ _ _ _ _ _ _ _ => rfl) fun _ _ _ _ _ _ _ _ _ => rfl
theorem bRowTxt : BindsAll fRowTxt := bk rfl rfl (fun _ _ _ _ _ _ _ _ _ => rfl) fun _ _ _ _ _ _ _ _ _ => rfl
theorem bRdSub : BindsAll fRdSub := bk rfl rfl (fun _ _ _ _ _ _ _ _ _ => rfl) fun _ _ _ _ _ _ _ _ _ => rfl
theorem bRdRow : BindsAll fRdRow := bk rfl rfl (fun _ _ _ _ _ _ _ _ _ => rfl) fun _ _ _ _ _ _ _ _ _ => rfl
theorem bShape : BindsAll fShape := bk rfl rfl (fun _ _ _ _ _ _ _ _ _ => rfl) fun _ _ _ _ _ _ _ _ _ => rfl
theorem bTarget : BindsAll fTarget := bk rfl rfl (fun _ _ _ _ _ _ _ _ _ => rfl) fun _ _ _ _ _ _ _ _ _ => rfl
theorem bWell : BindsAll fWell := b2 rfl rfl fun _ _ _ _ _ _ _ _ _ _ => rfl
theorem bDraw : BindsAll fDraw := b2 rfl rfl fun _ _ _ _ _ _ _ _ _ _ => rfl
theorem bChoose : BindsAll fChoose := b2 rfl rfl fun _ _ _ _ _ _ _ _ _ _ => rfl
theorem bLaw : BindsAll fLaw := b1 rfl rfl fun _ _ _ _ _ _ _ _ _ => rfl
theorem glo_ok {K : PySem.W.Frag} {mg : Str → Option Value} {h : Heap} {t : Tok} {a : Addr} {o : Obj} {its : Array Value} {n : Nat} (X : K.In h) (G : h.Ns mainGlobals mg) (g1 : PySem.W.nsIn K mainGlobals "LONGEST_NAME" = some (some (.int 8 t))) (g2 : PySem.W.nsIn K mainGlobals "NO_RELATIONS" = some (some (.ref a)))
    (l2 : K.lookup a = some o) (c2 : o.cls = .type "tuple") (d2 : o.data = .seq its n) (z2 : its.size ≤ sizeLine) (v2 : Vals [.str "or", .str "and", .str "via", .str "but", .str "not", .str "rows"] its.toList) (g3 : PySem.W.nsIn K mainGlobals "str" = some none) (g4 : PySem.W.nsIn K mainGlobals "tuple" = some none) : GOk K mg P := by
  intro x w hx
  have m := PySem.mem_of_lookup (show glo.lookup x = some w from hx)
  unfold glo at m
  simp only [List.mem_cons, List.not_mem_nil, or_false, Prod.mk.injEq] at m
  rcases m with ⟨rfl, rfl⟩ | ⟨rfl, rfl⟩ | ⟨rfl, rfl⟩ | ⟨rfl, rfl⟩
  · exact .inl ⟨_, .int 8, PySem.W.mg_of X G g1, ⟨t, rfl⟩, fun H I => by unfold RW; rfl⟩
  · refine .inl ⟨_, .ref a, PySem.W.mg_of X G g2, rfl, fun H I => ?_⟩
    unfold RW
    refine ⟨a, _, rfl, .inr ⟨o, its, n, l2, c2, d2, z2, v2⟩, ?_⟩
    unfold noRel
    exact .cons (by unfold RW; rfl) (.cons (by unfold RW; rfl) (.cons (by unfold RW; rfl) (.cons (by unfold RW; rfl) (.cons (by unfold RW; rfl) (.cons (by unfold RW; rfl) .nil)))))
  · exact .inr ⟨"str", rfl, PySem.W.mg_none_of X G g3, by decide +kernel⟩
  · exact .inr ⟨"tuple", rfl, PySem.W.mg_none_of X G g4, by decide +kernel⟩
theorem tabAt {K : PySem.W.Frag} {mg : Str → Option Value} {h : Heap} (X : K.In h) (G : h.Ns mainGlobals mg) (D : ∀ p ∈ tab, ∃ fa fd, DefAt K mg p.1 p.2 fa fd) (B : ∀ x ∈ ("range" : Str) :: builtins, PySem.W.nsIn K mainGlobals x = some none) (Gl : GOk K mg P) : TabAt P K mg :=
  tab_mk D Gl fun x hx => PySem.W.mg_none_of X G (B x hx)
theorem all16 {p : Str × Fi → Prop} (a1 : p ("is_name", fIsName)) (a2 : p ("is_relation", fIsRel)) (a3 : p ("is_object", fIsObj)) (a4 : p ("is_group", fIsGrp)) (a5 : p ("is_subject", fIsSub)) (a6 : p ("is_row", fIsRow)) (a7 : p ("subject_text", fSubTxt)) (a8 : p ("row_text", fRowTxt)) (a9 : p ("read_subject", fRdSub)) (a10 : p ("read_row", fRdRow)) (a11 : p ("shape", fShape)) (a12 : p ("target", fTarget)) (a13 : p ("_law_well", fWell)) (a14 : p ("_law_draw", fDraw)) (a15 : p ("_law_choose", fChoose)) (a16 : p ("law", fLaw)) : ∀ q ∈ tab, p q := by
  unfold tab
  simp only [List.forall_mem_cons, List.not_mem_nil, false_imp_iff, implies_true, and_true]
  exact ⟨a1, a2, a3, a4, a5, a6, a7, a8, a9, a10, a11, a12, a13, a14, a15, a16⟩
theorem all11 {p : Str → Prop} (a0 : p "range") (a1 : p "len") (a2 : p "int") (a3 : p "max") (a4 : p "min") (a5 : p "tuple") (a6 : p "list") (a7 : p "all") (a8 : p "any") (a9 : p "isinstance") (a10 : p "repr") : ∀ q ∈ ("range" : Str) :: builtins, p q := by
  unfold builtins
  simp only [List.forall_mem_cons, List.not_mem_nil, false_imp_iff, implies_true, and_true]
  exact ⟨a0, a1, a2, a3, a4, a5, a6, a7, a8, a9, a10⟩
end Z5

namespace Z5
open PySem Z L2
def Wl (d m : Int) : O := .dct [(.inr "digits", .int d), (.inr "mixed", .int m)]
def Ok (m : Int) : Prop := 0 ≤ m ∧ m < 4294967296
theorem w_dig {S : So} {i : Nat} {d m : Int} (h : S[i]? = some (Wl d m)) : item (.ref i) (.str "digits") S = some (.int d) := by
  unfold item; simp only [h]; rfl
theorem w_mix {S : So} {i : Nat} {d m : Int} (h : S[i]? = some (Wl d m)) : item (.ref i) (.str "mixed") S = some (.int m) := by
  unfold item; simp only [h]; rfl
theorem w_sdig {S : So} {i : Nat} {d m v : Int} (h : S[i]? = some (Wl d m)) : Z.setItem (.ref i) (.str "digits") (.int v) S = some (S.set i (Wl v m)) := by
  unfold Z.setItem; simp only [h]; rfl
theorem w_smix {S : So} {i : Nat} {d m v : Int} (h : S[i]? = some (Wl d m)) : Z.setItem (.ref i) (.str "mixed") (.int v) S = some (S.set i (Wl d v)) := by
  unfold Z.setItem; simp only [h]; rfl
theorem iDw : (idx (Z.sxOf fDraw).N ("well" : Str)).getD 0 = 0 := by decide +kernel
theorem iDs : (idx (Z.sxOf fDraw).N ("size" : Str)).getD 0 = 1 := by decide +kernel
theorem iDf : (idx (Z.sxOf fDraw).N ("found" : Str)).getD 0 = 2 := by decide +kernel
theorem bB {m : Int} (h : Ok m) : Builtin.Int.intBits m ≤ 32 := bits_ltI h.1 (by have := h.2; omega)
theorem draw {k i : Nat} {S : So} {d m size : Int} (hS : S[i]? = some (Wl d m)) (hm : Ok m) (h0 : 0 < size) (h1 : size < 1073741824) : Yes (callN P (k+1) "_law_draw" [.ref i, .int size] S) fun r S' => ∃ x d' m', r = .int x ∧ 0 ≤ x ∧ x < size ∧ S' = S.set i (Wl d' m') ∧ Ok m' := by
  rw [callN_eq (fi := fDraw) (b := L2.defBody (top 17)) (e := [some (.ref i), some (.int size), none]) rfl rfl rfl rfl]
  unfold top PySem.Challenge.pw_sharerules_k05_names_by_name
  simp only [List.getD, L2.defBody, List.getElem?_cons_succ, List.getElem?_cons_zero, Option.getD_some]
  by_cases h : size ≤ d
  · simp (disch := decide +kernel) only [evS, yIf, xCmp, xSub, qName, iDw, iDs, iDf, xConst, cstr, cint, xBin, qBlt, evLc, evL0, sl0, slS, oOk, bOk, w_dig hS, cge, decide_eq_true h, tbl, qSet, ySub, yRet, bi_intI, bmod h0, bdiv ⟨h0, h1⟩, w_sdig hS, List.set_cons_succ, List.set_cons_zero]
    exact yes_ok ⟨_, _, _, rfl, Int.emod_nonneg _ (by omega), Int.emod_lt_of_pos _ h0, rfl, hm⟩
  · have m1 : Ok ((m * 52391 + 7079) % 2147483647) := ⟨Int.emod_nonneg _ (by decide), Int.lt_trans (Int.emod_lt_of_pos _ (by decide)) (by decide)⟩
    generalize hM : (m * 52391 + 7079) % 2147483647 = M at m1
    have x2 : Ok (M ^ (2 : Int).toNat % 2147483549) := ⟨Int.emod_nonneg _ (by decide), Int.lt_trans (Int.emod_lt_of_pos _ (by decide)) (by decide)⟩
    have g1 : Builtin.Int.intBits m + Builtin.Int.intBits 52391 ≤ 134217728 := Nat.le_trans (Nat.add_le_add (bB hm) (show Builtin.Int.intBits 52391 ≤ 16 by decide +kernel)) (by decide)
    have g2 : (0 : Int) ≤ 2 ∧ (Builtin.Int.intBits M : Int) * 2 ≤ 134217728 := by have := bB m1; omega
    have g3 : (0 : Int) ≤ 3 ∧ (Builtin.Int.intBits (M ^ (2 : Int).toNat % 2147483549) : Int) * 3 ≤ 134217728 := by have := bB x2; omega
    simp (disch := decide +kernel) only [evS, yIf, xCmp, xSub, qName, iDw, iDs, iDf, xConst, cstr, cint, xBin, qBlt, evLc, evL0, sl0, slS, oOk, bOk, w_dig hS, cge, decide_eq_false h, tbl, qSet, ySub, yRet, bi_intI, bmul g1, badd, bmod, hM, w_mix hS, w_smix hS, w_mix (get_set hS), bpow g2, bpow g3, bmod h0, bdiv]
    exact yes_ok ⟨_, _, _, rfl, Int.emod_nonneg _ (by omega), Int.emod_lt_of_pos _ h0, rfl, m1⟩
/-! the well -/
theorem iLs : (idx (Z.sxOf fWell).N ("script" : Str)).getD 0 = 0 := by decide +kernel
theorem iLt : (idx (Z.sxOf fWell).N ("start" : Str)).getD 0 = 1 := by decide +kernel
theorem iLm : (idx (Z.sxOf fWell).N ("mixed" : Str)).getD 0 = 2 := by decide +kernel
theorem iLe : (idx (Z.sxOf fWell).N ("entry" : Str)).getD 0 = 3 := by decide +kernel
theorem iLd : (idx (Z.sxOf fWell).N ("digits" : Str)).getD 0 = 4 := by decide +kernel
theorem lenFl {ws : List W} {S : So} : Z.builtin "len" [.fl ws] S = .ok (.int ws.length) S := rfl
theorem wkFl {ws : List W} {S : So} : walkV (.fl ws) S = .ok (.seq ws) S := rfl
theorem itFl {ws : List W} {i : Int} {S : So} : item (.fl ws) (.int i) S = L2.atI ws i := rfl
theorem atI_ok {ws : List W} {i : Int} {w : W} (h0 : 0 ≤ i) (h : ws[i.toNat]? = some w) : L2.atI ws i = some w := by
  have hl := (List.getElem?_eq_some_iff.mp h).1
  unfold L2.atI L2.ixN
  rw [if_pos h0, if_pos (by omega)]
  exact h
theorem p18 {S : So} : binop .Pow (.int 10) (.int 18) S = .ok (.int ((10 : Int) ^ (18 : Int).toNat)) S := bpow (by decide +kernel)
theorem set_new {S : So} {a b : O} : (S ++ [a]).set S.length b = S ++ [b] := by
  rw [List.set_append_right _ _ (Nat.le_refl _)]
  simp
theorem tKs {x : Str} : toK (.str x) = some (.inr x) := rfl
theorem okMod {x : Int} : Ok (x % 2147483423 + 13) := by
  have h1 := Int.emod_nonneg x (show (2147483423 : Int) ≠ 0 by decide)
  have h2 := Int.emod_lt_of_pos x (show (0 : Int) < 2147483423 by decide)
  exact ⟨by omega, by omega⟩
theorem well {k : Nat} {S : So} {ns : List Int} {start : Int} (hb : ∀ z ∈ ns, Builtin.Int.intBits z ≤ 1048576) (h0 : 0 ≤ start) (h1 : start < 1000) : Yes (callN P (k+1) "_law_well" [.fl (ns.map W.int), .int start] S) fun r S' => ∃ d m, r = .ref S.length ∧ S' = S ++ [Wl d m] ∧ Ok m := by
  rw [callN_eq (fi := fWell) (b := L2.defBody (top 16)) (e := [some (.fl (ns.map W.int)), some (.int start), none, none, none]) rfl rfl rfl rfl]
  unfold top PySem.Challenge.pw_sharerules_k05_names_by_name
  simp only [List.getD, L2.defBody, List.getElem?_cons_succ, List.getElem?_cons_zero, Option.getD_some]
  have g1 : Builtin.Int.intBits start + Builtin.Int.intBits 97 ≤ 134217728 := Nat.le_trans (Nat.add_le_add (bits_ltI (n := 10) h0 (by omega)) (show Builtin.Int.intBits 97 ≤ 16 by decide +kernel)) (by decide)
  simp (disch := decide +kernel) only [evS, yRet, qSet, yFor, qWalk, xBin, xConst, cstr, cint, qName, iLs, iLt, iLm, iLe, iLd, bmul g1, badd, evLc, evL0, sl0, slS, oOk, bOk, wkFl, List.set_cons_succ, List.set_cons_zero, Res.assoc]
  refine yes_turns (fun j r S' => S' = S ∧ r.2 = .nx ∧ ∃ (M : Int) (a : Option W), Ok M ∧ r.1 = [some (.fl (ns.map W.int)), some (.int start), some (.int M), a, none]) ?_ ?_ ?_
  · exact ⟨rfl, rfl, _, none, ⟨by omega, by omega⟩, rfl⟩
  · rintro j ⟨e, fl⟩ S' w hw ⟨rfl, hfl, M, a, hM, he⟩
    dsimp only at hfl he
    subst hfl he
    rw [List.getElem?_map] at hw
    obtain ⟨z, hz, rfl⟩ := Option.map_eq_some_iff.mp hw
    have bz := hb z (List.mem_of_getElem? hz)
    have g2 : Builtin.Int.intBits M + Builtin.Int.intBits 80021 ≤ 134217728 := Nat.le_trans (Nat.add_le_add (bB hM) (show Builtin.Int.intBits 80021 ≤ 17 by decide +kernel)) (by decide)
    have g3 : Builtin.Int.intBits z + Builtin.Int.intBits z ≤ 134217728 := by omega
    have b1 := intBits_mul_le (bB hM) (show Builtin.Int.intBits 80021 ≤ 17 by decide +kernel)
    have b2 := intBits_add_le (intBits_add_le b1 (intBits_mul_le bz bz)) (show Builtin.Int.intBits 41 ≤ 6 by decide +kernel)
    have g4 : (0 : Int) ≤ 2 ∧ (Builtin.Int.intBits (M * 80021 + z * z + 41) : Int) * 2 ≤ 134217728 := by
      have : Builtin.Int.intBits (M * 80021 + z * z + 41) ≤ 4000000 := Nat.le_trans b2 (by decide)
      omega
    refine yes_imp (forTurn_yes (R := fun e S'' => S'' = S' ∧ ∃ (M : Int) (a : Option W), Ok M ∧ e = [some (.fl (ns.map W.int)), some (.int start), some (.int M), a, none]) (qAsg (by decide +kernel)) ?_) ?_
    · simp (disch := decide +kernel) only [evS, qSet, qBlt, xBin, xConst, cstr, cint, qName, iLs, iLt, iLm, iLe, iLd, bmul g2, bmul g3, badd, bpow g4, bmod, bi_intI, evLc, evL0, sl0, slS, oOk, bOk, List.set_cons_succ, List.set_cons_zero, Res.assoc]
      exact yes_ok ⟨rfl, rfl, _, _, okMod, rfl⟩
    · rintro ⟨⟨e, fl⟩, b⟩ S'' ⟨h1, h2, h3, h4⟩
      exact ⟨h1, h3, h2, h4⟩
  · rintro ⟨e, fl⟩ S' ⟨rfl, hfl, M, a, hM, he⟩
    dsimp only at hfl he
    subst hfl he
    dsimp only
    simp (disch := decide +kernel) only [xIf, xAnd, evBc, evB1, xCmp, qBlt, xSub, xBin, xConst, cint, qName, iLs, iLt, evLc, evL0, sl0, slS, oOk, bOk, lenFl, clt, tbl, List.set_cons_succ, List.set_cons_zero]
    rw [Res.assoc]
    refine yes_bind (R := fun w S'' => S'' = S' ∧ ∃ dd : Int, w = .int dd) ?_ ?_
    · by_cases hlt : start < ((List.map W.int ns).length : Int)
      · rw [decide_eq_true hlt, if_pos rfl]
        have hl : start.toNat < ns.length := by rw [List.length_map] at hlt; omega
        have hi : item (.fl (ns.map W.int)) (.int start) S' = some (.int ns[start.toNat]) := atI_ok h0 (by rw [List.getElem?_map, List.getElem?_eq_getElem hl]; rfl)
        by_cases hv : (10 : Int) ^ (18 : Int).toNat ≤ ns[start.toNat]
        · simp only [hi, oOk, bOk, p18, cge, decide_eq_true hv, tbl, bsub]
          exact yes_ok ⟨rfl, _, rfl⟩
        · simp only [hi, oOk, bOk, p18, cge, decide_eq_false hv, tbl, bsub]
          exact yes_ok ⟨rfl, _, rfl⟩
      · rw [decide_eq_false hlt, if_neg Bool.false_ne_true]
        simp only [bOk, tbl]
        exact yes_ok ⟨rfl, _, rfl⟩
    · rintro _ _ ⟨rfl, dd, rfl⟩
      simp (disch := decide +kernel) only [xDict, evP0, evPc, xConst, cstr, qName, iLd, iLm, sl0, slS, oOk, bOk, toK, getNew, tKs]
      exact yes_ok ⟨dd, M, rfl, set_new, hM⟩
theorem iCw : (idx (Z.sxOf fChoose).N ("well" : Str)).getD 0 = 0 := by decide +kernel
theorem iCt : (idx (Z.sxOf fChoose).N ("things" : Str)).getD 0 = 1 := by decide +kernel
theorem lenRef {D : Nat} {xs : List W} {S : So} (h : S[D]? = some (.lst xs)) : Z.builtin "len" [.ref D] S = .ok (.int xs.length) S := by
  have e : Z.builtin "len" [.ref D] S = (match seqOf (.ref D) S with | some xs => Res.ok (W.int xs.length) S | none => Res.bad) := rfl
  rw [e, seq_at h]
theorem itRef {D : Nat} {xs : List W} {S : So} {i : Int} (h : S[D]? = some (.lst xs)) : item (.ref D) (.int i) S = L2.atI xs i := by
  unfold item; simp only [h]
theorem choose {k i D : Nat} {S : So} {d m : Int} {xs : List W} (hS : S[i]? = some (Wl d m)) (hm : Ok m) (hD : S[D]? = some (.lst xs)) (h0 : 0 < xs.length) (h1 : xs.length < 1000) : Yes (callN P (k+2) "_law_choose" [.ref i, .ref D] S) fun r S' => ∃ d' m', r ∈ xs ∧ S' = S.set i (Wl d' m') ∧ Ok m' := by
  rw [callN_eq (fi := fChoose) (b := L2.defBody (top 18)) (e := [some (.ref i), some (.ref D)]) rfl rfl rfl rfl]
  unfold top PySem.Challenge.pw_sharerules_k05_names_by_name
  simp only [List.getD, L2.defBody, List.getElem?_cons_succ, List.getElem?_cons_zero, Option.getD_some]
  simp (disch := decide +kernel) only [evS, yRet, xSub, qName, iCw, iCt, qBlt, qOwn, evLc, evL0, sl0, slS, oOk, bOk, lenRef hD, Res.assoc]
  refine yes_bind (draw hS hm (by omega) (by omega)) ?_
  rintro _ _ ⟨x, d', m', rfl, q0, q1, rfl, hm'⟩
  have nD : D ≠ i := by
    rintro rfl
    rw [hS] at hD; cases hD
  have hx : x.toNat < xs.length := by omega
  have e : item (.ref D) (.int x) (S.set i (Wl d' m')) = some xs[x.toNat] := by
    rw [itRef (getSet hD nD)]
    exact atI_ok q0 (List.getElem?_eq_getElem hx)
  simp only [e, oOk, bOk]
  exact yes_ok ⟨d', m', List.getElem_mem hx, rfl, hm'⟩
end Z5

namespace Z5
open PySem Z L2
section
variable {P : Pg} {call : Cf} {d : Nat} {sx : Sx} {e : En} {S : So}
theorem xCmp2 {a b c : Expr} {op op' : CmpOp} {p : Pos} (h : (isSet b || isSet c) = false) : evalE P call (d + 1) sx e (.Compare a [op, op'] [b, c] p) S = (evalE P call d sx e a S).bind fun u S1 => (evalE P call d sx e b S1).bind fun v S2 => (ofO (cmp op u v S2) S2).bind fun r S3 =>
        if r = true then (evalE P call d sx e c S3).bind fun z S4 => (ofO (cmp op' v z S4) S4).bind fun r S5 => .ok (.bl r) S5 else .ok (.bl false) S3 := by
  show (if (isSet b || isSet c) = true then _ else _) = _
  rw [h]; rfl
theorem qGlo {x : Str} {p : Pos} (h : (okN x && isGl (sx.sc.names.lookup x)) = true) : evalE P call (d + 1) sx e (.Name x p) S = ofO (P.G x) S := by
  rw [Bool.and_eq_true] at h
  rw [xName, if_pos h.1]
  unfold nameE
  rw [isGl_ok h.2]; rfl
end
theorem gLN : P.G "LONGEST_NAME" = some (.int 8) := rfl
theorem gNR : P.G "NO_RELATIONS" = some (.tup noRel) := rfl
theorem gStr : P.G "str" = some (.ty "str") := rfl
theorem gTup : P.G "tuple" = some (.ty "tuple") := rfl
def dm1 : W → Bool
  | .non => true
  | .bl _ => true
  | .int _ => true
  | .str z => decide (z.length ≤ 1000)
  | _ => false
/-- data of depth at most n -/
def dm : Nat → W → Bool
  | 0, v => dm1 v
  | n + 1, .tup xs => xs.all (dm n)
  | n + 1, v => dm1 v
/-- the answer of f at v, whatever the store: things are laid behind, nothing else -/
def Ans (k : Nat) (f : Str) (v r : W) : Prop := ∀ S, ∃ T, callN P k f [v] S = .ok r (S ++ T)
theorem iss_no {v : W} {n : Nat} (h : dm n v = true) (hs : ∀ z, v ≠ .str z) {S : So} : Z.builtin "isinstance" [v, .ty "str"] S = .ok (.bl false) S := by
  cases v with
  | str z => exact absurd rfl (hs z)
  | non => rfl
  | bl b => rfl
  | int i => rfl
  | tup xs => rfl
  | _ => cases n <;> simp [dm, dm1] at h
theorem iss_yes {z : Str} {S : So} : Z.builtin "isinstance" [.str z, .ty "str"] S = .ok (.bl true) S := rfl
theorem ist_yes {xs : List W} {S : So} : Z.builtin "isinstance" [.tup xs, .ty "tuple"] S = .ok (.bl true) S := rfl
theorem ist_no {v : W} {n : Nat} (h : dm n v = true) (hs : ∀ xs, v ≠ .tup xs) {S : So} : Z.builtin "isinstance" [v, .ty "tuple"] S = .ok (.bl false) S := by
  cases v with
  | tup xs => exact absurd rfl (hs xs)
  | non => rfl
  | bl b => rfl
  | int i => rfl
  | str xs => rfl
  | _ => cases n <;> simp [dm, dm1] at h
theorem lenStr {z : Str} {S : So} (h : z.length ≤ sizeLine) : Z.builtin "len" [.str z] S = .ok (.int z.length) S := if_pos h
theorem cle {i j : Int} {S : So} : cmp .LtE (.int i) (.int j) S = some (decide (i ≤ j)) := rfl
theorem iNv : (idx (Z.sxOf fIsName).N ("value" : Str)).getD 0 = 0 := by decide +kernel
theorem iNs : (idx (Z.sxOf fIsName).N ("sign" : Str)).getD 0 = 1 := by decide +kernel
theorem small {z : Str} {n : Nat} (h : dm n (.str z) = true) : z.length ≤ 1000 := by
  cases n <;> simpa [dm, dm1] using h
theorem le_line {n : Nat} (h : n ≤ 1000) : n ≤ sizeLine := Nat.le_trans h (by decide +kernel)
def okC (c : Nat) : Bool := if (!decide ((one c).cps.toList < ("a" : Str).cps.toList)) = true then (!decide (("z" : Str).cps.toList < (one c).cps.toList)) else false
theorem cA {c : Nat} {S : So} : cmp .LtE (.str "a") (.str (one c)) S = some (!decide ((one c).cps.toList < ("a" : Str).cps.toList)) := rfl
theorem cZ {c : Nat} {S : So} : cmp .LtE (.str (one c)) (.str "z") S = some (!decide (("z" : Str).cps.toList < (one c).cps.toList)) := rfl
theorem wkStr {z : Str} {S : So} : walkV (.str z) S = .ok (.seq (z.cps.toList.map fun c => W.str (one c))) S := rfl
theorem blsOk : ∀ l : List Bool, blsOf (l.map W.bl) = some l
  | [] => rfl
  | b :: r => by
    show (blsOf (r.map W.bl)).map (b :: ·) = _
    rw [blsOk r]; rfl
theorem allRef {D : Nat} {l : List Bool} {S : So} (h : S[D]? = some (.lst (l.map W.bl))) : Z.builtin "all" [.ref D] S = .ok (.bl (l.all id)) S := by
  have e : Z.builtin "all" [.ref D] S = (match (lstOf (.ref D) S).bind blsOf with | some bs => Res.ok (W.bl (bs.all id)) S | none => Res.bad) := rfl
  rw [e, lst_at h]
  show (match blsOf (l.map W.bl) with | some bs => Res.ok (W.bl (bs.all id)) S | none => Res.bad) = _
  rw [blsOk]
theorem isName {k n : Nat} {v : W} (hv : dm n v = true) : ∃ b, Ans (k+1) "is_name" v (.bl b) ∧ (b = true → ∃ z, v = .str z) := by
  by_cases hs : ∃ z, v = .str z
  · obtain ⟨z, rfl⟩ := hs
    have hz := small hv
    by_cases h1 : (1 : Int) ≤ z.length
    · by_cases h2 : (z.length : Int) ≤ 8
      · refine ⟨(z.cps.toList.map okC).all id, fun S => ?_, fun _ => ⟨z, rfl⟩⟩
        suffices h : Yes (callN P (k+1) "is_name" [.str z] S) fun r S' => r = .bl ((z.cps.toList.map okC).all id) ∧ ∃ T, S' = S ++ T by
          obtain ⟨r, S', e, rfl, T, rfl⟩ := h
          exact ⟨T, e⟩
        rw [callN_eq (fi := fIsName) (b := L2.defBody (top 3)) (e := [some (.str z), none]) rfl rfl rfl rfl]
        unfold top PySem.Challenge.pw_sharerules_k05_names_by_name
        simp only [List.getD, L2.defBody, List.getElem?_cons_succ, List.getElem?_cons_zero, Option.getD_some]
        simp (disch := decide +kernel) only [evS, yIf, yRet, xOr, evBc, evB1, xNot, xCmp2, qName, qGlo, gLN, gStr, iNv, iNs, xConst, cint, cstr, qBlt, evLc, evL0, sl0, oOk, bOk, iss_yes, lenStr (le_line hz), cle, tbl, decide_eq_true h1, decide_eq_true h2, if_true, Bool.not_true, qComp, qWalk, wkStr, wipeAt 1, List.set_cons_succ, List.set_cons_zero]
        simp only [evS, bOk, Res.assoc]
        refine yes_turnsX (fun j _ S' => S' = S ++ [.lst (((z.cps.toList.take j).map okC).map W.bl)]) rfl ?_ ?_
        · rintro j u S' w hw rfl
          rw [List.getElem?_map] at hw
          obtain ⟨c, hc, rfl⟩ := Option.map_eq_some_iff.mp hw
          refine lcTurn_yes (qAsg (by decide +kernel)) ?_
          simp (disch := decide +kernel) only [xCmp2, qName, sxB_N, iNs, xConst, cstr, sl0, slS, oOk, bOk, cA, cZ, List.set_cons_succ, List.set_cons_zero]
          have e : (if (!decide ((one c).cps.toList < ("a" : Str).cps.toList)) = true then (Res.ok (W.bl (!decide (("z" : Str).cps.toList < (one c).cps.toList))) (S ++ [O.lst (((z.cps.toList.take j).map okC).map W.bl)]) : Res W) else Res.ok (W.bl false) (S ++ [O.lst (((z.cps.toList.take j).map okC).map W.bl)])) = Res.ok (W.bl (okC c)) (S ++ [O.lst (((z.cps.toList.take j).map okC).map W.bl)]) := by
            unfold okC; split <;> rfl
          rw [e]
          have hjl : j < z.cps.toList.length := (List.getElem?_eq_some_iff.mp hc).1
          have hzl : z.cps.toList.length = z.length := by simp [Str.length]
          refine yes_ok ⟨_, push_at getNew (by simp only [List.length_map, List.length_take]; exact Nat.lt_of_lt_of_le (by omega : _ < 1001) (by decide +kernel)), ?_⟩
          rw [set_new, List.take_add_one, hc]
          simp
        · rintro u S' rfl
          have hg : (S ++ [O.lst (((z.cps.toList.take (z.cps.toList.map fun c => W.str (one c)).length).map okC).map W.bl)])[S.length]? = some (.lst ((z.cps.toList.map okC).map W.bl)) := by
            rw [getNew, List.length_map, List.take_length]
          rw [allRef hg]
          exact yes_ok ⟨rfl, _, rfl⟩
      · refine ⟨false, fun S => ⟨[], ?_⟩, fun h => by cases h⟩
        rw [callN_eq (fi := fIsName) (b := L2.defBody (top 3)) (e := [some (.str z), none]) rfl rfl rfl rfl]
        unfold top PySem.Challenge.pw_sharerules_k05_names_by_name
        simp only [List.getD, L2.defBody, List.getElem?_cons_succ, List.getElem?_cons_zero, Option.getD_some]
        simp (disch := decide +kernel) only [evS, yIf, yRet, xOr, evBc, evB1, xNot, xCmp2, qName, qGlo, gLN, gStr, iNv, iNs, xConst, cint, cbool, cstr, qBlt, evLc, evL0, sl0, oOk, bOk, iss_yes, lenStr (le_line hz), cle, tbl, decide_eq_true h1, decide_eq_false h2, if_true, Bool.not_true, Bool.not_false, List.append_nil]
    · refine ⟨false, fun S => ⟨[], ?_⟩, fun h => by cases h⟩
      rw [callN_eq (fi := fIsName) (b := L2.defBody (top 3)) (e := [some (.str z), none]) rfl rfl rfl rfl]
      unfold top PySem.Challenge.pw_sharerules_k05_names_by_name
      simp only [List.getD, L2.defBody, List.getElem?_cons_succ, List.getElem?_cons_zero, Option.getD_some]
      simp (disch := decide +kernel) only [evS, yIf, yRet, xOr, evBc, evB1, xNot, xCmp2, qName, qGlo, gLN, gStr, iNv, iNs, xConst, cint, cbool, cstr, qBlt, evLc, evL0, sl0, oOk, bOk, iss_yes, lenStr (le_line hz), cle, tbl, decide_eq_false h1, if_true, if_false, Bool.false_eq_true, Bool.not_true, Bool.not_false, List.append_nil]
  · have hs' : ∀ z, v ≠ .str z := fun z e => hs ⟨z, e⟩
    refine ⟨false, fun S => ⟨[], ?_⟩, fun h => by cases h⟩
    rw [callN_eq (fi := fIsName) (b := L2.defBody (top 3)) (e := [some v, none]) rfl rfl rfl rfl]
    unfold top PySem.Challenge.pw_sharerules_k05_names_by_name
    simp only [List.getD, L2.defBody, List.getElem?_cons_succ, List.getElem?_cons_zero, Option.getD_some]
    simp (disch := decide +kernel) only [evS, yIf, yRet, xOr, evBc, evB1, xNot, qName, qGlo, gLN, gStr, iNv, iNs, xConst, cint, cbool, cstr, qBlt, evLc, evL0, sl0, oOk, bOk, iss_no hv hs', tbl, if_true, if_false, Bool.false_eq_true, Bool.true_eq_false, Bool.not_true, Bool.not_false, List.append_nil]
end Z5

namespace Z5
open PySem Z L2
theorem iRv : (idx (Z.sxOf fIsRel).N ("value" : Str)).getD 0 = 0 := by decide +kernel
theorem iOv : (idx (Z.sxOf fIsObj).N ("value" : Str)).getD 0 = 0 := by decide +kernel
theorem iGv : (idx (Z.sxOf fIsGrp).N ("value" : Str)).getD 0 = 0 := by decide +kernel
theorem iSv : (idx (Z.sxOf fIsSub).N ("value" : Str)).getD 0 = 0 := by decide +kernel
theorem iWv : (idx (Z.sxOf fIsRow).N ("value" : Str)).getD 0 = 0 := by decide +kernel
theorem cNI {z : Str} {S : So} : cmp .NotIn (.str z) (.tup noRel) S = some (!inW (.str z) noRel) := rfl
theorem lenTup {xs : List W} {S : So} : Z.builtin "len" [.tup xs] S = .ok (.int xs.length) S := rfl
theorem cne {i j : Int} {S : So} : cmp .NotEq (.int i) (.int j) S = some (!decide (i = j)) := rfl
theorem it0 {a : W} {r : List W} {S : So} : item (.tup (a :: r)) (.int 0) S = some a := atI_ok (ws := a :: r) (by decide) rfl
theorem it1 {a b : W} {r : List W} {S : So} : item (.tup (a :: b :: r)) (.int 1) S = some b := atI_ok (ws := a :: b :: r) (by decide) rfl
theorem it2 {a b c : W} {r : List W} {S : So} : item (.tup (a :: b :: c :: r)) (.int 2) S = some c := atI_ok (ws := a :: b :: c :: r) (by decide) rfl
theorem dm_tup {n : Nat} {xs : List W} (h : dm n (.tup xs) = true) : ∃ m, n = m + 1 ∧ ∀ x ∈ xs, dm m x = true := by
  cases n with
  | zero => cases h
  | succ m => exact ⟨m, rfl, fun x hx => List.all_eq_true.mp h x hx⟩
theorem two_of {xs : List W} (h : (xs.length : Int) = 2) : ∃ a b, xs = [a, b] := by
  match xs, h with
  | [a, b], _ => exact ⟨a, b, rfl⟩
  | [], h => simp at h
  | [_], h => simp at h
  | _ :: _ :: _ :: r, h => simp only [List.length_cons] at h; omega
theorem three_of {xs : List W} (h : (xs.length : Int) = 3) : ∃ a b c, xs = [a, b, c] := by
  match xs, h with
  | [a, b, c], _ => exact ⟨a, b, c, rfl⟩
  | [], h => simp at h
  | [_], h => simp at h
  | [_, _], h => simp at h
  | _ :: _ :: _ :: _ :: r, h => simp only [List.length_cons] at h; omega
theorem l2 {a b : W} : (([a, b] : List W).length : Int) = 2 := rfl
theorem l3 {a b c : W} : (([a, b, c] : List W).length : Int) = 3 := rfl
theorem isRel {k n : Nat} {v : W} (hv : dm n v = true) : ∃ b, Ans (k+2) "is_relation" v (.bl b) := by
  obtain ⟨b, hA, hz⟩ := isName (k := k) hv
  cases b with
  | false =>
    refine ⟨false, fun S => ?_⟩
    obtain ⟨T, eT⟩ := hA S
    refine ⟨T, ?_⟩
    rw [callN_eq (fi := fIsRel) (b := L2.defBody (top 4)) (e := [some v]) rfl rfl rfl rfl]
    unfold top PySem.Challenge.pw_sharerules_k05_names_by_name
    simp only [List.getD, L2.defBody, List.getElem?_cons_succ, List.getElem?_cons_zero, Option.getD_some]
    simp (disch := decide +kernel) only [evS, yIf, yRet, xOr, xAnd, evBc, evB1, xNot, xCmp, xSub, qName, qGlo, gNR, gTup, xConst, cint, cbool, cstr, qBlt, qOwn, evLc, evL0, sl0, oOk, bOk, tbl, if_true, if_false, Bool.false_eq_true, Bool.true_eq_false, Bool.not_true, Bool.not_false, List.append_nil, iRv, eT]
  | true =>
    obtain ⟨z, rfl⟩ := hz rfl
    refine ⟨!inW (.str z) noRel, fun S => ?_⟩
    obtain ⟨T, eT⟩ := hA S
    refine ⟨T, ?_⟩
    rw [callN_eq (fi := fIsRel) (b := L2.defBody (top 4)) (e := [some (.str z)]) rfl rfl rfl rfl]
    unfold top PySem.Challenge.pw_sharerules_k05_names_by_name
    simp only [List.getD, L2.defBody, List.getElem?_cons_succ, List.getElem?_cons_zero, Option.getD_some]
    simp (disch := decide +kernel) only [evS, yIf, yRet, xOr, xAnd, evBc, evB1, xNot, xCmp, xSub, qName, qGlo, gNR, gTup, xConst, cint, cbool, cstr, qBlt, qOwn, evLc, evL0, sl0, oOk, bOk, tbl, if_true, if_false, Bool.false_eq_true, Bool.true_eq_false, Bool.not_true, Bool.not_false, List.append_nil, iRv, eT, cNI]
theorem isObj {k n : Nat} {v : W} (hv : dm n v = true) : ∃ b, Ans (k+2) "is_object" v (.bl b) := by
  by_cases ht : ∃ xs, v = .tup xs
  · obtain ⟨xs, rfl⟩ := ht
    by_cases hl : (xs.length : Int) = 2
    · obtain ⟨a, b, rfl⟩ := two_of hl
      obtain ⟨m, rfl, hm⟩ := dm_tup hv
      obtain ⟨b0, h0, _⟩ := isName (k := k) (hm a (by simp))
      obtain ⟨b1, h1, _⟩ := isName (k := k) (hm b (by simp))
      refine ⟨b0 && b1, fun S => ?_⟩
      obtain ⟨T0, e0⟩ := h0 S
      cases b0 with
      | false =>
        refine ⟨T0, ?_⟩
        rw [callN_eq (fi := fIsObj) (b := L2.defBody (top 5)) (e := [some (.tup [a, b])]) rfl rfl rfl rfl]
        unfold top PySem.Challenge.pw_sharerules_k05_names_by_name
        simp only [List.getD, L2.defBody, List.getElem?_cons_succ, List.getElem?_cons_zero, Option.getD_some]
        simp (disch := decide +kernel) only [evS, yIf, yRet, xOr, xAnd, evBc, evB1, xNot, xCmp, xSub, qName, qGlo, gNR, gTup, xConst, cint, cbool, cstr, qBlt, qOwn, evLc, evL0, sl0, oOk, bOk, tbl, if_true, if_false, Bool.false_eq_true, Bool.true_eq_false, Bool.not_true, Bool.not_false, List.append_nil, iOv, ist_yes, lenTup, l2, cne, decide_true, it0, it1, it2, e0, Bool.false_and, Bool.true_and, Bool.and_false]
      | true =>
        obtain ⟨T1, e1⟩ := h1 (S ++ T0)
        refine ⟨T0 ++ T1, ?_⟩
        rw [show S ++ (T0 ++ T1) = S ++ T0 ++ T1 by simp only [List.append_assoc]]
        rw [callN_eq (fi := fIsObj) (b := L2.defBody (top 5)) (e := [some (.tup [a, b])]) rfl rfl rfl rfl]
        unfold top PySem.Challenge.pw_sharerules_k05_names_by_name
        simp only [List.getD, L2.defBody, List.getElem?_cons_succ, List.getElem?_cons_zero, Option.getD_some]
        simp (disch := decide +kernel) only [evS, yIf, yRet, xOr, xAnd, evBc, evB1, xNot, xCmp, xSub, qName, qGlo, gNR, gTup, xConst, cint, cbool, cstr, qBlt, qOwn, evLc, evL0, sl0, oOk, bOk, tbl, if_true, if_false, Bool.false_eq_true, Bool.true_eq_false, Bool.not_true, Bool.not_false, List.append_nil, iOv, ist_yes, lenTup, l2, cne, decide_true, it0, it1, it2, e0, e1, Bool.true_and, Bool.and_true]
    · refine ⟨false, fun S => ⟨[], ?_⟩⟩
      rw [callN_eq (fi := fIsObj) (b := L2.defBody (top 5)) (e := [some (.tup xs)]) rfl rfl rfl rfl]
      unfold top PySem.Challenge.pw_sharerules_k05_names_by_name
      simp only [List.getD, L2.defBody, List.getElem?_cons_succ, List.getElem?_cons_zero, Option.getD_some]
      simp (disch := decide +kernel) only [evS, yIf, yRet, xOr, xAnd, evBc, evB1, xNot, xCmp, xSub, qName, qGlo, gNR, gTup, xConst, cint, cbool, cstr, qBlt, qOwn, evLc, evL0, sl0, oOk, bOk, tbl, if_true, if_false, Bool.false_eq_true, Bool.true_eq_false, Bool.not_true, Bool.not_false, List.append_nil, iOv, ist_yes, lenTup, cne, decide_eq_false hl]
  · have ht' : ∀ xs, v ≠ .tup xs := fun xs q => ht ⟨xs, q⟩
    refine ⟨false, fun S => ⟨[], ?_⟩⟩
    rw [callN_eq (fi := fIsObj) (b := L2.defBody (top 5)) (e := [some v]) rfl rfl rfl rfl]
    unfold top PySem.Challenge.pw_sharerules_k05_names_by_name
    simp only [List.getD, L2.defBody, List.getElem?_cons_succ, List.getElem?_cons_zero, Option.getD_some]
    simp (disch := decide +kernel) only [evS, yIf, yRet, xOr, xAnd, evBc, evB1, xNot, xCmp, xSub, qName, qGlo, gNR, gTup, xConst, cint, cbool, cstr, qBlt, qOwn, evLc, evL0, sl0, oOk, bOk, tbl, if_true, if_false, Bool.false_eq_true, Bool.true_eq_false, Bool.not_true, Bool.not_false, List.append_nil, iOv, ist_no hv ht']
theorem isGrp {k n : Nat} {v : W} (hv : dm n v = true) : ∃ b, Ans (k+3) "is_group" v (.bl b) := by
  by_cases ht : ∃ xs, v = .tup xs
  · obtain ⟨xs, rfl⟩ := ht
    by_cases hl : (xs.length : Int) = 3
    · obtain ⟨a, b, c, rfl⟩ := three_of hl
      obtain ⟨m, rfl, hm⟩ := dm_tup hv
      obtain ⟨b0, h0, _⟩ := isName (k := k+1) (hm a (by simp))
      obtain ⟨b1, h1, _⟩ := isName (k := k+1) (hm b (by simp))
      obtain ⟨b2, h2⟩ := isRel (k := k) (hm c (by simp))
      refine ⟨b0 && b1 && b2, fun S => ?_⟩
      obtain ⟨T0, e0⟩ := h0 S
      cases b0 with
      | false =>
        refine ⟨T0, ?_⟩
        rw [callN_eq (fi := fIsGrp) (b := L2.defBody (top 6)) (e := [some (.tup [a, b, c])]) rfl rfl rfl rfl]
        unfold top PySem.Challenge.pw_sharerules_k05_names_by_name
        simp only [List.getD, L2.defBody, List.getElem?_cons_succ, List.getElem?_cons_zero, Option.getD_some]
        simp (disch := decide +kernel) only [evS, yIf, yRet, xOr, xAnd, evBc, evB1, xNot, xCmp, xSub, qName, qGlo, gNR, gTup, xConst, cint, cbool, cstr, qBlt, qOwn, evLc, evL0, sl0, oOk, bOk, tbl, if_true, if_false, Bool.false_eq_true, Bool.true_eq_false, Bool.not_true, Bool.not_false, List.append_nil, iGv, ist_yes, lenTup, l3, cne, decide_true, it0, it1, it2, e0, Bool.false_and, Bool.true_and, Bool.and_false]
      | true =>
        obtain ⟨T1, e1⟩ := h1 (S ++ T0)
        cases b1 with
        | false =>
          refine ⟨T0 ++ T1, ?_⟩
          rw [show S ++ (T0 ++ T1) = S ++ T0 ++ T1 by simp only [List.append_assoc]]
          rw [callN_eq (fi := fIsGrp) (b := L2.defBody (top 6)) (e := [some (.tup [a, b, c])]) rfl rfl rfl rfl]
          unfold top PySem.Challenge.pw_sharerules_k05_names_by_name
          simp only [List.getD, L2.defBody, List.getElem?_cons_succ, List.getElem?_cons_zero, Option.getD_some]
          simp (disch := decide +kernel) only [evS, yIf, yRet, xOr, xAnd, evBc, evB1, xNot, xCmp, xSub, qName, qGlo, gNR, gTup, xConst, cint, cbool, cstr, qBlt, qOwn, evLc, evL0, sl0, oOk, bOk, tbl, if_true, if_false, Bool.false_eq_true, Bool.true_eq_false, Bool.not_true, Bool.not_false, List.append_nil, iGv, ist_yes, lenTup, l3, cne, decide_true, it0, it1, it2, e0, e1, Bool.false_and, Bool.true_and, Bool.and_false]
        | true =>
          obtain ⟨T2, e2⟩ := h2 ((S ++ T0) ++ T1)
          refine ⟨T0 ++ T1 ++ T2, ?_⟩
          rw [show S ++ (T0 ++ T1 ++ T2) = S ++ T0 ++ T1 ++ T2 by simp only [List.append_assoc]]
          rw [callN_eq (fi := fIsGrp) (b := L2.defBody (top 6)) (e := [some (.tup [a, b, c])]) rfl rfl rfl rfl]
          unfold top PySem.Challenge.pw_sharerules_k05_names_by_name
          simp only [List.getD, L2.defBody, List.getElem?_cons_succ, List.getElem?_cons_zero, Option.getD_some]
          simp (disch := decide +kernel) only [evS, yIf, yRet, xOr, xAnd, evBc, evB1, xNot, xCmp, xSub, qName, qGlo, gNR, gTup, xConst, cint, cbool, cstr, qBlt, qOwn, evLc, evL0, sl0, oOk, bOk, tbl, if_true, if_false, Bool.false_eq_true, Bool.true_eq_false, Bool.not_true, Bool.not_false, List.append_nil, iGv, ist_yes, lenTup, l3, cne, decide_true, it0, it1, it2, e0, e1, e2, Bool.true_and, Bool.and_true]
    · refine ⟨false, fun S => ⟨[], ?_⟩⟩
      rw [callN_eq (fi := fIsGrp) (b := L2.defBody (top 6)) (e := [some (.tup xs)]) rfl rfl rfl rfl]
      unfold top PySem.Challenge.pw_sharerules_k05_names_by_name
      simp only [List.getD, L2.defBody, List.getElem?_cons_succ, List.getElem?_cons_zero, Option.getD_some]
      simp (disch := decide +kernel) only [evS, yIf, yRet, xOr, xAnd, evBc, evB1, xNot, xCmp, xSub, qName, qGlo, gNR, gTup, xConst, cint, cbool, cstr, qBlt, qOwn, evLc, evL0, sl0, oOk, bOk, tbl, if_true, if_false, Bool.false_eq_true, Bool.true_eq_false, Bool.not_true, Bool.not_false, List.append_nil, iGv, ist_yes, lenTup, cne, decide_eq_false hl]
  · have ht' : ∀ xs, v ≠ .tup xs := fun xs q => ht ⟨xs, q⟩
    refine ⟨false, fun S => ⟨[], ?_⟩⟩
    rw [callN_eq (fi := fIsGrp) (b := L2.defBody (top 6)) (e := [some v]) rfl rfl rfl rfl]
    unfold top PySem.Challenge.pw_sharerules_k05_names_by_name
    simp only [List.getD, L2.defBody, List.getElem?_cons_succ, List.getElem?_cons_zero, Option.getD_some]
    simp (disch := decide +kernel) only [evS, yIf, yRet, xOr, xAnd, evBc, evB1, xNot, xCmp, xSub, qName, qGlo, gNR, gTup, xConst, cint, cbool, cstr, qBlt, qOwn, evLc, evL0, sl0, oOk, bOk, tbl, if_true, if_false, Bool.false_eq_true, Bool.true_eq_false, Bool.not_true, Bool.not_false, List.append_nil, iGv, ist_no hv ht']
theorem isSub {k n : Nat} {v : W} (hv : dm n v = true) : ∃ b, Ans (k+4) "is_subject" v (.bl b) := by
  obtain ⟨b0, h0⟩ := isObj (k := k+1) hv
  obtain ⟨b1, h1⟩ := isGrp (k := k) hv
  refine ⟨b0 || b1, fun S => ?_⟩
  obtain ⟨T0, e0⟩ := h0 S
  cases b0 with
  | true =>
    refine ⟨T0, ?_⟩
    rw [callN_eq (fi := fIsSub) (b := L2.defBody (top 7)) (e := [some v]) rfl rfl rfl rfl]
    unfold top PySem.Challenge.pw_sharerules_k05_names_by_name
    simp only [List.getD, L2.defBody, List.getElem?_cons_succ, List.getElem?_cons_zero, Option.getD_some]
    simp (disch := decide +kernel) only [evS, yIf, yRet, xOr, xAnd, evBc, evB1, xNot, xCmp, xSub, qName, qGlo, gNR, gTup, xConst, cint, cbool, cstr, qBlt, qOwn, evLc, evL0, sl0, oOk, bOk, tbl, if_true, if_false, Bool.false_eq_true, Bool.true_eq_false, Bool.not_true, Bool.not_false, List.append_nil, iSv, e0, Bool.true_or]
  | false =>
    obtain ⟨T1, e1⟩ := h1 (S ++ T0)
    refine ⟨T0 ++ T1, ?_⟩
    rw [show S ++ (T0 ++ T1) = S ++ T0 ++ T1 by simp only [List.append_assoc]]
    rw [callN_eq (fi := fIsSub) (b := L2.defBody (top 7)) (e := [some v]) rfl rfl rfl rfl]
    unfold top PySem.Challenge.pw_sharerules_k05_names_by_name
    simp only [List.getD, L2.defBody, List.getElem?_cons_succ, List.getElem?_cons_zero, Option.getD_some]
    simp (disch := decide +kernel) only [evS, yIf, yRet, xOr, xAnd, evBc, evB1, xNot, xCmp, xSub, qName, qGlo, gNR, gTup, xConst, cint, cbool, cstr, qBlt, qOwn, evLc, evL0, sl0, oOk, bOk, tbl, if_true, if_false, Bool.false_eq_true, Bool.true_eq_false, Bool.not_true, Bool.not_false, List.append_nil, iSv, e0, e1, Bool.false_or]
theorem isRow {k n : Nat} {v : W} (hv : dm n v = true) : ∃ b, Ans (k+5) "is_row" v (.bl b) := by
  by_cases ht : ∃ xs, v = .tup xs
  · obtain ⟨xs, rfl⟩ := ht
    by_cases hl : (xs.length : Int) = 3
    · obtain ⟨a, b, c, rfl⟩ := three_of hl
      obtain ⟨m, rfl, hm⟩ := dm_tup hv
      obtain ⟨b0, h0⟩ := isObj (k := k+2) (hm a (by simp))
      obtain ⟨b1, h1⟩ := isRel (k := k+2) (hm b (by simp))
      obtain ⟨b2, h2⟩ := isSub (k := k) (hm c (by simp))
      refine ⟨b0 && b1 && b2, fun S => ?_⟩
      obtain ⟨T0, e0⟩ := h0 S
      cases b0 with
      | false =>
        refine ⟨T0, ?_⟩
        rw [callN_eq (fi := fIsRow) (b := L2.defBody (top 8)) (e := [some (.tup [a, b, c])]) rfl rfl rfl rfl]
        unfold top PySem.Challenge.pw_sharerules_k05_names_by_name
        simp only [List.getD, L2.defBody, List.getElem?_cons_succ, List.getElem?_cons_zero, Option.getD_some]
        simp (disch := decide +kernel) only [evS, yIf, yRet, xOr, xAnd, evBc, evB1, xNot, xCmp, xSub, qName, qGlo, gNR, gTup, xConst, cint, cbool, cstr, qBlt, qOwn, evLc, evL0, sl0, oOk, bOk, tbl, if_true, if_false, Bool.false_eq_true, Bool.true_eq_false, Bool.not_true, Bool.not_false, List.append_nil, iWv, ist_yes, lenTup, l3, cne, decide_true, it0, it1, it2, e0, Bool.false_and, Bool.true_and, Bool.and_false]
      | true =>
        obtain ⟨T1, e1⟩ := h1 (S ++ T0)
        cases b1 with
        | false =>
          refine ⟨T0 ++ T1, ?_⟩
          rw [show S ++ (T0 ++ T1) = S ++ T0 ++ T1 by simp only [List.append_assoc]]
          rw [callN_eq (fi := fIsRow) (b := L2.defBody (top 8)) (e := [some (.tup [a, b, c])]) rfl rfl rfl rfl]
          unfold top PySem.Challenge.pw_sharerules_k05_names_by_name
          simp only [List.getD, L2.defBody, List.getElem?_cons_succ, List.getElem?_cons_zero, Option.getD_some]
          simp (disch := decide +kernel) only [evS, yIf, yRet, xOr, xAnd, evBc, evB1, xNot, xCmp, xSub, qName, qGlo, gNR, gTup, xConst, cint, cbool, cstr, qBlt, qOwn, evLc, evL0, sl0, oOk, bOk, tbl, if_true, if_false, Bool.false_eq_true, Bool.true_eq_false, Bool.not_true, Bool.not_false, List.append_nil, iWv, ist_yes, lenTup, l3, cne, decide_true, it0, it1, it2, e0, e1, Bool.false_and, Bool.true_and, Bool.and_false]
        | true =>
          obtain ⟨T2, e2⟩ := h2 ((S ++ T0) ++ T1)
          refine ⟨T0 ++ T1 ++ T2, ?_⟩
          rw [show S ++ (T0 ++ T1 ++ T2) = S ++ T0 ++ T1 ++ T2 by simp only [List.append_assoc]]
          rw [callN_eq (fi := fIsRow) (b := L2.defBody (top 8)) (e := [some (.tup [a, b, c])]) rfl rfl rfl rfl]
          unfold top PySem.Challenge.pw_sharerules_k05_names_by_name
          simp only [List.getD, L2.defBody, List.getElem?_cons_succ, List.getElem?_cons_zero, Option.getD_some]
          simp (disch := decide +kernel) only [evS, yIf, yRet, xOr, xAnd, evBc, evB1, xNot, xCmp, xSub, qName, qGlo, gNR, gTup, xConst, cint, cbool, cstr, qBlt, qOwn, evLc, evL0, sl0, oOk, bOk, tbl, if_true, if_false, Bool.false_eq_true, Bool.true_eq_false, Bool.not_true, Bool.not_false, List.append_nil, iWv, ist_yes, lenTup, l3, cne, decide_true, it0, it1, it2, e0, e1, e2, Bool.true_and, Bool.and_true]
    · refine ⟨false, fun S => ⟨[], ?_⟩⟩
      rw [callN_eq (fi := fIsRow) (b := L2.defBody (top 8)) (e := [some (.tup xs)]) rfl rfl rfl rfl]
      unfold top PySem.Challenge.pw_sharerules_k05_names_by_name
      simp only [List.getD, L2.defBody, List.getElem?_cons_succ, List.getElem?_cons_zero, Option.getD_some]
      simp (disch := decide +kernel) only [evS, yIf, yRet, xOr, xAnd, evBc, evB1, xNot, xCmp, xSub, qName, qGlo, gNR, gTup, xConst, cint, cbool, cstr, qBlt, qOwn, evLc, evL0, sl0, oOk, bOk, tbl, if_true, if_false, Bool.false_eq_true, Bool.true_eq_false, Bool.not_true, Bool.not_false, List.append_nil, iWv, ist_yes, lenTup, cne, decide_eq_false hl]
  · have ht' : ∀ xs, v ≠ .tup xs := fun xs q => ht ⟨xs, q⟩
    refine ⟨false, fun S => ⟨[], ?_⟩⟩
    rw [callN_eq (fi := fIsRow) (b := L2.defBody (top 8)) (e := [some v]) rfl rfl rfl rfl]
    unfold top PySem.Challenge.pw_sharerules_k05_names_by_name
    simp only [List.getD, L2.defBody, List.getElem?_cons_succ, List.getElem?_cons_zero, Option.getD_some]
    simp (disch := decide +kernel) only [evS, yIf, yRet, xOr, xAnd, evBc, evB1, xNot, xCmp, xSub, qName, qGlo, gNR, gTup, xConst, cint, cbool, cstr, qBlt, qOwn, evLc, evL0, sl0, oOk, bOk, tbl, if_true, if_false, Bool.false_eq_true, Bool.true_eq_false, Bool.not_true, Bool.not_false, List.append_nil, iWv, ist_no hv ht']
end Z5

namespace Z5
open PySem Z L2
abbrev o2 : W := .tup [.str "doc", .str "plan"]
abbrev o3 : W := .tup [.str "team", .str "red", .str "member"]
abbrev ln (o : W) : W := .tup [.tup [.str "doc", .str "map"], .str "viewer", o]
theorem st2 {k : Nat} {S : So} : callN P (k+1) "subject_text" [o2] S = .ok (.str "doc:plan") S := by kernel_rfl
theorem st3 {k : Nat} {S : So} : callN P (k+1) "subject_text" [o3] S = .ok (.str "team:red#member") S := by kernel_rfl
theorem rt2 {k : Nat} {S : So} : callN P (k+2) "row_text" [ln o2] S = .ok (.str "doc:map viewer doc:plan") S := by kernel_rfl
theorem rt3 {k : Nat} {S : So} : callN P (k+2) "row_text" [ln o3] S = .ok (.str "doc:map viewer team:red#member") S := by kernel_rfl
theorem sh2 {k : Nat} {S : So} : callN P (k+1) "shape" [o2] S = .ok (.tup [.str "doc"]) S := by kernel_rfl
theorem sh3 {k : Nat} {S : So} : callN P (k+1) "shape" [o3] S = .ok (.tup [.str "team", .str "member"]) S := by kernel_rfl
theorem tg2 {k : Nat} {S : So} : callN P (k+1) "target" [o2] S = .ok (.tup [.str "doc", .str "plan"]) S := by kernel_rfl
theorem tg3 {k : Nat} {S : So} : callN P (k+1) "target" [o3] S = .ok (.tup [.str "team", .str "red"]) S := by kernel_rfl
theorem rp2 {S : So} : Z.builtin "repr" [.tup [.str "doc", .str "plan"]] S = .ok (.str (PyData.shown (.tuple [.str "doc", .str "plan"]))) S := by kernel_rfl
theorem cnon {S : So} : constE .none S = .ok .non S := rfl
section
variable {P : Pg} {sx : Sx} {e : En} {S : So}
theorem qAsg3 {x y z : Str} {p p' p'' p3 : Pos} {c : Nat} {u v w : W} (h : (asgOk sx x && asgOk sx y && asgOk sx z) = true) : asg sx e (.Tuple [.Name x p, .Name y p', .Name z p3] c p'') (.tup [u, v, w]) = some (((e.set ((idx sx.N x).getD 0) (some u)).set ((idx sx.N y).getD 0) (some v)).set ((idx sx.N z).getD 0) (some w)) := by
  rw [Bool.and_eq_true, Bool.and_eq_true] at h
  show asgL sx [.Name x p, .Name y p', .Name z p3] [u, v, w] e = _
  simp only [asgL, (asgOk_ok h.1.1).2, (asgOk_ok h.1.2).2, (asgOk_ok h.2).2, Option.bind_some]
end
theorem mPart {a b x y z : Str} {S : So} (hl : a.length ≤ 1000) (hb : (b.length == 0) = false) (h : Txt.partition a b = (x, y, z)) : method (.str a) "partition" [.str b] S = .ok (.tup [.str x, .str y, .str z]) S := by
  have e : method (.str a) "partition" [.str b] S = if (b.length == 0) = false ∧ a.length ≤ sizeLine then Res.ok (W.tup [.str (Txt.partition a b).1, .str (Txt.partition a b).2.1, .str (Txt.partition a b).2.2]) S else Res.bad := rfl
  rw [e, if_pos ⟨hb, le_line hl⟩, h]
theorem mSplit {a b : Str} {S : So} (hl : a.length ≤ 1000) (hb : (b.length == 0) = false) : method (.str a) "split" [.str b] S = .ok (.ref S.length) (S ++ [.lst ((Txt.split a b).map .str)]) := by
  have e : method (.str a) "split" [.str b] S = if (b.length == 0) = false ∧ a.length + 2 ≤ sizeLine then new (.lst ((Txt.split a b).map .str)) S else Res.bad := rfl
  rw [e, if_pos ⟨hb, Nat.le_trans (Nat.add_le_add_right hl 2) (by decide +kernel)⟩]; rfl
theorem mIfP {α : Type} {x : Str} {a b : α} : (if valTy (.str x) S = methTy "partition" then a else b) = a := if_pos (show some "str" = methTy "partition" by decide +kernel)
theorem mIfS {α : Type} {x : Str} {a b : α} : (if valTy (.str x) S = methTy "split" then a else b) = a := if_pos (show some "str" = methTy "split" by decide +kernel)
theorem trE {S : So} : truth (.str "") S = some false := by kernel_rfl
theorem tt2 {a b : W} : [a, b].length ≤ sizeLine := (show 2 ≤ sizeLine by decide +kernel)
theorem tt3 {a b c : W} : [a, b, c].length ≤ sizeLine := (show 3 ≤ sizeLine by decide +kernel)
theorem iQ0 : (idx (Z.sxOf fRdSub).N ("text" : Str)).getD 0 = 0 := by decide +kernel
theorem iQ1 : (idx (Z.sxOf fRdSub).N ("kind" : Str)).getD 0 = 1 := by decide +kernel
theorem iQ2 : (idx (Z.sxOf fRdSub).N ("_" : Str)).getD 0 = 2 := by decide +kernel
theorem iQ3 : (idx (Z.sxOf fRdSub).N ("rest" : Str)).getD 0 = 3 := by decide +kernel
theorem iQ4 : (idx (Z.sxOf fRdSub).N ("name" : Str)).getD 0 = 4 := by decide +kernel
theorem iQ5 : (idx (Z.sxOf fRdSub).N ("mark" : Str)).getD 0 = 5 := by decide +kernel
theorem iQ6 : (idx (Z.sxOf fRdSub).N ("relation" : Str)).getD 0 = 6 := by decide +kernel
theorem iQ7 : (idx (Z.sxOf fRdSub).N ("subject" : Str)).getD 0 = 7 := by decide +kernel
theorem iP0 : (idx (Z.sxOf fRdRow).N ("text" : Str)).getD 0 = 0 := by decide +kernel
theorem iP1 : (idx (Z.sxOf fRdRow).N ("words" : Str)).getD 0 = 1 := by decide +kernel
theorem iP2 : (idx (Z.sxOf fRdRow).N ("row" : Str)).getD 0 = 2 := by decide +kernel
theorem rdSub {k : Nat} {z x y w a c : Str} (hz : z.length ≤ 1000) (h1 : Txt.partition z ":" = (x, y, w)) (hw : w.length ≤ 1000) (h2 : Txt.partition w "#" = (a, ("" : Str), c)) (hx : x.length ≤ 1000) (ha : a.length ≤ 1000) : ∃ r, Ans (k+5) "read_subject" (.str z) r ∧ (r = .non ∨ r = .tup [.str x, .str a]) := by
  obtain ⟨b, hA⟩ := isSub (k := k) (n := 1) (v := .tup [.str x, .str a]) (by
    show ([W.str x, W.str a].all (dm 0)) = true
    simp [dm, dm1, hx, ha])
  refine ⟨if b then .tup [.str x, .str a] else .non, fun S => ?_, by cases b <;> simp⟩
  obtain ⟨T, eT⟩ := hA S
  refine ⟨T, ?_⟩
  rw [callN_eq (fi := fRdSub) (b := L2.defBody (top 11)) (e := [some (.str z), none, none, none, none, none, none, none]) rfl rfl rfl rfl]
  unfold top PySem.Challenge.pw_sharerules_k05_names_by_name
  simp only [List.getD, L2.defBody, List.getElem?_cons_succ, List.getElem?_cons_zero, Option.getD_some]
  cases b with
  | true => simp (disch := decide +kernel) only [evS, yIf, yRet, qSet, qTup, xIf, xNot, xCmp, xSub, xTup, qName, qGlo, gStr, xConst, cint, cbool, cstr, cnon, qBlt, qOwn, qMeth, evLc, evL0, sl0, slS, oOk, bOk, tbl, if_true, if_false, Bool.false_eq_true, Bool.true_eq_false, Bool.not_true, Bool.not_false, List.append_nil, List.set_cons_succ, List.set_cons_zero, iQ0, iQ1, iQ2, iQ3, iQ4, iQ5, iQ6, iQ7, iss_yes, mIfP, mPart hz (show (Str.length ":" == 0) = false by decide) h1, mPart hw (show (Str.length "#" == 0) = false by decide) h2, qAsg3, trE, if_pos tt2, eT]
  | false => simp (disch := decide +kernel) only [evS, yIf, yRet, qSet, qTup, xIf, xNot, xCmp, xSub, xTup, qName, qGlo, gStr, xConst, cint, cbool, cstr, cnon, qBlt, qOwn, qMeth, evLc, evL0, sl0, slS, oOk, bOk, tbl, if_true, if_false, Bool.false_eq_true, Bool.true_eq_false, Bool.not_true, Bool.not_false, List.append_nil, List.set_cons_succ, List.set_cons_zero, iQ0, iQ1, iQ2, iQ3, iQ4, iQ5, iQ6, iQ7, iss_yes, mIfP, mPart hz (show (Str.length ":" == 0) = false by decide) h1, mPart hw (show (Str.length "#" == 0) = false by decide) h2, qAsg3, trE, if_pos tt2, eT]
theorem rdSubNo {k n : Nat} {v : W} (hv : dm n v = true) (hs : ∀ z, v ≠ .str z) : Ans (k+1) "read_subject" v .non := fun S => ⟨[], by
  rw [callN_eq (fi := fRdSub) (b := L2.defBody (top 11)) (e := [some v, none, none, none, none, none, none, none]) rfl rfl rfl rfl]
  unfold top PySem.Challenge.pw_sharerules_k05_names_by_name
  simp only [List.getD, L2.defBody, List.getElem?_cons_succ, List.getElem?_cons_zero, Option.getD_some]
  simp (disch := decide +kernel) only [evS, yIf, yRet, qSet, qTup, xIf, xNot, xCmp, xSub, xTup, qName, qGlo, gStr, xConst, cint, cbool, cstr, cnon, qBlt, qOwn, qMeth, evLc, evL0, sl0, slS, oOk, bOk, tbl, if_true, if_false, Bool.false_eq_true, Bool.true_eq_false, Bool.not_true, Bool.not_false, List.append_nil, List.set_cons_succ, List.set_cons_zero, iQ0, iQ1, iQ2, iQ3, iQ4, iQ5, iQ6, iQ7, iss_no hv hs]⟩
theorem rdRowNo {k n : Nat} {v : W} (hv : dm n v = true) (hs : ∀ z, v ≠ .str z) : Ans (k+1) "read_row" v .non := fun S => ⟨[], by
  rw [callN_eq (fi := fRdRow) (b := L2.defBody (top 12)) (e := [some v, none, none]) rfl rfl rfl rfl]
  unfold top PySem.Challenge.pw_sharerules_k05_names_by_name
  simp only [List.getD, L2.defBody, List.getElem?_cons_succ, List.getElem?_cons_zero, Option.getD_some]
  simp (disch := decide +kernel) only [evS, yIf, yRet, qSet, qTup, xIf, xNot, xCmp, xSub, xTup, qName, qGlo, gStr, xConst, cint, cbool, cstr, cnon, qBlt, qOwn, qMeth, evLc, evL0, sl0, slS, oOk, bOk, tbl, if_true, if_false, Bool.false_eq_true, Bool.true_eq_false, Bool.not_true, Bool.not_false, List.append_nil, List.set_cons_succ, List.set_cons_zero, iP0, iP1, iP2, iss_no hv hs]⟩
theorem rdRow1 {k : Nat} {z : Str} {l : List Str} (hz : z.length ≤ 1000) (hl : Txt.split z " " = l) (h3 : ¬ ((l.map W.str).length : Int) = 3) : Ans (k+1) "read_row" (.str z) .non := fun S => ⟨[.lst (l.map W.str)], by
  rw [callN_eq (fi := fRdRow) (b := L2.defBody (top 12)) (e := [some (.str z), none, none]) rfl rfl rfl rfl]
  unfold top PySem.Challenge.pw_sharerules_k05_names_by_name
  simp only [List.getD, L2.defBody, List.getElem?_cons_succ, List.getElem?_cons_zero, Option.getD_some]
  subst hl
  simp (disch := decide +kernel) only [evS, yIf, yRet, qSet, qTup, xIf, xNot, xCmp, xSub, xTup, qName, qGlo, gStr, xConst, cint, cbool, cstr, cnon, qBlt, qOwn, qMeth, evLc, evL0, sl0, slS, oOk, bOk, tbl, if_true, if_false, Bool.false_eq_true, Bool.true_eq_false, Bool.not_true, Bool.not_false, List.append_nil, List.set_cons_succ, List.set_cons_zero, iP0, iP1, iP2, iss_yes, mIfS, mSplit hz (show (Str.length " " == 0) = false by decide), lenRef getNew, cne, decide_eq_false h3]⟩
theorem getM {S T : So} {o : O} : (S ++ [o] ++ T)[S.length]? = some o := by
  rw [List.getElem?_append_left (by simp)]
  exact getNew
abbrev wds : O := .lst [.str "doc:a", .str "viewer", .str "user:b"]
theorem sp3 : (Txt.split "doc:a viewer user:b" " ").map W.str = [.str "doc:a", .str "viewer", .str "user:b"] := by kernel_rfl
theorem w3 : (([.str "doc:a", .str "viewer", .str "user:b"] : List W).length : Int) = 3 := rfl
theorem rdRow3 {k : Nat} : ∃ r, Ans (k+6) "read_row" (.str "doc:a viewer user:b") r ∧ (r = .non ∨ ∃ r0 r2, (r0 = .non ∨ r0 = .tup [.str "doc", .str "a"]) ∧ (r2 = .non ∨ r2 = .tup [.str "user", .str "b"]) ∧ r = .tup [r0, .str "viewer", r2]) := by
  obtain ⟨r0, h0, c0⟩ := rdSub (k := k) (z := "doc:a") (x := "doc") (y := ":") (w := "a") (a := "a") (c := "") (by decide) (by kernel_rfl) (by decide) (by kernel_rfl) (by decide) (by decide)
  obtain ⟨r2, h2, c2⟩ := rdSub (k := k) (z := "user:b") (x := "user") (y := ":") (w := "b") (a := "b") (c := "") (by decide) (by kernel_rfl) (by decide) (by kernel_rfl) (by decide) (by decide)
  obtain ⟨b, hA⟩ := isRow (k := k) (n := 2) (v := .tup [r0, .str "viewer", r2]) (by
    rcases c0 with rfl | rfl <;> rcases c2 with rfl | rfl <;> decide +kernel)
  refine ⟨if b then .tup [r0, .str "viewer", r2] else .non, fun S => ?_, ?_⟩
  · obtain ⟨T0, e0⟩ := h0 (S ++ [wds])
    obtain ⟨T2, e2⟩ := h2 (S ++ [wds] ++ T0)
    obtain ⟨T3, e3⟩ := hA (S ++ [wds] ++ T0 ++ T2)
    have i0 : item (.ref S.length) (.int 0) (S ++ [wds]) = some (.str "doc:a") := by rw [itRef getNew]; exact atI_ok (by decide) rfl
    have i1 : item (.ref S.length) (.int 1) (S ++ [wds] ++ T0) = some (.str "viewer") := by rw [itRef getM]; exact atI_ok (by decide) rfl
    have i2 : item (.ref S.length) (.int 2) (S ++ [wds] ++ T0) = some (.str "user:b") := by rw [itRef getM]; exact atI_ok (by decide) rfl
    refine ⟨[wds] ++ T0 ++ T2 ++ T3, ?_⟩
    rw [show S ++ ([wds] ++ T0 ++ T2 ++ T3) = S ++ [wds] ++ T0 ++ T2 ++ T3 by simp only [List.append_assoc]]
    rw [callN_eq (fi := fRdRow) (b := L2.defBody (top 12)) (e := [some (.str "doc:a viewer user:b"), none, none]) rfl rfl rfl rfl]
    unfold top PySem.Challenge.pw_sharerules_k05_names_by_name
    simp only [List.getD, L2.defBody, List.getElem?_cons_succ, List.getElem?_cons_zero, Option.getD_some]
    cases b with
    | true => simp (disch := decide +kernel) only [evS, yIf, yRet, qSet, qTup, xIf, xNot, xCmp, xSub, xTup, qName, qGlo, gStr, xConst, cint, cbool, cstr, cnon, qBlt, qOwn, qMeth, evLc, evL0, sl0, slS, oOk, bOk, tbl, if_true, if_false, Bool.false_eq_true, Bool.true_eq_false, Bool.not_true, Bool.not_false, List.append_nil, List.set_cons_succ, List.set_cons_zero, iP0, iP1, iP2, iss_yes, mIfS, mSplit (show Str.length "doc:a viewer user:b" ≤ 1000 by decide) (show (Str.length " " == 0) = false by decide), sp3, lenRef getNew, cne, w3, decide_true, i0, i1, i2, e0, e2, e3, if_pos tt3]
    | false => simp (disch := decide +kernel) only [evS, yIf, yRet, qSet, qTup, xIf, xNot, xCmp, xSub, xTup, qName, qGlo, gStr, xConst, cint, cbool, cstr, cnon, qBlt, qOwn, qMeth, evLc, evL0, sl0, slS, oOk, bOk, tbl, if_true, if_false, Bool.false_eq_true, Bool.true_eq_false, Bool.not_true, Bool.not_false, List.append_nil, List.set_cons_succ, List.set_cons_zero, iP0, iP1, iP2, iss_yes, mIfS, mSplit (show Str.length "doc:a viewer user:b" ≤ 1000 by decide) (show (Str.length " " == 0) = false by decide), sp3, lenRef getNew, cne, w3, decide_true, i0, i1, i2, e0, e2, e3, if_pos tt3]
  · cases b with
    | false => exact .inl rfl
    | true => exact .inr ⟨r0, r2, c0, c2, rfl⟩
end Z5

namespace Z5
open PySem Z L2
section
variable {P : Pg} {call : Cf} {d : Nat} {sx : Sx} {e : En} {S : So}
def okKw (P : Pg) (f a : Str) : Bool := match P.F f with
  | some fi => decide (fi.ps = [a]) && decide ((0, [a]) ∈ fi.kws)
  | none => false
theorem qKw {f a : Str} {x : Expr} {p p' kp : Pos} (h : (okN f && isGl (sx.sc.names.lookup f) && okKw P f a) = true) : evalE P call (d + 1) sx e (.Call (.Name f p) [] [⟨some a, x, kp⟩] p') S = (evalE P call d sx e x S).bind fun w S1 => call f [w] S1 := by
  simp only [Bool.and_eq_true] at h
  have h3 := h.2
  unfold okKw at h3
  show (if (okN f = true ∧ plainA [] [⟨some a, x, kp⟩] = true) ∧ sx.sc.names.lookup f = some .globalImplicit then _ else _) = _
  rw [if_pos ⟨⟨h.1.1, rfl⟩, isGl_ok h.1.2⟩]
  split at h3
  · rename_i fi hf
    rw [Bool.and_eq_true] at h3
    have hp := of_decide_eq_true h3.1
    have hk := of_decide_eq_true h3.2
    (try rw [hf])
    show ((Res.ok [] S).bind fun us S1 => ((evalE P call d sx e x S1).bind fun w S1 => ((Res.ok [] S1).bind fun ws S2 => .ok (w :: ws) S2)).bind fun ws S2 => match argsOf fi us [some a] ws with | some vs => call f vs S2 | none => .bad) = _
    simp only [bOk, Res.assoc]
    congr 1
    funext w S1
    have ea : argsOf fi [] [some a] [w] = some [w] := by
      unfold argsOf
      rw [if_neg (by simp)]
      have h2 : ([some a] : List (Option Str)).filterMap id = [a] := rfl
      rw [h2, if_pos ⟨hk, rfl⟩, hp]
      show some (ordK [a] [a] [] [w]) = _
      have : ordK [a] [a] ([] : List W) [w] = [w] := by
        show ([] : List W) ++ ([a].drop 0).filterMap (fun p => ([a].zip [w]).lookup p) = [w]
        simp
      rw [this]
    rw [ea]
  · cases h3
theorem wkRef {D : Nat} {xs : List W} (h : S[D]? = some (.lst xs)) : walkV (.ref D) S = .ok (.live D xs.length) S := by
  unfold walkV; simp only [h]
theorem turns_live {α : Type} {D m : Nat} {xs : List W} {f : W → α → So → Res (α × Bool)} {Inv : Nat → α → So → Prop} (hst : ∀ j a S, Inv j a S → S[D]? = some (.lst xs)) (step : ∀ j a S w, xs[j]? = some w → Inv j a S → Yes (f w a S) fun r S' => r.2 = true ∧ Inv (j + 1) r.1 S') : ∀ (n j : Nat) (a : α) (S : So), j + n = xs.length → Inv j a S → Yes (turns (.live D m) f n j a S) (Inv xs.length)
  | 0, j, a, S, h, q => by
    have e : xs[j]? = none := by rw [List.getElem?_eq_none_iff]; omega
    have hj : j = xs.length := by omega
    unfold turns Wk.at
    simp only [hst _ _ _ q, e]
    exact yes_ok (by rw [← hj]; exact q)
  | n + 1, j, a, S, h, q => by
    have hj : j < xs.length := by omega
    have e : xs[j]? = some xs[j] := List.getElem?_eq_getElem hj
    unfold turns Wk.at
    simp only [hst _ _ _ q, e]
    refine yes_bind (step j a S _ e q) fun r S' ⟨h1, h2⟩ => ?_
    rw [h1]
    exact turns_live hst step n (j + 1) r.1 S' (by omega) h2
theorem yes_turnsL {α β : Type} {D : Nat} {xs : List W} {f : W → α → So → Res (α × Bool)} {a : α} {g : α → So → Res β} {Q : β → So → Prop} (Inv : Nat → α → So → Prop) (h0 : Inv 0 a S) (hst : ∀ j a S, Inv j a S → S[D]? = some (.lst xs)) (step : ∀ j a S w, xs[j]? = some w → Inv j a S → Yes (f w a S) fun r S' => r.2 = true ∧ Inv (j + 1) r.1 S') (k : ∀ a S, Inv xs.length a S → Yes (g a S) Q) :
    Yes ((noX (turns (.live D xs.length) f (Wk.live D xs.length).len 0 a S)).bind g) Q := by
  obtain ⟨b, S', e, q⟩ := turns_live (m := xs.length) hst step xs.length 0 a S (by omega) h0
  show Yes ((noX (turns (.live D xs.length) f xs.length 0 a S)).bind g) Q
  rw [e]
  exact k b S' q
theorem lcTurn_no {f : En → Expr → So → Res W} {e2 : En} {tg elt c : Expr} {D : Nat} {w : W} {R : So → Prop} (h : asg sx e tg w = some e2) (hf : Yes (f e2 c S) fun y S' => truth y S' = some false ∧ R S') : Yes (lcTurn f sx e tg [c] elt D w () S) fun r S' => r.2 = true ∧ R S' := by
  unfold lcTurn
  simp only [h, ifsE]
  rw [Res.assoc]
  refine yes_bind hf fun y S' ⟨h1, h2⟩ => ?_
  rw [h1]
  simp only [oOk, bOk, Bool.false_eq_true, if_false]
  exact yes_ok ⟨rfl, h2⟩
theorem addL {D D2 : Nat} {a b : List W} (h1 : S[D]? = some (.lst a)) (h2 : S[D2]? = some (.lst b)) (hl : a.length + b.length ≤ sizeLine) : binop .Add (.ref D) (.ref D2) S = .ok (.ref S.length) (S ++ [.lst (a ++ b)]) := by
  unfold binop
  simp only [h1, h2, if_pos hl, new]
theorem neE {D D2 : Nat} (h1 : S[D]? = some (.lst [])) (h2 : S[D2]? = some (.lst [])) : cmp .NotEq (.ref D) (.ref D2) S = some false := by
  have a1 : toD S (.ref D) = some (.list []) := by
    show dR S 12 D = _
    unfold dR; rw [h1]; rfl
  have a2 : toD S (.ref D2) = some (.list []) := by
    show dR S 12 D2 = _
    unfold dR; rw [h2]; rfl
  have e : cmp .NotEq (.ref D) (.ref D2) S = (match toD S (.ref D), toD S (.ref D2) with
    | some d, some e => if SeqAt.shaped d && SeqAt.shaped e then some (PyData.eqv d e) else none
    | _, _ => none).map (!·) := rfl
  rw [e, a1, a2]
  decide +kernel
end
/-- all that stood stands -/
def Sub (S S' : So) : Prop := ∀ (D : Nat) (x : O), S[D]? = some x → S'[D]? = some x
theorem Sub.trans {S S1 S2 : So} (a : Sub S S1) (b : Sub S1 S2) : Sub S S2 := fun D x h => b D x (a D x h)
theorem ansY {k : Nat} {f : Str} {v r : W} {S : So} (h : Ans k f v r) : Yes (callN P k f [v] S) fun a S' => a = r ∧ Sub S S' := by
  obtain ⟨T, e⟩ := h S
  exact ⟨r, S ++ T, e, rfl, fun D x q => by rw [List.getElem?_append_left (List.getElem?_eq_some_iff.mp q).1]; exact q⟩
/-- written the same at each look -/
def Rp (r : W) : Prop := ∃ t, ∀ S, Z.builtin "repr" [r] S = .ok (.str t) S
theorem rp_bl (b : Bool) : Rp (.bl b) := by
  cases b
  · exact ⟨"False", fun S => by kernel_rfl⟩
  · exact ⟨"True", fun S => by kernel_rfl⟩
theorem rp_of {r : W} {t : Str} (h : ∀ S, Z.builtin "repr" [r] S = .ok (.str t) S) : Rp r := ⟨t, h⟩
theorem rp_non : Rp .non := rp_of (t := "None") fun S => by kernel_rfl
theorem rp_da : Rp (.tup [.str "doc", .str "a"]) := rp_of (t := "('doc', 'a')") fun S => by kernel_rfl
theorem rp_dp : Rp (.tup [.str "doc", .str "plan"]) := rp_of (t := "('doc', 'plan')") fun S => by kernel_rfl
theorem rp_d : Rp (.tup [.str "doc"]) := rp_of (t := "('doc',)") fun S => by kernel_rfl
theorem rp_tm : Rp (.tup [.str "team", .str "member"]) := rp_of (t := "('team', 'member')") fun S => by kernel_rfl
theorem rp_tr : Rp (.tup [.str "team", .str "red"]) := rp_of (t := "('team', 'red')") fun S => by kernel_rfl
theorem rp_s1 : Rp (.str "doc:plan") := rp_of (t := "'doc:plan'") fun S => by kernel_rfl
theorem rp_s2 : Rp (.str "team:red#member") := rp_of (t := "'team:red#member'") fun S => by kernel_rfl
theorem rp_s3 : Rp (.str "doc:map viewer doc:plan") := rp_of (t := "'doc:map viewer doc:plan'") fun S => by kernel_rfl
theorem rp_s4 : Rp (.str "doc:map viewer team:red#member") := rp_of (t := "'doc:map viewer team:red#member'") fun S => by kernel_rfl
theorem rp_r {r0 r2 : W} (h0 : r0 = .non ∨ r0 = .tup [.str "doc", .str "a"]) (h2 : r2 = .non ∨ r2 = .tup [.str "user", .str "b"]) : Rp (.tup [r0, .str "viewer", r2]) := by
  rcases h0 with rfl | rfl <;> rcases h2 with rfl | rfl
  · exact rp_of (t := "(None, 'viewer', None)") fun S => by kernel_rfl
  · exact rp_of (t := "(None, 'viewer', ('user', 'b'))") fun S => by kernel_rfl
  · exact rp_of (t := "(('doc', 'a'), 'viewer', None)") fun S => by kernel_rfl
  · exact rp_of (t := "(('doc', 'a'), 'viewer', ('user', 'b'))") fun S => by kernel_rfl
/-- f answers at v, the same at each look -/
def Gd1 (f : Str) (v : W) : Prop := ∃ r, Ans 7 f v r ∧ Rp r
def things (o : W) : List W := [o, ln o, .str "doc", .str "or", .non, .int 5, .str "doc:plan", .str "doc:a viewer user:b", .str ""]
theorem dm_things {o v : W} (ho : o = o2 ∨ o = o3) (h : v ∈ things o) : dm 3 v = true := by
  have : (things o).all (dm 3) = true := by
    rcases ho with rfl | rfl <;> decide +kernel
  exact List.all_eq_true.mp this v h
theorem g_is {o v : W} (ho : o = o2 ∨ o = o3) (h : v ∈ things o) : Gd1 "is_name" v ∧ Gd1 "is_relation" v ∧ Gd1 "is_object" v ∧ Gd1 "is_group" v ∧ Gd1 "is_subject" v ∧ Gd1 "is_row" v := by
  have hd := dm_things ho h
  obtain ⟨b1, h1, _⟩ := isName (k := 6) hd
  obtain ⟨b2, h2⟩ := isRel (k := 5) hd
  obtain ⟨b3, h3⟩ := isObj (k := 5) hd
  obtain ⟨b4, h4⟩ := isGrp (k := 4) hd
  obtain ⟨b5, h5⟩ := isSub (k := 3) hd
  obtain ⟨b6, h6⟩ := isRow (k := 2) hd
  exact ⟨⟨_, h1, rp_bl _⟩, ⟨_, h2, rp_bl _⟩, ⟨_, h3, rp_bl _⟩, ⟨_, h4, rp_bl _⟩, ⟨_, h5, rp_bl _⟩, ⟨_, h6, rp_bl _⟩⟩
theorem g_rd {o v : W} (ho : o = o2 ∨ o = o3) (h : v ∈ things o) : Gd1 "read_subject" v ∧ Gd1 "read_row" v := by
  have hd := dm_things ho h
  have no : (∀ z, v ≠ .str z) → Gd1 "read_subject" v ∧ Gd1 "read_row" v := fun hn => ⟨⟨_, rdSubNo (k := 6) hd hn, rp_non⟩, ⟨_, rdRowNo (k := 6) hd hn, rp_non⟩⟩
  have st : ∀ {z x y w a c : Str} {l : List Str}, v = .str z → z.length ≤ 1000 → Txt.partition z ":" = (x, y, w) → w.length ≤ 1000 → Txt.partition w "#" = (a, ("" : Str), c) → x.length ≤ 1000 → a.length ≤ 1000 → Rp (.tup [.str x, .str a]) → Gd1 "read_subject" v := fun {z x y w a c l} e h1 h2 h3 h4 h5 h6 hr => by
    subst e
    obtain ⟨r, hA, hc⟩ := rdSub (k := 2) h1 h2 h3 h4 h5 h6
    refine ⟨r, hA, ?_⟩
    rcases hc with rfl | rfl
    · exact rp_non
    · exact hr
  unfold things at h
  simp only [List.mem_cons, List.not_mem_nil, or_false] at h
  rcases h with rfl | rfl | rfl | rfl | rfl | rfl | rfl | rfl | rfl
  · exact no fun z q => by rcases ho with rfl | rfl <;> cases q
  · exact no fun z q => by cases q
  · exact ⟨st (x := "doc") (y := "") (w := "") (a := "") (c := "") (l := []) rfl (by decide) (by kernel_rfl) (by decide) (by kernel_rfl) (by decide) (by decide) (rp_of (t := "('doc', '')") fun S => by kernel_rfl), _, rdRow1 (k := 6) (l := ["doc"]) (by decide) (by kernel_rfl) (by decide), rp_non⟩
  · exact ⟨st (x := "or") (y := "") (w := "") (a := "") (c := "") (l := []) rfl (by decide) (by kernel_rfl) (by decide) (by kernel_rfl) (by decide) (by decide) (rp_of (t := "('or', '')") fun S => by kernel_rfl), _, rdRow1 (k := 6) (l := ["or"]) (by decide) (by kernel_rfl) (by decide), rp_non⟩
  · exact no fun z q => by cases q
  · exact no fun z q => by cases q
  · exact ⟨st (x := "doc") (y := ":") (w := "plan") (a := "plan") (c := "") (l := []) rfl (by decide) (by kernel_rfl) (by decide) (by kernel_rfl) (by decide) (by decide) rp_dp, _, rdRow1 (k := 6) (l := ["doc:plan"]) (by decide) (by kernel_rfl) (by decide), rp_non⟩
  · refine ⟨st (x := "doc") (y := ":") (w := "a viewer user:b") (a := "a viewer user:b") (c := "") (l := []) rfl (by decide) (by kernel_rfl) (by decide) (by kernel_rfl) (by decide) (by decide) (rp_of (t := "('doc', 'a viewer user:b')") fun S => by kernel_rfl), ?_⟩
    obtain ⟨r, hA, hc⟩ := rdRow3 (k := 1)
    refine ⟨r, hA, ?_⟩
    rcases hc with rfl | ⟨r0, r2, q0, q2, rfl⟩
    · exact rp_non
    · exact rp_r q0 q2
  · exact ⟨st (x := "") (y := "") (w := "") (a := "") (c := "") (l := []) rfl (by decide) (by kernel_rfl) (by decide) (by kernel_rfl) (by decide) (by decide) (rp_of (t := "('', '')") fun S => by kernel_rfl), _, rdRow1 (k := 6) (l := [""]) (by decide) (by kernel_rfl) (by decide), rp_non⟩
theorem an {k : Nat} {f : Str} {v r : W} (h : ∀ S, callN P k f [v] S = .ok r S) : Ans k f v r := fun S => ⟨[], by rw [List.append_nil]; exact h S⟩
theorem g_one {o : W} (ho : o = o2 ∨ o = o3) : Gd1 "subject_text" o ∧ Gd1 "row_text" (ln o) ∧ Gd1 "shape" o ∧ Gd1 "target" o := by
  rcases ho with rfl | rfl
  · exact ⟨⟨_, an fun S => st2 (k := 6), rp_s1⟩, ⟨_, an fun S => rt2 (k := 5), rp_s3⟩, ⟨_, an fun S => sh2 (k := 6), rp_d⟩, ⟨_, an fun S => tg2 (k := 6), rp_dp⟩⟩
  · exact ⟨⟨_, an fun S => st3 (k := 6), rp_s2⟩, ⟨_, an fun S => rt3 (k := 5), rp_s4⟩, ⟨_, an fun S => sh3 (k := 6), rp_tm⟩, ⟨_, an fun S => tg3 (k := 6), rp_tr⟩⟩
end Z5

namespace Z5
open PySem Z L2
theorem iA0 : (idx (Z.sxOf fLaw).N ("script" : Str)).getD 0 = 0 := by decide +kernel
theorem iA1 : (idx (Z.sxOf fLaw).N ("start" : Str)).getD 0 = 1 := by decide +kernel
theorem iA2 : (idx (Z.sxOf fLaw).N ("well" : Str)).getD 0 = 2 := by decide +kernel
theorem iA3 : (idx (Z.sxOf fLaw).N ("turn" : Str)).getD 0 = 3 := by decide +kernel
theorem iA4 : (idx (Z.sxOf fLaw).N ("one" : Str)).getD 0 = 4 := by decide +kernel
theorem iA5 : (idx (Z.sxOf fLaw).N ("line" : Str)).getD 0 = 5 := by decide +kernel
theorem iA6 : (idx (Z.sxOf fLaw).N ("thing" : Str)).getD 0 = 6 := by decide +kernel
theorem iA7 : (idx (Z.sxOf fLaw).N ("pairs" : Str)).getD 0 = 7 := by decide +kernel
theorem iA8 : (idx (Z.sxOf fLaw).N ("pair" : Str)).getD 0 = 8 := by decide +kernel
theorem bMin {i j : Int} {S : So} : Z.builtin "min" [.int i, .int j] S = .ok (.int (if j < i then j else i)) S := rfl
theorem bMax {i j : Int} {S : So} : Z.builtin "max" [.int i, .int j] S = .ok (.int (if j > i then j else i)) S := rfl
theorem r5 {S : So} : rgV (.int 5) S = .ok (.seq (rangeW 0 5)) S := rgV_ok (by decide +kernel)
theorem nwD {o : O} {S : So} : new o S = .ok (.ref S.length) (S ++ [o]) := rfl
theorem tt9 {a b c d e f g h i : W} : [a, b, c, d, e, f, g, h, i].length ≤ sizeLine := (show 9 ≤ sizeLine by decide +kernel)
theorem tt0 : ([] : List W).length ≤ sizeLine := (show 0 ≤ sizeLine by decide +kernel)
theorem neS {x : Str} {S : So} : cmp .NotEq (.str x) (.str x) S = some false := by
  show (eqX (.str x) (.str x) S).map (!·) = _
  have e : eqX (.str x) (.str x) S = some (decide (x = x)) := rfl
  rw [e, decide_eq_true rfl]; rfl
theorem addY {D D2 : Nat} {a b : List W} {S : So} (h1 : S[D]? = some (.lst a)) (h2 : S[D2]? = some (.lst b)) (hl : a.length + b.length ≤ sizeLine) : Yes (binop .Add (.ref D) (.ref D2) S) fun w S' => ∃ E, w = .ref E ∧ S'[E]? = some (.lst (a ++ b)) ∧ Sub S S' :=
  ⟨_, _, addL h1 h2 hl, _, rfl, getNew, fun D x q => getApp q⟩
def PAll (l : List W) : Prop := ∀ w ∈ l, ∃ r, w = .tup [r, r] ∧ Rp r
theorem PAll.app {a b : List W} (h : PAll a) (q : PAll b) : PAll (a ++ b) := fun w hw => (List.mem_append.mp hw).elim (h w) (q w)
theorem PAll.two {r s : W} (h : Rp r) (q : Rp s) : PAll [.tup [r, r], .tup [s, s]] := fun w hw => by
  simp only [List.mem_cons, List.not_mem_nil, or_false] at hw
  rcases hw with rfl | rfl
  · exact ⟨_, rfl, h⟩
  · exact ⟨_, rfl, q⟩
theorem yes_evS {f : Stmt → En → So → Res (En × Fl)} {x : Stmt} {xs : List Stmt} {e : En} {S : So} {R : En → So → Prop} {Q : En × Fl → So → Prop} (h : Yes (f x e S) fun r S1 => r.2 = .nx ∧ R r.1 S1) (k : ∀ e1 S1, R e1 S1 → Yes (evS f xs e1 S1) Q) : Yes (evS f (x :: xs) e S) Q := by
  unfold evS
  refine yes_bind h fun r S1 ⟨h1, h2⟩ => ?_
  rw [h1]
  exact k _ _ h2
theorem yes_ev0 {f : Stmt → En → So → Res (En × Fl)} {e : En} {S : So} {Q : En × Fl → So → Prop} (h : Q (e, .nx) S) : Yes (evS f [] e S) Q := yes_ok h
theorem ans (ns : List Int) (hl : ns.length ≤ 63) (hb : ∀ z ∈ ns, Builtin.Int.intBits z ≤ 1048576) : ∃ S, callN P 8 "law" [.fl (ns.map W.int)] [] = .ok (.bl true) S := by
  suffices h : Yes (callN P 8 "law" [.fl (ns.map W.int)] []) fun r _ => r = .bl true by
    obtain ⟨r, S, e, rfl⟩ := h
    exact ⟨S, e⟩
  rw [callN_eq (fi := fLaw) (b := L2.defBody (top 19)) (e := [some (.fl (ns.map W.int)), none, none, none, none, none, none, none, none]) rfl rfl rfl rfl]
  unfold top PySem.Challenge.pw_sharerules_k05_names_by_name
  simp only [List.getD, L2.defBody, List.getElem?_cons_succ, List.getElem?_cons_zero, Option.getD_some]
  refine yes_bind (R := fun r _ => r.2 = .ret (.bl true)) ?_ (fun r S h => by rw [h]; exact yes_ok rfl)
  refine yes_evS (R := fun _ _ => True) ?_ (fun e1 S1 _ => ?_)
  rotate_left
  · simp only [evS, yRet, xConst, cbool, bOk]
    exact yes_ok rfl
  simp (disch := decide +kernel) only [yFor, qRange, xConst, cint, cbool, qName, qBlt, iA0, evLc, evL0, sl0, oOk, bOk, lenFl, bMin, bMax, Res.assoc]
  generalize hj : (if (if ((List.map W.int ns).length : Int) < 4 then ((List.map W.int ns).length : Int) else 4) > 1 then (if ((List.map W.int ns).length : Int) < 4 then ((List.map W.int ns).length : Int) else 4) else 1) = J
  have hJ : 1 ≤ J ∧ J ≤ 4 := by
    rw [← hj]
    split <;> (try split) <;> omega
  rw [rgV_ok (by omega)]
  simp only [bOk]
  refine yes_imp (turns_seq (Inv := fun j r S' => r.2 = .nx ∧ ∃ a1 a2 a3 a4 a5 a6 a7 a8 : Option W, r.1 = [some (.fl (ns.map W.int)), a1, a2, a3, a4, a5, a6, a7, a8]) ?_ _ 0 _ _ (by simp [Wk.len]) ?_) (fun r S h => ⟨h.1, trivial⟩)
  rotate_left
  · exact ⟨rfl, _, _, _, _, _, _, _, _, rfl⟩
  rintro j ⟨e, fl⟩ S' w hw ⟨hfl, a1, a2, a3, a4, a5, a6, a7, a8, he⟩
  dsimp only at hfl he
  subst hfl he
  obtain ⟨rfl, hj⟩ := rg_at hw
  refine yes_imp (forTurn_yes (R := fun e _ => ∃ a1 a2 a3 a4 a5 a6 a7 a8 : Option W, e = [some (.fl (ns.map W.int)), a1, a2, a3, a4, a5, a6, a7, a8]) (qAsg (by decide +kernel)) ?_) (by
    rintro ⟨⟨e, fl⟩, b⟩ S'' ⟨h1, h2, h3⟩
    exact ⟨h1, h2, h3⟩)
  simp only [iA1, List.set_cons_succ, List.set_cons_zero]
  refine yes_evS (R := fun e S => e = [some (.fl (ns.map W.int)), some (.int (0 + (j : Int))), some (.ref S'.length), a3, a4, a5, a6, a7, a8] ∧ ∃ d m, S[S'.length]? = some (Wl d m) ∧ Ok m) ?_ ?_
  · simp (disch := decide +kernel) only [qSet, qOwn, qKw, xTup, xLst, xBin, qName, xConst, cstr, cint, cnon, iA0, iA1, iA2, iA3, iA4, iA5, iA6, iA7, iA8, evLc, evL0, sl0, slS, oOk, bOk, nwD, if_pos tt2, if_pos tt3, if_pos tt9, List.set_cons_succ, List.set_cons_zero, Res.assoc]
    refine yes_bind (well (k := 6) hb (by omega) (by omega)) ?_
    rintro _ _ ⟨d, m, rfl, rfl, hm⟩
    exact yes_ok ⟨rfl, rfl, d, m, getNew, hm⟩
  generalize S'.length = i
  rintro _ S2 ⟨rfl, d, m, hS2, hm⟩
  refine yes_evS (R := fun e _ => ∃ a1 a2 a3 a4 a5 a6 a7 a8 : Option W, e = [some (.fl (ns.map W.int)), a1, a2, a3, a4, a5, a6, a7, a8]) ?_ (fun e1 S1 h => yes_ev0 ⟨rfl, h⟩)
  simp (disch := decide +kernel) only [yFor, qRange, xConst, cint, bOk, r5, Res.assoc]
  refine yes_imp (turns_seq (Inv := fun j r S => r.2 = .nx ∧ (∃ a1 a3 a4 a5 a6 a7 a8 : Option W, r.1 = [some (.fl (ns.map W.int)), a1, some (.ref i), a3, a4, a5, a6, a7, a8]) ∧ ∃ d m, S[i]? = some (Wl d m) ∧ Ok m) ?_ _ 0 _ _ (by simp [Wk.len]) ?_) (fun r S h => ⟨h.1, by obtain ⟨_, ⟨a1, a3, a4, a5, a6, a7, a8, h⟩, _⟩ := h; exact ⟨_, _, _, _, _, _, _, _, h⟩⟩)
  rotate_left
  · exact ⟨rfl, ⟨_, _, _, _, _, _, _, rfl⟩, d, m, hS2, hm⟩
  rintro j2 ⟨e, fl⟩ S1 w2 hw2 ⟨hfl, ⟨c1, c3, c4, c5, c6, c7, c8, he⟩, d1, m1, hS1, hm1⟩
  dsimp only at hfl he
  subst hfl he
  refine yes_imp (forTurn_yes (R := fun e S => (∃ a1 a3 a4 a5 a6 a7 a8 : Option W, e = [some (.fl (ns.map W.int)), a1, some (.ref i), a3, a4, a5, a6, a7, a8]) ∧ ∃ d m, S[i]? = some (Wl d m) ∧ Ok m) (qAsg (by decide +kernel)) ?_) (by
    rintro ⟨⟨e, fl⟩, b⟩ S'' ⟨h1, h2, h3⟩
    exact ⟨h1, h2, h3⟩)
  simp only [iA3, List.set_cons_succ, List.set_cons_zero]
  -- one
  refine yes_evS (R := fun e S => ∃ x, (x = o2 ∨ x = o3) ∧ e = [some (.fl (ns.map W.int)), c1, some (.ref i), some w2, some x, c5, c6, c7, c8] ∧ ∃ d m, S[i]? = some (Wl d m) ∧ Ok m) ?_ ?_
  · simp (disch := decide +kernel) only [qSet, qOwn, qKw, xTup, xLst, xBin, qName, xConst, cstr, cint, cnon, iA0, iA1, iA2, iA3, iA4, iA5, iA6, iA7, iA8, evLc, evL0, sl0, slS, oOk, bOk, nwD, if_pos tt2, if_pos tt3, if_pos tt9, List.set_cons_succ, List.set_cons_zero, Res.assoc]
    refine yes_bind (choose (k := 5) (getApp hS1) hm1 getNew (by decide) (by decide)) ?_
    rintro x _ ⟨d2, m2, hx, rfl, hm2⟩
    exact yes_ok ⟨rfl, x, by simpa using hx, rfl, d2, m2, get_set (getApp hS1), hm2⟩
  rintro _ S3 ⟨x, ho, rfl, d2, m2, hS3, hm2⟩
  -- line
  refine yes_evS (R := fun e S => e = [some (.fl (ns.map W.int)), c1, some (.ref i), some w2, some x, some (ln x), c6, c7, c8] ∧ S[i]? = some (Wl d2 m2)) ?_ ?_
  · simp (disch := decide +kernel) only [qSet, qOwn, qKw, xTup, xLst, xBin, qName, xConst, cstr, cint, cnon, iA0, iA1, iA2, iA3, iA4, iA5, iA6, iA7, iA8, evLc, evL0, sl0, slS, oOk, bOk, nwD, if_pos tt2, if_pos tt3, if_pos tt9, List.set_cons_succ, List.set_cons_zero, Res.assoc]
    exact yes_ok ⟨rfl, rfl, hS3⟩
  rintro _ S4 ⟨rfl, hS4⟩
  -- thing
  refine yes_evS (R := fun e S => ∃ v, v ∈ things x ∧ e = [some (.fl (ns.map W.int)), c1, some (.ref i), some w2, some x, some (ln x), some v, c7, c8] ∧ ∃ d m, S[i]? = some (Wl d m) ∧ Ok m) ?_ ?_
  · simp (disch := decide +kernel) only [qSet, qOwn, qKw, xTup, xLst, xBin, qName, xConst, cstr, cint, cnon, iA0, iA1, iA2, iA3, iA4, iA5, iA6, iA7, iA8, evLc, evL0, sl0, slS, oOk, bOk, nwD, if_pos tt2, if_pos tt3, if_pos tt9, List.set_cons_succ, List.set_cons_zero, Res.assoc]
    refine yes_bind (choose (k := 5) (getApp hS4) hm2 getNew (show 0 < 9 by decide) (show 9 < 1000 by decide)) ?_
    rintro v _ ⟨d3, m3, hv, rfl, hm3⟩
    exact yes_ok ⟨rfl, v, hv, rfl, d3, m3, get_set (getApp hS4), hm3⟩
  rintro _ S5 ⟨v, hth, rfl, d3, m3, hS5, hm3⟩
  obtain ⟨⟨r0, h0, p0⟩, ⟨r1, h1, p1⟩, ⟨r2, h2, p2⟩, ⟨r3, h3, p3⟩, ⟨r4, h4, p4⟩, ⟨r5, h5, p5⟩⟩ := g_is ho hth
  obtain ⟨⟨r6, h6, p6⟩, ⟨r7, h7, p7⟩⟩ := g_rd ho hth
  obtain ⟨⟨r8, h8, p8⟩, ⟨r9, h9, p9⟩, ⟨r10, h10, p10⟩, ⟨r11, h11, p11⟩⟩ := g_one ho
  refine yes_evS (R := fun e S => ∃ (D : Nat) (l : List W), e = [some (.fl (ns.map W.int)), c1, some (.ref i), some w2, some x, some (ln x), some v, some (.ref D), c8] ∧ S[D]? = some (.lst l) ∧ PAll l ∧ l.length = 2 ∧ S[i]? = some (Wl d3 m3)) ?_ ?_
  · simp (disch := decide +kernel) only [qSet, qOwn, qKw, xTup, xLst, xBin, qName, xConst, cstr, cint, cnon, iA0, iA1, iA2, iA3, iA4, iA5, iA6, iA7, iA8, evLc, evL0, sl0, slS, oOk, bOk, nwD, if_pos tt2, if_pos tt3, if_pos tt9, List.set_cons_succ, List.set_cons_zero, Res.assoc]
    refine yes_bind (ansY h0) ?_
    rintro _ T0 ⟨rfl, u0⟩
    refine yes_bind (ansY h0) ?_
    rintro _ T1 ⟨rfl, u1⟩
    refine yes_bind (ansY h1) ?_
    rintro _ T2 ⟨rfl, u2⟩
    refine yes_bind (ansY h1) ?_
    rintro _ T3 ⟨rfl, u3⟩
    exact yes_ok ⟨rfl, _, _, rfl, getNew, PAll.two p0 p1, rfl, getApp (u3 _ _ (u2 _ _ (u1 _ _ (u0 _ _ hS5))))⟩
  rintro _ S6 ⟨D, l, rfl, hE, hP, hn, hW⟩
  refine yes_evS (R := fun e S => ∃ (D : Nat) (l : List W), e = [some (.fl (ns.map W.int)), c1, some (.ref i), some w2, some x, some (ln x), some v, some (.ref D), c8] ∧ S[D]? = some (.lst l) ∧ PAll l ∧ l.length = 4 ∧ S[i]? = some (Wl d3 m3)) ?_ ?_
  · simp (disch := decide +kernel) only [qSet, qOwn, qKw, xTup, xLst, xBin, qName, xConst, cstr, cint, cnon, iA0, iA1, iA2, iA3, iA4, iA5, iA6, iA7, iA8, evLc, evL0, sl0, slS, oOk, bOk, nwD, if_pos tt2, if_pos tt3, if_pos tt9, List.set_cons_succ, List.set_cons_zero, Res.assoc]
    refine yes_bind (ansY h2) ?_
    rintro _ T0 ⟨rfl, u0⟩
    refine yes_bind (ansY h2) ?_
    rintro _ T1 ⟨rfl, u1⟩
    refine yes_bind (ansY h3) ?_
    rintro _ T2 ⟨rfl, u2⟩
    refine yes_bind (ansY h3) ?_
    rintro _ T3 ⟨rfl, u3⟩
    refine yes_bind (addY (getApp (u3 _ _ (u2 _ _ (u1 _ _ (u0 _ _ hE))))) getNew (by rw [hn]; exact (show 2 + 2 ≤ sizeLine by decide +kernel))) ?_
    rintro _ C ⟨E, rfl, hE2, v2⟩
    exact yes_ok ⟨rfl, E, _, rfl, hE2, hP.app (PAll.two p2 p3), by rw [List.length_append, hn]; rfl, v2 _ _ (getApp (u3 _ _ (u2 _ _ (u1 _ _ (u0 _ _ hW)))))⟩
  clear hE hP hn hW
  rintro _ S6 ⟨D, l, rfl, hE, hP, hn, hW⟩
  refine yes_evS (R := fun e S => ∃ (D : Nat) (l : List W), e = [some (.fl (ns.map W.int)), c1, some (.ref i), some w2, some x, some (ln x), some v, some (.ref D), c8] ∧ S[D]? = some (.lst l) ∧ PAll l ∧ l.length = 6 ∧ S[i]? = some (Wl d3 m3)) ?_ ?_
  · simp (disch := decide +kernel) only [qSet, qOwn, qKw, xTup, xLst, xBin, qName, xConst, cstr, cint, cnon, iA0, iA1, iA2, iA3, iA4, iA5, iA6, iA7, iA8, evLc, evL0, sl0, slS, oOk, bOk, nwD, if_pos tt2, if_pos tt3, if_pos tt9, List.set_cons_succ, List.set_cons_zero, Res.assoc]
    refine yes_bind (ansY h4) ?_
    rintro _ T0 ⟨rfl, u0⟩
    refine yes_bind (ansY h4) ?_
    rintro _ T1 ⟨rfl, u1⟩
    refine yes_bind (ansY h5) ?_
    rintro _ T2 ⟨rfl, u2⟩
    refine yes_bind (ansY h5) ?_
    rintro _ T3 ⟨rfl, u3⟩
    refine yes_bind (addY (getApp (u3 _ _ (u2 _ _ (u1 _ _ (u0 _ _ hE))))) getNew (by rw [hn]; exact (show 4 + 2 ≤ sizeLine by decide +kernel))) ?_
    rintro _ C ⟨E, rfl, hE2, v2⟩
    exact yes_ok ⟨rfl, E, _, rfl, hE2, hP.app (PAll.two p4 p5), by rw [List.length_append, hn]; rfl, v2 _ _ (getApp (u3 _ _ (u2 _ _ (u1 _ _ (u0 _ _ hW)))))⟩
  clear hE hP hn hW
  rintro _ S6 ⟨D, l, rfl, hE, hP, hn, hW⟩
  refine yes_evS (R := fun e S => ∃ (D : Nat) (l : List W), e = [some (.fl (ns.map W.int)), c1, some (.ref i), some w2, some x, some (ln x), some v, some (.ref D), c8] ∧ S[D]? = some (.lst l) ∧ PAll l ∧ l.length = 8 ∧ S[i]? = some (Wl d3 m3)) ?_ ?_
  · simp (disch := decide +kernel) only [qSet, qOwn, qKw, xTup, xLst, xBin, qName, xConst, cstr, cint, cnon, iA0, iA1, iA2, iA3, iA4, iA5, iA6, iA7, iA8, evLc, evL0, sl0, slS, oOk, bOk, nwD, if_pos tt2, if_pos tt3, if_pos tt9, List.set_cons_succ, List.set_cons_zero, Res.assoc]
    refine yes_bind (ansY h6) ?_
    rintro _ T0 ⟨rfl, u0⟩
    refine yes_bind (ansY h6) ?_
    rintro _ T1 ⟨rfl, u1⟩
    refine yes_bind (ansY h7) ?_
    rintro _ T2 ⟨rfl, u2⟩
    refine yes_bind (ansY h7) ?_
    rintro _ T3 ⟨rfl, u3⟩
    refine yes_bind (addY (getApp (u3 _ _ (u2 _ _ (u1 _ _ (u0 _ _ hE))))) getNew (by rw [hn]; exact (show 6 + 2 ≤ sizeLine by decide +kernel))) ?_
    rintro _ C ⟨E, rfl, hE2, v2⟩
    exact yes_ok ⟨rfl, E, _, rfl, hE2, hP.app (PAll.two p6 p7), by rw [List.length_append, hn]; rfl, v2 _ _ (getApp (u3 _ _ (u2 _ _ (u1 _ _ (u0 _ _ hW)))))⟩
  clear hE hP hn hW
  rintro _ S6 ⟨D, l, rfl, hE, hP, hn, hW⟩
  refine yes_evS (R := fun e S => ∃ (D : Nat) (l : List W), e = [some (.fl (ns.map W.int)), c1, some (.ref i), some w2, some x, some (ln x), some v, some (.ref D), c8] ∧ S[D]? = some (.lst l) ∧ PAll l ∧ l.length = 10 ∧ S[i]? = some (Wl d3 m3)) ?_ ?_
  · simp (disch := decide +kernel) only [qSet, qOwn, qKw, xTup, xLst, xBin, qName, xConst, cstr, cint, cnon, iA0, iA1, iA2, iA3, iA4, iA5, iA6, iA7, iA8, evLc, evL0, sl0, slS, oOk, bOk, nwD, if_pos tt2, if_pos tt3, if_pos tt9, List.set_cons_succ, List.set_cons_zero, Res.assoc]
    refine yes_bind (ansY h8) ?_
    rintro _ T0 ⟨rfl, u0⟩
    refine yes_bind (ansY h8) ?_
    rintro _ T1 ⟨rfl, u1⟩
    refine yes_bind (ansY h9) ?_
    rintro _ T2 ⟨rfl, u2⟩
    refine yes_bind (ansY h9) ?_
    rintro _ T3 ⟨rfl, u3⟩
    refine yes_bind (addY (getApp (u3 _ _ (u2 _ _ (u1 _ _ (u0 _ _ hE))))) getNew (by rw [hn]; exact (show 8 + 2 ≤ sizeLine by decide +kernel))) ?_
    rintro _ C ⟨E, rfl, hE2, v2⟩
    exact yes_ok ⟨rfl, E, _, rfl, hE2, hP.app (PAll.two p8 p9), by rw [List.length_append, hn]; rfl, v2 _ _ (getApp (u3 _ _ (u2 _ _ (u1 _ _ (u0 _ _ hW)))))⟩
  clear hE hP hn hW
  rintro _ S6 ⟨D, l, rfl, hE, hP, hn, hW⟩
  refine yes_evS (R := fun e S => ∃ (D : Nat) (l : List W), e = [some (.fl (ns.map W.int)), c1, some (.ref i), some w2, some x, some (ln x), some v, some (.ref D), c8] ∧ S[D]? = some (.lst l) ∧ PAll l ∧ l.length = 12 ∧ S[i]? = some (Wl d3 m3)) ?_ ?_
  · simp (disch := decide +kernel) only [qSet, qOwn, qKw, xTup, xLst, xBin, qName, xConst, cstr, cint, cnon, iA0, iA1, iA2, iA3, iA4, iA5, iA6, iA7, iA8, evLc, evL0, sl0, slS, oOk, bOk, nwD, if_pos tt2, if_pos tt3, if_pos tt9, List.set_cons_succ, List.set_cons_zero, Res.assoc]
    refine yes_bind (ansY h10) ?_
    rintro _ T0 ⟨rfl, u0⟩
    refine yes_bind (ansY h10) ?_
    rintro _ T1 ⟨rfl, u1⟩
    refine yes_bind (ansY h11) ?_
    rintro _ T2 ⟨rfl, u2⟩
    refine yes_bind (ansY h11) ?_
    rintro _ T3 ⟨rfl, u3⟩
    refine yes_bind (addY (getApp (u3 _ _ (u2 _ _ (u1 _ _ (u0 _ _ hE))))) getNew (by rw [hn]; exact (show 10 + 2 ≤ sizeLine by decide +kernel))) ?_
    rintro _ C ⟨E, rfl, hE2, v2⟩
    exact yes_ok ⟨rfl, E, _, rfl, hE2, hP.app (PAll.two p10 p11), by rw [List.length_append, hn]; rfl, v2 _ _ (getApp (u3 _ _ (u2 _ _ (u1 _ _ (u0 _ _ hW)))))⟩
  clear hE hP hn hW
  rintro _ S6 ⟨D, l, rfl, hE, hP, hn, hW⟩
  refine yes_evS (R := fun e S => (∃ a1 a3 a4 a5 a6 a7 a8 : Option W, e = [some (.fl (ns.map W.int)), a1, some (.ref i), a3, a4, a5, a6, a7, a8]) ∧ ∃ d m, S[i]? = some (Wl d m) ∧ Ok m) ?_ (fun e1 S1 h => yes_ev0 ⟨rfl, h⟩)
  simp (disch := decide +kernel) only [yIf, xCmp, qComp, qWalk, xLst, qName, iA0, iA1, iA2, iA3, iA4, iA5, iA6, iA7, iA8, evL0, sl0, slS, oOk, bOk, wkRef hE, nwD, if_pos tt0, wipeAt 8, List.set_cons_succ, List.set_cons_zero, Res.assoc]
  refine yes_turnsL (fun j _ S' => S' = S6 ++ [.lst []]) rfl (fun j _ S' h => by subst h; exact getApp hE) ?_ ?_
  · rintro jj u S' ww hww rfl
    obtain ⟨r, rfl, t, hr⟩ := hP _ (List.mem_of_getElem? hww)
    refine lcTurn_no (qAsg (by decide +kernel)) ?_
    simp (disch := decide +kernel) only [xCmp, xSub, qBlt, qName, sxB_N, iA8, xConst, cint, evLc, evL0, sl0, slS, List.set_cons_succ, List.set_cons_zero, oOk, bOk, it0, it1, hr, neS]
    exact yes_ok ⟨rfl, rfl⟩
  · rintro u S' rfl
    simp only [neE (getApp getNew) getNew, oOk, bOk, tbl, evS]
    exact yes_ok ⟨rfl, ⟨_, _, _, _, _, _, _, rfl⟩, d3, m3, getApp (getApp hW), hm3⟩
end Z5

open PySem PySem.W PyProof.Rows in
set_option maxRecDepth 100000 in
set_option maxHeartbeats 0 in
theorem PySem.Challenge.cw_sharerules_k05_names_by_name_holds : PySem.Challenge.rw_sharerules_k05_names_by_name.Holds := by
  w_on; o_law; k_head; (case hw => w_witness2)
  k_fill
  refine Z.walkZ (P := Z5.P) (fi := Z5.fLaw) (kd := 8) (n := 63) rfl (by decide) rfl ⟨rfl, by decide, by decide⟩ (by decide +kernel) (fun w h Y => PySem.W.kIn_of Y) (fun w mg h KX G => Z5.tabAt KX G ?D ?B ?Gl) rfl rfl (fun ns h1 h2 => Z5.ans ns h1 h2)
  case D =>
    refine Z5.all16 ?_ ?_ ?_ ?_ ?_ ?_ ?_ ?_ ?_ ?_ ?_ ?_ ?_ ?_ ?_ ?_
    · refine' Z.defAt_mk KX G ?a ?l ?c ?k Z5.scIsName Z5.bIsName; (case a => k_is); (case l => k_is); (case c => k_is); (case k => k_is)
    · refine' Z.defAt_mk KX G ?a ?l ?c ?k Z5.scIsRel Z5.bIsRel; (case a => k_is); (case l => k_is); (case c => k_is); (case k => k_is)
    · refine' Z.defAt_mk KX G ?a ?l ?c ?k Z5.scIsObj Z5.bIsObj; (case a => k_is); (case l => k_is); (case c => k_is); (case k => k_is)
    · refine' Z.defAt_mk KX G ?a ?l ?c ?k Z5.scIsGrp Z5.bIsGrp; (case a => k_is); (case l => k_is); (case c => k_is); (case k => k_is)
    · refine' Z.defAt_mk KX G ?a ?l ?c ?k Z5.scIsSub Z5.bIsSub; (case a => k_is); (case l => k_is); (case c => k_is); (case k => k_is)
    · refine' Z.defAt_mk KX G ?a ?l ?c ?k Z5.scIsRow Z5.bIsRow; (case a => k_is); (case l => k_is); (case c => k_is); (case k => k_is)
    · refine' Z.defAt_mk KX G ?a ?l ?c ?k Z5.scSubTxt Z5.bSubTxt; (case a => k_is); (case l => k_is); (case c => k_is); (case k => k_is)
    · refine' Z.defAt_mk KX G ?a ?l ?c ?k Z5.scRowTxt Z5.bRowTxt; (case a => k_is); (case l => k_is); (case c => k_is); (case k => k_is)
    · refine' Z.defAt_mk KX G ?a ?l ?c ?k Z5.scRdSub Z5.bRdSub; (case a => k_is); (case l => k_is); (case c => k_is); (case k => k_is)
    · refine' Z.defAt_mk KX G ?a ?l ?c ?k Z5.scRdRow Z5.bRdRow; (case a => k_is); (case l => k_is); (case c => k_is); (case k => k_is)
    · refine' Z.defAt_mk KX G ?a ?l ?c ?k Z5.scShape Z5.bShape; (case a => k_is); (case l => k_is); (case c => k_is); (case k => k_is)
    · refine' Z.defAt_mk KX G ?a ?l ?c ?k Z5.scTarget Z5.bTarget; (case a => k_is); (case l => k_is); (case c => k_is); (case k => k_is)
    · refine' Z.defAt_mk KX G ?a ?l ?c ?k Z5.scWell Z5.bWell; (case a => k_is); (case l => k_is); (case c => k_is); (case k => k_is)
    · refine' Z.defAt_mk KX G ?a ?l ?c ?k Z5.scDraw Z5.bDraw; (case a => k_is); (case l => k_is); (case c => k_is); (case k => k_is)
    · refine' Z.defAt_mk KX G ?a ?l ?c ?k Z5.scChoose Z5.bChoose; (case a => k_is); (case l => k_is); (case c => k_is); (case k => k_is)
    · refine' Z.defAt_mk KX G ?a ?l ?c ?k Z5.scLaw Z5.bLaw; (case a => k_is); (case l => k_is); (case c => k_is); (case k => k_is)
  case B =>
    refine Z5.all11 ?_ ?_ ?_ ?_ ?_ ?_ ?_ ?_ ?_ ?_ ?_ <;> k_is
  case Gl =>
    refine' Z5.glo_ok KX G ?g1 ?g2 ?l2 ?c2 ?d2 ?z2 ?v2 ?g3 ?g4
    (case g1 => k_is)
    (case g2 => k_is)
    (case l2 => k_is)
    (case c2 => rfl)
    (case d2 => rfl)
    (case z2 => decide)
    (case v2 => exact .cons ⟨_, rfl⟩ (.cons ⟨_, rfl⟩ (.cons ⟨_, rfl⟩ (.cons ⟨_, rfl⟩ (.cons ⟨_, rfl⟩ (.cons ⟨_, rfl⟩ .nil))))))
    (case g3 => k_is)
    (case g4 => k_is)

