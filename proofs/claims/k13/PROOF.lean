import PyProof.Rows.All
import HandS.ForMost
import HandS.TupAny
import HandS.IsInst
import HandS.More
import HandS.Dict
import HandS.FStr
import HandS.Flow
import PySem.Challenge.RW_flowform_k13_printed_programs
import HandS.Codes
set_option Elab.async false
set_option linter.all false
set_option maxRecDepth 100000
set_option maxHeartbeats 4000000
/-! U1: a small language of programs over plain data, and what its programs yield. -/
namespace U
open PySem

/-- plain data; loc: a list that is shared, by its place in the store; fl: a list that nothing else holds; rol: a list that is only read -/
inductive PV where
  | non | bl (b : Bool) | int (i : Int) | str (s : Str) | tup (xs : List PV) | loc (n : Nat) | fl (xs : List PV) | rol (xs : List PV)
  deriving Inhabited
/-- what stands at a place of the store: a list -/
inductive Cell where
  | lst (xs : List PV)
  deriving Inhabited
abbrev Store := List Cell
abbrev En := List (Option PV)

inductive Res (α : Type) where
  | ok (a : α) (st : Store)
  | bad
def Res.bind {α β : Type} : Res α → (α → Store → Res β) → Res β
  | .ok a st, f => f a st
  | .bad, _ => .bad
def opt {α : Type} (o : Option α) (st : Store) : Res α := match o with
  | some a => .ok a st
  | none => .bad

inductive BOp where | add | sub | mul | fdiv | mod | pow
inductive COp where | eq | ne | lt | le | gt | ge | isN | notN | inn | nin
inductive BF where | len | int | abs | max | min | str | repr | list | tuple | sum | all | any
inductive MF where | append | split | partition | join
inductive Ty where | int | bool | str | tuple | list
inductive MG where
  | nm (i : Nat)
  | tp (is : List Nat)

mutual
inductive ME where
  | var (i : Nat)
  | con (v : PV)
  | glb (x : Str) (v : PV)
  | bin (o : BOp) (a b : ME)
  | neg (a : ME)
  | cmp (o : COp) (a b : ME)
  | cmp2 (o o' : COp) (a b c : ME)
  | not (a : ME)
  | and (a b : ME)
  | or (a b : ME)
  | ite (t a b : ME)
  | fn (f : Nat) (as : MEs)
  | bi (f : BF) (as : MEs)
  | mt (m : MF) (o : ME) (as : MEs)
  | tup (as : MEs)
  | lst (as : MEs)
  | ix (a i : ME)
  | sl (a lo hi : ME)
  | lc (elt : ME) (g : MG) (src : ME) (has : Bool) (c : ME)
  | rng (a b : ME)
  | isi (t : Ty) (a : ME)
  | fmt (a : ME)
  | fstr (as : MEs)
  | dix (x : Str) (kvs : List (Str × PV)) (a : ME)
  | gget (x : Str) (kvs : List (Str × PV)) (a b : ME)
inductive MEs where
  | nil
  | cons (a : ME) (as : MEs)
end
mutual
inductive MS where
  | set (i : Nat) (e : ME) (own : Bool)
  | setT (is : List Nat) (e : ME)
  | par (i j : Nat) (as : MEs)
  | setIx (a i e : ME)
  | aug (i : Nat) (o : BOp) (e : ME)
  | ex (e : ME)
  | app (i : Nat) (e : ME)
  | ext (i : Nat) (e : ME)
  | ret (e : ME)
  | ret0
  | ite (t : ME) (a b : MSs)
  | whl (t : ME) (b : MSs)
  | for_ (g : MG) (src : ME) (b : MSs)
  | brk | cnt | pass
inductive MSs where
  | nil
  | cons (s : MS) (ss : MSs)
end

/-! ### values -/
def PV.isFl : PV → Bool
  | .fl _ => true
  | _ => false
/-- the items of a list or tuple -/
def seqOf (v : PV) (st : Store) : Option (List PV) := match v with
  | .tup xs => some xs
  | .fl xs => some xs
  | .rol xs => some xs
  | .loc n => match st[n]? with
    | some (.lst xs) => some xs
    | none => none
  | _ => none
/-- .. of a list that is read -/
def rdOf (v : PV) (st : Store) : Option (List PV) := match v with
  | .tup _ => none
  | v => seqOf v st
/-- .. of a list -/
def listOf (v : PV) (st : Store) : Option (List PV) := match v with
  | .fl xs => some xs
  | .loc n => match st[n]? with
    | some (.lst xs) => some xs
    | none => none
  | _ => none
def truth (v : PV) (st : Store) : Option Bool := match v with
  | .non => some false
  | .bl b => some b
  | .int i => some (i != 0)
  | .str s => if s.length ≤ sizeLine then some ((s.length : Int) != 0) else none
  | v => (seqOf v st).map fun xs => !xs.isEmpty
def ckM (i j : Int) : Bool := (decide (-(2 ^ 64) < i) && decide (i < 2 ^ 64)) || (decide (-(2 ^ 64) < j) && decide (j < 2 ^ 64))
def binV (o : BOp) (a b : PV) (st : Store) : Option PV := match o, a, b with
  | .add, .int i, .int j => some (.int (i + j))
  | .add, .str x, .str y => if x.length + y.length ≤ sizeLine then some (.str (x ++ y)) else none
  | .add, .tup xs, .tup ys => if xs.length + ys.length ≤ sizeLine then some (.tup (xs ++ ys)) else none
  | .add, a, b => match listOf a st, listOf b st with
    | some xs, some ys => if xs.length + ys.length ≤ sizeLine then some (.fl (xs ++ ys)) else none
    | _, _ => none
  | .sub, .int i, .int j => some (.int (i - j))
  | .mul, .int i, .int j => if ckM i j then some (.int (i * j)) else none
  | .mul, .str x, .int j => if -1000000 ≤ j ∧ j ≤ 1000000 ∧ x.length * j.toNat ≤ 1000000 then some (.str (⟨((List.replicate j.toNat x.cps.toList).flatten).toArray⟩)) else none
  | .fdiv, .int i, .int j => if 0 < j ∧ j < 1073741824 then some (.int (i / j)) else none
  | .mod, .int i, .int j => if 0 < j then some (.int (i % j)) else none
  | .pow, .int i, .int j => if 0 ≤ j ∧ j ≤ 1000000 ∧ i.natAbs < 2 ^ 64 then some (.int (i ^ j.toNat)) else none
  | _, _, _ => none
/-- a flat value -/
def flV : PV → Option L2.V
  | .non => some .non
  | .bl b => some (.bl b)
  | .int i => some (.int i)
  | .str s => some (.str s)
  | _ => none
def flL : List PV → Option (List L2.V)
  | [] => some []
  | x :: r => match flV x, flL r with
    | some v, some vs => some (v :: vs)
    | _, _ => none
/-- == of two scalars -/
def eqS (a b : PV) : Option Bool := match flV a, flV b with
  | some x, some y => if L2.scal x y = true then some (decide (x = y)) else none
  | _, _ => none
/-- a flat thing among flat things -/
def memF (a : PV) (ys : List PV) : Option Bool := match flV a, flL ys with
  | some x, some vs => some (L2.inV x vs)
  | _, _ => none
def inV (a b : PV) (st : Store) : Option Bool := match a, b with
  | .str x, .str z => match x.cps.toList with
    | [c] => some (decide (c ∈ z.cps.toList))
    | _ => none
  | a, b => match seqOf b st with
    | some ys => memF a ys
    | none => none
def cmpV (o : COp) (a b : PV) (st : Store) : Option Bool := match o with
  | .eq => eqS a b
  | .ne => (eqS a b).map (!·)
  | .lt => match a, b with
    | .int i, .int j => some (decide (i < j))
    | _, _ => none
  | .le => match a, b with
    | .int i, .int j => some (decide (i ≤ j))
    | _, _ => none
  | .gt => match a, b with
    | .int i, .int j => some (decide (j < i))
    | _, _ => none
  | .ge => match a, b with
    | .int i, .int j => some (decide (j ≤ i))
    | _, _ => none
  | .isN => match b with
    | .non => match a with
      | .non => some true
      | .fl _ => none
      | _ => some false
    | _ => none
  | .notN => match b with
    | .non => match a with
      | .non => some false
      | .fl _ => none
      | _ => some true
    | _ => none
  | .inn => inV a b st
  | .nin => (inV a b st).map (!·)
def ixV (a i : PV) (st : Store) : Option PV := match i with
  | .int k => match a with
    | .str z => if z.length ≤ sizeLine then (L2.atI z.cps.toList k).map fun c => .str ⟨#[c]⟩ else none
    | a => match seqOf a st with
      | some xs => L2.atI xs k
      | none => none
  | _ => none
/-- a slice's bound; absent: none is written -/
def bound (absent : Bool) (v : PV) : Option (Option Int) := match absent, v with
  | true, .non => some none
  | false, .int i => some (some i)
  | _, _ => none
def cutL (xs : List PV) (lo hi : Option Int) : List PV := (xs.drop (HT.sIx xs.length 0 lo)).take (HT.sIx xs.length xs.length hi - HT.sIx xs.length 0 lo)
def slV (a : PV) (lo hi : Option Int) (st : Store) : Option PV := match a with
  | .str z => if z.length ≤ sizeLine then some (.str (L2.cutS z lo hi)) else none
  | .tup xs => some (.tup (cutL xs lo hi))
  | a => match seqOf a st with
    | some xs => some (.fl (cutL xs lo hi))
    | none => none
def bools : List PV → Option (List Bool)
  | [] => some []
  | .bl b :: r => (bools r).map (b :: ·)
  | _ :: _ => none
def intsL : List PV → Option (List Int)
  | [] => some []
  | .int b :: r => (intsL r).map (b :: ·)
  | _ :: _ => none
def strsL : List PV → Option (List Str)
  | [] => some []
  | .str b :: r => (strsL r).map (b :: ·)
  | _ :: _ => none
def biV (f : BF) (as : List PV) (st : Store) : Option PV := match f, as with
  | .len, [.str z] => if z.length ≤ sizeLine then some (.int z.length) else none
  | .len, [a] => (seqOf a st).map fun xs => .int xs.length
  | .int, [.int i] => some (.int i)
  | .int, [.bl k] => some (.int (if k then 1 else 0))
  | .abs, [.int i] => some (.int (if i < 0 then -i else i))
  | .max, [.int i, .int j] => some (.int (if j > i then j else i))
  | .min, [.int i, .int j] => some (.int (if j < i then j else i))
  | .str, [.int i] => if i.natAbs < 1000000 then some (.str (toString i)) else none
  | .str, [.str z] => some (.str z)
  | .repr, [.bl b] => some (.str (if b then Str.ofString "True" else Str.ofString "False"))
  | .repr, [.str z] => if (reprText z).length ≤ sizeLine then some (.str (reprText z)) else none
  | .list, [a] => (seqOf a st).map fun xs => .fl xs
  | .tuple, [.tup xs] => some (.tup xs)
  | .tuple, [a] => (seqOf a st).map fun xs => .tup xs
  | .sum, [a] => match rdOf a st with
    | some xs => (intsL xs).map fun ns => .int ns.sum
    | none => none
  | .all, [a] => match rdOf a st with
    | some xs => (bools xs).map fun bs => .bl (bs.all id)
    | none => none
  | .any, [a] => match rdOf a st with
    | some xs => (bools xs).map fun bs => .bl (bs.any id)
    | none => none
  | _, _ => none
def setAt (st : Store) (n : Nat) (xs : List PV) : Store := st.set n (.lst xs)
/-- {x} -/
def fmtV (x : PV) : Option PV := match x with
  | .str z => if z.length ≤ sizeLine then some (.str z) else none
  | .int i => if i.natAbs < 1000000 then some (.str (toString i)) else none
  | _ => none
/-- texts one behind the other -/
def glueV : List PV → Str → Option Str
  | [], acc => some acc
  | .str y :: r, acc => if (acc ++ y).length ≤ sizeLine then glueV r (acc ++ y) else none
  | _ :: _, _ => none
/-- the value at a text among a dict's -/
def dixV (kvs : List (Str × PV)) (x : PV) : Option PV := match x with
  | .str z => kvs.lookup z
  | _ => none
/-- the value at a text among a dict's, or another one -/
def getV (kvs : List (Str × PV)) (x y : PV) : Option PV := match x with
  | .str z => if y.isFl then none else some ((kvs.lookup z).getD y)
  | _ => none
/-- isinstance -/
def isiV (t : Ty) (v : PV) : Bool := match t, v with
  | .int, .int _ => true
  | .int, .bl _ => true
  | .bool, .bl _ => true
  | .str, .str _ => true
  | .tuple, .tup _ => true
  | .list, .loc _ => true
  | .list, .fl _ => true
  | .list, .rol _ => true
  | _, _ => false
/-- a method of a list or text: the answer, the store -/
def mtV (m : MF) (o : PV) (as : List PV) (st : Store) : Res PV := match m, o, as with
  | .append, .loc n, [x] => match st[n]? with
    | some (.lst xs) => if xs.length < sizeLine ∧ x.isFl = false then .ok .non (setAt st n (xs ++ [x])) else .bad
    | _ => .bad
  | .split, .str a, [.str b] => if b.length = 0 ∨ sizeLine < a.length + 2 then .bad else .ok (.fl ((Txt.split a b).map .str)) st
  | .partition, .str a, [.str b] => if b.length = 0 ∨ sizeLine < a.length then .bad else .ok (.tup [.str (Txt.partition a b).1, .str (Txt.partition a b).2.1, .str (Txt.partition a b).2.2]) st
  | .join, .str a, [x] => match seqOf x st with
    | some xs => match strsL xs with
      | some ys => if (ys.map (·.length)).sum + a.length * ys.length ≤ 16000000 then .ok (.str (Txt.join a ys)) st else .bad
      | none => .bad
    | none => .bad
  | _, _, _ => .bad
/-- a list that comes to be shared -/
def esc (v : PV) (st : Store) : PV × Store := match v with
  | .fl xs => (.loc st.length, st ++ [.lst xs])
  | v => (v, st)

/-! ### what a walk goes over -/
inductive Src where
  | items (xs : List PV)
  | live (n : Nat) (many : Nat)
def Src.many : Src → Nat
  | .items xs => xs.length
  | .live _ m => m
/-- the j-th item; the source must be as long as it was -/
def Src.get (s : Src) (j : Nat) (st : Store) : Option PV := match s with
  | .items xs => xs[j]?
  | .live n m => match seqOf (.loc n) st with
    | some xs => if xs.length = m then xs[j]? else none
    | none => none
def Src.fits (s : Src) (st : Store) : Bool := match s with
  | .items _ => true
  | .live n m => match seqOf (.loc n) st with
    | some xs => xs.length == m
    | none => false
def srcV (v : PV) (st : Store) : Option Src := match v with
  | .str s => some (.items (s.cps.toList.map fun c => .str ⟨#[c]⟩))
  | .tup xs => some (.items xs)
  | .fl xs => some (.items xs)
  | .rol xs => some (.items xs)
  | .loc n => (seqOf (.loc n) st).map fun xs => .live n xs.length
  | _ => none
def setEach : List Nat → List PV → En → Option En
  | [], [], env => some env
  | i :: is, x :: xs, env => setEach is xs (env.set i (some x))
  | _, _, _ => none
def MG.put (g : MG) (x : PV) (env : En) : Option En := match g with
  | .nm i => some (env.set i (some x))
  | .tp is => match x with
    | .tup xs => setEach is xs env
    | _ => none
def MG.slots : MG → List Nat
  | .nm i => [i]
  | .tp is => is
def wipe (env : En) : List Nat → En
  | [] => env
  | v :: vs => (wipe env vs).set v none

/-! ### expressions -/
section
variable (call : Nat → List PV → Store → Res PV)
/-- the comprehension's turns -/
def lcLoop (test : En → Store → Res Bool) (elt : En → Store → Res PV) (put : PV → En → Option En) (env : En) (src : Src) : Nat → Nat → List PV → Store → Res PV
  | _, 0, acc, st => if src.fits st then .ok (.fl acc) st else .bad
  | j, m + 1, acc, st => match src.get j st with
    | none => .bad
    | some x => match put x env with
      | none => .bad
      | some env' => (test env' st).bind fun b st1 =>
        if b then (elt env' st1).bind fun y st2 => if acc.length < sizeLine then lcLoop test elt put env src (j + 1) m (acc ++ [(esc y st2).1]) (esc y st2).2 else .bad
        else lcLoop test elt put env src (j + 1) m acc st1
def ME.absent : ME → Bool
  | .con .non => true
  | _ => false
/-- for a value, for an immediate use that keeps no list, for its truth -/
inductive Md where | val | use | test
def done (m : Md) (v : PV) (st : Store) : Res PV := match m with
  | .test => (opt (truth v st) st).bind fun k st1 => .ok (.bl k) st1
  | _ => .ok v st
def isBl : PV → Option Bool
  | .bl k => some k
  | _ => none
def rngV (x y : PV) (st : Store) : Res Src := match x, y with
  | .int i, .int j => if (-(2 ^ 62) ≤ i ∧ i < 2 ^ 62 ∧ -(2 ^ 62) ≤ j ∧ j < 2 ^ 62) then .ok (.items ((List.range (j - i).toNat).map fun (k : Nat) => .int (i + k))) st else .bad
  | _, _ => .bad
def varV (m : Md) (o : Option (Option PV)) (st : Store) : Res PV := match o with
  | some (some v) => match m with
    | .val => match v with
      | .fl _ => .bad
      | v => .ok v st
    | m => done m v st
  | _ => .bad
mutual
/-- the value; a list that comes is fresh, but of a name that is used -/
def ev : ME → Md → En → Store → Res PV
  | .var i, m, env, st => varV m env[i]? st
  | .con v, m, _, st => done m v st
  | .glb _ v, m, _, st => done m v st
  | .bin o a b, m, env, st => (ev a .use env st).bind fun x st1 => (ev b .use env st1).bind fun y st2 => (opt (binV o x y st2) st2).bind fun v st3 => done m v st3
  | .neg a, m, env, st => (ev a .val env st).bind fun x st1 => match x with
    | .int i => done m (.int (-i)) st1
    | _ => .bad
  | .cmp o a b, _, env, st => (ev a .use env st).bind fun x st1 => (ev b .use env st1).bind fun y st2 => (opt (cmpV o x y st2) st2).bind fun k st3 => .ok (.bl k) st3
  | .cmp2 o o' a b c, _, env, st => (ev a .use env st).bind fun x st1 => (ev b .use env st1).bind fun y st2 => (opt (cmpV o x y st2) st2).bind fun k st3 =>
      if k then (ev c .use env st3).bind fun z st4 => (opt (cmpV o' y z st4) st4).bind fun k' st5 => .ok (.bl k') st5 else .ok (.bl false) st3
  | .not a, m, env, st => match m with
    | .test => (ev a .test env st).bind fun x st1 => (opt (isBl x) st1).bind fun k st2 => .ok (.bl (!k)) st2
    | _ => (ev a .use env st).bind fun x st1 => (opt (truth x st1) st1).bind fun k st2 => .ok (.bl (!k)) st2
  | .and a b, m, env, st => (ev a m env st).bind fun x st1 => (opt (isBl x) st1).bind fun k st2 => if k then ev b m env st2 else .ok (.bl false) st2
  | .or a b, m, env, st => (ev a m env st).bind fun x st1 => (opt (isBl x) st1).bind fun k st2 => if k then .ok (.bl true) st2 else ev b m env st2
  | .ite _ _ _, .test, _, _ => .bad
  | .ite t a b, m, env, st => (ev t .test env st).bind fun x st1 => (opt (isBl x) st1).bind fun k st2 => if k then ev a m env st2 else ev b m env st2
  | .fn f as, m, env, st => (evA as env st).bind fun xs st1 => (call f xs st1).bind fun v st2 => done m v st2
  | .bi f as, m, env, st => (evCs as env st).bind fun xs st1 => (opt (biV f xs st1) st1).bind fun v st2 => done m v st2
  | .mt f o as, m, env, st => (ev o .use env st).bind fun x st1 => (evCs as env st1).bind fun xs st2 => (mtV f x xs st2).bind fun v st3 => done m v st3
  | .tup as, m, env, st => (evA as env st).bind fun xs st1 => if xs.length ≤ sizeLine then done m (.tup xs) st1 else .bad
  | .lst as, m, env, st => (evA as env st).bind fun xs st1 => if xs.length ≤ sizeLine then done m (.fl xs) st1 else .bad
  | .ix a i, m, env, st => (ev a .use env st).bind fun x st1 => (ev i .val env st1).bind fun y st2 => (opt (ixV x y st2) st2).bind fun v st3 => done m v st3
  | .sl a lo hi, m, env, st => (ev a .use env st).bind fun x st1 => (ev lo .val env st1).bind fun l st2 => (ev hi .val env st2).bind fun h st3 =>
      (opt (bound lo.absent l) st3).bind fun l' st4 => (opt (bound hi.absent h) st4).bind fun h' st5 => (opt (slV x l' h' st5) st5).bind fun v st6 => done m v st6
  | .lc elt g (.rng a b) has c, m, env, st => (ev a .val env st).bind fun x st1 => (ev b .val env st1).bind fun y st2 => (rngV x y st2).bind fun s st3 =>
      (lcLoop (fun e s => if has then (ev c .test e s).bind fun x s1 => opt (isBl x) s1 else .ok true s) (ev elt .val) g.put (wipe env g.slots) s 0 s.many [] st3).bind fun v st4 => done m v st4
  | .lc elt g src has c, m, env, st => (ev src .use env st).bind fun x st1 => (opt (srcV x st1) st1).bind fun s st3 =>
      (lcLoop (fun e s => if has then (ev c .test e s).bind fun x s1 => opt (isBl x) s1 else .ok true s) (ev elt .val) g.put (wipe env g.slots) s 0 s.many [] st3).bind fun v st4 => done m v st4
  | .rng _ _, _, _, _ => .bad
  | .isi t a, m, env, st => (ev a .use env st).bind fun x st1 => done m (.bl (isiV t x)) st1
  | .fmt a, m, env, st => (ev a .use env st).bind fun x st1 => (opt (fmtV x) st1).bind fun v st2 => done m v st2
  | .fstr as, m, env, st => (evCs as env st).bind fun xs st1 => (opt (glueV xs Str.empty) st1).bind fun z st2 => done m (.str z) st2
  | .dix _ kvs a, m, env, st => (ev a .val env st).bind fun x st1 => (opt (dixV kvs x) st1).bind fun v st2 => done m v st2
  | .gget _ kvs a b, m, env, st => (ev a .use env st).bind fun x st1 => (ev b .val env st1).bind fun y st2 => (opt (getV kvs x y) st2).bind fun v st3 => done m v st3
/-- arguments, items of a display: a list that comes is shared from then on -/
def evA : MEs → En → Store → Res (List PV)
  | .nil, _, st => .ok [] st
  | .cons a as, env, st => (ev a .val env st).bind fun x st1 => (evA as env (esc x st1).2).bind fun xs st2 => .ok ((esc x st1).1 :: xs) st2
/-- arguments of a built-in, which keeps none of them -/
def evCs : MEs → En → Store → Res (List PV)
  | .nil, _, st => .ok [] st
  | .cons a as, env, st => (ev a .use env st).bind fun x st1 => (evCs as env st1).bind fun xs st2 => .ok (x :: xs) st2
end
/-- what a for goes over -/
def evSrc : ME → En → Store → Res Src
  | .rng a b, env, st => (ev call a .val env st).bind fun x st1 => (ev call b .val env st1).bind fun y st2 => rngV x y st2
  | e, env, st => (ev call e .val env st).bind fun v st1 => opt (srcV v st1) st1

/-! ### statements -/
inductive SR where
  | nx (env : En) (st : Store)
  | rt (v : PV) (st : Store)
  | bk (env : En) (st : Store)
  | ct (env : En) (st : Store)
  | bad
def SR.then : SR → (En → Store → SR) → SR
  | .nx env st, f => f env st
  | r, _ => r
def Res.to {α : Type} : Res α → (α → Store → SR) → SR
  | .ok a st, f => f a st
  | .bad, _ => .bad
/-- a loop's turns -/
def forLoop (put : PV → En → Option En) (body : En → Store → SR) (src : Src) : Nat → Nat → En → Store → SR
  | _, 0, env, st => if src.fits st then .nx env st else .bad
  | j, m + 1, env, st => match src.get j st with
    | none => .bad
    | some x => match put x env with
      | none => .bad
      | some env' => match body env' st with
        | .nx e s => forLoop put body src (j + 1) m e s
        | .ct e s => forLoop put body src (j + 1) m e s
        | .bk e s => .nx e s
        | r => r
/-- at most so many turns of a while -/
def whlLoop (test : En → Store → Res PV) (body : En → Store → SR) : Nat → En → Store → SR
  | 0, _, _ => .bad
  | n + 1, env, st => (test env st).to fun x st1 => match isBl x with
    | some true => match body env st1 with
      | .nx e s => whlLoop test body n e s
      | .ct e s => whlLoop test body n e s
      | .bk e s => .nx e s
      | r => r
    | some false => .nx env st1
    | none => .bad
/-- a name that holds a list of its own -/
def ME.held : ME → En → Option (Nat × List PV)
  | .var i, env => match env[i]? with
    | some (some (.fl xs)) => some (i, xs)
    | _ => none
  | _, _ => none
variable (turns : Nat)
mutual
def evS : MS → En → Store → SR
  | .set i e own, env, st => (ev call e .val env st).to fun x st1 => if own then .nx (env.set i (some x)) st1 else .nx (env.set i (some (esc x st1).1)) (esc x st1).2
  | .setT is e, env, st => (ev call e .val env st).to fun x st1 => match x with
    | .tup xs => match setEach is xs env with
      | some env' => .nx env' st1
      | none => .bad
    | _ => .bad
  | .par i j as, env, st => (evA call as env st).to fun xs st1 => match xs with
    | [v, w] => .nx ((env.set i (some v)).set j (some w)) st1
    | _ => .bad
  | .setIx a i e, env, st => (ev call e .val env st).to fun v st1 => (ev call a .val env st1).to fun o st2 => (ev call i .val env st2).to fun k st3 =>
      match o, k with
      | .loc n, .int k => match st3[n]? with
        | some (.lst xs) => match L2.ixN xs.length k with
          | some j => if v.isFl then .bad else .nx env (setAt st3 n (xs.set j v))
          | none => .bad
        | _ => .bad
      | _, _ => .bad
  | .aug i o e, env, st => match env[i]? with
    | some (some (.int x)) => (ev call e .val env st).to fun y st1 => match y with
      | .int z => match o with
        | .add => .nx (env.set i (some (.int (x + z)))) st1
        | .sub => .nx (env.set i (some (.int (x - z)))) st1
        | _ => .bad
      | _ => .bad
    | _ => .bad
  | .ex e, env, st => (ev call e .val env st).to fun _ st1 => .nx env st1
  | .app i e, env, st => (ev call e .val env st).to fun x st1 => match env[i]? with
    | some (some (.fl xs)) => if xs.length < sizeLine then .nx (env.set i (some (.fl (xs ++ [(esc x st1).1])))) (esc x st1).2 else .bad
    | _ => .bad
  | .ext i e, env, st => (ev call e .val env st).to fun x st1 => match env[i]?, x with
    | some (some (.fl xs)), .fl ys => if xs.length + ys.length ≤ sizeLine then .nx (env.set i (some (.fl (xs ++ ys)))) st1 else .bad
    | _, _ => .bad
  | .ret e, env, st => match e.held env with
    | some (_, xs) => .rt (.fl xs) st
    | none => (ev call e .val env st).to fun x st1 => .rt x st1
  | .ret0, _, st => .rt .non st
  | .ite t a b, env, st => (ev call t .test env st).to fun x st1 => match isBl x with
    | some true => evSs a env st1
    | some false => evSs b env st1
    | none => .bad
  | .whl t b, env, st => whlLoop (ev call t .test) (evSs b) turns env st
  | .for_ g src b, env, st => (evSrc call src env st).to fun s st1 => forLoop g.put (evSs b) s 0 s.many env st1
  | .brk, env, st => .bk env st
  | .cnt, env, st => .ct env st
  | .pass, env, st => .nx env st
def evSs : MSs → En → Store → SR
  | .nil, env, st => .nx env st
  | .cons s ss, env, st => (evS s env st).then fun env1 st1 => evSs ss env1 st1
end
end

mutual
def PV.same : PV → PV → Bool
  | .non, .non => true
  | .bl a, .bl b => a == b
  | .int a, .int b => decide (a = b)
  | .str a, .str b => decide (a = b)
  | .tup a, .tup b => PV.sameL a b
  | _, _ => false
def PV.sameL : List PV → List PV → Bool
  | [], [] => true
  | x :: xs, y :: ys => PV.same x y && PV.sameL xs ys
  | _, _ => false
end
def sameD : List (Str × PV) → List (Str × PV) → Bool
  | [], [] => true
  | (x, v) :: r, (y, w) :: q => decide (x = y) && PV.same v w && sameD r q
  | _, _ => false
/-! ### a program -/
mutual
/-- no list in it stands at a place of the store from n on -/
def PV.low (n : Nat) : PV → Bool
  | .tup xs => PV.lowL n xs
  | .fl xs => PV.lowL n xs
  | .rol xs => PV.lowL n xs
  | .loc k => decide (k < n)
  | _ => true
def PV.lowL (n : Nat) : List PV → Bool
  | [] => true
  | x :: xs => PV.low n x && PV.lowL n xs
end
def Cell.low (n : Nat) : Cell → Bool
  | .lst xs => PV.lowL n xs
structure Def where
  np : Nat
  nl : Nat
  body : MSs
/-- behind a call: what nothing can reach any more is forgotten -/
def leave (n : Nat) (v : PV) (st : Store) : Res PV :=
  if st.length ≤ n then .ok v st
  else if PV.low n v && (st.take n).all (Cell.low n) then .ok v (st.take n) else .ok v st
def evCall (turns : Nat) (D : Nat → Option Def) : Nat → Nat → List PV → Store → Res PV
  | 0, _, _, _ => .bad
  | k + 1, f, args, st => match D f with
    | none => .bad
    | some d => if args.length = d.np ∧ (args.any PV.isFl) = false then
        match evSs (evCall turns D k) turns d.body (args.map some ++ List.replicate (d.nl - d.np) none) st with
        | .nx _ s => leave st.length .non s
        | .rt v s => leave st.length v s
        | _ => .bad
      else .bad
end U

set_option maxHeartbeats 4000000
/-! U2: how the store's data stand in the heap. -/
namespace U
open PySem PySem.Spec PyProof.Rows L2

section
variable (K : PySem.W.Frag)
/-- what is only read: the script, a written list -/
def Kl (H : Hp) (a : Addr) (vs : List V) : Prop :=
  (∃ o, H a = some (.frz o (.lst vs))) ∨
    ∃ (o : Obj) (its : Array Value) (n : Nat), K.lookup a = some o ∧ o.cls = .type "list" ∧ o.dict = none ∧ o.data = .seq its n ∧ its.size ≤ sizeLine ∧ Vals vs its.toList
mutual
inductive RV (μ : Nat → Addr) (L : Nat) (H : Hp) : PV → V → Prop
  | non : RV μ L H .non .non
  | bl (b : Bool) : RV μ L H (.bl b) (.bl b)
  | int (i : Int) : RV μ L H (.int i) (.int i)
  | str (s : Str) : RV μ L H (.str s) (.str s)
  | tup {xs : List PV} {a : Addr} {vs : List V} (h : SqT K H a vs) (r : RVs μ L H xs vs) : RV μ L H (.tup xs) (.ref a)
  | loc {n : Nat} (h : n < L) : RV μ L H (.loc n) (.ref (μ n))
  | fl {xs : List PV} {a : Addr} {vs : List V} (h : H a = some (.lst vs)) (n : ∀ n, n < L → μ n ≠ a) (r : RVs μ L H xs vs) : RV μ L H (.fl xs) (.ref a)
  | rol {xs : List PV} {a : Addr} {vs : List V} (h : Kl K H a vs) (r : RVs μ L H xs vs) : RV μ L H (.rol xs) (.ref a)
inductive RVs (μ : Nat → Addr) (L : Nat) (H : Hp) : List PV → List V → Prop
  | nil : RVs μ L H [] []
  | cons {x : PV} {v : V} {xs : List PV} {vs : List V} (f : x.isFl = false) (h : RV μ L H x v) (r : RVs μ L H xs vs) : RVs μ L H (x :: xs) (v :: vs)
end
/-- the store stands in the heap -/
structure Ok (μ : Nat → Addr) (st : Store) (H : Hp) : Prop where
  inj : ∀ n m, n < st.length → m < st.length → μ n = μ m → n = m
  cell : ∀ n xs, st[n]? = some (.lst xs) → ∃ vs, H (μ n) = some (.lst vs) ∧ RVs K μ st.length H xs vs
end
/-- from one state to a later one; what stands at S may have been changed besides the store -/
structure StX (S : Addr → Prop) (μ : Nat → Addr) (L : Nat) (H : Hp) (μ' : Nat → Addr) (L' : Nat) (H' : Hp) : Prop where
  le : L ≤ L'
  ext : ∀ n, n < L → μ' n = μ n
  keep : ∀ b o, H b = some o → (∀ n, n < L → μ n ≠ b) → ¬ S b → H' b = some o
  tup : ∀ b xs, H b = some (.tup xs) → H' b = some (.tup xs)
  frz : ∀ b o u, H b = some (.frz o u) → H' b = some (.frz o u)
  there : ∀ b, H' b = none → H b = none
  new : ∀ n, L ≤ n → n < L' → H (μ' n) = none
abbrev NoS : Addr → Prop := fun _ => False
abbrev Stp := StX NoS

section
variable {K : PySem.W.Frag} {μ μ1 μ2 : Nat → Addr} {L L1 L2 : Nat} {H H1 H2 : Hp} {S S1 : Addr → Prop}
theorem StX.refl : StX S μ L H μ L H := ⟨Nat.le_refl _, fun _ _ => rfl, fun _ _ h _ _ => h, fun _ _ h => h, fun _ _ _ h => h, fun _ h => h, fun n h1 h2 => absurd h2 (by omega)⟩
theorem StX.some (s : StX S μ L H μ1 L1 H1) {b : Addr} {o : HO} (h : H b = some o) : ∃ o', H1 b = Option.some o' := by
  cases q : H1 b with
  | none => rw [s.there b q] at h; cases h
  | some o' => exact ⟨o', rfl⟩
theorem StX.trans (s : StX S μ L H μ1 L1 H1) (t : StX S1 μ1 L1 H1 μ2 L2 H2) (hs : ∀ b, S1 b → S b ∨ H b = none) : StX S μ L H μ2 L2 H2 := by
  refine ⟨Nat.le_trans s.le t.le, fun n h => (t.ext n (Nat.lt_of_lt_of_le h s.le)).trans (s.ext n h), fun b o h n hS => ?_, fun b xs h => t.tup b xs (s.tup b xs h), fun b o u h => t.frz b o u (s.frz b o u h), fun b h => s.there b (t.there b h), fun n h1 h2 => ?_⟩
  · refine t.keep b o (s.keep b o h n hS) (fun k hk e => ?_) fun z => ?_
    · by_cases hl : k < L
      · exact n k hl ((s.ext k hl).symm.trans e)
      · have := s.new k (by omega) hk
        rw [e, h] at this
        cases this
    · rcases hs b z with z | z
      · exact hS z
      · rw [h] at z; cases z
  · by_cases hl : n < L1
    · have := s.new n h1 hl
      rw [t.ext n hl]
      exact this
    · exact s.there _ (t.new n (by omega) h2)
theorem Stp.trans (s : Stp μ L H μ1 L1 H1) (t : Stp μ1 L1 H1 μ2 L2 H2) : Stp μ L H μ2 L2 H2 := StX.trans s t fun _ h => h.elim
theorem StX.weak (s : StX S μ L H μ1 L1 H1) (hs : ∀ b, S b → S1 b) : StX S1 μ L H μ1 L1 H1 := ⟨s.le, s.ext, fun b o h n hS => s.keep b o h n fun z => hS (hs b z), s.tup, s.frz, s.there, s.new⟩
theorem Stp.wide (s : Stp μ L H μ1 L1 H1) : StX S μ L H μ1 L1 H1 := StX.weak s fun _ h => h.elim

theorem StX.sqT (s : StX S μ L H μ1 L1 H1) {a : Addr} {vs : List V} (h : SqT K H a vs) : SqT K H1 a vs := by
  rcases h with (h | ⟨o, h⟩) | h
  · exact .inl (.inl (s.tup _ _ h))
  · exact .inl (.inr ⟨o, s.frz _ _ _ h⟩)
  · exact .inr h
theorem StX.kl (s : StX S μ L H μ1 L1 H1) {a : Addr} {vs : List V} (h : Kl K H a vs) : Kl K H1 a vs := by
  rcases h with ⟨o, h⟩ | h
  · exact .inl ⟨o, s.frz _ _ _ h⟩
  · exact .inr h
theorem Kl.sq {a : Addr} {vs : List V} (h : Kl K H a vs) : SqL K H a vs := by
  rcases h with ⟨o, h⟩ | h
  · exact .inl (.inr ⟨o, h⟩)
  · exact .inr h

theorem RVs.len {xs : List PV} {vs : List V} : RVs K μ L H xs vs → xs.length = vs.length
  | .nil => rfl
  | .cons _ _ r => congrArg (· + 1) (RVs.len r)
theorem RVs.get : ∀ {xs : List PV} {vs : List V} {i : Nat} {x : PV}, RVs K μ L H xs vs → xs[i]? = some x → ∃ v, vs[i]? = some v ∧ RV K μ L H x v ∧ x.isFl = false
  | _, _, _, _, .nil, e => by simp at e
  | _, _, 0, _, .cons f h r, e => by
    simp only [List.getElem?_cons_zero, Option.some.injEq] at e
    subst e
    exact ⟨_, rfl, h, f⟩
  | _, _, i + 1, _, .cons f h r, e => by
    obtain ⟨v, h1, h2⟩ := RVs.get (i := i) r (by simpa using e)
    exact ⟨v, by simpa using h1, h2⟩
theorem RVs.app {xs ys : List PV} {vs ws : List V} : RVs K μ L H xs vs → RVs K μ L H ys ws → RVs K μ L H (xs ++ ys) (vs ++ ws)
  | .nil, s => s
  | .cons f h r, s => .cons f h (RVs.app r s)
theorem RVs.set {x : PV} {v : V} (f : x.isFl = false) (q : RV K μ L H x v) : ∀ {xs : List PV} {vs : List V} (i : Nat), RVs K μ L H xs vs → RVs K μ L H (xs.set i x) (vs.set i v)
  | _, _, _, .nil => .nil
  | _, _, 0, .cons _ _ r => .cons f q r
  | _, _, i + 1, .cons f' h r => .cons f' h (RVs.set f q i r)
theorem RVs.take : ∀ {xs : List PV} {vs : List V} (n : Nat), RVs K μ L H xs vs → RVs K μ L H (xs.take n) (vs.take n)
  | _, _, 0, _ => .nil
  | _, _, _ + 1, .nil => .nil
  | _, _, n + 1, .cons f h r => .cons f h (RVs.take n r)
theorem RVs.drop : ∀ {xs : List PV} {vs : List V} (n : Nat), RVs K μ L H xs vs → RVs K μ L H (xs.drop n) (vs.drop n)
  | _, _, 0, r => r
  | _, _, _ + 1, .nil => .nil
  | _, _, n + 1, .cons _ _ r => RVs.drop n r
theorem RVs.one {x : PV} {v : V} (f : x.isFl = false) (q : RV K μ L H x v) : RVs K μ L H [x] [v] := .cons f q .nil

/-- an own list stands off S -/
def Off (S : Addr → Prop) : PV → V → Prop
  | .fl _, .ref a => ¬ S a
  | _, _ => True
mutual
theorem RV.mono (s : StX S μ L H μ1 L1 H1) : ∀ {x : PV} {v : V}, Off S x v → RV K μ L H x v → RV K μ1 L1 H1 x v
  | _, _, _, .non => .non
  | _, _, _, .bl b => .bl b
  | _, _, _, .int i => .int i
  | _, _, _, .str z => .str z
  | _, _, _, .tup h r => .tup (StX.sqT s h) (RVs.mono s r)
  | _, _, _, .loc (n := n) h => by
    have e := s.ext n h
    rw [← e]
    exact .loc (Nat.lt_of_lt_of_le h s.le)
  | .fl _, .ref a, o, .fl h n r => by
    refine .fl (s.keep _ _ h n o) (fun k hk e => ?_) (RVs.mono s r)
    by_cases hl : k < L
    · exact n k hl ((s.ext k hl).symm.trans e)
    · have := s.new k (by omega) hk
      rw [e, h] at this
      cases this
  | _, _, _, .rol h r => .rol (StX.kl s h) (RVs.mono s r)
theorem RVs.mono (s : StX S μ L H μ1 L1 H1) : ∀ {xs : List PV} {vs : List V}, RVs K μ L H xs vs → RVs K μ1 L1 H1 xs vs
  | _, _, .nil => .nil
  | _, _, .cons (x := x) f h r => .cons f (RV.mono s (by cases x <;> first | trivial | cases f) h) (RVs.mono s r)
end
theorem off_no {x : PV} {v : V} : Off NoS x v := by
  unfold Off
  split <;> simp
theorem RV.mono0 (s : Stp μ L H μ1 L1 H1) {x : PV} {v : V} (h : RV K μ L H x v) : RV K μ1 L1 H1 x v := RV.mono s off_no h

/-- a list of the store is written -/
theorem Ok.write {st : Store} {n : Nat} {ys : List PV} {ws : List V} (o : Ok K μ st H) (hn : n < st.length) (r : RVs K μ st.length H ys ws) :
    Stp μ st.length H μ (setAt st n ys).length (upd H (μ n) (.lst ws)) ∧ Ok K μ (setAt st n ys) (upd H (μ n) (.lst ws)) := by
  have hl : (setAt st n ys).length = st.length := by simp [setAt]
  obtain ⟨xs, hx⟩ : ∃ xs, st[n]? = some (.lst xs) := by
    rw [List.getElem?_eq_getElem hn]
    cases st[n] with
    | lst xs => exact ⟨xs, rfl⟩
  obtain ⟨vs, hv, _⟩ := o.cell n xs hx
  have s : Stp μ st.length H μ (setAt st n ys).length (upd H (μ n) (.lst ws)) := by
    rw [hl]
    refine ⟨Nat.le_refl _, fun _ _ => rfl, fun b u h k _ => ?_, fun b zs h => ?_, fun b u z h => ?_, fun b h => ?_, fun k h1 h2 => absurd h2 (by omega)⟩
    · rw [upd_ne (fun e => k n hn e.symm)]; exact h
    · rw [upd_ne (fun e => by rw [e, hv] at h; cases h)]; exact h
    · rw [upd_ne (fun e => by rw [e, hv] at h; cases h)]; exact h
    · by_cases e : b = μ n
      · rw [e, upd_same] at h; cases h
      · rw [upd_ne e] at h; exact h
  refine ⟨s, ⟨fun a b ha hb e => o.inj a b (by omega) (by omega) e, fun k zs hk => ?_⟩⟩
  by_cases e : k = n
  · subst e
    have e2 : zs = ys := by
      have hk' : some (Cell.lst ys) = some (.lst zs) := by
        rw [← hk]
        simp [setAt, hn]
      cases hk'; rfl
    subst e2
    exact ⟨ws, upd_same, RVs.mono s r⟩
  · have hk' : st[k]? = some (.lst zs) := by
      rw [← hk]
      simp [setAt, List.getElem?_set_ne (Ne.symm e)]
    obtain ⟨us, h1, h2⟩ := o.cell k zs hk'
    have hkl : k < st.length := (List.getElem?_eq_some_iff.mp hk').1
    refine ⟨us, ?_, RVs.mono s h2⟩
    rw [upd_ne (fun z => e (o.inj k n hkl hn z))]
    exact h1
/-- a new object is laid -/
theorem Stp.laid {p : Addr} {u : HO} (h : H p = none) : Stp μ L H μ L (upd H p u) := by
  refine ⟨Nat.le_refl _, fun _ _ => rfl, fun b o hb _ _ => ?_, fun b o hb => ?_, fun b o z hb => ?_, fun b hb => ?_, fun n h1 h2 => absurd h2 (by omega)⟩
  · rw [upd_ne (ne_of_none hb h)]; exact hb
  · rw [upd_ne (ne_of_none hb h)]; exact hb
  · rw [upd_ne (ne_of_none hb h)]; exact hb
  · by_cases e : b = p
    · rw [e, upd_same] at hb; cases hb
    · rw [upd_ne e] at hb; exact hb
theorem Ok.stp {st : Store} (o : Ok K μ st H) (s : Stp μ st.length H μ st.length H1) (k : ∀ n, n < st.length → ∀ u, H (μ n) = some u → H1 (μ n) = some u) : Ok K μ st H1 :=
  ⟨o.inj, fun n xs h => by
    obtain ⟨vs, h1, h2⟩ := o.cell n xs h
    exact ⟨vs, k n (List.getElem?_eq_some_iff.mp h).1 _ h1, RVs.mono s h2⟩⟩
theorem Ok.laid {st : Store} {p : Addr} {u : HO} (o : Ok K μ st H) (h : H p = none) : Ok K μ st (upd H p u) :=
  o.stp (Stp.laid h) fun n _ u hu => by rw [upd_ne (ne_of_none hu h)]; exact hu
theorem Ok.apart {st : Store} {p : Addr} (o : Ok K μ st H) (h : H p = none) : ∀ n, n < st.length → μ n ≠ p := fun n hn e => by
  have : ∃ xs, st[n]? = some (.lst xs) := by
    rw [List.getElem?_eq_getElem hn]
    cases st[n] with
    | lst xs => exact ⟨xs, rfl⟩
  obtain ⟨xs, hx⟩ := this
  obtain ⟨vs, h1, _⟩ := o.cell n xs hx
  rw [e, h] at h1
  cases h1
mutual
/-- one place more -/
theorem RV.grow {a : Addr} : ∀ {x : PV} {v : V}, x.isFl = false → RV K μ L H x v → RV K (fun k => if k = L then a else μ k) (L + 1) H x v
  | _, _, _, .non => .non
  | _, _, _, .bl b => .bl b
  | _, _, _, .int i => .int i
  | _, _, _, .str z => .str z
  | _, _, _, .tup h r => .tup h (RVs.grow r a)
  | _, _, _, .loc (n := n) h => by
    have : RV K (fun k => if k = L then a else μ k) (L + 1) H (.loc n) (.ref ((fun k => if k = L then a else μ k) n)) := .loc (by omega)
    have e : (fun k => if k = L then a else μ k) n = μ n := if_neg (by omega)
    rw [e] at this
    exact this
  | _, _, f, .fl _ _ _ => by cases f
  | _, _, _, .rol h r => .rol h (RVs.grow r a)
theorem RVs.grow : ∀ {xs : List PV} {vs : List V}, RVs K μ L H xs vs → ∀ a : Addr, RVs K (fun k => if k = L then a else μ k) (L + 1) H xs vs
  | _, _, .nil, _ => .nil
  | _, _, .cons f h r, a => .cons f (RV.grow f h) (RVs.grow r a)
end
/-- fresh behind H -/
def Fr (H : Hp) : PV → V → Prop
  | .fl _, .ref a => H a = none
  | _, _ => True
theorem Fr.back {x : PV} {v : V} (s : StX S μ L H μ1 L1 H1) (f : Fr H1 x v) : Fr H x v := by
  unfold Fr at f ⊢
  split <;> simp_all
  exact s.there _ f
theorem fr_of {x : PV} {v : V} (h : x.isFl = false) : Fr H x v := by
  cases x <;> first | trivial | cases h
/-- a fresh list comes to be shared -/
theorem Ok.esc {μ0 : Nat → Addr} {L0 : Nat} {H0 : Hp} {st : Store} {x : PV} {v : V} (s : Stp μ0 L0 H0 μ st.length H) (o : Ok K μ st H) (r : RV K μ st.length H x v) (f : Fr H0 x v) :
    ∃ μ', Stp μ0 L0 H0 μ' (esc x st).2.length H ∧ Ok K μ' (esc x st).2 H ∧ RV K μ' (esc x st).2.length H (esc x st).1 v ∧ (esc x st).1.isFl = false ∧ (∀ n, n < st.length → μ' n = μ n) := by
  cases x with
  | fl xs =>
    cases r with
    | fl h n r =>
      rename_i a vs
      have f : H0 a = none := f
      have el : (U.esc (PV.fl xs) st).2.length = st.length + 1 := by simp [U.esc]
      refine ⟨fun k => if k = st.length then a else μ k, ?_, ?_, ?_, rfl, fun k hk => if_neg (by omega)⟩
      · rw [el]
        refine ⟨by have := s.le; omega, fun k hk => ?_, s.keep, s.tup, s.frz, s.there, fun k h1 h2 => ?_⟩
        · show (if k = st.length then a else μ k) = μ0 k
          rw [if_neg (by have := s.le; omega)]
          exact s.ext k hk
        · show H0 (if k = st.length then a else μ k) = none
          by_cases e : k = st.length
          · rw [if_pos e]; exact f
          · rw [if_neg e]; exact s.new k h1 (by omega)
      · have grow : ∀ {zs : List PV} {us : List V}, RVs K μ st.length H zs us → RVs K (fun k => if k = st.length then a else μ k) (st.length + 1) H zs us := by
          have go : ∀ (m : Nat), True := fun _ => trivial
          intro zs us q
          exact RVs.grow q a
        refine ⟨fun k m hk hm e => ?_, fun k zs hk => ?_⟩
        · rw [el] at hk hm
          have e : (if k = st.length then a else μ k) = (if m = st.length then a else μ m) := e
          by_cases h1 : k = st.length
          · by_cases h2 : m = st.length
            · omega
            · rw [if_pos h1, if_neg h2] at e
              exact absurd e.symm (n m (by omega))
          · by_cases h2 : m = st.length
            · rw [if_neg h1, if_pos h2] at e
              exact absurd e (n k (by omega))
            · rw [if_neg h1, if_neg h2] at e
              exact o.inj k m (by omega) (by omega) e
        · rw [el]
          have hk : (st ++ [Cell.lst xs])[k]? = some (.lst zs) := hk
          by_cases h1 : k = st.length
          · subst h1
            have e : xs = zs := by simpa using hk
            subst e
            exact ⟨vs, by simpa using h, grow r⟩
          · have hk2 : st[k]? = some (.lst zs) := by
              by_cases h2 : k < st.length
              · rw [List.getElem?_append_left h2] at hk; exact hk
              · rw [List.getElem?_eq_none (by simp; omega)] at hk; cases hk
            obtain ⟨us, h2, h3⟩ := o.cell k zs hk2
            exact ⟨us, by simpa [h1] using h2, grow h3⟩
      · rw [el]
        have : RV K (fun k => if k = st.length then a else μ k) (st.length + 1) H (.loc st.length) (.ref ((fun k => if k = st.length then a else μ k) st.length)) := .loc (by omega)
        have e : (fun k => if k = List.length st then a else μ k) (List.length st) = a := if_pos rfl
        rw [e] at this
        exact this
  | _ => exact ⟨μ, s, o, r, rfl, fun _ _ => rfl⟩
end
end U

set_option maxHeartbeats 4000000
/-! U3: the operations, from the store's data to the heap's. -/
namespace U
open PySem PySem.Spec PyProof.Rows L2

section
variable {K : PySem.W.Frag} {μ : Nat → Addr} {st : Store} {H : Hp}
/-- what is wanted behind an operation that leaves the store -/
def Go (K : PySem.W.Frag) (μ : Nat → Addr) (st : Store) (H : Hp) (v : PV) (Q : VK) : Prop :=
  ∀ H' v', Stp μ st.length H μ st.length H' → Ok K μ st H' → RV K μ st.length H' v v' → Fr H v v' → Q v' H'
theorem Go.same {v : PV} {v' : V} {Q : VK} (g : Go K μ st H v Q) (o : Ok K μ st H) (r : RV K μ st.length H v v') (f : v.isFl = false) : Q v' H := g H v' StX.refl o r (fr_of f)
theorem Go.lst {xs : List PV} {vs : List V} {Q : VK} (g : Go K μ st H (.fl xs) Q) (o : Ok K μ st H) (r : RVs K μ st.length H xs vs) : ∀ p, H p = none → Q (.ref p) (upd H p (.lst vs)) := fun p hp =>
  g _ _ (Stp.laid hp) (o.laid hp) (.fl upd_same (o.apart hp) (RVs.mono (Stp.laid hp) r)) hp
theorem Go.tup {xs : List PV} {vs : List V} {Q : VK} (g : Go K μ st H (.tup xs) Q) (o : Ok K μ st H) (r : RVs K μ st.length H xs vs) : ∀ p, H p = none → Q (.ref p) (upd H p (.tup vs)) := fun p hp =>
  g _ _ (Stp.laid hp) (o.laid hp) (.tup (SqT.of upd_same) (RVs.mono (Stp.laid hp) r)) trivial

theorem list_at {x : PV} {x' : V} {xs : List PV} (o : Ok K μ st H) (r : RV K μ st.length H x x') (h : listOf x st = some xs) : ∃ a vs, x' = .ref a ∧ H a = some (.lst vs) ∧ RVs K μ st.length H xs vs := by
  cases r with
  | fl h1 n r1 =>
    cases h
    exact ⟨_, _, rfl, h1, r1⟩
  | loc hn =>
    rename_i n
    unfold listOf at h
    cases q : st[n]? with
    | none => simp only [q] at h; cases h
    | some c =>
      cases c with
      | lst ys =>
        simp only [q] at h
        cases h
        obtain ⟨vs, h1, h2⟩ := o.cell n _ q
        exact ⟨_, _, rfl, h1, h2⟩
  | _ => cases h
theorem seq_at {x : PV} {x' : V} {xs : List PV} (o : Ok K μ st H) (r : RV K μ st.length H x x') (h : seqOf x st = some xs) : ∃ a vs, x' = .ref a ∧ (SqL K H a vs ∨ SqT K H a vs) ∧ RVs K μ st.length H xs vs := by
  cases r with
  | tup h1 r1 => cases h; exact ⟨_, _, rfl, .inr h1, r1⟩
  | rol h1 r1 => cases h; exact ⟨_, _, rfl, .inl h1.sq, r1⟩
  | fl h1 n r1 => cases h; exact ⟨_, _, rfl, .inl (SqL.of h1), r1⟩
  | loc hn =>
    rename_i n
    unfold seqOf at h
    cases q : st[n]? with
    | none => simp only [q] at h; cases h
    | some c =>
      cases c with
      | lst ys =>
        simp only [q] at h
        cases h
        obtain ⟨vs, h1, h2⟩ := o.cell n _ q
        exact ⟨_, _, rfl, .inl (SqL.of h1), h2⟩
  | _ => cases h
theorem RVs.nil_iff {L : Nat} {xs : List PV} {vs : List V} (r : RVs K μ L H xs vs) : xs.isEmpty = vs.isEmpty := by cases r <;> rfl

variable {X : Cx} {σ : L2.St} {pins : List (Addr × Obj)}
theorem OpR.imp {f : Value → Value → Sem Value} {r r' : R2} (h : OpR X f r) (i : ∀ x y H Q, r' x y H Q → r x y H Q) : OpR X f r' := fun pins s σ H x y v u Q I rx ry q => h pins s σ H x y v u Q I rx ry (i _ _ _ _ q)
theorem CallR.imp {f : Value} {r r' : List V → Hp → VK → Prop} (h : CallR X f r) (i : ∀ xs H Q, r' xs H Q → r xs H Q) : CallR X f r' := fun pins s σ H xs us Q I rx q => h pins s σ H xs us Q I rx (i _ _ _ q)
theorem MtR.imp {id : String} {r r' : V → List V → Hp → VK → Prop} (h : MtR X id r) (i : ∀ x xs H Q, r' x xs H Q → r x xs H Q) : MtR X id r' := fun pins s σ H x xs v us Q I rx rs q => h pins s σ H x xs v us Q I rx rs (i _ _ _ _ q)
theorem IxR.imp {r r' : R2} (h : IxR X r) (i : ∀ x y H Q, r' x y H Q → r x y H Q) : IxR X r' := fun a b pins s σ H x y v u Q I rx ry q hs => h a b pins s σ H x y v u Q I rx ry (i _ _ _ _ q) hs
theorem SlR.imp {r r' : V → Option Int → Option Int → Hp → VK → Prop} (h : SlR X r) (i : ∀ x l u H Q, r' x l u H Q → r x l u H Q) : SlR X r' := fun pins s σ H x v vl vu lo hi sl Q I rx hs pl pu q => h pins s σ H x v vl vu lo hi sl Q I rx hs pl pu (i _ _ _ _ _ q)

/-- the reading of an operation on values -/
def rO (K : PySem.W.Frag) (f : PV → PV → Store → Option PV) : R2 := fun x' y' H Q => ∃ μ st x y v, Ok K μ st H ∧ RV K μ st.length H x x' ∧ RV K μ st.length H y y' ∧ f x y st = some v ∧ Go K μ st H v Q

/-- text * int -/
def rMulS : R2 := fun x y H Q => ∃ z j, x = .str z ∧ y = .int j ∧ -1000000 ≤ j ∧ j ≤ 1000000 ∧ z.length * j.toNat ≤ 1000000 ∧ Q (.str ⟨((List.replicate j.toNat z.cps.toList).flatten).toArray⟩) H
theorem fold_cps (a : Array Nat) : ∀ (n : Nat) (acc : Array Nat), (List.replicate n a).foldl (· ++ ·) acc = acc ++ ((List.replicate n a.toList).flatten).toArray
  | 0, acc => by simp
  | n + 1, acc => by
    rw [List.replicate_succ, List.foldl_cons, fold_cps a n, List.replicate_succ, List.flatten_cons]
    apply Array.toList_inj.mp
    simp
theorem op_mulS : OpR X (binaryOp .Mult) rMulS := by
  intro pins s σ H x y v u Q I rx ry h
  obtain ⟨z, j, rfl, rfl, h1, h2, hz, q⟩ := h
  obtain ⟨t, rfl⟩ := rx
  obtain ⟨t', rfl⟩ := ry
  have sl := sizeLine_eq
  refine P.mul_str ?_ (fun n1 n2 => ?_) (fun n1 n2 => ?_) ?_
  · rw [decide_eq_false (by omega), decide_eq_false (by omega)]; rfl
  · have n3 : 1 ≤ j := by omega
    intro c
    have hm : ((z.length * j.toNat : Nat) : Int) ≤ 1000000 := Int.ofNat_le.mpr hz
    have e : ((z.length * j.toNat : Nat) : Int) = (z.length : Int) * j := by
      rw [Int.natCast_mul, Int.toNat_of_nonneg (by omega)]
    rw [e] at hm
    have := (Int.le_ediv_iff_mul_le (by omega : 0 < j)).mpr (show (z.length : Int) * j ≤ 2 ^ 63 - 1 by omega)
    omega
  · show decide (z.length * j.toNat > sizeLine) = false
    exact decide_eq_false (by omega)
  · by_cases n1 : j < 1
    · rw [if_pos n1]
      refine ⟨by decide, .str _, H, I.tok _, ⟨_, rfl⟩, ?_⟩
      have e : j.toNat = 0 := by omega
      rw [e] at q
      exact q
    · rw [if_neg n1]
      by_cases n2 : (j == 1 || z.length == 0) = true
      · rw [if_pos n2]
        refine ⟨.str z, H, I, ⟨_, rfl⟩, ?_⟩
        have e : (⟨((List.replicate j.toNat z.cps.toList).flatten).toArray⟩ : Str) = z := by
          refine TL.ext_tl ?_
          show ((List.replicate j.toNat z.cps.toList).flatten) = z.cps.toList
          rcases (by simpa using n2 : j = 1 ∨ z.length = 0) with e | e
          · subst e
            simp
          · have e2 : z.cps.toList = [] := by
              have h0 := TL.len_tl z
              exact List.length_eq_zero_iff.mp (h0.symm.trans e)
            show _ = z.cps.toList
            rw [e2]
            simp
        rw [e] at q
        exact q
      · rw [if_neg n2]
        have e : ((List.replicate j.toNat z.cps).foldl (· ++ ·) #[]) = ((List.replicate j.toNat z.cps.toList).flatten).toArray := by
          rw [fold_cps]; simp
        refine ⟨?_, .str _, H, I.tok _, ⟨_, rfl⟩, ?_⟩
        · rw [e]
          show ((List.replicate j.toNat z.cps.toList).flatten).toArray.size ≤ sizeLine
          have : ((List.replicate j.toNat z.cps.toList).flatten).length = j.toNat * z.length := by
            rw [List.length_flatten, List.map_replicate, List.sum_replicate_nat]
            rfl
          rw [List.size_toArray, this, Nat.mul_comm]
          omega
        · rw [e]; exact q
def bop : BOp → Operator
  | .add => .Add | .sub => .Sub | .mul => .Mult | .fdiv => .FloorDiv | .mod => .Mod | .pow => .Pow
theorem op_bin (o : BOp) : OpR X (binaryOp (bop o)) (rO X.K (binV o)) := by
  cases o with
  | add =>
    refine OpR.imp (op_add.or (op_add_str.or (op_catA.or op_cat))) fun x y H Q ⟨μ, st, a, b, v, o, ra, rb, e, g⟩ => ?_
    unfold binV at e
    split at e
    case _ _ _ _ i j h1 => cases ra; cases rb; cases e; exact .inl ⟨i, j, rfl, rfl, g.same o (.int _) rfl⟩
    case _ _ _ _ i j h1 =>
      cases ra; cases rb
      split at e
      · rename_i hz
        cases e
        exact .inr (.inl ⟨i, j, rfl, rfl, hz, g.same o (.str _) rfl⟩)
      · cases e
    case _ xs ys h1 =>
      cases ra with
      | tup h1 r1 =>
        cases rb with
        | tup h2 r2 =>
          split at e
          · rename_i hz
            cases e
            rename_i a1 v1 a2 v2
            have l1 := r1.len
            have l2 := r2.len
            refine .inr (.inr (.inl ⟨_, _, _, _, rfl, rfl, h1, h2, by omega, fun z => ?_, fun z z2 => ?_, fun _ _ => g.tup o (r1.app r2)⟩))
            · subst z
              cases r1
              exact g.same o (.tup h2 r2) rfl
            · subst z2
              cases r2
              rw [List.append_nil] at g
              exact g.same o (.tup h1 r1) rfl
          · cases e
    case _ =>
      split at e
      · rename_i xs ys h1 h2
        split at e
        · rename_i hz
          cases e
          obtain ⟨a1, v1, rfl, q1, r1⟩ := list_at o ra h1
          obtain ⟨a2, v2, rfl, q2, r2⟩ := list_at o rb h2
          have l1 := r1.len
          have l2 := r2.len
          exact .inr (.inr (.inr ⟨a1, a2, v1, v2, rfl, rfl, q1, q2, by omega, g.lst o (r1.app r2)⟩))
        · cases e
      · cases e
    all_goals contradiction
  | sub =>
    refine OpR.imp op_sub fun x y H Q ⟨μ, st, a, b, v, o, ra, rb, e, g⟩ => ?_
    unfold binV at e
    split at e <;> first | contradiction | (cases ra; cases rb; cases e; exact ⟨_, _, rfl, rfl, g.same o (.int _) rfl⟩) | cases e
  | mul =>
    refine OpR.imp (op_mul.or op_mulS) fun x y H Q ⟨μ, st, a, b, v, o, ra, rb, e, g⟩ => ?_
    unfold binV at e
    split at e <;> first | contradiction | skip
    · cases ra; cases rb
      split at e
      · rename_i hc
        cases e
        refine .inl ⟨_, _, rfl, rfl, ?_, g.same o (.int _) rfl⟩
        simpa [ckM, CMul] using hc
      · cases e
    · cases ra; cases rb
      split at e
      · rename_i hc
        cases e
        exact .inr ⟨_, _, rfl, rfl, hc.1, hc.2.1, hc.2.2, g.same o (.str _) rfl⟩
      · cases e
  | fdiv =>
    refine OpR.imp op_fdiv fun x y H Q ⟨μ, st, a, b, v, o, ra, rb, e, g⟩ => ?_
    unfold binV at e
    split at e <;> first | contradiction | skip
    · cases ra; cases rb
      split at e
      · rename_i hc
        cases e
        exact ⟨_, _, rfl, rfl, hc, g.same o (.int _) rfl⟩
      · cases e
  | mod =>
    refine OpR.imp op_mod fun x y H Q ⟨μ, st, a, b, v, o, ra, rb, e, g⟩ => ?_
    unfold binV at e
    split at e <;> first | contradiction | skip
    · cases ra; cases rb
      split at e
      · rename_i hc
        cases e
        exact ⟨_, _, rfl, rfl, hc, g.same o (.int _) rfl⟩
      · cases e
  | pow =>
    refine OpR.imp op_pow fun x y H Q ⟨μ, st, a, b, v, o, ra, rb, e, g⟩ => ?_
    unfold binV at e
    split at e <;> first | contradiction | skip
    · cases ra; cases rb
      split at e
      · rename_i hc
        cases e
        exact ⟨_, _, rfl, rfl, hc, g.same o (.int _) rfl⟩
      · cases e
end
end U

set_option maxHeartbeats 4000000
/-! U4: comparisons, items, slices, built-in functions and methods. -/
namespace U
open PySem PySem.Spec PyProof.Rows L2
section
variable {K : PySem.W.Frag} {μ : Nat → Addr} {L : Nat} {st : Store} {H : Hp} {X : Cx} {σ : L2.St} {pins : List (Addr × Obj)}
theorem flV_at {x : PV} {v v' : V} (r : RV K μ L H x v') (h : flV x = some v) : v' = v ∧ flatV v = true := by
  cases r <;> first | (cases h; exact ⟨rfl, rfl⟩) | cases h
theorem flL_at : ∀ {xs : List PV} {vs vs' : List V}, RVs K μ L H xs vs' → flL xs = some vs → vs' = vs ∧ vs.all flatV = true
  | _, _, _, .nil, h => by cases h; exact ⟨rfl, rfl⟩
  | _, _, _, .cons (x := x) (xs := xs) f r rs, h => by
    unfold flL at h
    cases h1 : flV x with
    | none => rw [h1] at h; cases h
    | some v =>
      cases h2 : flL xs with
      | none => rw [h1, h2] at h; cases h
      | some vs =>
        rw [h1, h2] at h
        cases h
        obtain ⟨e1, f1⟩ := flV_at r h1
        obtain ⟨e2, f2⟩ := flL_at rs h2
        subst e1; subst e2
        exact ⟨rfl, by simp [f1, f2]⟩
def cop : COp → CmpOp
  | .eq => .Eq | .ne => .NotEq | .lt => .Lt | .le => .LtE | .gt => .Gt | .ge => .GtE | .isN => .Is | .notN => .IsNot | .inn => .In | .nin => .NotIn
/-- the reading of a comparison -/
def rC (K : PySem.W.Frag) (f : PV → PV → Store → Option Bool) : R2 := fun x' y' H Q => ∃ μ st x y k, Ok K μ st H ∧ RV K μ st.length H x x' ∧ RV K μ st.length H y y' ∧ f x y st = some k ∧ Q (.bl k) H
theorem eqS_at {x y : PV} {x' y' : V} {k : Bool} (rx : RV K μ L H x x') (ry : RV K μ L H y y') (h : eqS x y = some k) : scal x' y' = true ∧ k = decide (x' = y') := by
  unfold eqS at h
  cases h1 : flV x with
  | none => rw [h1] at h; cases h
  | some v =>
    cases h2 : flV y with
    | none => rw [h1, h2] at h; cases h
    | some w =>
      rw [h1, h2] at h
      obtain ⟨e1, _⟩ := flV_at rx h1
      obtain ⟨e2, _⟩ := flV_at ry h2
      subst e1; subst e2
      simp only at h
      split at h
      · rename_i hs
        cases h
        exact ⟨hs, rfl⟩
      · cases h
theorem inV_at {x y : PV} {x' y' : V} {k : Bool} (o : Ok K μ st H) (rx : RV K μ st.length H x x') (ry : RV K μ st.length H y y') (h : U.inV x y st = some k) :
    (∃ c z, x' = .str ⟨#[c]⟩ ∧ y' = .str z ∧ k = decide (c ∈ z.cps.toList)) ∨ ∃ p xs, y' = .ref p ∧ (SqL K H p xs ∨ SqT K H p xs) ∧ flatV x' = true ∧ xs.all flatV = true ∧ k = L2.inV x' xs := by
  unfold U.inV at h
  split at h
  · cases rx; cases ry
    split at h
    · rename_i c hc
      cases h
      exact .inl ⟨c, _, congrArg V.str (TL.ext_tl hc), rfl, rfl⟩
    · cases h
  · split at h
    · rename_i ys hy
      obtain ⟨a, vs, rfl, q, r⟩ := seq_at o ry hy
      unfold memF at h
      cases h1 : flV x with
      | none => rw [h1] at h; cases h
      | some v =>
        cases h2 : flL ys with
        | none => rw [h1, h2] at h; cases h
        | some ws =>
          rw [h1, h2] at h
          cases h
          obtain ⟨e1, f1⟩ := flV_at rx h1
          obtain ⟨e2, f2⟩ := flL_at r h2
          subst e1; subst e2
          exact .inr ⟨a, _, rfl, q, f1, f2, rfl⟩
    · cases h
theorem op_cmp (o : COp) : OpR X (compareOp (cop o)) (rC X.K (cmpV o)) := by
  cases o with
  | eq =>
    refine OpR.imp op_eq fun x y H Q ⟨μ, st, a, b, k, o, ra, rb, e, g⟩ => ?_
    obtain ⟨h1, rfl⟩ := eqS_at ra rb e
    exact ⟨h1, g⟩
  | ne =>
    refine OpR.imp op_ne fun x y H Q ⟨μ, st, a, b, k, o, ra, rb, e, g⟩ => ?_
    obtain ⟨c, hc, rfl⟩ := Option.map_eq_some_iff.mp e
    obtain ⟨h1, rfl⟩ := eqS_at ra rb hc
    exact ⟨h1, g⟩
  | lt =>
    refine OpR.imp op_lt fun x y H Q ⟨μ, st, a, b, k, o, ra, rb, e, g⟩ => ?_
    unfold cmpV at e
    simp only at e
    split at e
    · cases ra; cases rb; cases e; exact ⟨_, _, rfl, rfl, g⟩
    · cases e
  | le =>
    refine OpR.imp op_le fun x y H Q ⟨μ, st, a, b, k, o, ra, rb, e, g⟩ => ?_
    unfold cmpV at e
    simp only at e
    split at e
    · cases ra; cases rb; cases e; exact ⟨_, _, rfl, rfl, g⟩
    · cases e
  | gt =>
    refine OpR.imp op_gt fun x y H Q ⟨μ, st, a, b, k, o, ra, rb, e, g⟩ => ?_
    unfold cmpV at e
    simp only at e
    split at e
    · cases ra; cases rb; cases e; exact ⟨_, _, rfl, rfl, g⟩
    · cases e
  | ge =>
    refine OpR.imp op_ge fun x y H Q ⟨μ, st, a, b, k, o, ra, rb, e, g⟩ => ?_
    unfold cmpV at e
    simp only at e
    split at e
    · cases ra; cases rb; cases e; exact ⟨_, _, rfl, rfl, g⟩
    · cases e
  | isN =>
    refine OpR.imp op_isN fun x y H Q ⟨μ, st, a, b, k, o, ra, rb, e, g⟩ => ?_
    unfold cmpV at e
    simp only at e
    split at e
    · cases rb
      refine ⟨rfl, ?_⟩
      have : decide (x = V.non) = k := by cases ra <;> first | (cases e; rfl) | cases e
      rw [this]; exact g
    · cases e
  | notN =>
    refine OpR.imp op_notN fun x y H Q ⟨μ, st, a, b, k, o, ra, rb, e, g⟩ => ?_
    unfold cmpV at e
    simp only at e
    split at e
    · cases rb
      refine ⟨rfl, ?_⟩
      have : (!decide (x = V.non)) = k := by cases ra <;> first | (cases e; rfl) | cases e
      rw [this]; exact g
    · cases e
  | inn =>
    refine OpR.imp (op_in_sign.or op_in_seq) fun x y H Q ⟨μ, st, a, b, k, o, ra, rb, e, g⟩ => ?_
    rcases inV_at o ra rb e with ⟨c, z, rfl, rfl, rfl⟩ | ⟨p, xs, rfl, q, f1, f2, rfl⟩
    · exact .inl ⟨c, z, rfl, rfl, g⟩
    · exact .inr ⟨p, xs, rfl, q, f1, f2, g⟩
  | nin =>
    refine OpR.imp (op_notIn_sign.or op_notIn_seq) fun x y H Q ⟨μ, st, a, b, k, o, ra, rb, e, g⟩ => ?_
    obtain ⟨c, hc, rfl⟩ := Option.map_eq_some_iff.mp e
    rcases inV_at o ra rb hc with ⟨c, z, rfl, rfl, rfl⟩ | ⟨p, xs, rfl, q, f1, f2, rfl⟩
    · exact .inl ⟨c, z, rfl, rfl, g⟩
    · exact .inr ⟨p, xs, rfl, q, f1, f2, g⟩

/-- truth -/
theorem truth_at {x : PV} {x' : V} {k : Bool} (o : Ok K μ st H) (r : RV K μ st.length H x x') (h : truth x st = some k) : TruV K x' H k := by
  have seqs : ∀ {y : PV} {y' : V}, RV K μ st.length H y y' → (seqOf y st).map (fun xs => !xs.isEmpty) = some k → TruV K y' H k := fun {y y'} r e => by
    obtain ⟨xs, h1, rfl⟩ := Option.map_eq_some_iff.mp e
    obtain ⟨a, vs, rfl, q, rs⟩ := seq_at o r h1
    rw [rs.nil_iff]
    rcases q with q | q
    · exact .inl ⟨vs, q, rfl⟩
    · exact .inr (.inl ⟨vs, q, rfl⟩)
  cases x with
  | non => cases r; cases h; rfl
  | bl b => cases r; cases h; rfl
  | int i => cases r; cases h; rfl
  | str s =>
    cases r
    unfold truth at h
    simp only at h
    split at h
    · rename_i hz
      cases h
      exact ⟨hz, rfl⟩
    · cases h
  | tup xs => exact seqs r h
  | fl xs => exact seqs r h
  | rol xs => exact seqs r h
  | loc n => exact seqs r h

/-- items -/
theorem atI_map {L : Nat} {xs : List PV} {vs : List V} {i : Int} {x : PV} (r : RVs K μ L H xs vs) (h : atI xs i = some x) : ∃ v, atI vs i = some v ∧ RV K μ L H x v ∧ x.isFl = false := by
  unfold atI at h ⊢
  rw [← r.len]
  cases q : ixN xs.length i with
  | none => rw [q] at h; cases h
  | some j =>
    rw [q] at h
    exact r.get h
theorem op_ix : IxR X (rO X.K ixV) := by
  refine IxR.imp ix_seq fun x y H Q ⟨μ, st, a, b, v, o, ra, rb, e, g⟩ => ?_
  unfold ixV at e
  split at e
  · cases rb
    split at e
    · cases ra
      split at e
      · rename_i hz
        obtain ⟨c, hc, rfl⟩ := Option.map_eq_some_iff.mp e
        exact .inr (.inr ⟨_, _, c, rfl, rfl, hz, hc, g.same o (.str _) rfl⟩)
      · cases e
    · split at e
      · rename_i xs hx
        obtain ⟨p, vs, rfl, q, r⟩ := seq_at o ra hx
        obtain ⟨w, h1, h2, h3⟩ := atI_map r e
        rcases q with q | q
        · exact .inl ⟨p, vs, _, w, rfl, rfl, q, h1, g.same o h2 h3⟩
        · exact .inr (.inl ⟨p, vs, _, w, rfl, rfl, q, h1, g.same o h2 h3⟩)
      · cases e
  · cases e
/-- slices -/
theorem cut_at {L : Nat} {xs : List PV} {vs : List V} (r : RVs K μ L H xs vs) (lo hi : Option Int) : RVs K μ L H (cutL xs lo hi) (cutV vs lo hi) := by
  unfold cutL cutV
  rw [← r.len]
  exact (r.drop _).take _
theorem RVs.empty {L : Nat} {xs : List PV} {vs : List V} (r : RVs K μ L H xs vs) : xs = [] ↔ vs = [] := by cases r <;> simp
def rS (K : PySem.W.Frag) : V → Option Int → Option Int → Hp → VK → Prop := fun x' lo hi H Q => ∃ μ st x v, Ok K μ st H ∧ RV K μ st.length H x x' ∧ slV x lo hi st = some v ∧ Go K μ st H v Q
theorem op_sl : SlR X (rS X.K) := by
  refine SlR.imp (sl_str.or (sl_tupA.or sl_list)) fun x lo hi H Q ⟨μ, st, a, v, o, ra, e, g⟩ => ?_
  have lists : ∀ {xs : List PV} {p : Addr} {vs : List V}, (some (PV.fl (cutL xs lo hi)) = some v) → SqL X.K H p vs → RVs X.K μ st.length H xs vs → rSlL X.K (.ref p) lo hi H Q := fun e q r => by
    cases e
    exact ⟨_, _, rfl, q, g.lst o (cut_at r lo hi)⟩
  cases ra with
  | str z =>
    unfold slV at e
    simp only at e
    split at e
    · rename_i hz
      cases e
      exact .inl ⟨_, rfl, hz, g.same o (.str _) rfl⟩
    · cases e
  | @tup xs1 _ _ h1 r1 =>
    cases e
    refine .inr (.inl ⟨_, _, rfl, h1, fun z => ?_, fun _ => g.tup o (cut_at r1 lo hi)⟩)
    have w : ∀ {α : Type} (l : List α), HT.sIx l.length 0 lo = 0 ∧ HT.sIx l.length l.length hi = l.length → (l.drop (HT.sIx l.length 0 lo)).take (HT.sIx l.length l.length hi - HT.sIx l.length 0 lo) = l := fun l z => by
      rw [z.1, z.2]; simp
    rw [← r1.len] at z
    have e1 : cutL xs1 lo hi = xs1 := w xs1 z
    rw [e1] at g
    exact g.same o (.tup h1 r1) rfl
  | fl h1 n r1 => exact .inr (.inr (lists e (SqL.of h1) r1))
  | rol h1 r1 => exact .inr (.inr (lists e h1.sq r1))
  | @loc n hn =>
    unfold slV at e
    simp only at e
    split at e
    · rename_i xs hx
      obtain ⟨p, vs, hp, hq, r⟩ := list_at o (.loc hn) (show listOf (.loc n) st = some xs from hx)
      rw [hp]
      exact .inr (.inr (lists e (SqL.of hq) r))
    · cases e
  | _ => cases e

/-! ### built-in functions -/
abbrev RAs (K : PySem.W.Frag) (μ : Nat → Addr) (L : Nat) (H : Hp) : List PV → List V → Prop := Paired (RV K μ L H)
def bfn : BF → Value
  | .len => .builtin "len" | .int => .type "int" | .abs => .builtin "abs" | .max => .builtin "max" | .min => .builtin "min" | .str => .type "str" | .repr => .builtin "repr"
  | .list => .type "list" | .tuple => .type "tuple" | .sum => .builtin "sum" | .all => .builtin "all" | .any => .builtin "any"
def rB (K : PySem.W.Frag) (f : BF) : List V → Hp → VK → Prop := fun vs H Q => ∃ μ st as v, Ok K μ st H ∧ RAs K μ st.length H as vs ∧ biV f as st = some v ∧ Go K μ st H v Q
theorem ints_at : ∀ {xs : List PV} {vs : List V} {ns : List Int}, RVs K μ L H xs vs → intsL xs = some ns → vs = ns.map V.int
  | _, _, _, .nil, h => by cases h; rfl
  | _, _, _, .cons (xs := xs) f r rs, h => by
    cases r <;> try cases h
    unfold intsL at h
    obtain ⟨ms, h1, rfl⟩ := Option.map_eq_some_iff.mp h
    rw [ints_at rs h1]; rfl
theorem bools_at : ∀ {xs : List PV} {vs : List V} {ns : List Bool}, RVs K μ L H xs vs → bools xs = some ns → vs = ns.map V.bl
  | _, _, _, .nil, h => by cases h; rfl
  | _, _, _, .cons (xs := xs) f r rs, h => by
    cases r <;> try cases h
    unfold bools at h
    obtain ⟨ms, h1, rfl⟩ := Option.map_eq_some_iff.mp h
    rw [bools_at rs h1]; rfl
theorem strs_at : ∀ {xs : List PV} {vs : List V} {ns : List Str}, RVs K μ L H xs vs → strsL xs = some ns → vs = ns.map V.str
  | _, _, _, .nil, h => by cases h; rfl
  | _, _, _, .cons (xs := xs) f r rs, h => by
    cases r <;> try cases h
    unfold strsL at h
    obtain ⟨ms, h1, rfl⟩ := Option.map_eq_some_iff.mp h
    rw [strs_at rs h1]; rfl
theorem rd_at {x : PV} {x' : V} {xs : List PV} (o : Ok K μ st H) (r : RV K μ st.length H x x') (h : rdOf x st = some xs) : ∃ a vs, x' = .ref a ∧ SqL K H a vs ∧ RVs K μ st.length H xs vs := by
  cases r with
  | rol h1 r1 => cases h; exact ⟨_, _, rfl, h1.sq, r1⟩
  | fl h1 n r1 => cases h; exact ⟨_, _, rfl, SqL.of h1, r1⟩
  | @loc n hn =>
    obtain ⟨p, vs, hp, hq, r⟩ := list_at o (.loc hn) (show listOf (.loc n) st = some xs from h)
    exact ⟨p, vs, hp, SqL.of hq, r⟩
  | _ => cases h
/-- repr(a bool) -/
theorem call_reprB : CallR X (.builtin "repr") (fun xs H Q => ∃ b, xs = [.bl b] ∧ Q (.str (if b then Str.ofString "True" else Str.ofString "False")) H) := by
  intro pins s σ H xs us Q I rx h
  obtain ⟨b, rfl, q⟩ := h
  obtain ⟨u, rfl, ru⟩ := vals1 rx
  cases ru
  exact PySem.P.repr_of_bool ⟨.str _, H, I.tok _, ⟨_, rfl⟩, q⟩
theorem call_reprBS : CallR X (.builtin "repr") (fun xs H Q => (∃ b, xs = [.bl b] ∧ Q (.str (if b then Str.ofString "True" else Str.ofString "False")) H) ∨ ∃ z, xs = [.str z] ∧ (reprText z).length ≤ sizeLine ∧ Q (.str (reprText z)) H) := by
  intro pins s σ H xs us Q I rx h
  rcases h with h | ⟨z, rfl, hz, q⟩
  · exact call_reprB pins s σ H xs us Q I rx h
  · obtain ⟨u, rfl, ru⟩ := vals1 rx
    obtain ⟨t, rfl⟩ := ru
    exact PySem.P.repr_of_str ⟨.str _, H, I.tok _, ⟨_, rfl⟩, q⟩ hz
theorem call_strIS : CallR X (.type "str") (fun xs H Q => (∃ i, xs = [.int i] ∧ i.natAbs.log2 < 1920 ∧ Q (.str (toString i)) H) ∨ ∃ a, xs = [.str a] ∧ Q (.str a) H) := by
  intro pins s σ H xs us Q I r h
  rcases h with h | ⟨a, rfl, q⟩
  · exact call_str_int pins s σ H xs us Q I r h
  · obtain ⟨u, rfl, t, rfl⟩ := vals1 r
    exact PySem.P.str_of_str ⟨.str a, H, I, ⟨t, rfl⟩, q⟩
theorem log_ok {i : Int} (h : i.natAbs < 1000000) : i.natAbs.log2 < 1920 := by
  by_cases h0 : i.natAbs = 0
  · rw [h0]; decide
  · have := (Nat.log2_lt h0 (k := 20)).mpr (by omega)
    omega
theorem op_bi (hc : X.calm = true) (f : BF) : CallR X (bfn f) (rB X.K f) := by
  cases f with
  | len =>
    refine CallR.imp (call_len_seq.or call_len_str) fun xs H Q ⟨μ, st, as, v, o, ra, e, g⟩ => ?_
    unfold biV at e
    split at e <;> try contradiction
    · cases ra with
      | cons r1 r2 =>
        cases r2; cases r1
        split at e
        · rename_i hz
          cases e
          exact .inr ⟨_, rfl, hz, g.same o (.int _) rfl⟩
        · cases e
    · cases ra with
      | cons r1 r2 =>
        cases r2
        obtain ⟨ys, h1, rfl⟩ := Option.map_eq_some_iff.mp e
        obtain ⟨p, vs, rfl, q, r⟩ := seq_at o r1 h1
        refine .inl ⟨p, vs, rfl, q, ?_⟩
        rw [← r.len]
        exact g.same o (.int _) rfl
  | int =>
    refine CallR.imp call_int1 fun xs H Q ⟨μ, st, as, v, o, ra, e, g⟩ => ?_
    unfold biV at e
    split at e <;> try contradiction
    · cases ra with
      | cons r1 r2 => cases r2; cases r1; cases e; exact .inl ⟨_, rfl, g.same o (.int _) rfl⟩
    · cases ra with
      | cons r1 r2 => cases r2; cases r1; cases e; exact .inr ⟨_, rfl, g.same o (.int _) rfl⟩
  | abs =>
    refine CallR.imp call_abs fun xs H Q ⟨μ, st, as, v, o, ra, e, g⟩ => ?_
    unfold biV at e
    split at e <;> try contradiction
    cases ra with
    | cons r1 r2 => cases r2; cases r1; cases e; exact ⟨_, rfl, g.same o (.int _) rfl⟩
  | max =>
    refine CallR.imp (call_max2 hc) fun xs H Q ⟨μ, st, as, v, o, ra, e, g⟩ => ?_
    unfold biV at e
    split at e <;> try contradiction
    cases ra with
    | cons r1 r2 =>
      cases r2 with
      | cons r2 r3 => cases r3; cases r2; cases r1; cases e; exact ⟨_, _, rfl, g.same o (.int _) rfl⟩
  | min =>
    refine CallR.imp (call_min2 hc) fun xs H Q ⟨μ, st, as, v, o, ra, e, g⟩ => ?_
    unfold biV at e
    split at e <;> try contradiction
    cases ra with
    | cons r1 r2 =>
      cases r2 with
      | cons r2 r3 => cases r3; cases r2; cases r1; cases e; exact ⟨_, _, rfl, g.same o (.int _) rfl⟩
  | str =>
    refine CallR.imp call_strIS fun xs H Q ⟨μ, st, as, v, o, ra, e, g⟩ => ?_
    unfold biV at e
    split at e <;> try contradiction
    · cases ra with
      | cons r1 r2 =>
        cases r2
        cases r1 with
        | int i =>
        split at e
        · rename_i hz
          cases e
          exact .inl ⟨_, rfl, log_ok hz, g.same o (.str _) rfl⟩
        · cases e
    · cases ra with
      | cons r1 r2 =>
        cases r2
        cases r1 with
        | str z =>
          cases e
          exact .inr ⟨_, rfl, g.same o (.str _) rfl⟩
  | repr =>
    refine CallR.imp call_reprBS fun xs H Q ⟨μ, st, as, v, o, ra, e, g⟩ => ?_
    unfold biV at e
    split at e <;> try contradiction
    · cases ra with
      | cons r1 r2 => cases r2; cases r1; cases e; exact .inl ⟨_, rfl, g.same o (.str _) rfl⟩
    · cases ra with
      | cons r1 r2 =>
        cases r2; cases r1
        split at e
        · rename_i hz
          cases e
          exact .inr ⟨_, rfl, hz, g.same o (.str _) rfl⟩
        · cases e
  | list =>
    refine CallR.imp call_list_of fun xs H Q ⟨μ, st, as, v, o, ra, e, g⟩ => ?_
    unfold biV at e
    split at e <;> try contradiction
    cases ra with
    | cons r1 r2 =>
      cases r2
      obtain ⟨ys, h1, rfl⟩ := Option.map_eq_some_iff.mp e
      obtain ⟨p, vs, rfl, q, r⟩ := seq_at o r1 h1
      exact ⟨p, vs, rfl, q, g.lst o r⟩
  | tuple =>
    refine CallR.imp call_tuple_of fun xs H Q ⟨μ, st, as, v, o, ra, e, g⟩ => ?_
    unfold biV at e
    split at e <;> try contradiction
    · cases ra with
      | cons r1 r2 =>
        cases r2
        cases e
        cases r1 with
        | tup h1 r1 => exact ⟨_, _, rfl, .inr ⟨h1, g.same o (.tup h1 r1) rfl⟩⟩
    · cases ra with
      | cons r1 r2 =>
        cases r2
        obtain ⟨ys, h1, rfl⟩ := Option.map_eq_some_iff.mp e
        have fin : rdOf _ st = some ys → ∃ p ys, [_] = [V.ref p] ∧ ((SqL X.K H p ys ∧ ∀ l, H l = none → Q (.ref l) (upd H l (.tup ys))) ∨ (SqT X.K H p ys ∧ Q (.ref p) H)) := fun h => by
          obtain ⟨p, vs, e2, q, r⟩ := rd_at o r1 h
          exact ⟨p, vs, congrArg (fun z => [z]) e2, .inl ⟨q, g.tup o r⟩⟩
        cases r1 with
        | @tup zs a vs h2 r2 =>
          cases h1
          exact ⟨_, _, rfl, .inr ⟨h2, g.same o (.tup h2 r2) rfl⟩⟩
        | _ => exact fin h1
  | sum =>
    refine CallR.imp (cr_sum hc) fun xs H Q ⟨μ, st, as, v, o, ra, e, g⟩ => ?_
    unfold biV at e
    split at e <;> try contradiction
    cases ra with
    | cons r1 r2 =>
      cases r2
      split at e
      · rename_i ys hy
        obtain ⟨ns, h1, rfl⟩ := Option.map_eq_some_iff.mp e
        obtain ⟨p, vs, rfl, q, r⟩ := rd_at o r1 hy
        have := ints_at r h1
        subst this
        exact ⟨p, ns, rfl, q, g.same o (.int _) rfl⟩
      · cases e
  | all =>
    refine CallR.imp (cr_all hc) fun xs H Q ⟨μ, st, as, v, o, ra, e, g⟩ => ?_
    unfold biV at e
    split at e <;> try contradiction
    cases ra with
    | cons r1 r2 =>
      cases r2
      split at e
      · rename_i ys hy
        obtain ⟨ns, h1, rfl⟩ := Option.map_eq_some_iff.mp e
        obtain ⟨p, vs, rfl, q, r⟩ := rd_at o r1 hy
        have := bools_at r h1
        subst this
        exact ⟨p, ns, rfl, q, g.same o (.bl _) rfl⟩
      · cases e
  | any =>
    refine CallR.imp (cr_any hc) fun xs H Q ⟨μ, st, as, v, o, ra, e, g⟩ => ?_
    unfold biV at e
    split at e <;> try contradiction
    cases ra with
    | cons r1 r2 =>
      cases r2
      split at e
      · rename_i ys hy
        obtain ⟨ns, h1, rfl⟩ := Option.map_eq_some_iff.mp e
        obtain ⟨p, vs, rfl, q, r⟩ := rd_at o r1 hy
        have := bools_at r h1
        subst this
        exact ⟨p, ns, rfl, q, g.same o (.bl _) rfl⟩
      · cases e

/-! ### methods -/
def mfn : MF → String
  | .append => "list.append" | .split => "str.split" | .partition => "str.partition" | .join => "str.join"
def rM (K : PySem.W.Frag) (f : MF) : V → List V → Hp → VK → Prop := fun x' vs H Q => ∃ μ st x as v st', Ok K μ st H ∧ RV K μ st.length H x x' ∧ RAs K μ st.length H as vs ∧ mtV f x as st = .ok v st' ∧
  ∀ H' v', Stp μ st.length H μ st'.length H' → Ok K μ st' H' → RV K μ st'.length H' v v' → Fr H v v' → Q v' H'
theorem op_mt (f : MF) : MtR X (mfn f) (rM X.K f) := by
  cases f with
  | append =>
    refine MtR.imp (show MtR X "list.append" rAppend from mt_append) fun x xs H Q ⟨μ, st, a, as, v, st', o, ra, rs, e, g⟩ => ?_
    unfold mtV at e
    split at e <;> try contradiction
    cases rs with
    | cons r1 r2 =>
      cases r2
      split at e
      · rename_i zs hz
        split at e
        · rename_i hc
          cases e
          cases ra with
          | loc hn =>
            obtain ⟨vs, h1, h2⟩ := o.cell _ _ hz
            obtain ⟨s1, o1⟩ := o.write hn (h2.app (RVs.one hc.2 r1))
            refine ⟨_, vs, _, rfl, rfl, h1, by rw [← h2.len]; exact hc.1, g _ _ s1 o1 .non trivial⟩
        · cases e
      · cases e
  | split =>
    refine MtR.imp mt_split fun x xs H Q ⟨μ, st, a, as, v, st', o, ra, rs, e, g⟩ => ?_
    unfold mtV at e
    split at e <;> try contradiction
    cases rs with
    | cons r1 r2 =>
      cases r2; cases r1; cases ra
      split at e
      · cases e
      · rename_i hc
        cases e
        refine ⟨_, _, rfl, rfl, ?_, by omega, fun p hp => ?_⟩
        · rw [beq_eq_false_iff_ne]; omega
        · rename_i s1 s2
          have q : ∀ (l : List Str), RVs X.K μ st.length H (l.map PV.str) (l.map V.str) := fun l => by
            induction l with
            | nil => exact .nil
            | cons z l ih => exact .cons rfl (.str z) ih
          exact (show Go X.K μ st H _ Q from g).lst o (q _) p hp
  | partition =>
    refine MtR.imp mt_partition fun x xs H Q ⟨μ, st, a, as, v, st', o, ra, rs, e, g⟩ => ?_
    unfold mtV at e
    split at e <;> try contradiction
    cases rs with
    | cons r1 r2 =>
      cases r2; cases r1; cases ra
      split at e
      · cases e
      · rename_i hc
        cases e
        refine ⟨_, _, rfl, rfl, ?_, by omega, fun p hp => ?_⟩
        · rw [beq_eq_false_iff_ne]; omega
        · exact (show Go X.K μ st H _ Q from g).tup o (.cons rfl (.str _) (.cons rfl (.str _) (.cons rfl (.str _) .nil))) p hp
  | join =>
    refine MtR.imp mt_join fun x xs H Q ⟨μ, st, a, as, v, st', o, ra, rs, e, g⟩ => ?_
    unfold mtV at e
    split at e <;> try contradiction
    cases rs with
    | cons r1 r2 =>
      cases r2; cases ra
      split at e
      · rename_i zs hz
        split at e
        · rename_i ys hy
          split at e
          · rename_i hc
            cases e
            obtain ⟨p, vs, rfl, q, r⟩ := seq_at o r1 hz
            have := strs_at r hy
            subst this
            exact ⟨_, p, ys, rfl, rfl, q, by rw [Nat.mul_comm]; omega, g _ _ StX.refl o (.str _) trivial⟩
          · cases e
        · cases e
      · cases e
end
end U

set_option maxHeartbeats 4000000
/-! U5: expressions: the text is the program, and what the program yields the machine yields. -/
namespace U
open PySem PySem.Spec PyProof.Rows L2

/-! ### is this text that program -/
structure Ct where
  N : List Str
  sc : Scope
  fn : List (Str × Nat)
  cs : List (Str × PV)
  bl : List Str
  ds : List (Str × List (Str × PV))
def visB (sc : Scope) (x : Str) : Bool := match sc.names.lookup x with
  | some .local => true
  | some .cell => true
  | some .free => true
  | _ => false
def glB (sc : Scope) (x : Str) : Bool := match sc.names.lookup x with
  | some .globalImplicit => !(x == ("__debug__" : Str))
  | _ => false
def conB : PV → Const → Bool
  | .non, .none => true
  | .bl a, .bool b => a == b
  | .int a, .int b => decide (a = b)
  | .str a, .str b => decide (a = b)
  | _, _ => false
def bname : BF → Str
  | .len => "len" | .int => "int" | .abs => "abs" | .max => "max" | .min => "min" | .str => "str" | .repr => "repr"
  | .list => "list" | .tuple => "tuple" | .sum => "sum" | .all => "all" | .any => "any"
def tname : Ty → Str
  | .int => "int" | .bool => "bool" | .str => "str" | .tuple => "tuple" | .list => "list"
def tstr : Ty → String
  | .int => "int" | .bool => "bool" | .str => "str" | .tuple => "tuple" | .list => "list"
def mname : MF → Str
  | .append => "append" | .split => "split" | .partition => "partition" | .join => "join"
def MG.own (g : MG) (N : List Str) : List (Str × Nat) := g.slots.map fun i => (N.getD i "", i)
def locB (sc : Scope) (x : Str) : Bool := match sc.names.lookup x with
  | some .local => true
  | some .cell => true
  | _ => false
/-- a target's names; cell: may they be cells of the block itself -/
def mT1 (C : Ct) (i : Nat) (e : Expr) : Bool := match e with
  | .Name x _ => decide (C.N[i]? = some x) && decide (C.sc.names.lookup x = some .local)
  | _ => false
def mTs (C : Ct) : List Nat → List Expr → Bool
  | [], [] => true
  | i :: is, e :: es => mT1 C i e && mTs C is es
  | _, _ => false
def mG (C : Ct) (g : MG) (e : Expr) : Bool := match g, e with
  | .nm i, e => mT1 C i e
  | .tp is, .Tuple es _ _ => mTs C is es
  | _, _ => false
mutual
def mE (C : Ct) : ME → Expr → Bool
  | .var i, e => match e with
    | .Name x _ => decide (C.N[i]? = some x) && visB C.sc x && !(x == ("__debug__" : Str)) && !(x == ("__classdict__" : Str))
    | _ => false
  | .con v, e => match e with
    | .Constant c _ _ => conB v c
    | _ => false
  | .glb x v, e => match e with
    | .Name y _ => decide (y = x) && glB C.sc x && (match C.cs.lookup x with
      | some w => PV.same v w
      | none => false)
    | _ => false
  | .bin o a b, e => match e with
    | .BinOp l op r _ => decide (op = bop o) && mE C a l && mE C b r
    | _ => false
  | .neg a, e => match e with
    | .UnaryOp .USub x _ => mE C a x
    | _ => false
  | .cmp o a b, e => match e with
    | .Compare l [op] [r] _ => decide (op = cop o) && mE C a l && mE C b r
    | _ => false
  | .cmp2 o o' a b c, e => match e with
    | .Compare l [op, op'] [r, r'] _ => decide (op = cop o) && decide (op' = cop o') && mE C a l && mE C b r && mE C c r'
    | _ => false
  | .not a, e => match e with
    | .UnaryOp .Not x _ => mE C a x
    | _ => false
  | .and a b, e => match e with
    | .BoolOp .And [x, y] _ => mE C a x && mE C b y
    | .BoolOp .And (x :: y :: z :: r) p => mE C a x && mE C b (.BoolOp .And (y :: z :: r) p)
    | _ => false
  | .or a b, e => match e with
    | .BoolOp .Or [x, y] _ => mE C a x && mE C b y
    | .BoolOp .Or (x :: y :: z :: r) p => mE C a x && mE C b (.BoolOp .Or (y :: z :: r) p)
    | _ => false
  | .ite t a b, e => match e with
    | .IfExp c x y _ => mE C t c && mE C a x && mE C b y
    | _ => false
  | .fn f as, e => match e with
    | .Call (.Name x _) (y :: ys) [] _ => decide (C.fn.lookup x = some f) && glB C.sc x && mA C as (y :: ys)
    | _ => false
  | .bi f as, e => match e with
    | .Call (.Name x _) (y :: ys) [] _ => decide (x = bname f) && C.bl.contains x && glB C.sc x && mA C as (y :: ys)
    | _ => false
  | .mt f o as, e => match e with
    | .Call (.Attribute x name apos) [y] [] pos => decide (name = mname f) && mE C o x && (apos.endLine == pos.line) && !(match x with
        | .Call _ [] [] _ => true
        | _ => false) && mA C as [y]
    | _ => false
  | .tup as, e => match e with
    | .Tuple es _ _ => mA C as es
    | _ => false
  | .lst as, e => match e with
    | .List es _ => mA C as es
    | _ => false
  | .ix a i, e => match e with
    | .Subscript x y _ => mE C a x && mE C i y
    | _ => false
  | .sl a lo hi, e => match e with
    | .Subscript x (.Slice l h none _) _ => mE C a x && (match l with
        | none => lo.absent
        | some y => !lo.absent && mE C lo y) && (match h with
        | none => hi.absent
        | some y => !hi.absent && mE C hi y)
    | _ => false
  | .lc elt g (.rng a b) has c, e => match e with
    | .ListComp x [⟨tg, .Call (.Name f _) es [] _, ifs, 0⟩] scope _ => decide (f = "range") && C.bl.contains "range" && glB C.sc f &&
        (match es with
        | [y] => (match a with
          | .con (.int 0) => mE C b y
          | _ => false)
        | [z, y] => mE C a z && mE C b y
        | _ => false) && blkC C.N C.sc scope (g.own C.N) && mG { C with sc := relS scope C.sc } g tg &&
        (match has, ifs with
        | true, [t] => mE { C with sc := relS scope C.sc } c t
        | false, [] => true
        | _, _ => false) && mE { C with sc := relS scope C.sc } elt x
    | _ => false
  | .lc elt g src has c, e => match e with
    | .ListComp x [⟨tg, iter, ifs, 0⟩] scope _ => mE C src iter && blkC C.N C.sc scope (g.own C.N) && mG { C with sc := relS scope C.sc } g tg &&
        (match has, ifs with
        | true, [t] => mE { C with sc := relS scope C.sc } c t
        | false, [] => true
        | _, _ => false) && mE { C with sc := relS scope C.sc } elt x
    | _ => false
  | .rng _ _, _ => false
  | .fmt a, e => match e with
    | .FormattedValue x c none _ => decide (c = -1) && mE C a x
    | _ => false
  | .fstr as, e => match e with
    | .JoinedStr (x :: y :: r) _ => mA C as (x :: y :: r)
    | _ => false
  | .dix x kvs a, e => match e with
    | .Subscript (.Name y _) k _ => decide (y = x) && glB C.sc x && (match C.ds.lookup x with
      | some w => sameD kvs w
      | none => false) && mE C a k
    | _ => false
  | .gget x kvs a b, e => match e with
    | .Call (.Attribute (.Name y _) name apos) [k, d] [] pos => decide (y = x) && decide (name = "get") && glB C.sc x && (apos.endLine == pos.line) && (match C.ds.lookup x with
      | some w => sameD kvs w
      | none => false) && mE C a k && mE C b d
    | _ => false
  | .isi t a, e => match e with
    | .Call (.Name f _) [x, .Name y _] [] _ => decide (f = "isinstance") && C.bl.contains "isinstance" && glB C.sc f && decide (y = tname t) && C.bl.contains y && glB C.sc y && mE C a x
    | _ => false
def mA (C : Ct) : MEs → List Expr → Bool
  | .nil, es => match es with
    | [] => true
    | _ => false
  | .cons a as, es => match es with
    | [] => false
    | e :: es => mE C a e && mA C as es
end
end U

set_option maxHeartbeats 4000000
/-! U6: readings of expressions. -/
namespace U
open PySem PySem.Spec PyProof.Rows L2

theorem bind_ok {α β : Type} {r : Res α} {f : α → Store → Res β} {b : β} {st : Store} (h : r.bind f = .ok b st) : ∃ a st1, r = .ok a st1 ∧ f a st1 = .ok b st := by
  cases r with
  | ok a st1 => exact ⟨a, st1, rfl, h⟩
  | bad => cases h
theorem opt_ok {α : Type} {o : Option α} {st st1 : Store} {b : α} (h : opt o st = .ok b st1) : o = some b ∧ st = st1 := by
  cases o with
  | some a => cases h; exact ⟨rfl, rfl⟩
  | none => cases h
theorem isBl_ok {x : PV} {k : Bool} (h : isBl x = some k) : x = .bl k := by
  unfold isBl at h
  split at h
  · cases h; rfl
  · cases h
theorem done_ok {m : Md} {v w : PV} {st st1 : Store} (h : done m v st = .ok w st1) (hm : m ≠ .test) : w = v ∧ st = st1 := by
  cases m with
  | val => cases h; exact ⟨rfl, rfl⟩
  | use => cases h; exact ⟨rfl, rfl⟩
  | test => exact absurd rfl hm

section
variable {K : PySem.W.Frag} {μ μ1 μ2 : Nat → Addr} {L L1 : Nat} {H H1 H2 : Hp} {S : Addr → Prop}
theorem bind_assoc {α β γ : Type} (r : Res α) (f : α → Store → Res β) (g : β → Store → Res γ) : (r.bind f).bind g = r.bind fun a st => (f a st).bind g := by cases r <;> rfl
/-- the names' values -/
structure RE (K : PySem.W.Frag) (μ : Nat → Addr) (L : Nat) (H : Hp) (env : En) (σ : L2.St) : Prop where
  len : env.length = σ.length
  at_ : ∀ (i : Nat) (x : PV), env[i]? = some (some x) → ∃ v : V, σ[i]? = some (some v) ∧ RV K μ L H x v
theorem RE.mono {env : En} {σ : L2.St} (s : Stp μ L H μ1 L1 H1) (r : RE K μ L H env σ) : RE K μ1 L1 H1 env σ :=
  ⟨r.len, fun i x h => let ⟨v, h1, h2⟩ := r.at_ i x h; ⟨v, h1, h2.mono0 s⟩⟩
theorem RE.set {env : En} {σ : L2.St} {x : PV} {v : V} (r : RE K μ L H env σ) (q : RV K μ L H x v) (i : Nat) : RE K μ L H (env.set i (some x)) (σ.set i (some v)) := by
  refine ⟨by simp [r.len], fun j y h => ?_⟩
  by_cases e : i = j
  · subst e
    by_cases hi : i < env.length
    · rw [List.getElem?_set_self hi] at h
      cases h
      exact ⟨v, List.getElem?_set_self (by rw [← r.len]; exact hi), q⟩
    · rw [List.getElem?_eq_none (by simp; omega)] at h; cases h
  · rw [List.getElem?_set_ne e] at h ⊢
    exact r.at_ j y h
theorem RE.drop {env : En} {σ : L2.St} (r : RE K μ L H env σ) (i : Nat) : RE K μ L H (env.set i none) (σ.set i none) := by
  refine ⟨by simp [r.len], fun j y h => ?_⟩
  by_cases e : i = j
  · subst e
    by_cases hi : i < env.length
    · rw [List.getElem?_set_self hi] at h
      cases h
    · rw [List.getElem?_eq_none (by simp; omega)] at h; cases h
  · rw [List.getElem?_set_ne e] at h ⊢
    exact r.at_ j y h
theorem RE.wipe {env : En} {σ : L2.St} (r : RE K μ L H env σ) : ∀ vs : List Nat, RE K μ L H (U.wipe env vs) (L2.wipe σ vs)
  | [] => r
  | v :: vs => by
    unfold U.wipe L2.wipe
    exact (RE.wipe r vs).drop v

/-! ### readings -/
def rd (K : PySem.W.Frag) (m : En → Store → Res PV) : TE := fun σ H Q => ∃ μ env st v st', Ok K μ st H ∧ RE K μ st.length H env σ ∧ m env st = .ok v st' ∧
  ∀ μ' H' v', Stp μ st.length H μ' st'.length H' → Ok K μ' st' H' → RV K μ' st'.length H' v v' → Fr H v v' → Q v' H'
def rdU (K : PySem.W.Frag) (m : En → Store → Res PV) : TE := fun σ H Q => ∃ μ env st v st', Ok K μ st H ∧ RE K μ st.length H env σ ∧ m env st = .ok v st' ∧
  ∀ μ' H' v', Stp μ st.length H μ' st'.length H' → Ok K μ' st' H' → RV K μ' st'.length H' v v' → Q v' H'
def rdT (K : PySem.W.Frag) (m : En → Store → Res PV) : TT := fun σ H Q => ∃ μ env st k st', Ok K μ st H ∧ RE K μ st.length H env σ ∧ m env st = .ok (.bl k) st' ∧
  ∀ μ' H', Stp μ st.length H μ' st'.length H' → Ok K μ' st' H' → Q k H'
def rdA (K : PySem.W.Frag) (m : En → Store → Res (List PV)) : TA := fun σ H Q => ∃ μ env st v st', Ok K μ st H ∧ RE K μ st.length H env σ ∧ m env st = .ok v st' ∧
  ∀ μ' H' v', Stp μ st.length H μ' st'.length H' → Ok K μ' st' H' → RVs K μ' st'.length H' v v' → Q v' H'
def rdC (K : PySem.W.Frag) (m : En → Store → Res (List PV)) : TA := fun σ H Q => ∃ μ env st v st', Ok K μ st H ∧ RE K μ st.length H env σ ∧ m env st = .ok v st' ∧
  ∀ μ' H' v', Stp μ st.length H μ' st'.length H' → Ok K μ' st' H' → RAs K μ' st'.length H' v v' → Q v' H'
def rdO (K : PySem.W.Frag) (m : En → Store → Res PV) (absent : Bool) : TO := fun σ H Q => ∃ μ env st v st' b, Ok K μ st H ∧ RE K μ st.length H env σ ∧ m env st = .ok v st' ∧ bound absent v = some b ∧
  ∀ μ' H', Stp μ st.length H μ' st'.length H' → Ok K μ' st' H' → Q b H'
variable {X : Cx} {e : Expr}
theorem _root_.L2.PE.imp {t t' : TE} (h : PE X e t) (i : ∀ σ H Q, t' σ H Q → t σ H Q) : PE X e t' := ⟨fun pins s σ H Q I q => h.run pins s σ H Q I (i _ _ _ q)⟩
theorem _root_.L2.PT.imp {t t' : TT} (h : PT X e t) (i : ∀ σ H Q, t' σ H Q → t σ H Q) : PT X e t' := ⟨fun pins s σ H Q I q => h.run pins s σ H Q I (i _ _ _ q)⟩
theorem _root_.L2.PW.imp {t t' : TT} (h : PW X e t) (i : ∀ σ H Q, t' σ H Q → t σ H Q) : PW X e t' := ⟨fun wh pins s σ H Q I q => h.run wh pins s σ H Q I (i _ _ _ q)⟩
theorem _root_.L2.PA.imp {es : List Expr} {t t' : TA} (h : PA X es t) (i : ∀ σ H Q, t' σ H Q → t σ H Q) : PA X es t' := ⟨fun pos pins s σ H Q I q => h.run pos pins s σ H Q I (i _ _ _ q)⟩
theorem _root_.L2.PO.imp {o : Option Expr} {t t' : TO} (h : PO X o t) (i : ∀ σ H Q, t' σ H Q → t σ H Q) : PO X o t' := ⟨fun pins s σ H Q I q => h.run pins s σ H Q I (i _ _ _ q)⟩
theorem rd_eq {m m' : En → Store → Res PV} (e : ∀ env st, m' env st = m env st) : ∀ σ H Q, rd K m' σ H Q → rd K m σ H Q := fun σ H Q ⟨μ, env, st, v, st', o, r, h, g⟩ => ⟨μ, env, st, v, st', o, r, by rw [← e]; exact h, g⟩
theorem rdU_of {m : En → Store → Res PV} (h : PE X e (rd X.K m)) : PE X e (rdU X.K m) := h.imp fun σ H Q ⟨μ, env, st, v, st', o, r, h, g⟩ => ⟨μ, env, st, v, st', o, r, h, fun μ' H' v' s o' r' _ => g μ' H' v' s o' r'⟩

/-- an expression's three readings -/
structure SE (X : Cx) (call : Nat → List PV → Store → Res PV) (m : ME) (e : Expr) : Prop where
  val : PE X e (rd X.K (ev call m .val))
  use : PE X e (rdU X.K (ev call m .use))
  test : PT X e (rdT X.K (ev call m .test))
variable {call : Nat → List PV → Store → Res PV} {m : ME}
/-- whose test is its value's truth -/
theorem SE.plain (core : En → Store → Res PV) (h : PE X e (rd X.K core)) (eq : ∀ md env st, ev call m md env st = (core env st).bind fun v st1 => done md v st1)
    (he : ∀ whole, isTrue e X.env whole = (do let v ← whole; standAt e.pos; holding [v] (truthy v))) : SE X call m e := by
  have hv : PE X e (rd X.K (ev call m .val)) := h.imp (rd_eq fun env st => by
    rw [eq]
    cases core env st <;> rfl)
  refine ⟨hv, rdU_of (hv.imp (rd_eq fun env st => by
    rw [eq, eq]
    cases core env st <;> rfl)), ?_⟩
  refine PT.imp (pt_truth h he) fun σ H Q ⟨μ, env, st, k, st', o, r, h, g⟩ => ?_
  rw [eq] at h
  obtain ⟨v, st1, h1, h2⟩ := bind_ok h
  obtain ⟨k', st2, h3, h4⟩ := bind_ok h2
  obtain ⟨h5, rfl⟩ := opt_ok h3
  cases h4
  exact ⟨μ, env, st, v, st', o, r, h1, fun μ' H' v' s o' r' _ => ⟨k, truth_at o' r' h5, g μ' H' s o'⟩⟩
/-- which is a bool -/
theorem SE.bool (h : PE X e (rd X.K (ev call m .val))) (hu : ∀ env st, ev call m .use env st = ev call m .val env st) (t : PT X e (rdT X.K (ev call m .test))) : SE X call m e :=
  ⟨h, rdU_of (h.imp (rd_eq hu)), t⟩

/-! two operands -/
theorem pe_bin {a b : ME} {x y : Expr} {f : PV → PV → Store → Option PV} {g : Expr} (ha : SE X call a x) (hb : SE X call b y) (hr : ∀ {ta tb : TE}, PE X x ta → PE X y tb → PE X g (tOp (rO X.K f) ta tb)) :
    PE X g (rd X.K fun env st => (ev call a .use env st).bind fun x st1 => (ev call b .use env st1).bind fun y st2 => opt (f x y st2) st2) := by
  refine (hr ha.use hb.use).imp fun σ H Q ⟨μ, env, st, v, st', o, r, h, g⟩ => ?_
  obtain ⟨x1, st1, h1, h2⟩ := bind_ok h
  obtain ⟨y1, st2, h3, h4⟩ := bind_ok h2
  obtain ⟨h5, rfl⟩ := opt_ok h4
  exact ⟨μ, env, st, x1, st1, o, r, h1, fun μ1 H1 x' s1 o1 r1 => ⟨μ1, env, st1, y1, st2, o1, r.mono s1, h3, fun μ2 H2 y' s2 o2 r2 => ⟨μ2, st2, x1, y1, v, o2, r1.mono0 s2, r2, h5,
    fun H3 v' s3 o3 r3 f3 => g μ2 H3 v' (Stp.trans s1 (Stp.trans s2 s3)) o3 r3 (f3.back (Stp.trans s1 s2))⟩⟩⟩
theorem pe_binV {a b : ME} {x y : Expr} {f : PV → PV → Store → Option PV} {g : Expr} (ha : SE X call a x) (hb : SE X call b y) (hr : ∀ {ta tb : TE}, PE X x ta → PE X y tb → PE X g (tOp (rO X.K f) ta tb)) :
    PE X g (rd X.K fun env st => (ev call a .use env st).bind fun x st1 => (ev call b .val env st1).bind fun y st2 => opt (f x y st2) st2) := by
  refine (hr ha.use hb.val).imp fun σ H Q ⟨μ, env, st, v, st', o, r, h, g⟩ => ?_
  obtain ⟨x1, st1, h1, h2⟩ := bind_ok h
  obtain ⟨y1, st2, h3, h4⟩ := bind_ok h2
  obtain ⟨h5, rfl⟩ := opt_ok h4
  exact ⟨μ, env, st, x1, st1, o, r, h1, fun μ1 H1 x' s1 o1 r1 => ⟨μ1, env, st1, y1, st2, o1, r.mono s1, h3, fun μ2 H2 y' s2 o2 r2 _ => ⟨μ2, st2, x1, y1, v, o2, r1.mono0 s2, r2, h5,
    fun H3 v' s3 o3 r3 f3 => g μ2 H3 v' (Stp.trans s1 (Stp.trans s2 s3)) o3 r3 (f3.back (Stp.trans s1 s2))⟩⟩⟩
theorem se_bin {o : BOp} {a b : ME} {x y : Expr} {pos : Pos} (ha : SE X call a x) (hb : SE X call b y) : SE X call (.bin o a b) (.BinOp x (bop o) y pos) :=
  .plain _ (pe_bin ha hb fun p q => pe_op (op_bin o) p q) (fun md env st => by rw [ev]; simp only [bind_assoc]) fun _ => rfl
theorem se_ix {a b : ME} {x y : Expr} {pos : Pos} (ha : SE X call a x) (hb : SE X call b y) (hs : PlainIx y) : SE X call (.ix a b) (.Subscript x y pos) :=
  .plain _ (pe_binV ha hb fun p q => pe_ix op_ix p q hs) (fun md env st => by rw [ev]; simp only [bind_assoc]) fun _ => rfl
theorem tC_imp {core : PV} {v' : V} (h : ∀ μ L H, RV K μ L H core v') (f : core.isFl = false) : ∀ σ H Q, rd K (fun _ st => .ok core st) σ H Q → tC v' σ H Q := fun σ H Q ⟨μ, env, st, v, st', o, r, e, g⟩ => by
  cases e
  exact g μ H v' StX.refl o (h _ _ _) (fr_of f)
theorem se_con {v : PV} {c : Const} {k : Nat} {pos : Pos} (h : conB v c = true) : SE X call (.con v) (.Constant c k pos) := by
  refine .plain (fun _ st => .ok v st) ?_ (fun md env st => by rw [ev]; rfl) fun _ => rfl
  unfold conB at h
  split at h
  · exact pe_non.imp (tC_imp (fun _ _ _ => .non) rfl)
  · cases eq_of_beq h
    exact pe_bl.imp (tC_imp (fun _ _ _ => .bl _) rfl)
  · cases of_decide_eq_true h
    exact pe_int.imp (tC_imp (fun _ _ _ => .int _) rfl)
  · cases of_decide_eq_true h
    exact pe_str.imp (tC_imp (fun _ _ _ => .str _) rfl)
  · cases h
theorem se_glb {x : Str} {v : PV} {v' : V} {u : Value} {pos : Pos} (hg : Gl X x) (hm : X.mg x = some u) (hr : RelV v' u) (h : ∀ μ L H, RV X.K μ L H v v') (f : v.isFl = false) (hd : (x == ("__debug__" : Str)) = false) : SE X call (.glb x v) (.Name x pos) :=
  .plain (fun _ st => .ok v st) ((pe_glob hg hm hr hd).imp (tC_imp h f)) (fun md env st => by rw [ev]; rfl) fun _ => rfl
theorem se_var {i : Nat} {x : Str} {pos : Pos} (hN : X.N[i]? = some x) (hv : Vis X.env.scope x) (hd : (x == ("__debug__" : Str)) = false) (hcd : (x == ("__classdict__" : Str)) = false) : SE X call (.var i) (.Name x pos) := by
  have base : PE X (.Name x pos) (tVar i) := pe_var hN hv hd hcd
  refine ⟨base.imp fun σ H Q ⟨μ, env, st, v, st', o, r, h, g⟩ => ?_, base.imp fun σ H Q ⟨μ, env, st, v, st', o, r, h, g⟩ => ?_, PT.imp (pt_truth base fun _ => rfl) fun σ H Q ⟨μ, env, st, k, st', o, r, h, g⟩ => ?_⟩
  · rw [ev] at h
    unfold varV at h
    split at h
    · rename_i w hw
      obtain ⟨v', h1, h2⟩ := r.at_ i w hw
      simp only at h
      split at h
      · cases h
      · rename_i nf
        cases h
        exact ⟨v', h1, g μ H v' StX.refl o h2 (by cases h2 <;> first | trivial | exact absurd rfl (nf _))⟩
    · cases h
  · rw [ev] at h
    unfold varV at h
    split at h
    · rename_i w hw
      obtain ⟨v', h1, h2⟩ := r.at_ i w hw
      cases h
      exact ⟨v', h1, g μ H v' StX.refl o h2⟩
    · cases h
  · rw [ev] at h
    unfold varV at h
    split at h
    · rename_i w hw
      obtain ⟨v', h1, h2⟩ := r.at_ i w hw
      simp only at h
      obtain ⟨k', st2, h3, h4⟩ := bind_ok h
      obtain ⟨h5, rfl⟩ := opt_ok h3
      cases h4
      exact ⟨v', h1, k, truth_at o h2 h5, g μ H StX.refl o⟩
    · cases h
theorem se_neg {a : ME} {x : Expr} {pos : Pos} (ha : SE X call a x) : SE X call (.neg a) (.UnaryOp .USub x pos) := by
  refine .plain (fun env st => (ev call a .val env st).bind fun x st1 => match x with
    | .int i => .ok (.int (-i)) st1
    | _ => .bad) ((pe_un un_neg ha.val).imp fun σ H Q ⟨μ, env, st, v, st', o, r, h, g⟩ => ?_) (fun md env st => ?_) fun _ => rfl
  · obtain ⟨x1, st1, h1, h2⟩ := bind_ok h
    split at h2
    · cases h2
      refine ⟨μ, env, st, _, _, o, r, h1, fun μ1 H1 x' s1 o1 r1 _ => ?_⟩
      cases r1
      exact ⟨_, rfl, g μ1 H1 _ s1 o1 (.int _) trivial⟩
    · cases h2
  · rw [ev, bind_assoc]
    congr 1
    funext x1 st1
    cases x1 <;> rfl
end
end U

set_option maxHeartbeats 4000000
/-! U7: comparisons, tests, displays, arguments, calls. -/
namespace U
open PySem PySem.Spec PyProof.Rows L2
section
variable {K : PySem.W.Frag} {μ : Nat → Addr} {L : Nat} {H : Hp} {X : Cx} {e : Expr} {call : Nat → List PV → Store → Res PV} {m : ME}
/-- the reading of a comparison's two operands -/
theorem cmp_imp {a b : ME} {f : PV → PV → Store → Option Bool} (σ : L2.St) (H : Hp) (Q : Bool → Hp → Prop)
    (q : ∃ μ env st k st', Ok X.K μ st H ∧ RE X.K μ st.length H env σ ∧ ((ev call a .use env st).bind fun x st1 => (ev call b .use env st1).bind fun y st2 => (opt (f x y st2) st2).bind fun k st3 => Res.ok (PV.bl k) st3) = Res.ok (PV.bl k) st' ∧
      ∀ μ' H', Stp μ st.length H μ' st'.length H' → Ok X.K μ' st' H' → Q k H') :
    tOp (rC X.K f) (rdU X.K (ev call a .use)) (rdU X.K (ev call b .use)) σ H fun v H' => ∃ k, v = .bl k ∧ Q k H' := by
  obtain ⟨μ, env, st, k, st', o, r, h, g⟩ := q
  obtain ⟨x1, st1, h1, h2⟩ := bind_ok h
  obtain ⟨y1, st2, h3, h4⟩ := bind_ok h2
  obtain ⟨k1, st3, h5, h6⟩ := bind_ok h4
  obtain ⟨h7, rfl⟩ := opt_ok h5
  cases h6
  exact ⟨μ, env, st, x1, st1, o, r, h1, fun μ1 H1 x' s1 o1 r1 => ⟨μ1, env, st1, y1, _, o1, r.mono s1, h3, fun μ2 H2 y' s2 o2 r2 => ⟨μ2, _, x1, y1, _, o2, r1.mono0 s2, r2, h7, _, rfl, g μ2 H2 (Stp.trans s1 s2) o2⟩⟩⟩
/-- a value that is a bool, from the wish of a bool -/
theorem rd_bl {core : En → Store → Res PV} {t : TE} (hb : ∀ env st v st', core env st = .ok v st' → ∃ k, v = .bl k)
    (i : ∀ σ H (Q : Bool → Hp → Prop), rdT K core σ H Q → t σ H fun v H' => ∃ k, v = .bl k ∧ Q k H') (mono : ∀ σ H (Q Q' : VK), (∀ v H', Q v H' → Q' v H') → t σ H Q → t σ H Q') : ∀ σ H Q, rd K core σ H Q → t σ H Q := fun σ H Q ⟨μ, env, st, v, st', o, r, h, g⟩ => by
  obtain ⟨k, rfl⟩ := hb env st v st' h
  refine mono σ H _ _ (fun v H' ⟨k', e, q⟩ => ?_) (i σ H (fun k' H' => Q (.bl k') H') ⟨μ, env, st, k, st', o, r, h, fun μ' H' s o' => g μ' H' _ s o' (.bl k) trivial⟩)
  subst e
  exact q
theorem rdU_mono {core : En → Store → Res PV} (σ : L2.St) (H : Hp) (Q Q' : VK) (i : ∀ v H', Q v H' → Q' v H') : rdU K core σ H Q → rdU K core σ H Q' := fun ⟨μ, env, st, v, st', o, r, h, g⟩ => ⟨μ, env, st, v, st', o, r, h, fun μ' H' v' s o' r' => i _ _ (g μ' H' v' s o' r')⟩
theorem rC_mono {f : PV → PV → Store → Option Bool} (x y : V) (H : Hp) (Q Q' : VK) (i : ∀ v H', Q v H' → Q' v H') : rC K f x y H Q → rC K f x y H Q' := fun ⟨μ, st, a, b, k, o, r1, r2, h, g⟩ => ⟨μ, st, a, b, k, o, r1, r2, h, i _ _ g⟩
theorem cmp_bl {a b : ME} {f : PV → PV → Store → Option Bool} (env : En) (st : Store) (v : PV) (st' : Store) (h : ((ev call a .use env st).bind fun x st1 => (ev call b .use env st1).bind fun y st2 => (opt (f x y st2) st2).bind fun k st3 => Res.ok (PV.bl k) st3) = Res.ok v st') : ∃ k, v = PV.bl k := by
  obtain ⟨x1, st1, h1, h2⟩ := bind_ok h
  obtain ⟨y1, st2, h3, h4⟩ := bind_ok h2
  obtain ⟨k1, st3, h5, h6⟩ := bind_ok h4
  cases h6
  exact ⟨k1, rfl⟩
theorem se_cmp {o : COp} {a b : ME} {x y : Expr} {pos : Pos} (ha : SE X call a x) (hb : SE X call b y) (hm : behindInMarks (cop o) y = false) : SE X call (.cmp o a b) (.Compare x [cop o] [y] pos) := by
  refine .bool ?_ (fun env st => by rw [ev, ev]) ?_
  · refine (pe_cmpR (op_cmp o) ha.use hb.use hm).imp ?_
    refine rd_bl (fun env st v st' h => by rw [ev] at h; exact cmp_bl env st v st' h) (fun σ H Q ⟨μ, env, st, k, st', o, r, h, g⟩ => by rw [ev] at h; exact cmp_imp σ H Q ⟨μ, env, st, k, st', o, r, h, g⟩) ?_
    exact fun σ H Q Q' i q => rdU_mono σ H _ _ (fun x' H1 q1 => rdU_mono σ H1 _ _ (fun y' H2 q2 => rC_mono x' y' H2 Q Q' i q2) q1) q
  · exact (pt_cmpR (op_cmp o) ha.use hb.use hm).imp fun σ H Q ⟨μ, env, st, k, st', o, r, h, g⟩ => by
      rw [ev] at h
      exact cmp_imp σ H Q ⟨μ, env, st, k, st', o, r, h, g⟩

/-- a < b < c -/
theorem cmp2_imp {a b c : ME} {f f' : PV → PV → Store → Option Bool} (σ : L2.St) (H : Hp) (Q : Bool → Hp → Prop)
    (q : ∃ μ env st k st', Ok X.K μ st H ∧ RE X.K μ st.length H env σ ∧ ((ev call a .use env st).bind fun x st1 => (ev call b .use env st1).bind fun y st2 => (opt (f x y st2) st2).bind fun k st3 =>
      if k then (ev call c .use env st3).bind fun z st4 => (opt (f' y z st4) st4).bind fun k' st5 => Res.ok (PV.bl k') st5 else Res.ok (PV.bl false) st3) = Res.ok (PV.bl k) st' ∧
      ∀ μ' H', Stp μ st.length H μ' st'.length H' → Ok X.K μ' st' H' → Q k H') :
    tChain (rC X.K f) (rC X.K f') (rdU X.K (ev call a .use)) (rdU X.K (ev call b .use)) (rdU X.K (ev call c .use)) σ H fun v H' => ∃ k, v = .bl k ∧ Q k H' := by
  obtain ⟨μ, env, st, k, st', o, r, h, g⟩ := q
  obtain ⟨x1, st1, h1, h2⟩ := bind_ok h
  obtain ⟨y1, st2, h3, h4⟩ := bind_ok h2
  obtain ⟨k1, st3, h5, h6⟩ := bind_ok h4
  obtain ⟨h7, rfl⟩ := opt_ok h5
  refine ⟨μ, env, st, x1, st1, o, r, h1, fun μ1 H1 x' s1 o1 r1 => ⟨μ1, env, st1, y1, st2, o1, r.mono s1, h3, fun μ2 H2 y' s2 o2 r2 => ⟨μ2, st2, x1, y1, k1, o2, r1.mono0 s2, r2, h7, k1, rfl, ?_⟩⟩⟩
  cases k1 with
  | false =>
    cases h6
    exact iteF ⟨false, rfl, g μ2 H2 (Stp.trans s1 s2) o2⟩
  | true =>
    obtain ⟨z1, st4, h8, h9⟩ := bind_ok h6
    obtain ⟨k2, st5, h10, h11⟩ := bind_ok h9
    obtain ⟨h12, rfl⟩ := opt_ok h10
    cases h11
    exact iteT ⟨μ2, env, _, z1, _, o2, r.mono (Stp.trans s1 s2), h8, fun μ3 H3 z' s3 o3 r3 => ⟨μ3, _, y1, z1, _, o3, r2.mono0 s3, r3, h12, _, rfl, g μ3 H3 (Stp.trans s1 (Stp.trans s2 s3)) o3⟩⟩
theorem cmp2_bl {a b c : ME} {f f' : PV → PV → Store → Option Bool} (env : En) (st : Store) (v : PV) (st' : Store) (h : ((ev call a .use env st).bind fun x st1 => (ev call b .use env st1).bind fun y st2 => (opt (f x y st2) st2).bind fun k st3 =>
      if k then (ev call c .use env st3).bind fun z st4 => (opt (f' y z st4) st4).bind fun k' st5 => Res.ok (PV.bl k') st5 else Res.ok (PV.bl false) st3) = Res.ok v st') : ∃ k, v = PV.bl k := by
  obtain ⟨x1, st1, h1, h2⟩ := bind_ok h
  obtain ⟨y1, st2, h3, h4⟩ := bind_ok h2
  obtain ⟨k1, st3, h5, h6⟩ := bind_ok h4
  cases k1 with
  | false => cases h6; exact ⟨false, rfl⟩
  | true =>
    obtain ⟨z1, st4, h8, h9⟩ := bind_ok h6
    obtain ⟨k2, st5, h10, h11⟩ := bind_ok h9
    cases h11
    exact ⟨k2, rfl⟩
theorem se_cmp2 {o o' : COp} {a b c : ME} {x y z : Expr} {pos : Pos} (ha : SE X call a x) (hb : SE X call b y) (hc : SE X call c z) (hm : lastMarks [cop o, cop o'] [y, z] = false) :
    SE X call (.cmp2 o o' a b c) (.Compare x [cop o, cop o'] [y, z] pos) := by
  refine .bool ?_ (fun env st => by rw [ev, ev]) ?_
  · refine (pe_chain (op_cmp o) (op_cmp o') ha.use hb.use hc.use hm).imp ?_
    refine rd_bl (fun env st v st' h => by rw [ev] at h; exact cmp2_bl env st v st' h) (fun σ H Q ⟨μ, env, st, k, st', o, r, h, g⟩ => by rw [ev] at h; exact cmp2_imp σ H Q ⟨μ, env, st, k, st', o, r, h, g⟩) ?_
    refine fun σ H Q Q' i q => rdU_mono σ H _ _ (fun x' H1 q1 => rdU_mono σ H1 _ _ (fun y' H2 q2 => rC_mono x' y' H2 _ _ (fun v H3 ⟨k, e, q3⟩ => ⟨k, e, ?_⟩) q2) q1) q
    cases k with
    | false => exact iteF (i _ _ (by simpa using q3))
    | true => exact iteT (rdU_mono σ H3 _ _ (fun z' H4 q4 => rC_mono y' z' H4 _ _ i q4) (by simpa using q3))
  · exact (pt_chain (op_cmp o) (op_cmp o') ha.use hb.use hc.use hm).imp fun σ H Q ⟨μ, env, st, k, st', o, r, h, g⟩ => by
      rw [ev] at h
      exact cmp2_imp σ H Q ⟨μ, env, st, k, st', o, r, h, g⟩

/-! ### not, and, or, if -/
theorem ev_not1 {a : ME} {env : En} {st : Store} : ev call (.not a) .test env st = (ev call a .test env st).bind fun x st1 => (opt (isBl x) st1).bind fun k st2 => .ok (.bl (!k)) st2 := rfl
theorem ev_not2 {a : ME} {env : En} {st : Store} : ev call (.not a) .val env st = (ev call a .use env st).bind fun x st1 => (opt (truth x st1) st1).bind fun k st2 => .ok (.bl (!k)) st2 := rfl
theorem ev_not3 {a : ME} {env : En} {st : Store} : ev call (.not a) .use env st = (ev call a .use env st).bind fun x st1 => (opt (truth x st1) st1).bind fun k st2 => .ok (.bl (!k)) st2 := rfl
theorem se_not {a : ME} {x : Expr} {pos : Pos} (ha : SE X call a x) : SE X call (.not a) (.UnaryOp .Not x pos) := by
  refine .bool ((pe_notT ha.use).imp fun σ H Q ⟨μ, env, st, v, st', o, r, h, g⟩ => ?_) (fun env st => ev_not3.trans ev_not2.symm) ((pt_not ha.test).imp fun σ H Q ⟨μ, env, st, k, st', o, r, h, g⟩ => ?_)
  · rw [ev_not2] at h
    obtain ⟨x1, st1, h1, h2⟩ := bind_ok h
    obtain ⟨k1, st2, h3, h4⟩ := bind_ok h2
    obtain ⟨h5, rfl⟩ := opt_ok h3
    cases h4
    exact ⟨μ, env, st, x1, _, o, r, h1, fun μ1 H1 x' s1 o1 r1 => ⟨k1, truth_at o1 r1 h5, g μ1 H1 _ s1 o1 (.bl _) trivial⟩⟩
  · rw [ev_not1] at h
    obtain ⟨x1, st1, h1, h2⟩ := bind_ok h
    obtain ⟨k1, st2, h3, h4⟩ := bind_ok h2
    obtain ⟨h5, rfl⟩ := opt_ok h3
    cases isBl_ok h5
    cases h4
    exact ⟨μ, env, st, k1, _, o, r, h1, g⟩
/-- a chain of and, or: its test whatever its whole is -/
structure SB (X : Cx) (call : Nat → List PV → Store → Res PV) (m : ME) (e : Expr) : Prop where
  val : PE X e (rd X.K (ev call m .val))
  use : PE X e (rdU X.K (ev call m .use))
  test : PW X e (rdT X.K (ev call m .test))
theorem SB.se {m : ME} {e : Expr} (h : SB X call m e) : SE X call m e := ⟨h.val, h.use, h.test.pt⟩
theorem SE.one {m : ME} {x : Expr} {op : BoolOp} {pos : Pos} (h : SE X call m x) : SB X call m (.BoolOp op [x] pos) := by
  refine ⟨pe_one h.val, pe_one h.use, ?_⟩
  cases op with
  | And => exact pw_and1 h.test
  | Or => exact pw_or1 h.test
theorem sb_and {a b : ME} {x y : Expr} {ys : List Expr} {pos : Pos} (ha : SE X call a x) (hb : SB X call b (.BoolOp .And (y :: ys) pos)) : SB X call (.and a b) (.BoolOp .And (x :: y :: ys) pos) := by
  refine ⟨(pe_and ha.val hb.val).imp fun σ H Q ⟨μ, env, st, v, st', o, r, h, g⟩ => ?_, (pe_and ha.use hb.use).imp fun σ H Q ⟨μ, env, st, v, st', o, r, h, g⟩ => ?_, (pw_and ha.test hb.test).imp fun σ H Q ⟨μ, env, st, k, st', o, r, h, g⟩ => ?_⟩
  all_goals
    rw [ev] at h
    obtain ⟨x1, st1, h1, h2⟩ := bind_ok h
    obtain ⟨k1, st2, h3, h4⟩ := bind_ok h2
    obtain ⟨h5, rfl⟩ := opt_ok h3
    cases isBl_ok h5
  · refine ⟨μ, env, st, _, _, o, r, h1, fun μ1 H1 x' s1 o1 r1 _ => ?_⟩
    cases r1
    refine ⟨k1, rfl, ?_⟩
    cases k1 with
    | true => exact iteT ⟨μ1, env, _, v, st', o1, r.mono s1, h4, fun μ2 H2 v' s2 o2 r2 f2 => g μ2 H2 v' (Stp.trans s1 s2) o2 r2 (f2.back s1)⟩
    | false => cases h4; exact iteF (g μ1 H1 _ s1 o1 (.bl _) trivial)
  · refine ⟨μ, env, st, _, _, o, r, h1, fun μ1 H1 x' s1 o1 r1 => ?_⟩
    cases r1
    refine ⟨k1, rfl, ?_⟩
    cases k1 with
    | true => exact iteT ⟨μ1, env, _, v, st', o1, r.mono s1, h4, fun μ2 H2 v' s2 o2 r2 => g μ2 H2 v' (Stp.trans s1 s2) o2 r2⟩
    | false => cases h4; exact iteF (g μ1 H1 _ s1 o1 (.bl _))
  · refine ⟨μ, env, st, k1, _, o, r, h1, fun μ1 H1 s1 o1 => ?_⟩
    cases k1 with
    | true => exact iteT ⟨μ1, env, _, k, st', o1, r.mono s1, h4, fun μ2 H2 s2 o2 => g μ2 H2 (Stp.trans s1 s2) o2⟩
    | false => cases h4; exact iteF (g μ1 H1 s1 o1)
theorem sb_or {a b : ME} {x y : Expr} {ys : List Expr} {pos : Pos} (ha : SE X call a x) (hb : SB X call b (.BoolOp .Or (y :: ys) pos)) : SB X call (.or a b) (.BoolOp .Or (x :: y :: ys) pos) := by
  refine ⟨(pe_or ha.val hb.val).imp fun σ H Q ⟨μ, env, st, v, st', o, r, h, g⟩ => ?_, (pe_or ha.use hb.use).imp fun σ H Q ⟨μ, env, st, v, st', o, r, h, g⟩ => ?_, (pw_or ha.test hb.test).imp fun σ H Q ⟨μ, env, st, k, st', o, r, h, g⟩ => ?_⟩
  all_goals
    rw [ev] at h
    obtain ⟨x1, st1, h1, h2⟩ := bind_ok h
    obtain ⟨k1, st2, h3, h4⟩ := bind_ok h2
    obtain ⟨h5, rfl⟩ := opt_ok h3
    cases isBl_ok h5
  · refine ⟨μ, env, st, _, _, o, r, h1, fun μ1 H1 x' s1 o1 r1 _ => ?_⟩
    cases r1
    refine ⟨k1, rfl, ?_⟩
    cases k1 with
    | false => exact iteF ⟨μ1, env, _, v, st', o1, r.mono s1, h4, fun μ2 H2 v' s2 o2 r2 f2 => g μ2 H2 v' (Stp.trans s1 s2) o2 r2 (f2.back s1)⟩
    | true => cases h4; exact iteT (g μ1 H1 _ s1 o1 (.bl _) trivial)
  · refine ⟨μ, env, st, _, _, o, r, h1, fun μ1 H1 x' s1 o1 r1 => ?_⟩
    cases r1
    refine ⟨k1, rfl, ?_⟩
    cases k1 with
    | false => exact iteF ⟨μ1, env, _, v, st', o1, r.mono s1, h4, fun μ2 H2 v' s2 o2 r2 => g μ2 H2 v' (Stp.trans s1 s2) o2 r2⟩
    | true => cases h4; exact iteT (g μ1 H1 _ s1 o1 (.bl _))
  · refine ⟨μ, env, st, k1, _, o, r, h1, fun μ1 H1 s1 o1 => ?_⟩
    cases k1 with
    | false => exact iteF ⟨μ1, env, _, k, st', o1, r.mono s1, h4, fun μ2 H2 s2 o2 => g μ2 H2 (Stp.trans s1 s2) o2⟩
    | true => cases h4; exact iteT (g μ1 H1 s1 o1)

/-! ### arguments and displays -/
/-- an argument list's two readings -/
structure SA (X : Cx) (call : Nat → List PV → Store → Res PV) (as : MEs) (es : List Expr) : Prop where
  kept : PA X es (rdA X.K (evA call as))
  used : PA X es (rdC X.K (evCs call as))
theorem sa_nil : SA X call .nil [] := by
  refine ⟨pa_nil.imp fun σ H Q ⟨μ, env, st, v, st', o, r, h, g⟩ => ?_, pa_nil.imp fun σ H Q ⟨μ, env, st, v, st', o, r, h, g⟩ => ?_⟩
  · rw [evA] at h; cases h
    exact g μ H [] StX.refl o .nil
  · rw [evCs] at h; cases h
    exact g μ H [] StX.refl o .nil
theorem sa_cons {a : ME} {as : MEs} {x : Expr} {xs : List Expr} (ha : SE X call a x) (hs : SA X call as xs) (he : starEach (x :: xs) X.env = (false, eval x X.env) :: starEach xs X.env) : SA X call (.cons a as) (x :: xs) := by
  refine ⟨(pa_cons ha.val hs.kept he).imp fun σ H Q ⟨μ, env, st, v, st', o, r, h, g⟩ => ?_, (pa_cons ha.use hs.used he).imp fun σ H Q ⟨μ, env, st, v, st', o, r, h, g⟩ => ?_⟩
  · rw [evA] at h
    obtain ⟨x1, st1, h1, h2⟩ := bind_ok h
    obtain ⟨y1, st2, h3, h4⟩ := bind_ok h2
    cases h4
    refine ⟨μ, env, st, x1, st1, o, r, h1, fun μ1 H1 x' s1 o1 r1 f1 => ?_⟩
    obtain ⟨μe, se, oe, re, fe, _⟩ := Ok.esc s1 o1 r1 f1
    exact ⟨μe, env, _, y1, st', oe, r.mono se, h3, fun μ2 H2 ys s2 o2 r2 => g μ2 H2 _ (Stp.trans se s2) o2 (.cons fe (re.mono0 s2) r2)⟩
  · rw [evCs] at h
    obtain ⟨x1, st1, h1, h2⟩ := bind_ok h
    obtain ⟨y1, st2, h3, h4⟩ := bind_ok h2
    cases h4
    exact ⟨μ, env, st, x1, st1, o, r, h1, fun μ1 H1 x' s1 o1 r1 => ⟨μ1, env, st1, y1, st', o1, r.mono s1, h3, fun μ2 H2 ys s2 o2 r2 => g μ2 H2 _ (Stp.trans s1 s2) o2 (.cons (r1.mono0 s2) r2)⟩⟩
theorem se_tup {as : MEs} {es : List Expr} {k : Nat} {pos : Pos} (hs : SA X call as es) : SE X call (.tup as) (.Tuple es k pos) := by
  refine .plain (fun env st => (evA call as env st).bind fun xs st1 => if xs.length ≤ sizeLine then .ok (.tup xs) st1 else .bad) ((pe_tup hs.kept).imp fun σ H Q ⟨μ, env, st, v, st', o, r, h, g⟩ => ?_) (fun md env st => ?_) fun _ => rfl
  · obtain ⟨xs, st1, h1, h2⟩ := bind_ok h
    split at h2
    · rename_i hz
      cases h2
      refine ⟨μ, env, st, xs, st', o, r, h1, fun μ1 H1 vs s1 o1 r1 => ⟨by rw [← r1.len]; exact hz, fun p hp => ?_⟩⟩
      exact g μ1 _ _ (Stp.trans s1 (Stp.laid hp)) (o1.laid hp) (.tup (SqT.of upd_same) (RVs.mono (Stp.laid hp) r1)) trivial
    · cases h2
  · rw [ev, bind_assoc]
    congr 1
    funext xs st1
    split <;> rfl
theorem se_lst {as : MEs} {es : List Expr} {pos : Pos} (hs : SA X call as es) : SE X call (.lst as) (.List es pos) := by
  refine .plain (fun env st => (evA call as env st).bind fun xs st1 => if xs.length ≤ sizeLine then .ok (.fl xs) st1 else .bad) ((pe_lst hs.kept).imp fun σ H Q ⟨μ, env, st, v, st', o, r, h, g⟩ => ?_) (fun md env st => ?_) fun _ => rfl
  · obtain ⟨xs, st1, h1, h2⟩ := bind_ok h
    split at h2
    · rename_i hz
      cases h2
      refine ⟨μ, env, st, xs, st', o, r, h1, fun μ1 H1 vs s1 o1 r1 => ⟨by rw [← r1.len]; exact hz, fun p hp => ?_⟩⟩
      exact g μ1 _ _ (Stp.trans s1 (Stp.laid hp)) (o1.laid hp) (.fl upd_same (o1.apart hp) (RVs.mono (Stp.laid hp) r1)) (s1.there _ hp)
    · cases h2
  · rw [ev, bind_assoc]
    congr 1
    funext xs st1
    split <;> rfl

/-! ### calls of built-ins -/
theorem se_bi {f : BF} {as : MEs} {es : List Expr} {g : Expr} (hs : SA X call as es) (h : ∀ {r : List V → Hp → VK → Prop} {t : TA}, CallR X (bfn f) r → PA X es t → PE X g (tCB r t)) (hc : X.calm = true)
    (he : ∀ whole, isTrue g X.env whole = (do let v ← whole; standAt g.pos; holding [v] (truthy v))) : SE X call (.bi f as) g := by
  refine .plain (fun env st => (evCs call as env st).bind fun xs st1 => opt (biV f xs st1) st1) ((h (op_bi hc f) hs.used).imp fun σ H Q ⟨μ, env, st, v, st', o, r, h, g⟩ => ?_) (fun md env st => by rw [ev, bind_assoc]) he
  obtain ⟨xs, st1, h1, h2⟩ := bind_ok h
  obtain ⟨h3, rfl⟩ := opt_ok h2
  exact ⟨μ, env, st, xs, _, o, r, h1, fun μ1 H1 vs s1 o1 r1 => ⟨μ1, _, xs, v, o1, r1, h3, fun H2 v' s2 o2 r2 f2 => g μ1 H2 v' (Stp.trans s1 s2) o2 r2 (f2.back s1)⟩⟩
/-! ### isinstance -/
theorem ty_of {K : PySem.W.Frag} {μ : Nat → Addr} {st : Store} {H : Hp} {x : PV} {v : V} (o : Ok K μ st H) (r : RV K μ st.length H x v) : ∃ t' : Value, TyX K H v t' ∧ ∀ t : Ty, PySem.W.kitOne K t' (.type (tstr t)) = some (isiV t x) := by
  cases r with
  | non => exact ⟨_, .base .non, fun t => by cases t <;> exact kit_ty (by simp only [tstr, isiV]; decide +kernel)⟩
  | bl b => exact ⟨_, .base (.bl b), fun t => by cases t <;> exact kit_ty (by simp only [tstr, isiV]; decide +kernel)⟩
  | int i => exact ⟨_, .base (.int i), fun t => by cases t <;> exact kit_ty (by simp only [tstr, isiV]; decide +kernel)⟩
  | str s => exact ⟨_, .base (.str s), fun t => by cases t <;> exact kit_ty (by simp only [tstr, isiV]; decide +kernel)⟩
  | @tup xs a vs h r =>
    have hk : ∀ t : Ty, PySem.W.kitOne K (.type "tuple") (.type (tstr t)) = some (isiV t (.tup xs)) := fun t => by cases t <;> exact kit_ty (by simp only [tstr, isiV]; decide +kernel)
    rcases h with (h | ⟨ob, h⟩) | ⟨ob, _, _, h, c, _⟩
    · exact ⟨_, .base (.tup h), hk⟩
    · exact ⟨_, .fTuple h, hk⟩
    · exact ⟨_, .kTuple h c, hk⟩
  | @loc n h =>
    obtain ⟨vs, h, _⟩ : ∃ vs, H (μ n) = some (.lst vs) ∧ True := by
      have e : st[n]? = some st[n] := by simp [h]
      rcases q : st[n] with ⟨xs⟩
      rw [q] at e
      obtain ⟨vs, h, _⟩ := o.cell n xs e
      exact ⟨vs, h, trivial⟩
    exact ⟨_, .base (.lst h), fun t => by cases t <;> exact kit_ty (by simp only [tstr, isiV]; decide +kernel)⟩
  | fl h n r => exact ⟨_, .base (.lst h), fun t => by cases t <;> exact kit_ty (by simp only [tstr, isiV]; decide +kernel)⟩
  | @rol xs a vs h r =>
    have hk : ∀ t : Ty, PySem.W.kitOne K (.type "list") (.type (tstr t)) = some (isiV t (.rol xs)) := fun t => by cases t <;> exact kit_ty (by simp only [tstr, isiV]; decide +kernel)
    rcases h with ⟨ob, h⟩ | ⟨ob, _, _, h, c, _⟩
    · exact ⟨_, .base (.frz h), hk⟩
    · exact ⟨_, .kList h c, hk⟩
theorem se_isi {t : Ty} {a : ME} {x : Expr} {p p2 pos : Pos} (ha : SE X call a x) (hg : Gl X "isinstance") (hm : X.mg "isinstance" = none) (hg2 : Gl X (tname t)) (hm2 : X.mg (tname t) = none) (hx : starEach (x :: [.Name (tname t) p2]) X.env = (false, eval x X.env) :: starEach [.Name (tname t) p2] X.env) : SE X call (.isi t a) (.Call (.Name "isinstance" p) [x, .Name (tname t) p2] [] pos) := by
  have pt : PE X (.Name (tname t) p2) (tC (.ty (tstr t))) := by cases t <;> exact pe_bltn hg2 hm2 (by decide +kernel) rfl
  have pa : PA X [x, .Name (tname t) p2] (tCons (rdU X.K (ev call a .use)) (tCons (tC (.ty (tstr t))) tNil)) := pa_cons ha.use (pa_cons pt pa_nil rfl) hx
  refine .plain (fun env st => (ev call a .use env st).bind fun x st1 => .ok (.bl (isiV t x)) st1) ((pe_callB call_isi hg hm (by decide +kernel) pa (by decide) (by decide) hx rfl).imp fun σ H Q ⟨μ, env, st, v, st', o, r, h, g⟩ => ?_) (fun md env st => by rw [ev, bind_assoc]; rfl) fun _ => rfl
  obtain ⟨x1, st1, h1, h2⟩ := bind_ok h
  cases h2
  refine ⟨μ, env, st, x1, _, o, r, h1, fun μ1 H1 x' s1 o1 r1 => ?_⟩
  obtain ⟨t', c1, c2⟩ := ty_of o1 r1
  exact ⟨x', .ty (tstr t), t', _, isiV t x1, rfl, .ty _, c1, c2 t, g μ1 H1 (.bl _) s1 o1 (.bl _) trivial⟩
/-! ### a dict of the module -/
/-- d.get(y, z), d a dict of the module -/
def tKGet (es : Array DictEntry) (ty tx : TE) : TE := fun σ H Q => ty σ H fun y H2 => tx σ H2 fun z H3 => ∃ (k : Str) (r : Option Value) (v : V), y = .str k ∧ findBy Value.isStrOf es k = r ∧ (match r with | some u => RelV v u | none => v = z) ∧ Q v H3
theorem pe_kget2 {d : Addr} {es : Array DictEntry} {n : Nat} {o e f : Expr} {apos cpos : Pos} {ty tx : TE} (D : KDict X.K X.w d es n) (ho : PE X o (tC (.ref d))) (he : PE X e ty) (hf : PE X f tx) (m : M2 X o "get" apos e f cpos) : PE X (.Call (.Attribute o "get" apos) [e, f] [] cpos) (tKGet es ty tx) := by
  refine ⟨fun pins s σ H Q I h => ?_⟩
  have h' : tC (.ref d) σ H fun x H1 => x = .ref d ∧ tKGet es ty tx σ H1 Q := ⟨rfl, h⟩
  refine wpAny_Call_method m.base m.few m.line PySem.F.plainAttrs_dict PySem.F.slot_dict_get PySem.F.type_dict_get (thn (ho.run pins s σ H _ I h') fun u s1 ⟨x, H1, I1, rx, ex, q1⟩ => ?_)
  subst ex
  obtain rfl : u = Value.ref d := rx
  refine ⟨kd_type D I1, fun b q => ?_, ?_⟩
  · cases q
    exact ⟨_, I1.kIn d _ D.at_, rfl⟩
  rw [m.trees]
  refine Calls.callWith_builtin rfl (Calls.evalArgs_plain (Calls.spliced_cons (thn (he.run pins s1 σ H1 _ I1 q1) fun iv s2 ⟨y, H2, I2, ry, q2⟩ =>
    Calls.spliced_cons (thn (hf.run pins s2 σ H2 _ I2 q2) fun fv s3 ⟨z, H3, I3, rz, k, r, v, ey, en, hv, q3⟩ => Calls.spliced_nil ?_))))
  subst ey
  obtain ⟨tk, rfl⟩ := ry
  refine call_meetsIn PySem.F.slot_dict_get (kd_type D I3) PySem.F.entry_dict_get (PySem.F.args_dict_get_3 _ _ _) (meets_dict_get_default (strKind X.prog X.w) d (PySem.strKind_is X.prog X.w k tk) D.low fv) ⟨_, PySem.W.mapOf_K (prog := X.prog) I3.kIn D.at_ D.lit, ?_⟩
  rw [en]
  cases r with
  | some u0 => exact ⟨v, H3, I3.tok _, hv, q3⟩
  | none => subst hv; exact ⟨v, H3, I3.tok _, rz, q3⟩
/-- a written dict's entries and what they are -/
def DRel : List DictEntry → List (Str × PV) → Prop
  | [], [] => True
  | e :: r, (x, v) :: q => (∃ t w, e.key = .str x t ∧ flV v = some w ∧ RelV w e.val) ∧ DRel r q
  | _, _ => False
theorem DRel.find : ∀ {l : List DictEntry} {kvs : List (Str × PV)}, DRel l kvs → ∀ z : Str, match kvs.lookup z with
    | some v => ∃ w u, flV v = some w ∧ findBy Value.isStrOf l.toArray z = some u ∧ RelV w u
    | none => findBy Value.isStrOf l.toArray z = none
  | [], [], _, z => rfl
  | [], _ :: _, h, _ => h.elim
  | _ :: _, [], h, _ => h.elim
  | e :: r, (x, v) :: q, ⟨⟨t, w, h1, h2, h3⟩, h4⟩, z => by
    have ih := DRel.find h4 z
    have ef : findBy Value.isStrOf (e :: r).toArray z = if x == z then some e.val else findBy Value.isStrOf r.toArray z := by
      unfold findBy
      rw [List.find?_toArray, List.find?_toArray, List.find?_cons, h1]
      show Option.map _ (match x == z with | true => some e | false => List.find? _ r) = _
      cases x == z <;> rfl
    rw [List.lookup_cons]
    cases hz : z == x with
    | true =>
      have := eq_of_beq hz
      subst this
      simp only
      exact ⟨w, _, h2, by rw [ef, if_pos (beq_self_eq_true z)], h3⟩
    | false =>
      have hx : (x == z) = false := by
        cases q : x == z with
        | false => rfl
        | true => rw [eq_of_beq q, beq_self_eq_true] at hz; cases hz
      rw [ef, hx]
      exact ih
theorem flV_rv {K : PySem.W.Frag} {v : PV} {w : V} (h : flV v = some w) (μ : Nat → Addr) (L : Nat) (H : Hp) : RV K μ L H v w := by
  cases v <;> cases h
  · exact .non
  · exact .bl _
  · exact .int _
  · exact .str _
theorem se_fmt {a : ME} {x : Expr} {pos : Pos} (ha : SE X call a x) : SE X call (.fmt a) (.FormattedValue x (-1) none pos) := by
  refine .plain (fun env st => (ev call a .use env st).bind fun x st1 => opt (fmtV x) st1) ((pe_fmt ha.use).imp fun σ H Q ⟨μ, env, st, v, st', o, r, h, g⟩ => ?_) (fun md env st => by simp only [ev, bind_assoc]) fun _ => rfl
  obtain ⟨x1, st1, h1, h2⟩ := bind_ok h
  obtain ⟨h3, rfl⟩ := opt_ok h2
  refine ⟨μ, env, st, x1, _, o, r, h1, fun μ1 H1 x' s1 o1 r1 => ?_⟩
  cases r1 with
  | str z =>
    have h3 : (if z.length ≤ sizeLine then some (PV.str z) else none) = some v := h3
    split at h3
    · rename_i hz
      cases h3
      exact .inl ⟨z, rfl, hz, g μ1 H1 _ s1 o1 (.str _) trivial⟩
    · cases h3
  | int i =>
    have h3 : (if i.natAbs < 1000000 then some (PV.str (toString i)) else none) = some v := h3
    split at h3
    · rename_i hz
      cases h3
      exact .inr ⟨i, rfl, log_ok hz, g μ1 H1 _ s1 o1 (.str _) trivial⟩
    · cases h3
  | _ => cases h3
/-- parts of an f-string -/
def SJ (X : Cx) (call : Nat → List PV → Store → Res PV) (as : MEs) (es : List Expr) : Prop := ∃ ts : List TE, PJ X es ts ∧ ∀ (acc : Str) (σ : L2.St) (H : Hp) (Q : Str → Hp → Prop) (μ : Nat → Addr) (env : En) (st : Store) (xs : List PV) (out : Str) (st' : Store),
  Ok X.K μ st H → RE X.K μ st.length H env σ → evCs call as env st = .ok xs st' → glueV xs acc = some out → (∀ μ' H', Stp μ st.length H μ' st'.length H' → Ok X.K μ' st' H' → Q out H') → tJs ts acc σ H Q
theorem sj_nil : SJ X call .nil [] := ⟨[], .nil, fun acc σ H Q μ env st xs out st' o r h g k => by
  rw [evCs] at h; cases h
  cases g
  exact k μ H StX.refl o⟩
theorem sj_cons {a : ME} {as : MEs} {x : Expr} {xs : List Expr} (ha : SE X call a x) (hs : SJ X call as xs) : SJ X call (.cons a as) (x :: xs) := by
  obtain ⟨ts, p, q⟩ := hs
  refine ⟨_ :: ts, .cons ha.use p, fun acc σ H Q μ env st vs out st' o r h g k => ?_⟩
  rw [evCs] at h
  obtain ⟨x1, st1, h1, h2⟩ := bind_ok h
  obtain ⟨y1, st2, h3, h4⟩ := bind_ok h2
  cases h4
  refine ⟨μ, env, st, x1, st1, o, r, h1, fun μ1 H1 x' s1 o1 r1 => ?_⟩
  cases r1 with
  | str z =>
    have g : (if (acc ++ z).length ≤ sizeLine then glueV y1 (acc ++ z) else none) = some out := g
    split at g
    · rename_i hz
      exact ⟨z, rfl, hz, q (acc ++ z) σ H1 Q μ1 env st1 y1 out st' o1 (r.mono s1) h3 g fun μ2 H2 s2 o2 => k μ2 H2 (Stp.trans s1 s2) o2⟩
    · cases g
  | _ => cases g
theorem se_fstr {as : MEs} {x y : Expr} {r : List Expr} {pos : Pos} (hs : SJ X call as (x :: y :: r)) : SE X call (.fstr as) (.JoinedStr (x :: y :: r) pos) := by
  obtain ⟨ts, p, q⟩ := hs
  refine .plain (fun env st => (evCs call as env st).bind fun xs st1 => (opt (glueV xs Str.empty) st1).bind fun z st2 => .ok (.str z) st2) ((pe_joined p).imp fun σ H Q ⟨μ, env, st, v, st', o, r, h, g⟩ => ?_) (fun md env st => by simp only [ev, bind_assoc]; rfl) fun _ => rfl
  obtain ⟨xs, st1, h1, h2⟩ := bind_ok h
  obtain ⟨z, st2, h3, h4⟩ := bind_ok h2
  obtain ⟨h5, rfl⟩ := opt_ok h3
  cases h4
  exact q _ σ H (fun out H1 => Q (.str out) H1) μ env st xs z _ o r h1 h5 fun μ1 H1 s1 o1 => g μ1 H1 (.str z) s1 o1 (.str z) trivial
theorem ix_kd {d : Addr} {es : Array DictEntry} {n : Nat} (D : KDict X.K X.w d es n) : IxR X (fun x y H Q => ∃ z u v, x = .ref d ∧ y = .str z ∧ findBy Value.isStrOf es z = some u ∧ RelV v u ∧ Q v H) := by
  intro value slice pins s σ H x y v u Q I rx ry h hs
  obtain ⟨z, u0, r, rfl, rfl, e, ru, q⟩ := h
  obtain rfl : v = Value.ref d := rx
  obtain ⟨t, rfl⟩ := ry
  have hm := PySem.W.mapOf_K (prog := X.prog) (w := X.w) I.kIn D.at_ D.lit
  exact tail_any hm.typeIs PySem.F.slot_dict_getitem.lookup (wpAny_getItem_of (strKind_is X.prog X.w z t) hm e ⟨r, H, I.tok _, ru, q⟩) hs
theorem se_dix {x : Str} {kvs : List (Str × PV)} {a : ME} {d : Addr} {es : Array DictEntry} {n : Nat} {o e : Expr} {pos : Pos} (D : KDict X.K X.w d es n) (R : DRel es.toList kvs) (ho : PE X o (tC (.ref d)))
    (ha : SE X call a e) (hs : PlainIx e) : SE X call (.dix x kvs a) (.Subscript o e pos) := by
  refine .plain (fun env st => (ev call a .val env st).bind fun x st1 => opt (dixV kvs x) st1) ((pe_ix (ix_kd D) ho ha.val hs).imp fun σ H Q ⟨μ, env, st, v, st', o, r, h, g⟩ => ?_) (fun md env st => by simp only [ev, bind_assoc]) fun _ => rfl
  obtain ⟨x1, st1, h1, h2⟩ := bind_ok h
  obtain ⟨h3, rfl⟩ := opt_ok h2
  refine ⟨μ, env, st, x1, _, o, r, h1, fun μ1 H1 x' s1 o1 r1 _ => ?_⟩
  cases r1 with
  | str z =>
    have h3 : kvs.lookup z = some v := h3
    have q := R.find z
    rw [h3] at q
    obtain ⟨w, u, q1, q2, q3⟩ := q
    exact ⟨z, u, w, rfl, rfl, q2, q3, g μ1 H1 w s1 o1 (flV_rv q1 _ _ _) (by cases v <;> first | exact trivial | cases q1)⟩
  | _ => cases h3
theorem flV_fr {H : Hp} {v : PV} {w : V} (h : flV v = some w) : v.isFl = false := by cases v <;> first | rfl | cases h
theorem se_gget {x : Str} {kvs : List (Str × PV)} {a b : ME} {d : Addr} {es : Array DictEntry} {n : Nat} {o e f : Expr} {apos cpos : Pos} (D : KDict X.K X.w d es n) (R : DRel es.toList kvs) (ho : PE X o (tC (.ref d)))
    (ha : SE X call a e) (hb : SE X call b f) (m : M2 X o "get" apos e f cpos) : SE X call (.gget x kvs a b) (.Call (.Attribute o "get" apos) [e, f] [] cpos) := by
  refine .plain (fun env st => (ev call a .use env st).bind fun x st1 => (ev call b .val env st1).bind fun y st2 => opt (getV kvs x y) st2) ((pe_kget2 D ho ha.use hb.val m).imp fun σ H Q ⟨μ, env, st, v, st', o, r, h, g⟩ => ?_) (fun md env st => by simp only [ev, bind_assoc]) fun _ => rfl
  obtain ⟨x1, st1, h1, h2⟩ := bind_ok h
  obtain ⟨y1, st2, h3, h4⟩ := bind_ok h2
  obtain ⟨h5, rfl⟩ := opt_ok h4
  refine ⟨μ, env, st, x1, st1, o, r, h1, fun μ1 H1 x' s1 o1 r1 => ⟨μ1, env, st1, y1, _, o1, r.mono s1, h3, fun μ2 H2 y' s2 o2 r2 f2 => ?_⟩⟩
  cases r1 with
  | str z =>
    have h5 : (if y1.isFl then none else some ((kvs.lookup z).getD y1)) = some v := h5
    split at h5
    · cases h5
    · rename_i hf
      have q := R.find z
      cases hl : kvs.lookup z with
      | none =>
        rw [hl] at q h5
        cases h5
        exact ⟨z, none, y', rfl, q, rfl, g μ2 H2 y' (Stp.trans s1 s2) o2 r2 (f2.back s1)⟩
      | some v0 =>
        rw [hl] at q h5
        cases h5
        obtain ⟨w, u, q1, q2, q3⟩ := q
        exact ⟨z, some u, w, rfl, q2, q3, g μ2 H2 w (Stp.trans s1 s2) o2 (flV_rv q1 _ _ _) (by cases v0 <;> first | exact trivial | cases q1)⟩
  | _ => cases h5
end
end U

set_option maxHeartbeats 4000000
/-! U8: calls, methods, slices, what is walked. -/
namespace U
open PySem PySem.Spec PyProof.Rows L2
/-- a def's promise: what the program yields -/
def spEv (K : PySem.W.Frag) (cf : List PV → Store → Res PV) : Sp := fun vs H Q _ => ∃ μ st as v st', Ok K μ st H ∧ RVs K μ st.length H as vs ∧ cf as st = .ok v st' ∧
  ∀ μ' H' v', Stp μ st.length H μ' st'.length H' → Ok K μ' st' H' → RV K μ' st'.length H' v v' → Fr H v v' → Q v' H'
section
variable {K : PySem.W.Frag} {μ : Nat → Addr} {L : Nat} {H : Hp} {X : Cx} {e : Expr} {call : Nat → List PV → Store → Res PV} {m : ME}
theorem ev_iteV {t a b : ME} {env : En} {st : Store} : ev call (.ite t a b) .val env st = (ev call t .test env st).bind fun x st1 => (opt (isBl x) st1).bind fun k st2 => if k then ev call a .val env st2 else ev call b .val env st2 := rfl
theorem ev_iteU {t a b : ME} {env : En} {st : Store} : ev call (.ite t a b) .use env st = (ev call t .test env st).bind fun x st1 => (opt (isBl x) st1).bind fun k st2 => if k then ev call a .use env st2 else ev call b .use env st2 := rfl
/-- an own def -/
theorem se_fn {f : Nat} {as : MEs} {es : List Expr} {g : Expr} (hs : SA X call as es) (h : ∀ {t : TA}, PA X es t → PE X g (fun σ H Q => t σ H fun vs H1 => spEv X.K (call f) vs H1 Q E0))
    (he : ∀ whole, isTrue g X.env whole = (do let v ← whole; standAt g.pos; holding [v] (truthy v))) : SE X call (.fn f as) g := by
  refine .plain (fun env st => (evA call as env st).bind fun xs st1 => call f xs st1) ((h hs.kept).imp fun σ H Q ⟨μ, env, st, v, st', o, r, h, g⟩ => ?_) (fun md env st => by rw [ev, bind_assoc]) he
  obtain ⟨xs, st1, h1, h2⟩ := bind_ok h
  exact ⟨μ, env, st, xs, _, o, r, h1, fun μ1 H1 vs s1 o1 r1 => ⟨μ1, _, xs, v, st', o1, r1, h2, fun μ2 H2 v' s2 o2 r2 f2 => g μ2 H2 v' (Stp.trans s1 s2) o2 r2 (f2.back s1)⟩⟩
theorem Ok.held {st : Store} {n : Nat} (o : Ok K μ st H) (hn : n < st.length) : ∃ vs, H (μ n) = some (.lst vs) := by
  have : ∃ xs, st[n]? = some (.lst xs) := by
    rw [List.getElem?_eq_getElem hn]
    cases st[n] with
    | lst xs => exact ⟨xs, rfl⟩
  obtain ⟨zs, hz⟩ := this
  obtain ⟨vs, h1, _⟩ := o.cell n zs hz
  exact ⟨vs, h1⟩
/-- a method of a list or text -/
def mty : MF → String
  | .append => "list" | .split => "str" | .partition => "str" | .join => "str"
theorem mt_ty {f : MF} {x : PV} {xs : List PV} {st st1 st' : Store} {v : PV} {x' : V} (h : mtV f x xs st = .ok v st') (o : Ok K μ st1 H) (r : RV K μ st1.length H x x') : tyV K (mty f) x' H := by
  unfold mtV at h
  split at h
  · cases r with
    | loc hn =>
      obtain ⟨vs, h1⟩ := o.held hn
      exact .inl ⟨rfl, vs, SqL.of h1⟩
  · cases r; exact rfl
  · cases r; exact rfl
  · cases r; exact rfl
  · cases h
theorem se_mt {f : MF} {ob : ME} {as : MEs} {x : Expr} {es : List Expr} {g : Expr} (ho : SE X call ob x) (hs : SA X call as es)
    (h : ∀ {r : V → List V → Hp → VK → Prop} {to : TE} {t : TA}, MtR X (mfn f) r → PE X x to → PA X es t → PE X g (tBM X.K (mty f) r to t))
    (he : ∀ whole, isTrue g X.env whole = (do let v ← whole; standAt g.pos; holding [v] (truthy v))) : SE X call (.mt f ob as) g := by
  refine .plain (fun env st => (ev call ob .use env st).bind fun x st1 => (evCs call as env st1).bind fun xs st2 => mtV f x xs st2) ((h (op_mt f) ho.use hs.used).imp fun σ H Q ⟨μ, env, st, v, st', o, r, h, g⟩ => ?_) (fun md env st => by rw [ev]; simp only [bind_assoc]) he
  obtain ⟨x1, st1, h1, h2⟩ := bind_ok h
  obtain ⟨xs, st2, h3, h4⟩ := bind_ok h2
  exact ⟨μ, env, st, x1, st1, o, r, h1, fun μ1 H1 x' s1 o1 r1 => ⟨mt_ty h4 o1 r1, μ1, env, st1, xs, st2, o1, r.mono s1, h3, fun μ2 H2 vs s2 o2 r2 =>
    ⟨μ2, st2, x1, xs, v, st', o2, r1.mono0 s2, r2, h4, fun H3 v' s3 o3 r3 f3 => g μ2 H3 v' (Stp.trans s1 (Stp.trans s2 s3)) o3 r3 (f3.back (Stp.trans s1 s2))⟩⟩⟩
/-- a slice's bounds -/
theorem po_absent {l : ME} (ha : l.absent = true) : PO X none (rdO X.K (ev call l .val) l.absent) := by
  refine po_none.imp fun σ H Q ⟨μ, env, st, v, st', b, o, r, h, hb, g⟩ => ?_
  unfold ME.absent at ha
  split at ha
  · rw [ev] at h
    cases h
    cases hb
    exact g μ H StX.refl o
  · cases ha
theorem po_there {l : ME} {x : Expr} (ha : l.absent = false) (hl : SE X call l x) : PO X (some x) (rdO X.K (ev call l .val) l.absent) := by
  refine (po_some hl.val).imp fun σ H Q ⟨μ, env, st, v, st', b, o, r, h, hb, g⟩ => ⟨μ, env, st, v, st', o, r, h, fun μ1 H1 v' s1 o1 r1 _ => ?_⟩
  rw [ha] at hb
  unfold bound at hb
  split at hb
  · contradiction
  · cases hb
    cases r1
    exact ⟨_, rfl, g μ1 H1 s1 o1⟩
  · cases hb
theorem se_sl {a lo hi : ME} {x : Expr} {l h : Option Expr} {pos p2 : Pos} (ha : SE X call a x) (hl : PO X l (rdO X.K (ev call lo .val) lo.absent)) (hh : PO X h (rdO X.K (ev call hi .val) hi.absent)) :
    SE X call (.sl a lo hi) (.Subscript x (.Slice l h none p2) pos) := by
  refine .plain (fun env st => (ev call a .use env st).bind fun x st1 => (ev call lo .val env st1).bind fun l st2 => (ev call hi .val env st2).bind fun h st3 =>
      (opt (bound lo.absent l) st3).bind fun l' st4 => (opt (bound hi.absent h) st4).bind fun h' st5 => opt (slV x l' h' st5) st5) ((pe_slice op_sl ha.use hl hh).imp fun σ H Q ⟨μ, env, st, v, st', o, r, h, g⟩ => ?_) (fun md env st => by rw [ev]; simp only [bind_assoc]) fun _ => rfl
  obtain ⟨x1, st1, h1, h2⟩ := bind_ok h
  obtain ⟨l1, st2, h3, h4⟩ := bind_ok h2
  obtain ⟨k1, st3, h5, h6⟩ := bind_ok h4
  obtain ⟨b1, st4, h7, h8⟩ := bind_ok h6
  obtain ⟨h9, rfl⟩ := opt_ok h7
  obtain ⟨b2, st5, h10, h11⟩ := bind_ok h8
  obtain ⟨h12, rfl⟩ := opt_ok h10
  obtain ⟨h13, rfl⟩ := opt_ok h11
  exact ⟨μ, env, st, x1, st1, o, r, h1, fun μ1 H1 x' s1 o1 r1 => ⟨μ1, env, st1, l1, st2, b1, o1, r.mono s1, h3, h9, fun μ2 H2 s2 o2 => ⟨μ2, env, st2, k1, _, b2, o2, r.mono (Stp.trans s1 s2), h5, h12, fun μ3 H3 s3 o3 =>
    ⟨μ3, _, x1, v, o3, r1.mono0 (Stp.trans s2 s3), h13, fun H4 v' s4 o4 r4 f4 => g μ3 H4 v' (Stp.trans s1 (Stp.trans s2 (Stp.trans s3 s4))) o4 r4 (f4.back (Stp.trans s1 (Stp.trans s2 s3)))⟩⟩⟩⟩
theorem se_ite {t a b : ME} {c x y : Expr} {pos : Pos} (ht : SE X call t c) (ha : SE X call a x) (hb : SE X call b y) (X' : PT X (.IfExp c x y pos) (fun _ _ _ => False)) : SE X call (.ite t a b) (.IfExp c x y pos) := by
  refine ⟨(pe_ifExp ht.test ha.val hb.val).imp fun σ H Q ⟨μ, env, st, v, st', o, r, h, g⟩ => ?_, (pe_ifExp ht.test ha.use hb.use).imp fun σ H Q ⟨μ, env, st, v, st', o, r, h, g⟩ => ?_, X'.imp fun σ H Q ⟨μ, env, st, v, st', o, r, h, g⟩ => ?_⟩
  · rw [ev_iteV] at h
    obtain ⟨x1, st1, h1, h2⟩ := bind_ok h
    obtain ⟨k1, st2, h3, h4⟩ := bind_ok h2
    obtain ⟨h5, rfl⟩ := opt_ok h3
    cases isBl_ok h5
    refine ⟨μ, env, st, k1, _, o, r, h1, fun μ1 H1 s1 o1 => ?_⟩
    cases k1 with
    | true => exact iteT ⟨μ1, env, _, v, st', o1, r.mono s1, h4, fun μ2 H2 v' s2 o2 r2 f2 => g μ2 H2 v' (Stp.trans s1 s2) o2 r2 (f2.back s1)⟩
    | false => exact iteF ⟨μ1, env, _, v, st', o1, r.mono s1, h4, fun μ2 H2 v' s2 o2 r2 f2 => g μ2 H2 v' (Stp.trans s1 s2) o2 r2 (f2.back s1)⟩
  · rw [ev_iteU] at h
    obtain ⟨x1, st1, h1, h2⟩ := bind_ok h
    obtain ⟨k1, st2, h3, h4⟩ := bind_ok h2
    obtain ⟨h5, rfl⟩ := opt_ok h3
    cases isBl_ok h5
    refine ⟨μ, env, st, k1, _, o, r, h1, fun μ1 H1 s1 o1 => ?_⟩
    cases k1 with
    | true => exact iteT ⟨μ1, env, _, v, st', o1, r.mono s1, h4, fun μ2 H2 v' s2 o2 r2 => g μ2 H2 v' (Stp.trans s1 s2) o2 r2⟩
    | false => exact iteF ⟨μ1, env, _, v, st', o1, r.mono s1, h4, fun μ2 H2 v' s2 o2 r2 => g μ2 H2 v' (Stp.trans s1 s2) o2 r2⟩
  · cases h
theorem pt_never : PT X e (fun _ _ _ => False) := ⟨fun _ _ _ _ _ _ h => h.elim⟩

/-! ### what is walked -/
inductive SrcR (K : PySem.W.Frag) (S : Addr → Prop) (μ : Nat → Addr) (L : Nat) (H : Hp) : It → Src → Prop
  | tup {a : Addr} {vs : List V} {xs : List PV} (h : SqT K H a vs) (r : RVs K μ L H xs vs) : SrcR K S μ L H (Itt K a) (.items xs)
  | own {a : Addr} {vs : List V} {xs : List PV} (h : H a = some (.lst vs)) (n : ∀ n, n < L → μ n ≠ a) (s : ¬ S a) (r : RVs K μ L H xs vs) : SrcR K S μ L H (Itl K a) (.items xs)
  | rol {a : Addr} {vs : List V} {xs : List PV} (h : Kl K H a vs) (r : RVs K μ L H xs vs) : SrcR K S μ L H (Itl K a) (.items xs)
  | live {n m : Nat} (h : n < L) : SrcR K S μ L H (Itl K (μ n)) (.live n m)
  | str {s : Str} : SrcR K S μ L H (Its s) (.items (s.cps.toList.map fun c => .str ⟨#[c]⟩))
  | rng {lo : Int} {n : Nat} : SrcR K S μ L H (Itr lo n) (.items ((List.range n).map fun (k : Nat) => .int (lo + k)))
theorem SrcR.mono {S S1 : Addr → Prop} {μ1 : Nat → Addr} {L1 : Nat} {H1 : Hp} {J : It} {src : Src} (s : StX S μ L H μ1 L1 H1) (h : SrcR K S μ L H J src) (hs : ∀ a, S1 a → S a ∨ H a = none) : SrcR K S1 μ1 L1 H1 J src := by
  cases h with
  | tup h r => exact .tup (s.sqT h) (r.mono s)
  | @own a vs xs h n hS r =>
    refine .own (s.keep _ _ h n hS) (fun k hk e => ?_) (fun z => ?_) (r.mono s)
    · by_cases hl : k < L
      · exact n k hl ((s.ext k hl).symm.trans e)
      · have := s.new k (by omega) hk
        rw [e, h] at this
        cases this
    · rcases hs _ z with z | z
      · exact hS z
      · rw [h] at z; cases z
  | rol h r => exact .rol (s.kl h) (r.mono s)
  | @live n m h =>
    have e := s.ext n h
    rw [← e]
    exact .live (Nat.lt_of_lt_of_le h s.le)
  | str => exact .str
  | rng => exact .rng
theorem SrcR.stop {S : Addr → Prop} {J : It} {src : Src} {st : Store} (h : SrcR K S μ st.length H J src) (o : Ok K μ st H) (f : src.fits st = true) : J.stop src.many H := by
  cases h with
  | tup h r => exact ⟨_, h, Nat.le_of_eq r.len.symm⟩
  | own h n hS r => exact ⟨_, SqL.of h, Nat.le_of_eq r.len.symm⟩
  | rol h r => exact ⟨_, h.sq, Nat.le_of_eq r.len.symm⟩
  | @live n m h =>
    unfold Src.fits at f
    simp only at f
    split at f
    · rename_i xs hx
      obtain ⟨a, vs, e, q, r⟩ := list_at o (.loc h) (show listOf (.loc n) st = some xs from hx)
      cases e
      refine ⟨vs, SqL.of q, ?_⟩
      have := r.len
      have h2 : xs.length = m := by simpa using f
      show vs.length ≤ m
      omega
    · cases f
  | str =>
    show _ ≤ _
    simp [Src.many]
  | rng =>
    show _ ≤ _
    simp [Src.many]
theorem SrcR.go {S : Addr → Prop} {J : It} {src : Src} {st : Store} {i : Nat} {x : PV} (h : SrcR K S μ st.length H J src) (o : Ok K μ st H) (f : src.get i st = some x) :
    J.go i H ∧ ∀ x' H', J.yld i H x' H' → H' = H ∧ RV K μ st.length H x x' ∧ x.isFl = false := by
  cases h with
  | tup h r =>
    obtain ⟨v, h1, h2, h3⟩ := r.get f
    exact ⟨⟨_, v, h, h1⟩, fun x' H' ⟨e, y⟩ => ⟨e, by rw [← Option.some.inj (h1.symm.trans (y _ h))]; exact h2, h3⟩⟩
  | own h n hS r =>
    obtain ⟨v, h1, h2, h3⟩ := r.get f
    exact ⟨⟨_, v, SqL.of h, h1⟩, fun x' H' ⟨e, y⟩ => ⟨e, by rw [← Option.some.inj (h1.symm.trans (y _ (SqL.of h)))]; exact h2, h3⟩⟩
  | rol h r =>
    obtain ⟨v, h1, h2, h3⟩ := r.get f
    exact ⟨⟨_, v, h.sq, h1⟩, fun x' H' ⟨e, y⟩ => ⟨e, by rw [← Option.some.inj (h1.symm.trans (y _ h.sq))]; exact h2, h3⟩⟩
  | @live n m h =>
    unfold Src.get at f
    simp only at f
    split at f
    · rename_i xs hx
      split at f
      · obtain ⟨a, vs, e, q, r⟩ := list_at o (.loc h) (show listOf (.loc n) st = some xs from hx)
        cases e
        obtain ⟨v, h1, h2, h3⟩ := r.get f
        exact ⟨⟨_, v, SqL.of q, h1⟩, fun x' H' ⟨e, y⟩ => ⟨e, by rw [← Option.some.inj (h1.symm.trans (y _ (SqL.of q)))]; exact h2, h3⟩⟩
      · cases f
    · cases f
  | @str s =>
    have f : (s.cps.toList.map fun c => PV.str ⟨#[c]⟩)[i]? = some x := f
    rw [List.getElem?_map] at f
    obtain ⟨c, h1, rfl⟩ := Option.map_eq_some_iff.mp f
    have h2 : s.cps[i]? = some c := by simpa using h1
    refine ⟨(Array.getElem?_eq_some_iff.mp h2).1, fun x' H' ⟨e, c', y1, y2⟩ => ⟨e, ?_, rfl⟩⟩
    rw [h2] at y1
    cases y1
    rw [y2]
    exact .str _
  | @rng lo n =>
    have f : ((List.range n).map fun (k : Nat) => PV.int (lo + k))[i]? = some x := f
    rw [List.getElem?_map] at f
    obtain ⟨c, h1, rfl⟩ := Option.map_eq_some_iff.mp f
    obtain ⟨h2, h3⟩ := List.getElem?_eq_some_iff.mp h1
    rw [List.getElem_range] at h3
    subst h3
    exact ⟨show i < n by simpa using h2, fun x' H' ⟨e, y⟩ => ⟨e, by rw [y]; exact .int _, rfl⟩⟩
end
end U

set_option maxHeartbeats 4000000
/-! U9: targets, what a comprehension walks, comprehensions. -/
namespace U
open PySem PySem.Spec PyProof.Rows L2
section
variable {K : PySem.W.Frag} {μ : Nat → Addr} {L : Nat} {H : Hp} {X : Cx} {e : Expr} {call : Nat → List PV → Store → Res PV} {m : ME}
/-! ### targets -/
def gAll : List Nat → TGs
  | [] => gNil
  | i :: is => gCons (gName i) (gAll is)
def gOf (K : PySem.W.Frag) : MG → TG
  | .nm i => gName i
  | .tp is => gTup K is.length (gAll is)
theorem wipe_set {σ : L2.St} {i : Nat} {v : V} : ∀ {is : List Nat}, i ∈ is → L2.wipe (σ.set i (some v)) is = L2.wipe σ is
  | [], h => by simp at h
  | j :: is, h => by
    unfold L2.wipe
    by_cases e : i = j
    · subst e
      by_cases hm : i ∈ is
      · rw [wipe_set hm]
      · have : ∀ (τ : L2.St) (is : List Nat), i ∉ is → L2.wipe (τ.set i (some v)) is = (L2.wipe τ is).set i (some v) := by
          intro τ is
          induction is with
          | nil => intro _; rfl
          | cons k is ih =>
            intro hk
            have h1 : i ≠ k := fun z => hk (by simp [z])
            have h2 : i ∉ is := fun z => hk (by simp [z])
            unfold L2.wipe
            rw [ih h2, List.set_comm _ _ h1]
        rw [this σ is hm, List.set_set]
    · have hm : i ∈ is := by
        rcases List.mem_cons.mp h with z | z
        · exact absurd z e
        · exact z
      rw [wipe_set hm]
theorem setEach_ok : ∀ {is : List Nat} {xs : List PV} {vs : List V} {env env' : En} {σ : L2.St} {Q : L2.St → Hp → Prop}, setEach is xs env = some env' → RE K μ L H env σ → RVs K μ L H xs vs →
    (∀ σ', RE K μ L H env' σ' → (∀ js : List Nat, (∀ i ∈ is, i ∈ js) → L2.wipe σ' js = L2.wipe σ js) → Q σ' H) → gAll is vs σ H Q
  | [], _, _, _, _, _, _, h, r, .nil, q => by
    cases h
    exact ⟨rfl, q _ r fun _ _ => rfl⟩
  | [], _, _, _, _, _, _, h, _, .cons _ _ _, _ => by cases h
  | _ :: _, _, _, _, _, _, _, h, _, .nil, _ => by cases h
  | i :: is, _, _, _, _, _, _, h, r, .cons f rx rs, q =>
    ⟨_, _, rfl, setEach_ok h (r.set rx i) rs fun σ' r' w => q σ' r' fun js hj => by
      rw [w js fun k hk => hj k (List.mem_cons_of_mem _ hk)]
      exact wipe_set (hj i List.mem_cons_self)⟩
theorem setEach_len : ∀ {is : List Nat} {xs : List PV} {env env' : En}, setEach is xs env = some env' → xs.length = is.length
  | [], [], _, _, _ => rfl
  | [], _ :: _, _, _, h => by cases h
  | _ :: _, [], _, _, h => by cases h
  | _ :: is, _ :: xs, _, _, h => by
    have := setEach_len (is := is) (xs := xs) h
    simp [this]
theorem put_ok {g : MG} {x : PV} {x' : V} {env env' : En} {σ : L2.St} {Q : L2.St → Hp → Prop} (h : g.put x env = some env') (r : RE K μ L H env σ) (rx : RV K μ L H x x')
    (q : ∀ σ', RE K μ L H env' σ' → L2.wipe σ' g.slots = L2.wipe σ g.slots → Q σ' H) : gOf K g x' σ H Q := by
  cases g with
  | nm i =>
    cases h
    exact q _ (r.set rx i) (wipe_set (by simp [MG.slots]))
  | tp is =>
    unfold MG.put at h
    simp only at h
    split at h
    · cases rx with
      | tup h1 r1 => exact ⟨_, _, rfl, h1, by rw [← r1.len]; exact setEach_len h, setEach_ok h r r1 fun σ' r' w => q σ' r' (w _ fun _ hi => hi)⟩
    · cases h

/-! ### sources -/
theorem _root_.L2.PI.imp {tg it : Expr} {w w' : TI} (h : PI X tg it w) (i : ∀ σ H R, w' σ H R → w σ H R) : PI X tg it w' := ⟨fun pins s σ H R I q => h.run pins s σ H R I (i _ _ _ q)⟩
def rdW (K : PySem.W.Frag) (m : En → Store → Res Src) : TI := fun σ H R => ∃ μ env st s st', Ok K μ st H ∧ RE K μ st.length H env σ ∧ m env st = .ok s st' ∧
  ∀ μ' H' J, Stp μ st.length H μ' st'.length H' → Ok K μ' st' H' → SrcR K NoS μ' st'.length H' J s → R J H'
theorem pi_used {tg it : Expr} (h : SE X call m it) : PI X tg it (rdW X.K fun env st => (ev call m .use env st).bind fun x st1 => opt (srcV x st1) st1) := by
  refine ⟨fun pins s σ H R I ⟨μ, env, st, src, st', o, r, h1, g⟩ => ?_⟩
  obtain ⟨v, st1, h2, h3⟩ := bind_ok h1
  obtain ⟨h4, rfl⟩ := opt_ok h3
  have ls : (∀ μ1 H1 v', Stp μ st.length H μ1 st1.length H1 → Ok X.K μ1 st1 H1 → RV X.K μ1 st1.length H1 v v' → ∃ a, v' = .ref a ∧ (∃ xs, SqL X.K H1 a xs) ∧ R (Itl X.K a) H1) →
      wpAny (model X.prog X.w) X.A (eval it X.env) (fun v s1 => wpAny (model X.prog X.w) X.A (pyIter v) (PIE X pins σ tg R) X.xe s1) X.xe s :=
    fun q => (pi_list h.use).run pins s σ H R I ⟨μ, env, st, v, st1, o, r, h2, fun μ1 H1 v' s1 o1 r1 => q μ1 H1 v' s1 o1 r1⟩
  cases v with
  | str z =>
    cases h4
    refine (pi_str h.use).run pins s σ H R I ⟨μ, env, st, _, st1, o, r, h2, fun μ1 H1 v' s1 o1 r1 => ?_⟩
    cases r1
    exact ⟨z, rfl, g μ1 H1 _ s1 o1 .str⟩
  | tup xs =>
    cases h4
    refine (pi_tup h.use).run pins s σ H R I ⟨μ, env, st, _, st1, o, r, h2, fun μ1 H1 v' s1 o1 r1 => ?_⟩
    cases r1 with
    | tup h5 r5 => exact ⟨_, rfl, ⟨_, h5⟩, g μ1 H1 _ s1 o1 (.tup h5 r5)⟩
  | fl xs =>
    cases h4
    refine ls fun μ1 H1 v' s1 o1 r1 => ?_
    cases r1 with
    | fl h5 n5 r5 => exact ⟨_, rfl, ⟨_, SqL.of h5⟩, g μ1 H1 _ s1 o1 (.own h5 n5 (fun z => z) r5)⟩
  | rol xs =>
    cases h4
    refine ls fun μ1 H1 v' s1 o1 r1 => ?_
    cases r1 with
    | rol h5 r5 => exact ⟨_, rfl, ⟨_, h5.sq⟩, g μ1 H1 _ s1 o1 (.rol h5 r5)⟩
  | loc n =>
    refine ls fun μ1 H1 v' s1 o1 r1 => ?_
    cases r1 with
    | loc h5 =>
      obtain ⟨xs, hx, e⟩ := Option.map_eq_some_iff.mp h4
      obtain ⟨vs, hv⟩ := o1.held h5
      subst e
      exact ⟨_, rfl, ⟨vs, SqL.of hv⟩, g μ1 H1 _ s1 o1 (.live h5)⟩
  | _ => cases h4
theorem rng_ok {x y : PV} {st st' : Store} {s : Src} (h : rngV x y st = .ok s st') : ∃ i j : Int, x = .int i ∧ y = .int j ∧ (-(2 ^ 62) ≤ i ∧ i < 2 ^ 62 ∧ -(2 ^ 62) ≤ j ∧ j < 2 ^ 62) ∧ s = .items ((List.range (j - i).toNat).map fun (k : Nat) => .int (i + k)) ∧ st = st' := by
  unfold rngV at h
  split at h
  · split at h
    · rename_i hb
      cases h
      exact ⟨_, _, rfl, rfl, hb, rfl, rfl⟩
    · cases h
  · cases h
theorem pi_rng2 {tg x y : Expr} {a b : ME} {p pos : Pos} (ha : SE X call a x) (hb : SE X call b y) (hg : Gl X "range") (hm : X.mg "range" = none) (hs : starEach [x, y] X.env = [(false, eval x X.env), (false, eval y X.env)]) (hs2 : starEach [y] X.env = [(false, eval y X.env)]) :
    PI X tg (.Call (.Name "range" p) [x, y] [] pos) (rdW X.K fun env st => (ev call a .val env st).bind fun x st1 => (ev call b .val env st1).bind fun y st2 => rngV x y st2) := by
  refine (pi_range2 hg hm (pa_cons ha.val (pa_cons hb.val pa_nil hs2) (by rw [hs, hs2])) hs hs2).imp fun σ H R ⟨μ, env, st, s, st', o, r, h, g⟩ => ?_
  obtain ⟨x1, st1, h1, h2⟩ := bind_ok h
  obtain ⟨y1, st2, h3, h4⟩ := bind_ok h2
  obtain ⟨i, j, rfl, rfl, hb, rfl, rfl⟩ := rng_ok h4
  refine ⟨μ, env, st, _, st1, o, r, h1, fun μ1 H1 x' s1 o1 r1 _ => ⟨μ1, env, st1, _, _, o1, r.mono s1, h3, fun μ2 H2 y' s2 o2 r2 _ => ?_⟩⟩
  cases r1; cases r2
  exact ⟨i, j, rfl, hb, g μ2 H2 _ (Stp.trans s1 s2) o2 .rng⟩
theorem pi_rng1 {tg y : Expr} {b : ME} {p pos : Pos} (hb : SE X call b y) (hg : Gl X "range") (hm : X.mg "range" = none) (hs : starEach [y] X.env = [(false, eval y X.env)]) :
    PI X tg (.Call (.Name "range" p) [y] [] pos) (rdW X.K fun env st => (ev call (.con (.int 0)) .val env st).bind fun x st1 => (ev call b .val env st1).bind fun y st2 => rngV x y st2) := by
  refine (pi_range1 hg hm (pa_cons hb.val pa_nil hs) hs).imp fun σ H R ⟨μ, env, st, s, st', o, r, h, g⟩ => ?_
  obtain ⟨x1, st1, h1, h2⟩ := bind_ok h
  cases (show Res.ok (PV.int 0) st = Res.ok x1 st1 from h1)
  obtain ⟨y1, st2, h3, h4⟩ := bind_ok h2
  obtain ⟨i, j, e, rfl, hb, rfl, rfl⟩ := rng_ok h4
  cases e
  refine ⟨μ, env, _, _, _, o, r, h3, fun μ2 H2 y' s2 o2 r2 _ => ?_⟩
  cases r2
  have q := g μ2 H2 _ s2 o2 (.rng (lo := 0) (n := (j - 0).toNat))
  rw [Int.sub_zero] at q
  exact ⟨j, rfl, hb.2.2.1, hb.2.2.2, q⟩

/-! ### comprehensions -/
/-- the object at D is written -/
theorem StX.wrt {D : Addr} {ys zs : List V} (h : H D = Option.some (HO.lst ys)) : StX (fun a => a = D) μ L H μ L (upd H D (HO.lst zs)) := by
  refine ⟨Nat.le_refl _, fun _ _ => rfl, fun b o hb _ ne => ?_, fun b us hb => ?_, fun b o u hb => ?_, fun b hb => ?_, fun n h1 h2 => absurd h2 (by omega)⟩
  · rw [upd_ne ne]; exact hb
  · rw [upd_ne (fun e => by rw [e, h] at hb; cases hb)]; exact hb
  · rw [upd_ne (fun e => by rw [e, h] at hb; cases hb)]; exact hb
  · by_cases e : b = D
    · rw [e, upd_same] at hb; cases hb
    · rw [upd_ne e] at hb; exact hb
theorem Ok.wrt {st : Store} {D : Addr} {ys zs : List V} (o : Ok K μ st H) (h : H D = some (.lst ys)) (n : ∀ k, k < st.length → μ k ≠ D) : Ok K μ st (upd H D (.lst zs)) :=
  ⟨o.inj, fun k xs hk => by
    obtain ⟨vs, h1, h2⟩ := o.cell k xs hk
    exact ⟨vs, by rw [upd_ne (n k (List.getElem?_eq_some_iff.mp hk).1)]; exact h1, h2.mono (StX.wrt h)⟩⟩
theorem SE.lcImp {σ : L2.St} {H : Hp} {Q : VK} {wi : TI} {tt : TT} {te : TE} {test : En → Store → Res Bool} {elt : En → Store → Res PV} {g : MG} {srcF : En → Store → Res Src}
    (hw : ∀ σ H R, rdW K srcF σ H R → wi σ H R) (he : ∀ σ H Q, rd K elt σ H Q → te σ H Q)
    (ht : ∀ μ env st b st' σ H (Q : Bool → Hp → Prop), Ok K μ st H → RE K μ st.length H env σ → test env st = .ok b st' → (∀ μ' H', Stp μ st.length H μ' st'.length H' → Ok K μ' st' H' → Q b H') → tt σ H Q)
    (h : rd K (fun env st => (srcF env st).bind fun s st1 => lcLoop test elt g.put (wipe env g.slots) s 0 s.many [] st1) σ H Q) : tLc wi (gOf K g) tt te g.slots σ H Q := by
  obtain ⟨μ, env, st, v, st4, o, r, h, fin⟩ := h
  obtain ⟨src, st1, h1, h2⟩ := bind_ok h
  refine hw σ H _ ⟨μ, env, st, src, st1, o, r, h1, fun μ1 H1 J s1 o1 j1 D hD => ?_⟩
  refine ⟨fun i m Hc => ∃ μ st acc accV, Stp μ1 st1.length H1 μ st.length Hc ∧ Ok K μ st Hc ∧ Hc D = some (.lst accV) ∧ (∀ n, n < st.length → μ n ≠ D) ∧ RVs K μ st.length Hc acc accV ∧
    SrcR K (fun a => a = D) μ st.length Hc J src ∧ i + m = src.many ∧ lcLoop test elt g.put (wipe env g.slots) src i m acc st = .ok v st4,
    ⟨src.many, μ1, st1, [], [], Stp.laid hD, o1.laid hD, upd_same, o1.apart hD, .nil, j1.mono (Stp.laid hD) (fun a z => .inr (by rw [z]; exact hD)), by omega, h2⟩, ?_⟩
  rintro i m Hc ⟨μ2, st2, acc, accV, s2, o2, d2, n2, r2, j2, em, e2⟩
  cases m with
  | zero =>
    refine .inl ?_
    unfold lcLoop at e2
    split at e2
    · rename_i hf
      cases e2
      have q := j2.stop o2 hf
      have e0 : i = src.many := by omega
      subst e0
      exact ⟨q, fin μ2 Hc _ (Stp.trans s1 s2) o2 (.fl d2 n2 r2) (s1.there _ hD)⟩
    · cases e2
  | succ m =>
    refine .inr ?_
    unfold lcLoop at e2
    split at e2
    · cases e2
    · rename_i x hx
      split at e2
      · cases e2
      · rename_i env' hp
        obtain ⟨q1, q2⟩ := j2.go o2 hx
        obtain ⟨b, st3, e3, e4⟩ := bind_ok e2
        refine ⟨q1, _, fun H' w => ⟨m, Nat.lt_succ_self m, w⟩, fun x' H' y => ?_⟩
        obtain ⟨rfl, rx, fx⟩ := q2 x' H' y
        have rw0 : RE K μ2 st2.length H' (wipe env g.slots) (L2.wipe σ g.slots) := (r.mono (Stp.trans s1 s2)).wipe _
        refine put_ok hp rw0 rx fun σ2 rE wE => ⟨?_, ?_⟩
        · rw [wE]
          have : ∀ (τ : L2.St) (vs : List Nat), L2.wipe (L2.wipe τ vs) vs = L2.wipe τ vs := by
            have idem : ∀ (τ : L2.St) (is vs : List Nat), (∀ i ∈ is, ∀ x : V, τ[i]? ≠ some (some x)) → L2.wipe τ is = τ := by
              intro τ is _
              induction is with
              | nil => intro _; rfl
              | cons k is ih =>
                intro hk
                unfold L2.wipe
                rw [ih fun i hi => hk i (List.mem_cons_of_mem _ hi)]
                apply List.ext_getElem?
                intro n
                by_cases e : k = n
                · subst e
                  by_cases hl : k < τ.length
                  · rw [List.getElem?_set_self hl]
                    have := hk k List.mem_cons_self
                    cases q : τ[k] with
                    | none => rw [List.getElem?_eq_getElem hl, q]
                    | some z => exact absurd (by rw [List.getElem?_eq_getElem hl, q]) (this z)
                  · rw [List.getElem?_eq_none (by simp; omega), List.getElem?_eq_none (by omega)]
                · rw [List.getElem?_set_ne e]
            intro τ vs
            exact idem _ vs vs fun i hi x hx => (L2.wipe_some hx).2 hi
          exact this σ g.slots
        · refine ht μ2 env' st2 b st3 σ2 H' _ o2 rE e3 fun μ3 H3 s3 o3 => ?_
          have d3 : H3 D = some (.lst accV) := s3.keep D _ d2 n2 fun z => z
          have n3 : ∀ n, n < st3.length → μ3 n ≠ D := fun n hn z => by
            by_cases hl : n < st2.length
            · exact n2 n hl ((s3.ext n hl).symm.trans z)
            · have := s3.new n (by omega) hn
              rw [z, d2] at this; cases this
          cases b with
          | false =>
            refine iteF ⟨μ3, st3, acc, accV, Stp.trans s2 s3, o3, d3, n3, r2.mono s3, j2.mono (Stp.wide s3) (fun _ z => .inl z), by omega, ?_⟩
            exact e4
          | true =>
            obtain ⟨y1, st5, e5, e6⟩ := bind_ok (show (elt env' st3).bind _ = _ from e4)
            split at e6
            · rename_i hz
              refine iteT (he σ2 H3 _ ⟨μ3, env', st3, y1, st5, o3, rE.mono s3, e5, fun μ5 H5 y' s5 o5 r5 f5 => ?_⟩)
              obtain ⟨μe, se, oe, re, fe, ext⟩ := Ok.esc s5 o5 r5 f5
              have d5 : H5 D = some (.lst accV) := s5.keep D _ d3 n3 fun z => z
              have ne : ∀ n, n < (esc y1 st5).2.length → μe n ≠ D := fun n hn z => by
                by_cases hl : n < st3.length
                · exact n3 n hl ((se.ext n hl).symm.trans z)
                · have := se.new n (by omega) hn
                  rw [z, d3] at this; cases this
              have ra : RVs K μe (esc y1 st5).2.length H5 acc accV := (r2.mono s3).mono se
              have wr : StX (fun a => a = D) μe (esc y1 st5).2.length H5 μe (esc y1 st5).2.length (upd H5 D (.lst (accV ++ [y']))) := StX.wrt d5
              have sw : Stp μ1 st1.length H1 μe (esc y1 st5).2.length (upd H5 D (.lst (accV ++ [y']))) := StX.trans (Stp.trans s2 (Stp.trans s3 se)) wr fun b e => .inr (by rw [e]; exact hD)
              refine ⟨accV, d5, by rw [← r2.len]; exact hz, μe, (esc y1 st5).2, acc ++ [(esc y1 st5).1], accV ++ [y'], sw, oe.wrt d5 ne, upd_same, ne, ?_, ?_, by omega, e6⟩
              · refine (RVs.mono wr ra).app (RVs.one fe (RV.mono wr ?_ re))
                cases hq : (esc y1 st5).1 <;> first | trivial | (rw [hq] at fe; cases fe)
              · exact (j2.mono (Stp.wide (Stp.trans s3 se)) (fun _ z => .inl z)).mono wr (fun _ z => .inl z)
            · cases e6
end
end U

set_option maxHeartbeats 8000000
/-! U10: every expression of the language. -/
namespace U
open PySem PySem.Spec PyProof.Rows L2
structure Wd where
  P : Program
  w : World
  K : PySem.W.Frag
  mg : Str → Option Value
  base : Heap
/-- a body of the text stands here -/
structure Gd (W : Wd) (C : Ct) (k : Nat) (X : Cx) : Prop where
  P : X.prog = W.P
  w : X.w = W.w
  K : X.K = W.K
  mg : X.mg = W.mg
  base : X.base = W.base
  N : X.N = C.N
  sc : X.env.scope = C.sc
  nd : X.N.Nodup
  calm : X.calm = true
  room : Room k X.A
/-- what the names of the module are -/
structure Fx (W : Wd) (C : Ct) (k : Nat) (call : Nat → List PV → Store → Res PV) : Prop where
  fn : ∀ x f, C.fn.lookup x = some f → ∃ a fd ps, W.mg x = some (.ref a) ∧ PySem.W.keepIn W.K (.ref a) = true ∧ Binds W.K fd ps [] ∧ FnOk W.P W.w W.K W.mg W.base CX0 k a fd ps (spEv W.K (call f))
  cs : ∀ x v, C.cs.lookup x = some v → v.isFl = false ∧ ∃ u v', W.mg x = some u ∧ RelV v' u ∧ ∀ μ L H, RV W.K μ L H v v'
  bl : ∀ x, C.bl.contains x = true → W.mg x = none
  ds : ∀ x kvs, C.ds.lookup x = some kvs → ∃ d es n, W.mg x = some (.ref d) ∧ KDict W.K W.w d es n ∧ DRel es.toList kvs
mutual
theorem same_ok : ∀ {v w : PV}, PV.same v w = true → v = w
  | .non, .non, _ => rfl
  | .bl a, .bl b, h => by rw [eq_of_beq (show (a == b) = true from h)]
  | .int a, .int b, h => by rw [of_decide_eq_true (show decide (a = b) = true from h)]
  | .str a, .str b, h => by rw [of_decide_eq_true (show decide (a = b) = true from h)]
  | .tup a, .tup b, h => by rw [sames_ok (show PV.sameL a b = true from h)]
  | .non, .bl _, h | .non, .int _, h | .non, .str _, h | .non, .tup _, h | .non, .loc _, h | .non, .fl _, h | .non, .rol _, h => by cases h
  | .bl _, .non, h | .bl _, .int _, h | .bl _, .str _, h | .bl _, .tup _, h | .bl _, .loc _, h | .bl _, .fl _, h | .bl _, .rol _, h => by cases h
  | .int _, .non, h | .int _, .bl _, h | .int _, .str _, h | .int _, .tup _, h | .int _, .loc _, h | .int _, .fl _, h | .int _, .rol _, h => by cases h
  | .str _, .non, h | .str _, .bl _, h | .str _, .int _, h | .str _, .tup _, h | .str _, .loc _, h | .str _, .fl _, h | .str _, .rol _, h => by cases h
  | .tup _, .non, h | .tup _, .bl _, h | .tup _, .int _, h | .tup _, .str _, h | .tup _, .loc _, h | .tup _, .fl _, h | .tup _, .rol _, h => by cases h
  | .loc _, _, h | .fl _, _, h | .rol _, _, h => by cases h
theorem sames_ok : ∀ {v w : List PV}, PV.sameL v w = true → v = w
  | [], [], _ => rfl
  | [], _ :: _, h => by cases h
  | _ :: _, [], h => by cases h
  | x :: xs, y :: ys, h => by
    have h : (PV.same x y && PV.sameL xs ys) = true := h
    rw [Bool.and_eq_true] at h
    rw [same_ok h.1, sames_ok h.2]
end
section
variable {W : Wd} {k : Nat} {call : Nat → List PV → Store → Res PV}
theorem vis_of {sc : Scope} {x : Str} (h : visB sc x = true) : Vis sc x := by
  unfold visB at h
  unfold Vis
  split at h <;> first | (rename_i q; rw [q]; simp) | cases h
theorem gl_of {X : Cx} {x : Str} (h : glB X.env.scope x = true) : Gl X x ∧ (x == ("__debug__" : Str)) = false := by
  unfold glB at h
  split at h
  · rename_i q
    exact ⟨q, by simpa using h⟩
  · cases h
/-- no star, no set, no slice -/
def plainE : Expr → Bool
  | .Starred .. => false
  | .Set .. => false
  | .Slice .. => false
  | .NamedExpr .. => false
  | _ => true
theorem sameD_ok : ∀ {l m : List (Str × PV)}, sameD l m = true → l = m
  | [], [], _ => rfl
  | [], _ :: _, h => by cases h
  | _ :: _, [], h => by cases h
  | (x, v) :: r, (y, w) :: q, h => by
    have h : (decide (x = y) && PV.same v w && sameD r q) = true := h
    simp only [Bool.and_eq_true, decide_eq_true_eq] at h
    rw [h.1.1, same_ok h.1.2, sameD_ok h.2]
theorem plain_ok {C : Ct} {m : ME} {e : Expr} (h : mE C m e = true) : plainE e = true := by
  cases e <;> first | rfl | (exfalso; cases m with
    | lc elt g src has c => cases src <;> cases h
    | _ => cases h)
theorem star_ok {e : Expr} (h : plainE e = true) (es : List Expr) (env : Env) : starEach (e :: es) env = (false, eval e env) :: starEach es env := by
  cases e <;> first | rfl | cases h
theorem ix_ok {e : Expr} (h : plainE e = true) : PlainIx e := by
  intro o i
  cases e <;> first | rfl | cases h
theorem mark_ok {e : Expr} (h : plainE e = true) (op : CmpOp) : behindInMarks op e = false := by
  cases e <;> first | rfl | cases h
theorem marks_ok {e e' : Expr} (h : plainE e = true) (h' : plainE e' = true) (op op' : CmpOp) : lastMarks [op, op'] [e, e'] = false := by
  have := mark_ok h' op'
  cases e' <;> first | rfl | (exact this) | cases h'
theorem set_ok {e : Expr} (h : plainE e = true) (env : Env) : ∀ x, foldedSetIterable e env x = pure x := by
  intro x
  cases e <;> first | rfl | cases h
theorem any_ok {C : Ct} {pos : Pos} {env : Env} : ∀ {as : MEs} {es : List Expr}, mA C as es = true → (backTo pos (starEach es env)).any (·.1) = false
  | .nil, [], _ => rfl
  | .nil, _ :: _, h => by cases h
  | .cons _ _, [], h => by cases h
  | .cons a as, e :: es, h => by
    have h : (mE C a e && mA C as es) = true := h
    rw [Bool.and_eq_true] at h
    rw [star_ok (plain_ok h.1)]
    show (false || (backTo pos (starEach es env)).any (·.1)) = false
    rw [any_ok h.2]
    rfl
theorem base_ok {x : Expr} {name : Str} {env : Env} {whole : Sem Value} (h : (match x with
    | .Call _ [] [] _ => true
    | _ => false) = false) : attributeBase x name env whole = whole := by
  cases x <;> try rfl
  rename_i f as ks p
  cases as with
  | nil =>
    cases ks with
    | nil => cases h
    | cons _ _ => cases f <;> rfl
  | cons _ _ => cases f <;> rfl
end
end U

set_option maxHeartbeats 8000000
/-! U11: every expression of the language, the theorem. -/
namespace U
open PySem PySem.Spec PyProof.Rows L2
section
variable {W : Wd} {k : Nat} {call : Nat → List PV → Store → Res PV}
theorem Gd.blk {C : Ct} {X : Cx} (G : Gd W C k X) (s : Shared) (H : Hp) (scope : Scope) (c : Addr) (cl : List (Str × Addr)) (fp : List Addr) : Gd W { C with sc := relS scope C.sc } k (X.blk s H scope (compEnvC scope cl c X.env) fp) :=
  ⟨G.P, G.w, G.K, G.mg, G.base, G.N, by show relS scope X.env.scope = _; rw [G.sc], G.nd, G.calm, G.room⟩
theorem pg1 {C : Ct} {X : Cx} (G : Gd W C k X) {i : Nat} {e : Expr} (h : mT1 C i e = true) : PG X e (gName i) := by
  cases e <;> try (exact absurd h Bool.false_ne_true)
  rename_i x pos
  have h : (decide (C.N[i]? = some x) && decide (C.sc.names.lookup x = some .local)) = true := h
  simp only [Bool.and_eq_true, decide_eq_true_eq] at h
  exact pg_name G.nd (by rw [G.N]; exact h.1) (.inl (by rw [G.sc]; exact h.2)) (.inr (by rw [G.sc]; exact h.2))
theorem assign_ok {e : Expr} {C : Ct} {i : Nat} (h : mT1 C i e = true) (es : List Expr) (env : Env) : assignEach (e :: es) env = (false, assign e env) :: assignEach es env := by
  cases e <;> first | rfl | exact absurd h Bool.false_ne_true
theorem pgs {C : Ct} {X : Cx} (G : Gd W C k X) : ∀ {is : List Nat} {es : List Expr}, mTs C is es = true → PGs X es (gAll is) ∧ (assignEach es X.env).length = is.length ∧ (assignEach es X.env).findIdx? (·.1) = none
  | [], [], _ => ⟨pgs_nil, rfl, rfl⟩
  | [], _ :: _, h => by cases h
  | _ :: _, [], h => by cases h
  | i :: is, e :: es, h => by
    have h : (mT1 C i e && mTs C is es) = true := h
    rw [Bool.and_eq_true] at h
    obtain ⟨p1, p2, p3⟩ := pgs G h.2
    have e1 := assign_ok h.1 es X.env
    refine ⟨pgs_cons (pg1 G h.1) p1 (by rw [e1]; rfl), by rw [e1]; simp [p2], by rw [e1]; simp [List.findIdx?_cons, p3]⟩
theorem pgG {C : Ct} {X : Cx} (G : Gd W C k X) {g : MG} {e : Expr} (h : mG C g e = true) : PG X e (gOf X.K g) := by
  cases g with
  | nm i => exact pg1 G h
  | tp is =>
    cases e <;> try (exact absurd h Bool.false_ne_true)
    obtain ⟨p1, p2, p3⟩ := pgs G (show mTs C is _ = true from h)
    exact pg_tup G.calm p1 p2 p3
theorem own_slots (g : MG) (N : List Str) : (g.own N).map (·.2) = g.slots := by
  unfold MG.own
  rw [List.map_map]
  have : ((fun x : Str × Nat => x.2) ∘ fun i => (N.getD i "", i)) = fun i => i := rfl
  rw [this, List.map_id']
/-- a comprehension's tests -/
def tTest' (K : PySem.W.Frag) (call : Nat → List PV → Store → Res PV) (has : Bool) (c : ME) : TT := if has then rdT K (ev call c .test) else tYes
def tsOk (C : Ct) (has : Bool) (c : ME) (ifs : List Expr) : Bool := match has, ifs with
  | true, [t] => mE C c t
  | false, [] => true
  | _, _ => false
theorem lc_plain {X : Cx} {g : MG} {has : Bool} {c elt : ME} {srcF : En → Store → Res Src} {wi : TI} {e : Expr} {m : ME}
    (hw : ∀ σ H R, rdW X.K srcF σ H R → wi σ H R)
    (hp : PE X e (tLc wi (gOf X.K g) (tTest' X.K call has c) (rd X.K (ev call elt .val)) g.slots))
    (eq : ∀ md env st, ev call m md env st = ((srcF env st).bind fun s st1 => lcLoop (fun e s => if has then (ev call c .test e s).bind fun x s1 => opt (isBl x) s1 else .ok true s) (ev call elt .val) g.put (wipe env g.slots) s 0 s.many [] st1).bind fun v st1 => done md v st1)
    (he : ∀ whole, isTrue e X.env whole = (do let v ← whole; standAt e.pos; holding [v] (truthy v))) : SE X call m e := by
  refine .plain _ (hp.imp fun σ H Q q => SE.lcImp hw (fun _ _ _ q => q) ?_ q) eq he
  intro μ env st b st' σ H Q o r h q
  unfold tTest'
  cases has with
  | true =>
    obtain ⟨x, s1, h1, h2⟩ := bind_ok h
    obtain ⟨h3, rfl⟩ := opt_ok h2
    cases isBl_ok h3
    exact ⟨μ, env, st, b, _, o, r, h1, q⟩
  | false =>
    cases h
    exact q μ H StX.refl o
theorem pw_of_pt {X : Cx} {op : BoolOp} {vs : List Expr} {p : Pos} {t : TT} (h : PT X (.BoolOp op vs p) t) : PW X (.BoolOp op vs p) t := ⟨fun wh pins s σ H Q I hw => h.run pins s σ H Q I hw⟩
theorem SE.sb {X : Cx} {m : ME} {op : BoolOp} {vs : List Expr} {p : Pos} (h : SE X call m (.BoolOp op vs p)) : SB X call m (.BoolOp op vs p) := ⟨h.val, h.use, pw_of_pt h.test⟩
theorem mE_lc {C : Ct} {elt src c : ME} {g : MG} {has : Bool} {e : Expr} (hn : ∀ a b, src ≠ .rng a b) : mE C (.lc elt g src has c) e = (match e with
    | .ListComp x [⟨tg, iter, ifs, 0⟩] scope _ => mE C src iter && blkC C.N C.sc scope (g.own C.N) && mG { C with sc := relS scope C.sc } g tg &&
        tsOk { C with sc := relS scope C.sc } has c ifs && mE { C with sc := relS scope C.sc } elt x
    | _ => false) := by
  cases src <;> first | (exact absurd rfl (hn _ _)) | rfl
theorem ev_lc {elt src c : ME} {g : MG} {has : Bool} {md : Md} {env : En} {st : Store} (hn : ∀ a b, src ≠ .rng a b) : ev call (.lc elt g src has c) md env st =
    (((ev call src .use env st).bind fun x st1 => opt (srcV x st1) st1).bind fun s st3 =>
      lcLoop (fun e s => if has then (ev call c .test e s).bind fun x s1 => opt (isBl x) s1 else .ok true s) (ev call elt .val) g.put (wipe env g.slots) s 0 s.many [] st3).bind fun v st4 => done md v st4 := by
  rw [bind_assoc, bind_assoc]
  cases src <;> first | (exact absurd rfl (hn _ _)) | rfl
theorem ev_lcR {elt a b c : ME} {g : MG} {has : Bool} {md : Md} {env : En} {st : Store} : ev call (.lc elt g (.rng a b) has c) md env st =
    (((ev call a .val env st).bind fun x st1 => (ev call b .val env st1).bind fun y st2 => rngV x y st2).bind fun s st3 =>
      lcLoop (fun e s => if has then (ev call c .test e s).bind fun x s1 => opt (isBl x) s1 else .ok true s) (ev call elt .val) g.put (wipe env g.slots) s 0 s.many [] st3).bind fun v st4 => done md v st4 := by
  simp only [bind_assoc]
  rfl
theorem ts_ok {C : Ct} {X : Cx} {has : Bool} {c : ME} {ifs : List Expr} (h : tsOk C has c ifs = true) (hc : ∀ t, mE C c t = true → SE X call c t) : PTs X ifs (tTest' X.K call has c) := by
  unfold tsOk at h
  split at h
  · exact pts_one (hc _ h).test
  · exact pts_nil
  · cases h
/-- a comprehension, from its parts -/
theorem lc_mk {C : Ct} {X : Cx} (G : Gd W C k X) {elt c m : ME} {g : MG} {has : Bool} {x tg iter : Expr} {ifs : List Expr} {scope : Scope} {pos : Pos} {srcF : En → Store → Res Src}
    (hi : PI X tg iter (rdW X.K srcF)) (hp : ∀ x, foldedSetIterable iter X.env x = pure x) (h2 : blkC C.N C.sc scope (g.own C.N) = true) (h3 : mG { C with sc := relS scope C.sc } g tg = true)
    (h4 : tsOk { C with sc := relS scope C.sc } has c ifs = true) (hc : ∀ {X : Cx}, Gd W { C with sc := relS scope C.sc } k X → ∀ t, mE { C with sc := relS scope C.sc } c t = true → SE X call c t)
    (he : ∀ {X : Cx}, Gd W { C with sc := relS scope C.sc } k X → SE X call elt x)
    (eq : ∀ md env st, ev call m md env st = ((srcF env st).bind fun s st1 => lcLoop (fun e s => if has then (ev call c .test e s).bind fun x s1 => opt (isBl x) s1 else .ok true s) (ev call elt .val) g.put (wipe env g.slots) s 0 s.many [] st1).bind fun v st1 => done md v st1) :
    SE X call m (.ListComp x [⟨tg, iter, ifs, 0⟩] scope pos) := by
  have ok : BlkOk X.N X.env.scope scope (g.own C.N) := by rw [G.N, G.sc]; exact blkOk_by h2
  have p := pe_lc (pos := pos) (own := g.own C.N) (g := gOf X.K g) (tt := tTest' X.K call has c) (te := rd X.K (ev call elt .val)) G.calm G.nd hi ok
    (fun s H a cl fp => pgG (G.blk s H scope a cl fp) h3) (fun s H a cl fp => ts_ok h4 (hc (G.blk s H scope a cl fp))) (fun s H a cl fp => (he (G.blk s H scope a cl fp)).val) hp
  rw [own_slots] at p
  exact lc_plain (fun _ _ _ q => q) p eq fun _ => rfl
theorem lc_rng {C : Ct} {X : Cx} (G : Gd W C k X) (F : Fx W C k call) {elt a b c : ME} {g : MG} {has : Bool} {e : Expr} (h : mE C (.lc elt g (.rng a b) has c) e = true)
    (ia : ∀ {e : Expr}, mE C a e = true → SE X call a e) (ib : ∀ {e : Expr}, mE C b e = true → SE X call b e)
    (ic : ∀ {C' : Ct} {X : Cx} (G : Gd W C' k X) (F : Fx W C' k call) {e : Expr}, mE C' c e = true → SE X call c e)
    (ie : ∀ {C' : Ct} {X : Cx} (G : Gd W C' k X) (F : Fx W C' k call) {e : Expr}, mE C' elt e = true → SE X call elt e) : SE X call (.lc elt g (.rng a b) has c) e := by
  unfold mE at h
  split at h
  · rename_i x tg f p es pos ifs scope pos2
    simp only [Bool.and_eq_true, decide_eq_true_eq] at h
    obtain ⟨⟨⟨⟨⟨⟨⟨rfl, h1⟩, h2⟩, h3⟩, h4⟩, h5⟩, h6⟩, h7⟩ := h
    obtain ⟨g1, g2⟩ := gl_of (X := X) (by rw [G.sc]; exact h2)
    have hm : X.mg "range" = none := by rw [G.mg]; exact F.bl _ h1
    refine lc_mk G (srcF := fun env st => (ev call a .val env st).bind fun x st1 => (ev call b .val env st1).bind fun y st2 => rngV x y st2) ?_ (fun _ => rfl) h4 h5 h6
      (fun G' t ht => ic G' ⟨F.fn, F.cs, F.bl, F.ds⟩ ht) (fun G' => ie G' ⟨F.fn, F.cs, F.bl, F.ds⟩ h7) fun _ _ _ => ev_lcR
    split at h3
    · rename_i y
      split at h3
      · exact pi_rng1 (ib h3) g1 hm (star_ok (plain_ok h3) _ _)
      · cases h3
    · rename_i z y
      rw [Bool.and_eq_true] at h3
      have e2 : starEach [y] X.env = [(false, eval y X.env)] := star_ok (plain_ok h3.2) _ _
      exact pi_rng2 (ia h3.1) (ib h3.2) g1 hm (by rw [star_ok (plain_ok h3.1), e2]) e2
    · cases h3
  · cases h
mutual
theorem sE : ∀ (m : ME) {C : Ct} {X : Cx} (G : Gd W C k X) (F : Fx W C k call) {e : Expr}, mE C m e = true → SE X call m e
  | .var i, C, X, G, F, e, h => by
    cases e <;> try (exact absurd h Bool.false_ne_true)
    rename_i x pos
    have h : (decide (C.N[i]? = some x) && visB C.sc x && !(x == ("__debug__" : Str)) && !(x == ("__classdict__" : Str))) = true := h
    simp only [Bool.and_eq_true, decide_eq_true_eq, Bool.not_eq_true'] at h
    exact se_var (by rw [G.N]; exact h.1.1.1) (vis_of (by rw [G.sc]; exact h.1.1.2)) h.1.2 h.2
  | .con v, C, X, G, F, e, h => by
    cases e <;> try (exact absurd h Bool.false_ne_true)
    exact se_con h
  | .glb x v, C, X, G, F, e, h => by
    cases e <;> try (exact absurd h Bool.false_ne_true)
    rename_i y pos
    rw [mE] at h
    simp only [Bool.and_eq_true, decide_eq_true_eq] at h
    obtain ⟨⟨rfl, h2⟩, h3⟩ := h
    obtain ⟨g1, g2⟩ := gl_of (X := X) (by rw [G.sc]; exact h2)
    split at h3
    · rename_i w hw
      cases same_ok h3
      obtain ⟨f, u, v', c1, c2, c3⟩ := F.cs _ _ hw
      exact se_glb g1 (by rw [G.mg]; exact c1) c2 (by rw [G.K]; exact c3) f g2
    · cases h3
  | .bin o a b, C, X, G, F, e, h => by
    cases e <;> try (exact absurd h Bool.false_ne_true)
    rw [mE] at h
    simp only [Bool.and_eq_true, decide_eq_true_eq] at h
    obtain ⟨⟨rfl, h2⟩, h3⟩ := h
    exact se_bin (sE a G F h2) (sE b G F h3)
  | .neg a, C, X, G, F, e, h => by
    cases e <;> try (exact absurd h Bool.false_ne_true)
    rename_i op x pos
    cases op <;> try (exact absurd h Bool.false_ne_true)
    exact se_neg (sE a G F h)
  | .cmp o a b, C, X, G, F, e, h => by
    unfold mE at h
    split at h
    · simp only [Bool.and_eq_true, decide_eq_true_eq] at h
      obtain ⟨⟨rfl, h2⟩, h3⟩ := h
      exact se_cmp (sE a G F h2) (sE b G F h3) (mark_ok (plain_ok h3) _)
    · cases h
  | .cmp2 o o' a b c, C, X, G, F, e, h => by
    unfold mE at h
    split at h
    · simp only [Bool.and_eq_true, decide_eq_true_eq] at h
      obtain ⟨⟨⟨⟨rfl, rfl⟩, h2⟩, h3⟩, h4⟩ := h
      exact se_cmp2 (sE a G F h2) (sE b G F h3) (sE c G F h4) (marks_ok (plain_ok h3) (plain_ok h4) _ _)
    · cases h
  | .not a, C, X, G, F, e, h => by
    cases e <;> try (exact absurd h Bool.false_ne_true)
    rename_i op x pos
    cases op <;> try (exact absurd h Bool.false_ne_true)
    exact se_not (sE a G F h)
  | .and a b, C, X, G, F, e, h => by
    unfold mE at h
    split at h
    · rw [Bool.and_eq_true] at h
      exact (sb_and (sE a G F h.1) (sE b G F h.2).one).se
    · rw [Bool.and_eq_true] at h
      exact (sb_and (sE a G F h.1) (sE b G F h.2).sb).se
    · cases h
  | .or a b, C, X, G, F, e, h => by
    unfold mE at h
    split at h
    · rw [Bool.and_eq_true] at h
      exact (sb_or (sE a G F h.1) (sE b G F h.2).one).se
    · rw [Bool.and_eq_true] at h
      exact (sb_or (sE a G F h.1) (sE b G F h.2).sb).se
    · cases h
  | .ite t a b, C, X, G, F, e, h => by
    unfold mE at h
    split at h
    · simp only [Bool.and_eq_true] at h
      exact se_ite (sE t G F h.1.1) (sE a G F h.1.2) (sE b G F h.2) pt_never
    · cases h
  | .fn f as, C, X, G, F, e, h => by
    unfold mE at h
    split at h
    · rename_i x p y ys pos
      simp only [Bool.and_eq_true, decide_eq_true_eq] at h
      obtain ⟨⟨h1, h2⟩, h3⟩ := h
      obtain ⟨g1, g2⟩ := gl_of (X := X) (by rw [G.sc]; exact h2)
      obtain ⟨a, fd, ps, f1, f2, f3, f4⟩ := F.fn _ _ h1
      have f4' : FnOk X.prog X.w X.K X.mg X.base CX0 k a fd ps (spEv X.K (call f)) := by rw [G.P, G.w, G.K, G.mg, G.base]; exact f4
      have hh : plainE y = true ∧ (backTo pos (starEach ys X.env)).any (·.1) = false := by
        cases as with
        | nil => cases h3
        | cons a as =>
          rw [mA, Bool.and_eq_true] at h3
          exact ⟨plain_ok h3.1, any_ok h3.2⟩
      refine se_fn (sA as G F h3) (fun {t} pa => ?_) fun _ => rfl
      refine (pe_call f4' G.room g1 (by rw [G.mg]; exact f1) (by rw [G.K]; exact f2) (by rw [G.K]; exact f3) .nil pass0 pa g2 (star_ok hh.1 _ _) hh.2).imp fun σ H Q q => ?_
      have e : (fun vs H1 => spEv X.K (call f) (vs ++ []) H1 Q E0) = (fun vs H1 => spEv X.K (call f) vs H1 Q E0) := by
        funext vs H1
        rw [List.append_nil]
      show t σ H (fun vs H1 => spEv X.K (call f) (vs ++ []) H1 Q E0)
      rw [e]
      exact q
    · cases h
  | .bi f as, C, X, G, F, e, h => by
    unfold mE at h
    split at h
    · rename_i x p y ys pos
      simp only [Bool.and_eq_true, decide_eq_true_eq] at h
      obtain ⟨⟨⟨rfl, h1⟩, h2⟩, h3⟩ := h
      obtain ⟨g1, g2⟩ := gl_of (X := X) (by rw [G.sc]; exact h2)
      have hm : X.mg (bname f) = none := by rw [G.mg]; exact F.bl _ h1
      have hh : plainE y = true ∧ (backTo pos (starEach ys X.env)).any (·.1) = false := by
        cases as with
        | nil => cases h3
        | cons a as =>
          rw [mA, Bool.and_eq_true] at h3
          exact ⟨plain_ok h3.1, any_ok h3.2⟩
      refine se_bi (sA as G F h3) (fun {r t} hr pa => ?_) G.calm fun _ => rfl
      cases f <;> first
        | exact pe_callB hr g1 hm (by decide +kernel) pa (by decide) g2 (star_ok hh.1 _ _) hh.2
        | exact pe_callTy hr g1 hm (by decide +kernel) pa (by decide) g2 (star_ok hh.1 _ _) hh.2
    · cases h
  | .mt f o as, C, X, G, F, e, h => by
    unfold mE at h
    split at h
    · rename_i x name apos y pos
      simp only [Bool.and_eq_true, decide_eq_true_eq, Bool.not_eq_true'] at h
      obtain ⟨⟨⟨⟨rfl, h1⟩, h2⟩, h3⟩, h4⟩ := h
      have hy : plainE y = true := by
        cases as with
        | nil => cases h4
        | cons a as =>
          rw [mA, Bool.and_eq_true] at h4
          exact plain_ok h4.1
      have st := star_ok hy [] X.env
      refine se_mt (sE o G F h1) (sA as G F h4) (fun {r to t} hr po pa => ?_) fun _ => rfl
      have few : ((backTo pos (starEach [y] X.env)).all (fun x => !x.1) && (backToKw pos (keywordEach [] X.env)).all (fun x => x.1.isSome)
        && decide (([y] : List Expr).length + ([] : List Keyword).length + (if ([] : List Keyword).isEmpty then 0 else 1) < 30)) = true := by rw [st]; rfl
      cases f with
      | append => exact pe_bm PySem.F.plainAttrs_list PySem.F.slot_list_append PySem.F.type_list_append hr po pa (base_ok h3) few h2 st rfl
      | split => exact pe_bm PySem.F.plainAttrs_str PySem.F.slot_str_split PySem.F.type_str_split hr po pa (base_ok h3) few h2 st rfl
      | partition => exact pe_bm PySem.F.plainAttrs_str PySem.F.slot_str_partition PySem.F.type_str_partition hr po pa (base_ok h3) few h2 st rfl
      | join => exact pe_bm PySem.F.plainAttrs_str PySem.F.slot_str_join PySem.F.type_str_join hr po pa (base_ok h3) few h2 st rfl
    · cases h
  | .tup as, C, X, G, F, e, h => by
    cases e <;> try (exact absurd h Bool.false_ne_true)
    exact se_tup (sA as G F h)
  | .lst as, C, X, G, F, e, h => by
    cases e <;> try (exact absurd h Bool.false_ne_true)
    exact se_lst (sA as G F h)
  | .ix a i, C, X, G, F, e, h => by
    cases e <;> try (exact absurd h Bool.false_ne_true)
    rw [mE, Bool.and_eq_true] at h
    exact se_ix (sE a G F h.1) (sE i G F h.2) (ix_ok (plain_ok h.2))
  | .sl a lo hi, C, X, G, F, e, h => by
    unfold mE at h
    split at h
    · rename_i x l u p2 pos
      simp only [Bool.and_eq_true] at h
      refine se_sl (sE a G F h.1.1) ?_ ?_
      · have hl := h.1.2
        cases l with
        | none => exact po_absent hl
        | some y =>
          simp only [Bool.and_eq_true, Bool.not_eq_true'] at hl
          exact po_there hl.1 (sE lo G F hl.2)
      · have hl := h.2
        cases u with
        | none => exact po_absent hl
        | some y =>
          simp only [Bool.and_eq_true, Bool.not_eq_true'] at hl
          exact po_there hl.1 (sE hi G F hl.2)
    · cases h
  | .rng _ _, C, X, G, F, e, h => by cases h
  | .fmt a, C, X, G, F, e, h => by
    unfold mE at h
    split at h
    · simp only [Bool.and_eq_true, decide_eq_true_eq] at h
      obtain ⟨rfl, h2⟩ := h
      exact se_fmt (sE a G F h2)
    · cases h
  | .fstr as, C, X, G, F, e, h => by
    unfold mE at h
    split at h
    · exact se_fstr (sJ as G F h)
    · cases h
  | .dix x kvs a, C, X, G, F, e, h => by
    unfold mE at h
    split at h
    · rename_i y p k pos
      simp only [Bool.and_eq_true, decide_eq_true_eq] at h
      obtain ⟨⟨⟨rfl, h1⟩, h3⟩, h4⟩ := h
      obtain ⟨g1, g2⟩ := gl_of (X := X) (by rw [G.sc]; exact h1)
      split at h3
      · rename_i w hw
        cases sameD_ok h3
        obtain ⟨dd, es, n, c1, c2, c3⟩ := F.ds _ _ hw
        have D : KDict X.K X.w dd es n := by rw [G.K, G.w]; exact c2
        exact se_dix D c3 (pe_glob (v := .ref dd) g1 (by rw [G.mg]; exact c1) rfl g2) (sE a G F h4) (ix_ok (plain_ok h4))
      · cases h3
    · cases h
  | .gget x kvs a b, C, X, G, F, e, h => by
    unfold mE at h
    split at h
    · rename_i y p name apos k d pos
      simp only [Bool.and_eq_true, decide_eq_true_eq] at h
      obtain ⟨⟨⟨⟨⟨⟨rfl, rfl⟩, h1⟩, h2⟩, h3⟩, h4⟩, h5⟩ := h
      obtain ⟨g1, g2⟩ := gl_of (X := X) (by rw [G.sc]; exact h1)
      split at h3
      · rename_i w hw
        cases sameD_ok h3
        obtain ⟨dd, es, n, c1, c2, c3⟩ := F.ds _ _ hw
        have s1 := star_ok (plain_ok h4) [d] X.env
        have s2 : starEach [d] X.env = [(false, eval d X.env)] := star_ok (plain_ok h5) [] X.env
        rw [s2] at s1
        have D : KDict X.K X.w dd es n := by rw [G.K, G.w]; exact c2
        refine se_gget D c3 (pe_glob (v := .ref dd) g1 (by rw [G.mg]; exact c1) rfl g2) (sE a G F h4) (sE b G F h5) ⟨rfl, ?_, h2, ?_⟩
        · rw [s1]; rfl
        · rw [s1]; rfl
      · cases h3
    · cases h
  | .isi t a, C, X, G, F, e, h => by
    unfold mE at h
    split at h
    · rename_i f p x y p2 pos
      simp only [Bool.and_eq_true, decide_eq_true_eq] at h
      obtain ⟨⟨⟨⟨⟨⟨rfl, h1⟩, h2⟩, rfl⟩, h3⟩, h4⟩, h5⟩ := h
      exact se_isi (sE a G F h5) (gl_of (X := X) (by rw [G.sc]; exact h2)).1 (by rw [G.mg]; exact F.bl _ h1) (gl_of (X := X) (by rw [G.sc]; exact h4)).1 (by rw [G.mg]; exact F.bl _ h3) (star_ok (plain_ok h5) _ _)
    · cases h
  | .lc elt g src has c, C, X, G, F, e, h => by
    by_cases hn : ∀ a b, src ≠ .rng a b
    · rw [mE_lc hn] at h
      split at h
      · rename_i x tg iter ifs scope pos
        simp only [Bool.and_eq_true] at h
        obtain ⟨⟨⟨⟨h1, h2⟩, h3⟩, h4⟩, h5⟩ := h
        exact lc_mk G (pi_used (sE src G F h1)) (set_ok (plain_ok h1) _) h2 h3 h4
          (fun G' t ht => sE c G' ⟨F.fn, F.cs, F.bl, F.ds⟩ ht) (fun G' => sE elt G' ⟨F.fn, F.cs, F.bl, F.ds⟩ h5) fun _ _ _ => ev_lc hn
      · cases h
    · cases src with
      | rng a b => exact lc_rng G F h (fun h => sE a G F h) (fun h => sE b G F h) (fun G F _ h => sE c G F h) (fun G F _ h => sE elt G F h)
      | _ => exact absurd (fun a b z => by cases z) hn
termination_by m => sizeOf m
theorem sJ : ∀ (as : MEs) {C : Ct} {X : Cx} (G : Gd W C k X) (F : Fx W C k call) {es : List Expr}, mA C as es = true → SJ X call as es
  | .nil, C, X, G, F, es, h => by
    cases es with
    | nil => exact sj_nil
    | cons _ _ => cases h
  | .cons a as, C, X, G, F, es, h => by
    cases es with
    | nil => cases h
    | cons e es =>
      rw [mA, Bool.and_eq_true] at h
      exact sj_cons (sE a G F h.1) (sJ as G F h.2)
termination_by as => sizeOf as
theorem sA : ∀ (as : MEs) {C : Ct} {X : Cx} (G : Gd W C k X) (F : Fx W C k call) {es : List Expr}, mA C as es = true → SA X call as es
  | .nil, C, X, G, F, es, h => by
    cases es with
    | nil => exact sa_nil
    | cons _ _ => cases h
  | .cons a as, C, X, G, F, es, h => by
    cases es with
    | nil => cases h
    | cons e es =>
      rw [mA, Bool.and_eq_true] at h
      exact sa_cons (sE a G F h.1) (sA as G F h.2) (star_ok (plain_ok h.1) _ _)
termination_by as => sizeOf as
end
end
end U

set_option maxHeartbeats 8000000
/-! U12: statements. -/
namespace U
open PySem PySem.Spec PyProof.Rows L2
/-! ### is this text that program -/
def notLc : Expr → Bool
  | .ListComp .. => false
  | .SetComp .. => false
  | .DictComp .. => false
  | _ => true
def notTup : Expr → Bool
  | .Tuple .. => false
  | _ => true
def mV1 (C : Ct) (i : Nat) (e : Expr) : Bool := match e with
  | .Name x _ => decide (C.N[i]? = some x) && locB C.sc x
  | _ => false
def mVs (C : Ct) : List Nat → List Expr → Bool
  | [], [] => true
  | i :: is, e :: es => mV1 C i e && mVs C is es
  | _, _ => false
def mV (C : Ct) (g : MG) (e : Expr) : Bool := match g, e with
  | .nm i, e => mV1 C i e
  | .tp is, .Tuple es _ _ => mVs C is es
  | _, _ => false
/-- x = [..] on one line, x a local -/
def lcOk (C : Ct) (x : Str) (px : Pos) (v : Expr) : Bool := match v with
  | .ListComp _ _ scope p => decide (C.sc.kind = .function) && decide (C.sc.names.lookup x = some .local) && (px.line == p.line) && !(scope.names.any fun (n, k) => n == x && (k == .local || k == .cell))
  | _ => false
/-- what a for walks -/
def mSrc (C : Ct) : ME → Expr → Bool
  | .rng a b, e => match e with
    | .Call (.Name f _) es [] _ => decide (f = "range") && C.bl.contains "range" && glB C.sc f && (match es with
        | [y] => (match a with
          | .con (.int 0) => mE C b y
          | _ => false)
        | [z, y] => mE C a z && mE C b y
        | _ => false)
    | _ => false
  | m, e => mE C m e
mutual
def mS (C : Ct) : MS → Stmt → Bool
  | .set i e own, s => match s with
    | .Assign [.Name x px] v pos => decide (C.N[i]? = some x) && locB C.sc x && mE C e v && (notLc v || lcOk C x px v)
    | _ => false
  | .setT is e, s => match s with
    | .Assign [.Tuple es k p] v pos => mVs C is es && mE C e v && notLc v && notTup v
    | _ => false
  | .par i j as, s => match s with
    | .Assign [.Tuple [.Name x px, .Name y py] kt pt] (.Tuple [a, b] k2 pt2) pos => decide (C.N[i]? = some x) && decide (C.N[j]? = some y) && !(i == j) && !(x == y) && decide (C.sc.names.lookup x = some .local) && decide (C.sc.names.lookup y = some .local) &&
        (py.line == px.line) && !(foldedForSure 8 a && foldedForSure 8 b) && !(constantsAlone 8 a && constantsAlone 8 b) && mA C as [a, b]
    | _ => false
  | .setIx a i e, s => match s with
    | .Assign [.Subscript o x p] v pos => mE C a o && mE C i x && mE C e v && notLc v
    | _ => false
  | .aug i o e, s => match s with
    | .AugAssign (.Name x p) op v pos => decide (op = bop o) && decide (C.N[i]? = some x) && locB C.sc x && mE C e v
    | _ => false
  | .ex e, s => match s with
    | .Expr v pos => mE C e v && notLc v
    | _ => false
  | .ext i e, s => match s with
    | .Expr (.Call (.Attribute (.Name x p) name apos) [y] [] cpos) pos => decide (name = "extend") && (apos.endLine == cpos.line) && mE C (.var i) (.Name x p) && mE C e y
    | _ => false
  | .app i e, s => match s with
    | .Expr (.Call (.Attribute (.Name x p) name apos) [y] [] cpos) pos => decide (name = "append") && (apos.endLine == cpos.line) && mE C (.var i) (.Name x p) && mE C e y
    | _ => false
  | .ret e, s => match s with
    | .Return (some v) pos => mE C e v
    | _ => false
  | .ret0, s => match s with
    | .Return none pos => true
    | _ => false
  | .ite t a b, s => match s with
    | .If c x y pos => mE C t c && mSs C a x && mSs C b y
    | _ => false
  | .whl t b, s => match s with
    | .While c x [] pos => mE C t c && mSs C b x
    | _ => false
  | .for_ g src b, s => match s with
    | .For tg iter x [] pos => mV C g tg && mSrc C src iter && plainE iter && mSs C b x
    | _ => false
  | .brk, s => match s with
    | .Break _ => true
    | _ => false
  | .cnt, s => match s with
    | .Continue _ => true
    | _ => false
  | .pass, s => match s with
    | .Pass _ => true
    | _ => false
def mSs (C : Ct) : MSs → List Stmt → Bool
  | .nil, l => match l with
    | [] => true
    | _ => false
  | .cons s ss, l => match l with
    | [] => false
    | x :: xs => mS C s x && mSs C ss xs
end

/-! ### readings -/
section
variable {K : PySem.W.Frag} {μ : Nat → Addr} {L : Nat} {H : Hp} {X : Cx} {call : Nat → List PV → Store → Res PV}
/-- the lists of its own -/
def Own (env : En) (σ : L2.St) : Addr → Prop := fun a => ∃ (i : Nat) (xs : List PV), env[i]? = some (some (.fl xs)) ∧ σ[i]? = some (some (.ref a))
structure S1 (K : PySem.W.Frag) (μ : Nat → Addr) (L : Nat) (H : Hp) (env : En) (σ : L2.St) : Prop where
  re : RE K μ L H env σ
  de : ∀ (i j : Nat) (xs ys : List PV) (a : Addr), i ≠ j → env[i]? = some (some (.fl xs)) → env[j]? = some (some (.fl ys)) → σ[i]? = some (some (.ref a)) → σ[j]? = some (some (.ref a)) → False
theorem Own.there {env : En} {σ : L2.St} {a : Addr} (r : RE K μ L H env σ) (h : Own env σ a) : ∃ vs, H a = some (.lst vs) := by
  obtain ⟨i, xs, h1, h2⟩ := h
  obtain ⟨v, h3, h4⟩ := r.at_ i _ h1
  rw [h2] at h3
  cases h3
  cases h4 with
  | fl h5 _ _ => exact ⟨_, h5⟩
theorem S1.mono {μ1 : Nat → Addr} {L1 : Nat} {H1 : Hp} {env : En} {σ : L2.St} (s : Stp μ L H μ1 L1 H1) (r : S1 K μ L H env σ) : S1 K μ1 L1 H1 env σ := ⟨r.re.mono s, r.de⟩
def post (K : PySem.W.Frag) (S : Addr → Prop) (μ : Nat → Addr) (st : Store) (H : Hp) (r : SR) (D : Ends) : Prop := match r with
  | .nx e s => ∀ μ' H' σ', StX S μ st.length H μ' s.length H' → Ok K μ' s H' → S1 K μ' s.length H' e σ' → (∀ a, Own e σ' a → S a ∨ H a = none) → D.nx σ' H'
  | .bk e s => ∀ μ' H' σ', StX S μ st.length H μ' s.length H' → Ok K μ' s H' → S1 K μ' s.length H' e σ' → (∀ a, Own e σ' a → S a ∨ H a = none) → D.bk σ' H'
  | .ct e s => ∀ μ' H' σ', StX S μ st.length H μ' s.length H' → Ok K μ' s H' → S1 K μ' s.length H' e σ' → (∀ a, Own e σ' a → S a ∨ H a = none) → D.ct σ' H'
  | .rt v s => ∀ μ' H' v', StX S μ st.length H μ' s.length H' → Ok K μ' s H' → RV K μ' s.length H' v v' → (∀ a, v.isFl = true → v' = .ref a → S a ∨ H a = none) → D.rt v' H'
  | .bad => False
def rdS (K : PySem.W.Frag) (m : En → Store → SR) : TS := fun D σ H => ∃ μ env st, Ok K μ st H ∧ S1 K μ st.length H env σ ∧ post K (Own env σ) μ st H (m env st) D
theorem post.shift {S S' : Addr → Prop} {μ1 : Nat → Addr} {st st1 : Store} {H1 : Hp} {r : SR} {D : Ends} (s : StX S μ st.length H μ1 st1.length H1) (hs : ∀ a, S' a → S a ∨ H a = none) (p : post K S μ st H r D) : post K S' μ1 st1 H1 r D := by
  have own : ∀ a, S' a ∨ H1 a = none → S a ∨ H a = none := fun a z => z.elim (hs a) fun z => .inr (s.there a z)
  cases r with
  | nx e t => exact fun μ' H' σ' t o q w => p μ' H' σ' (s.trans t hs) o q fun a z => own a (w a z)
  | bk e t => exact fun μ' H' σ' t o q w => p μ' H' σ' (s.trans t hs) o q fun a z => own a (w a z)
  | ct e t => exact fun μ' H' σ' t o q w => p μ' H' σ' (s.trans t hs) o q fun a z => own a (w a z)
  | rt v t => exact fun μ' H' v' t o q w => p μ' H' v' (s.trans t hs) o q fun a z1 z2 => own a (w a z1 z2)
  | bad => exact p
theorem to_ok {α : Type} {r : Res α} {f : α → Store → SR} {S : Addr → Prop} {st : Store} {D : Ends} (h : post K S μ st H (r.to f) D) : ∃ a st1, r = .ok a st1 ∧ post K S μ st H (f a st1) D := by
  cases r with
  | ok a st1 => exact ⟨a, st1, rfl, h⟩
  | bad => exact h.elim
theorem post.mono {S : Addr → Prop} {st : Store} {r : SR} {D D' : Ends} (p : post K S μ st H r D) (hn : ∀ σ H, D.nx σ H → D'.nx σ H) (hr : ∀ v H, D.rt v H → D'.rt v H) (hb : ∀ σ H, D.bk σ H → D'.bk σ H) (hc : ∀ σ H, D.ct σ H → D'.ct σ H) : post K S μ st H r D' := by
  cases r with
  | nx e t => exact fun μ' H' σ' t o q w => hn _ _ (p μ' H' σ' t o q w)
  | bk e t => exact fun μ' H' σ' t o q w => hb _ _ (p μ' H' σ' t o q w)
  | ct e t => exact fun μ' H' σ' t o q w => hc _ _ (p μ' H' σ' t o q w)
  | rt v t => exact fun μ' H' v' t o q w => hr _ _ (p μ' H' v' t o q w)
  | bad => exact p
theorem _root_.L2.PS.imp {st : Stmt} {t t' : TS} (h : PS X st t) (i : ∀ D σ H, t' D σ H → t D σ H) : PS X st t' := ⟨fun pins s σ H D I q => h.run pins s σ H D I (i _ _ _ q)⟩
theorem _root_.L2.PSs.imp {st : List Stmt} {t t' : TS} (h : PSs X st t) (i : ∀ D σ H, t' D σ H → t D σ H) : PSs X st t' := ⟨fun pins s σ H D I q => h.run pins s σ H D I (i _ _ _ q)⟩

/-- a name gets a value that is shared or no list -/
theorem S1.set {env : En} {σ : L2.St} {x : PV} {v : V} (r : S1 K μ L H env σ) (q : RV K μ L H x v) (f : x.isFl = false) (i : Nat) : S1 K μ L H (env.set i (some x)) (σ.set i (some v)) ∧ ∀ a, Own (env.set i (some x)) (σ.set i (some v)) a → Own env σ a := by
  have key : ∀ (j : Nat) (xs : List PV) (a : Addr), (env.set i (some x))[j]? = some (some (.fl xs)) → (σ.set i (some v))[j]? = some (some (.ref a)) → env[j]? = some (some (.fl xs)) ∧ σ[j]? = some (some (.ref a)) := fun j xs a h1 h2 => by
    by_cases e : i = j
    · subst e
      by_cases hi : i < env.length
      · rw [List.getElem?_set_self hi] at h1
        cases h1; cases f
      · rw [List.getElem?_eq_none (by simp; omega)] at h1; cases h1
    · rw [List.getElem?_set_ne e] at h1 h2
      exact ⟨h1, h2⟩
  exact ⟨⟨r.re.set q i, fun j k xs ys a ne h1 h2 h3 h4 => let ⟨a1, a2⟩ := key j xs a h1 h3; let ⟨b1, b2⟩ := key k ys a h2 h4; r.de j k xs ys a ne a1 b1 a2 b2⟩, fun a ⟨j, xs, h1, h2⟩ => let ⟨a1, a2⟩ := key j xs a h1 h2; ⟨j, xs, a1, a2⟩⟩
/-- .. or a list that stands off its own lists -/
theorem S1.setFl {env : En} {σ : L2.St} {x : PV} {v : V} (r : S1 K μ L H env σ) (q : RV K μ L H x v) (f : ∀ a, x.isFl = true → v = .ref a → ¬ Own env σ a) (i : Nat) :
    S1 K μ L H (env.set i (some x)) (σ.set i (some v)) ∧ ∀ a, Own (env.set i (some x)) (σ.set i (some v)) a → Own env σ a ∨ (x.isFl = true ∧ v = .ref a) := by
  have key : ∀ (j : Nat) (xs : List PV) (a : Addr), (env.set i (some x))[j]? = some (some (.fl xs)) → (σ.set i (some v))[j]? = some (some (.ref a)) → (j ≠ i ∧ env[j]? = some (some (.fl xs)) ∧ σ[j]? = some (some (.ref a))) ∨ (j = i ∧ x.isFl = true ∧ v = .ref a) := fun j xs a h1 h2 => by
    by_cases e : i = j
    · subst e
      by_cases hi : i < env.length
      · rw [List.getElem?_set_self hi] at h1
        rw [List.getElem?_set_self (by rw [← r.re.len]; exact hi)] at h2
        cases h1; cases h2
        exact .inr ⟨rfl, rfl, rfl⟩
      · rw [List.getElem?_eq_none (by simp; omega)] at h1; cases h1
    · rw [List.getElem?_set_ne e] at h1 h2
      exact .inl ⟨fun z => e z.symm, h1, h2⟩
  refine ⟨⟨r.re.set q i, fun j k xs ys a ne h1 h2 h3 h4 => ?_⟩, fun a ⟨j, xs, h1, h2⟩ => ?_⟩
  · rcases key j xs a h1 h3 with ⟨_, a1, a2⟩ | ⟨rfl, f1, e1⟩
    · rcases key k ys a h2 h4 with ⟨_, b1, b2⟩ | ⟨rfl, f2, e2⟩
      · exact r.de j k xs ys a ne a1 b1 a2 b2
      · exact f a f2 e2 ⟨j, xs, a1, a2⟩
    · rcases key k ys a h2 h4 with ⟨_, b1, b2⟩ | ⟨e3, _, _⟩
      · exact f a f1 e1 ⟨k, ys, b1, b2⟩
      · exact ne e3.symm
  · rcases key j xs a h1 h2 with ⟨_, a1, a2⟩ | ⟨_, f1, e1⟩
    · exact .inl ⟨j, xs, a1, a2⟩
    · exact .inr ⟨f1, e1⟩
theorem S1.setEach {Q : L2.St → Hp → Prop} : ∀ {is : List Nat} {xs : List PV} {vs : List V} {env env' : En} {σ : L2.St}, U.setEach is xs env = some env' → S1 K μ L H env σ → RVs K μ L H xs vs →
    (∀ σ', S1 K μ L H env' σ' → (∀ a, Own env' σ' a → Own env σ a) → Q σ' H) → gAll is vs σ H Q
  | [], _, _, _, _, _, h, r, .nil, q => by
    cases h
    exact ⟨rfl, q _ r fun _ z => z⟩
  | [], _, _, _, _, _, h, _, .cons _ _ _, _ => by cases h
  | _ :: _, _, _, _, _, _, h, _, .nil, _ => by cases h
  | i :: is, _, _, _, _, _, h, r, .cons f rx rs, q =>
    ⟨_, _, rfl, S1.setEach h (r.set rx f i).1 rs fun σ' r' w => q σ' r' fun a z => (r.set rx f i).2 a (w a z)⟩
theorem S1.put {g : MG} {x : PV} {x' : V} {env env' : En} {σ : L2.St} {Q : L2.St → Hp → Prop} (h : g.put x env = some env') (r : S1 K μ L H env σ) (f : x.isFl = false) (rx : RV K μ L H x x')
    (q : ∀ σ', S1 K μ L H env' σ' → (∀ a, Own env' σ' a → Own env σ a) → Q σ' H) : gOf K g x' σ H Q := by
  cases g with
  | nm i =>
    cases h
    exact q _ (r.set rx f i).1 (r.set rx f i).2
  | tp is =>
    unfold MG.put at h
    simp only at h
    split at h
    · cases rx with
      | tup h1 r1 => exact ⟨_, _, rfl, h1, by rw [← r1.len]; exact setEach_len h, S1.setEach h r r1 q⟩
    · cases h
end
end U

set_option maxHeartbeats 8000000
/-! U13: statements, one by one. -/
namespace U
open PySem PySem.Spec PyProof.Rows L2
theorem dups2 {x y : Str} (h : (x == y) = false) : ([x, y] : List Str).eraseDups.length = 2 := by
  have h' : (y == x) = false := by
    cases q : y == x with
    | false => rfl
    | true => rw [eq_of_beq q, beq_self_eq_true] at h; cases h
  simp [List.eraseDups_cons, h']
theorem sw_par {x y : Str} {px py pt pt2 : Pos} {kt k2 : Nat} {a b : Expr} {env : Env} (hk : env.blockKind = .function) (hx : env.kindOf x = some .local) (hy : env.kindOf y = some .local) (hl : (py.line == px.line) = true) (ne : (x == y) = false)
    (sa : plainE a = true) (sb : plainE b = true) (hf : (foldedForSure 8 a && foldedForSure 8 b) = false) (hc : (constantsAlone 8 a && constantsAlone 8 b) = false) :
    swappedStores [.Tuple [.Name x px, .Name y py] kt pt] (.Tuple [a, b] k2 pt2) env = pure (some [x, y]) := by
  have hl' := eq_of_beq hl
  have d := dups2 ne
  have f2 : [a, b].all (foldedForSure 8) = false := by simpa using hf
  have c2 : [a, b].all (constantsAlone 8) = false := by simpa using hc
  unfold swappedStores
  simp only [hk, f2, c2, hl', Expr.pos, List.length_cons, List.length_nil, List.head?_cons, Option.map_some, Option.getD_some, List.filterMap_cons, List.filterMap_nil, hx, hy, beq_self_eq_true, Bool.and_self, if_true, d]
  rw [if_neg (by decide), if_neg, if_neg (by decide), if_neg Bool.false_ne_true, if_neg Bool.false_ne_true]
  cases a <;> first | (cases sa; done) | (cases b <;> first | exact Bool.false_ne_true | (cases sb; done))
section
variable {K : PySem.W.Frag} {X : Cx} {call : Nat → List PV → Store → Res PV} {m : ME}
/-- e, dropped -/
theorem ps_ex {e : ME} {x : Expr} {pos : Pos} {turns : Nat} (he : SE X call e x) (hs : swapsWith x none pos.line X.env = pure false) : PS X (.Expr x pos) (rdS X.K (evS call turns (.ex e))) := by
  refine (ps_expr he.val hs).imp fun D σ H ⟨μ, env, st, o, r, p⟩ => ?_
  rw [evS] at p
  obtain ⟨x1, st1, h1, p⟩ := to_ok p
  exact ⟨μ, env, st, x1, st1, o, r.re, h1, fun μ1 H1 x' s1 o1 r1 f1 => p μ1 H1 σ s1.wide o1 (r.mono s1) fun a z => .inl z⟩
/-- x = e -/
theorem set_imp {e : ME} {i : Nat} {own : Bool} {turns : Nat} : ∀ D σ H, rdS K (evS call turns (.set i e own)) D σ H → tAsg (rd K (ev call e .val)) (gName i) D σ H := fun D σ H ⟨μ, env, st, o, r, p⟩ => by
  rw [evS] at p
  obtain ⟨x1, st1, h1, p⟩ := to_ok p
  refine ⟨μ, env, st, x1, st1, o, r.re, h1, fun μ1 H1 x' s1 o1 r1 f1 => ?_⟩
  show D.nx (σ.set i (some x')) H1
  cases own with
  | true =>
    have off : ∀ a, x1.isFl = true → x' = .ref a → H a = none := fun a z e => by
      cases x1 <;> first | cases z | skip
      subst e
      exact f1
    obtain ⟨q1, q2⟩ := (r.mono s1).setFl r1 (fun a z e w => by
      obtain ⟨vs, hv⟩ := w.there r.re
      rw [off a z e] at hv; cases hv) i
    exact p μ1 H1 _ s1.wide o1 q1 fun a z => (q2 a z).elim .inl fun w => .inr (off a w.1 w.2)
  | false =>
    obtain ⟨μe, se, oe, re, fe, _⟩ := Ok.esc s1 o1 r1 f1
    obtain ⟨q1, q2⟩ := (r.mono se).set re fe i
    exact p μe H1 _ se.wide oe q1 fun a z => .inl (q2 a z)
/-- return e -/
theorem ps_retE {e : ME} {x : Expr} {pos : Pos} {turns : Nat} (he : SE X call e x) (hv : ∀ j, e = .var j → PE X x (tVar j)) : PS X (.Return (some x) pos) (rdS X.K (evS call turns (.ret e))) := by
  have val : PS X (.Return (some x) pos) (tRet (rd X.K (ev call e .val))) := ps_ret he.val
  refine ⟨fun pins s σ H D I ⟨μ, env, st, o, r, p⟩ => ?_⟩
  rw [evS] at p
  split at p
  · rename_i i xs hh
    unfold ME.held at hh
    split at hh
    · rename_i j
      split at hh
      · rename_i hy
        cases hh
        obtain ⟨v, h1, h2⟩ := r.re.at_ _ _ hy
        refine (ps_ret (pos := pos) (hv _ rfl)).run pins s σ H D I ⟨v, h1, p μ H v StX.refl o h2 fun a _ e => .inl ⟨_, _, hy, ?_⟩⟩
        rw [← e]; exact h1
      · cases hh
    · cases hh
  · obtain ⟨x1, st1, h1, p⟩ := to_ok p
    refine val.run pins s σ H D I ⟨μ, env, st, x1, st1, o, r.re, h1, fun μ1 H1 v' s1 o1 r1 f1 => ?_⟩
    refine p μ1 H1 v' s1.wide o1 r1 fun a z e => .inr ?_
    cases x1 <;> first | cases z | skip
    subst e
    exact f1
theorem ps_ret0 {pos : Pos} {turns : Nat} : PS X (.Return none pos) (rdS X.K (evS call turns .ret0)) := by
  refine ps_retN.imp fun D σ H ⟨μ, env, st, o, r, p⟩ => ?_
  rw [evS] at p
  exact p μ H .non StX.refl o .non fun a z => by cases z
theorem ps_brk {pos : Pos} {turns : Nat} : PS X (.Break pos) (rdS X.K (evS call turns .brk)) := by
  refine ps_break.imp fun D σ H ⟨μ, env, st, o, r, p⟩ => ?_
  rw [evS] at p
  exact p μ H σ StX.refl o r fun a z => .inl z
theorem ps_cnt {pos : Pos} {turns : Nat} : PS X (.Continue pos) (rdS X.K (evS call turns .cnt)) := by
  refine ps_continue.imp fun D σ H ⟨μ, env, st, o, r, p⟩ => ?_
  rw [evS] at p
  exact p μ H σ StX.refl o r fun a z => .inl z
theorem ps_pas {pos : Pos} {turns : Nat} : PS X (.Pass pos) (rdS X.K (evS call turns .pass)) := by
  refine ps_pass.imp fun D σ H ⟨μ, env, st, o, r, p⟩ => ?_
  rw [evS] at p
  exact p μ H σ StX.refl o r fun a z => .inl z
/-- if -/
theorem ps_ite {t : ME} {a b : MSs} {c : Expr} {x y : List Stmt} {pos : Pos} {turns : Nat} (ht : SE X call t c) (ha : PSs X x (rdS X.K (evSs call turns a))) (hb : PSs X y (rdS X.K (evSs call turns b))) : PS X (.If c x y pos) (rdS X.K (evS call turns (.ite t a b))) := by
  refine (ps_if ht.test ha hb).imp fun D σ H ⟨μ, env, st, o, r, p⟩ => ?_
  rw [evS] at p
  obtain ⟨x1, st1, h1, p⟩ := to_ok p
  split at p
  · rename_i hk
    cases isBl_ok hk
    exact ⟨μ, env, st, true, st1, o, r.re, h1, fun μ1 H1 s1 o1 => iteT ⟨μ1, env, st1, o1, r.mono s1, p.shift s1.wide fun a z => .inl z⟩⟩
  · rename_i hk
    cases isBl_ok hk
    exact ⟨μ, env, st, false, st1, o, r.re, h1, fun μ1 H1 s1 o1 => iteF ⟨μ1, env, st1, o1, r.mono s1, p.shift s1.wide fun a z => .inl z⟩⟩
  · exact p.elim
/-- a block -/
theorem pss_n {turns : Nat} : PSs X [] (rdS X.K (evSs call turns .nil)) := by
  refine pss_nil.imp fun D σ H ⟨μ, env, st, o, r, p⟩ => ?_
  rw [evSs] at p
  exact p μ H σ StX.refl o r fun a z => .inl z
theorem pss_c {s : MS} {ss : MSs} {x : Stmt} {xs : List Stmt} {turns : Nat} (h1 : PS X x (rdS X.K (evS call turns s))) (h2 : PSs X xs (rdS X.K (evSs call turns ss))) : PSs X (x :: xs) (rdS X.K (evSs call turns (.cons s ss))) := by
  refine (pss_cons h1 h2).imp fun D σ H ⟨μ, env, st, o, r, p⟩ => ⟨μ, env, st, o, r, ?_⟩
  rw [evSs] at p
  cases q : evS call turns s env st with
  | nx e1 s1 =>
    rw [q] at p
    exact fun μ' H' σ' t o' r' w => ⟨μ', e1, s1, o', r', post.shift (r := evSs call turns ss e1 s1) t w p⟩
  | rt v s1 => rw [q] at p; exact p
  | bk e1 s1 => rw [q] at p; exact p
  | ct e1 s1 => rw [q] at p; exact p
  | bad => rw [q] at p; exact p
/-- while -/
theorem whl_step {test : En → Store → Res PV} {body : En → Store → SR} {n : Nat} {env : En} {st : Store} : whlLoop test body (n + 1) env st = (test env st).to fun x st1 => match isBl x with
    | some true => match body env st1 with
      | .nx e s => whlLoop test body n e s
      | .ct e s => whlLoop test body n e s
      | .bk e s => .nx e s
      | r => r
    | some false => .nx env st1
    | none => .bad := rfl
theorem ps_whl {t : ME} {b : MSs} {c : Expr} {x : List Stmt} {pos : Pos} {turns : Nat} (hp : PassesOwn (model X.prog X.w) X.A X.env X.xe) (ht : SE X call t c) (hb : PSs X x (rdS X.K (evSs call turns b))) : PS X (.While c x [] pos) (rdS X.K (evS call turns (.whl t b))) := by
  refine (ps_while hp ht.test hb).imp fun D σ H ⟨μ, env, st, o, r, p⟩ => ?_
  rw [evS] at p
  refine ⟨fun m σ H => ∃ μ env st, Ok X.K μ st H ∧ S1 X.K μ st.length H env σ ∧ post X.K (Own env σ) μ st H (whlLoop (ev call t .test) (evSs call turns b) m env st) D, ⟨turns, μ, env, st, o, r, p⟩, ?_⟩
  rintro m σ H ⟨μ, env, st, o, r, p⟩
  cases m with
  | zero => exact p.elim
  | succ m =>
    rw [whl_step] at p
    obtain ⟨x1, st1, h1, p⟩ := to_ok p
    split at p
    · rename_i hk
      cases isBl_ok hk
      refine ⟨μ, env, st, true, st1, o, r.re, h1, fun μ1 H1 s1 o1 => iteT ⟨fun σ' H' => ∃ μ env st, Ok X.K μ st H' ∧ S1 X.K μ st.length H' env σ' ∧ post X.K (Own env σ') μ st H' (whlLoop (ev call t .test) (evSs call turns b) m env st) D,
        fun σ' H' w => ⟨m, Nat.lt_succ_self m, w⟩, μ1, env, st1, o1, r.mono s1, ?_⟩⟩
      have p := p.shift (S' := Own env σ) s1.wide fun a z => .inl z
      cases q : evSs call turns b env st1 with
      | nx e s => rw [q] at p; exact fun μ' H' σ' t o' r' w => ⟨μ', e, s, o', r', post.shift t w p⟩
      | ct e s => rw [q] at p; exact fun μ' H' σ' t o' r' w => ⟨μ', e, s, o', r', post.shift t w p⟩
      | bk e s => rw [q] at p; exact p
      | rt v s => rw [q] at p; exact p
      | bad => rw [q] at p; exact p
    · rename_i hk
      cases isBl_ok hk
      exact ⟨μ, env, st, false, st1, o, r.re, h1, fun μ1 H1 s1 o1 => iteF (p μ1 H1 σ s1.wide o1 (r.mono s1) fun a z => .inl z)⟩
    · exact p.elim

/-! ### for -/
def rdF (K : PySem.W.Frag) (m : En → Store → Res Src) : TI := fun σ H R => ∃ μ env st s st', Ok K μ st H ∧ S1 K μ st.length H env σ ∧ m env st = .ok s st' ∧
  ∀ μ' H' J, Stp μ st.length H μ' st'.length H' → Ok K μ' st' H' → SrcR K (Own env σ) μ' st'.length H' J s → R J H'
theorem pf_val {tg it : Expr} (h : SE X call m it) : PI X tg it (rdF X.K fun env st => (ev call m .val env st).bind fun x st1 => opt (srcV x st1) st1) := by
  refine ⟨fun pins s σ H R I ⟨μ, env, st, src, st', o, r, h1, g⟩ => ?_⟩
  obtain ⟨v, st1, h2, h3⟩ := bind_ok h1
  obtain ⟨h4, rfl⟩ := opt_ok h3
  have ls : (∀ μ1 H1 v', Stp μ st.length H μ1 st1.length H1 → Ok X.K μ1 st1 H1 → RV X.K μ1 st1.length H1 v v' → Fr H v v' → ∃ a, v' = .ref a ∧ (∃ xs, SqL X.K H1 a xs) ∧ R (Itl X.K a) H1) →
      wpAny (model X.prog X.w) X.A (eval it X.env) (fun v s1 => wpAny (model X.prog X.w) X.A (pyIter v) (PIE X pins σ tg R) X.xe s1) X.xe s :=
    fun q => (pi_list h.val).run pins s σ H R I ⟨μ, env, st, v, st1, o, r.re, h2, fun μ1 H1 v' s1 o1 r1 f1 => q μ1 H1 v' s1 o1 r1 f1⟩
  cases v with
  | str z =>
    cases h4
    refine (pi_str h.val).run pins s σ H R I ⟨μ, env, st, _, st1, o, r.re, h2, fun μ1 H1 v' s1 o1 r1 _ => ?_⟩
    cases r1
    exact ⟨z, rfl, g μ1 H1 _ s1 o1 .str⟩
  | tup xs =>
    cases h4
    refine (pi_tup h.val).run pins s σ H R I ⟨μ, env, st, _, st1, o, r.re, h2, fun μ1 H1 v' s1 o1 r1 _ => ?_⟩
    cases r1 with
    | tup h5 r5 => exact ⟨_, rfl, ⟨_, h5⟩, g μ1 H1 _ s1 o1 (.tup h5 r5)⟩
  | fl xs =>
    cases h4
    refine ls fun μ1 H1 v' s1 o1 r1 f1 => ?_
    cases r1 with
    | fl h5 n5 r5 => exact ⟨_, rfl, ⟨_, SqL.of h5⟩, g μ1 H1 _ s1 o1 (.own h5 n5 (fun z => by
        obtain ⟨vs, hv⟩ := z.there r.re
        rw [show H _ = none from f1] at hv; cases hv) r5)⟩
  | rol xs =>
    cases h4
    refine ls fun μ1 H1 v' s1 o1 r1 _ => ?_
    cases r1 with
    | rol h5 r5 => exact ⟨_, rfl, ⟨_, h5.sq⟩, g μ1 H1 _ s1 o1 (.rol h5 r5)⟩
  | loc n =>
    refine ls fun μ1 H1 v' s1 o1 r1 _ => ?_
    cases r1 with
    | loc h5 =>
      obtain ⟨xs, hx, e⟩ := Option.map_eq_some_iff.mp h4
      obtain ⟨vs, hv⟩ := o1.held h5
      subst e
      exact ⟨_, rfl, ⟨vs, SqL.of hv⟩, g μ1 H1 _ s1 o1 (.live h5)⟩
  | _ => cases h4
theorem pf_rng2 {tg x y : Expr} {a b : ME} {p pos : Pos} (ha : SE X call a x) (hb : SE X call b y) (hg : Gl X "range") (hm : X.mg "range" = none) (hs : starEach [x, y] X.env = [(false, eval x X.env), (false, eval y X.env)]) (hs2 : starEach [y] X.env = [(false, eval y X.env)]) :
    PI X tg (.Call (.Name "range" p) [x, y] [] pos) (rdF X.K fun env st => (ev call a .val env st).bind fun x st1 => (ev call b .val env st1).bind fun y st2 => rngV x y st2) := by
  refine (pi_range2 hg hm (pa_cons ha.val (pa_cons hb.val pa_nil hs2) (by rw [hs, hs2])) hs hs2).imp fun σ H R ⟨μ, env, st, s, st', o, r, h, g⟩ => ?_
  obtain ⟨x1, st1, h1, h2⟩ := bind_ok h
  obtain ⟨y1, st2, h3, h4⟩ := bind_ok h2
  obtain ⟨i, j, rfl, rfl, hb, rfl, rfl⟩ := rng_ok h4
  refine ⟨μ, env, st, _, st1, o, r.re, h1, fun μ1 H1 x' s1 o1 r1 _ => ⟨μ1, env, st1, _, _, o1, r.re.mono s1, h3, fun μ2 H2 y' s2 o2 r2 _ => ?_⟩⟩
  cases r1; cases r2
  exact ⟨i, j, rfl, hb, g μ2 H2 _ (Stp.trans s1 s2) o2 .rng⟩
theorem pf_rng1 {tg y : Expr} {b : ME} {p pos : Pos} (hb : SE X call b y) (hg : Gl X "range") (hm : X.mg "range" = none) (hs : starEach [y] X.env = [(false, eval y X.env)]) :
    PI X tg (.Call (.Name "range" p) [y] [] pos) (rdF X.K fun env st => (ev call (.con (.int 0)) .val env st).bind fun x st1 => (ev call b .val env st1).bind fun y st2 => rngV x y st2) := by
  refine (pi_range1 hg hm (pa_cons hb.val pa_nil hs) hs).imp fun σ H R ⟨μ, env, st, s, st', o, r, h, g⟩ => ?_
  obtain ⟨x1, st1, h1, h2⟩ := bind_ok h
  cases (show Res.ok (PV.int 0) st = Res.ok x1 st1 from h1)
  obtain ⟨y1, st2, h3, h4⟩ := bind_ok h2
  obtain ⟨i, j, e, rfl, hb, rfl, rfl⟩ := rng_ok h4
  cases e
  refine ⟨μ, env, _, _, _, o, r.re, h3, fun μ2 H2 y' s2 o2 r2 _ => ?_⟩
  cases r2
  have q := g μ2 H2 _ s2 o2 (.rng (lo := 0) (n := (j - 0).toNat))
  rw [Int.sub_zero] at q
  exact ⟨j, rfl, hb.2.2.1, hb.2.2.2, q⟩
theorem for_step {put : PV → En → Option En} {body : En → Store → SR} {src : Src} {j n : Nat} {env : En} {st : Store} : forLoop put body src j (n + 1) env st = match src.get j st with
    | none => .bad
    | some x => match put x env with
      | none => .bad
      | some env' => match body env' st with
        | .nx e s => forLoop put body src (j + 1) n e s
        | .ct e s => forLoop put body src (j + 1) n e s
        | .bk e s => .nx e s
        | r => r := rfl
theorem ps_forE {g : MG} {src : ME} {b : MSs} {tg iter : Expr} {x : List Stmt} {pos : Pos} {turns : Nat} (hp : PassesOwn (model X.prog X.w) X.A X.env X.xe) (hc : X.calm = true) (hi : PI X tg iter (rdF X.K (evSrc call src))) (hg : PG X tg (gOf X.K g))
    (hb : PSs X x (rdS X.K (evSs call turns b))) (hs : ∀ x, foldedSetIterable iter X.env x = pure x) : PS X (.For tg iter x [] pos) (rdS X.K (evS call turns (.for_ g src b))) := by
  refine (ps_for hp hc hi hg hb hs).imp fun D σ H ⟨μ, env, st, o, r, p⟩ => ?_
  rw [evS] at p
  obtain ⟨src1, st1, h1, p⟩ := to_ok p
  refine ⟨μ, env, st, src1, st1, o, r, h1, fun μ1 H1 J s1 o1 j1 => ?_⟩
  have p := p.shift (S' := Own env σ) s1.wide fun a z => .inl z
  refine ⟨fun i m σ H => ∃ μ env st, Ok X.K μ st H ∧ S1 X.K μ st.length H env σ ∧ SrcR X.K (Own env σ) μ st.length H J src1 ∧ i + m = src1.many ∧ post X.K (Own env σ) μ st H (forLoop g.put (evSs call turns b) src1 i m env st) D,
    ⟨src1.many, μ1, env, st1, o1, r.mono s1, j1, by omega, p⟩, ?_⟩
  rintro i m σ H ⟨μ, env, st, o, r, j, em, p⟩
  cases m with
  | zero =>
    refine .inl ?_
    unfold forLoop at p
    split at p
    · rename_i hf
      have q := j.stop o hf
      have e0 : i = src1.many := by omega
      subst e0
      exact ⟨q, p μ H σ StX.refl o r fun a z => .inl z⟩
    · exact p.elim
  | succ m =>
    refine .inr ?_
    rw [for_step] at p
    split at p
    · exact p.elim
    · rename_i x hx
      split at p
      · exact p.elim
      · rename_i env' hput
        obtain ⟨q1, q2⟩ := j.go o hx
        refine ⟨q1, fun σ' H' => ∃ μ env st, Ok X.K μ st H' ∧ S1 X.K μ st.length H' env σ' ∧ SrcR X.K (Own env σ') μ st.length H' J src1 ∧ (i + 1) + m = src1.many ∧ post X.K (Own env σ') μ st H' (forLoop g.put (evSs call turns b) src1 (i + 1) m env st) D,
          fun σ' H' w => ⟨m, Nat.lt_succ_self m, w⟩, fun x' H' y => ?_⟩
        obtain ⟨rfl, rx, fx⟩ := q2 x' H' y
        refine S1.put hput r fx rx fun σ2 r2 w2 => ⟨μ, env', st, o, r2, ?_⟩
        have p := p.shift (S' := Own env' σ2) StX.refl fun a z => .inl (w2 a z)
        have j2 := j.mono (S1 := Own env' σ2) StX.refl fun a z => .inl (w2 a z)
        cases q : evSs call turns b env' st with
        | nx e s => rw [q] at p; exact fun μ' H' σ' t o' r' w => ⟨μ', e, s, o', r', j2.mono t w, by omega, post.shift t w p⟩
        | ct e s => rw [q] at p; exact fun μ' H' σ' t o' r' w => ⟨μ', e, s, o', r', j2.mono t w, by omega, post.shift t w p⟩
        | bk e s => rw [q] at p; exact p
        | rt v s => rw [q] at p; exact p
        | bad => rw [q] at p; exact p
/-- a, b = x, y -/
theorem ps_parS {i j : Nat} {as : MEs} {x y : Str} {a b : Expr} {px py pt pt2 pos : Pos} {kt k2 : Nat} {turns : Nat} (hc : X.calm = true) (hN : X.N.Nodup) (hi : X.N[i]? = some x) (hj : X.N[j]? = some y) (hij : i ≠ j)
    (hx : X.env.scope.names.lookup x = some .local) (hy : X.env.scope.names.lookup y = some .local) (ha : SA X call as [a, b])
    (hw : swappedStores [.Tuple [.Name x px, .Name y py] kt pt] (.Tuple [a, b] k2 pt2) X.env = pure (some [x, y])) :
    PS X (.Assign [.Tuple [.Name x px, .Name y py] kt pt] (.Tuple [a, b] k2 pt2) pos) (rdS X.K (evS call turns (.par i j as))) := by
  refine (ps_par hc hN hi hj hij hx hy ha.kept hw rfl).imp fun D σ H ⟨μ, env, st, o, r, p⟩ => ?_
  rw [evS] at p
  obtain ⟨xs, st1, h2, p⟩ := to_ok p
  refine ⟨μ, env, st, xs, st1, o, r.re, h2, fun μ1 H1 vs s1 o1 r1 => ?_⟩
  split at p
  · cases r1 with
    | cons f1 q1 t1 =>
      cases t1 with
      | cons f2 q2 t2 =>
        cases t2
        obtain ⟨z1, z2⟩ := (r.mono s1).set q1 f1 i
        obtain ⟨z3, z4⟩ := z1.set q2 f2 j
        exact ⟨_, _, rfl, p μ1 H1 _ s1.wide o1 z3 fun a w => .inl (z2 a (z4 a w))⟩
  · exact p.elim
/-- a, b = e -/
theorem ps_tup {is : List Nat} {e : ME} {x tg : Expr} {pos : Pos} {turns : Nat} (he : SE X call e x) (hg : PG X tg (gTup X.K is.length (gAll is))) (hs : swapsWithSole [tg] x pos.line X.env = pure false) (hw : swappedStores [tg] x X.env = pure none)
    (h1 : (assignEach [tg] X.env).map (·.2) = [assign tg X.env]) : PS X (.Assign [tg] x pos) (rdS X.K (evS call turns (.setT is e))) := by
  refine (ps_asg he.val hg hs hw h1).imp fun D σ H ⟨μ, env, st, o, r, p⟩ => ?_
  rw [evS] at p
  obtain ⟨x1, st1, h2, p⟩ := to_ok p
  refine ⟨μ, env, st, x1, st1, o, r.re, h2, fun μ1 H1 x' s1 o1 r1 f1 => ?_⟩
  split at p
  · split at p
    · rename_i env' hset
      cases r1 with
      | tup h3 r3 =>
        exact ⟨_, _, rfl, h3, by rw [← r3.len]; exact setEach_len hset, S1.setEach hset (r.mono s1) r3 fun σ' r' w => p μ1 H1 σ' s1.wide o1 r' fun a z => .inl (w a z)⟩
    · exact p.elim
  · exact p.elim
/-- a[i] = e -/
theorem ps_ix {a i e : ME} {y z x : Expr} {p1 pos : Pos} {turns : Nat} (ha : SE X call a y) (hi : SE X call i z) (he : SE X call e x) (hs : swapsWithSole [.Subscript y z p1] x pos.line X.env = pure false) (hw : swappedStores [.Subscript y z p1] x X.env = pure none)
    (hsub : ∀ v, assign (.Subscript y z p1) X.env v = (do
      let ov ← holding [v] (eval y X.env)
      let iv ← holding [v, ov] (eval z X.env)
      standAt p1
      holding [v, ov, iv] (setItem ov iv v)
      release [v, ov, iv] [])) : PS X (.Assign [.Subscript y z p1] x pos) (rdS X.K (evS call turns (.setIx a i e))) := by
  refine (ps_asg he.val (pg_sub ha.val hi.val set_list hsub) hs hw rfl).imp fun D σ H ⟨μ, env, st, o, r, p⟩ => ?_
  rw [evS] at p
  obtain ⟨v1, st1, h1, p⟩ := to_ok p
  obtain ⟨o1, st2, h2, p⟩ := to_ok p
  obtain ⟨k1, st3, h3, p⟩ := to_ok p
  refine ⟨μ, env, st, v1, st1, o, r.re, h1, fun μ1 H1 v' s1 ok1 r1 f1 => ⟨μ1, env, st1, o1, st2, ok1, r.re.mono s1, h2, fun μ2 H2 o' s2 ok2 r2 f2 => ⟨μ2, env, st2, k1, st3, ok2, r.re.mono (Stp.trans s1 s2), h3, fun μ3 H3 k' s3 ok3 r3 f3 => ?_⟩⟩⟩
  split at p
  · rename_i n k
    cases r3
    have r2 := r2.mono0 s3
    cases r2 with
    | loc hn =>
      split at p
      · rename_i xs hx
        split at p
        · rename_i j hj
          split at p
          · exact p.elim
          · rename_i nf
            obtain ⟨vs, q1, q2⟩ := ok3.cell _ _ hx
            have r1 := r1.mono0 (Stp.trans s2 s3)
            have nf : v1.isFl = false := by simpa using nf
            obtain ⟨w1, w2⟩ := ok3.write hn (q2.set nf r1 j)
            refine ⟨_, vs, _, j, rfl, rfl, q1, by rw [← q2.len]; exact hj, ?_⟩
            have all := Stp.trans s1 (Stp.trans s2 (Stp.trans s3 w1))
            exact p μ3 _ σ all.wide w2 (r.mono all) fun a z => .inl z
        · exact p.elim
      · exact p.elim
  · exact p.elim
/-- x += e -/
theorem ps_augE {i : Nat} {op : BOp} {e : ME} {x : Expr} {y : Str} {py pos : Pos} {turns : Nat} (he : SE X call e x) (hN : X.N.Nodup) (hi : X.N[i]? = some y) (hx : L2.Loc X.env.scope y) (hf : X.fn y = true ∨ X.env.scope.names.lookup y = some .local) :
    PS X (.AugAssign (.Name y py) (bop op) x pos) (rdS X.K (evS call turns (.aug i op e))) := by
  refine ⟨fun pins s σ H D I ⟨μ, env, st, o, r, p⟩ => ?_⟩
  rw [evS] at p
  split at p
  · rename_i n hn
    obtain ⟨v, h1, h2⟩ := r.re.at_ _ _ hn
    cases h2
    obtain ⟨y1, st1, h3, p⟩ := to_ok p
    split at p
    · rename_i z
      split at p
      · refine (ps_aug hN hi hx he.val ip_add hf).run pins s σ H D I ⟨_, h1, μ, env, st, _, st1, o, r.re, h3, fun μ1 H1 x' s1 o1 r1 f1 => ?_⟩
        cases r1
        refine ⟨n, z, rfl, rfl, ?_⟩
        obtain ⟨q1, q2⟩ := (r.mono s1).set (.int (n + z)) rfl i
        exact p μ1 H1 _ s1.wide o1 q1 fun a w => .inl (q2 a w)
      · refine (ps_aug hN hi hx he.val ip_sub hf).run pins s σ H D I ⟨_, h1, μ, env, st, _, st1, o, r.re, h3, fun μ1 H1 x' s1 o1 r1 f1 => ?_⟩
        cases r1
        refine ⟨n, z, rfl, rfl, ?_⟩
        obtain ⟨q1, q2⟩ := (r.mono s1).set (.int (n - z)) rfl i
        exact p μ1 H1 _ s1.wide o1 q1 fun a w => .inl (q2 a w)
      · exact p.elim
    · exact p.elim
  · exact p.elim
/-- xs.append(e), xs a list of its own -/
theorem ps_app {i : Nat} {e : ME} {x y : Expr} {apos cpos pos : Pos} {turns : Nat} (he : SE X call e x) (hv : PE X y (tVar i)) (hy : attributeBase y "append" X.env (eval y X.env) = eval y X.env) (hl : (apos.endLine == cpos.line) = true) (hx : plainE x = true) :
    PS X (.Expr (.Call (.Attribute y "append" apos) [x] [] cpos) pos) (rdS X.K (evS call turns (.app i e))) := by
  have st := star_ok hx [] X.env
  have few : ((backTo cpos (starEach [x] X.env)).all (fun x => !x.1) && (backToKw cpos (keywordEach [] X.env)).all (fun x => x.1.isSome)
        && decide (([x] : List Expr).length + ([] : List Keyword).length + (if ([] : List Keyword).isEmpty then 0 else 1) < 30)) = true := by rw [st]; rfl
  refine (ps_expr (pe_bm PySem.F.plainAttrs_list PySem.F.slot_list_append PySem.F.type_list_append mt_append hv (pa_cons he.val pa_nil st) hy few hl st rfl)).imp fun D σ H ⟨μ, env, st, o, r, p⟩ => ?_
  rw [evS] at p
  obtain ⟨y1, st1, h1, p⟩ := to_ok p
  split at p
  · rename_i xs hxs
    split at p
    · rename_i hz
      obtain ⟨v, h2, h3⟩ := r.re.at_ _ _ hxs
      cases h3 with
      | @fl _ a vs h4 n4 r4 =>
        refine ⟨_, h2, .inl ⟨rfl, vs, SqL.of h4⟩, μ, env, st, y1, st1, o, r.re, h1, fun μ1 H1 y' s1 o1 r1 f1 => ?_⟩
        obtain ⟨μe, se, oe, re, fe, _⟩ := Ok.esc s1 o1 r1 f1
        have own : Own env σ a := ⟨i, xs, hxs, h2⟩
        have h5 : H1 a = some (.lst vs) := se.keep a _ h4 n4 fun z => z
        have r5 := r.mono se
        have n5 : ∀ n, n < (esc y1 st1).2.length → μe n ≠ a := fun n hn z => by
          by_cases hl : n < st.length
          · exact n4 n hl ((se.ext n hl).symm.trans z)
          · have := se.new n (by omega) hn
            rw [z, h4] at this; cases this
        have wr : StX (fun b => b = a) μe (esc y1 st1).2.length H1 μe (esc y1 st1).2.length (upd H1 a (.lst (vs ++ [y']))) := StX.wrt h5
        have all : StX (Own env σ) μ st.length H μe (esc y1 st1).2.length (upd H1 a (.lst (vs ++ [y']))) := StX.trans se.wide wr fun b e => .inl (by rw [e]; exact own)
        have off : ∀ (w : V), Off (fun b => b = a) (esc y1 st1).1 w := fun w => by
          cases hq : (esc y1 st1).1 <;> first | trivial | (rw [hq] at fe; cases fe)
        refine ⟨a, vs, y', rfl, rfl, h5, by rw [← r4.len]; exact hz, ?_⟩
        refine p μe _ σ all (oe.wrt h5 n5) ⟨⟨by simp [r.re.len], fun j q hq => ?_⟩, fun j k zs ws b ne g1 g2 g3 g4 => ?_⟩ fun b ⟨j, zs, g1, g2⟩ => .inl ?_
        · by_cases e : i = j
          · subst e
            by_cases hi : i < env.length
            · rw [List.getElem?_set_self hi] at hq
              cases hq
              exact ⟨_, h2, .fl upd_same n5 ((RVs.mono wr (RVs.mono se r4)).app (RVs.one fe (RV.mono wr (off _) re)))⟩
            · rw [List.getElem?_eq_none (by simp; omega)] at hq; cases hq
          · rw [List.getElem?_set_ne e] at hq
            obtain ⟨w, g1, g2⟩ := r5.re.at_ j q hq
            refine ⟨w, g1, RV.mono wr ?_ g2⟩
            cases g2 with
            | fl _ _ _ => exact fun z => r.de i j _ _ _ e hxs hq h2 (by rw [← z]; exact g1)
            | _ => trivial
        · have back : ∀ (j : Nat) (zs : List PV), (env.set i (some (.fl (xs ++ [(esc y1 st1).1]))))[j]? = some (some (.fl zs)) → ∃ zs', env[j]? = some (some (.fl zs')) := fun j zs h => by
            by_cases e : i = j
            · subst e; exact ⟨_, hxs⟩
            · rw [List.getElem?_set_ne e] at h; exact ⟨_, h⟩
          obtain ⟨_, b1⟩ := back j zs g1
          obtain ⟨_, b2⟩ := back k ws g2
          exact r.de j k _ _ b ne b1 b2 g3 g4
        · by_cases e : i = j
          · subst e; exact ⟨i, xs, hxs, g2⟩
          · rw [List.getElem?_set_ne e] at g1; exact ⟨j, zs, g1, g2⟩
    · exact p.elim
  · exact p.elim
/-- xs.extend(e), xs a list of its own, e a list that nothing else holds -/
theorem ps_ext {i : Nat} {e : ME} {x y : Expr} {apos cpos pos : Pos} {turns : Nat} (he : SE X call e x) (hv : PE X y (tVar i)) (hy : attributeBase y "extend" X.env (eval y X.env) = eval y X.env) (hl : (apos.endLine == cpos.line) = true) (hx : plainE x = true) :
    PS X (.Expr (.Call (.Attribute y "extend" apos) [x] [] cpos) pos) (rdS X.K (evS call turns (.ext i e))) := by
  have st := star_ok hx [] X.env
  have few : ((backTo cpos (starEach [x] X.env)).all (fun x => !x.1) && (backToKw cpos (keywordEach [] X.env)).all (fun x => x.1.isSome)
        && decide (([x] : List Expr).length + ([] : List Keyword).length + (if ([] : List Keyword).isEmpty then 0 else 1) < 30)) = true := by rw [st]; rfl
  refine (ps_expr (pe_bm PySem.F.plainAttrs_list PySem.F.slot_list_extend PySem.F.type_list_extend mt_extend hv (pa_cons he.val pa_nil st) hy few hl st rfl)).imp fun D σ H ⟨μ, env, st, o, r, p⟩ => ?_
  rw [evS] at p
  obtain ⟨y1, st1, h1, p⟩ := to_ok p
  split at p
  · rename_i xs ys hxs
    split at p
    · rename_i hz
      obtain ⟨v, h2, h3⟩ := r.re.at_ _ _ hxs
      cases h3 with
      | @fl _ a vs h4 n4 r4 =>
        refine ⟨_, h2, .inl ⟨rfl, vs, SqL.of h4⟩, μ, env, st, _, st1, o, r.re, h1, fun μ1 H1 y' s1 o1 r1 f1 => ?_⟩
        cases r1 with
        | @fl _ b ws h6 n6 r6 =>
        have own : Own env σ a := ⟨i, xs, hxs, h2⟩
        have h5 : H1 a = some (.lst vs) := s1.keep a _ h4 n4 fun z => z
        have r5 := r.mono s1
        have n5 : ∀ n, n < st1.length → μ1 n ≠ a := fun n hn z => by
          by_cases hl : n < st.length
          · exact n4 n hl ((s1.ext n hl).symm.trans z)
          · have := s1.new n (by omega) hn
            rw [z, h4] at this; cases this
        have wr : StX (fun b => b = a) μ1 st1.length H1 μ1 st1.length (upd H1 a (.lst (vs ++ ws))) := StX.wrt h5
        have all : StX (Own env σ) μ st.length H μ1 st1.length (upd H1 a (.lst (vs ++ ws))) := StX.trans s1.wide wr fun b e => .inl (by rw [e]; exact own)
        refine ⟨a, b, vs, ws, rfl, rfl, h5, h6, by rw [← r4.len, ← r6.len]; exact hz, ?_⟩
        refine p μ1 _ σ all (o1.wrt h5 n5) ⟨⟨by simp [r.re.len], fun j q hq => ?_⟩, fun j k zs ws b ne g1 g2 g3 g4 => ?_⟩ fun b ⟨j, zs, g1, g2⟩ => .inl ?_
        · by_cases e : i = j
          · subst e
            by_cases hi : i < env.length
            · rw [List.getElem?_set_self hi] at hq
              cases hq
              exact ⟨_, h2, .fl upd_same n5 ((RVs.mono wr (RVs.mono s1 r4)).app (RVs.mono wr r6))⟩
            · rw [List.getElem?_eq_none (by simp; omega)] at hq; cases hq
          · rw [List.getElem?_set_ne e] at hq
            obtain ⟨w, g1, g2⟩ := r5.re.at_ j q hq
            refine ⟨w, g1, RV.mono wr ?_ g2⟩
            cases g2 with
            | fl _ _ _ => exact fun z => r.de i j _ _ _ e hxs hq h2 (by rw [← z]; exact g1)
            | _ => trivial
        · have back : ∀ (j : Nat) (zs : List PV), (env.set i (some (.fl (xs ++ ys))))[j]? = some (some (.fl zs)) → ∃ zs', env[j]? = some (some (.fl zs')) := fun j zs h => by
            by_cases e : i = j
            · subst e; exact ⟨_, hxs⟩
            · rw [List.getElem?_set_ne e] at h; exact ⟨_, h⟩
          obtain ⟨_, b1⟩ := back j zs g1
          obtain ⟨_, b2⟩ := back k ws g2
          exact r.de j k _ _ b ne b1 b2 g3 g4
        · by_cases e : i = j
          · subst e; exact ⟨i, xs, hxs, g2⟩
          · rw [List.getElem?_set_ne e] at g1; exact ⟨j, zs, g1, g2⟩
    · exact p.elim
  · exact p.elim
end
end U

set_option maxHeartbeats 8000000
/-! U14: every statement; a def; a program. -/
namespace U
open PySem PySem.Spec PyProof.Rows L2
section
variable {W : Wd} {k : Nat} {call : Nat → List PV → Store → Res PV} {turns : Nat}
/-- a body whose every name may be stored, and which lets nothing out -/
structure Gs (W : Wd) (C : Ct) (k : Nat) (X : Cx) : Prop extends Gd W C k X where
  kind : X.env.scope.kind = .function
  fnT : ∀ x, X.fn x = true
  xe : X.xe = fun _ _ => False
theorem Gs.pass {C : Ct} {X : Cx} (G : Gs W C k X) : PassesOwn (model X.prog X.w) X.A X.env X.xe := by
  rw [G.xe]
  exact PassesOwn.never
theorem loc_of {sc : Scope} {x : Str} (h : locB sc x = true) : L2.Loc sc x := by
  unfold locB at h
  unfold L2.Loc
  split at h <;> first | (rename_i q; rw [q]; simp) | cases h
theorem pv1 {C : Ct} {X : Cx} (G : Gs W C k X) {i : Nat} {e : Expr} (h : mV1 C i e = true) : PG X e (gName i) := by
  cases e <;> try (exact absurd h Bool.false_ne_true)
  rename_i x pos
  have h : (decide (C.N[i]? = some x) && locB C.sc x) = true := h
  simp only [Bool.and_eq_true, decide_eq_true_eq] at h
  exact pg_name G.nd (by rw [G.N]; exact h.1) (loc_of (by rw [G.sc]; exact h.2)) (.inl (G.fnT x))
theorem assignV_ok {e : Expr} {C : Ct} {i : Nat} (h : mV1 C i e = true) (es : List Expr) (env : Env) : assignEach (e :: es) env = (false, assign e env) :: assignEach es env := by
  cases e <;> first | rfl | exact absurd h Bool.false_ne_true
theorem pvs {C : Ct} {X : Cx} (G : Gs W C k X) : ∀ {is : List Nat} {es : List Expr}, mVs C is es = true → PGs X es (gAll is) ∧ (assignEach es X.env).length = is.length ∧ (assignEach es X.env).findIdx? (·.1) = none
  | [], [], _ => ⟨pgs_nil, rfl, rfl⟩
  | [], _ :: _, h => by cases h
  | _ :: _, [], h => by cases h
  | i :: is, e :: es, h => by
    have h : (mV1 C i e && mVs C is es) = true := h
    rw [Bool.and_eq_true] at h
    obtain ⟨p1, p2, p3⟩ := pvs G h.2
    have e1 := assignV_ok h.1 es X.env
    refine ⟨pgs_cons (pv1 G h.1) p1 (by rw [e1]; rfl), by rw [e1]; simp [p2], by rw [e1]; simp [List.findIdx?_cons, p3]⟩
theorem pvT {C : Ct} {X : Cx} (G : Gs W C k X) {is : List Nat} {es : List Expr} {n : Nat} {p : Pos} (h : mVs C is es = true) : PG X (.Tuple es n p) (gTup X.K is.length (gAll is)) := by
  obtain ⟨p1, p2, p3⟩ := pvs G h
  exact pg_tup G.calm p1 p2 p3
theorem pvG {C : Ct} {X : Cx} (G : Gs W C k X) {g : MG} {e : Expr} (h : mV C g e = true) : PG X e (gOf X.K g) := by
  cases g with
  | nm i => exact pv1 G h
  | tp is =>
    cases e <;> try (exact absurd h Bool.false_ne_true)
    exact pvT G (show mVs C is _ = true from h)
theorem sw_ok {v : Expr} (h : notLc v = true) (t : Option Expr) (l : Nat) (env : Env) : swapsWith v t l env = pure false := by
  cases v <;> first | rfl | cases h
theorem sws_ok {v tg : Expr} (h : notLc v = true) (l : Nat) (env : Env) : swapsWithSole [tg] v l env = pure false := sw_ok h _ _ _
theorem st_ok {v : Expr} {es : List Expr} {n : Nat} {p : Pos} (h : notTup v = true) (env : Env) : swappedStores [.Tuple es n p] v env = pure none := by
  cases v <;> first | rfl | cases h
theorem st_sub {v y z : Expr} {p : Pos} (env : Env) : swappedStores [.Subscript y z p] v env = pure none := by
  cases v <;> rfl
theorem sub_ok {y z : Expr} {p : Pos} {env : Env} (h : plainE z = true) (v : Value) : assign (.Subscript y z p) env v = (do
      let ov ← holding [v] (eval y env)
      let iv ← holding [v, ov] (eval z env)
      standAt p
      holding [v, ov, iv] (setItem ov iv v)
      release [v, ov, iv] []) := by
  cases z <;> first | rfl | cases h
theorem src_ok {C : Ct} {X : Cx} (G : Gs W C k X) (F : Fx W C k call) {src : ME} {tg it : Expr} (h : mSrc C src it = true) : PI X tg it (rdF X.K (evSrc call src)) := by
  have gen : mE C src it = true → (∀ env st, evSrc call src env st = (ev call src .val env st).bind fun v st1 => opt (srcV v st1) st1) → PI X tg it (rdF X.K (evSrc call src)) := fun h e => by
    have e2 : evSrc call src = fun env st => (ev call src .val env st).bind fun v st1 => opt (srcV v st1) st1 := by
      funext env st
      exact e env st
    rw [e2]
    exact pf_val (sE src G.toGd F h)
  cases src with
  | rng a b =>
    unfold mSrc at h
    simp only at h
    split at h
    · rename_i f p es pos
      simp only [Bool.and_eq_true, decide_eq_true_eq] at h
      obtain ⟨⟨⟨rfl, h1⟩, h2⟩, h3⟩ := h
      obtain ⟨g1, g2⟩ := gl_of (X := X) (by rw [G.sc]; exact h2)
      have hm : X.mg "range" = none := by rw [G.mg]; exact F.bl _ h1
      split at h3
      · split at h3
        · exact pf_rng1 (sE b G.toGd F h3) g1 hm (star_ok (plain_ok h3) _ _)
        · cases h3
      · rename_i z y
        rw [Bool.and_eq_true] at h3
        have e2 : starEach [y] X.env = [(false, eval y X.env)] := star_ok (plain_ok h3.2) _ _
        exact pf_rng2 (sE a G.toGd F h3.1) (sE b G.toGd F h3.2) g1 hm (by rw [star_ok (plain_ok h3.1), e2]) e2
      · cases h3
    · cases h
  | _ => exact gen h fun _ _ => rfl
theorem var_ok {C : Ct} {X : Cx} (G : Gd W C k X) {i : Nat} {e : Expr} (h : mE C (.var i) e = true) : PE X e (tVar i) := by
  cases e <;> try (exact absurd h Bool.false_ne_true)
  rename_i x pos
  have h : (decide (C.N[i]? = some x) && visB C.sc x && !(x == ("__debug__" : Str)) && !(x == ("__classdict__" : Str))) = true := h
  simp only [Bool.and_eq_true, decide_eq_true_eq, Bool.not_eq_true'] at h
  exact pe_var (by rw [G.N]; exact h.1.1.1) (vis_of (by rw [G.sc]; exact h.1.1.2)) h.1.2 h.2
/-- x = [..], from its parts -/
theorem lcSet_mk {C : Ct} {X : Cx} (G : Gs W C k X) {elt c m : ME} {g : MG} {has : Bool} {x tg iter : Expr} {ifs : List Expr} {scope : Scope} {pos : Pos} {srcF : En → Store → Res Src}
    (hi : PI X tg iter (rdW X.K srcF)) (hp : ∀ x, foldedSetIterable iter X.env x = pure x) (h2 : blkC C.N C.sc scope (g.own C.N) = true) (h3 : mG { C with sc := relS scope C.sc } g tg = true)
    (h4 : tsOk { C with sc := relS scope C.sc } has c ifs = true) (hc : ∀ {X : Cx}, Gd W { C with sc := relS scope C.sc } k X → ∀ t, mE { C with sc := relS scope C.sc } c t = true → SE X call c t)
    (he : ∀ {X : Cx}, Gd W { C with sc := relS scope C.sc } k X → SE X call elt x)
    (eq : ∀ md env st, ev call m md env st = ((srcF env st).bind fun s st1 => lcLoop (fun e s => if has then (ev call c .test e s).bind fun x s1 => opt (isBl x) s1 else .ok true s) (ev call elt .val) g.put (wipe env g.slots) s 0 s.many [] st1).bind fun v st1 => done md v st1)
    {i : Nat} {y : Str} {py spos : Pos} (hN : X.N[i]? = some y) (hy : X.env.scope.names.lookup y = some .local) (hl : (py.line == pos.line) = true) (ha : (scope.names.any fun (n, k) => n == y && (k == .local || k == .cell)) = false) :
    PS X (.Assign [.Name y py] (.ListComp x [⟨tg, iter, ifs, 0⟩] scope pos) spos) (tAsg (rd X.K (ev call m .val)) (gName i)) := by
  have ok : BlkOk X.N X.env.scope scope (g.own C.N) := by rw [G.N, G.sc]; exact blkOk_by h2
  have p := ps_setLc (pos := pos) (spos := spos) (own := g.own C.N) (g := gOf X.K g) (tt := tTest' X.K call has c) (te := rd X.K (ev call elt .val)) G.calm G.nd hN hy (sw_true G.kind hy hl ha) hi ok
    (fun s H a cl fp => pgG (G.toGd.blk s H scope a cl fp) h3) (fun s H a cl fp => ts_ok h4 (hc (G.toGd.blk s H scope a cl fp))) (fun s H a cl fp => (he (G.toGd.blk s H scope a cl fp)).val) hp
  rw [own_slots] at p
  refine p.imp fun D σ H q => ?_
  refine SE.lcImp (test := fun e s => if has then (ev call c .test e s).bind fun x s1 => opt (isBl x) s1 else .ok true s) (elt := ev call elt .val) (srcF := srcF) (fun _ _ _ q => q) (fun _ _ _ q => q) ?_ (rd_eq (fun env st => ?_) σ H _ q)
  · intro μ env st b st' σ H Q o r h q
    unfold tTest'
    cases has with
    | true =>
      obtain ⟨x, s1, h1, h2⟩ := bind_ok h
      obtain ⟨h3, rfl⟩ := opt_ok h2
      cases isBl_ok h3
      exact ⟨μ, env, st, b, _, o, r, h1, q⟩
    | false =>
      cases h
      exact q μ H StX.refl o
  · rw [eq]
    cases (srcF env st).bind fun s st1 => lcLoop (fun e s => if has then (ev call c .test e s).bind fun x s1 => opt (isBl x) s1 else .ok true s) (ev call elt .val) g.put (wipe env g.slots) s 0 s.many [] st1 <;> rfl
theorem lc_only {C : Ct} {e : ME} {x : Expr} {gs : List Comprehension} {scope : Scope} {pos : Pos} (h : mE C e (.ListComp x gs scope pos) = true) : ∃ elt g src has c, e = .lc elt g src has c := by
  cases e <;> first | exact ⟨_, _, _, _, _, rfl⟩ | (cases h; done)
theorem set_lc {C : Ct} {X : Cx} (G : Gs W C k X) (F : Fx W C k call) {e : ME} {i : Nat} {y : Str} {py spos : Pos} {v : Expr} (h : mE C e v = true) (hN : X.N[i]? = some y) (hl : lcOk C y py v = true) :
    PS X (.Assign [.Name y py] v spos) (tAsg (rd X.K (ev call e .val)) (gName i)) := by
  unfold lcOk at hl
  split at hl
  · rename_i x gs scope pos
    simp only [Bool.and_eq_true, decide_eq_true_eq, Bool.not_eq_true'] at hl
    obtain ⟨⟨⟨l1, l2⟩, l3⟩, l4⟩ := hl
    have hy : X.env.scope.names.lookup y = some .local := by rw [G.sc]; exact l2
    obtain ⟨elt, g, src, has, c, rfl⟩ := lc_only h
    by_cases hn : ∀ a b, src ≠ .rng a b
    · rw [mE_lc hn] at h
      split at h
      · rename_i q
        cases q
        simp only [Bool.and_eq_true] at h
        obtain ⟨⟨⟨⟨h1, h2⟩, h3⟩, h4⟩, h5⟩ := h
        exact lcSet_mk G (pi_used (sE src G.toGd F h1)) (set_ok (plain_ok h1) _) h2 h3 h4
          (fun G' t ht => sE c G' ⟨F.fn, F.cs, F.bl, F.ds⟩ ht) (fun G' => sE elt G' ⟨F.fn, F.cs, F.bl, F.ds⟩ h5) (fun _ _ _ => ev_lc hn) hN hy l3 l4
      · cases h
    · cases src with
      | rng a b =>
        unfold mE at h
        split at h
        · rename_i q
          cases q
          simp only [Bool.and_eq_true, decide_eq_true_eq] at h
          obtain ⟨⟨⟨⟨⟨⟨⟨rfl, h1⟩, h2⟩, h3⟩, h4⟩, h5⟩, h6⟩, h7⟩ := h
          obtain ⟨g1, g2⟩ := gl_of (X := X) (by rw [G.sc]; exact h2)
          have hm : X.mg "range" = none := by rw [G.mg]; exact F.bl _ h1
          refine lcSet_mk G (srcF := fun env st => (ev call a .val env st).bind fun x st1 => (ev call b .val env st1).bind fun y st2 => rngV x y st2) ?_ (fun _ => rfl) h4 h5 h6
            (fun G' t ht => sE c G' ⟨F.fn, F.cs, F.bl, F.ds⟩ ht) (fun G' => sE elt G' ⟨F.fn, F.cs, F.bl, F.ds⟩ h7) (fun _ _ _ => ev_lcR) hN hy l3 l4
          split at h3
          · split at h3
            · exact pi_rng1 (sE b G.toGd F h3) g1 hm (star_ok (plain_ok h3) _ _)
            · cases h3
          · rename_i z y
            rw [Bool.and_eq_true] at h3
            have e2 : starEach [y] X.env = [(false, eval y X.env)] := star_ok (plain_ok h3.2) _ _
            exact pi_rng2 (sE a G.toGd F h3.1) (sE b G.toGd F h3.2) g1 hm (by rw [star_ok (plain_ok h3.1), e2]) e2
          · cases h3
        · cases h
      | _ => exact absurd (fun a b z => by cases z) hn
  · cases hl
mutual
theorem sS : ∀ (m : MS) {C : Ct} {X : Cx} (G : Gs W C k X) (F : Fx W C k call) {s : Stmt}, mS C m s = true → PS X s (rdS X.K (evS call turns m))
  | .set i e own, C, X, G, F, s, h => by
    unfold mS at h
    split at h
    · rename_i x px v pos
      simp only [Bool.and_eq_true, decide_eq_true_eq, Bool.or_eq_true] at h
      obtain ⟨⟨⟨h1, h2⟩, h3⟩, h4⟩ := h
      have se := sE e G.toGd F h3
      rcases h4 with h4 | h4
      · exact (ps_set G.nd (by rw [G.N]; exact h1) (loc_of (by rw [G.sc]; exact h2)) se.val (sw_ok h4 _ _ _) (.inl (G.fnT x))).imp set_imp
      · exact (set_lc G F h3 (by rw [G.N]; exact h1) h4).imp set_imp
    · cases h
  | .setT is e, C, X, G, F, s, h => by
    unfold mS at h
    split at h
    · simp only [Bool.and_eq_true] at h
      obtain ⟨⟨⟨h1, h2⟩, h3⟩, h4⟩ := h
      exact ps_tup (sE e G.toGd F h2) (pvT G h1) (sws_ok h3 _ _) (st_ok h4 _) rfl
    · cases h
  | .par i j as, C, X, G, F, s, h => by
    unfold mS at h
    split at h
    · rename_i x px y py kt pt a b k2 pt2 pos
      simp only [Bool.and_eq_true, decide_eq_true_eq, Bool.not_eq_true'] at h
      obtain ⟨⟨⟨⟨⟨⟨⟨⟨⟨h1, h2⟩, h3⟩, h4⟩, h5⟩, h6⟩, h7⟩, h8⟩, h9⟩, h10⟩ := h
      have hp : plainE a = true ∧ plainE b = true := by
        cases as with
        | nil => cases h10
        | cons u us =>
          rw [mA, Bool.and_eq_true] at h10
          cases us with
          | nil => cases h10.2
          | cons u2 us =>
            have h11 := h10.2
            rw [mA, Bool.and_eq_true] at h11
            exact ⟨plain_ok h10.1, plain_ok h11.1⟩
      exact ps_parS G.calm G.nd (by rw [G.N]; exact h1) (by rw [G.N]; exact h2) (fun e => by rw [e, beq_self_eq_true] at h3; cases h3) (by rw [G.sc]; exact h5) (by rw [G.sc]; exact h6) (sA as G.toGd F h10)
        (sw_par (by unfold Env.blockKind; rw [G.kind]; rfl) (show X.env.scope.names.lookup x = _ by rw [G.sc]; exact h5) (show X.env.scope.names.lookup y = _ by rw [G.sc]; exact h6) h7 h4 hp.1 hp.2 h8 h9)
    · cases h
  | .setIx a i e, C, X, G, F, s, h => by
    unfold mS at h
    split at h
    · simp only [Bool.and_eq_true] at h
      obtain ⟨⟨⟨h1, h2⟩, h3⟩, h4⟩ := h
      exact ps_ix (sE a G.toGd F h1) (sE i G.toGd F h2) (sE e G.toGd F h3) (sws_ok h4 _ _) (st_sub _) (sub_ok (plain_ok h2))
    · cases h
  | .aug i o e, C, X, G, F, s, h => by
    unfold mS at h
    split at h
    · rename_i x p op v pos
      simp only [Bool.and_eq_true, decide_eq_true_eq] at h
      obtain ⟨⟨⟨rfl, h1⟩, h2⟩, h3⟩ := h
      exact ps_augE (sE e G.toGd F h3) G.nd (by rw [G.N]; exact h1) (loc_of (by rw [G.sc]; exact h2)) (.inl (G.fnT x))
    · cases h
  | .ex e, C, X, G, F, s, h => by
    unfold mS at h
    split at h
    · rw [Bool.and_eq_true] at h
      exact ps_ex (sE e G.toGd F h.1) (sw_ok h.2 _ _ _)
    · cases h
  | .ext i e, C, X, G, F, s, h => by
    unfold mS at h
    split at h
    · rename_i x p name apos y cpos pos
      simp only [Bool.and_eq_true, decide_eq_true_eq] at h
      obtain ⟨⟨⟨rfl, h1⟩, h2⟩, h3⟩ := h
      exact ps_ext (sE e G.toGd F h3) (var_ok G.toGd h2) rfl h1 (plain_ok h3)
    · cases h
  | .app i e, C, X, G, F, s, h => by
    unfold mS at h
    split at h
    · rename_i x p name apos y cpos pos
      simp only [Bool.and_eq_true, decide_eq_true_eq] at h
      obtain ⟨⟨⟨rfl, h1⟩, h2⟩, h3⟩ := h
      exact ps_app (sE e G.toGd F h3) (var_ok G.toGd h2) rfl h1 (plain_ok h3)
    · cases h
  | .ret e, C, X, G, F, s, h => by
    unfold mS at h
    split at h
    · exact ps_retE (sE e G.toGd F h) fun j z => by
        subst z
        exact var_ok G.toGd h
    · cases h
  | .ret0, C, X, G, F, s, h => by
    unfold mS at h
    split at h
    · exact ps_ret0
    · cases h
  | .ite t a b, C, X, G, F, s, h => by
    unfold mS at h
    split at h
    · simp only [Bool.and_eq_true] at h
      exact ps_ite (sE t G.toGd F h.1.1) (sSs a G F h.1.2) (sSs b G F h.2)
    · cases h
  | .whl t b, C, X, G, F, s, h => by
    unfold mS at h
    split at h
    · rw [Bool.and_eq_true] at h
      exact ps_whl G.pass (sE t G.toGd F h.1) (sSs b G F h.2)
    · cases h
  | .for_ g src b, C, X, G, F, s, h => by
    unfold mS at h
    split at h
    · simp only [Bool.and_eq_true] at h
      exact ps_forE G.pass G.calm (src_ok G F h.1.1.2) (pvG G h.1.1.1) (sSs b G F h.2) (set_ok h.1.2 _)
    · cases h
  | .brk, C, X, G, F, s, h => by
    unfold mS at h
    split at h
    · exact ps_brk
    · cases h
  | .cnt, C, X, G, F, s, h => by
    unfold mS at h
    split at h
    · exact ps_cnt
    · cases h
  | .pass, C, X, G, F, s, h => by
    unfold mS at h
    split at h
    · exact ps_pas
    · cases h
theorem sSs : ∀ (ms : MSs) {C : Ct} {X : Cx} (G : Gs W C k X) (F : Fx W C k call) {s : List Stmt}, mSs C ms s = true → PSs X s (rdS X.K (evSs call turns ms))
  | .nil, C, X, G, F, s, h => by
    cases s with
    | nil => exact pss_n
    | cons _ _ => cases h
  | .cons m ms, C, X, G, F, s, h => by
    cases s with
    | nil => cases h
    | cons x xs =>
      rw [mSs, Bool.and_eq_true] at h
      exact pss_c (sS m G F h.1) (sSs ms G F h.2)
end
end
end U

set_option maxHeartbeats 8000000
/-! U15: a def, a program, a law. -/
namespace U
open PySem PySem.Spec PyProof.Rows L2
section
variable {K : PySem.W.Frag} {μ : Nat → Addr} {L : Nat} {H : Hp}
mutual
theorem RV.low {n : Nat} (hn : n ≤ L) : ∀ {x : PV} {v : V}, PV.low n x = true → RV K μ L H x v → RV K μ n H x v
  | _, _, _, .non => .non
  | _, _, _, .bl b => .bl b
  | _, _, _, .int i => .int i
  | _, _, _, .str z => .str z
  | .tup xs, .ref a, l, .tup h r => .tup h (RVs.low hn (show PV.lowL n xs = true from l) r)
  | .loc m, _, l, .loc h => .loc (of_decide_eq_true (show decide (m < n) = true from l))
  | .fl xs, .ref a, l, .fl h k r => .fl h (fun m hm => k m (Nat.lt_of_lt_of_le hm hn)) (RVs.low hn (show PV.lowL n xs = true from l) r)
  | .rol xs, .ref a, l, .rol h r => .rol h (RVs.low hn (show PV.lowL n xs = true from l) r)
theorem RVs.low {n : Nat} (hn : n ≤ L) : ∀ {xs : List PV} {vs : List V}, PV.lowL n xs = true → RVs K μ L H xs vs → RVs K μ n H xs vs
  | _, _, _, .nil => .nil
  | x :: xs, v :: vs, l, .cons f h r => by
    have l : (PV.low n x && PV.lowL n xs) = true := l
    rw [Bool.and_eq_true] at l
    exact .cons f (RV.low hn l.1 h) (RVs.low hn l.2 r)
end
theorem leave_ok {μ0 : Nat → Addr} {H0 : Hp} {st s st' : Store} {v w : PV} {v' : V} (h : leave st.length v s = .ok w st') (t : Stp μ0 st.length H0 μ s.length H) (o : Ok K μ s H) (r : RV K μ s.length H v v') :
    w = v ∧ Stp μ0 st.length H0 μ st'.length H ∧ Ok K μ st' H ∧ RV K μ st'.length H v v' := by
  unfold leave at h
  split at h
  · cases h; exact ⟨rfl, t, o, r⟩
  · rename_i hn
    split at h
    · rename_i hc
      cases h
      rw [Bool.and_eq_true] at hc
      have el : (s.take st.length).length = st.length := by rw [List.length_take]; omega
      have hle : st.length ≤ s.length := by omega
      refine ⟨rfl, ?_, ⟨fun a b ha hb e => o.inj a b (by omega) (by omega) e, fun n xs hx => ?_⟩, ?_⟩
      · rw [el]
        exact ⟨Nat.le_refl _, t.ext, t.keep, t.tup, t.frz, t.there, fun n h1 h2 => absurd h2 (by omega)⟩
      · rw [el]
        have hm : Cell.lst xs ∈ s.take st.length := List.mem_of_getElem? hx
        have lo : PV.lowL st.length xs = true := (List.all_eq_true.mp hc.2) _ hm
        have hx2 : s[n]? = some (.lst xs) := by
          rw [List.getElem?_take] at hx
          split at hx
          · exact hx
          · cases hx
        obtain ⟨vs, h1, h2⟩ := o.cell n xs hx2
        exact ⟨vs, h1, RVs.low hle lo h2⟩
      · rw [el]; exact RV.low hle hc.1 r
    · cases h; exact ⟨rfl, t, o, r⟩
theorem start_ok {as : List PV} {vs : List V} {N : List Str} {nl : Nat} (r : RVs K μ L H as vs) (f : as.any PV.isFl = false) (hN : N.length = nl) : S1 K μ L H (as.map some ++ List.replicate (nl - as.length) none) (L2.start N vs) ∧
    ∀ a, ¬ Own (as.map some ++ List.replicate (nl - as.length) none) (L2.start N vs) a := by
  have get : ∀ (i : Nat) (x : PV), (as.map some ++ List.replicate (nl - as.length) (none : Option PV))[i]? = some (some x) → as[i]? = some x := fun i x h => by
    by_cases hi : i < as.length
    · rw [List.getElem?_append_left (by simpa using hi), List.getElem?_map] at h
      cases e : as[i]? with
      | none => rw [e] at h; cases h
      | some a => rw [e] at h; cases h; rfl
    · rw [List.getElem?_append_right (by simpa using hi), List.getElem?_replicate] at h
      split at h <;> cases h
  have nofl : ∀ (i : Nat) (xs : List PV), as[i]? ≠ some (.fl xs) := fun i xs h => by
    have := List.any_eq_false.mp f _ (List.mem_of_getElem? h)
    exact this rfl
  refine ⟨⟨⟨?_, fun i x h => ?_⟩, fun i j xs ys a _ h1 _ _ _ => nofl i xs (get i _ h1)⟩, fun a ⟨i, xs, h1, _⟩ => nofl i xs (get i _ h1)⟩
  · unfold L2.start
    have := r.len
    simp
    omega
  · obtain ⟨v, h1, h2, _⟩ := r.get (get i x h)
    refine ⟨v, ?_, h2⟩
    unfold L2.start
    have hi : i < vs.length := (List.getElem?_eq_some_iff.mp h1).1
    rw [List.getElem?_append_left (by simpa using hi), List.getElem?_map, h1]
    rfl
end
section
variable {W : Wd} {k : Nat} {turns : Nat} {D : Nat → Option Def}
theorem call_len {f : Nat} {d : Def} {as : List PV} {st st' : Store} {v : PV} {j : Nat} (hd : D f = some d) (h : evCall turns D j f as st = .ok v st') : as.length = d.np := by
  cases j with
  | zero => cases h
  | succ j =>
    rw [evCall, hd] at h
    simp only at h
    split at h
    · rename_i q; exact q.1
    · cases h
/-- a def of the text: its name, its number, where it stands -/
structure Ent where
  x : Str
  f : Nat
  a : Addr
  fd : FuncData
  st : Stmt
  N : List Str
  ps : List Str
  d : Def
def Ent.pair (e : Ent) : Str × Nat := (e.x, e.f)
structure EntOk (W : Wd) (D : Nat → Option Def) (fn : List (Str × Nat)) (cs : List (Str × PV)) (bl : List Str) (ds : List (Str × List (Str × PV))) (e : Ent) : Prop where
  mg : W.mg e.x = some (.ref e.a)
  fun_ : Fun W.K e.x e.x e.st e.a e.fd
  binds : Binds W.K e.fd e.ps []
  sc : FnScope e.N e.ps (defScope e.st)
  d : D e.f = some e.d
  np : e.ps.length = e.d.np
  nl : e.N.length = e.d.nl
  text : mSs ⟨e.N, defScope e.st, fn, cs, bl, ds⟩ e.d.body (defBody e.st) = true
/-- a program of the text -/
structure ProgOk (W : Wd) (D : Nat → Option Def) (es : List Ent) (cs : List (Str × PV)) (bl : List Str) (ds : List (Str × List (Str × PV))) : Prop where
  df : ∀ e ∈ es, EntOk W D (es.map Ent.pair) cs bl ds e
  cs : ∀ x v, cs.lookup x = some v → v.isFl = false ∧ ∃ u v', W.mg x = some u ∧ RelV v' u ∧ ∀ μ L H, RV W.K μ L H v v'
  bl : ∀ x, bl.contains x = true → W.mg x = none
  ds : ∀ x kvs, ds.lookup x = some kvs → ∃ d es n, W.mg x = some (.ref d) ∧ KDict W.K W.w d es n ∧ DRel es.toList kvs
theorem ent_of : ∀ {es : List Ent} {x : Str} {f : Nat}, (es.map Ent.pair).lookup x = some f → ∃ e, e ∈ es ∧ e.x = x ∧ e.f = f
  | [], _, _, h => by cases h
  | e :: es, x, f, h => by
    have h : (match x == e.x with
      | true => some e.f
      | false => (es.map Ent.pair).lookup x) = some f := h
    split at h
    · rename_i q
      cases h
      exact ⟨e, List.mem_cons_self, (eq_of_beq q).symm, rfl⟩
    · obtain ⟨e', h1, h2⟩ := ent_of h
      exact ⟨e', List.mem_cons_of_mem _ h1, h2⟩
theorem def_ok {es : List Ent} {cs : List (Str × PV)} {bl : List Str} {ds : List (Str × List (Str × PV))} (P : ProgOk W D es cs bl ds) (ih : ∀ e ∈ es, FnOk W.P W.w W.K W.mg W.base CX0 k e.a e.fd e.ps (spEv W.K (evCall turns D k e.f)))
    (e : Ent) (he : e ∈ es) : FnOk W.P W.w W.K W.mg W.base CX0 (k + 1) e.a e.fd e.ps (spEv W.K (evCall turns D (k + 1) e.f)) := by
  have E0 := P.df e he
  refine E0.fun_.ok E0.sc (fun vs H Q E h => ?_) fun cdv A outer s H vs Q E hr h => ?_
  · obtain ⟨μ, st, as, v, st', _, r, q, _⟩ := h
    rw [← r.len, E0.np]
    exact call_len E0.d q
  · obtain ⟨μ, st0, as, v, st', o, r, q, g⟩ := h
    rw [evCall, E0.d] at q
    simp only at q
    split at q
    · rename_i qq
      obtain ⟨s1, own⟩ := start_ok (N := e.N) r qq.2 E0.nl
      have G : Gs W ⟨e.N, defScope e.st, es.map Ent.pair, cs, bl, ds⟩ k (cxOf CX0 W.P W.w W.K W.mg W.base e.N e.x (defScope e.st) e.a cdv A outer s H E).nox :=
        ⟨⟨rfl, rfl, rfl, rfl, rfl, rfl, rfl, E0.sc.nd, rfl, hr⟩, E0.sc.kind, fun _ => rfl, rfl⟩
      have F : Fx W ⟨e.N, defScope e.st, es.map Ent.pair, cs, bl, ds⟩ k (evCall turns D k) := ⟨fun x f hx => by
        obtain ⟨e', h1, rfl, rfl⟩ := ent_of hx
        have E1 := P.df e' h1
        exact ⟨e'.a, e'.fd, e'.ps, E1.mg, E1.fun_.kp, E1.binds, ih e' h1⟩, P.cs, P.bl, P.ds⟩
      refine ⟨_, sSs (turns := turns) e.d.body G F E0.text, μ, _, st0, o, s1, ?_⟩
      rw [← qq.1] at q
      split at q
      · rename_i env' s' hs
        rw [hs]
        refine fun μ' H' σ' t o' r' w => ?_
        have t : Stp μ st0.length H μ' s'.length H' := t.weak fun b z => (own b z).elim
        obtain ⟨rfl, q1, q2, q3⟩ := leave_ok q t o' .non
        exact g μ' H' .non q1 q2 q3 trivial
      · rename_i w' s' hs
        rw [hs]
        refine fun μ' H' v' t o' r' w => ?_
        have t : Stp μ st0.length H μ' s'.length H' := t.weak fun b z => (own b z).elim
        obtain ⟨rfl, q1, q2, q3⟩ := leave_ok q t o' r'
        refine g μ' H' v' q1 q2 q3 ?_
        cases q3 with
        | fl _ _ _ => exact (w _ rfl rfl).elim (fun z => (own _ z).elim) fun z => z
        | _ => trivial
      · cases q
    · cases q
theorem prog_ok {es : List Ent} {cs : List (Str × PV)} {bl : List Str} {ds : List (Str × List (Str × PV))} (P : ProgOk W D es cs bl ds) : ∀ (k : Nat) (e : Ent), e ∈ es → FnOk W.P W.w W.K W.mg W.base CX0 k e.a e.fd e.ps (spEv W.K (evCall turns D k e.f))
  | 0, e, he => by
    refine ⟨fun vs H Q E h => ?_, fun A outer s H args us vs Q E _ _ _ _ h => ?_⟩
    · obtain ⟨μ, st, as, v, st', _, r, q, _⟩ := h
      cases q
    · obtain ⟨μ, st, as, v, st', _, r, q, _⟩ := h
      cases q
  | k + 1, e, he => def_ok P (prog_ok P k) e he
end
/-- a def behind the top -/
theorem fun_at {K : PySem.W.Frag} {x : Str} {st : Stmt} {f : Addr} {oc : Value} {od an : Option Addr} {osl : Array (Option Value)} {kV doc pm cdv ct : Value} (l : K.lookup f = some ⟨oc, od, .func (PySem.W.fnOf x x (defArgs st) (defBody st) (defScope st) .none kV doc pm an cdv ct), osl⟩)
    (c : PySem.W.codeIn K cdv x = true) (k : PySem.W.keepIn K (.ref f) = true) : Fun K x x st f (PySem.W.fnOf x x (defArgs st) (defBody st) (defScope st) .none kV doc pm an cdv ct) := fun_mk l c k
/-- a written tuple of texts -/
theorem tup_rv {K : PySem.W.Frag} {a : Addr} {od : Option Addr} {its : Array Value} {n : Nat} {sl : Array (Option Value)} {xs : List Str} (l : K.lookup a = some ⟨.type "tuple", od, .seq its n, sl⟩) (hz : its.size ≤ sizeLine) (v : Vals (xs.map V.str) its.toList) :
    ∀ μ L H, RV K μ L H (.tup (xs.map .str)) (.ref a) := fun μ L H => by
  have go : ∀ xs : List Str, RVs K μ L H (xs.map PV.str) (xs.map V.str) := fun xs => by
    induction xs with
    | nil => exact .nil
    | cons z xs ih => exact .cons rfl (.str z) ih
  exact .tup (.inr ⟨_, its, n, l, rfl, rfl, hz, v⟩) (go xs)
/-- the law's promise, from what its program yields -/
theorem law_sp {K : PySem.W.Frag} {cf : List PV → Store → Res PV} {H : Hp} {a : Addr} {ns : List Int} (h : ∃ st', cf [.rol (ns.map .int)] [] = .ok (.bl true) st') (ho : Only H) (hs : SqL K H a (ns.map V.int)) : spEv K cf [.ref a] H (fun v _ => v = .bl true) fun _ _ _ => False := by
  obtain ⟨st', e⟩ := h
  refine ⟨fun _ => 0, [], _, _, st', ⟨fun n m hn => absurd hn (by simp), fun n xs hx => by simp at hx⟩, .cons rfl (.rol ?_ (go ns)) .nil, e, fun μ' H' v' _ _ r _ => by cases r; rfl⟩
  rcases hs with (z | ⟨o, z⟩) | z
  · rcases ho a with w | ⟨o, xs, w⟩ <;> (rw [w] at z; cases z)
  · exact .inl ⟨o, z⟩
  · exact .inr z
where go {K : PySem.W.Frag} {μ : Nat → Addr} {L : Nat} {H : Hp} : ∀ ns : List Int, RVs K μ L H (ns.map PV.int) (ns.map V.int)
  | [] => .nil
  | n :: ns => .cons rfl (.int n) (go ns)
end U

set_option maxHeartbeats 8000000
/-! U16: reasoning over the language. -/
namespace U
open PySem L2
@[simp] theorem bind_ok_ {α β : Type} (a : α) (st : Store) (f : α → Store → Res β) : (Res.ok a st).bind f = f a st := rfl
@[simp] theorem opt_some_ {α : Type} (a : α) (st : Store) : opt (some a) st = .ok a st := rfl
@[simp] theorem to_ok_ {α : Type} (a : α) (st : Store) (f : α → Store → SR) : (Res.ok a st).to f = f a st := rfl
@[simp] theorem then_nx_ (e : En) (st : Store) (f : En → Store → SR) : (SR.nx e st).then f = f e st := rfl
@[simp] theorem then_rt_ (v : PV) (st : Store) (f : En → Store → SR) : (SR.rt v st).then f = .rt v st := rfl
@[simp] theorem then_bk_ (e : En) (st : Store) (f : En → Store → SR) : (SR.bk e st).then f = .bk e st := rfl
@[simp] theorem then_ct_ (e : En) (st : Store) (f : En → Store → SR) : (SR.ct e st).then f = .ct e st := rfl
@[simp] theorem isBl_bl_ (b : Bool) : isBl (.bl b) = some b := rfl
@[simp] theorem done_val_ (v : PV) (st : Store) : done .val v st = .ok v st := rfl
@[simp] theorem done_use_ (v : PV) (st : Store) : done .use v st = .ok v st := rfl
@[simp] theorem done_tbl_ (b : Bool) (st : Store) : done .test (.bl b) st = .ok (.bl b) st := rfl
@[simp] theorem isFl_non : PV.isFl .non = false := rfl
@[simp] theorem isFl_bl (b : Bool) : PV.isFl (.bl b) = false := rfl
@[simp] theorem isFl_int (i : Int) : PV.isFl (.int i) = false := rfl
@[simp] theorem isFl_str (s : Str) : PV.isFl (.str s) = false := rfl
@[simp] theorem isFl_tup (s : List PV) : PV.isFl (.tup s) = false := rfl
@[simp] theorem isFl_loc (n : Nat) : PV.isFl (.loc n) = false := rfl
@[simp] theorem isFl_rol (n : List PV) : PV.isFl (.rol n) = false := rfl
@[simp] theorem esc_non (st : Store) : esc .non st = (.non, st) := rfl
@[simp] theorem esc_bl (b : Bool) (st : Store) : esc (.bl b) st = (.bl b, st) := rfl
@[simp] theorem esc_int (i : Int) (st : Store) : esc (.int i) st = (.int i, st) := rfl
@[simp] theorem esc_str (s : Str) (st : Store) : esc (.str s) st = (.str s, st) := rfl
@[simp] theorem esc_tup (s : List PV) (st : Store) : esc (.tup s) st = (.tup s, st) := rfl
@[simp] theorem esc_loc (n : Nat) (st : Store) : esc (.loc n) st = (.loc n, st) := rfl
@[simp] theorem esc_rol (n : List PV) (st : Store) : esc (.rol n) st = (.rol n, st) := rfl
@[simp] theorem esc_fl (n : List PV) (st : Store) : esc (.fl n) st = (.loc st.length, st ++ [.lst n]) := rfl
/-! values at names -/
@[simp] theorem varV_non (st : Store) : varV .val (some (some .non)) st = .ok .non st := rfl
@[simp] theorem varV_bl (b : Bool) (st : Store) : varV .val (some (some (.bl b))) st = .ok (.bl b) st := rfl
@[simp] theorem varV_int (i : Int) (st : Store) : varV .val (some (some (.int i))) st = .ok (.int i) st := rfl
@[simp] theorem varV_str (s : Str) (st : Store) : varV .val (some (some (.str s))) st = .ok (.str s) st := rfl
@[simp] theorem varV_tup (xs : List PV) (st : Store) : varV .val (some (some (.tup xs))) st = .ok (.tup xs) st := rfl
@[simp] theorem varV_loc (n : Nat) (st : Store) : varV .val (some (some (.loc n))) st = .ok (.loc n) st := rfl
@[simp] theorem varV_rol (xs : List PV) (st : Store) : varV .val (some (some (.rol xs))) st = .ok (.rol xs) st := rfl
@[simp] theorem varV_use (v : PV) (st : Store) : varV .use (some (some v)) st = .ok v st := rfl
@[simp] theorem varV_test (v : PV) (st : Store) : varV .test (some (some v)) st = done .test v st := rfl
/-! operations -/
@[simp] theorem bin_add_int (i j : Int) (st : Store) : binV .add (.int i) (.int j) st = some (.int (i + j)) := rfl
@[simp] theorem bin_sub_int (i j : Int) (st : Store) : binV .sub (.int i) (.int j) st = some (.int (i - j)) := rfl
theorem bin_mul_int {i j : Int} {st : Store} (h : ckM i j = true) : binV .mul (.int i) (.int j) st = some (.int (i * j)) := if_pos h
theorem bin_mod_int {i j : Int} {st : Store} (h : 0 < j) : binV .mod (.int i) (.int j) st = some (.int (i % j)) := if_pos h
theorem bin_fdiv_int {i j : Int} {st : Store} (h : 0 < j ∧ j < 1073741824) : binV .fdiv (.int i) (.int j) st = some (.int (i / j)) := if_pos h
theorem bin_pow_int {i j : Int} {st : Store} (h : 0 ≤ j ∧ j ≤ 1000000 ∧ i.natAbs < 2 ^ 64) : binV .pow (.int i) (.int j) st = some (.int (i ^ j.toNat)) := if_pos h
theorem bin_add_str {x y : Str} {st : Store} (h : x.length + y.length ≤ sizeLine) : binV .add (.str x) (.str y) st = some (.str (x ++ y)) := if_pos h
theorem bin_add_tup {x y : List PV} {st : Store} (h : x.length + y.length ≤ sizeLine) : binV .add (.tup x) (.tup y) st = some (.tup (x ++ y)) := if_pos h
theorem bin_mul_str {x : Str} {j : Int} {st : Store} (h : -1000000 ≤ j ∧ j ≤ 1000000 ∧ x.length * j.toNat ≤ 1000000) : binV .mul (.str x) (.int j) st = some (.str (⟨((List.replicate j.toNat x.cps.toList).flatten).toArray⟩)) := if_pos h
@[simp] theorem cmp_eq_int (i j : Int) (st : Store) : cmpV .eq (.int i) (.int j) st = some (decide (i = j)) := by
  show some (decide (V.int i = V.int j)) = _
  simp
@[simp] theorem cmp_ne_int (i j : Int) (st : Store) : cmpV .ne (.int i) (.int j) st = some (!decide (i = j)) := by
  show some (!decide (V.int i = V.int j)) = _
  simp
@[simp] theorem cmp_eq_str (i j : Str) (st : Store) : cmpV .eq (.str i) (.str j) st = some (decide (i = j)) := by
  show some (decide (V.str i = V.str j)) = _
  simp
@[simp] theorem cmp_ne_str (i j : Str) (st : Store) : cmpV .ne (.str i) (.str j) st = some (!decide (i = j)) := by
  show some (!decide (V.str i = V.str j)) = _
  simp
@[simp] theorem cmp_lt_int (i j : Int) (st : Store) : cmpV .lt (.int i) (.int j) st = some (decide (i < j)) := rfl
@[simp] theorem cmp_le_int (i j : Int) (st : Store) : cmpV .le (.int i) (.int j) st = some (decide (i ≤ j)) := rfl
@[simp] theorem cmp_gt_int (i j : Int) (st : Store) : cmpV .gt (.int i) (.int j) st = some (decide (j < i)) := rfl
@[simp] theorem cmp_ge_int (i j : Int) (st : Store) : cmpV .ge (.int i) (.int j) st = some (decide (j ≤ i)) := rfl
@[simp] theorem seq_tup (xs : List PV) (st : Store) : seqOf (.tup xs) st = some xs := rfl
@[simp] theorem seq_fl (xs : List PV) (st : Store) : seqOf (.fl xs) st = some xs := rfl
@[simp] theorem seq_rol (xs : List PV) (st : Store) : seqOf (.rol xs) st = some xs := rfl
theorem seq_loc {n : Nat} {xs : List PV} {st : Store} (h : st[n]? = some (.lst xs)) : seqOf (.loc n) st = some xs := by
  unfold seqOf
  simp only [h]
theorem ix_loc {n : Nat} {xs : List PV} {st : Store} {k : Int} (h : st[n]? = some (.lst xs)) : ixV (.loc n) (.int k) st = atI xs k := by
  unfold ixV
  simp only [seq_loc h]
@[simp] theorem ix_tup_ (xs : List PV) (k : Int) (st : Store) : ixV (.tup xs) (.int k) st = atI xs k := rfl
@[simp] theorem ix_fl_ (xs : List PV) (k : Int) (st : Store) : ixV (.fl xs) (.int k) st = atI xs k := rfl
@[simp] theorem ix_rol_ (xs : List PV) (k : Int) (st : Store) : ixV (.rol xs) (.int k) st = atI xs k := rfl
theorem ix_str_ {z : Str} {k : Int} {st : Store} (h : z.length ≤ sizeLine) : ixV (.str z) (.int k) st = (atI z.cps.toList k).map fun c => .str ⟨#[c]⟩ := if_pos h
@[simp] theorem atI_0 {α : Type} (x : α) (xs : List α) : atI (x :: xs) 0 = some x := atI_nat (j := 0) rfl
@[simp] theorem atI_1 {α : Type} (x y : α) (xs : List α) : atI (x :: y :: xs) 1 = some y := atI_nat (j := 1) rfl
@[simp] theorem atI_2 {α : Type} (x y z : α) (xs : List α) : atI (x :: y :: z :: xs) 2 = some z := atI_nat (j := 2) rfl
@[simp] theorem atI_3 {α : Type} (x y z w : α) (xs : List α) : atI (x :: y :: z :: w :: xs) 3 = some w := atI_nat (j := 3) rfl
@[simp] theorem truth_bl_ (b : Bool) (st : Store) : truth (.bl b) st = some b := rfl
@[simp] theorem bi_int_int (i : Int) (st : Store) : biV .int [.int i] st = some (.int i) := rfl
@[simp] theorem bi_int_bl (k : Bool) (st : Store) : biV .int [.bl k] st = some (.int (if k then 1 else 0)) := rfl
@[simp] theorem bi_abs (i : Int) (st : Store) : biV .abs [.int i] st = some (.int (if i < 0 then -i else i)) := rfl
@[simp] theorem bi_max (i j : Int) (st : Store) : biV .max [.int i, .int j] st = some (.int (if j > i then j else i)) := rfl
@[simp] theorem bi_min (i j : Int) (st : Store) : biV .min [.int i, .int j] st = some (.int (if j < i then j else i)) := rfl
theorem bi_len_str {z : Str} {st : Store} (h : z.length ≤ sizeLine) : biV .len [.str z] st = some (.int z.length) := if_pos h
theorem bi_len_loc {n : Nat} {xs : List PV} {st : Store} (h : st[n]? = some (.lst xs)) : biV .len [.loc n] st = some (.int xs.length) := by
  show (seqOf (.loc n) st).map _ = _
  rw [seq_loc h]; rfl
@[simp] theorem bi_len_fl (xs : List PV) (st : Store) : biV .len [.fl xs] st = some (.int xs.length) := rfl
@[simp] theorem bi_len_tup (xs : List PV) (st : Store) : biV .len [.tup xs] st = some (.int xs.length) := rfl
@[simp] theorem bi_list_rol (xs : List PV) (st : Store) : biV .list [.rol xs] st = some (.fl xs) := rfl
@[simp] theorem bi_repr (b : Bool) (st : Store) : biV .repr [.bl b] st = some (.str (if b then Str.ofString "True" else Str.ofString "False")) := rfl
theorem bi_str {i : Int} {st : Store} (h : i.natAbs < 1000000) : biV .str [.int i] st = some (.str (toString i)) := if_pos h
@[simp] theorem low_int (n : Nat) (i : Int) : PV.low n (.int i) = true := rfl
@[simp] theorem low_bl (n : Nat) (i : Bool) : PV.low n (.bl i) = true := rfl
@[simp] theorem low_str (n : Nat) (i : Str) : PV.low n (.str i) = true := rfl
theorem leave_id (v : PV) (st : Store) : leave st.length v st = .ok v st := if_pos (Nat.le_refl _)
theorem leave_set (v : PV) (st : Store) (n : Nat) (c : Cell) : leave st.length v (st.set n c) = .ok v (st.set n c) := if_pos (by simp)
theorem leave_setAt (v : PV) (st : Store) (n : Nat) (c : List PV) : leave st.length v (setAt st n c) = .ok v (setAt st n c) := if_pos (by simp [setAt])
/-- a call that leaves the store as long as it was -/
theorem leave_same {n : Nat} {v : PV} {st : Store} (h : st.length ≤ n) : leave n v st = .ok v st := if_pos h

/-- the turns of a comprehension over items -/
theorem lcLoop_inv {test : En → Store → Res Bool} {elt : En → Store → Res PV} {put : PV → En → Option En} {env : En} {xs : List PV} (I : Nat → List PV → Store → Prop)
    (step : ∀ j x acc st, xs[j]? = some x → I j acc st → ∃ env' b st1, put x env = some env' ∧ test env' st = .ok b st1 ∧
      if b = true then ∃ y st2, elt env' st1 = .ok y st2 ∧ acc.length < sizeLine ∧ I (j + 1) (acc ++ [(esc y st2).1]) (esc y st2).2 else I (j + 1) acc st1) :
    ∀ m j acc st, j + m = xs.length → I j acc st → ∃ acc' st', lcLoop test elt put env (.items xs) j m acc st = .ok (.fl acc') st' ∧ I xs.length acc' st'
  | 0, j, acc, st, e, i => by
    have e : j = xs.length := by omega
    subst e
    exact ⟨acc, st, rfl, i⟩
  | m + 1, j, acc, st, e, i => by
    have hj : j < xs.length := by omega
    obtain ⟨env', b, st1, h1, h2, h3⟩ := step j xs[j] acc st (by simp [hj]) i
    have hg : (Src.items xs).get j st = some xs[j] := by simp [Src.get, hj]
    unfold lcLoop
    rw [hg]
    simp only [h1, h2, bind_ok_]
    cases b with
    | false =>
      simp only [Bool.false_eq_true, if_false] at h3 ⊢
      exact lcLoop_inv I step m (j + 1) acc st1 (by omega) h3
    | true =>
      simp only [if_true] at h3 ⊢
      obtain ⟨y, st2, h4, h5, h6⟩ := h3
      simp only [h4, bind_ok_, if_pos h5]
      exact lcLoop_inv I step m (j + 1) _ _ (by omega) h6
/-- .. that leave the store -/
theorem lcLoop_pure {test : En → Store → Res Bool} {elt : En → Store → Res PV} {put : PV → En → Option En} {env : En} {xs : List PV} {st : Store} (b : PV → Bool) (f : PV → PV) (hz : xs.length < sizeLine)
    (step : ∀ x, x ∈ xs → ∃ env', put x env = some env' ∧ test env' st = .ok (b x) st ∧ (b x = true → elt env' st = .ok (f x) st ∧ (f x).isFl = false)) :
    lcLoop test elt put env (.items xs) 0 xs.length [] st = .ok (.fl ((xs.filter b).map f)) st := by
  obtain ⟨acc, st', h1, h2, h3⟩ := lcLoop_inv (env := env) (put := put) (test := test) (elt := elt) (xs := xs) (fun j acc st' => st' = st ∧ acc = ((xs.take j).filter b).map f) (fun j x acc st1 hx ⟨e1, e2⟩ => by
    subst e1
    obtain ⟨env', q1, q2, q3⟩ := step x (List.mem_of_getElem? hx)
    have ht : xs.take (j + 1) = xs.take j ++ [x] := by rw [List.take_add_one, hx]; rfl
    refine ⟨env', b x, st1, q1, q2, ?_⟩
    cases hb : b x with
    | false =>
      simp only [Bool.false_eq_true, if_false]
      exact ⟨by trivial, by rw [ht, List.filter_append, e2]; simp [hb]⟩
    | true =>
      obtain ⟨q4, q5⟩ := q3 hb
      simp only [if_true]
      refine ⟨f x, st1, q4, ?_, ?_⟩
      · rw [e2, List.length_map]
        have := List.length_filter_le b (xs.take j)
        have := List.length_take_le j xs
        have : (xs.take j).length ≤ xs.length := by rw [List.length_take]; omega
        omega
      · have es : esc (f x) st1 = (f x, st1) := by cases hf : f x <;> first | rfl | (rw [hf] at q5; cases q5)
        rw [es]
        exact ⟨by trivial, by rw [ht, List.filter_append, e2]; simp [hb]⟩) xs.length 0 [] st (by omega) ⟨rfl, by simp⟩
  rw [h1, h2, h3, List.take_length]
/-- what a turn comes to -/
def SR.go (r : SR) (P : En → Store → Prop) : Prop := match r with
  | .nx e s => P e s
  | .ct e s => P e s
  | _ => False
@[simp] theorem go_nx (e : En) (s : Store) (P : En → Store → Prop) : (SR.nx e s).go P = P e s := rfl
@[simp] theorem go_ct (e : En) (s : Store) (P : En → Store → Prop) : (SR.ct e s).go P = P e s := rfl
def SR.goR (r : SR) (P : En → Store → Prop) (R : PV → Store → Prop) : Prop := match r with
  | .nx e s => P e s
  | .ct e s => P e s
  | .rt v s => R v s
  | _ => False
@[simp] theorem goR_nx (e : En) (s : Store) (P : En → Store → Prop) (R : PV → Store → Prop) : (SR.nx e s).goR P R = P e s := rfl
@[simp] theorem goR_ct (e : En) (s : Store) (P : En → Store → Prop) (R : PV → Store → Prop) : (SR.ct e s).goR P R = P e s := rfl
@[simp] theorem goR_rt (v : PV) (s : Store) (P : En → Store → Prop) (R : PV → Store → Prop) : (SR.rt v s).goR P R = R v s := rfl
/-- the turns of a for over items, none of which leaves -/
theorem forLoop_inv {put : PV → En → Option En} {body : En → Store → SR} {xs : List PV} (I : Nat → En → Store → Prop)
    (step : ∀ j x env st, xs[j]? = some x → I j env st → ∃ env', put x env = some env' ∧ (body env' st).go fun e s => I (j + 1) e s) :
    ∀ m j env st, j + m = xs.length → I j env st → ∃ e s, forLoop put body (.items xs) j m env st = .nx e s ∧ I xs.length e s
  | 0, j, env, st, e, i => by
    have e : j = xs.length := by omega
    subst e
    exact ⟨env, st, rfl, i⟩
  | m + 1, j, env, st, e, i => by
    have hj : j < xs.length := by omega
    obtain ⟨env', h1, h2⟩ := step j xs[j] env st (by simp [hj]) i
    have hg : (Src.items xs).get j st = some xs[j] := by simp [Src.get, hj]
    unfold forLoop
    rw [hg]
    simp only [h1]
    cases q : body env' st with
    | nx e' s' => rw [q] at h2; exact forLoop_inv I step m (j + 1) e' s' (by omega) h2
    | ct e' s' => rw [q] at h2; exact forLoop_inv I step m (j + 1) e' s' (by omega) h2
    | _ => rw [q] at h2; exact h2.elim
/-- .. some of which may hand back a value of R -/
theorem forLoop_ret {put : PV → En → Option En} {body : En → Store → SR} {xs : List PV} (I : Nat → En → Store → Prop) (R : PV → Store → Prop)
    (step : ∀ j x env st, xs[j]? = some x → I j env st → ∃ env', put x env = some env' ∧ (body env' st).goR (fun e s => I (j + 1) e s) R) :
    ∀ m j env st, j + m = xs.length → I j env st → (∃ e s, forLoop put body (.items xs) j m env st = .nx e s ∧ I xs.length e s) ∨ ∃ v s, forLoop put body (.items xs) j m env st = .rt v s ∧ R v s
  | 0, j, env, st, e, i => by
    have e : j = xs.length := by omega
    subst e
    exact .inl ⟨env, st, rfl, i⟩
  | m + 1, j, env, st, e, i => by
    have hj : j < xs.length := by omega
    obtain ⟨env', h1, h2⟩ := step j xs[j] env st (by simp [hj]) i
    have hg : (Src.items xs).get j st = some xs[j] := by simp [Src.get, hj]
    unfold forLoop
    rw [hg]
    simp only [h1]
    cases q : body env' st with
    | nx e' s' => rw [q] at h2; exact forLoop_ret I R step m (j + 1) e' s' (by omega) h2
    | ct e' s' => rw [q] at h2; exact forLoop_ret I R step m (j + 1) e' s' (by omega) h2
    | rt v s => rw [q] at h2; exact .inr ⟨v, s, rfl, h2⟩
    | _ => rw [q] at h2; exact h2.elim
theorem atI_nn {α : Type} {xs : List α} {i : Int} {x : α} (h0 : 0 ≤ i) (h : xs[i.toNat]? = some x) : atI xs i = some x := by
  have := atI_nat h
  rwa [Int.toNat_of_nonneg h0] at this
end U

set_option maxHeartbeats 8000000
namespace K13
abbrev DEEP : Nat := 230
abbrev TURNS : Nat := 64
/-! the program's own text, by the generator -/
open PySem PySem.Spec PyProof.Rows L2 U
def topS (i : Nat) : Stmt := PySem.Challenge.pw_flowform_k13_printed_programs.main.body.getD i (.Pass ⟨0, 0, 0, 0⟩)
def e105_0 : ME :=
  (.bin .add (.var 1) (.con (.str "\n")))
/-- show_program -/
abbrev s105 : Stmt := topS 3
def n105 : List Str := ["program", "line"]
def p105 : List Str := ["program"]
def d105 : Def := { np := 1, nl := 2, body :=
  (.cons (.ret (.mt .join (.con (.str "")) (.cons (.lc e105_0 (.nm 1) (.fn 106 (.cons (.var 0) (.cons (.con (.str "")) .nil))) false (.con (.bl true))) .nil)))
  .nil) }
def e85_0 : ME :=
  (.fn 86 (.cons (.var 4) (.cons (.tup (.cons (.con (.str "or")) .nil)) .nil)))
/-- show_condition -/
abbrev s85 : Stmt := topS 4
def n85 : List Str := ["condition", "kind", "inner", "sign", "part"]
def p85 : List Str := ["condition"]
def d85 : Def := { np := 1, nl := 5, body :=
  (.cons (.setT [1, 2] (.var 0))
  (.cons (.ite (.cmp .eq (.var 1) (.con (.str "call"))) (.cons (.ret (.bin .add (.var 2) (.con (.str "()"))))
  .nil) .nil)
  (.cons (.ite (.cmp .eq (.var 1) (.con (.str "flag"))) (.cons (.ret (.var 2))
  .nil) .nil)
  (.cons (.ite (.cmp .eq (.var 1) (.con (.str "not"))) (.cons (.ret (.bin .add (.con (.str "!")) (.fn 86 (.cons (.var 2) (.cons (.tup (.cons (.con (.str "and")) (.cons (.con (.str "or")) .nil))) .nil)))))
  .nil) .nil)
  (.cons (.set 3 (.dix "SIGNS" [("and", (.str " && ")), ("or", (.str " || "))] (.var 1)) true)
  (.cons (.ret (.mt .join (.var 3) (.cons (.lc e85_0 (.nm 4) (.var 2) false (.con (.bl true))) .nil)))
  .nil)))))) }
/-- _shown_inside -/
abbrev s86 : Stmt := topS 5
def n86 : List Str := ["condition", "kinds"]
def p86 : List Str := ["condition", "kinds"]
def d86 : Def := { np := 2, nl := 2, body :=
  (.cons (.ite (.cmp .inn (.ix (.var 0) (.con (.int 0))) (.var 1)) (.cons (.ret (.bin .add (.bin .add (.con (.str "(")) (.fn 85 (.cons (.var 0) .nil))) (.con (.str ")"))))
  .nil) .nil)
  (.cons (.ret (.fn 85 (.cons (.var 0) .nil)))
  .nil)) }
def b106_0 : MSs :=
  (.cons (.ext 2 (.fn 107 (.cons (.var 3) (.cons (.var 1) .nil))))
  .nil)
/-- _body_lines -/
abbrev s106 : Stmt := topS 6
def n106 : List Str := ["body", "indent", "lines", "statement"]
def p106 : List Str := ["body", "indent"]
def d106 : Def := { np := 2, nl := 4, body :=
  (.cons (.set 2 (.lst .nil) true)
  (.cons (.for_ (.nm 3) (.var 0) b106_0)
  (.cons (.ret (.var 2))
  .nil))) }
/-- _statement_lines -/
abbrev s107 : Stmt := topS 7
def n107 : List Str := ["statement", "indent", "kind", "head", "lines"]
def p107 : List Str := ["statement", "indent"]
def d107 : Def := { np := 2, nl := 5, body :=
  (.cons (.set 2 (.ix (.var 0) (.con (.int 0))) true)
  (.cons (.ite (.cmp .eq (.var 2) (.con (.str "if"))) (.cons (.ret (.fn 109 (.cons (.var 0) (.cons (.var 1) .nil))))
  .nil) .nil)
  (.cons (.ite (.cmp .eq (.var 2) (.con (.str "while"))) (.cons (.set 3 (.bin .add (.bin .add (.bin .add (.fn 110 (.cons (.ix (.var 0) (.con (.int 1))) .nil)) (.con (.str "while ("))) (.fn 85 (.cons (.ix (.var 0) (.con (.int 2))) .nil))) (.con (.str ") {"))) false)
  (.cons (.ret (.fn 108 (.cons (.var 3) (.cons (.ix (.var 0) (.con (.int 3))) (.cons (.var 1) .nil)))))
  .nil)) .nil)
  (.cons (.ite (.cmp .eq (.var 2) (.con (.str "for"))) (.cons (.ret (.fn 108 (.cons (.bin .add (.fn 110 (.cons (.ix (.var 0) (.con (.int 1))) .nil)) (.con (.str "for (;;) {"))) (.cons (.ix (.var 0) (.con (.int 2))) (.cons (.var 1) .nil)))))
  .nil) .nil)
  (.cons (.ite (.cmp .eq (.var 2) (.con (.str "block"))) (.cons (.ret (.fn 108 (.cons (.con (.str "{")) (.cons (.ix (.var 0) (.con (.int 1))) (.cons (.var 1) .nil)))))
  .nil) .nil)
  (.cons (.ite (.cmp .eq (.var 2) (.con (.str "try"))) (.cons (.set 4 (.lst (.cons (.bin .add (.var 1) (.con (.str "try {"))) .nil)) true)
  (.cons (.ext 4 (.fn 106 (.cons (.ix (.var 0) (.con (.int 1))) (.cons (.bin .add (.var 1) (.glb "INDENT" (.str "  "))) .nil))))
  (.cons (.ext 4 (.fn 108 (.cons (.con (.str "} finally {")) (.cons (.ix (.var 0) (.con (.int 2))) (.cons (.var 1) .nil)))))
  (.cons (.ret (.var 4))
  .nil)))) .nil)
  (.cons (.ret (.lst (.cons (.bin .add (.bin .add (.var 1) (.fn 111 (.cons (.var 0) .nil))) (.con (.str ";"))) .nil)))
  .nil))))))) }
/-- _braced_lines -/
abbrev s108 : Stmt := topS 8
def n108 : List Str := ["head", "body", "indent"]
def p108 : List Str := ["head", "body", "indent"]
def d108 : Def := { np := 3, nl := 3, body :=
  (.cons (.ret (.bin .add (.bin .add (.lst (.cons (.bin .add (.var 2) (.var 0)) .nil)) (.fn 106 (.cons (.var 1) (.cons (.bin .add (.var 2) (.glb "INDENT" (.str "  "))) .nil)))) (.lst (.cons (.bin .add (.var 2) (.con (.str "}"))) .nil))))
  .nil) }
def w109_0 : ME :=
  (.con (.bl true))
def b109_1 : MSs :=
  (.cons (.setT [4, 5, 6, 7] (.var 0))
  (.cons (.app 2 (.bin .add (.bin .add (.bin .add (.var 1) (.var 3)) (.fn 85 (.cons (.var 5) .nil))) (.con (.str ") {"))))
  (.cons (.ext 2 (.fn 106 (.cons (.var 6) (.cons (.bin .add (.var 1) (.glb "INDENT" (.str "  "))) .nil))))
  (.cons (.ite (.or (.cmp .ne (.bi .len (.cons (.var 7) .nil)) (.con (.int 1))) (.cmp .ne (.ix (.ix (.var 7) (.con (.int 0))) (.con (.int 0))) (.con (.str "if")))) (.cons .brk
  .nil) .nil)
  (.cons (.set 3 (.con (.str "} else if (")) true)
  (.cons (.set 0 (.ix (.var 7) (.con (.int 0))) false)
  .nil))))))
/-- _if_lines -/
abbrev s109 : Stmt := topS 9
def n109 : List Str := ["statement", "indent", "lines", "head", "_", "condition", "first", "second"]
def p109 : List Str := ["statement", "indent"]
def d109 : Def := { np := 2, nl := 8, body :=
  (.cons (.set 2 (.lst .nil) true)
  (.cons (.set 3 (.con (.str "if (")) true)
  (.cons (.whl w109_0 b109_1)
  (.cons (.ite (.var 7) (.cons (.ext 2 (.fn 108 (.cons (.con (.str "} else {")) (.cons (.var 7) (.cons (.var 1) .nil)))))
  .nil) (.cons (.app 2 (.bin .add (.var 1) (.con (.str "}"))))
  .nil))
  (.cons (.ret (.var 2))
  .nil))))) }
/-- _shown_label -/
abbrev s110 : Stmt := topS 10
def n110 : List Str := ["label"]
def p110 : List Str := ["label"]
def d110 : Def := { np := 1, nl := 1, body :=
  (.cons (.ite (.cmp .isN (.var 0) (.con .non)) (.cons (.ret (.con (.str "")))
  .nil) .nil)
  (.cons (.ret (.bin .add (.var 0) (.con (.str ": "))))
  .nil)) }
/-- _shown_simple -/
abbrev s111 : Stmt := topS 11
def n111 : List Str := ["statement", "kind", "worth"]
def p111 : List Str := ["statement"]
def d111 : Def := { np := 1, nl := 3, body :=
  (.cons (.par 1 2 (.cons (.ix (.var 0) (.con (.int 0))) (.cons (.ix (.var 0) (.con (.int 1))) .nil)))
  (.cons (.ite (.cmp .eq (.var 1) (.con (.str "call"))) (.cons (.ret (.bin .add (.var 2) (.con (.str "()"))))
  .nil) .nil)
  (.cons (.ite (.cmp .eq (.var 1) (.con (.str "set"))) (.cons (.ret (.bin .add (.bin .add (.var 2) (.con (.str " = "))) (.fn 112 (.cons (.ix (.var 0) (.con (.int 2))) .nil))))
  .nil) .nil)
  (.cons (.ite (.cmp .eq (.var 1) (.con (.str "let"))) (.cons (.ret (.bin .add (.bin .add (.bin .add (.con (.str "let ")) (.var 2)) (.con (.str " = "))) (.fn 112 (.cons (.ix (.var 0) (.con (.int 2))) .nil))))
  .nil) .nil)
  (.cons (.ite (.cmp .isN (.var 2) (.con .non)) (.cons (.ret (.var 1))
  .nil) .nil)
  (.cons (.ret (.fstr (.cons (.fmt (.var 1)) (.cons (.con (.str " ")) (.cons (.fmt (.var 2)) .nil)))))
  .nil)))))) }
/-- _shown_value -/
abbrev s112 : Stmt := topS 12
def n112 : List Str := ["value"]
def p112 : List Str := ["value"]
def d112 : Def := { np := 1, nl := 1, body :=
  (.cons (.ite (.var 0) (.cons (.ret (.con (.str "true")))
  .nil) .nil)
  (.cons (.ret (.con (.str "false")))
  .nil)) }
def b4_0 : MSs :=
  (.cons (.set 1 (.bin .mod (.bi .int (.cons (.bin .add (.bin .mul (.var 1) (.con (.int 31))) (.bi .abs (.cons (.bi .int (.cons (.var 2) .nil)) .nil))) .nil)) (.con (.int 2147483647))) false)
  .nil)
/-- _law_tape -/
abbrev s4 : Stmt := topS 14
def n4 : List Str := ["script", "total", "cell"]
def p4 : List Str := ["script"]
def d4 : Def := { np := 1, nl := 3, body :=
  (.cons (.set 1 (.con (.int 7)) false)
  (.cons (.for_ (.nm 2) (.var 0) b4_0)
  (.cons (.ret (.lst (.cons (.bi .list (.cons (.var 0) .nil)) (.cons (.con (.int 0)) (.cons (.con (.int 0)) (.cons (.var 1) .nil))))))
  .nil))) }
/-- _law_draw -/
abbrev s5 : Stmt := topS 15
def n5 : List Str := ["tape", "many", "place", "number"]
def p5 : List Str := ["tape", "many"]
def d5 : Def := { np := 2, nl := 4, body :=
  (.cons (.ite (.cmp .eq (.ix (.var 0) (.con (.int 2))) (.con (.int 0))) (.cons (.set 2 (.ix (.var 0) (.con (.int 1))) false)
  (.cons (.set 3 (.con (.int 0)) false)
  (.cons (.ite (.cmp .lt (.var 2) (.bi .len (.cons (.ix (.var 0) (.con (.int 0))) .nil))) (.cons (.set 3 (.bi .abs (.cons (.bi .int (.cons (.ix (.ix (.var 0) (.con (.int 0))) (.var 2)) .nil)) .nil)) false)
  .nil) (.cons (.setIx (.var 0) (.con (.int 3)) (.bin .mod (.bi .int (.cons (.bin .add (.bin .add (.bin .mul (.ix (.var 0) (.con (.int 3))) (.con (.int 48271))) (.var 2)) (.con (.int 1))) .nil)) (.con (.int 2147483647))))
  (.cons (.set 3 (.ix (.var 0) (.con (.int 3))) false)
  .nil)))
  (.cons (.setIx (.var 0) (.con (.int 1)) (.bin .add (.var 2) (.con (.int 1))))
  (.cons (.ite (.cmp .lt (.var 3) (.bin .pow (.con (.int 10)) (.con (.int 18)))) (.cons (.set 3 (.bin .mod (.bi .int (.cons (.bin .add (.bin .add (.bin .mul (.var 3) (.con (.int 48271))) (.bin .mul (.var 2) (.con (.int 69621)))) (.con (.int 5))) .nil)) (.con (.int 2147483647))) false)
  (.cons (.set 3 (.bin .mod (.bi .int (.cons (.bin .mul (.var 3) (.con (.int 69621))) .nil)) (.con (.int 2147483629))) false)
  (.cons (.ret (.bin .mod (.bi .int (.cons (.var 3) .nil)) (.bi .max (.cons (.var 1) (.cons (.con (.int 1)) .nil)))))
  .nil))) .nil)
  (.cons (.setIx (.var 0) (.con (.int 2)) (.var 3))
  .nil)))))) .nil)
  (.cons (.set 3 (.ix (.var 0) (.con (.int 2))) false)
  (.cons (.setIx (.var 0) (.con (.int 2)) (.bin .fdiv (.var 3) (.bi .max (.cons (.var 1) (.cons (.con (.int 2)) .nil)))))
  (.cons (.ret (.bin .mod (.bi .int (.cons (.var 3) .nil)) (.bi .max (.cons (.var 1) (.cons (.con (.int 1)) .nil)))))
  .nil)))) }
def b6_0 : MSs :=
  (.cons (.set 8 (.bin .add (.var 8) (.ix (.var 2) (.fn 5 (.cons (.var 0) (.cons (.con (.int 63)) .nil))))) false)
  .nil)
def b6_1 : MSs :=
  (.cons (.set 8 (.bin .add (.bin .add (.sl (.var 4) (.con .non) (.var 5)) (.ix (.var 2) (.fn 5 (.cons (.var 0) (.cons (.con (.int 52)) .nil))))) (.sl (.var 4) (.var 5) (.con .non))) false)
  (.cons (.for_ (.nm 9) (.rng (.con (.int 0)) (.ix (.lst (.cons (.con (.int 0)) (.cons (.con (.int 0)) (.cons (.con (.int 0)) (.cons (.con (.int 1)) (.cons (.con (.int 2)) (.cons (.con (.int 6)) .nil))))))) (.fn 5 (.cons (.var 0) (.cons (.con (.int 6)) .nil))))) b6_0)
  (.cons (.set 10 (.fn 5 (.cons (.var 0) (.cons (.con (.int 16)) .nil))) true)
  (.cons (.ite (.cmp .eq (.var 10) (.con (.int 0))) (.cons (.set 8 (.bin .add (.var 8) (.bin .mul (.con (.str "x")) (.bin .sub (.con (.int 30)) (.bi .len (.cons (.var 8) .nil))))) false)
  .nil) .nil)
  (.cons (.ite (.cmp .eq (.var 10) (.con (.int 1))) (.cons (.set 8 (.bin .add (.ix (.var 3) (.fn 5 (.cons (.var 0) (.cons (.con (.int 12)) .nil)))) (.sl (.var 8) (.con .non) (.con (.int 1)))) false)
  .nil) .nil)
  (.cons (.ite (.cmp .eq (.var 10) (.con (.int 2))) (.cons (.set 8 (.sl (.ix (.var 3) (.fn 5 (.cons (.var 0) (.cons (.con (.int 12)) .nil)))) (.con .non) (.neg (.con (.int 1)))) false)
  .nil) .nil)
  (.cons (.ite (.or (.cmp .inn (.var 8) (.var 3)) (.cmp .inn (.var 8) (.var 6))) (.cons (.set 8 (.bin .add (.con (.str "one_of_two_equal_names_")) (.bi .str (.cons (.var 7) .nil))) false)
  .nil) .nil)
  (.cons (.app 6 (.var 8))
  .nil))))))))
/-- _law_names -/
abbrev s6 : Stmt := topS 16
def n6 : List Str := ["tape", "many", "signs", "words", "stem", "place", "names", "k", "name", "j", "choice"]
def p6 : List Str := ["tape", "many"]
def d6 : Def := { np := 2, nl := 11, body :=
  (.cons (.set 2 (.con (.str "abcdefghijklmnopqrstuvwxyzABCDEFGHIJKLMNOPQRSTUVWXYZ0123456789_")) true)
  (.cons (.set 3 (.lst (.cons (.con (.str "let")) (.cons (.con (.str "if")) (.cons (.con (.str "else")) (.cons (.con (.str "while")) (.cons (.con (.str "for")) (.cons (.con (.str "break")) (.cons (.con (.str "continue")) (.cons (.con (.str "return")) (.cons (.con (.str "try")) (.cons (.con (.str "finally")) (.cons (.con (.str "true")) (.cons (.con (.str "false")) .nil))))))))))))) true)
  (.cons (.set 4 (.ix (.lst (.cons (.con (.str "")) (.cons (.con (.str "")) (.cons (.con (.str "sharedStem")) (.cons (.con (.str "while_x")) .nil))))) (.fn 5 (.cons (.var 0) (.cons (.con (.int 4)) .nil)))) true)
  (.cons (.set 5 (.fn 5 (.cons (.var 0) (.cons (.bin .add (.bi .len (.cons (.var 4) .nil)) (.con (.int 1))) .nil))) false)
  (.cons (.set 6 (.lst .nil) true)
  (.cons (.for_ (.nm 7) (.rng (.con (.int 0)) (.var 1)) b6_1)
  (.cons (.ret (.var 6))
  .nil))))))) }
/-- _law_leaf -/
abbrev s19 : Stmt := topS 17
def n19 : List Str := ["tape", "world", "flags", "free"]
def p19 : List Str := ["tape", "world", "flags"]
def d19 : Def := { np := 3, nl := 4, body :=
  (.cons (.set 3 (.ix (.var 1) (.con (.int 0))) true)
  (.cons (.ite (.and (.var 2) (.or (.cmp .eq (.ix (.var 3) (.con (.int 1))) (.con (.int 0))) (.cmp .eq (.fn 5 (.cons (.var 0) (.cons (.con (.int 3)) .nil))) (.con (.int 0))))) (.cons (.ret (.tup (.cons (.con (.str "flag")) (.cons (.ix (.var 2) (.fn 5 (.cons (.var 0) (.cons (.bi .len (.cons (.var 2) .nil)) .nil)))) .nil))))
  .nil) .nil)
  (.cons (.setIx (.var 3) (.con (.int 1)) (.bin .sub (.ix (.var 3) (.con (.int 1))) (.con (.int 1))))
  (.cons (.ret (.tup (.cons (.con (.str "call")) (.cons (.ix (.ix (.var 1) (.con (.int 1))) (.fn 5 (.cons (.var 0) (.cons (.bi .len (.cons (.ix (.var 1) (.con (.int 1))) .nil)) .nil)))) .nil))))
  .nil)))) }
def b20_0 : MSs :=
  (.cons (.ite (.cmp .eq (.ix (.var 4) (.con (.int 0))) (.var 0)) (.cons (.set 3 (.bin .add (.var 3) (.bi .list (.cons (.ix (.var 4) (.con (.int 1))) .nil))) true)
  .nil) (.cons (.app 3 (.var 4))
  .nil))
  .nil)
/-- _law_joined -/
abbrev s20 : Stmt := topS 18
def n20 : List Str := ["word", "left", "right", "parts", "side"]
def p20 : List Str := ["word", "left", "right"]
def d20 : Def := { np := 3, nl := 5, body :=
  (.cons (.set 3 (.lst .nil) true)
  (.cons (.for_ (.nm 4) (.lst (.cons (.var 1) (.cons (.var 2) .nil))) b20_0)
  (.cons (.ret (.tup (.cons (.var 0) (.cons (.bi .tuple (.cons (.var 3) .nil)) .nil))))
  .nil))) }
def b21_0 : MSs :=
  (.cons (.ite (.cmp .gt (.bi .len (.cons (.var 4) .nil)) (.con (.int 1))) (.cons (.set 8 (.fn 5 (.cons (.var 0) (.cons (.bin .sub (.bi .len (.cons (.var 4) .nil)) (.con (.int 1))) .nil))) false)
  (.cons (.set 6 (.fn 20 (.cons (.ix (.lst (.cons (.con (.str "and")) (.cons (.con (.str "or")) .nil))) (.fn 5 (.cons (.var 0) (.cons (.con (.int 2)) .nil)))) (.cons (.ix (.var 4) (.var 8)) (.cons (.ix (.var 4) (.bin .add (.var 8) (.con (.int 1)))) .nil)))) false)
  (.cons (.ite (.cmp .eq (.fn 5 (.cons (.var 0) (.cons (.con (.int 4)) .nil))) (.con (.int 0))) (.cons (.set 6 (.tup (.cons (.con (.str "not")) (.cons (.var 6) .nil))) false)
  .nil) .nil)
  (.cons (.set 4 (.bin .add (.bin .add (.sl (.var 4) (.con .non) (.var 8)) (.lst (.cons (.var 6) .nil))) (.sl (.var 4) (.bin .add (.var 8) (.con (.int 2))) (.con .non))) true)
  .nil)))) .nil)
  .nil)
def b21_1 : MSs :=
  (.cons (.set 6 (.tup (.cons (.con (.str "not")) (.cons (.var 6) .nil))) false)
  .nil)
def b21_2 : MSs :=
  (.cons (.set 6 (.fn 19 (.cons (.var 0) (.cons (.var 1) (.cons (.var 2) .nil)))) false)
  (.cons (.for_ (.nm 7) (.rng (.con (.int 0)) (.ix (.lst (.cons (.con (.int 0)) (.cons (.con (.int 0)) (.cons (.con (.int 0)) (.cons (.con (.int 1)) (.cons (.con (.int 2)) .nil)))))) (.fn 5 (.cons (.var 0) (.cons (.con (.int 5)) .nil))))) b21_1)
  (.cons (.app 4 (.var 6))
  .nil)))
/-- _law_condition -/
abbrev s21 : Stmt := topS 19
def n21 : List Str := ["tape", "world", "flags", "limit", "parts", "k", "part", "j", "place"]
def p21 : List Str := ["tape", "world", "flags"]
def d21 : Def := { np := 3, nl := 9, body :=
  (.cons (.set 3 (.con (.int 4)) false)
  (.cons (.ite (.not (.var 2)) (.cons (.set 3 (.bi .min (.cons (.con (.int 4)) (.cons (.ix (.ix (.var 1) (.con (.int 0))) (.con (.int 1))) .nil))) false)
  .nil) .nil)
  (.cons (.ite (.cmp .lt (.ix (.ix (.var 1) (.con (.int 0))) (.con (.int 5))) (.con (.int 18))) (.cons (.setIx (.ix (.var 1) (.con (.int 0))) (.con (.int 5)) (.bin .sub (.ix (.ix (.var 1) (.con (.int 0))) (.con (.int 5))) (.con (.int 1))))
  (.cons (.ret (.fn 19 (.cons (.var 0) (.cons (.var 1) (.cons (.var 2) .nil)))))
  .nil)) .nil)
  (.cons (.set 4 (.lst .nil) true)
  (.cons (.for_ (.nm 5) (.rng (.con (.int 0)) (.bin .add (.con (.int 1)) (.fn 5 (.cons (.var 0) (.cons (.ix (.lst (.cons (.con (.int 1)) (.cons (.con (.int 1)) (.cons (.var 3) .nil)))) (.fn 5 (.cons (.var 0) (.cons (.con (.int 3)) .nil)))) .nil))))) b21_2)
  (.cons (.for_ (.nm 5) (.rng (.con (.int 0)) (.con (.int 3))) b21_0)
  (.cons (.setIx (.ix (.var 1) (.con (.int 0))) (.con (.int 5)) (.bin .sub (.ix (.ix (.var 1) (.con (.int 0))) (.con (.int 5))) (.fn 27 (.cons (.ix (.var 4) (.con (.int 0))) .nil))))
  (.cons (.ret (.ix (.var 4) (.con (.int 0))))
  .nil)))))))) }
def e27_0 : ME :=
  (.fn 27 (.cons (.var 1) .nil))
/-- _law_parts -/
abbrev s27 : Stmt := topS 20
def n27 : List Str := ["condition", "part"]
def p27 : List Str := ["condition"]
def d27 : Def := { np := 1, nl := 2, body :=
  (.cons (.ite (.cmp .eq (.ix (.var 0) (.con (.int 0))) (.con (.str "not"))) (.cons (.ret (.bin .add (.con (.int 1)) (.fn 27 (.cons (.ix (.var 0) (.con (.int 1))) .nil))))
  .nil) .nil)
  (.cons (.ite (.or (.cmp .eq (.ix (.var 0) (.con (.int 0))) (.con (.str "and"))) (.cmp .eq (.ix (.var 0) (.con (.int 0))) (.con (.str "or")))) (.cons (.ret (.bin .add (.con (.int 1)) (.bi .sum (.cons (.lc e27_0 (.nm 1) (.ix (.var 0) (.con (.int 1))) false (.con (.bl true))) .nil))))
  .nil) .nil)
  (.cons (.ret (.con (.int 1)))
  .nil))) }
/-- _law_wild -/
abbrev s28 : Stmt := topS 21
def n28 : List Str := ["tape", "names", "room", "depth", "choice", "name", "label", "value", "number", "simple", "body", "condition", "second"]
def p28 : List Str := ["tape", "names", "room", "depth"]
def d28 : Def := { np := 4, nl := 13, body :=
  (.cons (.set 4 (.fn 5 (.cons (.var 0) (.cons (.con (.int 16)) .nil))) true)
  (.cons (.set 5 (.ix (.var 1) (.fn 5 (.cons (.var 0) (.cons (.bi .len (.cons (.var 1) .nil)) .nil)))) false)
  (.cons (.set 6 (.ix (.lst (.cons (.con .non) (.cons (.var 5) .nil))) (.fn 5 (.cons (.var 0) (.cons (.con (.int 2)) .nil)))) false)
  (.cons (.set 7 (.cmp .eq (.fn 5 (.cons (.var 0) (.cons (.con (.int 2)) .nil))) (.con (.int 0))) false)
  (.cons (.ite (.or (.cmp .eq (.var 3) (.con (.int 0))) (.cmp .lt (.var 4) (.con (.int 6)))) (.cons (.set 8 (.ix (.lst (.cons (.con .non) (.cons (.con (.int 0)) (.cons (.con (.int 9)) (.cons (.con (.int 10)) (.cons (.con (.int 99)) (.cons (.fn 5 (.cons (.var 0) (.cons (.con (.int 100)) .nil))) .nil))))))) (.fn 5 (.cons (.var 0) (.cons (.con (.int 6)) .nil)))) false)
  (.cons (.set 9 (.lst (.cons (.tup (.cons (.con (.str "call")) (.cons (.var 5) .nil))) (.cons (.tup (.cons (.con (.str "let")) (.cons (.var 5) (.cons (.var 7) .nil)))) (.cons (.tup (.cons (.con (.str "set")) (.cons (.var 5) (.cons (.var 7) .nil)))) (.cons (.tup (.cons (.con (.str "break")) (.cons (.var 6) .nil))) (.cons (.tup (.cons (.con (.str "continue")) (.cons (.var 6) .nil))) .nil)))))) true)
  (.cons (.ret (.ix (.bin .add (.var 9) (.lst (.cons (.tup (.cons (.con (.str "return")) (.cons (.var 8) .nil))) .nil))) (.bin .mod (.bi .int (.cons (.var 4) .nil)) (.con (.int 6)))))
  .nil))) .nil)
  (.cons (.ite (.cmp .lt (.var 4) (.con (.int 8))) (.cons (.ret (.tup (.cons (.con (.str "block")) (.cons (.fn 29 (.cons (.var 0) (.cons (.var 1) (.cons (.var 2) (.cons (.bin .sub (.var 3) (.con (.int 1))) .nil))))) .nil))))
  .nil) .nil)
  (.cons (.ite (.cmp .eq (.var 4) (.con (.int 8))) (.cons (.ret (.tup (.cons (.con (.str "for")) (.cons (.var 6) (.cons (.fn 29 (.cons (.var 0) (.cons (.var 1) (.cons (.var 2) (.cons (.bin .sub (.var 3) (.con (.int 1))) .nil))))) .nil)))))
  .nil) .nil)
  (.cons (.ite (.cmp .eq (.var 4) (.con (.int 9))) (.cons (.set 10 (.fn 29 (.cons (.var 0) (.cons (.var 1) (.cons (.var 2) (.cons (.bin .sub (.var 3) (.con (.int 1))) .nil))))) false)
  (.cons (.ret (.tup (.cons (.con (.str "try")) (.cons (.var 10) (.cons (.fn 29 (.cons (.var 0) (.cons (.var 1) (.cons (.var 2) (.cons (.bin .sub (.var 3) (.con (.int 1))) .nil))))) .nil)))))
  .nil)) .nil)
  (.cons (.set 11 (.tup (.cons (.con (.str "flag")) (.cons (.var 5) .nil))) false)
  (.cons (.ite (.cmp .gt (.ix (.var 2) (.con (.int 0))) (.con (.int 20))) (.cons (.set 11 (.fn 21 (.cons (.var 0) (.cons (.lst (.cons (.lst (.cons (.con (.int 0)) (.cons (.con (.int 99)) (.cons (.con (.int 0)) (.cons (.con (.int 0)) (.cons (.con (.int 0)) (.cons (.con (.int 99)) .nil))))))) (.cons (.var 1) (.cons (.var 1) (.cons (.var 1) .nil))))) (.cons (.var 1) .nil)))) false)
  .nil) .nil)
  (.cons (.setIx (.var 2) (.con (.int 0)) (.bin .sub (.ix (.var 2) (.con (.int 0))) (.fn 27 (.cons (.var 11) .nil))))
  (.cons (.set 10 (.fn 29 (.cons (.var 0) (.cons (.var 1) (.cons (.var 2) (.cons (.bin .sub (.var 3) (.con (.int 1))) .nil))))) false)
  (.cons (.ite (.cmp .lt (.var 4) (.con (.int 12))) (.cons (.ret (.tup (.cons (.con (.str "while")) (.cons (.var 6) (.cons (.var 11) (.cons (.var 10) .nil))))))
  .nil) .nil)
  (.cons (.set 12 (.tup .nil) false)
  (.cons (.ite (.cmp .lt (.var 4) (.con (.int 15))) (.cons (.set 12 (.fn 29 (.cons (.var 0) (.cons (.var 1) (.cons (.var 2) (.cons (.bin .sub (.var 3) (.con (.int 1))) .nil))))) false)
  .nil) .nil)
  (.cons (.ret (.tup (.cons (.con (.str "if")) (.cons (.var 11) (.cons (.var 10) (.cons (.var 12) .nil))))))
  .nil)))))))))))))))) }
def b29_0 : MSs :=
  (.cons (.ite (.cmp .gt (.ix (.var 2) (.con (.int 0))) (.con (.int 0))) (.cons (.setIx (.var 2) (.con (.int 0)) (.bin .sub (.ix (.var 2) (.con (.int 0))) (.con (.int 1))))
  (.cons (.app 4 (.fn 28 (.cons (.var 0) (.cons (.var 1) (.cons (.var 2) (.cons (.var 3) .nil))))))
  .nil)) .nil)
  .nil)
/-- _law_tree -/
abbrev s29 : Stmt := topS 22
def n29 : List Str := ["tape", "names", "room", "depth", "body", "k"]
def p29 : List Str := ["tape", "names", "room", "depth"]
def d29 : Def := { np := 4, nl := 6, body :=
  (.cons (.set 4 (.lst .nil) true)
  (.cons (.for_ (.nm 5) (.rng (.con (.int 0)) (.ix (.lst (.cons (.con (.int 0)) (.cons (.con (.int 1)) (.cons (.con (.int 1)) (.cons (.con (.int 2)) (.cons (.con (.int 2)) (.cons (.con (.int 3)) .nil))))))) (.fn 5 (.cons (.var 0) (.cons (.con (.int 6)) .nil))))) b29_0)
  (.cons (.ret (.bi .tuple (.cons (.var 4) .nil)))
  .nil))) }
def b30_0 : MSs :=
  (.cons (.set 5 (.ix (.var 1) (.fn 5 (.cons (.var 0) (.cons (.bi .len (.cons (.var 1) .nil)) .nil)))) false)
  (.cons (.set 6 (.ix (.lst (.cons (.tup (.cons (.con (.str "call")) (.cons (.var 5) .nil))) (.cons (.tup (.cons (.con (.str "flag")) (.cons (.var 5) .nil))) .nil))) (.fn 5 (.cons (.var 0) (.cons (.con (.int 2)) .nil)))) false)
  (.cons (.set 7 (.lst (.cons (.tup (.cons (.con (.str "block")) (.cons (.var 2) .nil))) (.cons (.tup (.cons (.con (.str "for")) (.cons (.con .non) (.cons (.var 2) .nil)))) (.cons (.tup (.cons (.con (.str "for")) (.cons (.var 5) (.cons (.var 2) .nil)))) (.cons (.tup (.cons (.con (.str "while")) (.cons (.var 5) (.cons (.var 6) (.cons (.var 2) .nil))))) .nil))))) true)
  (.cons (.set 7 (.bin .add (.var 7) (.lst (.cons (.tup (.cons (.con (.str "if")) (.cons (.var 6) (.cons (.var 2) (.cons (.tup .nil) .nil))))) (.cons (.tup (.cons (.con (.str "if")) (.cons (.var 6) (.cons (.tup .nil) (.cons (.var 2) .nil))))) (.cons (.tup (.cons (.con (.str "try")) (.cons (.var 2) (.cons (.tup .nil) .nil)))) (.cons (.tup (.cons (.con (.str "try")) (.cons (.tup .nil) (.cons (.var 2) .nil)))) .nil)))))) true)
  (.cons (.set 2 (.tup (.cons (.ix (.var 7) (.fn 5 (.cons (.var 0) (.cons (.con (.int 8)) .nil)))) .nil)) false)
  .nil)))))
/-- _law_wrapped -/
abbrev s30 : Stmt := topS 23
def n30 : List Str := ["tape", "names", "body", "many", "k", "name", "leaf", "shells"]
def p30 : List Str := ["tape", "names", "body", "many"]
def d30 : Def := { np := 4, nl := 8, body :=
  (.cons (.for_ (.nm 4) (.rng (.con (.int 0)) (.var 3)) b30_0)
  (.cons (.ret (.var 2))
  .nil)) }
def b31_0 : MSs :=
  (.cons (.ite (.cmp .gt (.ix (.var 3) (.con (.int 0))) (.con (.int 0))) (.cons (.setIx (.var 3) (.con (.int 0)) (.bin .sub (.ix (.var 3) (.con (.int 0))) (.con (.int 1))))
  (.cons (.set 4 (.bin .add (.var 4) (.tup (.cons (.fn 28 (.cons (.var 0) (.cons (.var 1) (.cons (.var 3) (.cons (.con (.int 4)) .nil))))) .nil))) false)
  .nil)) .nil)
  .nil)
/-- _law_any -/
abbrev s31 : Stmt := topS 24
def n31 : List Str := ["tape", "names", "share", "room", "program", "k"]
def p31 : List Str := ["tape", "names"]
def d31 : Def := { np := 2, nl := 6, body :=
  (.cons (.set 2 (.fn 5 (.cons (.var 0) (.cons (.con (.int 8)) .nil))) false)
  (.cons (.set 3 (.lst (.cons (.ix (.lst (.cons (.con (.int 12)) (.cons (.con (.int 30)) (.cons (.con (.int 60)) (.cons (.con (.int 60)) (.cons (.con (.int 60)) (.cons (.con (.int 100)) (.cons (.con (.int 100)) (.cons (.con (.int 150)) .nil))))))))) (.var 2)) .nil)) false)
  (.cons (.set 4 (.fn 29 (.cons (.var 0) (.cons (.var 1) (.cons (.var 3) (.cons (.con (.int 5)) .nil))))) false)
  (.cons (.ite (.cmp .lt (.var 2) (.con (.int 2))) (.cons (.set 4 (.fn 30 (.cons (.var 0) (.cons (.var 1) (.cons (.var 4) (.cons (.fn 5 (.cons (.var 0) (.cons (.con (.int 36)) .nil))) .nil))))) false)
  .nil) .nil)
  (.cons (.for_ (.nm 5) (.rng (.con (.int 0)) (.ix (.lst (.cons (.con (.int 0)) (.cons (.con (.int 0)) (.cons (.con (.int 1)) (.cons (.con (.int 3)) .nil))))) (.fn 5 (.cons (.var 0) (.cons (.con (.int 4)) .nil))))) b31_0)
  (.cons (.ret (.var 4))
  .nil)))))) }
def b93_0 : MSs :=
  (.cons (.set 1 (.fn 93 (.cons (.var 3) .nil)) false)
  (.cons (.ite (.and (.cmp .eq (.ix (.var 0) (.con (.int 0))) (.con (.str "and"))) (.cmp .eq (.ix (.var 3) (.con (.int 0))) (.con (.str "or")))) (.cons (.set 1 (.bin .add (.bin .add (.con (.str "(")) (.var 1)) (.con (.str ")"))) false)
  .nil) .nil)
  (.cons (.app 2 (.var 1))
  .nil)))
/-- _law_shown -/
abbrev s93 : Stmt := topS 25
def n93 : List Str := ["condition", "text", "texts", "part"]
def p93 : List Str := ["condition"]
def d93 : Def := { np := 1, nl := 4, body :=
  (.cons (.ite (.cmp .eq (.ix (.var 0) (.con (.int 0))) (.con (.str "call"))) (.cons (.ret (.bin .add (.ix (.var 0) (.con (.int 1))) (.con (.str "()"))))
  .nil) .nil)
  (.cons (.ite (.cmp .eq (.ix (.var 0) (.con (.int 0))) (.con (.str "flag"))) (.cons (.ret (.ix (.var 0) (.con (.int 1))))
  .nil) .nil)
  (.cons (.ite (.cmp .eq (.ix (.var 0) (.con (.int 0))) (.con (.str "not"))) (.cons (.set 1 (.fn 93 (.cons (.ix (.var 0) (.con (.int 1))) .nil)) false)
  (.cons (.ite (.or (.cmp .eq (.ix (.ix (.var 0) (.con (.int 1))) (.con (.int 0))) (.con (.str "and"))) (.cmp .eq (.ix (.ix (.var 0) (.con (.int 1))) (.con (.int 0))) (.con (.str "or")))) (.cons (.ret (.bin .add (.bin .add (.con (.str "!(")) (.var 1)) (.con (.str ")"))))
  .nil) .nil)
  (.cons (.ret (.bin .add (.con (.str "!")) (.var 1)))
  .nil))) .nil)
  (.cons (.set 2 (.lst .nil) true)
  (.cons (.for_ (.nm 3) (.ix (.var 0) (.con (.int 1))) b93_0)
  (.cons (.ite (.cmp .eq (.ix (.var 0) (.con (.int 0))) (.con (.str "and"))) (.cons (.ret (.mt .join (.con (.str " && ")) (.cons (.var 2) .nil)))
  .nil) .nil)
  (.cons (.ret (.mt .join (.con (.str " || ")) (.cons (.var 2) .nil)))
  .nil))))))) }
/-- _law_simple -/
abbrev s113 : Stmt := topS 26
def n113 : List Str := ["statement"]
def p113 : List Str := ["statement"]
def d113 : Def := { np := 1, nl := 1, body :=
  (.cons (.ite (.cmp .eq (.ix (.var 0) (.con (.int 0))) (.con (.str "call"))) (.cons (.ret (.bin .add (.ix (.var 0) (.con (.int 1))) (.con (.str "();"))))
  .nil) .nil)
  (.cons (.ite (.cmp .eq (.ix (.var 0) (.con (.int 0))) (.con (.str "let"))) (.cons (.ret (.bin .add (.bin .add (.bin .add (.bin .add (.con (.str "let ")) (.ix (.var 0) (.con (.int 1)))) (.con (.str " = "))) (.ix (.lst (.cons (.con (.str "false")) (.cons (.con (.str "true")) .nil))) (.bi .int (.cons (.ix (.var 0) (.con (.int 2))) .nil)))) (.con (.str ";"))))
  .nil) .nil)
  (.cons (.ite (.cmp .eq (.ix (.var 0) (.con (.int 0))) (.con (.str "set"))) (.cons (.ret (.bin .add (.bin .add (.bin .add (.ix (.var 0) (.con (.int 1))) (.con (.str " = "))) (.ix (.lst (.cons (.con (.str "false")) (.cons (.con (.str "true")) .nil))) (.bi .int (.cons (.ix (.var 0) (.con (.int 2))) .nil)))) (.con (.str ";"))))
  .nil) .nil)
  (.cons (.ite (.cmp .isN (.ix (.var 0) (.con (.int 1))) (.con .non)) (.cons (.ret (.bin .add (.ix (.var 0) (.con (.int 0))) (.con (.str ";"))))
  .nil) .nil)
  (.cons (.ret (.bin .add (.bin .add (.bin .add (.ix (.var 0) (.con (.int 0))) (.con (.str " "))) (.bi .str (.cons (.ix (.var 0) (.con (.int 1))) .nil))) (.con (.str ";"))))
  .nil))))) }
def b114_0 : MSs :=
  (.cons (.ite (.cmp .eq (.ix (.var 3) (.con (.int 0))) (.con (.str "if"))) (.cons (.set 2 (.bin .add (.bin .add (.var 2) (.lst (.cons (.bin .add (.bin .add (.bin .add (.var 1) (.con (.str "if ("))) (.fn 93 (.cons (.ix (.var 3) (.con (.int 1))) .nil))) (.con (.str ") {"))) .nil))) (.fn 114 (.cons (.ix (.var 3) (.con (.int 2))) (.cons (.bin .add (.var 1) (.con (.str "  "))) .nil)))) true)
  (.cons (.set 4 (.ix (.var 3) (.con (.int 3))) false)
  (.cons (.ite (.and (.cmp .eq (.bi .len (.cons (.var 4) .nil)) (.con (.int 1))) (.cmp .eq (.ix (.ix (.var 4) (.con (.int 0))) (.con (.int 0))) (.con (.str "if")))) (.cons (.set 5 (.fn 114 (.cons (.var 4) (.cons (.var 1) .nil))) true)
  (.cons (.app 2 (.bin .add (.bin .add (.var 1) (.con (.str "} else "))) (.sl (.ix (.var 5) (.con (.int 0))) (.bi .len (.cons (.var 1) .nil)) (.con .non))))
  (.cons (.set 2 (.bin .add (.var 2) (.sl (.var 5) (.con (.int 1)) (.con .non))) true)
  (.cons .cnt
  .nil)))) .nil)
  (.cons (.ite (.var 4) (.cons (.set 2 (.bin .add (.bin .add (.var 2) (.lst (.cons (.bin .add (.var 1) (.con (.str "} else {"))) .nil))) (.fn 114 (.cons (.var 4) (.cons (.bin .add (.var 1) (.con (.str "  "))) .nil)))) true)
  .nil) .nil)
  .nil)))) (.cons (.ite (.or (.cmp .eq (.ix (.var 3) (.con (.int 0))) (.con (.str "while"))) (.cmp .eq (.ix (.var 3) (.con (.int 0))) (.con (.str "for")))) (.cons (.set 6 (.con (.str "for (;;) {")) true)
  (.cons (.ite (.cmp .eq (.ix (.var 3) (.con (.int 0))) (.con (.str "while"))) (.cons (.set 6 (.bin .add (.bin .add (.con (.str "while (")) (.fn 93 (.cons (.ix (.var 3) (.con (.int 2))) .nil))) (.con (.str ") {"))) true)
  .nil) .nil)
  (.cons (.ite (.cmp .notN (.ix (.var 3) (.con (.int 1))) (.con .non)) (.cons (.set 6 (.bin .add (.bin .add (.ix (.var 3) (.con (.int 1))) (.con (.str ": "))) (.var 6)) true)
  .nil) .nil)
  (.cons (.set 2 (.bin .add (.bin .add (.var 2) (.lst (.cons (.bin .add (.var 1) (.var 6)) .nil))) (.fn 114 (.cons (.ix (.var 3) (.bin .sub (.bi .len (.cons (.var 3) .nil)) (.con (.int 1)))) (.cons (.bin .add (.var 1) (.con (.str "  "))) .nil)))) true)
  .nil)))) (.cons (.ite (.cmp .eq (.ix (.var 3) (.con (.int 0))) (.con (.str "try"))) (.cons (.set 2 (.bin .add (.bin .add (.var 2) (.lst (.cons (.bin .add (.var 1) (.con (.str "try {"))) .nil))) (.fn 114 (.cons (.ix (.var 3) (.con (.int 1))) (.cons (.bin .add (.var 1) (.con (.str "  "))) .nil)))) true)
  (.cons (.set 2 (.bin .add (.bin .add (.var 2) (.lst (.cons (.bin .add (.var 1) (.con (.str "} finally {"))) .nil))) (.fn 114 (.cons (.ix (.var 3) (.con (.int 2))) (.cons (.bin .add (.var 1) (.con (.str "  "))) .nil)))) true)
  .nil)) (.cons (.ite (.cmp .eq (.ix (.var 3) (.con (.int 0))) (.con (.str "block"))) (.cons (.set 2 (.bin .add (.bin .add (.var 2) (.lst (.cons (.bin .add (.var 1) (.con (.str "{"))) .nil))) (.fn 114 (.cons (.ix (.var 3) (.con (.int 1))) (.cons (.bin .add (.var 1) (.con (.str "  "))) .nil)))) true)
  .nil) (.cons (.app 2 (.bin .add (.var 1) (.fn 113 (.cons (.var 3) .nil))))
  (.cons .cnt
  .nil)))
  .nil))
  .nil))
  .nil))
  (.cons (.app 2 (.bin .add (.var 1) (.con (.str "}"))))
  .nil))
/-- _law_lines -/
abbrev s114 : Stmt := topS 27
def n114 : List Str := ["body", "indent", "lines", "statement", "second", "rest", "head"]
def p114 : List Str := ["body", "indent"]
def d114 : Def := { np := 2, nl := 7, body :=
  (.cons (.set 2 (.lst .nil) true)
  (.cons (.for_ (.nm 3) (.var 0) b114_0)
  (.cons (.ret (.var 2))
  .nil))) }
def e115_0 : ME :=
  (.bin .add (.var 1) (.con (.str "\n")))
/-- _law_printed -/
abbrev s115 : Stmt := topS 28
def n115 : List Str := ["program", "line"]
def p115 : List Str := ["program"]
def d115 : Def := { np := 1, nl := 2, body :=
  (.cons (.ret (.mt .join (.con (.str "")) (.cons (.lc e115_0 (.nm 1) (.fn 114 (.cons (.var 0) (.cons (.con (.str "")) .nil))) false (.con (.bl true))) .nil)))
  .nil) }
def b50_0 : MSs :=
  (.cons (.set 4 (.tup (.cons (.ix (.lst (.cons (.con (.str "call")) (.cons (.con (.str "flag")) .nil))) (.fn 5 (.cons (.var 0) (.cons (.con (.int 2)) .nil)))) (.cons (.ix (.var 1) (.fn 5 (.cons (.var 0) (.cons (.bi .len (.cons (.var 1) .nil)) .nil)))) .nil))) false)
  (.cons (.set 5 (.fn 5 (.cons (.var 0) (.cons (.con (.int 6)) .nil))) true)
  (.cons (.ite (.cmp .lt (.var 5) (.con (.int 2))) (.cons (.set 2 (.tup (.cons (.con (.str "not")) (.cons (.var 2) .nil))) false)
  .nil) (.cons (.ite (.cmp .lt (.var 5) (.con (.int 4))) (.cons (.set 2 (.fn 20 (.cons (.ix (.lst (.cons (.con (.str "and")) (.cons (.con (.str "or")) .nil))) (.bin .sub (.var 5) (.con (.int 2)))) (.cons (.var 2) (.cons (.var 4) .nil)))) false)
  .nil) (.cons (.set 2 (.fn 20 (.cons (.ix (.lst (.cons (.con (.str "and")) (.cons (.con (.str "or")) .nil))) (.bin .sub (.var 5) (.con (.int 4)))) (.cons (.var 4) (.cons (.var 2) .nil)))) false)
  .nil))
  .nil))
  .nil)))
/-- _law_great -/
abbrev s50 : Stmt := topS 29
def n50 : List Str := ["tape", "names", "condition", "k", "leaf", "choice"]
def p50 : List Str := ["tape", "names"]
def d50 : Def := { np := 2, nl := 6, body :=
  (.cons (.set 2 (.fn 21 (.cons (.var 0) (.cons (.lst (.cons (.lst (.cons (.con (.int 0)) (.cons (.con (.int 99)) (.cons (.con (.int 0)) (.cons (.con (.int 0)) (.cons (.con (.int 0)) (.cons (.con (.int 99)) .nil))))))) (.cons (.var 1) (.cons (.var 1) (.cons (.var 1) .nil))))) (.cons (.var 1) .nil)))) false)
  (.cons (.for_ (.nm 3) (.rng (.con (.int 0)) (.fn 5 (.cons (.var 0) (.cons (.con (.int 11)) .nil)))) b50_0)
  (.cons (.ret (.var 2))
  .nil))) }
def b0_0 : MSs :=
  (.cons (.set 8 (.ix (.lst (.cons (.tup .nil) (.cons (.tup (.cons (.tup (.cons (.con (.str "break")) (.cons (.con .non) .nil))) .nil)) (.cons (.tup (.cons (.tup (.cons (.con (.str "call")) (.cons (.ix (.var 2) (.con (.int 0))) .nil))) (.cons (.tup (.cons (.con (.str "continue")) (.cons (.ix (.var 2) (.con (.int 0))) .nil))) .nil))) .nil)))) (.fn 5 (.cons (.var 1) (.cons (.con (.int 3)) .nil)))) false)
  (.cons (.set 6 (.tup (.cons (.tup (.cons (.con (.str "if")) (.cons (.tup (.cons (.con (.str "call")) (.cons (.ix (.var 2) (.fn 5 (.cons (.var 1) (.cons (.bi .len (.cons (.var 2) .nil)) .nil)))) .nil))) (.cons (.var 8) (.cons (.var 6) .nil))))) .nil)) false)
  .nil))
/-- law -/
abbrev s0 : Stmt := topS 30
def n0 : List Str := ["script", "tape", "names", "share", "program", "other", "second", "k", "first", "due"]
def p0 : List Str := ["script"]
def d0 : Def := { np := 1, nl := 10, body :=
  (.cons (.set 1 (.fn 4 (.cons (.var 0) .nil)) false)
  (.cons (.set 2 (.fn 6 (.cons (.var 1) (.cons (.bin .add (.con (.int 1)) (.fn 5 (.cons (.var 1) (.cons (.con (.int 4)) .nil)))) .nil))) false)
  (.cons (.set 3 (.fn 5 (.cons (.var 1) (.cons (.con (.int 3)) .nil))) true)
  (.cons (.set 4 (.fn 31 (.cons (.var 1) (.cons (.var 2) .nil))) false)
  (.cons (.ite (.cmp .eq (.var 3) (.con (.int 0))) (.cons (.set 5 (.tup (.cons (.con (.str "if")) (.cons (.tup (.cons (.con (.str "flag")) (.cons (.ix (.var 2) (.con (.int 0))) .nil))) (.cons (.tup (.cons (.tup (.cons (.con (.str "call")) (.cons (.ix (.var 2) (.con (.int 0))) .nil))) .nil)) (.cons (.tup .nil) .nil))))) false)
  (.cons (.set 6 (.ix (.lst (.cons (.tup .nil) (.cons (.tup (.cons (.var 5) (.cons (.tup (.cons (.con (.str "return")) (.cons (.con .non) .nil))) .nil))) (.cons (.tup (.cons (.tup (.cons (.con (.str "block")) (.cons (.tup (.cons (.var 5) .nil)) .nil))) .nil)) (.cons (.tup (.cons (.tup (.cons (.con (.str "let")) (.cons (.ix (.var 2) (.con (.int 0))) (.cons (.con (.bl true)) .nil)))) (.cons (.var 5) .nil))) .nil))))) (.fn 5 (.cons (.var 1) (.cons (.con (.int 4)) .nil)))) false)
  (.cons (.for_ (.nm 7) (.rng (.con (.int 0)) (.bin .add (.con (.int 1)) (.fn 5 (.cons (.var 1) (.cons (.con (.int 9)) .nil))))) b0_0)
  (.cons (.set 4 (.bin .add (.bin .add (.sl (.var 4) (.con .non) (.con (.int 2))) (.var 6)) (.sl (.var 4) (.con (.int 2)) (.con (.int 3)))) false)
  .nil)))) .nil)
  (.cons (.ite (.cmp .eq (.var 3) (.con (.int 1))) (.cons (.set 4 (.bin .add (.var 4) (.tup (.cons (.tup (.cons (.con (.str "while")) (.cons (.ix (.lst (.cons (.con .non) (.cons (.ix (.var 2) (.con (.int 0))) .nil))) (.fn 5 (.cons (.var 1) (.cons (.con (.int 2)) .nil)))) (.cons (.fn 50 (.cons (.var 1) (.cons (.var 2) .nil))) (.cons (.tup .nil) .nil))))) .nil))) false)
  .nil) .nil)
  (.cons (.set 9 (.fn 115 (.cons (.var 4) .nil)) true)
  (.cons (.ret (.and (.cmp .eq (.bi .repr (.cons (.fn 105 (.cons (.var 4) .nil)) .nil)) (.bi .repr (.cons (.var 9) .nil))) (.cmp .eq (.bi .repr (.cons (.fn 105 (.cons (.var 4) .nil)) .nil)) (.bi .repr (.cons (.var 9) .nil)))))
  .nil)))))))) }
def D : Nat → Option Def
  | 105 => some d105
  | 85 => some d85
  | 86 => some d86
  | 106 => some d106
  | 107 => some d107
  | 108 => some d108
  | 109 => some d109
  | 110 => some d110
  | 111 => some d111
  | 112 => some d112
  | 4 => some d4
  | 5 => some d5
  | 6 => some d6
  | 19 => some d19
  | 20 => some d20
  | 21 => some d21
  | 27 => some d27
  | 28 => some d28
  | 29 => some d29
  | 30 => some d30
  | 31 => some d31
  | 93 => some d93
  | 113 => some d113
  | 114 => some d114
  | 115 => some d115
  | 50 => some d50
  | 0 => some d0
  | _ => none
def cs : List (Str × PV) := [("INDENT", (.str "  "))]
def ds : List (Str × List (Str × PV)) := [("SIGNS", [("and", (.str " && ")), ("or", (.str " || "))])]
def bl : List Str := ["abs", "int", "len", "list", "max", "min", "range", "repr", "str", "sum", "tuple"]
def fnm : List (Str × Nat) := [(("show_program" : Str), 105), (("show_condition" : Str), 85), (("_shown_inside" : Str), 86), (("_body_lines" : Str), 106), (("_statement_lines" : Str), 107), (("_braced_lines" : Str), 108), (("_if_lines" : Str), 109), (("_shown_label" : Str), 110), (("_shown_simple" : Str), 111), (("_shown_value" : Str), 112), (("_law_tape" : Str), 4), (("_law_draw" : Str), 5), (("_law_names" : Str), 6), (("_law_leaf" : Str), 19), (("_law_joined" : Str), 20), (("_law_condition" : Str), 21), (("_law_parts" : Str), 27), (("_law_wild" : Str), 28), (("_law_tree" : Str), 29), (("_law_wrapped" : Str), 30), (("_law_any" : Str), 31), (("_law_shown" : Str), 93), (("_law_simple" : Str), 113), (("_law_lines" : Str), 114), (("_law_printed" : Str), 115), (("_law_great" : Str), 50), (("law" : Str), 0)]
theorem sc105 : FnScope n105 p105 (defScope s105) := ⟨rfl, rfl, rfl, by decide +kernel, rfl, by decide +kernel, by decide +kernel⟩
theorem t105 : mSs ⟨n105, defScope s105, fnm, cs, bl, ds⟩ d105.body (defBody s105) = true := by decide +kernel
theorem sc85 : FnScope n85 p85 (defScope s85) := ⟨rfl, rfl, rfl, by decide +kernel, rfl, by decide +kernel, by decide +kernel⟩
theorem t85 : mSs ⟨n85, defScope s85, fnm, cs, bl, ds⟩ d85.body (defBody s85) = true := by decide +kernel
theorem sc86 : FnScope n86 p86 (defScope s86) := ⟨rfl, rfl, rfl, by decide +kernel, rfl, by decide +kernel, by decide +kernel⟩
theorem t86 : mSs ⟨n86, defScope s86, fnm, cs, bl, ds⟩ d86.body (defBody s86) = true := by decide +kernel
theorem sc106 : FnScope n106 p106 (defScope s106) := ⟨rfl, rfl, rfl, by decide +kernel, rfl, by decide +kernel, by decide +kernel⟩
theorem t106 : mSs ⟨n106, defScope s106, fnm, cs, bl, ds⟩ d106.body (defBody s106) = true := by decide +kernel
theorem sc107 : FnScope n107 p107 (defScope s107) := ⟨rfl, rfl, rfl, by decide +kernel, rfl, by decide +kernel, by decide +kernel⟩
theorem t107 : mSs ⟨n107, defScope s107, fnm, cs, bl, ds⟩ d107.body (defBody s107) = true := by decide +kernel
theorem sc108 : FnScope n108 p108 (defScope s108) := ⟨rfl, rfl, rfl, by decide +kernel, rfl, by decide +kernel, by decide +kernel⟩
theorem t108 : mSs ⟨n108, defScope s108, fnm, cs, bl, ds⟩ d108.body (defBody s108) = true := by decide +kernel
theorem sc109 : FnScope n109 p109 (defScope s109) := ⟨rfl, rfl, rfl, by decide +kernel, rfl, by decide +kernel, by decide +kernel⟩
theorem t109 : mSs ⟨n109, defScope s109, fnm, cs, bl, ds⟩ d109.body (defBody s109) = true := by decide +kernel
theorem sc110 : FnScope n110 p110 (defScope s110) := ⟨rfl, rfl, rfl, by decide +kernel, rfl, by decide +kernel, by decide +kernel⟩
theorem t110 : mSs ⟨n110, defScope s110, fnm, cs, bl, ds⟩ d110.body (defBody s110) = true := by decide +kernel
theorem sc111 : FnScope n111 p111 (defScope s111) := ⟨rfl, rfl, rfl, by decide +kernel, rfl, by decide +kernel, by decide +kernel⟩
theorem t111 : mSs ⟨n111, defScope s111, fnm, cs, bl, ds⟩ d111.body (defBody s111) = true := by decide +kernel
theorem sc112 : FnScope n112 p112 (defScope s112) := ⟨rfl, rfl, rfl, by decide +kernel, rfl, by decide +kernel, by decide +kernel⟩
theorem t112 : mSs ⟨n112, defScope s112, fnm, cs, bl, ds⟩ d112.body (defBody s112) = true := by decide +kernel
theorem sc4 : FnScope n4 p4 (defScope s4) := ⟨rfl, rfl, rfl, by decide +kernel, rfl, by decide +kernel, by decide +kernel⟩
theorem t4 : mSs ⟨n4, defScope s4, fnm, cs, bl, ds⟩ d4.body (defBody s4) = true := by decide +kernel
theorem sc5 : FnScope n5 p5 (defScope s5) := ⟨rfl, rfl, rfl, by decide +kernel, rfl, by decide +kernel, by decide +kernel⟩
theorem t5 : mSs ⟨n5, defScope s5, fnm, cs, bl, ds⟩ d5.body (defBody s5) = true := by decide +kernel
theorem sc6 : FnScope n6 p6 (defScope s6) := ⟨rfl, rfl, rfl, by decide +kernel, rfl, by decide +kernel, by decide +kernel⟩
theorem t6 : mSs ⟨n6, defScope s6, fnm, cs, bl, ds⟩ d6.body (defBody s6) = true := by decide +kernel
theorem sc19 : FnScope n19 p19 (defScope s19) := ⟨rfl, rfl, rfl, by decide +kernel, rfl, by decide +kernel, by decide +kernel⟩
theorem t19 : mSs ⟨n19, defScope s19, fnm, cs, bl, ds⟩ d19.body (defBody s19) = true := by decide +kernel
theorem sc20 : FnScope n20 p20 (defScope s20) := ⟨rfl, rfl, rfl, by decide +kernel, rfl, by decide +kernel, by decide +kernel⟩
theorem t20 : mSs ⟨n20, defScope s20, fnm, cs, bl, ds⟩ d20.body (defBody s20) = true := by decide +kernel
theorem sc21 : FnScope n21 p21 (defScope s21) := ⟨rfl, rfl, rfl, by decide +kernel, rfl, by decide +kernel, by decide +kernel⟩
theorem t21 : mSs ⟨n21, defScope s21, fnm, cs, bl, ds⟩ d21.body (defBody s21) = true := by decide +kernel
theorem sc27 : FnScope n27 p27 (defScope s27) := ⟨rfl, rfl, rfl, by decide +kernel, rfl, by decide +kernel, by decide +kernel⟩
theorem t27 : mSs ⟨n27, defScope s27, fnm, cs, bl, ds⟩ d27.body (defBody s27) = true := by decide +kernel
theorem sc28 : FnScope n28 p28 (defScope s28) := ⟨rfl, rfl, rfl, by decide +kernel, rfl, by decide +kernel, by decide +kernel⟩
theorem t28 : mSs ⟨n28, defScope s28, fnm, cs, bl, ds⟩ d28.body (defBody s28) = true := by decide +kernel
theorem sc29 : FnScope n29 p29 (defScope s29) := ⟨rfl, rfl, rfl, by decide +kernel, rfl, by decide +kernel, by decide +kernel⟩
theorem t29 : mSs ⟨n29, defScope s29, fnm, cs, bl, ds⟩ d29.body (defBody s29) = true := by decide +kernel
theorem sc30 : FnScope n30 p30 (defScope s30) := ⟨rfl, rfl, rfl, by decide +kernel, rfl, by decide +kernel, by decide +kernel⟩
theorem t30 : mSs ⟨n30, defScope s30, fnm, cs, bl, ds⟩ d30.body (defBody s30) = true := by decide +kernel
theorem sc31 : FnScope n31 p31 (defScope s31) := ⟨rfl, rfl, rfl, by decide +kernel, rfl, by decide +kernel, by decide +kernel⟩
theorem t31 : mSs ⟨n31, defScope s31, fnm, cs, bl, ds⟩ d31.body (defBody s31) = true := by decide +kernel
theorem sc93 : FnScope n93 p93 (defScope s93) := ⟨rfl, rfl, rfl, by decide +kernel, rfl, by decide +kernel, by decide +kernel⟩
theorem t93 : mSs ⟨n93, defScope s93, fnm, cs, bl, ds⟩ d93.body (defBody s93) = true := by decide +kernel
theorem sc113 : FnScope n113 p113 (defScope s113) := ⟨rfl, rfl, rfl, by decide +kernel, rfl, by decide +kernel, by decide +kernel⟩
theorem t113 : mSs ⟨n113, defScope s113, fnm, cs, bl, ds⟩ d113.body (defBody s113) = true := by decide +kernel
theorem sc114 : FnScope n114 p114 (defScope s114) := ⟨rfl, rfl, rfl, by decide +kernel, rfl, by decide +kernel, by decide +kernel⟩
theorem t114 : mSs ⟨n114, defScope s114, fnm, cs, bl, ds⟩ d114.body (defBody s114) = true := by decide +kernel
theorem sc115 : FnScope n115 p115 (defScope s115) := ⟨rfl, rfl, rfl, by decide +kernel, rfl, by decide +kernel, by decide +kernel⟩
theorem t115 : mSs ⟨n115, defScope s115, fnm, cs, bl, ds⟩ d115.body (defBody s115) = true := by decide +kernel
theorem sc50 : FnScope n50 p50 (defScope s50) := ⟨rfl, rfl, rfl, by decide +kernel, rfl, by decide +kernel, by decide +kernel⟩
theorem t50 : mSs ⟨n50, defScope s50, fnm, cs, bl, ds⟩ d50.body (defBody s50) = true := by decide +kernel
theorem sc0 : FnScope n0 p0 (defScope s0) := ⟨rfl, rfl, rfl, by decide +kernel, rfl, by decide +kernel, by decide +kernel⟩
theorem t0 : mSs ⟨n0, defScope s0, fnm, cs, bl, ds⟩ d0.body (defBody s0) = true := by decide +kernel
section
variable {w : World} {K : PySem.W.Frag} {h : Heap} {mg : Str → Option Value} {fa : Addr}
theorem all_mk (X : K.In h) (G : h.Ns mainGlobals mg) (hfa : mg "law" = some (.ref fa))
    {f105 : Addr} {oc105 kV105 dc105 pm105 cd105 ct105 : Value} {od105 an105 : Option Addr} {sl105 : Array (Option Value)}
    {f85 : Addr} {oc85 kV85 dc85 pm85 cd85 ct85 : Value} {od85 an85 : Option Addr} {sl85 : Array (Option Value)}
    {f86 : Addr} {oc86 kV86 dc86 pm86 cd86 ct86 : Value} {od86 an86 : Option Addr} {sl86 : Array (Option Value)}
    {f106 : Addr} {oc106 kV106 dc106 pm106 cd106 ct106 : Value} {od106 an106 : Option Addr} {sl106 : Array (Option Value)}
    {f107 : Addr} {oc107 kV107 dc107 pm107 cd107 ct107 : Value} {od107 an107 : Option Addr} {sl107 : Array (Option Value)}
    {f108 : Addr} {oc108 kV108 dc108 pm108 cd108 ct108 : Value} {od108 an108 : Option Addr} {sl108 : Array (Option Value)}
    {f109 : Addr} {oc109 kV109 dc109 pm109 cd109 ct109 : Value} {od109 an109 : Option Addr} {sl109 : Array (Option Value)}
    {f110 : Addr} {oc110 kV110 dc110 pm110 cd110 ct110 : Value} {od110 an110 : Option Addr} {sl110 : Array (Option Value)}
    {f111 : Addr} {oc111 kV111 dc111 pm111 cd111 ct111 : Value} {od111 an111 : Option Addr} {sl111 : Array (Option Value)}
    {f112 : Addr} {oc112 kV112 dc112 pm112 cd112 ct112 : Value} {od112 an112 : Option Addr} {sl112 : Array (Option Value)}
    {f4 : Addr} {oc4 kV4 dc4 pm4 cd4 ct4 : Value} {od4 an4 : Option Addr} {sl4 : Array (Option Value)}
    {f5 : Addr} {oc5 kV5 dc5 pm5 cd5 ct5 : Value} {od5 an5 : Option Addr} {sl5 : Array (Option Value)}
    {f6 : Addr} {oc6 kV6 dc6 pm6 cd6 ct6 : Value} {od6 an6 : Option Addr} {sl6 : Array (Option Value)}
    {f19 : Addr} {oc19 kV19 dc19 pm19 cd19 ct19 : Value} {od19 an19 : Option Addr} {sl19 : Array (Option Value)}
    {f20 : Addr} {oc20 kV20 dc20 pm20 cd20 ct20 : Value} {od20 an20 : Option Addr} {sl20 : Array (Option Value)}
    {f21 : Addr} {oc21 kV21 dc21 pm21 cd21 ct21 : Value} {od21 an21 : Option Addr} {sl21 : Array (Option Value)}
    {f27 : Addr} {oc27 kV27 dc27 pm27 cd27 ct27 : Value} {od27 an27 : Option Addr} {sl27 : Array (Option Value)}
    {f28 : Addr} {oc28 kV28 dc28 pm28 cd28 ct28 : Value} {od28 an28 : Option Addr} {sl28 : Array (Option Value)}
    {f29 : Addr} {oc29 kV29 dc29 pm29 cd29 ct29 : Value} {od29 an29 : Option Addr} {sl29 : Array (Option Value)}
    {f30 : Addr} {oc30 kV30 dc30 pm30 cd30 ct30 : Value} {od30 an30 : Option Addr} {sl30 : Array (Option Value)}
    {f31 : Addr} {oc31 kV31 dc31 pm31 cd31 ct31 : Value} {od31 an31 : Option Addr} {sl31 : Array (Option Value)}
    {f93 : Addr} {oc93 kV93 dc93 pm93 cd93 ct93 : Value} {od93 an93 : Option Addr} {sl93 : Array (Option Value)}
    {f113 : Addr} {oc113 kV113 dc113 pm113 cd113 ct113 : Value} {od113 an113 : Option Addr} {sl113 : Array (Option Value)}
    {f114 : Addr} {oc114 kV114 dc114 pm114 cd114 ct114 : Value} {od114 an114 : Option Addr} {sl114 : Array (Option Value)}
    {f115 : Addr} {oc115 kV115 dc115 pm115 cd115 ct115 : Value} {od115 an115 : Option Addr} {sl115 : Array (Option Value)}
    {f50 : Addr} {oc50 kV50 dc50 pm50 cd50 ct50 : Value} {od50 an50 : Option Addr} {sl50 : Array (Option Value)}
    {f0 : Addr} {oc0 kV0 dc0 pm0 cd0 ct0 : Value} {od0 an0 : Option Addr} {sl0 : Array (Option Value)}
    {ct_0 : Tok}
    {da_0 : Addr} {de_0 : Array DictEntry} {dn_0 : Nat}
    (a105 : PySem.W.nsIn K mainGlobals "show_program" = some (some (.ref f105))) (l105 : K.lookup f105 = some ⟨oc105, od105, .func (PySem.W.fnOf "show_program" "show_program" (defArgs s105) (defBody s105) (defScope s105) .none kV105 dc105 pm105 an105 cd105 ct105), sl105⟩) (c105 : PySem.W.codeIn K cd105 "show_program" = true) (k105 : PySem.W.keepIn K (.ref f105) = true)
    (a85 : PySem.W.nsIn K mainGlobals "show_condition" = some (some (.ref f85))) (l85 : K.lookup f85 = some ⟨oc85, od85, .func (PySem.W.fnOf "show_condition" "show_condition" (defArgs s85) (defBody s85) (defScope s85) .none kV85 dc85 pm85 an85 cd85 ct85), sl85⟩) (c85 : PySem.W.codeIn K cd85 "show_condition" = true) (k85 : PySem.W.keepIn K (.ref f85) = true)
    (a86 : PySem.W.nsIn K mainGlobals "_shown_inside" = some (some (.ref f86))) (l86 : K.lookup f86 = some ⟨oc86, od86, .func (PySem.W.fnOf "_shown_inside" "_shown_inside" (defArgs s86) (defBody s86) (defScope s86) .none kV86 dc86 pm86 an86 cd86 ct86), sl86⟩) (c86 : PySem.W.codeIn K cd86 "_shown_inside" = true) (k86 : PySem.W.keepIn K (.ref f86) = true)
    (a106 : PySem.W.nsIn K mainGlobals "_body_lines" = some (some (.ref f106))) (l106 : K.lookup f106 = some ⟨oc106, od106, .func (PySem.W.fnOf "_body_lines" "_body_lines" (defArgs s106) (defBody s106) (defScope s106) .none kV106 dc106 pm106 an106 cd106 ct106), sl106⟩) (c106 : PySem.W.codeIn K cd106 "_body_lines" = true) (k106 : PySem.W.keepIn K (.ref f106) = true)
    (a107 : PySem.W.nsIn K mainGlobals "_statement_lines" = some (some (.ref f107))) (l107 : K.lookup f107 = some ⟨oc107, od107, .func (PySem.W.fnOf "_statement_lines" "_statement_lines" (defArgs s107) (defBody s107) (defScope s107) .none kV107 dc107 pm107 an107 cd107 ct107), sl107⟩) (c107 : PySem.W.codeIn K cd107 "_statement_lines" = true) (k107 : PySem.W.keepIn K (.ref f107) = true)
    (a108 : PySem.W.nsIn K mainGlobals "_braced_lines" = some (some (.ref f108))) (l108 : K.lookup f108 = some ⟨oc108, od108, .func (PySem.W.fnOf "_braced_lines" "_braced_lines" (defArgs s108) (defBody s108) (defScope s108) .none kV108 dc108 pm108 an108 cd108 ct108), sl108⟩) (c108 : PySem.W.codeIn K cd108 "_braced_lines" = true) (k108 : PySem.W.keepIn K (.ref f108) = true)
    (a109 : PySem.W.nsIn K mainGlobals "_if_lines" = some (some (.ref f109))) (l109 : K.lookup f109 = some ⟨oc109, od109, .func (PySem.W.fnOf "_if_lines" "_if_lines" (defArgs s109) (defBody s109) (defScope s109) .none kV109 dc109 pm109 an109 cd109 ct109), sl109⟩) (c109 : PySem.W.codeIn K cd109 "_if_lines" = true) (k109 : PySem.W.keepIn K (.ref f109) = true)
    (a110 : PySem.W.nsIn K mainGlobals "_shown_label" = some (some (.ref f110))) (l110 : K.lookup f110 = some ⟨oc110, od110, .func (PySem.W.fnOf "_shown_label" "_shown_label" (defArgs s110) (defBody s110) (defScope s110) .none kV110 dc110 pm110 an110 cd110 ct110), sl110⟩) (c110 : PySem.W.codeIn K cd110 "_shown_label" = true) (k110 : PySem.W.keepIn K (.ref f110) = true)
    (a111 : PySem.W.nsIn K mainGlobals "_shown_simple" = some (some (.ref f111))) (l111 : K.lookup f111 = some ⟨oc111, od111, .func (PySem.W.fnOf "_shown_simple" "_shown_simple" (defArgs s111) (defBody s111) (defScope s111) .none kV111 dc111 pm111 an111 cd111 ct111), sl111⟩) (c111 : PySem.W.codeIn K cd111 "_shown_simple" = true) (k111 : PySem.W.keepIn K (.ref f111) = true)
    (a112 : PySem.W.nsIn K mainGlobals "_shown_value" = some (some (.ref f112))) (l112 : K.lookup f112 = some ⟨oc112, od112, .func (PySem.W.fnOf "_shown_value" "_shown_value" (defArgs s112) (defBody s112) (defScope s112) .none kV112 dc112 pm112 an112 cd112 ct112), sl112⟩) (c112 : PySem.W.codeIn K cd112 "_shown_value" = true) (k112 : PySem.W.keepIn K (.ref f112) = true)
    (a4 : PySem.W.nsIn K mainGlobals "_law_tape" = some (some (.ref f4))) (l4 : K.lookup f4 = some ⟨oc4, od4, .func (PySem.W.fnOf "_law_tape" "_law_tape" (defArgs s4) (defBody s4) (defScope s4) .none kV4 dc4 pm4 an4 cd4 ct4), sl4⟩) (c4 : PySem.W.codeIn K cd4 "_law_tape" = true) (k4 : PySem.W.keepIn K (.ref f4) = true)
    (a5 : PySem.W.nsIn K mainGlobals "_law_draw" = some (some (.ref f5))) (l5 : K.lookup f5 = some ⟨oc5, od5, .func (PySem.W.fnOf "_law_draw" "_law_draw" (defArgs s5) (defBody s5) (defScope s5) .none kV5 dc5 pm5 an5 cd5 ct5), sl5⟩) (c5 : PySem.W.codeIn K cd5 "_law_draw" = true) (k5 : PySem.W.keepIn K (.ref f5) = true)
    (a6 : PySem.W.nsIn K mainGlobals "_law_names" = some (some (.ref f6))) (l6 : K.lookup f6 = some ⟨oc6, od6, .func (PySem.W.fnOf "_law_names" "_law_names" (defArgs s6) (defBody s6) (defScope s6) .none kV6 dc6 pm6 an6 cd6 ct6), sl6⟩) (c6 : PySem.W.codeIn K cd6 "_law_names" = true) (k6 : PySem.W.keepIn K (.ref f6) = true)
    (a19 : PySem.W.nsIn K mainGlobals "_law_leaf" = some (some (.ref f19))) (l19 : K.lookup f19 = some ⟨oc19, od19, .func (PySem.W.fnOf "_law_leaf" "_law_leaf" (defArgs s19) (defBody s19) (defScope s19) .none kV19 dc19 pm19 an19 cd19 ct19), sl19⟩) (c19 : PySem.W.codeIn K cd19 "_law_leaf" = true) (k19 : PySem.W.keepIn K (.ref f19) = true)
    (a20 : PySem.W.nsIn K mainGlobals "_law_joined" = some (some (.ref f20))) (l20 : K.lookup f20 = some ⟨oc20, od20, .func (PySem.W.fnOf "_law_joined" "_law_joined" (defArgs s20) (defBody s20) (defScope s20) .none kV20 dc20 pm20 an20 cd20 ct20), sl20⟩) (c20 : PySem.W.codeIn K cd20 "_law_joined" = true) (k20 : PySem.W.keepIn K (.ref f20) = true)
    (a21 : PySem.W.nsIn K mainGlobals "_law_condition" = some (some (.ref f21))) (l21 : K.lookup f21 = some ⟨oc21, od21, .func (PySem.W.fnOf "_law_condition" "_law_condition" (defArgs s21) (defBody s21) (defScope s21) .none kV21 dc21 pm21 an21 cd21 ct21), sl21⟩) (c21 : PySem.W.codeIn K cd21 "_law_condition" = true) (k21 : PySem.W.keepIn K (.ref f21) = true)
    (a27 : PySem.W.nsIn K mainGlobals "_law_parts" = some (some (.ref f27))) (l27 : K.lookup f27 = some ⟨oc27, od27, .func (PySem.W.fnOf "_law_parts" "_law_parts" (defArgs s27) (defBody s27) (defScope s27) .none kV27 dc27 pm27 an27 cd27 ct27), sl27⟩) (c27 : PySem.W.codeIn K cd27 "_law_parts" = true) (k27 : PySem.W.keepIn K (.ref f27) = true)
    (a28 : PySem.W.nsIn K mainGlobals "_law_wild" = some (some (.ref f28))) (l28 : K.lookup f28 = some ⟨oc28, od28, .func (PySem.W.fnOf "_law_wild" "_law_wild" (defArgs s28) (defBody s28) (defScope s28) .none kV28 dc28 pm28 an28 cd28 ct28), sl28⟩) (c28 : PySem.W.codeIn K cd28 "_law_wild" = true) (k28 : PySem.W.keepIn K (.ref f28) = true)
    (a29 : PySem.W.nsIn K mainGlobals "_law_tree" = some (some (.ref f29))) (l29 : K.lookup f29 = some ⟨oc29, od29, .func (PySem.W.fnOf "_law_tree" "_law_tree" (defArgs s29) (defBody s29) (defScope s29) .none kV29 dc29 pm29 an29 cd29 ct29), sl29⟩) (c29 : PySem.W.codeIn K cd29 "_law_tree" = true) (k29 : PySem.W.keepIn K (.ref f29) = true)
    (a30 : PySem.W.nsIn K mainGlobals "_law_wrapped" = some (some (.ref f30))) (l30 : K.lookup f30 = some ⟨oc30, od30, .func (PySem.W.fnOf "_law_wrapped" "_law_wrapped" (defArgs s30) (defBody s30) (defScope s30) .none kV30 dc30 pm30 an30 cd30 ct30), sl30⟩) (c30 : PySem.W.codeIn K cd30 "_law_wrapped" = true) (k30 : PySem.W.keepIn K (.ref f30) = true)
    (a31 : PySem.W.nsIn K mainGlobals "_law_any" = some (some (.ref f31))) (l31 : K.lookup f31 = some ⟨oc31, od31, .func (PySem.W.fnOf "_law_any" "_law_any" (defArgs s31) (defBody s31) (defScope s31) .none kV31 dc31 pm31 an31 cd31 ct31), sl31⟩) (c31 : PySem.W.codeIn K cd31 "_law_any" = true) (k31 : PySem.W.keepIn K (.ref f31) = true)
    (a93 : PySem.W.nsIn K mainGlobals "_law_shown" = some (some (.ref f93))) (l93 : K.lookup f93 = some ⟨oc93, od93, .func (PySem.W.fnOf "_law_shown" "_law_shown" (defArgs s93) (defBody s93) (defScope s93) .none kV93 dc93 pm93 an93 cd93 ct93), sl93⟩) (c93 : PySem.W.codeIn K cd93 "_law_shown" = true) (k93 : PySem.W.keepIn K (.ref f93) = true)
    (a113 : PySem.W.nsIn K mainGlobals "_law_simple" = some (some (.ref f113))) (l113 : K.lookup f113 = some ⟨oc113, od113, .func (PySem.W.fnOf "_law_simple" "_law_simple" (defArgs s113) (defBody s113) (defScope s113) .none kV113 dc113 pm113 an113 cd113 ct113), sl113⟩) (c113 : PySem.W.codeIn K cd113 "_law_simple" = true) (k113 : PySem.W.keepIn K (.ref f113) = true)
    (a114 : PySem.W.nsIn K mainGlobals "_law_lines" = some (some (.ref f114))) (l114 : K.lookup f114 = some ⟨oc114, od114, .func (PySem.W.fnOf "_law_lines" "_law_lines" (defArgs s114) (defBody s114) (defScope s114) .none kV114 dc114 pm114 an114 cd114 ct114), sl114⟩) (c114 : PySem.W.codeIn K cd114 "_law_lines" = true) (k114 : PySem.W.keepIn K (.ref f114) = true)
    (a115 : PySem.W.nsIn K mainGlobals "_law_printed" = some (some (.ref f115))) (l115 : K.lookup f115 = some ⟨oc115, od115, .func (PySem.W.fnOf "_law_printed" "_law_printed" (defArgs s115) (defBody s115) (defScope s115) .none kV115 dc115 pm115 an115 cd115 ct115), sl115⟩) (c115 : PySem.W.codeIn K cd115 "_law_printed" = true) (k115 : PySem.W.keepIn K (.ref f115) = true)
    (a50 : PySem.W.nsIn K mainGlobals "_law_great" = some (some (.ref f50))) (l50 : K.lookup f50 = some ⟨oc50, od50, .func (PySem.W.fnOf "_law_great" "_law_great" (defArgs s50) (defBody s50) (defScope s50) .none kV50 dc50 pm50 an50 cd50 ct50), sl50⟩) (c50 : PySem.W.codeIn K cd50 "_law_great" = true) (k50 : PySem.W.keepIn K (.ref f50) = true)
    (a0 : PySem.W.nsIn K mainGlobals "law" = some (some (.ref f0))) (l0 : K.lookup f0 = some ⟨oc0, od0, .func (PySem.W.fnOf "law" "law" (defArgs s0) (defBody s0) (defScope s0) .none kV0 dc0 pm0 an0 cd0 ct0), sl0⟩) (c0 : PySem.W.codeIn K cd0 "law" = true) (k0 : PySem.W.keepIn K (.ref f0) = true)
    (q0 : PySem.W.nsIn K mainGlobals "INDENT" = some (some (.str "  " ct_0)))
    (dg0 : PySem.W.nsIn K mainGlobals "SIGNS" = some (some (.ref da_0))) (dl0 : K.lookup da_0 = some ⟨.type "dict", none, .dict de_0 dn_0, #[]⟩) (di0 : PySem.W.KeysLit w.params de_0.toList) (dj0 : (da_0 == sysModules) = false) (dm0 : DRel de_0.toList [("and", (.str " && ")), ("or", (.str " || "))])
    (b0 : PySem.W.nsIn K mainGlobals "abs" = some none)
    (b1 : PySem.W.nsIn K mainGlobals "int" = some none)
    (b2 : PySem.W.nsIn K mainGlobals "len" = some none)
    (b3 : PySem.W.nsIn K mainGlobals "list" = some none)
    (b4 : PySem.W.nsIn K mainGlobals "max" = some none)
    (b5 : PySem.W.nsIn K mainGlobals "min" = some none)
    (b6 : PySem.W.nsIn K mainGlobals "range" = some none)
    (b7 : PySem.W.nsIn K mainGlobals "repr" = some none)
    (b8 : PySem.W.nsIn K mainGlobals "str" = some none)
    (b9 : PySem.W.nsIn K mainGlobals "sum" = some none)
    (b10 : PySem.W.nsIn K mainGlobals "tuple" = some none) :
    ∃ fd : FuncData, (∀ (s : Shared) (v : Value), BindsTo s fd ⟨[v], []⟩ [("script", v)]) ∧ ∀ base : Heap, K.In base → base.Ns mainGlobals mg → FnOk PySem.Challenge.rw_flowform_k13_printed_programs.prog w K mg base CX0 DEEP fa fd ["script"] (spEv K (evCall TURNS D DEEP 0)) := by
  have e := hfa.symm.trans (PySem.W.mg_of X G a0)
  cases e
  refine ⟨(PySem.W.fnOf "law" "law" (defArgs s0) (defBody s0) (defScope s0) .none kV0 dc0 pm0 an0 cd0 ct0), fun s v => .of_eq rfl, fun base _ _ => ?_⟩
  let es : List Ent := [⟨"show_program", 105, f105, (PySem.W.fnOf "show_program" "show_program" (defArgs s105) (defBody s105) (defScope s105) .none kV105 dc105 pm105 an105 cd105 ct105), s105, n105, p105, d105⟩, ⟨"show_condition", 85, f85, (PySem.W.fnOf "show_condition" "show_condition" (defArgs s85) (defBody s85) (defScope s85) .none kV85 dc85 pm85 an85 cd85 ct85), s85, n85, p85, d85⟩, ⟨"_shown_inside", 86, f86, (PySem.W.fnOf "_shown_inside" "_shown_inside" (defArgs s86) (defBody s86) (defScope s86) .none kV86 dc86 pm86 an86 cd86 ct86), s86, n86, p86, d86⟩, ⟨"_body_lines", 106, f106, (PySem.W.fnOf "_body_lines" "_body_lines" (defArgs s106) (defBody s106) (defScope s106) .none kV106 dc106 pm106 an106 cd106 ct106), s106, n106, p106, d106⟩, ⟨"_statement_lines", 107, f107, (PySem.W.fnOf "_statement_lines" "_statement_lines" (defArgs s107) (defBody s107) (defScope s107) .none kV107 dc107 pm107 an107 cd107 ct107), s107, n107, p107, d107⟩, ⟨"_braced_lines", 108, f108, (PySem.W.fnOf "_braced_lines" "_braced_lines" (defArgs s108) (defBody s108) (defScope s108) .none kV108 dc108 pm108 an108 cd108 ct108), s108, n108, p108, d108⟩, ⟨"_if_lines", 109, f109, (PySem.W.fnOf "_if_lines" "_if_lines" (defArgs s109) (defBody s109) (defScope s109) .none kV109 dc109 pm109 an109 cd109 ct109), s109, n109, p109, d109⟩, ⟨"_shown_label", 110, f110, (PySem.W.fnOf "_shown_label" "_shown_label" (defArgs s110) (defBody s110) (defScope s110) .none kV110 dc110 pm110 an110 cd110 ct110), s110, n110, p110, d110⟩, ⟨"_shown_simple", 111, f111, (PySem.W.fnOf "_shown_simple" "_shown_simple" (defArgs s111) (defBody s111) (defScope s111) .none kV111 dc111 pm111 an111 cd111 ct111), s111, n111, p111, d111⟩, ⟨"_shown_value", 112, f112, (PySem.W.fnOf "_shown_value" "_shown_value" (defArgs s112) (defBody s112) (defScope s112) .none kV112 dc112 pm112 an112 cd112 ct112), s112, n112, p112, d112⟩, ⟨"_law_tape", 4, f4, (PySem.W.fnOf "_law_tape" "_law_tape" (defArgs s4) (defBody s4) (defScope s4) .none kV4 dc4 pm4 an4 cd4 ct4), s4, n4, p4, d4⟩, ⟨"_law_draw", 5, f5, (PySem.W.fnOf "_law_draw" "_law_draw" (defArgs s5) (defBody s5) (defScope s5) .none kV5 dc5 pm5 an5 cd5 ct5), s5, n5, p5, d5⟩, ⟨"_law_names", 6, f6, (PySem.W.fnOf "_law_names" "_law_names" (defArgs s6) (defBody s6) (defScope s6) .none kV6 dc6 pm6 an6 cd6 ct6), s6, n6, p6, d6⟩, ⟨"_law_leaf", 19, f19, (PySem.W.fnOf "_law_leaf" "_law_leaf" (defArgs s19) (defBody s19) (defScope s19) .none kV19 dc19 pm19 an19 cd19 ct19), s19, n19, p19, d19⟩, ⟨"_law_joined", 20, f20, (PySem.W.fnOf "_law_joined" "_law_joined" (defArgs s20) (defBody s20) (defScope s20) .none kV20 dc20 pm20 an20 cd20 ct20), s20, n20, p20, d20⟩, ⟨"_law_condition", 21, f21, (PySem.W.fnOf "_law_condition" "_law_condition" (defArgs s21) (defBody s21) (defScope s21) .none kV21 dc21 pm21 an21 cd21 ct21), s21, n21, p21, d21⟩, ⟨"_law_parts", 27, f27, (PySem.W.fnOf "_law_parts" "_law_parts" (defArgs s27) (defBody s27) (defScope s27) .none kV27 dc27 pm27 an27 cd27 ct27), s27, n27, p27, d27⟩, ⟨"_law_wild", 28, f28, (PySem.W.fnOf "_law_wild" "_law_wild" (defArgs s28) (defBody s28) (defScope s28) .none kV28 dc28 pm28 an28 cd28 ct28), s28, n28, p28, d28⟩, ⟨"_law_tree", 29, f29, (PySem.W.fnOf "_law_tree" "_law_tree" (defArgs s29) (defBody s29) (defScope s29) .none kV29 dc29 pm29 an29 cd29 ct29), s29, n29, p29, d29⟩, ⟨"_law_wrapped", 30, f30, (PySem.W.fnOf "_law_wrapped" "_law_wrapped" (defArgs s30) (defBody s30) (defScope s30) .none kV30 dc30 pm30 an30 cd30 ct30), s30, n30, p30, d30⟩, ⟨"_law_any", 31, f31, (PySem.W.fnOf "_law_any" "_law_any" (defArgs s31) (defBody s31) (defScope s31) .none kV31 dc31 pm31 an31 cd31 ct31), s31, n31, p31, d31⟩, ⟨"_law_shown", 93, f93, (PySem.W.fnOf "_law_shown" "_law_shown" (defArgs s93) (defBody s93) (defScope s93) .none kV93 dc93 pm93 an93 cd93 ct93), s93, n93, p93, d93⟩, ⟨"_law_simple", 113, f113, (PySem.W.fnOf "_law_simple" "_law_simple" (defArgs s113) (defBody s113) (defScope s113) .none kV113 dc113 pm113 an113 cd113 ct113), s113, n113, p113, d113⟩, ⟨"_law_lines", 114, f114, (PySem.W.fnOf "_law_lines" "_law_lines" (defArgs s114) (defBody s114) (defScope s114) .none kV114 dc114 pm114 an114 cd114 ct114), s114, n114, p114, d114⟩, ⟨"_law_printed", 115, f115, (PySem.W.fnOf "_law_printed" "_law_printed" (defArgs s115) (defBody s115) (defScope s115) .none kV115 dc115 pm115 an115 cd115 ct115), s115, n115, p115, d115⟩, ⟨"_law_great", 50, f50, (PySem.W.fnOf "_law_great" "_law_great" (defArgs s50) (defBody s50) (defScope s50) .none kV50 dc50 pm50 an50 cd50 ct50), s50, n50, p50, d50⟩, ⟨"law", 0, fa, (PySem.W.fnOf "law" "law" (defArgs s0) (defBody s0) (defScope s0) .none kV0 dc0 pm0 an0 cd0 ct0), s0, n0, p0, d0⟩]
  have P : ProgOk ⟨PySem.Challenge.rw_flowform_k13_printed_programs.prog, w, K, mg, base⟩ D es cs bl ds := by
    refine ⟨fun e he => ?_, fun x v hx => ?_, fun x hx => ?_, fun x kvs hx => ?_⟩
    · have E : es.map Ent.pair = fnm := rfl
      rw [E]
      simp only [es, List.mem_cons, List.not_mem_nil, or_false] at he
      rcases he with rfl | rfl | rfl | rfl | rfl | rfl | rfl | rfl | rfl | rfl | rfl | rfl | rfl | rfl | rfl | rfl | rfl | rfl | rfl | rfl | rfl | rfl | rfl | rfl | rfl | rfl | rfl
      · have F := fun_at l105 c105 k105
        exact ⟨PySem.W.mg_of X G a105, F, F.binds (ps := p105) fun _ _ _ _ _ _ us hl => match us, hl with | [_], _ => rfl, sc105, rfl, rfl, rfl, t105⟩
      · have F := fun_at l85 c85 k85
        exact ⟨PySem.W.mg_of X G a85, F, F.binds (ps := p85) fun _ _ _ _ _ _ us hl => match us, hl with | [_], _ => rfl, sc85, rfl, rfl, rfl, t85⟩
      · have F := fun_at l86 c86 k86
        exact ⟨PySem.W.mg_of X G a86, F, F.binds (ps := p86) fun _ _ _ _ _ _ us hl => match us, hl with | [_, _], _ => rfl, sc86, rfl, rfl, rfl, t86⟩
      · have F := fun_at l106 c106 k106
        exact ⟨PySem.W.mg_of X G a106, F, F.binds (ps := p106) fun _ _ _ _ _ _ us hl => match us, hl with | [_, _], _ => rfl, sc106, rfl, rfl, rfl, t106⟩
      · have F := fun_at l107 c107 k107
        exact ⟨PySem.W.mg_of X G a107, F, F.binds (ps := p107) fun _ _ _ _ _ _ us hl => match us, hl with | [_, _], _ => rfl, sc107, rfl, rfl, rfl, t107⟩
      · have F := fun_at l108 c108 k108
        exact ⟨PySem.W.mg_of X G a108, F, F.binds (ps := p108) fun _ _ _ _ _ _ us hl => match us, hl with | [_, _, _], _ => rfl, sc108, rfl, rfl, rfl, t108⟩
      · have F := fun_at l109 c109 k109
        exact ⟨PySem.W.mg_of X G a109, F, F.binds (ps := p109) fun _ _ _ _ _ _ us hl => match us, hl with | [_, _], _ => rfl, sc109, rfl, rfl, rfl, t109⟩
      · have F := fun_at l110 c110 k110
        exact ⟨PySem.W.mg_of X G a110, F, F.binds (ps := p110) fun _ _ _ _ _ _ us hl => match us, hl with | [_], _ => rfl, sc110, rfl, rfl, rfl, t110⟩
      · have F := fun_at l111 c111 k111
        exact ⟨PySem.W.mg_of X G a111, F, F.binds (ps := p111) fun _ _ _ _ _ _ us hl => match us, hl with | [_], _ => rfl, sc111, rfl, rfl, rfl, t111⟩
      · have F := fun_at l112 c112 k112
        exact ⟨PySem.W.mg_of X G a112, F, F.binds (ps := p112) fun _ _ _ _ _ _ us hl => match us, hl with | [_], _ => rfl, sc112, rfl, rfl, rfl, t112⟩
      · have F := fun_at l4 c4 k4
        exact ⟨PySem.W.mg_of X G a4, F, F.binds (ps := p4) fun _ _ _ _ _ _ us hl => match us, hl with | [_], _ => rfl, sc4, rfl, rfl, rfl, t4⟩
      · have F := fun_at l5 c5 k5
        exact ⟨PySem.W.mg_of X G a5, F, F.binds (ps := p5) fun _ _ _ _ _ _ us hl => match us, hl with | [_, _], _ => rfl, sc5, rfl, rfl, rfl, t5⟩
      · have F := fun_at l6 c6 k6
        exact ⟨PySem.W.mg_of X G a6, F, F.binds (ps := p6) fun _ _ _ _ _ _ us hl => match us, hl with | [_, _], _ => rfl, sc6, rfl, rfl, rfl, t6⟩
      · have F := fun_at l19 c19 k19
        exact ⟨PySem.W.mg_of X G a19, F, F.binds (ps := p19) fun _ _ _ _ _ _ us hl => match us, hl with | [_, _, _], _ => rfl, sc19, rfl, rfl, rfl, t19⟩
      · have F := fun_at l20 c20 k20
        exact ⟨PySem.W.mg_of X G a20, F, F.binds (ps := p20) fun _ _ _ _ _ _ us hl => match us, hl with | [_, _, _], _ => rfl, sc20, rfl, rfl, rfl, t20⟩
      · have F := fun_at l21 c21 k21
        exact ⟨PySem.W.mg_of X G a21, F, F.binds (ps := p21) fun _ _ _ _ _ _ us hl => match us, hl with | [_, _, _], _ => rfl, sc21, rfl, rfl, rfl, t21⟩
      · have F := fun_at l27 c27 k27
        exact ⟨PySem.W.mg_of X G a27, F, F.binds (ps := p27) fun _ _ _ _ _ _ us hl => match us, hl with | [_], _ => rfl, sc27, rfl, rfl, rfl, t27⟩
      · have F := fun_at l28 c28 k28
        exact ⟨PySem.W.mg_of X G a28, F, F.binds (ps := p28) fun _ _ _ _ _ _ us hl => match us, hl with | [_, _, _, _], _ => rfl, sc28, rfl, rfl, rfl, t28⟩
      · have F := fun_at l29 c29 k29
        exact ⟨PySem.W.mg_of X G a29, F, F.binds (ps := p29) fun _ _ _ _ _ _ us hl => match us, hl with | [_, _, _, _], _ => rfl, sc29, rfl, rfl, rfl, t29⟩
      · have F := fun_at l30 c30 k30
        exact ⟨PySem.W.mg_of X G a30, F, F.binds (ps := p30) fun _ _ _ _ _ _ us hl => match us, hl with | [_, _, _, _], _ => rfl, sc30, rfl, rfl, rfl, t30⟩
      · have F := fun_at l31 c31 k31
        exact ⟨PySem.W.mg_of X G a31, F, F.binds (ps := p31) fun _ _ _ _ _ _ us hl => match us, hl with | [_, _], _ => rfl, sc31, rfl, rfl, rfl, t31⟩
      · have F := fun_at l93 c93 k93
        exact ⟨PySem.W.mg_of X G a93, F, F.binds (ps := p93) fun _ _ _ _ _ _ us hl => match us, hl with | [_], _ => rfl, sc93, rfl, rfl, rfl, t93⟩
      · have F := fun_at l113 c113 k113
        exact ⟨PySem.W.mg_of X G a113, F, F.binds (ps := p113) fun _ _ _ _ _ _ us hl => match us, hl with | [_], _ => rfl, sc113, rfl, rfl, rfl, t113⟩
      · have F := fun_at l114 c114 k114
        exact ⟨PySem.W.mg_of X G a114, F, F.binds (ps := p114) fun _ _ _ _ _ _ us hl => match us, hl with | [_, _], _ => rfl, sc114, rfl, rfl, rfl, t114⟩
      · have F := fun_at l115 c115 k115
        exact ⟨PySem.W.mg_of X G a115, F, F.binds (ps := p115) fun _ _ _ _ _ _ us hl => match us, hl with | [_], _ => rfl, sc115, rfl, rfl, rfl, t115⟩
      · have F := fun_at l50 c50 k50
        exact ⟨PySem.W.mg_of X G a50, F, F.binds (ps := p50) fun _ _ _ _ _ _ us hl => match us, hl with | [_, _], _ => rfl, sc50, rfl, rfl, rfl, t50⟩
      · have F := fun_at l0 c0 k0
        exact ⟨PySem.W.mg_of X G a0, F, F.binds (ps := p0) fun _ _ _ _ _ _ us hl => match us, hl with | [_], _ => rfl, sc0, rfl, rfl, rfl, t0⟩
    · have hm := PySem.mem_of_lookup hx
      simp only [cs, List.mem_cons, List.not_mem_nil, or_false, Prod.mk.injEq] at hm
      rcases hm with ⟨rfl, rfl⟩
      · exact ⟨rfl, _, V.str _, PySem.W.mg_of X G q0, ⟨_, rfl⟩, fun _ _ _ => .str _⟩
    · have hm : x ∈ bl := by simpa using hx
      simp only [bl, List.mem_cons, List.not_mem_nil, or_false] at hm
      rcases hm with rfl | rfl | rfl | rfl | rfl | rfl | rfl | rfl | rfl | rfl | rfl
      · exact PySem.W.mg_none_of X G b0
      · exact PySem.W.mg_none_of X G b1
      · exact PySem.W.mg_none_of X G b2
      · exact PySem.W.mg_none_of X G b3
      · exact PySem.W.mg_none_of X G b4
      · exact PySem.W.mg_none_of X G b5
      · exact PySem.W.mg_none_of X G b6
      · exact PySem.W.mg_none_of X G b7
      · exact PySem.W.mg_none_of X G b8
      · exact PySem.W.mg_none_of X G b9
      · exact PySem.W.mg_none_of X G b10
    · have hm := PySem.mem_of_lookup hx
      simp only [ds, List.mem_cons, List.not_mem_nil, or_false, Prod.mk.injEq] at hm
      rcases hm with ⟨rfl, rfl⟩
      · exact ⟨da_0, de_0, dn_0, PySem.W.mg_of X G dg0, ⟨dl0, di0, dj0⟩, dm0⟩
  have hm : (⟨"law", 0, fa, (PySem.W.fnOf "law" "law" (defArgs s0) (defBody s0) (defScope s0) .none kV0 dc0 pm0 an0 cd0 ct0), s0, n0, p0, d0⟩ : Ent) ∈ es := by simp [es]
  exact prog_ok (turns := TURNS) P DEEP _ hm
end

end K13

set_option maxHeartbeats 4000000
namespace K13
open PySem L2 U
/-- the tape's four items -/
abbrev tp (c : Nat) (p q z : Int) : List PV := [.loc c, .int p, .int q, .int z]
theorem draw_ok {k : Nat} {st : Store} {t c : Nat} {ns : List Int} {p q z m : Int} (ht : st[t]? = some (.lst (tp c p q z))) (hc : st[c]? = some (.lst (ns.map .int))) (hp : 0 ≤ p) (hq : 0 ≤ q) (hz : 0 ≤ z) (hm : m < 1000000) :
    ∃ r p' q' z', evCall TURNS D (k + 1) 5 [.loc t, .int m] st = .ok (.int r) (setAt st t (tp c p' q' z')) ∧ 0 ≤ r ∧ r < max m 1 ∧ 0 ≤ p' ∧ 0 ≤ q' ∧ 0 ≤ z' := by
  have hct : c ≠ t := by
    rintro rfl
    rw [ht] at hc
    have hc : Cell.lst _ = Cell.lst _ := Option.some.inj hc
    injection hc with hc
    cases ns with
    | nil => cases hc
    | cons n ns => injection hc with h1 _; cases h1
  have htl : t < st.length := (List.getElem?_eq_some_iff.mp ht).1
  have hs : ∀ (s : Store) (x : List PV), s.length = st.length → (setAt s t x)[t]? = some (.lst x) := fun s x e => by simp [setAt, htl, e]
  have hs2 : ∀ (s : Store) (x : List PV), s[c]? = some (.lst (ns.map .int)) → (setAt s t x)[c]? = some (.lst (ns.map .int)) := fun s x e => by unfold setAt; rw [List.getElem?_set_ne (Ne.symm hct)]; exact e
  have hs1 : ∀ (x : List PV), (setAt st t x)[t]? = some (.lst x) := fun x => hs st x rfl
  have hss : ∀ (x y : List PV), (setAt (setAt st t x) t y) = setAt st t y := fun x y => by simp [setAt]
  have e2 : ixN 4 2 = some 2 := rfl
  have e1 : ixN 4 1 = some 1 := rfl
  have e3 : ixN 4 3 = some 3 := rfl
  generalize hM1 : (if m < 1 then 1 else m) = M1
  generalize hM2 : (if m < 2 then 2 else m) = M2
  have m1 : 0 < M1 ∧ M1 = max m 1 := by rw [← hM1]; split <;> omega
  have m2 : 0 < M2 ∧ M2 < 1073741824 := by rw [← hM2]; split <;> omega
  have fdiv : ∀ (i : Int) (s : Store), binV .fdiv (.int i) (.int M2) s = some (.int (i / M2)) := fun i s => bin_fdiv_int m2
  have fmod : ∀ (i : Int) (s : Store), binV .mod (.int i) (.int M1) s = some (.int (i % M1)) := fun i s => bin_mod_int m1.1
  have fin : ∀ (v : PV) (x : List PV), leave st.length v (setAt st t x) = .ok v (setAt st t x) := fun v x => leave_setAt v st t x
  by_cases h0 : q = 0
  · subst h0
    clear htl
    -- what stands behind the first if, for the number that was drawn
    have mulA : ∀ (i : Int) (s : Store), binV .mul (.int i) (.int 48271) s = some (.int (i * 48271)) := fun i s => bin_mul_int (by simp [ckM])
    have mulB : ∀ (i : Int) (s : Store), binV .mul (.int i) (.int 69621) s = some (.int (i * 69621)) := fun i s => bin_mul_int (by simp [ckM])
    have modA : ∀ (i : Int) (s : Store), binV .mod (.int i) (.int 2147483647) s = some (.int (i % 2147483647)) := fun i s => bin_mod_int (by decide)
    have modB : ∀ (i : Int) (s : Store), binV .mod (.int i) (.int 2147483629) s = some (.int (i % 2147483629)) := fun i s => bin_mod_int (by decide)
    have powA : ∀ (s : Store), binV .pow (.int 10) (.int 18) s = some (.int (10 ^ 18)) := fun s => bin_pow_int (by decide)
    have lenA : ∀ s : Store, s[c]? = some (.lst (ns.map .int)) → biV .len [.loc c] s = some (.int ns.length) := fun s h => by rw [bi_len_loc h]; simp
    by_cases hl : p < ns.length
    · obtain ⟨n, hn⟩ : ∃ n, ns[p.toNat]? = some n := ⟨ns[p.toNat]'(by omega), by simp⟩
      have hn2 : atI (ns.map PV.int) p = some (.int n) := atI_nn hp (by rw [List.getElem?_map, hn]; rfl)
      generalize ha : (if n < 0 then -n else n) = a
      have a0 : 0 ≤ a := by rw [← ha]; split <;> omega
      by_cases hb : a < 1000000000000000000
      · simp only [evCall, D, d5]
        simp [evSs, evS, ev, evA, evCs, ix_loc ht, cmp_eq_int, hs1, ht, hM1, hM2, fdiv, fmod, ME.held, e1, e2, e3, hss, mulA, mulB, modA, modB, powA, lenA _ hc, hl, ix_loc hc, hb, hn2, ha]
        exact ⟨_, _, _, _, fin _ _, Int.emod_nonneg _ (by omega), by rw [← m1.2]; exact Int.emod_lt_of_pos _ m1.1, by omega, by omega, hz⟩
      · simp only [evCall, D, d5]
        simp [evSs, evS, ev, evA, evCs, ix_loc ht, cmp_eq_int, hs1, ht, hM1, hM2, fdiv, fmod, ME.held, e1, e2, e3, hss, mulA, mulB, modA, modB, powA, lenA _ hc, hl, ix_loc hc, hb, hn2, ha, ix_loc (hs1 _)]
        exact ⟨_, _, _, _, fin _ _, Int.emod_nonneg _ (by omega), by rw [← m1.2]; exact Int.emod_lt_of_pos _ m1.1, by omega, Int.ediv_nonneg a0 (by omega), hz⟩
    · have hb : (z * 48271 + p + 1) % 2147483647 < 1000000000000000000 := Int.lt_trans (Int.emod_lt_of_pos _ (by decide)) (by decide)
      simp only [evCall, D, d5]
      simp [evSs, evS, ev, evA, evCs, ix_loc ht, cmp_eq_int, hs1, ht, hM1, hM2, fdiv, fmod, ME.held, e1, e2, e3, hss, mulA, mulB, modA, modB, powA, lenA _ hc, hl, ix_loc hc, hb, ix_loc (hs1 _)]
      exact ⟨_, _, _, _, fin _ _, Int.emod_nonneg _ (by omega), by rw [← m1.2]; exact Int.emod_lt_of_pos _ m1.1, by omega, by omega, Int.emod_nonneg _ (by omega)⟩
  · simp only [evCall, D, d5]
    clear htl
    simp [evSs, evS, ev, evA, evCs, ix_loc ht, cmp_eq_int, h0, hs1, ht, hM1, hM2, fdiv, fmod, ME.held, e2, hss]
    exact ⟨_, _, _, _, fin _ _, Int.emod_nonneg _ (by omega), by rw [← m1.2]; exact Int.emod_lt_of_pos _ m1.1, hp, Int.ediv_nonneg hq (by omega), hz⟩
end K13

set_option maxHeartbeats 4000000
namespace K13
open PySem L2 U
/-- the store with the script's numbers and the tape -/
def TS (ns : List Int) (p q z : Int) : Store := [.lst (ns.map .int), .lst (tp 0 p q z)]
def T (ns : List Int) (st : Store) : Prop := ∃ p q z, 0 ≤ p ∧ 0 ≤ q ∧ 0 ≤ z ∧ st = TS ns p q z
theorem T.len {ns : List Int} {st : Store} (h : T ns st) : st.length = 2 := by
  obtain ⟨p, q, z, _, _, _, rfl⟩ := h
  rfl
theorem drawT {k : Nat} {ns : List Int} {st : Store} {m : Int} (h : T ns st) (hm : 1 ≤ m ∧ m < 1000000) : ∃ r st', evCall TURNS D (k + 1) 5 [.loc 1, .int m] st = .ok (.int r) st' ∧ T ns st' ∧ 0 ≤ r ∧ r < m := by
  obtain ⟨p, q, z, hp, hq, hz, rfl⟩ := h
  obtain ⟨r, p', q', z', h1, h2, h3, h4, h5, h6⟩ := draw_ok (k := k) (st := TS ns p q z) (t := 1) (c := 0) (ns := ns) rfl rfl hp hq hz hm.2
  exact ⟨r, _, h1, ⟨p', q', z', h4, h5, h6, rfl⟩, h2, by omega⟩
theorem leaveT {ns : List Int} {st : Store} {v : PV} (h : T ns st) : leave 2 v st = .ok v st := leave_same (by rw [h.len]; exact Nat.le_refl _)
theorem pick {α : Type} {xs : List α} {i : Int} (h0 : 0 ≤ i) (h1 : i < xs.length) : ∃ x, x ∈ xs ∧ atI xs i = some x :=
  ⟨xs[i.toNat]'(by omega), List.getElem_mem _, atI_nn h0 (by simp)⟩
theorem ixS {s : Str} {i : Int} {st : Store} (h0 : 0 ≤ i) (h1 : i < s.length) (hz : s.length ≤ 1000000) : ∃ c, c ∈ s.cps.toList ∧ ixV (.str s) (.int i) st = some (.str ⟨#[c]⟩) := by
  have e := TL.len_tl s
  have hz2 : s.length ≤ sizeLine := by rw [sizeLine_eq]; omega
  obtain ⟨c, hc, h⟩ := pick (xs := s.cps.toList) h0 (by show i < ((TL.tl s).length : Int); omega)
  exact ⟨c, hc, by rw [ix_str_ hz2, h]; rfl⟩
/-- the tape -/
theorem tape_ok {k : Nat} {ns : List Int} : ∃ z, 0 ≤ z ∧ evCall TURNS D (k + 1) 4 [.rol (ns.map .int)] [] = .ok (.fl (tp 0 0 0 z)) [.lst (ns.map .int)] := by
  obtain ⟨e, s, h1, t, x, ht, rfl, rfl⟩ := forLoop_inv (put := MG.put (.nm 2)) (body := evSs (evCall TURNS D k) TURNS b4_0) (xs := ns.map .int)
    (fun j env st => ∃ t x, 0 ≤ t ∧ env = [some (.rol (ns.map .int)), some (.int t), x] ∧ st = []) (fun j x env st hx ⟨t, y, ht, e1, e2⟩ => by
      subst e1 e2
      rw [List.getElem?_map] at hx
      obtain ⟨n, hn, rfl⟩ := Option.map_eq_some_iff.mp hx
      have mulA : ∀ (i : Int) (s : Store), binV .mul (.int i) (.int 31) s = some (.int (i * 31)) := fun i s => bin_mul_int (by simp [ckM])
      have modA : ∀ (i : Int) (s : Store), binV .mod (.int i) (.int 2147483647) s = some (.int (i % 2147483647)) := fun i s => bin_mod_int (by decide)
      refine ⟨_, rfl, ?_⟩
      simp [b4_0, evSs, evS, ev, evCs, mulA, modA]
      exact Int.emod_nonneg _ (by decide)) ns.length 0 [some (.rol (ns.map .int)), some (.int 7), none] [] (by simp) ⟨7, none, by decide, rfl, rfl⟩
  refine ⟨t, ht, ?_⟩
  simp only [evCall, D, d4]
  simp [evSs, evS, ev, evA, evCs, evSrc, srcV, Src.many, h1, ME.held, leave, PV.low, PV.lowL, sizeLine_eq]
theorem len_app (x y : Str) : (x ++ y).length = x.length + y.length := by
  have h1 := TL.len_tl (x ++ y)
  rw [TL.tl_append, List.length_append] at h1
  have h2 := TL.len_tl x
  have h3 := TL.len_tl y
  omega
theorem add_ok {x y : Str} {st : Store} (hx : x.length ≤ 100000) (hy : y.length ≤ 100000) : binV .add (.str x) (.str y) st = some (.str (x ++ y)) := bin_add_str (by rw [sizeLine_eq]; omega)
theorem sl_str_ok {x : Str} {lo hi : Option Int} {st : Store} (hx : x.length ≤ 100000) : slV (.str x) lo hi st = some (.str (cutS x lo hi)) := if_pos (by rw [sizeLine_eq]; omega)
theorem cut_len {x : Str} {lo hi : Option Int} {n : Nat} (h : x.length ≤ n) : (cutS x lo hi).length ≤ n := Nat.le_trans (cutS_length x lo hi) h
theorem one_len (c : Nat) : (⟨#[c]⟩ : Str).length = 1 := rfl
theorem len_ok {x : Str} {st : Store} (hx : x.length ≤ 100000) : biV .len [.str x] st = some (.int x.length) := bi_len_str (by rw [sizeLine_eq]; omega)
theorem bound_non : bound true .non = some none := rfl
theorem bound_int (i : Int) : bound false (.int i) = some (some i) := rfl
/-- a text of at most n signs, all below 256 -/
def B (n : Nat) (x : Str) : Prop := x.length ≤ n ∧ ∀ c ∈ x.cps.toList, c < 256
def bB (n : Nat) (x : Str) : Bool := decide (x.length ≤ n) && x.cps.toList.all fun c => decide (c < 256)
theorem B.of {n : Nat} {x : Str} (h : bB n x = true) : B n x := by
  unfold bB at h
  rw [Bool.and_eq_true, List.all_eq_true] at h
  exact ⟨of_decide_eq_true h.1, fun c hc => of_decide_eq_true (h.2 c hc)⟩
theorem B.mono {n m : Nat} {x : Str} (h : B n x) (k : n ≤ m) : B m x := ⟨Nat.le_trans h.1 k, h.2⟩
theorem B.app {n m : Nat} {x y : Str} (h : B n x) (k : B m y) : B (n + m) (x ++ y) := by
  refine ⟨by rw [len_app]; have := h.1; have := k.1; omega, fun c hc => ?_⟩
  have hc : c ∈ TL.tl (x ++ y) := hc
  rw [TL.tl_append, List.mem_append] at hc
  exact hc.elim (h.2 c) (k.2 c)
theorem B.cut {n : Nat} {x : Str} (h : B n x) (lo hi : Option Int) : B n (cutS x lo hi) :=
  ⟨cut_len h.1, fun c hc => h.2 c (List.mem_of_mem_drop (List.mem_of_mem_take hc))⟩
theorem B.one {c : Nat} (h : c < 256) : B 1 ⟨#[c]⟩ := ⟨Nat.le_refl _, fun d hd => by
  have : d = c := by simpa using hd
  rw [this]; exact h⟩
theorem num_all : (List.range 100).all (fun k => bB 5 (Str.ofString (toString (k : Int)))) = true := by decide +kernel
theorem num_B {i : Int} (h0 : 0 ≤ i) (h : i < 100) : B 5 (Str.ofString (toString i)) := by
  have := (List.all_eq_true.mp num_all) i.toNat (List.mem_range.mpr (by omega))
  rw [Int.toNat_of_nonneg h0] at this
  exact B.of this
/-- one of some texts -/
theorem pickS {xs : List PV} {i : Int} {P : Str → Prop} (h0 : 0 ≤ i) (h1 : i < xs.length) (h : ∀ x ∈ xs, ∃ s : Str, x = .str s ∧ P s) : ∃ s : Str, atI xs i = some (.str s) ∧ P s := by
  obtain ⟨x, hx, e⟩ := pick h0 h1
  obtain ⟨s, rfl, hs⟩ := h x hx
  exact ⟨s, e, hs⟩
/-- what a call comes to -/
def gets {α : Type} (r : Res α) (P : α → Store → Prop) : Prop := match r with
  | .ok a st => P a st
  | .bad => False
@[simp] theorem gets_ok {α : Type} (a : α) (st : Store) (P : α → Store → Prop) : gets (.ok a st) P = P a st := rfl
theorem of_gets {α : Type} {r : Res α} {P : α → Store → Prop} (h : gets r P) : ∃ a st, r = .ok a st ∧ P a st := by
  cases r with
  | ok a st => exact ⟨a, st, rfl, h⟩
  | bad => exact h.elim
theorem strsL_map {α : Type} (f : α → Str) : ∀ l : List α, strsL (l.map fun x => .str (f x)) = some (l.map f)
  | [] => rfl
  | x :: r => by
    show (strsL (r.map fun x => .str (f x))).map (f x :: ·) = _
    rw [strsL_map f r]; rfl
theorem num_len {i : Int} (h0 : 0 ≤ i) (h : i < 10000) : (toString i : Str).length ≤ 5 ∧ i.natAbs < 1000000 := by
  have e := PySem.int_text_length_le10 (a := i) (k := 4) (by decide) (by omega)
  refine ⟨?_, by omega⟩
  show (Str.ofString (toString i)).length ≤ 5
  rw [show (Str.ofString (toString i)).length = (toString i : String).length by rw [TL.len_tl, TL.tl_ofString, List.length_map]; rfl]
  exact e
end K13

set_option maxHeartbeats 4000000
namespace K13
open PySem L2 U
theorem loopA {k : Nat} {ns : List Int} {st : Store} {sg name : Str} {r : Int} {a1 a3 a4 a5 a6 a7 a9 a10 : Option PV} (hg : ∀ (i : Int) (st : Store), 0 ≤ i → i < 63 → ∃ c, ixV (.str sg) (.int i) st = some (.str ⟨#[c]⟩) ∧ c < 256)
    (t : T ns st) (hn : B 21 name) (h0 : 0 ≤ r) (h1 : r ≤ 6) :
    ∃ nm x9 st', forLoop (MG.put (.nm 9)) (evSs (evCall TURNS D (k + 1)) TURNS b6_0) (.items ((List.range r.toNat).map fun (k : Nat) => .int k)) 0 r.toNat [some (.loc 1), a1, some (.str sg), a3, a4, a5, a6, a7, some (.str name), a9, a10] st
      = .nx [some (.loc 1), a1, some (.str sg), a3, a4, a5, a6, a7, some (.str nm), x9, a10] st' ∧ B 27 nm ∧ T ns st' := by
  obtain ⟨e, s, q1, nm, x9, q2, q3, q4⟩ := forLoop_inv (put := MG.put (.nm 9)) (body := evSs (evCall TURNS D (k + 1)) TURNS b6_0) (xs := (List.range r.toNat).map fun (k : Nat) => .int k)
    (fun j env st => ∃ nm x9, B (21 + j) nm ∧ T ns st ∧ env = [some (.loc 1), a1, some (.str sg), a3, a4, a5, a6, a7, some (.str nm), x9, a10]) (fun j x env st hx ⟨nm, x9, e1, e2, e3⟩ => by
      subst e3
      have hj : j < r.toNat := by
        have := (List.getElem?_eq_some_iff.mp hx).1
        simpa using this
      obtain ⟨q, st1, g1, g2, g3, g4⟩ := drawT (k := k) (m := 63) e2 (by decide)
      obtain ⟨c, hc, hc2⟩ := hg q st1 g3 g4
      have le1 := e1.1
      have a := add_ok (x := nm) (y := ⟨#[c]⟩) (st := st1) (by omega) (by rw [one_len]; omega)
      refine ⟨_, rfl, ?_⟩
      simp [b6_0, evSs, evS, ev, evA, evCs, g1, hc, a]
      exact ⟨e1.app (.one hc2), g2⟩) r.toNat 0 _ st (by simp) ⟨name, a9, hn, t, rfl⟩
  refine ⟨nm, x9, s, by rw [q1, q4], q2.mono ?_, q3⟩
  have : ((List.range r.toNat).map fun (k : Nat) => PV.int k).length = r.toNat := by simp
  omega
def SG : Str := "abcdefghijklmnopqrstuvwxyzABCDEFGHIJKLMNOPQRSTUVWXYZ0123456789_"
theorem SG_B : B 63 SG := .of (by decide +kernel)
theorem SG_ok (i : Int) (st : Store) (h0 : 0 ≤ i) (h1 : i < 63) : ∃ c, ixV (.str SG) (.int i) st = some (.str ⟨#[c]⟩) ∧ c < 256 := by
  obtain ⟨c, hm, h⟩ := ixS (s := SG) (st := st) h0 (by rw [show Str.length SG = 63 by decide +kernel]; omega) (by decide +kernel)
  exact ⟨c, h, SG_B.2 c hm⟩
def WL : List PV := [.str "let", .str "if", .str "else", .str "while", .str "for", .str "break", .str "continue", .str "return", .str "try", .str "finally", .str "true", .str "false"]
theorem WL_ok {i : Int} (l1 : 0 ≤ i) (u1 : i < 12) : ∃ s : Str, atI WL i = some (.str s) ∧ B 8 s := pickS (xs := WL) l1 (by simpa [WL] using u1) (by
    intro x hx
    simp only [WL, List.mem_cons, List.not_mem_nil, or_false] at hx
    rcases hx with rfl | rfl | rfl | rfl | rfl | rfl | rfl | rfl | rfl | rfl | rfl | rfl <;> exact ⟨_, rfl, .of (by decide +kernel)⟩)
theorem inW (x : Str) (st : Store) : ∃ b, cmpV .inn (.str x) (.fl WL) st = some b := by
  have h : ∃ b, memF (.str x) WL = some b := ⟨_, rfl⟩
  obtain ⟨b, h⟩ := h
  refine ⟨b, ?_⟩
  show U.inV (.str x) (.fl WL) st = some b
  unfold U.inV
  simp only [seq_fl, h]
theorem inXs (x : Str) (xs : List Str) (st : Store) : ∃ b, cmpV .inn (.str x) (.fl (xs.map .str)) st = some b := by
  have e : ∀ l : List Str, flL (l.map .str) = some (l.map V.str) := fun l => by
    induction l with
    | nil => rfl
    | cons z l ih =>
      show (match flV (.str z), flL (l.map .str) with | some v, some vs => some (v :: vs) | _, _ => none) = _
      rw [ih]; rfl
  have h : memF (.str x) (xs.map .str) = some (L2.inV (.str x) (xs.map V.str)) := by
    show (match flV (.str x), flL (xs.map .str) with | some x, some vs => some (L2.inV x vs) | _, _ => none) = _
    rw [e]; rfl
  refine ⟨L2.inV (.str x) (xs.map V.str), ?_⟩
  show U.inV (.str x) (.fl (xs.map .str)) st = _
  unfold U.inV
  simp only [seq_fl, h]
/-- what follows the stem in a turn -/
theorem turnA {k : Nat} {ns : List Int} {st : Store} {stem : Str} {place : Int} {a8 a9 a10 : Option PV} {xs : List Str} {j : Nat} {mn : Int} (hj : j < 100) (hxs : xs.length < 100) (t : T ns st) (hs0 : B 10 stem) (h0 : 0 ≤ place) :
    ∃ x a9' a10' st', evSs (evCall TURNS D (k + 1)) TURNS b6_1 [some (.loc 1), some (.int mn), some (.str SG), some (.fl WL), some (.str stem), some (.int place), some (.fl (xs.map .str)), some (.int j), a8, a9, a10] st
      = .nx [some (.loc 1), some (.int mn), some (.str SG), some (.fl WL), some (.str stem), some (.int place), some (.fl (xs.map .str ++ [.str x])), some (.int j), some (.str x), a9', a10'] st' ∧ B 60 x ∧ T ns st' := by
  have hs := hs0.1
  obtain ⟨r1, st1, h1, t1, l1, u1⟩ := drawT (k := k) (m := 52) t (by decide)
  obtain ⟨c1, hc1, hc1b⟩ := SG_ok r1 st1 l1 (by omega)
  have q1 := cut_len (lo := none) (hi := some place) hs
  have q2 := cut_len (lo := some place) (hi := none) hs
  have d1 := sl_str_ok (x := stem) (lo := none) (hi := some place) (st := st) (by omega)
  have d2 := sl_str_ok (x := stem) (lo := some place) (hi := none) (st := st1) (by omega)
  have m1 := add_ok (x := cutS stem none (some place)) (y := ⟨#[c1]⟩) (st := st1) (by omega) (by rw [one_len]; omega)
  have m2 := add_ok (x := cutS stem none (some place) ++ ⟨#[c1]⟩) (y := cutS stem (some place) none) (st := st1) (by rw [len_app, one_len]; omega) (by omega)
  obtain ⟨r3, st3, h3, t3, l3, u3⟩ := drawT (k := k) (m := 6) (ns := ns) (st := st1) t1 (by decide)
  have e3 : ∃ n : Int, atI [PV.int 0, .int 0, .int 0, .int 1, .int 2, .int 6] r3 = some (.int n) ∧ 0 ≤ n ∧ n ≤ 6 := by
    obtain ⟨y, hy, e3⟩ := pick (xs := [PV.int 0, .int 0, .int 0, .int 1, .int 2, .int 6]) (i := r3) l3 (by simpa using u3)
    simp only [List.mem_cons, List.not_mem_nil, or_false] at hy
    rcases hy with rfl | rfl | rfl | rfl | rfl | rfl <;> exact ⟨_, e3, by decide, by decide⟩
  obtain ⟨n, e3, n0, n6⟩ := e3
  have hr : rngV (.int 0) (.int n) st3 = .ok (.items ((List.range (n - 0).toNat).map fun (k : Nat) => .int (0 + k))) st3 := if_pos (by omega)
  rw [show n - 0 = n by omega] at hr
  simp only [Int.zero_add] at hr
  obtain ⟨nm, x9, st4, g1, g2, g3⟩ := loopA (k := k) (sg := SG) (name := cutS stem none (some place) ++ ⟨#[c1]⟩ ++ cutS stem (some place) none) (a1 := some (.int mn)) (a3 := some (.fl WL)) (a4 := some (.str stem)) (a5 := some (.int place)) (a6 := some (.fl (xs.map .str))) (a7 := some (.int j)) (a9 := a9) (a10 := a10) SG_ok t3 ((((hs0.cut _ _).app (.one hc1b)).app (hs0.cut _ _)).mono (by omega)) n0 n6
  have g2b := g2
  have g2 := g2b.1
  obtain ⟨r5, st5, h5, t5, l5, u5⟩ := drawT (k := k) (m := 16) g3 (by decide)
  have hx2 : xs.length < 16777216 := by omega
  have jb := num_B (i := (j : Int)) (by omega) (by omega)
  have jl := jb.1
  have ja : (j : Int).natAbs < 1000000 := by omega
  have wj := fun st => bi_str (i := (j : Int)) (st := st) ja
  generalize Str.ofString (toString (j : Int)) = Z at jl wj jb
  have o23 : Str.length ("one_of_two_equal_names_" : Str) = 23 := by decide +kernel
  have kj := fun st => add_ok (x := ("one_of_two_equal_names_" : Str)) (y := Z) (st := st) (by decide +kernel) (by omega)
  have one24 : B 60 (("one_of_two_equal_names_" : Str) ++ Z) := ((B.of (n := 23) (by decide +kernel)).app jb).mono (by omega)
  by_cases c0 : r5 = 0
  · subst c0
    have k1 := len_ok (x := nm) (st := st5) (by omega)
    have k2 := bin_mul_str (x := "x") (j := 30 - nm.length) (st := st5) ⟨by omega, by omega, by rw [show Str.length "x" = 1 by decide +kernel]; omega⟩
    have k4 : (⟨((List.replicate (30 - (nm.length : Int)).toNat (Str.cps "x").toList).flatten).toArray⟩ : Str).length = (30 - (nm.length : Int)).toNat := by
      rw [TL.len_tl]
      show ((List.replicate (30 - (nm.length : Int)).toNat (Str.cps "x").toList).flatten).length = _
      rw [List.length_flatten, List.map_replicate, List.sum_replicate_nat, show (Str.cps "x").toList.length = 1 by decide +kernel]
      omega
    have k5 : B 30 (⟨((List.replicate (30 - (nm.length : Int)).toNat (Str.cps "x").toList).flatten).toArray⟩ : Str) := ⟨by omega, fun c hc => by
      have hc : c ∈ ((List.replicate (30 - (nm.length : Int)).toNat (Str.cps "x").toList).flatten) := hc
      obtain ⟨l, h1, h2⟩ := List.mem_flatten.mp hc
      rw [(List.mem_replicate.mp h1).2] at h2
      exact (B.of (n := 1) (x := "x") (by decide +kernel)).2 c h2⟩
    generalize (⟨((List.replicate (30 - (nm.length : Int)).toNat (Str.cps "x").toList).flatten).toArray⟩ : Str) = XX at k2 k4 k5
    have k3 := add_ok (x := nm) (y := XX) (st := st5) (by omega) (by omega)
    obtain ⟨b, hb⟩ := inW (nm ++ XX) st5
    obtain ⟨b2, hb2⟩ := inXs (nm ++ XX) xs st5
    cases b with
    | false =>
      cases b2 with
      | false =>
        simp [b6_1, evSs, evS, ev, evA, evCs, evSrc, d1, h1, hc1, m1, d2, m2, h3, e3, hr, Src.many, g1, h5, ME.absent, bound_non, bound_int, hx2, -List.map_map, k1, k2, k3, hb, hb2, sizeLine_eq]
        exact ⟨_, _, _, _, ⟨⟨rfl, rfl, rfl⟩, rfl⟩, (g2b.app k5).mono (by omega), t5⟩
      | true =>
        simp [b6_1, evSs, evS, ev, evA, evCs, evSrc, d1, h1, hc1, m1, d2, m2, h3, e3, hr, Src.many, g1, h5, ME.absent, bound_non, bound_int, hx2, -List.map_map, k1, k2, k3, hb, hb2, wj, kj, sizeLine_eq]
        exact ⟨_, _, _, _, ⟨⟨rfl, rfl, rfl⟩, rfl⟩, one24, t5⟩
    | true =>
      simp [b6_1, evSs, evS, ev, evA, evCs, evSrc, d1, h1, hc1, m1, d2, m2, h3, e3, hr, Src.many, g1, h5, ME.absent, bound_non, bound_int, hx2, -List.map_map, k1, k2, k3, hb, wj, kj, sizeLine_eq]
      exact ⟨_, _, _, _, ⟨⟨rfl, rfl, rfl⟩, rfl⟩, one24, t5⟩
  by_cases c1' : r5 = 1
  · subst c1'
    obtain ⟨r6, st6, h6, t6, l6, u6⟩ := drawT (k := k) (m := 12) t5 (by decide)
    obtain ⟨w, hw, lwb⟩ := WL_ok l6 u6
    have lw := lwb.1
    have s1 := sl_str_ok (x := nm) (lo := none) (hi := some 1) (st := st6) (by omega)
    have s2 := cut_len (x := nm) (lo := none) (hi := some 1) g2
    have k3 := add_ok (x := w) (y := cutS nm none (some 1)) (st := st6) (by omega) (by omega)
    obtain ⟨b, hb⟩ := inW (w ++ cutS nm none (some 1)) st6
    obtain ⟨b2, hb2⟩ := inXs (w ++ cutS nm none (some 1)) xs st6
    cases b with
    | false =>
      cases b2 with
      | false =>
        simp [b6_1, evSs, evS, ev, evA, evCs, evSrc, d1, h1, hc1, m1, d2, m2, h3, e3, hr, Src.many, g1, h5, ME.absent, bound_non, bound_int, hx2, -List.map_map, h6, hw, s1, k3, hb, hb2, sizeLine_eq]
        exact ⟨_, _, _, _, ⟨⟨rfl, rfl, rfl⟩, rfl⟩, (lwb.app (g2b.cut _ _)).mono (by omega), t6⟩
      | true =>
        simp [b6_1, evSs, evS, ev, evA, evCs, evSrc, d1, h1, hc1, m1, d2, m2, h3, e3, hr, Src.many, g1, h5, ME.absent, bound_non, bound_int, hx2, -List.map_map, h6, hw, s1, k3, hb, hb2, wj, kj, sizeLine_eq]
        exact ⟨_, _, _, _, ⟨⟨rfl, rfl, rfl⟩, rfl⟩, one24, t6⟩
    | true =>
      simp [b6_1, evSs, evS, ev, evA, evCs, evSrc, d1, h1, hc1, m1, d2, m2, h3, e3, hr, Src.many, g1, h5, ME.absent, bound_non, bound_int, hx2, -List.map_map, h6, hw, s1, k3, hb, wj, kj, sizeLine_eq]
      exact ⟨_, _, _, _, ⟨⟨rfl, rfl, rfl⟩, rfl⟩, one24, t6⟩
  by_cases c2' : r5 = 2
  · subst c2'
    obtain ⟨r6, st6, h6, t6, l6, u6⟩ := drawT (k := k) (m := 12) t5 (by decide)
    obtain ⟨w, hw, lwb⟩ := WL_ok l6 u6
    have lw := lwb.1
    have s1 := sl_str_ok (x := w) (lo := none) (hi := some (-1)) (st := st6) (by omega)
    have s2 := cut_len (x := w) (lo := none) (hi := some (-1)) lw
    obtain ⟨b, hb⟩ := inW (cutS w none (some (-1))) st6
    obtain ⟨b2, hb2⟩ := inXs (cutS w none (some (-1))) xs st6
    cases b with
    | false =>
      cases b2 with
      | false =>
        simp [b6_1, evSs, evS, ev, evA, evCs, evSrc, d1, h1, hc1, m1, d2, m2, h3, e3, hr, Src.many, g1, h5, ME.absent, bound_non, bound_int, hx2, -List.map_map, h6, hw, s1, hb, hb2, sizeLine_eq]
        exact ⟨_, _, _, _, ⟨⟨rfl, rfl, rfl⟩, rfl⟩, (lwb.cut _ _).mono (by omega), t6⟩
      | true =>
        simp [b6_1, evSs, evS, ev, evA, evCs, evSrc, d1, h1, hc1, m1, d2, m2, h3, e3, hr, Src.many, g1, h5, ME.absent, bound_non, bound_int, hx2, -List.map_map, h6, hw, s1, hb, hb2, wj, kj, sizeLine_eq]
        exact ⟨_, _, _, _, ⟨⟨rfl, rfl, rfl⟩, rfl⟩, one24, t6⟩
    | true =>
      simp [b6_1, evSs, evS, ev, evA, evCs, evSrc, d1, h1, hc1, m1, d2, m2, h3, e3, hr, Src.many, g1, h5, ME.absent, bound_non, bound_int, hx2, -List.map_map, h6, hw, s1, hb, wj, kj, sizeLine_eq]
      exact ⟨_, _, _, _, ⟨⟨rfl, rfl, rfl⟩, rfl⟩, one24, t6⟩
  obtain ⟨b, hb⟩ := inW (nm) st5
  obtain ⟨b2, hb2⟩ := inXs (nm) xs st5
  cases b with
  | false =>
    cases b2 with
    | false =>
      simp [b6_1, evSs, evS, ev, evA, evCs, evSrc, d1, h1, hc1, m1, d2, m2, h3, e3, hr, Src.many, g1, h5, ME.absent, bound_non, bound_int, hx2, -List.map_map, c0, c1', c2', hb, hb2, sizeLine_eq]
      exact ⟨_, _, _, _, ⟨⟨rfl, rfl, rfl⟩, rfl⟩, g2b.mono (by omega), t5⟩
    | true =>
      simp [b6_1, evSs, evS, ev, evA, evCs, evSrc, d1, h1, hc1, m1, d2, m2, h3, e3, hr, Src.many, g1, h5, ME.absent, bound_non, bound_int, hx2, -List.map_map, c0, c1', c2', hb, hb2, wj, kj, sizeLine_eq]
      exact ⟨_, _, _, _, ⟨⟨rfl, rfl, rfl⟩, rfl⟩, one24, t5⟩
  | true =>
    simp [b6_1, evSs, evS, ev, evA, evCs, evSrc, d1, h1, hc1, m1, d2, m2, h3, e3, hr, Src.many, g1, h5, ME.absent, bound_non, bound_int, hx2, -List.map_map, c0, c1', c2', hb, wj, kj, sizeLine_eq]
    exact ⟨_, _, _, _, ⟨⟨rfl, rfl, rfl⟩, rfl⟩, one24, t5⟩
/-- the names -/
theorem names_ok {k : Nat} {ns : List Int} {st : Store} {mn : Int} (m0 : 0 ≤ mn) (m1 : mn ≤ 50) (t : T ns st) : ∃ (xs : List Str) (st' : Store), evCall TURNS D (k + 2) 6 [.loc 1, .int mn] st = .ok (.fl (xs.map .str)) st' ∧ xs.length = mn.toNat ∧ (∀ x ∈ xs, B 60 x) ∧ T ns st' := by
  obtain ⟨r1, st1, h1, t1, l1, u1⟩ := drawT (k := k) (m := 4) t (by decide)
  obtain ⟨stem, hs, lsb⟩ := pickS (xs := [.str "", .str "", .str "sharedStem", .str "while_x"]) (i := r1) (P := B 10) l1 (by simpa using u1) (by
    intro x hx
    simp only [List.mem_cons, List.not_mem_nil, or_false] at hx
    rcases hx with rfl | rfl | rfl | rfl <;> exact ⟨_, rfl, .of (by decide +kernel)⟩)
  have ls := lsb.1
  have k1 := len_ok (x := stem) (st := st1) (by omega)
  obtain ⟨r2, st2, h2, t2, l2, u2⟩ := drawT (k := k) (m := (stem.length : Int) + 1) t1 (by omega)
  have hr : rngV (.int 0) (.int mn) st2 = .ok (.items ((List.range (mn - 0).toNat).map fun (k : Nat) => .int (0 + k))) st2 := if_pos (by omega)
  rw [show mn - 0 = mn by omega] at hr
  simp only [Int.zero_add] at hr
  obtain ⟨e, st3, q1, xs, a7, a8, a9, a10, q2, q3, q4, q5⟩ := forLoop_inv (put := MG.put (.nm 7)) (body := evSs (evCall TURNS D (k + 1)) TURNS b6_1) (xs := (List.range mn.toNat).map fun (k : Nat) => .int k)
    (fun j env st => ∃ (xs : List Str) (a7 a8 a9 a10 : Option PV), xs.length = j ∧ (∀ x ∈ xs, B 60 x) ∧ T ns st ∧ env = [some (.loc 1), some (.int mn), some (.str SG), some (.fl WL), some (.str stem), some (.int r2), some (.fl (xs.map .str)), a7, a8, a9, a10]) (fun j x env st hx ⟨xs, a7, a8, a9, a10, e1, e2, e3, e4⟩ => by
      subst e4
      have hj : j < mn.toNat := by
        have := (List.getElem?_eq_some_iff.mp hx).1
        simpa using this
      have hx : x = .int j := by
        rw [List.getElem?_map, List.getElem?_range hj] at hx
        simpa using hx.symm
      subst hx
      obtain ⟨y, x9, x10, st', g1, g2, g3⟩ := turnA (k := k) (xs := xs) (j := j) (mn := mn) (stem := stem) (place := r2) (a8 := a8) (a9 := a9) (a10 := a10) (by omega) (by omega) e3 lsb l2
      refine ⟨_, rfl, ?_⟩
      show SR.go (evSs (evCall TURNS D (k + 1)) TURNS b6_1 [some (.loc 1), some (.int mn), some (.str SG), some (.fl WL), some (.str stem), some (.int r2), some (.fl (xs.map .str)), some (.int j), a8, a9, a10] st) _
      rw [g1, go_nx]
      refine ⟨xs ++ [y], some (.int j), some (.str y), x9, x10, by simp [e1], fun z hz => ?_, g3, by simp⟩
      rcases List.mem_append.mp hz with hz | hz
      · exact e2 z hz
      · rw [List.mem_singleton.mp hz]; exact g2) mn.toNat 0 [some (.loc 1), some (.int mn), some (.str SG), some (.fl WL), some (.str stem), some (.int r2), some (.fl []), none, none, none, none] st2 (by simp) ⟨[], none, none, none, none, rfl, by simp, t2, rfl⟩
  unfold SG WL at q1 q5
  refine ⟨xs, st3, ?_, by simpa using q2, q3, q4⟩
  rw [show k + 2 = (k + 1) + 1 from rfl, evCall]
  simp [D, d6, evSs, evS, ev, evA, evCs, evSrc, h1, hs, k1, h2, hr, Src.many, q1, q5, sizeLine_eq, ME.held, t.len, leaveT q4, -List.map_map]
end K13

set_option maxHeartbeats 4000000
namespace K13
open PySem L2 U
/-! ### the state: the script, the tape, what stands behind them -/
def TR (ns : List Int) (R : Store) (st : Store) : Prop := ∃ p q z, 0 ≤ p ∧ 0 ≤ q ∧ 0 ≤ z ∧ st = .lst (ns.map .int) :: .lst (tp 0 p q z) :: R
variable {ns : List Int} {R : Store} {st : Store}
theorem TR.len (h : TR ns R st) : st.length = R.length + 2 := by
  obtain ⟨p, q, z, _, _, _, rfl⟩ := h
  rfl
theorem TR.of (h : T ns st) : TR ns [] st := by
  obtain ⟨p, q, z, h1, h2, h3, rfl⟩ := h
  exact ⟨p, q, z, h1, h2, h3, rfl⟩
theorem TR.push (h : TR ns R st) (c : Store) : TR ns (R ++ c) (st ++ c) := by
  obtain ⟨p, q, z, h1, h2, h3, rfl⟩ := h
  exact ⟨p, q, z, h1, h2, h3, rfl⟩
theorem TR.at (h : TR ns R st) (n : Nat) : st[n + 2]? = R[n]? := by
  obtain ⟨p, q, z, h1, h2, h3, rfl⟩ := h
  rfl
theorem TR.set (h : TR ns R st) (n : Nat) (xs : List PV) : TR ns (R.set n (.lst xs)) (setAt st (n + 2) xs) := by
  obtain ⟨p, q, z, h1, h2, h3, rfl⟩ := h
  exact ⟨p, q, z, h1, h2, h3, rfl⟩
theorem drawR {k : Nat} {m : Int} (h : TR ns R st) (hm : 1 ≤ m ∧ m < 1000000) : ∃ r st', evCall TURNS D (k + 1) 5 [.loc 1, .int m] st = .ok (.int r) st' ∧ TR ns R st' ∧ 0 ≤ r ∧ r < m := by
  obtain ⟨p, q, z, hp, hq, hz, rfl⟩ := h
  obtain ⟨r, p', q', z', h1, h2, h3, h4, h5, h6⟩ := draw_ok (k := k) (st := .lst (ns.map .int) :: .lst (tp 0 p q z) :: R) (t := 1) (c := 0) (ns := ns) rfl rfl hp hq hz hm.2
  exact ⟨r, _, h1, ⟨p', q', z', h4, h5, h6, rfl⟩, h2, by omega⟩
/-- a call's end where the store is as long as it was -/
theorem TR.leave (h : TR ns R st) {R' : Store} {st' : Store} (h' : TR ns R' st') (e : R'.length = R.length) (v : PV) : leave st.length v st' = .ok v st' := leave_same (by rw [h.len, h'.len]; omega)
mutual
/-- nothing in it is shared -/
def PV.pure : PV → Bool
  | .tup xs => PV.pureL xs
  | .fl _ => false
  | .rol _ => false
  | .loc _ => false
  | _ => true
def PV.pureL : List PV → Bool
  | [] => true
  | x :: xs => PV.pure x && PV.pureL xs
end
mutual
theorem PV.pure_low (n : Nat) : ∀ v : PV, PV.pure v = true → PV.low n v = true
  | .tup xs, h => PV.pureL_low n xs h
  | .non, _ => rfl
  | .bl _, _ => rfl
  | .int _, _ => rfl
  | .str _, _ => rfl
theorem PV.pureL_low (n : Nat) : ∀ v : List PV, PV.pureL v = true → PV.lowL n v = true
  | [], _ => rfl
  | x :: xs, h => by
    have h : (PV.pure x && PV.pureL xs) = true := h
    rw [Bool.and_eq_true] at h
    show (PV.low n x && PV.lowL n xs) = true
    rw [PV.pure_low n x h.1, PV.pureL_low n xs h.2]; rfl
end
theorem pure_nofl {v : PV} (h : PV.pure v = true) : v.isFl = false := by cases v <;> first | rfl | cases h
def Cell.pure : Cell → Bool
  | .lst xs => PV.pureL xs
theorem lowL_ints (n : Nat) : ∀ l : List Int, PV.lowL n (l.map .int) = true
  | [] => rfl
  | _ :: l => lowL_ints n l
/-- a call's end where the store has grown -/
theorem TR.drop (h : TR ns R st) {R' C : Store} {st' : Store} (h' : TR ns (R' ++ C) st') (e : R'.length = R.length) (hR : R'.all Cell.pure = true) {v : PV} (hv : PV.pure v = true) :
    ∃ st2, U.leave st.length v st' = .ok v st2 ∧ TR ns R' st2 := by
  have l1 := h.len
  have l2 := h'.len
  obtain ⟨p, q, z, h1, h2, h3, rfl⟩ := h'
  unfold U.leave
  split
  · rename_i hl
    have : C = [] := by
      cases C with
      | nil => rfl
      | cons c C => simp at hl; omega
    subst this
    exact ⟨_, rfl, p, q, z, h1, h2, h3, by simp⟩
  · have et : (Cell.lst (ns.map .int) :: Cell.lst (tp 0 p q z) :: (R' ++ C)).take st.length = Cell.lst (ns.map .int) :: Cell.lst (tp 0 p q z) :: R' := by
      rw [l1, ← e]
      simp
    rw [et]
    have c1 : PV.low st.length v = true := PV.pure_low _ _ hv
    have c2 : (Cell.lst (ns.map .int) :: Cell.lst (tp 0 p q z) :: R').all (Cell.low st.length) = true := by
      rw [List.all_cons, List.all_cons, Bool.and_eq_true, Bool.and_eq_true]
      refine ⟨lowL_ints _ _, ?_, ?_⟩
      · show (decide (0 < st.length) && true) = true
        simp; omega
      · rw [List.all_eq_true] at hR ⊢
        intro c hc
        have := hR c hc
        cases c with
        | lst xs => exact PV.pureL_low _ _ this
    rw [c1, c2]
    exact ⟨_, rfl, p, q, z, h1, h2, h3, rfl⟩
theorem choose_on {α β : Type} [Inhabited β] {xs : List α} {P : α → β → Prop} (h : ∀ x ∈ xs, ∃ y, P x y) : ∃ f : α → β, ∀ x ∈ xs, P x (f x) := by
  classical
  exact ⟨fun x => if hx : x ∈ xs then Classical.choose (h x hx) else default, fun x hx => by
    show P x (if hx : x ∈ xs then Classical.choose (h x hx) else default)
    rw [dif_pos hx]; exact Classical.choose_spec (h x hx)⟩
/-! ### sizes -/
mutual
/-- how many tuples that begin with a word are in it -/
def pz : PV → Nat
  | .tup xs => pzT xs
  | _ => 0
def pzT : List PV → Nat
  | [] => 0
  | x :: xs => (match x with | .str _ => 1 | _ => 0) + pz x + pzL xs
def pzL : List PV → Nat
  | [] => 0
  | x :: xs => pz x + pzL xs
end
@[simp] theorem pz_str (s : Str) : pz (.str s) = 0 := by simp [pz]
@[simp] theorem pz_bl (s : Bool) : pz (.bl s) = 0 := by simp [pz]
@[simp] theorem pz_int (s : Int) : pz (.int s) = 0 := by simp [pz]
@[simp] theorem pz_non : pz .non = 0 := by simp [pz]
@[simp] theorem pzL_nil : pzL [] = 0 := by simp [pzL]
@[simp] theorem pzL_cons (x : PV) (xs : List PV) : pzL (x :: xs) = pz x + pzL xs := by simp [pzL]
@[simp] theorem pz_node (s : Str) (xs : List PV) : pz (.tup (.str s :: xs)) = 1 + pzL xs := by simp [pz, pzT]
@[simp] theorem pzL_app : ∀ (xs ys : List PV), pzL (xs ++ ys) = pzL xs + pzL ys
  | [], ys => by simp
  | x :: xs, ys => by simp [pzL_app xs ys]; omega
/-- a tuple that doesn't begin with a text -/
def noStr : List PV → Prop
  | .str _ :: _ => False
  | _ => True
theorem pz_body {xs : List PV} (h : noStr xs) : pz (.tup xs) = pzL xs := by
  cases xs with
  | nil => simp [pz, pzT]
  | cons x xs => cases x <;> first | exact h.elim | simp [pz, pzT]
theorem noStr_of {xs : List PV} (h : ∀ x ∈ xs, ∃ ys, x = .tup ys) : noStr xs := by
  cases xs with
  | nil => trivial
  | cons x xs => obtain ⟨ys, rfl⟩ := h x List.mem_cons_self; trivial
theorem pzL_mem {x : PV} : ∀ {xs : List PV}, x ∈ xs → pz x ≤ pzL xs
  | y :: ys, h => by
    rcases List.mem_cons.mp h with rfl | h
    · simp
    · have := pzL_mem h
      simp; omega
/-! ### conditions -/
/-- the word that a tuple begins with -/
def hd : PV → Option Str
  | .tup (.str k :: _) => some k
  | _ => none
def WF (v : PV) : Prop := ∃ k x : Str, (k = "call" ∨ k = "flag") ∧ B 60 x ∧ v = .tup [.str k, .str x]
def WC : Nat → PV → Prop
  | 0, v => WF v
  | d + 1, v => WF v ∨ (∃ c, v = .tup [.str "not", c] ∧ WC d c) ∨ ∃ (k : Str) (cs : List PV), (k = "and" ∨ k = "or") ∧ v = .tup [.str k, .tup cs] ∧ ∀ c ∈ cs, WC d c ∧ hd c ≠ some k
theorem WC.leaf {v : PV} (d : Nat) (h : WF v) : WC d v := by
  cases d with
  | zero => exact h
  | succ d => exact .inl h
theorem WC.up {v : PV} : ∀ {d : Nat}, WC d v → WC (d + 1) v := by
  intro d
  induction d generalizing v with
  | zero => exact fun h => .inl h
  | succ d ih =>
    intro h
    rcases h with h | ⟨c, e, h⟩ | ⟨k, cs, hk, e, h⟩
    · exact .inl h
    · exact .inr (.inl ⟨c, e, ih h⟩)
    · exact .inr (.inr ⟨k, cs, hk, e, fun c hc => ⟨ih (h c hc).1, (h c hc).2⟩⟩)
theorem WC.mono {v : PV} {d e : Nat} (h : WC d v) (l : d ≤ e) : WC e v := by
  induction l with
  | refl => exact h
  | step _ ih => exact ih.up
theorem WC.tup {v : PV} {d : Nat} (h : WC d v) : ∃ (k : Str) (x : PV), v = .tup [.str k, x] ∧ (k = "call" ∨ k = "flag" ∨ k = "not" ∨ k = "and" ∨ k = "or") := by
  have l : WF v → ∃ (k : Str) (x : PV), v = .tup [.str k, x] ∧ (k = "call" ∨ k = "flag" ∨ k = "not" ∨ k = "and" ∨ k = "or") := fun ⟨k, x, hk, _, e⟩ => ⟨k, .str x, e, by rcases hk with h | h <;> simp [h]⟩
  cases d with
  | zero => exact l h
  | succ d =>
    rcases h with h | ⟨c, e, h⟩ | ⟨k, cs, hk, e, h⟩
    · exact l h
    · exact ⟨_, _, e, by simp⟩
    · exact ⟨_, _, e, by rcases hk with h | h <;> simp [h]⟩
theorem WC.pos {v : PV} {d : Nat} (h : WC d v) : 1 ≤ pz v := by
  obtain ⟨k, x, rfl, _⟩ := h.tup
  simp
theorem pz_many {cs : List PV} (h : ∀ c ∈ cs, 1 ≤ pz c) : cs.length ≤ pzL cs := by
  induction cs with
  | nil => simp
  | cons c cs ih =>
    have := h c List.mem_cons_self
    have := ih fun x hx => h x (List.mem_cons_of_mem _ hx)
    simp; omega
theorem WC.pure {v : PV} {d : Nat} (h : WC d v) : PV.pure v = true := by
  have l : ∀ {v}, WF v → PV.pure v = true := fun ⟨k, x, hk, _, e⟩ => by subst e; rfl
  induction d generalizing v with
  | zero => exact l h
  | succ d ih =>
    rcases h with h | ⟨c, e, h⟩ | ⟨k, cs, hk, e, h⟩
    · exact l h
    · subst e
      show (true && (PV.pure c && true)) = true
      rw [ih h]; rfl
    · subst e
      show (true && (PV.pureL cs && true)) = true
      have : ∀ cs : List PV, (∀ c ∈ cs, PV.pure c = true) → PV.pureL cs = true := fun cs => by
        induction cs with
        | nil => intro _; rfl
        | cons c cs ih2 =>
          intro q
          show (PV.pure c && PV.pureL cs) = true
          rw [q c List.mem_cons_self, ih2 fun x hx => q x (List.mem_cons_of_mem _ hx)]; rfl
      rw [this cs fun c hc => ih (h c hc).1]; rfl
theorem pureL_of : ∀ {cs : List PV}, (∀ c ∈ cs, PV.pure c = true) → PV.pureL cs = true
  | [], _ => rfl
  | c :: cs, q => by
    show (PV.pure c && PV.pureL cs) = true
    rw [q c List.mem_cons_self, pureL_of fun x hx => q x (List.mem_cons_of_mem _ hx)]; rfl
end K13

set_option maxHeartbeats 4000000
namespace K13
open PySem L2 U
variable {ns : List Int} {R : Store} {st : Store}
/-! ### the number of parts -/
theorem intsL_map {α : Type} (f : α → Int) : ∀ l : List α, intsL (l.map fun x => .int (f x)) = some (l.map f)
  | [] => rfl
  | x :: r => by
    show (intsL (r.map fun x => .int (f x))).map (f x :: ·) = _
    rw [intsL_map f r]; rfl
theorem sum_pz : ∀ cs : List PV, ((cs.map fun c => (pz c : Int)).sum) = (pzL cs : Int)
  | [] => rfl
  | c :: cs => by
    rw [List.map_cons, List.sum_cons, sum_pz cs, pzL_cons]; omega
theorem map_inj {α β : Type} {f : α → β} (hf : ∀ a b, f a = f b → a = b) : ∀ {xs ys : List α}, xs.map f = ys.map f → xs = ys
  | [], [], _ => rfl
  | [], _ :: _, h => by cases h
  | _ :: _, [], h => by cases h
  | x :: xs, y :: ys, h => by
    rw [List.map_cons, List.map_cons] at h
    injection h with h1 h2
    rw [hf _ _ h1, map_inj hf h2]
@[simp] theorem ofS (a b : String) : (Str.ofString a = Str.ofString b) ↔ a = b := by
  refine ⟨fun h => ?_, fun h => by rw [h]⟩
  have h := congrArg TL.tl h
  rw [TL.tl_ofString, TL.tl_ofString] at h
  exact String.toList_inj.mp (map_inj (fun a b e => Char.toNat_inj.mp e) h)
theorem esc_p {v : PV} (h : PV.pure v = true) (st : Store) : esc v st = (v, st) := by cases v <;> first | rfl | cases h
theorem varV_p {v : PV} (h : PV.pure v = true) (st : Store) : varV .val (some (some v)) st = .ok v st := by cases v <;> first | rfl | cases h
/-- a comprehension over items that leaves the store -/
theorem lc_each {call : Nat → List PV → Store → Res PV} {elt : ME} {i : Nat} {env : En} {xs : List PV} {st : Store} (f : PV → PV) (hz : xs.length < 16000000) (hi : i < env.length)
    (h : ∀ x ∈ xs, ∀ env' : En, env' = env.set i (some x) → env'[i]? = some (some x) → ev call elt .val env' st = .ok (f x) st ∧ (f x).isFl = false) :
    lcLoop (fun _ s => .ok true s) (ev call elt .val) (MG.put (.nm i)) env (.items xs) 0 xs.length [] st = .ok (.fl (xs.map f)) st := by
  rw [lcLoop_pure (put := MG.put (.nm i)) (elt := ev call elt .val) (test := fun _ s => .ok true s) (fun _ => true) f (by rw [sizeLine_eq]; omega) (fun x hx => ⟨env.set i (some x), rfl, rfl, fun _ => h x hx _ rfl (by simp [hi])⟩)]
  rw [List.filter_eq_self.mpr (fun _ _ => rfl)]
theorem parts_ok : ∀ (d k : Nat) (c : PV) (st : Store), WC d c → pz c ≤ 100000 → evCall TURNS D (k + d + 1) 27 [c] st = .ok (.int (pz c)) st := by
  have l : ∀ (k : Nat) (c : PV) (st : Store), WF c → evCall TURNS D (k + 1) 27 [c] st = .ok (.int (pz c)) st := by
    rintro k c st ⟨w, x, hw, _, rfl⟩
    rcases hw with rfl | rfl <;> (rw [evCall]; simp [D, d27, evSs, evS, ev, evA, evCs, ME.held, leave_id])
  intro d
  induction d with
  | zero => exact fun k c st h _ => l k c st h
  | succ d ih =>
    intro k c st h hz
    rcases h with h | ⟨c, rfl, h⟩ | ⟨w, cs, hw, rfl, h⟩
    · exact l _ c st h
    · have i := ih k c st h (by simp at hz; omega)
      rw [show k + (d + 1) + 1 = (k + d + 1) + 1 by omega, evCall]
      simp [D, d27, evSs, evS, ev, evA, evCs, ME.held, leave_id, i, esc_p h.pure]
    · have np := noStr_of fun c hc => by obtain ⟨w, x, e, _⟩ := (h c hc).1.tup; exact ⟨_, e⟩
      simp only [pz_node, pzL_cons, pzL_nil, pz_body np] at hz ⊢
      have hl := pz_many fun c hc => (h c hc).1.pos
      have lc : ∀ env : En, env.length = 2 → lcLoop (fun _ s => .ok true s) (ev (evCall TURNS D (k + d + 1)) e27_0 .val) (MG.put (.nm 1)) env (.items cs) 0 cs.length [] st = .ok (.fl (cs.map fun c => .int (pz c))) st := fun env he => by
        refine lc_each (fun c => .int (pz c)) (by omega) (by omega) fun c hc env' _ h2 => ⟨?_, rfl⟩
        have i := ih k c st (h c hc).1 (by have := pzL_mem hc; omega)
        simp [e27_0, ev, evA, h2, varV_p (h c hc).1.pure, esc_p (h c hc).1.pure, i]
      have sm : biV .sum [.fl (cs.map fun c => .int (pz c))] st = some (.int (pzL cs)) := by
        show (intsL (cs.map fun c => .int (pz c))).map (fun ns => PV.int ns.sum) = _
        rw [intsL_map, Option.map_some, sum_pz]
      rw [show k + (d + 1) + 1 = (k + d + 1) + 1 by omega, evCall]
      rcases hw with rfl | rfl <;> simp [D, d27, evSs, evS, ev, evA, evCs, ME.held, leave_id, srcV, Src.many, lc, sm, MG.slots, U.wipe]
end K13

set_option maxHeartbeats 4000000
namespace K13
open PySem L2 U
variable {ns : List Int} {R : Store} {st : Store}
theorem app_assoc (a b c : Str) : a ++ b ++ c = a ++ (b ++ c) := TL.ext_tl (by rw [TL.tl_append, TL.tl_append, TL.tl_append, TL.tl_append, List.append_assoc])
theorem app_nil (a : Str) : a ++ ("" : Str) = a := TL.ext_tl (by rw [TL.tl_append, show TL.tl ("" : Str) = [] by decide +kernel, List.append_nil])
theorem nil_app (a : Str) : ("" : Str) ++ a = a := TL.ext_tl (by rw [TL.tl_append, show TL.tl ("" : Str) = [] by decide +kernel, List.nil_append])
/-! ### conditions shown -/
def par (t : Str) : Str := "(" ++ t ++ ")"
theorem par_B {n : Nat} {t : Str} (h : B n t) : B (n + 2) (par t) := (((B.of (n := 1) (by decide +kernel)).app h).app (B.of (n := 1) (x := ")") (by decide +kernel))).mono (by omega)
theorem join_B {a : Str} {m : Nat} (ha : B m a) : ∀ (ys : List Str), (∀ y ∈ ys, ∀ c ∈ y.cps.toList, c < 256) → B ((ys.map (·.length)).sum + m * ys.length) (Txt.join a ys) := by
  intro ys
  rw [TL.join_eq]
  induction ys with
  | nil => exact fun _ => ⟨Nat.zero_le _, fun c hc => by cases hc⟩
  | cons y ys ih =>
    intro h
    have hy : B y.length y := ⟨Nat.le_refl _, h y List.mem_cons_self⟩
    have i := ih fun z hz => h z (List.mem_cons_of_mem _ hz)
    cases ys with
    | nil =>
      show B _ y
      exact hy.mono (by simp)
    | cons z zs =>
      show B _ (y ++ a ++ Str.join a (z :: zs))
      refine ((hy.app ha).app i).mono ?_
      simp only [List.map_cons, List.sum_cons, List.length_cons, Nat.mul_add]
      omega
theorem ins_ok {k : Nat} {w t : Str} {x : PV} {ks : List PV} {b : Bool} {st : Store} (h : evCall TURNS D k 85 [.tup [.str w, x]] st = .ok (.str t) st) (ht : t.length ≤ 99000) (hb : cmpV .inn (.str w) (.tup ks) st = some b) :
    evCall TURNS D (k + 1) 86 [.tup [.str w, x], .tup ks] st = .ok (.str (if b then par t else t)) st := by
  have a1 := add_ok (x := ("(" : Str)) (y := t) (st := st) (by decide +kernel) (by omega)
  have a2 := add_ok (x := ("(" : Str) ++ t) (y := ")") (st := st) (by rw [len_app, show Str.length "(" = 1 by decide +kernel]; omega) (by decide +kernel)
  rw [evCall]
  cases b <;> simp [D, d86, evSs, evS, ev, evA, evCs, ME.held, leave_id, hb, h, a1, a2, par]
theorem in2 (st : Store) : cmpV .inn (.str "call") (.tup [.str "and", .str "or"]) st = some false ∧ cmpV .inn (.str "flag") (.tup [.str "and", .str "or"]) st = some false ∧ cmpV .inn (.str "not") (.tup [.str "and", .str "or"]) st = some false ∧
    cmpV .inn (.str "and") (.tup [.str "and", .str "or"]) st = some true ∧ cmpV .inn (.str "or") (.tup [.str "and", .str "or"]) st = some true := by
  refine ⟨rfl, rfl, rfl, rfl, rfl⟩
theorem in1 (st : Store) : cmpV .inn (.str "call") (.tup [.str "or"]) st = some false ∧ cmpV .inn (.str "flag") (.tup [.str "or"]) st = some false ∧ cmpV .inn (.str "not") (.tup [.str "or"]) st = some false ∧
    cmpV .inn (.str "and") (.tup [.str "or"]) st = some false ∧ cmpV .inn (.str "or") (.tup [.str "or"]) st = some true := by
  refine ⟨rfl, rfl, rfl, rfl, rfl⟩
theorem dv1 : dixV [("and", .str " && "), ("or", .str " || ")] (.str "and") = some (.str " && ") := rfl
theorem dv2 : dixV [("and", .str " && "), ("or", .str " || ")] (.str "or") = some (.str " || ") := rfl
instance : Inhabited Str := ⟨Str.empty⟩
theorem sums_le {f : PV → Str} : ∀ {cs : List PV}, (∀ c ∈ cs, (f c).length + 4 ≤ 70 * pz c) → (cs.map fun c => (f c).length).sum + 4 * cs.length ≤ 70 * pzL cs
  | [], _ => by simp
  | c :: cs, h => by
    have i := sums_le fun x hx => h x (List.mem_cons_of_mem _ hx)
    have j := h c List.mem_cons_self
    simp only [List.map_cons, List.sum_cons, List.length_cons, pzL_cons]
    omega
theorem shown_ok : ∀ (d : Nat) (c : PV), WC d c → pz c ≤ 1000 → ∃ t : Str, B (70 * pz c - 6) t ∧ (∀ k st, evCall TURNS D (k + 2 * d + 2) 85 [c] st = .ok (.str t) st) ∧ ∀ k st, evCall TURNS D (k + d + 1) 93 [c] st = .ok (.str t) st := by
  have l : ∀ (c : PV), WF c → ∃ t : Str, B 64 t ∧ (∀ k st, evCall TURNS D (k + 1) 85 [c] st = .ok (.str t) st) ∧ ∀ k st, evCall TURNS D (k + 1) 93 [c] st = .ok (.str t) st := by
    rintro c ⟨w, x, hw, hx, rfl⟩
    have hl := hx.1
    rcases hw with rfl | rfl
    · refine ⟨x ++ "()", (hx.app (.of (n := 2) (by decide +kernel))).mono (by omega), fun k st => ?_, fun k st => ?_⟩
      · have a := add_ok (x := x) (y := "()") (st := st) (by omega) (by decide +kernel)
        rw [evCall]; simp [D, d85, evSs, evS, ev, evA, evCs, ME.held, leave_id, setEach, a]
      · have a := add_ok (x := x) (y := "()") (st := st) (by omega) (by decide +kernel)
        rw [evCall]; simp [D, d93, evSs, evS, ev, evA, evCs, ME.held, leave_id, setEach, a]
    · refine ⟨x, hx.mono (by omega), fun k st => ?_, fun k st => ?_⟩
      · rw [evCall]; simp [D, d85, evSs, evS, ev, evA, evCs, ME.held, leave_id, setEach]
      · rw [evCall]; simp [D, d93, evSs, evS, ev, evA, evCs, ME.held, leave_id, setEach]
  have l2 : ∀ (d : Nat) (c : PV), WF c → ∃ t : Str, B (70 * pz c - 6) t ∧ (∀ k st, evCall TURNS D (k + 2 * d + 2) 85 [c] st = .ok (.str t) st) ∧ ∀ k st, evCall TURNS D (k + d + 1) 93 [c] st = .ok (.str t) st := fun d c h => by
    obtain ⟨t, h1, h2, h3⟩ := l c h
    exact ⟨t, h1.mono (by have := (WC.leaf 0 h).pos; omega), fun k st => h2 _ st, fun k st => h3 _ st⟩
  intro d
  induction d with
  | zero => exact fun c h _ => l2 0 c h
  | succ d ih =>
    intro c h hz
    rcases h with h | ⟨c, rfl, h⟩ | ⟨w, cs, hw, rfl, h⟩
    · exact l2 _ c h
    · simp only [pz_node, pzL_cons, pzL_nil] at hz ⊢
      obtain ⟨t, h1, h2, h3⟩ := ih c h (by omega)
      have hp := h.pos
      have hl := h1.1
      obtain ⟨w, x, rfl, hw⟩ := h.tup
      have px := h.pure
      have px : PV.pure x = true := by
        have px : (true && (PV.pure x && true)) = true := px
        simpa using px
      have f : ∃ b : Bool, (∀ st, cmpV .inn (.str w) (.tup [.str "and", .str "or"]) st = some b) ∧ (b = true ↔ (w = "and" ∨ w = "or")) := by
        rcases hw with rfl | rfl | rfl | rfl | rfl
        · exact ⟨false, fun st => (in2 st).1, by simp⟩
        · exact ⟨false, fun st => (in2 st).2.1, by simp⟩
        · exact ⟨false, fun st => (in2 st).2.2.1, by simp⟩
        · exact ⟨true, fun st => (in2 st).2.2.2.1, by simp⟩
        · exact ⟨true, fun st => (in2 st).2.2.2.2, by simp⟩
      obtain ⟨b, hb, hb2⟩ := f
      generalize hN : pz (.tup [.str w, x]) = N at *
      have pB := par_B h1
      refine ⟨"!" ++ if b then par t else t, ?_, fun k st => ?_, fun k st => ?_⟩
      · refine ((B.of (n := 1) (x := "!") (by decide +kernel)).app (show B (70 * N - 6 + 2) _ from ?_)).mono (by omega)
        cases b
        · exact h1.mono (by omega)
        · exact pB
      · have i := ins_ok (h2 k st) (by omega) (hb st)
        generalize hQ : (if b = true then par t else t) = Q at *
        have a := add_ok (x := ("!" : Str)) (y := Q) (st := st) (by decide +kernel) (by
          rw [← hQ]; have := pB.1; split <;> omega)
        rw [show k + 2 * (d + 1) + 2 = (k + 2 * d + 2 + 1) + 1 by omega, evCall]
        simp [D, d85, evSs, evS, ev, evA, evCs, ME.held, leave_id, setEach, i, a, sizeLine_eq]
      · have i := h3 k st
        have a1 := add_ok (x := ("!(" : Str)) (y := t) (st := st) (by decide +kernel) (by omega)
        have a2 := add_ok (x := ("!(" : Str) ++ t) (y := ")") (st := st) (by rw [len_app, show Str.length "!(" = 2 by decide +kernel]; omega) (by decide +kernel)
        have a3 := add_ok (x := ("!" : Str)) (y := t) (st := st) (by decide +kernel) (by omega)
        have e1 : ("!(" : Str) ++ t ++ ")" = "!" ++ par t := by
          unfold par
          rw [show ("!(" : Str) = "!" ++ "(" by decide +kernel]
          simp only [app_assoc]
        rw [show k + (d + 1) + 1 = (k + d + 1) + 1 by omega, evCall]
        cases b
        · have n1 : ¬ w = "and" := fun z => by simp [z] at hb2
          have n2 : ¬ w = "or" := fun z => by simp [z] at hb2
          simp [D, d93, evSs, evS, ev, evA, evCs, ME.held, leave_id, i, a1, a2, a3, n1, n2]
        · rcases hb2.mp rfl with rfl | rfl <;> simp [D, d93, evSs, evS, ev, evA, evCs, ME.held, leave_id, i, a1, a2, a3, e1]
    · have np := noStr_of fun c hc => by obtain ⟨w, x, e, _⟩ := (h c hc).1.tup; exact ⟨_, e⟩
      simp only [pz_node, pzL_cons, pzL_nil, pz_body np] at hz ⊢
      have hl := pz_many fun c hc => (h c hc).1.pos
      obtain ⟨f, hf⟩ := choose_on fun c hc => ih c (h c hc).1 (by have := pzL_mem hc; omega)
      let g : PV → Str := fun c => if hd c = some ("or" : Str) then par (f c) else f c
      have hg : ∀ c ∈ cs, B (70 * pz c - 4) (g c) := fun c hc => by
        obtain ⟨h1, _, _⟩ := hf c hc
        have := (h c hc).1.pos
        show B _ (if hd c = some ("or" : Str) then par (f c) else f c)
        split
        · exact (par_B h1).mono (by omega)
        · exact h1.mono (by omega)
      have hs := sums_le (f := g) fun c hc => by have := (hg c hc).1; have := (h c hc).1.pos; omega
      have e1 : ∀ k st c, c ∈ cs → evCall TURNS D (k + 2 * d + 2 + 1) 86 [c, .tup [.str "or"]] st = .ok (.str (g c)) st := fun k st c hc => by
        obtain ⟨h1, h2, h3⟩ := hf c hc
        have hz2 := pzL_mem hc
        have hl := h1.1
        obtain ⟨w, x, e, hw⟩ := (h c hc).1.tup
        have hq := h2 k st
        show _ = Res.ok (PV.str (if hd c = some ("or" : Str) then par (f c) else f c)) st
        generalize f c = t at *
        subst e
        have := fun b hb => ins_ok (ks := [.str "or"]) (b := b) hq (by omega) hb
        rcases hw with rfl | rfl | rfl | rfl | rfl
        · rw [this _ (in1 st).1]; simp [hd]
        · rw [this _ (in1 st).2.1]; simp [hd]
        · rw [this _ (in1 st).2.2.1]; simp [hd]
        · rw [this _ (in1 st).2.2.2.1]; simp [hd]
        · rw [this _ (in1 st).2.2.2.2]; simp [hd]
      have e2 : ∀ k st (env : En), env.length = 5 → lcLoop (fun _ s => .ok true s) (ev (evCall TURNS D (k + 2 * d + 2 + 1)) e85_0 .val) (MG.put (.nm 4)) env (.items cs) 0 cs.length [] st = .ok (.fl (cs.map fun c => PV.str (g c))) st := fun k st env he => by
        refine lc_each (fun c => PV.str (g c)) (by omega) (by omega) fun c hc env' _ h2 => ⟨?_, rfl⟩
        have i := e1 k st c hc
        simp [e85_0, ev, evA, h2, varV_p (h c hc).1.pure, esc_p (h c hc).1.pure, i, sizeLine_eq]
      have gl : ∀ c ∈ cs, (g c).length ≤ 70000 := fun c hc => by have := (hg c hc).1; have := pzL_mem hc; omega
      have jB : ∀ sep : Str, B 4 sep → B (70 * (1 + pzL cs) - 6) (Txt.join sep (cs.map g)) := fun sep hsep => by
        refine (join_B hsep (cs.map g) fun y hy => ?_).mono ?_
        · obtain ⟨c, hc, rfl⟩ := List.mem_map.mp hy
          exact (hg c hc).2
        · rw [List.map_map, List.length_map]
          have : (List.map ((fun x : Str => x.length) ∘ g) cs).sum = (cs.map fun c => (g c).length).sum := rfl
          omega
      have jn : ∀ (sep : Str) (st : Store), sep.length ≤ 4 → mtV .join (.str sep) [.fl (cs.map fun c => PV.str (g c))] st = .ok (.str (Txt.join sep (cs.map g))) st := fun sep st hsep => by
        unfold mtV
        simp only [seq_fl]
        rw [strsL_map]
        simp only []
        rw [if_pos]
        rw [List.map_map, List.length_map]
        have : (List.map ((fun x : Str => x.length) ∘ g) cs).sum = (cs.map fun c => (g c).length).sum := rfl
        have h3 := Nat.mul_le_mul_right cs.length hsep
        omega
      have e3 : ∀ k st x1 x3, ∃ x1' x3', forLoop (MG.put (.nm 3)) (evSs (evCall TURNS D (k + d + 1)) TURNS b93_0) (.items cs) 0 cs.length [some (.tup [.str w, .tup cs]), x1, some (.fl []), x3] st
          = .nx [some (.tup [.str w, .tup cs]), x1', some (.fl (cs.map fun c => PV.str (g c))), x3'] st := fun k st x1 x3 => by
        obtain ⟨e, s, q1, x1', x3', q2, q3⟩ := forLoop_inv (put := MG.put (.nm 3)) (body := evSs (evCall TURNS D (k + d + 1)) TURNS b93_0) (xs := cs)
          (fun j env s => ∃ x1 x3, s = st ∧ env = [some (.tup [.str w, .tup cs]), x1, some (.fl ((cs.take j).map fun c => PV.str (g c))), x3]) (fun j x env s hx ⟨x1, x3, e1, e2⟩ => by
            subst e1 e2
            have hm := List.mem_of_getElem? hx
            obtain ⟨h1, h2, h3⟩ := hf x hm
            have h3 := h3 k s
            have hz2 := pzL_mem hm
            have hl := h1.1
            have hne := (h x hm).2
            have hj : (cs.take j).length ≤ cs.length := by rw [List.length_take]; omega
            have ht : cs.take (j + 1) = cs.take j ++ [x] := by rw [List.take_add_one, hx]; rfl
            have hgx : g x = if hd x = some ("or" : Str) then par (f x) else f x := rfl
            have p1 := (h x hm).1.pure
            obtain ⟨w2, y, e, hw2⟩ := (h x hm).1.tup
            refine ⟨[some (.tup [.str w, .tup cs]), x1, some (.fl ((cs.take j).map fun c => PV.str (g c))), some x], rfl, ?_⟩
            rw [ht, List.map_append, List.map_cons, List.map_nil, hgx]
            have hjl : ((cs.take j).map fun c => PV.str (g c)).length < 16777216 := by rw [List.length_map]; omega
            generalize ((cs.take j).map fun c => PV.str (g c)) = acc at *
            generalize f x = t at *
            have a1 := add_ok (x := ("(" : Str)) (y := t) (st := s) (by decide +kernel) (by omega)
            have a2 := add_ok (x := ("(" : Str) ++ t) (y := ")") (st := s) (by rw [len_app, show Str.length "(" = 1 by decide +kernel]; omega) (by decide +kernel)
            subst e
            have esc1 := fun st => esc_p p1 st
            rcases hw with rfl | rfl <;> rcases hw2 with rfl | rfl | rfl | rfl | rfl <;> first
              | exact absurd rfl hne
              | (simp [b93_0, evSs, evS, ev, evA, evCs, h3, a1, a2, hjl, sizeLine_eq, hd, par]; done)
              | (simp [b93_0, evSs, evS, ev, evA, evCs, h3, a1, a2, hjl, sizeLine_eq, hd, par]; exact ⟨_, _, ⟨rfl, rfl⟩, rfl⟩)) cs.length 0 [some (.tup [.str w, .tup cs]), x1, some (.fl []), x3] st (by simp) ⟨x1, x3, rfl, by simp⟩
        exact ⟨x1', x3', by rw [q1, q2, q3]; simp⟩
      rcases hw with rfl | rfl
      · refine ⟨Txt.join " && " (cs.map g), jB _ (.of (by decide +kernel)), fun k st => ?_, fun k st => ?_⟩
        · have j := jn " && " st (by decide +kernel)
          have q := e2 k st
          rw [show k + 2 * (d + 1) + 2 = (k + 2 * d + 2 + 1) + 1 by omega, evCall]
          simp [D, d85, evSs, evS, ev, evA, evCs, ME.held, leave_id, setEach, dv1, dv2, srcV, Src.many, MG.slots, U.wipe, q, j]
        · have j := jn " && " st (by decide +kernel)
          obtain ⟨x1', x3', q⟩ := e3 k st none none
          rw [show k + (d + 1) + 1 = (k + d + 1) + 1 by omega, evCall]
          simp [D, d93, evSs, evS, ev, evA, evCs, ME.held, leave_id, evSrc, srcV, Src.many, MG.slots, U.wipe, q, j, sizeLine_eq]
      · refine ⟨Txt.join " || " (cs.map g), jB _ (.of (by decide +kernel)), fun k st => ?_, fun k st => ?_⟩
        · have j := jn " || " st (by decide +kernel)
          have q := e2 k st
          rw [show k + 2 * (d + 1) + 2 = (k + 2 * d + 2 + 1) + 1 by omega, evCall]
          simp [D, d85, evSs, evS, ev, evA, evCs, ME.held, leave_id, setEach, dv1, dv2, srcV, Src.many, MG.slots, U.wipe, q, j]
        · have j := jn " || " st (by decide +kernel)
          obtain ⟨x1', x3', q⟩ := e3 k st none none
          rw [show k + (d + 1) + 1 = (k + d + 1) + 1 by omega, evCall]
          simp [D, d93, evSs, evS, ev, evA, evCs, ME.held, leave_id, evSrc, srcV, Src.many, MG.slots, U.wipe, q, j, sizeLine_eq]
end K13

set_option maxHeartbeats 4000000
namespace K13
open PySem L2 U
variable {ns : List Int} {R : Store} {st : Store}
def LAB (v : PV) : Prop := v = .non ∨ ∃ x : Str, v = .str x ∧ B 60 x
def NUM (v : PV) : Prop := v = .non ∨ ∃ i : Int, v = .int i ∧ 0 ≤ i ∧ i < 100
inductive SH (P : List PV → Prop) : PV → Prop
  | call {x : Str} (h : B 60 x) : SH P (.tup [.str "call", .str x])
  | decl {w x : Str} {b : Bool} (hw : w = "let" ∨ w = "set") (h : B 60 x) : SH P (.tup [.str w, .str x, .bl b])
  | jump {w : Str} {l : PV} (hw : w = "break" ∨ w = "continue") (h : LAB l) : SH P (.tup [.str w, l])
  | ret {n : PV} (h : NUM n) : SH P (.tup [.str "return", n])
  | block {b : List PV} (h : P b) : SH P (.tup [.str "block", .tup b])
  | for_ {l : PV} {b : List PV} (hl : LAB l) (h : P b) : SH P (.tup [.str "for", l, .tup b])
  | try_ {a b : List PV} (h1 : P a) (h2 : P b) : SH P (.tup [.str "try", .tup a, .tup b])
  | while_ {l c : PV} {b : List PV} (hl : LAB l) (hc : WC 25 c) (h : P b) : SH P (.tup [.str "while", l, c, .tup b])
  | if_ {c : PV} {a b : List PV} (hc : WC 25 c) (h1 : P a) (h2 : P b) : SH P (.tup [.str "if", c, .tup a, .tup b])
def WS : Nat → PV → Prop
  | 0 => SH fun _ => False
  | d + 1 => SH fun b => ∀ s ∈ b, WS d s
theorem SH.imp {P P' : List PV → Prop} {v : PV} (h : SH P v) (i : ∀ b, P b → P' b) : SH P' v := by
  cases h with
  | call h => exact .call h
  | decl hw h => exact .decl hw h
  | jump hw h => exact .jump hw h
  | ret h => exact .ret h
  | block h => exact .block (i _ h)
  | for_ hl h => exact .for_ hl (i _ h)
  | try_ h1 h2 => exact .try_ (i _ h1) (i _ h2)
  | while_ hl hc h => exact .while_ hl hc (i _ h)
  | if_ hc h1 h2 => exact .if_ hc (i _ h1) (i _ h2)
theorem WS.up : ∀ {d : Nat} {v : PV}, WS d v → WS (d + 1) v := by
  intro d
  induction d with
  | zero => exact fun h => SH.imp h fun _ z => z.elim
  | succ d ih => exact fun h => SH.imp h fun b z s hs => ih (z s hs)
theorem WS.mono {d e : Nat} {v : PV} (h : WS d v) (l : d ≤ e) : WS e v := by
  induction l with
  | refl => exact h
  | step _ ih => exact ih.up
theorem WS.sh {d : Nat} {v : PV} (h : WS d v) : SH (fun b => ∀ s ∈ b, WS (d - 1) s) v := by
  cases d with
  | zero => exact SH.imp h fun _ z => z.elim
  | succ d => exact h
theorem SH.tup {P : List PV → Prop} {v : PV} (h : SH P v) : ∃ (k : Str) (xs : List PV), v = .tup (.str k :: xs) := by
  cases h <;> exact ⟨_, _, rfl⟩
theorem WS.tup {d : Nat} {v : PV} (h : WS d v) : ∃ (k : Str) (xs : List PV), v = .tup (.str k :: xs) := h.sh.tup
theorem WS.pos {d : Nat} {v : PV} (h : WS d v) : 1 ≤ pz v := by
  obtain ⟨k, xs, rfl⟩ := h.tup
  simp
theorem LAB.pure {v : PV} (h : LAB v) : PV.pure v = true := by rcases h with rfl | ⟨x, rfl, _⟩ <;> rfl
theorem NUM.pure {v : PV} (h : NUM v) : PV.pure v = true := by rcases h with rfl | ⟨x, rfl, _⟩ <;> rfl
theorem LAB.pz {v : PV} (h : LAB v) : pz v = 0 := by rcases h with rfl | ⟨x, rfl, _⟩ <;> simp
theorem NUM.pz {v : PV} (h : NUM v) : pz v = 0 := by rcases h with rfl | ⟨x, rfl, _⟩ <;> simp
theorem WS.pure {d : Nat} {v : PV} (h : WS d v) : PV.pure v = true := by
  have t : ∀ (k : Str) (xs : List PV), (∀ x ∈ xs, PV.pure x = true) → PV.pure (.tup (.str k :: xs)) = true := fun k xs h => by
    show (true && PV.pureL xs) = true
    rw [pureL_of h]; rfl
  have go : ∀ (P : List PV → Prop), (∀ b, P b → ∀ s ∈ b, PV.pure s = true) → ∀ {v : PV}, SH P v → PV.pure v = true := by
    intro P hP v h
    have tb : ∀ b, P b → PV.pure (.tup b) = true := fun b hb => pureL_of (hP b hb)
    cases h with
    | call h => rfl
    | decl hw h => rfl
    | jump hw h => exact t _ _ fun x hx => by rw [List.mem_singleton.mp hx]; exact h.pure
    | ret h => exact t _ _ fun x hx => by rw [List.mem_singleton.mp hx]; exact h.pure
    | block h => exact t _ _ fun x hx => by rw [List.mem_singleton.mp hx]; exact tb _ h
    | for_ hl h =>
      refine t _ _ fun x hx => ?_
      simp only [List.mem_cons, List.not_mem_nil, or_false] at hx
      rcases hx with rfl | rfl
      · exact hl.pure
      · exact tb _ h
    | try_ h1 h2 =>
      refine t _ _ fun x hx => ?_
      simp only [List.mem_cons, List.not_mem_nil, or_false] at hx
      rcases hx with rfl | rfl
      · exact tb _ h1
      · exact tb _ h2
    | while_ hl hc h =>
      refine t _ _ fun x hx => ?_
      simp only [List.mem_cons, List.not_mem_nil, or_false] at hx
      rcases hx with rfl | rfl | rfl
      · exact hl.pure
      · exact hc.pure
      · exact tb _ h
    | if_ hc h1 h2 =>
      refine t _ _ fun x hx => ?_
      simp only [List.mem_cons, List.not_mem_nil, or_false] at hx
      rcases hx with rfl | rfl | rfl
      · exact hc.pure
      · exact tb _ h1
      · exact tb _ h2
  induction d generalizing v with
  | zero => exact go _ (fun _ z => z.elim) h
  | succ d ih => exact go _ (fun b z s hs => ih (z s hs)) h
theorem pz_b {d : Nat} {b : List PV} (h : ∀ s ∈ b, WS d s) : pz (.tup b) = pzL b := pz_body (noStr_of fun s hs => by obtain ⟨k, xs, e⟩ := (h s hs).tup; exact ⟨_, e⟩)
@[simp] theorem isN_non (st : Store) : cmpV .isN .non .non st = some true := rfl
@[simp] theorem isN_str (x : Str) (st : Store) : cmpV .isN (.str x) .non st = some false := rfl
@[simp] theorem notN_non (st : Store) : cmpV .notN .non .non st = some false := rfl
@[simp] theorem notN_str (x : Str) (st : Store) : cmpV .notN (.str x) .non st = some true := rfl
@[simp] theorem len_lit (s : String) : (Str.ofString s).length = s.length := by rw [TL.len_tl, TL.tl_ofString, List.length_map]; rfl
/-! ### simple statements -/
theorem lab_ok {l : PV} (h : LAB l) : ∃ t : Str, B 62 t ∧ (∀ k st, evCall TURNS D (k + 1) 110 [l] st = .ok (.str t) st) ∧ ((l = .non ∧ t = "") ∨ ∃ x : Str, l = .str x ∧ t = x ++ ": " ∧ B 60 x) := by
  rcases h with rfl | ⟨x, rfl, hx⟩
  · exact ⟨"", .of (by decide +kernel), fun k st => by rw [evCall]; simp [D, d110, evSs, evS, ev, evA, evCs, ME.held, leave_id], .inl ⟨rfl, rfl⟩⟩
  · have hl := hx.1
    refine ⟨x ++ ": ", (hx.app (.of (n := 2) (by decide +kernel))).mono (by omega), fun k st => ?_, .inr ⟨x, rfl, rfl, hx⟩⟩
    have a := add_ok (x := x) (y := ": ") (st := st) (by omega) (by decide +kernel)
    rw [evCall]; simp [D, d110, evSs, evS, ev, evA, evCs, ME.held, leave_id, a]
theorem value_ok (b : Bool) (k : Nat) (st : Store) : evCall TURNS D (k + 1) 112 [.bl b] st = .ok (.str (if b then "true" else "false")) st := by
  rw [evCall]; cases b <;> simp [D, d112, evSs, evS, ev, evA, evCs, ME.held, leave_id]
theorem glue3 {a b c : Str} (ha : a.length ≤ 1000) (hb : b.length ≤ 1000) (hc : c.length ≤ 1000) : glueV [.str a, .str b, .str c] Str.empty = some (a ++ b ++ c) := by
  have e : Str.empty ++ a = a := TL.ext_tl (by rw [TL.tl_append]; rfl)
  unfold glueV; rw [e, if_pos (by rw [sizeLine_eq]; omega)]
  unfold glueV; rw [if_pos (by rw [sizeLine_eq, len_app]; omega)]
  unfold glueV; rw [if_pos (by rw [sizeLine_eq, len_app, len_app]; omega)]
  rfl
theorem fmt_str {z : Str} (h : z.length ≤ 1000) : fmtV (.str z) = some (.str z) := if_pos (by rw [sizeLine_eq]; omega)
theorem fmt_int {i : Int} (h : i.natAbs < 1000000) : fmtV (.int i) = some (.str (toString i)) := if_pos h
/-- what a simple statement is shown as -/
def Simple (s : PV) : Prop := ∃ t : Str, B 180 t ∧ (∀ k st, evCall TURNS D (k + 2) 111 [s] st = .ok (.str t) st) ∧ ∀ k st, evCall TURNS D (k + 1) 113 [s] st = .ok (.str (t ++ ";")) st
theorem bi_strS (z : Str) (st : Store) : biV .str [.str z] st = some (.str z) := rfl
theorem simple_call {x : Str} (h : B 60 x) : Simple (.tup [.str "call", .str x]) := by
  have hl := h.1
  refine ⟨x ++ "()", (h.app (.of (n := 2) (by decide +kernel))).mono (by omega), fun k st => ?_, fun k st => ?_⟩
  · have a := add_ok (x := x) (y := "()") (st := st) (by omega) (by decide +kernel)
    rw [evCall]; simp [D, d111, evSs, evS, ev, evA, evCs, ME.held, leave_id, a]
  · have a := add_ok (x := x) (y := "();") (st := st) (by omega) (by decide +kernel)
    rw [show x ++ "()" ++ ";" = x ++ "();" by rw [app_assoc, show ("()" : Str) ++ ";" = "();" by decide +kernel]]
    rw [evCall]; simp [D, d113, evSs, evS, ev, evA, evCs, ME.held, leave_id, a]
theorem simple_decl {w x : Str} {b : Bool} (hw : w = "let" ∨ w = "set") (h : B 60 x) : Simple (.tup [.str w, .str x, .bl b]) := by
  have hl := h.1
  generalize hV : (if b then ("true" : Str) else "false") = V
  have hv : B 5 V := by rw [← hV]; cases b <;> exact .of (by decide +kernel)
  have vl := hv.1
  have vo := fun k st => value_ok b k st
  rw [hV] at vo
  have vi : ∀ st, (match atI [PV.str "false", .str "true"] (if b then 1 else 0) with | some v => (Res.ok v st) | none => Res.bad) = Res.ok (.str V) st := fun st => by rw [← hV]; cases b <;> rfl
  have o1 : Str.length "let " = 4 := by decide +kernel
  have o2 : Str.length " = " = 3 := by decide +kernel
  have o3 : Str.length ";" = 1 := by decide +kernel
  rcases hw with rfl | rfl
  · refine ⟨"let " ++ x ++ " = " ++ V, ((((B.of (n := 4) (by decide +kernel)).app h).app (.of (n := 3) (by decide +kernel))).app hv).mono (by omega), fun k st => ?_, fun k st => ?_⟩
    · have a1 := add_ok (x := ("let " : Str)) (y := x) (st := st) (by omega) (by omega)
      have a2 := add_ok (x := ("let " : Str) ++ x) (y := " = ") (st := st) (by rw [len_app]; omega) (by omega)
      have a3 := add_ok (x := ("let " : Str) ++ x ++ " = ") (y := V) (st := st) (by rw [len_app, len_app]; omega) (by omega)
      rw [evCall]; simp [D, d111, evSs, evS, ev, evA, evCs, ME.held, leave_id, a1, a2, a3, vo]
    · have a1 := add_ok (x := ("let " : Str)) (y := x) (st := st) (by omega) (by omega)
      have a2 := add_ok (x := ("let " : Str) ++ x) (y := " = ") (st := st) (by rw [len_app]; omega) (by omega)
      have a3 := add_ok (x := ("let " : Str) ++ x ++ " = ") (y := V) (st := st) (by rw [len_app, len_app]; omega) (by omega)
      have a4 := add_ok (x := ("let " : Str) ++ x ++ " = " ++ V) (y := ";") (st := st) (by rw [len_app, len_app, len_app]; omega) (by omega)
      subst hV
      rw [evCall]; cases b <;> simp at a3 a4 <;> simp [D, d113, evSs, evS, ev, evA, evCs, ME.held, leave_id, a1, a2, a3, a4, sizeLine_eq]
  · refine ⟨x ++ " = " ++ V, ((h.app (.of (n := 3) (by decide +kernel))).app hv).mono (by omega), fun k st => ?_, fun k st => ?_⟩
    · have a2 := add_ok (x := x) (y := " = ") (st := st) (by omega) (by omega)
      have a3 := add_ok (x := x ++ " = ") (y := V) (st := st) (by rw [len_app]; omega) (by omega)
      rw [evCall]; simp [D, d111, evSs, evS, ev, evA, evCs, ME.held, leave_id, a2, a3, vo]
    · have a2 := add_ok (x := x) (y := " = ") (st := st) (by omega) (by omega)
      have a3 := add_ok (x := x ++ " = ") (y := V) (st := st) (by rw [len_app]; omega) (by omega)
      have a4 := add_ok (x := x ++ " = " ++ V) (y := ";") (st := st) (by rw [len_app, len_app]; omega) (by omega)
      subst hV
      rw [evCall]; cases b <;> simp at a3 a4 <;> simp [D, d113, evSs, evS, ev, evA, evCs, ME.held, leave_id, a2, a3, a4, sizeLine_eq]
theorem simple_jump {w : Str} {l : PV} (hw : w = "break" ∨ w = "continue" ∨ w = "return") (h : LAB l ∨ NUM l) : Simple (.tup [.str w, l]) := by
  have wB : B 8 w := by rcases hw with rfl | rfl | rfl <;> exact .of (by decide +kernel)
  have wl := wB.1
  have o3 : Str.length ";" = 1 := by decide +kernel
  have o4 : Str.length " " = 1 := by decide +kernel
  have nw : ¬ w = "call" ∧ ¬ w = "set" ∧ ¬ w = "let" := by rcases hw with rfl | rfl | rfl <;> simp
  obtain ⟨n1, n2, n3⟩ := nw
  have hl : l = .non ∨ (∃ z : Str, B 60 z ∧ fmtV l = some (.str z) ∧ (∀ st, biV .str [l] st = some (.str z)) ∧ (∀ st, cmpV .isN l .non st = some false) ∧ PV.pure l = true) := by
    rcases h with (h | ⟨x, rfl, hx⟩) | (h | ⟨i, rfl, h0, h1⟩)
    · exact .inl h
    · exact .inr ⟨x, hx, fmt_str (by have := hx.1; omega), fun st => rfl, fun st => rfl, rfl⟩
    · exact .inl h
    · exact .inr ⟨_, (num_B h0 h1).mono (by omega), fmt_int (by omega), fun st => bi_str (by omega), fun st => rfl, rfl⟩
  rcases hl with rfl | ⟨z, zB, f1, f2, f3, f4⟩
  · refine ⟨w, wB.mono (by omega), fun k st => ?_, fun k st => ?_⟩
    · rw [evCall]; simp [D, d111, evSs, evS, ev, evA, evCs, ME.held, leave_id, n1, n2, n3]
    · have a := add_ok (x := w) (y := ";") (st := st) (by omega) (by omega)
      rw [evCall]; simp [D, d113, evSs, evS, ev, evA, evCs, ME.held, leave_id, n1, n2, n3, a]
  · have zl := zB.1
    refine ⟨w ++ " " ++ z, ((wB.app (.of (n := 1) (by decide +kernel))).app zB).mono (by omega), fun k st => ?_, fun k st => ?_⟩
    · have gl := glue3 (a := w) (b := " ") (c := z) (by omega) (by omega) (by omega)
      have fw := fmt_str (z := w) (by omega)
      have e1 := esc_p f4 st
      rw [evCall]; simp [D, d111, evSs, evS, ev, evA, evCs, ME.held, leave_id, n1, n2, n3, f1, f3, gl, fw, e1]
    · have a1 := add_ok (x := w) (y := " ") (st := st) (by omega) (by omega)
      have a2 := add_ok (x := w ++ " ") (y := z) (st := st) (by rw [len_app]; omega) (by omega)
      have a3 := add_ok (x := w ++ " " ++ z) (y := ";") (st := st) (by rw [len_app, len_app]; omega) (by omega)
      rw [evCall]; simp [D, d113, evSs, evS, ev, evA, evCs, ME.held, leave_id, n1, n2, n3, f2, f3, a1, a2, a3]
end K13

set_option maxHeartbeats 4000000
namespace K13
open PySem L2 U
variable {ns : List Int} {R : Store} {st : Store}
theorem LQ : Str.length ("if (" : Str) = 4 ∧ Str.length (") {" : Str) = 3 ∧ Str.length ("} else if (" : Str) = 11 ∧ Str.length ("} else {" : Str) = 8 ∧ Str.length ("} else " : Str) = 7 ∧ Str.length ("while (" : Str) = 7 ∧ Str.length ("for (;;) {" : Str) = 10 ∧
    Str.length ("{" : Str) = 1 ∧ Str.length ("}" : Str) = 1 ∧ Str.length ("try {" : Str) = 5 ∧ Str.length ("} finally {" : Str) = 11 ∧ Str.length ("  " : Str) = 2 ∧ Str.length (";" : Str) = 1 ∧ Str.length (": " : Str) = 2 ∧ Str.length ("\n" : Str) = 1 ∧ Str.length ("" : Str) = 0 := by decide +kernel
def LS (n : Nat) (ls : List Str) : Prop := ls.length ≤ 3 * n ∧ (ls.map (·.length)).sum ≤ 800 * n ∧ ∀ l ∈ ls, ∀ c ∈ l.cps.toList, c < 256
theorem LS.app {n m : Nat} {a b : List Str} (h : LS n a) (k : LS m b) : LS (n + m) (a ++ b) := by
  obtain ⟨h1, h2, h3⟩ := h
  obtain ⟨k1, k2, k3⟩ := k
  refine ⟨by rw [List.length_append]; omega, by rw [List.map_append, List.sum_append]; omega, fun l hl => ?_⟩
  exact (List.mem_append.mp hl).elim (h3 l) (k3 l)
/-- what a statement's lines are said to be -/
def Turn (d : Nat) (s : PV) (ind : Str) (ls : List Str) : Prop := ∀ (k : Nat) (st : Store) (L : List Str) (bd x4 x5 x6 : Option PV), L.length ≤ 5000 →
  (evSs (evCall TURNS D (k + d + 32)) TURNS b114_0 [bd, some (.str ind), some (.fl (L.map .str)), some s, x4, x5, x6] st).go fun e st' => st' = st ∧ ∃ x4 x5 x6 : Option PV, e = [bd, some (.str ind), some (.fl ((L ++ ls).map .str)), some s, x4, x5, x6]
def Shows (d : Nat) (s : PV) (ind : Str) (ls : List Str) : Prop := ∀ (k : Nat) (st : Store), evCall TURNS D (k + 4 * d + 60) 107 [s, .str ind] st = .ok (.fl (ls.map .str)) st
def Ends (d : Nat) (b : List PV) (ind : Str) (lim : Nat) (ls : List Str) : Prop := (b = [] ∧ ls = [ind ++ "}"]) ∨ ((∃ x xs, b = x :: xs) ∧ ls.length ≤ lim ∧ ∀ k st, evCall TURNS D (k + 4 * d + 58) 108 [.str "} else {", .tup b, .str ind] st = .ok (.fl (ls.map .str)) st)
def Loop (d : Nat) (s : PV) (ind t : Str) (tl : List Str) : Prop := ∀ (k m : Nat) (st : Store) (L : List Str) (h : Str) (x4 x5 x6 x7 : Option PV), h.length ≤ 20 → L.length + 3 * pz s ≤ 8000 → d < m →
  ∃ (s' u c' a' : PV) (b' : List PV) (h' : Str) (L' ls' : List Str), whlLoop (ev (evCall TURNS D (k + 4 * d + 58)) w109_0 .test) (evSs (evCall TURNS D (k + 4 * d + 58)) TURNS b109_1) m [some s, some (.str ind), some (.fl (L.map .str)), some (.str h), x4, x5, x6, x7] st
    = .nx [some s', some (.str ind), some (.fl (L'.map .str)), some (.str h'), some u, some c', some a', some (.tup b')] st ∧ L ++ (ind ++ h ++ t ++ ") {") :: tl = L' ++ ls' ∧ L'.length ≤ L.length + 3 * pz s ∧ Ends d b' ind (3 * pz s) ls'
def IfP (d : Nat) (s : PV) (ind : Str) (ls : List Str) : Prop := ∃ (t : Str) (tl : List Str) (p : Nat), t.length + 6 ≤ 70 * p ∧ 1 ≤ p ∧ p ≤ 1000 ∧ ls = (ind ++ "if (" ++ t ++ ") {") :: tl ∧ tl.length + 1 ≤ 3 * pz s ∧ (tl.map (·.length)).sum + 300 + 70 * p ≤ 800 * pz s ∧ (∀ c ∈ t.cps.toList, c < 256) ∧ Loop d s ind t tl
def St (d : Nat) (s : PV) : Prop := ∀ ind : Str, B (200 - 2 * d) ind → ∃ ls : List Str, LS (pz s) ls ∧ Shows d s ind ls ∧ Turn d s ind ls ∧ (hd s = some ("if" : Str) → IfP d s ind ls)
theorem strs_app (xs ys : List Str) : xs.map PV.str ++ ys.map PV.str = (xs ++ ys).map PV.str := by rw [List.map_append]
/-! ### bodies -/
theorem body_ok {d : Nat} {b : List PV} {ind : Str} {f : PV → List Str} (hp : ∀ s ∈ b, PV.pure s = true) (h1 : ∀ s ∈ b, LS (pz s) (f s)) (h2 : ∀ s ∈ b, Shows d s ind (f s)) (h3 : ∀ s ∈ b, Turn d s ind (f s)) (hz : pzL b ≤ 1000) :
    LS (pzL b) (b.map f).flatten ∧ (∀ k st, evCall TURNS D (k + 4 * d + 61) 106 [.tup b, .str ind] st = .ok (.fl ((b.map f).flatten.map .str)) st) ∧ ∀ k st, evCall TURNS D (k + d + 33) 114 [.tup b, .str ind] st = .ok (.fl ((b.map f).flatten.map .str)) st := by
  have bound : ∀ c : List PV, (∀ s ∈ c, LS (pz s) (f s)) → LS (pzL c) (c.map f).flatten := fun c => by
    induction c with
    | nil => exact fun _ => ⟨by simp, by simp, fun l hl => by cases hl⟩
    | cons s c ih =>
      intro h
      rw [List.map_cons, List.flatten_cons, pzL_cons]
      exact (h s List.mem_cons_self).app (ih fun x hx => h x (List.mem_cons_of_mem _ hx))
  have tk : ∀ j s, b[j]? = some s → ((b.take (j + 1)).map f).flatten = ((b.take j).map f).flatten ++ f s ∧ LS (pzL (b.take j)) ((b.take j).map f).flatten ∧ LS (pz s) (f s) ∧ pzL (b.take j) + pz s ≤ 1000 := fun j s hx => by
    have ht : b.take (j + 1) = b.take j ++ [s] := by rw [List.take_add_one, hx]; rfl
    refine ⟨by rw [ht, List.map_append, List.flatten_append]; simp, bound _ fun x hx => h1 x (List.mem_of_mem_take hx), h1 s (List.mem_of_getElem? hx), ?_⟩
    have e : b = b.take (j + 1) ++ b.drop (j + 1) := (List.take_append_drop _ _).symm
    have e2 : pzL b = pzL (b.take (j + 1)) + pzL (b.drop (j + 1)) := by rw [← pzL_app, ← e]
    rw [ht, pzL_app] at e2
    simp at e2
    omega
  refine ⟨bound b h1, fun k st => ?_, fun k st => ?_⟩
  · obtain ⟨e, s, q1, x3, q2, q3⟩ := forLoop_inv (put := MG.put (.nm 3)) (body := evSs (evCall TURNS D (k + 4 * d + 60)) TURNS b106_0) (xs := b)
      (fun j env s => ∃ x3, s = st ∧ env = [some (.tup b), some (.str ind), some (.fl (((b.take j).map f).flatten.map .str)), x3]) (fun j x env s hx ⟨x3, e1, e2⟩ => by
        subst e1 e2
        obtain ⟨t1, t2, t3, t4⟩ := tk j x hx
        have hm := List.mem_of_getElem? hx
        have sh := h2 x hm k s
        have px := hp x hm
        refine ⟨_, rfl, ?_⟩
        show SR.go (evSs (evCall TURNS D (k + 4 * d + 60)) TURNS b106_0 [some (.tup b), some (.str ind), some (.fl (((b.take j).map f).flatten.map .str)), some x] s) _
        rw [t1]
        have l1 := t2.1
        have l2 := t3.1
        generalize ((b.take j).map f).flatten = A at *
        generalize f x = C at *
        have hz2 : A.length + C.length ≤ 16777216 := by omega
        simp [b106_0, evSs, evS, ev, evA, varV_p px, esc_p px, sh, hz2, sizeLine_eq]) b.length 0 [some (.tup b), some (.str ind), some (.fl []), none] st (by simp) ⟨none, rfl, by simp⟩
    subst q2 q3
    rw [show k + 4 * d + 61 = (k + 4 * d + 60) + 1 by omega, evCall]
    simp only [List.take_length] at q1
    simp [D, d106, evSs, evS, ev, evA, evCs, ME.held, evSrc, srcV, Src.many, q1, leave_id, sizeLine_eq, -List.map_flatten]
  · obtain ⟨e, s, q1, ⟨x3, x4, x5, x6, q3⟩, q2⟩ := forLoop_inv (put := MG.put (.nm 3)) (body := evSs (evCall TURNS D (k + d + 32)) TURNS b114_0) (xs := b)
      (fun j env s => (∃ x3 x4 x5 x6, env = [some (.tup b), some (.str ind), some (.fl (((b.take j).map f).flatten.map .str)), x3, x4, x5, x6]) ∧ s = st) (fun j x env s hx ⟨⟨x3, x4, x5, x6, e2⟩, e1⟩ => by
        subst e1 e2
        obtain ⟨t1, t2, t3, t4⟩ := tk j x hx
        have hm := List.mem_of_getElem? hx
        have l1 := t2.1
        have tu := h3 x hm k s ((b.take j).map f).flatten (some (.tup b)) x4 x5 x6 (by omega)
        refine ⟨_, rfl, ?_⟩
        show SR.go (evSs (evCall TURNS D (k + d + 32)) TURNS b114_0 [some (.tup b), some (.str ind), some (.fl (((b.take j).map f).flatten.map .str)), some x, x4, x5, x6] s) _
        rw [t1]
        revert tu
        cases evSs (evCall TURNS D (k + d + 32)) TURNS b114_0 [some (.tup b), some (.str ind), some (.fl (((b.take j).map f).flatten.map .str)), some x, x4, x5, x6] s with
        | nx e s' => exact fun ⟨a, x4, x5, x6, b⟩ => ⟨⟨_, x4, x5, x6, b⟩, a⟩
        | ct e s' => exact fun ⟨a, x4, x5, x6, b⟩ => ⟨⟨_, x4, x5, x6, b⟩, a⟩
        | _ => exact fun z => z.elim) b.length 0 [some (.tup b), some (.str ind), some (.fl []), none, none, none, none] st (by simp) ⟨⟨none, none, none, none, by simp⟩, rfl⟩
    subst q2 q3
    rw [show k + d + 33 = (k + d + 32) + 1 by omega, evCall]
    simp only [List.take_length] at q1
    simp [D, d114, evSs, evS, ev, evA, evCs, ME.held, evSrc, srcV, Src.many, q1, leave_id, sizeLine_eq, -List.map_flatten]
/-- a body inside of a statement -/
theorem sub_ok {d : Nat} {b : List PV} {ind : Str} (hi : B (200 - 2 * d) ind) (h : ∀ s ∈ b, WS d s) (ih : ∀ s ∈ b, St d s) (hz : pzL b ≤ 1000) :
    ∃ ls, LS (pzL b) ls ∧ (∀ k st, evCall TURNS D (k + 4 * d + 61) 106 [.tup b, .str ind] st = .ok (.fl (ls.map .str)) st) ∧ ∀ k st, evCall TURNS D (k + d + 33) 114 [.tup b, .str ind] st = .ok (.fl (ls.map .str)) st := by
  obtain ⟨f, hf⟩ := choose_on fun s hs => ih s hs ind hi
  exact ⟨_, body_ok (fun s hs => (h s hs).pure) (fun s hs => (hf s hs).1) (fun s hs => (hf s hs).2.1) (fun s hs => (hf s hs).2.2.1) hz⟩
end K13

set_option maxHeartbeats 4000000
namespace K13
open PySem L2 U
variable {ns : List Int} {R : Store} {st : Store}
theorem bin_add_fl {xs ys : List PV} {st : Store} (h : xs.length + ys.length ≤ 16000000) : binV .add (.fl xs) (.fl ys) st = some (.fl (xs ++ ys)) := if_pos (by rw [sizeLine_eq]; omega)
theorem braced_ok {d : Nat} {b : List PV} {ind head : Str} {ls : List Str} (hi : ind.length ≤ 1000) (hh : head.length ≤ 90000) (hl : ls.length ≤ 10000)
    (h : ∀ k st, evCall TURNS D (k + 4 * d + 61) 106 [.tup b, .str (ind ++ "  ")] st = .ok (.fl (ls.map .str)) st) (k : Nat) (st : Store) :
    evCall TURNS D (k + 4 * d + 62) 108 [.str head, .tup b, .str ind] st = .ok (.fl (((ind ++ head) :: ls ++ [ind ++ "}"]).map .str)) st := by
  have i := h k st
  have q1 : ([PV.str (ind ++ head)] : List PV).length + (ls.map PV.str).length ≤ 16000000 := by simp; omega
  have q2 : ([PV.str (ind ++ head)] ++ ls.map PV.str).length + ([PV.str (ind ++ "}")] : List PV).length ≤ 16000000 := by simp; omega
  have c1 := fun st => bin_add_fl (st := st) q1
  have c2 := fun st => bin_add_fl (st := st) q2
  rw [show k + 4 * d + 62 = (k + 4 * d + 61) + 1 by omega, evCall]
  simp at c1 c2
  simp (disch := ((try simp only [len_app, LQ, List.length_cons, List.length_nil]); omega)) [D, d108, evSs, evS, ev, evA, evCs, ME.held, leave_id, add_ok, i, sizeLine_eq, c1, c2]
theorem LS.one {n : Nat} {l : Str} (h : l.length ≤ 800 * n) (h1 : 1 ≤ n) (hc : ∀ c ∈ l.cps.toList, c < 256) : LS n [l] := ⟨by simp; omega, by simpa using h, fun x hx => by rw [List.mem_singleton.mp hx]; exact hc⟩
/-- a line of its own in front, one behind -/
theorem LS.wrap {n m : Nat} {a b : Str} {ls : List Str} (h : LS n ls) (ha : B (400 + 70 * (m - 1)) a) (hb : B 300 b) (hm : 1 ≤ m) : LS (m + n) (a :: ls ++ [b]) := by
  obtain ⟨h1, h2, h3⟩ := h
  have := ha.1
  have := hb.1
  refine ⟨by simp; omega, by simp; omega, fun l hl => ?_⟩
  simp only [List.cons_append, List.mem_cons, List.mem_append, List.not_mem_nil, or_false] at hl
  rcases hl with rfl | hl | rfl
  · exact ha.2
  · exact h3 l hl
  · exact hb.2
theorem st_simple {d : Nat} {w : Str} {xs : List PV} (h : Simple (.tup (.str w :: xs))) (hx : PV.pureL xs = true) (n1 : ¬ w = "if") (n2 : ¬ w = "while") (n3 : ¬ w = "for") (n4 : ¬ w = "block") (n5 : ¬ w = "try") : St d (.tup (.str w :: xs)) := by
  intro ind hi
  obtain ⟨t, tB, h1, h2⟩ := h
  have il := hi.1
  have tl := tB.1
  have iB : B 200 ind := hi.mono (by omega)
  refine ⟨[ind ++ (t ++ ";")], ?_, fun k st => ?_, fun k st L bd x4 x5 x6 hL => ?_, fun q => absurd (Option.some.inj q) n1⟩
  · have := iB.app (tB.app (B.of (n := 1) (x := ";") (by decide +kernel)))
    exact .one (by have := this.1; simp; omega) (by simp) this.2
  · have i := h1 (k + 4 * d + 57) st
    have px : PV.pure (.tup (.str w :: xs)) = true := by show (true && PV.pureL xs) = true; rw [hx]; rfl
    have e := fun st => esc_p px st
    rw [← app_assoc, show k + 4 * d + 60 = (k + 4 * d + 57 + 2) + 1 by omega, evCall]
    simp (disch := ((try simp only [len_app, LQ, List.length_cons, List.length_nil]); omega)) [D, d107, evSs, evS, ev, evA, evCs, ME.held, leave_id, add_ok, i, sizeLine_eq, n1, n2, n3, n4, n5]
  · have i := h2 (k + d + 31) st
    have hL2 : (L.map PV.str).length < 16777216 := by rw [List.length_map]; omega
    rw [List.map_append]
    simp (disch := ((try simp only [len_app, LQ, List.length_cons, List.length_nil]); omega)) [b114_0, evSs, evS, ev, evA, evCs, ME.held, leave_id, add_ok, i, sizeLine_eq, n1, n2, n3, n4, n5, hL2]
    simp at hL2
    simp [hL2]
/-- a block -/
theorem st_block {d : Nat} {b : List PV} (hd2 : 2 * d ≤ 150) (h : ∀ s ∈ b, WS d s) (ih : ∀ s ∈ b, St d s) (hz : pzL b ≤ 1000) : St (d + 1) (.tup [.str "block", .tup b]) := by
  intro ind hi
  have iB : B 200 ind := hi.mono (by omega)
  have il := iB.1
  obtain ⟨ls, l1, l2, l3⟩ := sub_ok (ind := ind ++ "  ") ((hi.app (.of (n := 2) (by decide +kernel))).mono (by omega)) h ih hz
  have ll := l1.1
  refine ⟨(ind ++ "{") :: ls ++ [ind ++ "}"], ?_, fun k st => ?_, fun k st L bd x4 x5 x6 hL => ?_, fun q => absurd (Option.some.inj q) (by simp)⟩
  · rw [pz_node, pzL_cons, pzL_nil, pz_b h, Nat.add_zero]
    exact l1.wrap (m := 1) (a := ind ++ "{") (b := ind ++ "}") ((iB.app (.of (n := 1) (by decide +kernel))).mono (by omega)) ((iB.app (.of (n := 1) (by decide +kernel))).mono (by omega)) (by omega)
  · have i := braced_ok (d := d) (b := b) (ind := ind) (head := "{") (ls := ls) (by omega) (by decide +kernel) (by omega) l2 (k + 1) st
    rw [show k + 4 * (d + 1) + 60 = (k + 1 + 4 * d + 62) + 1 by omega, evCall]
    simp [D, d107, evSs, evS, ev, evA, evCs, ME.held, leave_id, i]
  · have i := l3 k st
    have q1 : (L.map PV.str).length + ([PV.str (ind ++ "{")] : List PV).length ≤ 16000000 := by simp; omega
    have q2 : (L.map PV.str ++ [PV.str (ind ++ "{")]).length + (ls.map PV.str).length ≤ 16000000 := by simp; omega
    have c1 := fun st => bin_add_fl (st := st) q1
    have c2 := fun st => bin_add_fl (st := st) q2
    have hL2 : (L.map PV.str ++ ([PV.str (ind ++ "{")] ++ ls.map PV.str)).length < 16777216 := by simp; omega
    rw [show k + (d + 1) + 32 = k + d + 33 by omega, List.map_append]
    simp only [List.map_append, List.map_cons, List.map_nil, List.cons_append]
    simp at c1 c2 hL2
    simp (disch := ((try simp only [len_app, LQ, List.length_cons, List.length_nil]); omega)) [b114_0, evSs, evS, ev, evA, evCs, ME.held, leave_id, add_ok, i, sizeLine_eq, c1, c2, hL2]
end K13

set_option maxHeartbeats 4000000
namespace K13
open PySem L2 U
variable {ns : List Int} {R : Store} {st : Store}
theorem st_for {d : Nat} {l : PV} {b : List PV} (hd2 : 2 * d ≤ 150) (hl : LAB l) (h : ∀ s ∈ b, WS d s) (ih : ∀ s ∈ b, St d s) (hz : pzL b ≤ 1000) : St (d + 1) (.tup [.str "for", l, .tup b]) := by
  intro ind hi
  have iB : B 200 ind := hi.mono (by omega)
  have il := iB.1
  obtain ⟨ls, l1, l2, l3⟩ := sub_ok (ind := ind ++ "  ") ((hi.app (.of (n := 2) (by decide +kernel))).mono (by omega)) h ih hz
  have ll := l1.1
  obtain ⟨lt, lB, g1, g2⟩ := lab_ok hl
  have ltl := lB.1
  have hB : B 80 (lt ++ "for (;;) {") := (lB.app (.of (n := 10) (by decide +kernel))).mono (by omega)
  have hBl := hB.1
  have pl := fun st => esc_p hl.pure st
  refine ⟨(ind ++ (lt ++ "for (;;) {")) :: ls ++ [ind ++ "}"], ?_, fun k st => ?_, fun k st L bd x4 x5 x6 hL => ?_, fun q => absurd (Option.some.inj q) (by simp)⟩
  · rw [pz_node, pzL_cons, pzL_cons, pzL_nil, pz_b h, hl.pz, Nat.add_zero, Nat.zero_add]
    exact l1.wrap (m := 1) (a := ind ++ (lt ++ "for (;;) {")) (b := ind ++ "}") ((iB.app hB).mono (by omega)) ((iB.app (.of (n := 1) (by decide +kernel))).mono (by omega)) (by omega)
  · have i := braced_ok (d := d) (b := b) (ind := ind) (head := lt ++ "for (;;) {") (ls := ls) (by omega) (by omega) (by omega) l2 (k + 1) st
    have g := g1 (k + 4 * d + 62) st
    rw [show k + 4 * (d + 1) + 60 = (k + 1 + 4 * d + 62) + 1 by omega, evCall]
    rw [show k + 4 * d + 62 + 1 = k + 1 + 4 * d + 62 by omega] at g
    simp (disch := ((try simp only [len_app, LQ, List.length_cons, List.length_nil]); omega)) [D, d107, evSs, evS, ev, evA, evCs, ME.held, leave_id, i, g, pl, add_ok]
  · have i := l3 k st
    have q1 : (L.map PV.str).length + ([PV.str (ind ++ (lt ++ "for (;;) {"))] : List PV).length ≤ 16000000 := by simp; omega
    have q2 : (L.map PV.str ++ [PV.str (ind ++ (lt ++ "for (;;) {"))]).length + (ls.map PV.str).length ≤ 16000000 := by simp; omega
    have c1 := fun st => bin_add_fl (st := st) q1
    have c2 := fun st => bin_add_fl (st := st) q2
    have hL2 : (L.map PV.str ++ ([PV.str (ind ++ (lt ++ "for (;;) {"))] ++ ls.map PV.str)).length < 16777216 := by simp; omega
    rw [show k + (d + 1) + 32 = k + d + 33 by omega, List.map_append]
    simp only [List.map_append, List.map_cons, List.map_nil, List.cons_append]
    simp at c1 c2 hL2
    rcases g2 with ⟨rfl, rfl⟩ | ⟨x, rfl, rfl, xB⟩
    · rw [nil_app] at c1 c2 ⊢
      simp (disch := ((try simp only [len_app, LQ, List.length_cons, List.length_nil]); omega)) [b114_0, evSs, evS, ev, evA, evCs, ME.held, leave_id, add_ok, i, sizeLine_eq, c1, c2, hL2]
    · have xl := xB.1
      simp (disch := ((try simp only [len_app, LQ, List.length_cons, List.length_nil]); omega)) [b114_0, evSs, evS, ev, evA, evCs, ME.held, leave_id, add_ok, i, sizeLine_eq, c1, c2, hL2]
theorem st_while {d : Nat} {l c : PV} {b : List PV} (hd2 : 2 * d ≤ 150) (hl : LAB l) (hc : WC 25 c) (hcz : pz c ≤ 1000) (h : ∀ s ∈ b, WS d s) (ih : ∀ s ∈ b, St d s) (hz : pzL b ≤ 1000) : St (d + 1) (.tup [.str "while", l, c, .tup b]) := by
  intro ind hi
  have iB : B 200 ind := hi.mono (by omega)
  have il := iB.1
  obtain ⟨ls, l1, l2, l3⟩ := sub_ok (ind := ind ++ "  ") ((hi.app (.of (n := 2) (by decide +kernel))).mono (by omega)) h ih hz
  have ll := l1.1
  obtain ⟨lt, lB, g1, g2⟩ := lab_ok hl
  have ltl := lB.1
  obtain ⟨t, tB, t1, t2⟩ := shown_ok 25 c hc hcz
  have cp := hc.pos
  have tl := tB.1
  have hB : B (72 + (70 * pz c - 6)) (lt ++ ("while (" ++ t ++ ") {")) := (lB.app (((B.of (n := 7) (x := "while (") (by decide +kernel)).app tB).app (.of (n := 3) (by decide +kernel)))).mono (by omega)
  have hBl := hB.1
  have pl := fun st => esc_p hl.pure st
  have pc := fun st => esc_p hc.pure st
  have as1 : lt ++ "while (" ++ t ++ ") {" = lt ++ ("while (" ++ t ++ ") {") := by simp only [app_assoc]
  refine ⟨(ind ++ (lt ++ ("while (" ++ t ++ ") {"))) :: ls ++ [ind ++ "}"], ?_, fun k st => ?_, fun k st L bd x4 x5 x6 hL => ?_, fun q => absurd (Option.some.inj q) (by simp)⟩
  · rw [pz_node, pzL_cons, pzL_cons, pzL_cons, pzL_nil, pz_b h, hl.pz, Nat.add_zero, Nat.zero_add, ← Nat.add_assoc]
    exact l1.wrap (m := 1 + pz c) (a := ind ++ (lt ++ ("while (" ++ t ++ ") {"))) (b := ind ++ "}") ((iB.app hB).mono (by omega)) ((iB.app (.of (n := 1) (by decide +kernel))).mono (by omega)) (by omega)
  · have i := braced_ok (d := d) (b := b) (ind := ind) (head := lt ++ ("while (" ++ t ++ ") {")) (ls := ls) (by omega) (by omega) (by omega) l2 (k + 1) st
    have g := g1 (k + 4 * d + 62) st
    have tt := t1 (k + 4 * d + 11) st
    rw [show k + 4 * (d + 1) + 60 = (k + 1 + 4 * d + 62) + 1 by omega, evCall]
    rw [show k + 4 * d + 62 + 1 = k + 1 + 4 * d + 62 by omega] at g
    rw [show k + 4 * d + 11 + 2 * 25 + 2 = k + 1 + 4 * d + 62 by omega] at tt
    simp (disch := ((try simp only [len_app, LQ, List.length_cons, List.length_nil]); omega)) [D, d107, evSs, evS, ev, evA, evCs, ME.held, leave_id, i, g, tt, pl, pc, add_ok, as1]
  · have i := l3 k st
    have tt := t2 (k + d + 7) st
    rw [show k + d + 7 + 25 + 1 = k + d + 33 by omega] at tt
    have q1 : (L.map PV.str).length + ([PV.str (ind ++ (lt ++ ("while (" ++ t ++ ") {")))] : List PV).length ≤ 16000000 := by simp; omega
    have q2 : (L.map PV.str ++ [PV.str (ind ++ (lt ++ ("while (" ++ t ++ ") {")))]).length + (ls.map PV.str).length ≤ 16000000 := by simp; omega
    have c1 := fun st => bin_add_fl (st := st) q1
    have c2 := fun st => bin_add_fl (st := st) q2
    have hL2 : (L.map PV.str ++ ([PV.str (ind ++ (lt ++ ("while (" ++ t ++ ") {")))] ++ ls.map PV.str)).length < 16777216 := by simp; omega
    rw [show k + (d + 1) + 32 = k + d + 33 by omega, List.map_append]
    simp only [List.map_append, List.map_cons, List.map_nil, List.cons_append]
    simp at c1 c2 hL2
    rcases g2 with ⟨rfl, rfl⟩ | ⟨x, rfl, rfl, xB⟩
    · rw [nil_app] at c1 c2 ⊢
      simp (disch := ((try simp only [len_app, LQ, List.length_cons, List.length_nil]); omega)) [b114_0, evSs, evS, ev, evA, evCs, ME.held, leave_id, add_ok, i, tt, pc, sizeLine_eq, c1, c2, hL2]
    · have xl := xB.1
      simp (disch := ((try simp only [len_app, LQ, List.length_cons, List.length_nil]); omega)) [b114_0, evSs, evS, ev, evA, evCs, ME.held, leave_id, add_ok, i, tt, pc, sizeLine_eq, c1, c2, hL2]
theorem st_try {d : Nat} {a b : List PV} (hd2 : 2 * d ≤ 150) (ha : ∀ s ∈ a, WS d s) (iha : ∀ s ∈ a, St d s) (hza : pzL a ≤ 1000) (h : ∀ s ∈ b, WS d s) (ih : ∀ s ∈ b, St d s) (hz : pzL b ≤ 1000) : St (d + 1) (.tup [.str "try", .tup a, .tup b]) := by
  intro ind hi
  have iB : B 200 ind := hi.mono (by omega)
  have il := iB.1
  obtain ⟨ls, l1, l2, l3⟩ := sub_ok (ind := ind ++ "  ") ((hi.app (.of (n := 2) (by decide +kernel))).mono (by omega)) h ih hz
  obtain ⟨las, m1, m2, m3⟩ := sub_ok (ind := ind ++ "  ") ((hi.app (.of (n := 2) (by decide +kernel))).mono (by omega)) ha iha hza
  have ll := l1.1
  have lal := m1.1
  refine ⟨(ind ++ "try {") :: las ++ ((ind ++ "} finally {") :: ls ++ [ind ++ "}"]), ?_, fun k st => ?_, fun k st L bd x4 x5 x6 hL => ?_, fun q => absurd (Option.some.inj q) (by simp)⟩
  · rw [pz_node, pzL_cons, pzL_cons, pzL_nil, pz_b h, pz_b ha, Nat.add_zero]
    obtain ⟨p1, p2, p3⟩ := m1
    obtain ⟨q1, q2, q3⟩ := l1
    have b1 := iB.app (B.of (n := 5) (x := "try {") (by decide +kernel))
    have b2 := iB.app (B.of (n := 11) (x := "} finally {") (by decide +kernel))
    have b3 := iB.app (B.of (n := 1) (x := "}") (by decide +kernel))
    have e1 := b1.1
    have e2 := b2.1
    have e3 := b3.1
    refine ⟨by simp; omega, by simp only [List.map_append, List.map_cons, List.map_nil, List.sum_append, List.sum_cons, List.sum_nil, List.cons_append]; omega, fun x hx => ?_⟩
    simp only [List.cons_append, List.mem_cons, List.mem_append, List.not_mem_nil, or_false] at hx
    rcases hx with rfl | hx | rfl | hx | rfl
    · exact b1.2
    · exact p3 x hx
    · exact b2.2
    · exact q3 x hx
    · exact b3.2
  · have i := braced_ok (d := d) (b := b) (ind := ind) (head := "} finally {") (ls := ls) (by omega) (by decide +kernel) (by omega) l2 (k + 1) st
    have i2 := m2 (k + 2) st
    rw [show k + 2 + 4 * d + 61 = k + 1 + 4 * d + 62 by omega] at i2
    have z1 : ([PV.str (ind ++ "try {")] : List PV).length + (las.map PV.str).length ≤ 16777216 := by simp; omega
    have z2 : ([PV.str (ind ++ "try {")] ++ las.map PV.str : List PV).length + (((ind ++ "} finally {") :: ls ++ [ind ++ "}"]).map PV.str).length ≤ 16777216 := by simp; omega
    rw [show k + 4 * (d + 1) + 60 = (k + 1 + 4 * d + 62) + 1 by omega, evCall]
    simp at z1 z2 i
    simp (disch := ((try simp only [len_app, LQ, List.length_cons, List.length_nil]); omega)) [D, d107, evSs, evS, ev, evA, evCs, ME.held, leave_id, i, i2, add_ok, sizeLine_eq, z1, z2]
  · have i := l3 k st
    have i2 := m3 k st
    have q1 : (L.map PV.str).length + ([PV.str (ind ++ "try {")] : List PV).length ≤ 16000000 := by simp; omega
    have q2 : (L.map PV.str ++ [PV.str (ind ++ "try {")]).length + (las.map PV.str).length ≤ 16000000 := by simp; omega
    have q3 : (L.map PV.str ++ [PV.str (ind ++ "try {")] ++ las.map PV.str).length + ([PV.str (ind ++ "} finally {")] : List PV).length ≤ 16000000 := by simp; omega
    have q4 : (L.map PV.str ++ [PV.str (ind ++ "try {")] ++ las.map PV.str ++ [PV.str (ind ++ "} finally {")]).length + (ls.map PV.str).length ≤ 16000000 := by simp; omega
    have c1 := fun st => bin_add_fl (st := st) q1
    have c2 := fun st => bin_add_fl (st := st) q2
    have c3 := fun st => bin_add_fl (st := st) q3
    have c4 := fun st => bin_add_fl (st := st) q4
    have hL2 : (L.map PV.str ++ [PV.str (ind ++ "try {")] ++ las.map PV.str ++ [PV.str (ind ++ "} finally {")] ++ ls.map PV.str).length < 16777216 := by simp; omega
    rw [show k + (d + 1) + 32 = k + d + 33 by omega, List.map_append]
    simp only [List.map_append, List.map_cons, List.map_nil, List.cons_append]
    simp at c1 c2 c3 c4 hL2
    simp (disch := ((try simp only [len_app, LQ, List.length_cons, List.length_nil]); omega)) [b114_0, evSs, evS, ev, evA, evCs, ME.held, leave_id, add_ok, i, i2, sizeLine_eq, c1, c2, c3, c4, hL2]
end K13

set_option maxHeartbeats 4000000
namespace K13
open PySem L2 U
variable {ns : List Int} {R : Store} {st : Store}
theorem cut_pre (a b : Str) : cutS (a ++ b) (some a.length) none = b := by
  have e1 := TL.tl_append a b
  have e2 := TL.len_tl a
  have e3 := TL.len_tl b
  refine TL.ext_tl ?_
  show ((TL.tl (a ++ b)).drop (HT.sIx (a ++ b).length 0 (some (a.length : Int)))).take (HT.sIx (a ++ b).length (a ++ b).length none - HT.sIx (a ++ b).length 0 (some (a.length : Int))) = TL.tl b
  rw [HT.sIx_nat, HT.sIx_none, e1, len_app, show min a.length (a.length + b.length) = (TL.tl a).length by omega, List.drop_left, List.take_of_length_le (by omega)]
theorem cutL_1 (x : PV) (xs : List PV) : cutL (x :: xs) (some 1) none = xs := by
  unfold cutL
  rw [show (some (1 : Int)) = some ((1 : Nat) : Int) from rfl, HT.sIx_nat, HT.sIx_none]
  have : min 1 (x :: xs).length = 1 := by simp
  rw [this]
  simp
theorem sl_fl (xs : List PV) (lo hi : Option Int) (st : Store) : slV (.fl xs) lo hi st = some (.fl (cutL xs lo hi)) := rfl
@[simp] theorem done_tup (xs : List PV) (st : Store) : done .test (.tup xs) st = .ok (.bl (!xs.isEmpty)) st := rfl
/-- an if's lines from its loop -/
theorem shows_of_loop {d : Nat} {c : PV} {a b : List PV} {ind t : Str} {tl : List Str} (il : ind.length ≤ 200) (hp : PV.pure (.tup [.str "if", c, .tup a, .tup b]) = true) (hd2 : d < 64) (hz : pz (.tup [.str "if", c, .tup a, .tup b]) ≤ 1000) (h : Loop d (.tup [.str "if", c, .tup a, .tup b]) ind t tl) :
    Shows d (.tup [.str "if", c, .tup a, .tup b]) ind ((ind ++ "if (" ++ t ++ ") {") :: tl) := by
  intro k st
  obtain ⟨s', u, c', a', b', h', L', ls', q1, q2, q3, q4⟩ := h k 64 st [] "if (" none none none none (by decide +kernel) (by rw [List.length_nil]; omega) hd2
  have q1 : whlLoop (ev (evCall TURNS D (k + 4 * d + 58)) w109_0 .test) (evSs (evCall TURNS D (k + 4 * d + 58)) TURNS b109_1) TURNS [some (.tup [.str "if", c, .tup a, .tup b]), some (.str ind), some (.fl []), some (.str "if ("), none, none, none, none] st
    = .nx [some s', some (.str ind), some (.fl (L'.map .str)), some (.str h'), some u, some c', some a', some (.tup b')] st := q1
  rw [List.nil_append] at q2
  rw [q2]
  have px := fun st => esc_p hp st
  generalize hs : PV.tup [.str "if", c, .tup a, .tup b] = s at *
  have e109 : evCall TURNS D (k + 4 * d + 59) 109 [s, .str ind] st = .ok (.fl ((L' ++ ls').map .str)) st := by
    have l1 : L'.length ≤ 3 * pz s := by simpa using q3
    rw [show k + 4 * d + 59 = (k + 4 * d + 58) + 1 by omega, evCall]
    have nf : s.isFl = false := pure_nofl hp
    rcases q4 with ⟨rfl, rfl⟩ | ⟨⟨x, xs, rfl⟩, l2, q5⟩
    · have hL : (L'.map PV.str).length < 16777216 := by rw [List.length_map]; omega
      simp at hL
      simp (disch := ((try simp only [len_app, LQ, List.length_cons, List.length_nil]); omega)) [D, d109, evSs, evS, ev, evA, evCs, ME.held, leave_id, q1, add_ok, sizeLine_eq, hL, nf]
    · have i := q5 k st
      have hL : L'.length + ls'.length ≤ 16777216 := by omega
      simp (disch := ((try simp only [len_app, LQ, List.length_cons, List.length_nil]); omega)) [D, d109, evSs, evS, ev, evA, evCs, ME.held, leave_id, q1, add_ok, sizeLine_eq, hL, i, nf]
  subst hs
  rw [show k + 4 * d + 60 = (k + 4 * d + 59) + 1 by omega, evCall]
  simp [D, d107, evSs, evS, ev, evA, evCs, ME.held, leave_id, e109, px]

theorem if_B {ind t : Str} {p : Nat} {h : Str} (iB : B 200 ind) (hB : B 20 h) (tB : B (70 * p - 6) t) : B (220 + (70 * p - 6) + 3) (ind ++ h ++ t ++ ") {") := ((iB.app hB).app tB).app (.of (n := 3) (by decide +kernel))
/-- one turn of the loop -/
theorem loop_turn {d k : Nat} {c : PV} {a b : List PV} {ind t h : Str} {L las : List Str} {x4 x5 x6 x7 : Option PV} {st : Store} (il : ind.length ≤ 200) (hl : h.length ≤ 20) (tl : t.length ≤ 70000) (hL : L.length ≤ 8000) (hla : las.length ≤ 5000)
    (hp : PV.pure (.tup [.str "if", c, .tup a, .tup b]) = true)
    (t1 : ∀ st, evCall TURNS D (k + 4 * d + 62) 85 [c] st = .ok (.str t) st) (m2 : ∀ st, evCall TURNS D (k + 4 * d + 62) 106 [.tup a, .str (ind ++ "  ")] st = .ok (.fl (las.map .str)) st) :
    let env := [some (.tup [.str "if", c, .tup a, .tup b]), some (.str ind), some (.fl (L.map .str)), some (.str h), x4, x5, x6, x7]
    (b = [] ∨ (∃ x y xs, b = x :: y :: xs) ∨ (∃ w xs, ¬ w = ("if" : Str) ∧ b = [.tup (.str w :: xs)]) → evSs (evCall TURNS D (k + 4 * d + 62)) TURNS b109_1 env st = .bk [some (.tup [.str "if", c, .tup a, .tup b]), some (.str ind), some (.fl ((L ++ (ind ++ h ++ t ++ ") {") :: las).map .str)), some (.str h), some (.str "if"), some c, some (.tup a), some (.tup b)] st) ∧
    (∀ xs, b = [.tup (.str "if" :: xs)] → evSs (evCall TURNS D (k + 4 * d + 62)) TURNS b109_1 env st = .nx [some (.tup (.str "if" :: xs)), some (.str ind), some (.fl ((L ++ (ind ++ h ++ t ++ ") {") :: las).map .str)), some (.str "} else if ("), some (.str "if"), some c, some (.tup a), some (.tup b)] st) := by
  have pc : PV.pure c = true := by
    have hp : (true && (PV.pure c && (PV.pureL a && (PV.pureL b && true)))) = true := hp
    simp only [Bool.and_eq_true] at hp
    exact hp.2.1
  have e := fun st => esc_p pc st
  have v := fun st => varV_p pc st
  have i1 := t1 st
  have i2 := m2 st
  have hL1 : L.length < 16777216 := by omega
  have hL2 : L.length + 1 + las.length ≤ 16777216 := by omega
  refine ⟨fun hb => ?_, fun xs hb => ?_⟩
  · rcases hb with rfl | ⟨x, y, xs, rfl⟩ | ⟨w, xs, hw, rfl⟩
    · simp (disch := ((try simp only [len_app, LQ, List.length_cons, List.length_nil]); omega)) [b109_1, evSs, evS, ev, evA, evCs, add_ok, sizeLine_eq, setEach, e, v, i1, i2, hL1, hL2]
    · have z : ¬ ((xs.length : Int) + 1 + 1 = 1) := by omega
      simp (disch := ((try simp only [len_app, LQ, List.length_cons, List.length_nil]); omega)) [b109_1, evSs, evS, ev, evA, evCs, add_ok, sizeLine_eq, setEach, e, v, i1, i2, hL1, hL2, z]
    · simp (disch := ((try simp only [len_app, LQ, List.length_cons, List.length_nil]); omega)) [b109_1, evSs, evS, ev, evA, evCs, add_ok, sizeLine_eq, setEach, e, v, i1, i2, hL1, hL2, hw]
  · subst hb
    simp (disch := ((try simp only [len_app, LQ, List.length_cons, List.length_nil]); omega)) [b109_1, evSs, evS, ev, evA, evCs, add_ok, sizeLine_eq, setEach, e, v, i1, i2, hL1, hL2]
end K13

set_option maxHeartbeats 4000000
namespace K13
open PySem L2 U
variable {ns : List Int} {R : Store} {st : Store}
theorem whl_succ {test : En → Store → Res PV} {body : En → Store → SR} {n : Nat} {env : En} {st : Store} (h : test env st = .ok (.bl true) st) :
    whlLoop test body (n + 1) env st = match body env st with | .nx e s => whlLoop test body n e s | .ct e s => whlLoop test body n e s | .bk e s => .nx e s | r => r := by
  rw [whlLoop, h]; rfl
theorem w109_ok {call : Nat → List PV → Store → Res PV} {env : En} {st : Store} : ev call w109_0 .test env st = .ok (.bl true) st := rfl
theorem st_if {d : Nat} {c : PV} {a b : List PV} (hd2 : d ≤ 60) (hc : WC 25 c) (ha : ∀ s ∈ a, WS d s) (iha : ∀ s ∈ a, St d s) (hb : ∀ s ∈ b, WS d s) (ihb : ∀ s ∈ b, St d s) (hz : pz (.tup [.str "if", c, .tup a, .tup b]) ≤ 1000) :
    St (d + 1) (.tup [.str "if", c, .tup a, .tup b]) := by
  have hp : PV.pure (.tup [.str "if", c, .tup a, .tup b]) = true := (show WS (d + 1) (.tup [.str "if", c, .tup a, .tup b]) from SH.if_ hc ha hb).pure
  intro ind hi
  have iB : B 200 ind := hi.mono (by omega)
  have il := iB.1
  have ez : pz (.tup [.str "if", c, .tup a, .tup b]) = 1 + (pz c + (pzL a + pzL b)) := by rw [pz_node, pzL_cons, pzL_cons, pzL_cons, pzL_nil, pz_b ha, pz_b hb, Nat.add_zero]
  obtain ⟨las, m1, m2, m3⟩ := sub_ok (ind := ind ++ "  ") ((hi.app (.of (n := 2) (by decide +kernel))).mono (by omega)) ha iha (by omega)
  have lal := m1.1
  obtain ⟨t, tB, t1, t2⟩ := shown_ok 25 c hc (by omega)
  have cp := hc.pos
  have tl0 := tB.1
  have pc := fun st => esc_p hc.pure st
  -- what is left to say of the lines behind the first
  have fin : ∀ tl : List Str, tl.length + 1 ≤ 3 * pz (.tup [.str "if", c, .tup a, .tup b]) → (tl.map (·.length)).sum + 300 + 70 * pz c ≤ 800 * pz (.tup [.str "if", c, .tup a, .tup b]) → (∀ l ∈ tl, ∀ c ∈ l.cps.toList, c < 256) →
      Loop (d + 1) (.tup [.str "if", c, .tup a, .tup b]) ind t tl → Turn (d + 1) (.tup [.str "if", c, .tup a, .tup b]) ind ((ind ++ "if (" ++ t ++ ") {") :: tl) →
      ∃ ls : List Str, LS (pz (.tup [.str "if", c, .tup a, .tup b])) ls ∧ Shows (d + 1) (.tup [.str "if", c, .tup a, .tup b]) ind ls ∧ Turn (d + 1) (.tup [.str "if", c, .tup a, .tup b]) ind ls ∧ (hd (.tup [.str "if", c, .tup a, .tup b]) = some ("if" : Str) → IfP (d + 1) (.tup [.str "if", c, .tup a, .tup b]) ind ls) := fun tl b1 b2 b3 lo tu => by
    have hB := if_B (p := pz c) iB (show B 20 "if (" from .of (by decide +kernel)) tB
    have hBl := hB.1
    refine ⟨(ind ++ "if (" ++ t ++ ") {") :: tl, ⟨by rw [List.length_cons]; omega, by rw [List.map_cons, List.sum_cons]; omega, fun l hl => ?_⟩, shows_of_loop il hp (by omega) hz lo, tu, fun _ => ⟨t, tl, pz c, by omega, cp, by omega, rfl, b1, b2, tB.2, lo⟩⟩
    rcases List.mem_cons.mp hl with rfl | hl
    · exact hB.2
    · exact b3 l hl
  obtain ⟨p1, p2, p3⟩ := m1
  have bE := iB.app (B.of (n := 1) (x := "}") (by decide +kernel))
  have bEl := bE.1
  have q1 : ∀ L : List Str, L.length ≤ 5000 → ∀ st, binV .add (.fl (L.map PV.str)) (.fl [PV.str (ind ++ "if (" ++ t ++ ") {")]) st = some (.fl (L.map PV.str ++ [PV.str (ind ++ "if (" ++ t ++ ") {")])) := fun L hL st => bin_add_fl (by simp; omega)
  have q2 : ∀ L : List Str, L.length ≤ 5000 → ∀ st, binV .add (.fl (L.map PV.str ++ [PV.str (ind ++ "if (" ++ t ++ ") {")])) (.fl (las.map PV.str)) st = some (.fl (L.map PV.str ++ PV.str (ind ++ "if (" ++ t ++ ") {") :: las.map PV.str)) := fun L hL st => by rw [bin_add_fl (by simp; omega)]; simp
  by_cases h1 : b = []
  · subst h1
    rw [pzL_nil] at ez
    refine fin (las ++ [ind ++ "}"]) (by simp only [List.length_append, List.length_cons, List.length_nil]; omega) (by simp only [List.map_append, List.sum_append, List.map_cons, List.map_nil, List.sum_cons, List.sum_nil]; omega) (fun l hl => ?_) (fun k m st L h x4 x5 x6 x7 hh hL hm => ?_) fun k st L bd x4 x5 x6 hL => ?_
    · rcases List.mem_append.mp hl with hl | hl
      · exact p3 l hl
      · rw [List.mem_singleton.mp hl]; exact bE.2
    · obtain ⟨m, rfl⟩ : ∃ m', m = m' + 1 := ⟨m - 1, by omega⟩
      have lt := (loop_turn (d := d) (k := k) (t := t) (las := las) (L := L) (h := h) (x4 := x4) (x5 := x5) (x6 := x6) (x7 := x7) (st := st) il hh (by omega) (by omega) (by omega) hp (fun st => by have := t1 (k + 4 * d + 10) st; rw [show k + 4 * d + 10 + 2 * 25 + 2 = k + 4 * d + 62 by omega] at this; exact this) (fun st => by have := m2 (k + 1) st; rw [show k + 1 + 4 * d + 61 = k + 4 * d + 62 by omega] at this; exact this)).1 (.inl rfl)
      rw [show k + 4 * (d + 1) + 58 = k + 4 * d + 62 by omega, whl_succ w109_ok, lt]
      exact ⟨_, _, _, _, [], h, L ++ (ind ++ h ++ t ++ ") {") :: las, [ind ++ "}"], rfl, by simp, by simp only [List.length_append, List.length_cons]; omega, .inl ⟨rfl, rfl⟩⟩
    · have i := m3 k st
      have tt := t2 (k + d + 7) st
      rw [show k + d + 7 + 25 + 1 = k + d + 33 by omega] at tt
      have c1 := q1 L hL
      have c2 := q2 L hL
      have hL2 : L.length + (las.length + 1) < 16777216 := by omega
      rw [show k + (d + 1) + 32 = k + d + 33 by omega]
      simp (disch := ((try simp only [len_app, LQ, List.length_cons, List.length_nil]); omega)) [b114_0, evSs, evS, ev, evA, evCs, ME.held, leave_id, add_ok, i, tt, pc, sizeLine_eq, c1, c2, hL2]
  -- a second branch that is no chain
  by_cases h2 : (∃ w xs, ¬ w = ("if" : Str) ∧ b = [.tup (.str w :: xs)]) ∨ ∃ x y xs, b = x :: y :: xs
  · obtain ⟨lbs, n1, n2, n3⟩ := sub_ok (ind := ind ++ "  ") ((hi.app (.of (n := 2) (by decide +kernel))).mono (by omega)) hb ihb (by omega)
    obtain ⟨r1, r2, r3⟩ := n1
    have bM := iB.app (B.of (n := 8) (x := "} else {") (by decide +kernel))
    have bMl := bM.1
    have pos : 1 ≤ pzL b := by
      rcases h2 with ⟨w, xs, hw, rfl⟩ | ⟨x, y, xs, rfl⟩
      · have := (hb _ List.mem_cons_self).pos
        rw [pzL_cons]; omega
      · have := (hb x List.mem_cons_self).pos
        rw [pzL_cons]; omega
    have bne : ∃ x xs, b = x :: xs := by
      rcases h2 with ⟨w, xs, hw, rfl⟩ | ⟨x, y, xs, rfl⟩
      · exact ⟨_, _, rfl⟩
      · exact ⟨_, _, rfl⟩
    have br := braced_ok (d := d) (b := b) (ind := ind) (head := "} else {") (ls := lbs) (by omega) (by decide +kernel) (by omega) n2
    refine fin (las ++ ((ind ++ "} else {") :: lbs ++ [ind ++ "}"])) (by simp only [List.length_append, List.length_cons, List.length_nil]; omega) (by simp only [List.map_append, List.sum_append, List.map_cons, List.map_nil, List.sum_cons, List.sum_nil]; omega) (fun l hl => ?_) (fun k m st L h x4 x5 x6 x7 hh hL hm => ?_) fun k st L bd x4 x5 x6 hL => ?_
    · simp only [List.cons_append, List.mem_cons, List.mem_append, List.not_mem_nil, or_false] at hl
      rcases hl with hl | rfl | hl | rfl
      · exact p3 l hl
      · exact bM.2
      · exact r3 l hl
      · exact bE.2
    · obtain ⟨m, rfl⟩ : ∃ m', m = m' + 1 := ⟨m - 1, by omega⟩
      have lt := (loop_turn (d := d) (k := k) (t := t) (las := las) (L := L) (h := h) (x4 := x4) (x5 := x5) (x6 := x6) (x7 := x7) (st := st) il hh (by omega) (by omega) (by omega) hp (fun st => by have := t1 (k + 4 * d + 10) st; rw [show k + 4 * d + 10 + 2 * 25 + 2 = k + 4 * d + 62 by omega] at this; exact this) (fun st => by have := m2 (k + 1) st; rw [show k + 1 + 4 * d + 61 = k + 4 * d + 62 by omega] at this; exact this)).1 (.inr (h2.symm))
      rw [show k + 4 * (d + 1) + 58 = k + 4 * d + 62 by omega, whl_succ w109_ok, lt]
      exact ⟨_, _, _, _, b, h, L ++ (ind ++ h ++ t ++ ") {") :: las, (ind ++ "} else {") :: lbs ++ [ind ++ "}"], rfl, by simp, by simp only [List.length_append, List.length_cons]; omega, .inr ⟨bne, by simp only [List.length_append, List.length_cons, List.length_nil]; omega, fun k st => by
        have := br k st
        rw [show k + 4 * (d + 1) + 58 = k + 4 * d + 62 by omega]
        exact this⟩⟩
    · have i := m3 k st
      have i2 := n3 k st
      have tt := t2 (k + d + 7) st
      rw [show k + d + 7 + 25 + 1 = k + d + 33 by omega] at tt
      have c1 := q1 L hL
      have c2 := q2 L hL
      have e3 : (L.map PV.str ++ PV.str (ind ++ "if (" ++ t ++ ") {") :: las.map PV.str).length + ([PV.str (ind ++ "} else {")] : List PV).length ≤ 16000000 := by simp; omega
      have e4 : (L.map PV.str ++ PV.str (ind ++ "if (" ++ t ++ ") {") :: las.map PV.str ++ [PV.str (ind ++ "} else {")]).length + (lbs.map PV.str).length ≤ 16000000 := by simp; omega
      have c3 := fun st => bin_add_fl (st := st) e3
      have c4 := fun st => bin_add_fl (st := st) e4
      have hL2 : (L.map PV.str ++ PV.str (ind ++ "if (" ++ t ++ ") {") :: las.map PV.str ++ [PV.str (ind ++ "} else {")] ++ lbs.map PV.str).length < 16777216 := by simp; omega
      rw [show k + (d + 1) + 32 = k + d + 33 by omega]
      simp at c3 c4 hL2
      rcases h2 with ⟨w, xs, hw, rfl⟩ | ⟨x, y, xs, rfl⟩
      · simp (disch := ((try simp only [len_app, LQ, List.length_cons, List.length_nil]); omega)) [b114_0, evSs, evS, ev, evA, evCs, ME.held, leave_id, add_ok, i, i2, tt, pc, sizeLine_eq, c1, c2, c3, c4, hL2, hw]
      · have z : ¬ ((xs.length : Int) + 1 + 1 = 1) := by omega
        simp (disch := ((try simp only [len_app, LQ, List.length_cons, List.length_nil]); omega)) [b114_0, evSs, evS, ev, evA, evCs, ME.held, leave_id, add_ok, i, i2, tt, pc, sizeLine_eq, c1, c2, c3, c4, hL2, z]
  -- a chain
  obtain ⟨xs, rfl⟩ : ∃ xs, b = [.tup (.str "if" :: xs)] := by
    cases b with
    | nil => exact absurd rfl h1
    | cons x r =>
      cases r with
      | cons y r => exact absurd (.inr ⟨_, _, _, rfl⟩) h2
      | nil =>
        obtain ⟨w, xs, rfl⟩ := (hb x List.mem_cons_self).tup
        by_cases hw : w = "if"
        · exact ⟨xs, by rw [hw]⟩
        · exact absurd (.inl ⟨w, xs, hw, rfl⟩) h2
  have hm2 : PV.tup (.str "if" :: xs) ∈ [PV.tup (.str "if" :: xs)] := List.mem_cons_self
  obtain ⟨ls2, u1, u2, u3, u4⟩ := ihb _ hm2 ind (hi.mono (by omega))
  obtain ⟨w1, w2, w3⟩ := body_ok (b := [PV.tup (.str "if" :: xs)]) (f := fun _ => ls2) (fun s hs => (hb s hs).pure) (fun s hs => by rw [List.mem_singleton.mp hs]; exact u1) (fun s hs => by rw [List.mem_singleton.mp hs]; exact u2) (fun s hs => by rw [List.mem_singleton.mp hs]; exact u3) (by omega)
  have fl : ([PV.tup (.str "if" :: xs)].map fun _ => ls2).flatten = ls2 := by simp
  rw [fl] at w3
  obtain ⟨tt2, tl2, pp, y1, y2, y3, rfl, y4, y5, y6, y7⟩ := u4 rfl
  have e2 : pzL [PV.tup (.str "if" :: xs)] = pz (.tup (.str "if" :: xs)) := by rw [pzL_cons, pzL_nil, Nat.add_zero]
  have t2B : B (70 * pp - 6) tt2 := ⟨by omega, y6⟩
  have hB2 := if_B (p := pp) iB (show B 20 "} else if (" from .of (by decide +kernel)) t2B
  have hB2l := hB2.1
  rw [e2] at ez
  refine fin (las ++ (ind ++ "} else if (" ++ tt2 ++ ") {") :: tl2) (by simp only [List.length_append, List.length_cons]; omega) (by simp only [List.map_append, List.sum_append, List.map_cons, List.sum_cons]; omega) (fun l hl => ?_) (fun k m st L h x4 x5 x6 x7 hh hL hm => ?_) fun k st L bd x4 x5 x6 hL => ?_
  · rcases List.mem_append.mp hl with hl | hl
    · exact p3 l hl
    · rcases List.mem_cons.mp hl with rfl | hl
      · exact hB2.2
      · exact u1.2.2 l (List.mem_cons_of_mem _ hl)
  · obtain ⟨m, rfl⟩ : ∃ m', m = m' + 1 := ⟨m - 1, by omega⟩
    have lt := (loop_turn (d := d) (k := k) (t := t) (las := las) (L := L) (h := h) (x4 := x4) (x5 := x5) (x6 := x6) (x7 := x7) (st := st) il hh (by omega) (by omega) (by omega) hp (fun st => by have := t1 (k + 4 * d + 10) st; rw [show k + 4 * d + 10 + 2 * 25 + 2 = k + 4 * d + 62 by omega] at this; exact this) (fun st => by have := m2 (k + 1) st; rw [show k + 1 + 4 * d + 61 = k + 4 * d + 62 by omega] at this; exact this)).2 xs rfl
    obtain ⟨s', u, c', a', b', h', L', ls', g1, g2, g3, g4⟩ := y7 (k + 4) m st (L ++ (ind ++ h ++ t ++ ") {") :: las) "} else if (" (some (.str "if")) (some c) (some (.tup a)) (some (.tup [.tup (.str "if" :: xs)])) (by decide +kernel) (by simp only [List.length_append, List.length_cons]; omega) (by omega)
    rw [show k + 4 * (d + 1) + 58 = k + 4 * d + 62 by omega, whl_succ w109_ok, lt]
    rw [show k + 4 + 4 * d + 58 = k + 4 * d + 62 by omega] at g1
    refine ⟨s', u, c', a', b', h', L', ls', g1, ?_, ?_, ?_⟩
    · rw [← g2]; simp
    · simp only [List.length_append, List.length_cons] at g3; omega
    · rcases g4 with z | ⟨z1, z2, z3⟩
      · exact .inl z
      · refine .inr ⟨z1, by omega, fun k st => ?_⟩
        have := z3 (k + 4) st
        rw [show k + 4 + 4 * d + 58 = k + 4 * (d + 1) + 58 by omega] at this
        exact this
  · have i := m3 k st
    have i2 := w3 k st
    have tt := t2 (k + d + 7) st
    rw [show k + d + 7 + 25 + 1 = k + d + 33 by omega] at tt
    have c1 := q1 L hL
    have c2 := q2 L hL
    have cu := cut_pre ind ("if (" ++ tt2 ++ ") {")
    rw [← app_assoc, ← app_assoc] at cu
    have t2l : tt2.length ≤ 70000 := by omega
    have sl1 := fun st => sl_str_ok (x := ind ++ "if (" ++ tt2 ++ ") {") (lo := some (ind.length : Int)) (hi := none) (st := st) (by simp only [len_app, LQ]; omega)
    simp only [cu] at sl1
    have as1 : ind ++ "} else " ++ ("if (" ++ tt2 ++ ") {") = ind ++ "} else if (" ++ tt2 ++ ") {" := by
      rw [show ("} else if (" : Str) = "} else " ++ "if (" by decide +kernel]
      simp only [app_assoc]
    have ad := fun st => add_ok (x := ind ++ "} else ") (y := "if (" ++ tt2 ++ ") {") (st := st) (by simp only [len_app, LQ]; omega) (by simp only [len_app, LQ]; omega)
    simp only [as1] at ad
    have lin := fun st => len_ok (x := ind) (st := st) (by omega)
    have e3 : (L.map PV.str ++ PV.str (ind ++ "if (" ++ t ++ ") {") :: las.map PV.str ++ [PV.str (ind ++ "} else if (" ++ tt2 ++ ") {")]).length + (tl2.map PV.str).length ≤ 16000000 := by simp; omega
    have c3 := fun st => bin_add_fl (st := st) e3
    have hL2 : (L.map PV.str ++ PV.str (ind ++ "if (" ++ t ++ ") {") :: las.map PV.str).length < 16777216 := by simp; omega
    rw [show k + (d + 1) + 32 = k + d + 33 by omega]
    have wp := (hb _ hm2).pure
    have ep := fun st => esc_p wp st
    simp at c3 hL2
    have sl2 : ∀ x : PV, ∀ st, slV (.fl (x :: tl2.map PV.str)) (some 1) none st = some (.fl (tl2.map PV.str)) := fun x st => by rw [sl_fl, cutL_1]
    simp (disch := ((try simp only [len_app, LQ, List.length_cons, List.length_nil]); omega)) [b114_0, evSs, evS, ev, evA, evCs, ME.held, leave_id, add_ok, i, i2, tt, pc, sizeLine_eq, c1, c2, c3, hL2, ep, ME.absent, bound_non, bound_int, lin, sl1, sl2, ad]
end K13

set_option maxHeartbeats 4000000
namespace K13
open PySem L2 U
variable {ns : List Int} {R : Store} {st : Store}
theorem st_all : ∀ (d : Nat) (s : PV), WS d s → d ≤ 60 → pz s ≤ 1000 → St d s := by
  have flat : ∀ (d : Nat) (s : PV) (P : List PV → Prop), (∀ b, ¬ P b) → SH P s → St d s := fun d s P np h => by
    cases h with
    | call h => exact st_simple (simple_call h) rfl (by simp) (by simp) (by simp) (by simp) (by simp)
    | @decl w x b hw h => rcases hw with rfl | rfl <;> exact st_simple (simple_decl (by simp) h) rfl (by simp) (by simp) (by simp) (by simp) (by simp)
    | @jump w l hw h =>
      have pl : PV.pureL [l] = true := by show (PV.pure l && true) = true; rw [h.pure]; rfl
      rcases hw with rfl | rfl <;> exact st_simple (simple_jump (by simp) (.inl h)) pl (by simp) (by simp) (by simp) (by simp) (by simp)
    | @ret l h =>
      have pl : PV.pureL [l] = true := by show (PV.pure l && true) = true; rw [h.pure]; rfl
      exact st_simple (simple_jump (by simp) (.inr h)) pl (by simp) (by simp) (by simp) (by simp) (by simp)
    | block h => exact (np _ h).elim
    | for_ hl h => exact (np _ h).elim
    | try_ h1 h2 => exact (np _ h1).elim
    | while_ hl hc h => exact (np _ h).elim
    | if_ hc h1 h2 => exact (np _ h1).elim
  intro d
  induction d with
  | zero => exact fun s h _ _ => flat 0 s _ (fun _ z => z) h
  | succ d ih =>
    intro s h hd hz
    have sub : ∀ {b : List PV}, (∀ s ∈ b, WS d s) → pzL b ≤ 1000 → ∀ s ∈ b, St d s := fun hb hz s hs => ih s (hb s hs) (by omega) (by have := pzL_mem hs; omega)
    cases h with
    | call h => exact flat _ _ (fun _ => False) (fun _ z => z) (.call h)
    | decl hw h => exact flat _ _ (fun _ => False) (fun _ z => z) (.decl hw h)
    | jump hw h => exact flat _ _ (fun _ => False) (fun _ z => z) (.jump hw h)
    | ret h => exact flat _ _ (fun _ => False) (fun _ z => z) (.ret h)
    | block h =>
      rw [pz_node, pzL_cons, pzL_nil, pz_b h] at hz
      exact st_block (by omega) h (sub h (by omega)) (by omega)
    | for_ hl h =>
      rw [pz_node, pzL_cons, pzL_cons, pzL_nil, pz_b h] at hz
      exact st_for (by omega) hl h (sub h (by omega)) (by omega)
    | try_ h1 h2 =>
      rw [pz_node, pzL_cons, pzL_cons, pzL_nil, pz_b h1, pz_b h2] at hz
      exact st_try (by omega) h1 (sub h1 (by omega)) (by omega) h2 (sub h2 (by omega)) (by omega)
    | while_ hl hc h =>
      rw [pz_node, pzL_cons, pzL_cons, pzL_cons, pzL_nil, pz_b h] at hz
      exact st_while (by omega) hl hc (by omega) h (sub h (by omega)) (by omega)
    | if_ hc h1 h2 =>
      have hz0 := hz
      rw [pz_node, pzL_cons, pzL_cons, pzL_cons, pzL_nil, pz_b h1, pz_b h2] at hz
      exact st_if (by omega) hc h1 (sub h1 (by omega)) h2 (sub h2 (by omega)) hz0
theorem add_big {x y : Str} {st : Store} (hx : x.length ≤ 8000000) (hy : y.length ≤ 8000000) : binV .add (.str x) (.str y) st = some (.str (x ++ y)) := bin_add_str (by rw [sizeLine_eq]; omega)
theorem sum_mem {l : Str} : ∀ {ls : List Str}, l ∈ ls → l.length ≤ (ls.map (·.length)).sum
  | y :: ys, h => by
    rw [List.map_cons, List.sum_cons]
    rcases List.mem_cons.mp h with rfl | h
    · omega
    · have := sum_mem h; omega
theorem sum_nl : ∀ ls : List Str, ((ls.map fun l => l ++ ("\n" : Str)).map (·.length)).sum = (ls.map (·.length)).sum + ls.length
  | [] => rfl
  | l :: ls => by
    have := sum_nl ls
    simp only [List.map_cons, List.sum_cons, List.length_cons, len_app, LQ] at this ⊢
    omega
/-- both printed forms of a program are the same text -/
theorem printed_ok {b : List PV} (h : ∀ s ∈ b, WS 40 s) (hz : pzL b ≤ 1000) : ∃ t : Str, (reprText t).length ≤ sizeLine ∧ (∀ k st, evCall TURNS D (k + 222) 105 [.tup b] st = .ok (.str t) st) ∧ ∀ k st, evCall TURNS D (k + 80) 115 [.tup b] st = .ok (.str t) st := by
  obtain ⟨ls, l1, l2, l3⟩ := sub_ok (d := 40) (ind := "") (B.of (by decide +kernel)) h (fun s hs => st_all 40 s (h s hs) (by omega) (by have := pzL_mem hs; omega)) hz
  obtain ⟨p1, p2, p3⟩ := l1
  have lc : ∀ (call : Nat → List PV → Store → Res PV) (e : ME), e = e105_0 → ∀ st (env : En), env.length = 2 → lcLoop (fun _ s => .ok true s) (ev call e .val) (MG.put (.nm 1)) env (.items (ls.map PV.str)) 0 ls.length [] st = .ok (.fl (ls.map fun l => PV.str (l ++ "\n"))) st := fun call e he st env hl => by
    subst he
    have q := lc_each (call := call) (elt := e105_0) (i := 1) (env := env) (xs := ls.map PV.str) (st := st) (fun x => match x with | .str l => .str (l ++ "\n") | _ => .non) (by rw [List.length_map]; omega) (by omega) fun x hx env' _ h2 => by
      obtain ⟨l, hl, rfl⟩ := List.mem_map.mp hx
      have b := sum_mem hl
      refine ⟨?_, rfl⟩
      have a := add_big (x := l) (y := "\n") (st := st) (by omega) (by decide +kernel)
      simp [e105_0, ev, h2, a]
    rw [List.length_map, List.map_map] at q
    exact q
  have jn : ∀ st, mtV .join (.str "") [.fl (ls.map fun l => PV.str (l ++ "\n"))] st = .ok (.str (Txt.join "" (ls.map fun l => l ++ "\n"))) st := fun st => by
    unfold mtV
    simp only [seq_fl]
    rw [strsL_map]
    simp only []
    rw [if_pos]
    have := sum_nl ls
    simp only [LQ, Nat.zero_mul, Nat.add_zero]
    omega
  have tB := join_B (a := "") (m := 0) (.of (by decide +kernel)) (ls.map fun l => l ++ ("\n" : Str)) fun y hy => by
    obtain ⟨l, hl, rfl⟩ := List.mem_map.mp hy
    exact (B.app (n := l.length) ⟨Nat.le_refl _, p3 l hl⟩ (B.of (n := 1) (x := "\n") (by decide +kernel))).2
  have s2 := sum_nl ls
  refine ⟨Txt.join "" (ls.map fun l => l ++ "\n"), ?_, fun k st => ?_, fun k st => ?_⟩
  · have := PySem.StrLaws.reprText_len (Txt.join "" (ls.map fun l => l ++ ("\n" : Str))) fun c hc => Nat.lt_trans (tB.2 c hc) (by decide)
    have := tB.1
    rw [sizeLine_eq]; omega
  · have i := l2 k st
    rw [show k + 4 * 40 + 61 = k + 221 by omega] at i
    have q := lc (evCall TURNS D (k + 221)) e105_0 rfl st
    have j := jn st
    rw [show k + 222 = (k + 221) + 1 by omega, evCall]
    simp [D, d105, evSs, evS, ev, evA, evCs, ME.held, leave_id, i, srcV, Src.many, MG.slots, U.wipe, q, j]
  · have i := l3 (k + 6) st
    rw [show k + 6 + 40 + 33 = k + 79 by omega] at i
    have q := lc (evCall TURNS D (k + 79)) e115_0 rfl st
    have j := jn st
    rw [show k + 80 = (k + 79) + 1 by omega, evCall]
    simp [D, d115, evSs, evS, ev, evA, evCs, ME.held, leave_id, i, srcV, Src.many, MG.slots, U.wipe, q, j]
end K13

set_option maxHeartbeats 4000000
namespace K13
open PySem L2 U
variable {ns : List Int} {R : Store} {st : Store}
/-! ### generators -/
def NM (xs : List Str) : Prop := xs ≠ [] ∧ xs.length ≤ 50 ∧ ∀ x ∈ xs, B 60 x
theorem nameR {k : Nat} {xs : List Str} (h : TR ns R st) (hx : NM xs) : ∃ r st' x, evCall TURNS D (k + 1) 5 [.loc 1, .int xs.length] st = .ok (.int r) st' ∧ TR ns R st' ∧ atI (xs.map PV.str) r = some (.str x) ∧ B 60 x ∧ x ∈ xs := by
  obtain ⟨h1, h2, h3⟩ := hx
  have hl : 1 ≤ xs.length := by
    cases xs with
    | nil => exact absurd rfl h1
    | cons x xs => simp
  obtain ⟨r, st', q1, q2, q3, q4⟩ := drawR (k := k) (m := (xs.length : Int)) h (by omega)
  obtain ⟨y, hy, q5⟩ := pick (xs := xs.map PV.str) (i := r) q3 (by rw [List.length_map]; omega)
  obtain ⟨x, hx, rfl⟩ := List.mem_map.mp hy
  exact ⟨r, st', x, q1, q2, q5, h3 x hx, hx⟩
theorem side_ok {d : Nat} {w : Str} {l : PV} (hw : w = "and" ∨ w = "or") (h : WC (d + 1) l) : ∃ P : List PV, (∀ c ∈ P, WC (d + 1) c ∧ hd c ≠ some w) ∧ pzL P ≤ pz l ∧ P.length ≤ pz l ∧
    (l = .tup [.str w, .tup P] ∨ (P = [l] ∧ ∃ (w' : Str) (x : PV), l = .tup [.str w', x] ∧ ¬ w' = w)) := by
  by_cases e : hd l = some w
  · rcases h with ⟨k, x, hk, _, rfl⟩ | ⟨c, rfl, _⟩ | ⟨k, cs, hk, rfl, h⟩
    · have e := Option.some.inj e
      subst e
      rcases hk with rfl | rfl <;> simp at hw
    · have e := Option.some.inj e
      subst e
      simp at hw
    · have e := Option.some.inj e
      subst e
      have np := noStr_of fun c hc => by obtain ⟨w, x, e, _⟩ := (h c hc).1.tup; exact ⟨_, e⟩
      have hl := pz_many fun c hc => (h c hc).1.pos
      refine ⟨cs, fun c hc => ⟨(h c hc).1.up, (h c hc).2⟩, ?_, ?_, .inl rfl⟩
      · rw [pz_node, pzL_cons, pzL_nil, pz_body np]; omega
      · rw [pz_node, pzL_cons, pzL_nil, pz_body np]; omega
  · have hp := h.pos
    obtain ⟨w', x, rfl, _⟩ := h.tup
    refine ⟨[.tup [.str w', x]], fun c hc => by rw [List.mem_singleton.mp hc]; exact ⟨h, e⟩, by rw [pzL_cons, pzL_nil]; omega, by rw [List.length_cons, List.length_nil]; omega, .inr ⟨rfl, w', x, rfl, fun z => e (by rw [z]; rfl)⟩⟩
theorem bi_list_tup (xs : List PV) (st : Store) : biV .list [.tup xs] st = some (.fl xs) := rfl
theorem bi_tuple_fl (xs : List PV) (st : Store) : biV .tuple [.fl xs] st = some (.tup xs) := rfl
theorem joined_ok {d : Nat} {w : Str} {l r : PV} (hw : w = "and" ∨ w = "or") (hl : WC (d + 1) l) (hr : WC (d + 1) r) (zl : pz l ≤ 1000) (zr : pz r ≤ 1000) :
    ∃ v, (∀ k st, evCall TURNS D (k + 1) 20 [.str w, l, r] st = .ok v st) ∧ WC (d + 2) v ∧ pz v ≤ 1 + pz l + pz r ∧ PV.pure v = true := by
  obtain ⟨P, p1, p2, p3, p4⟩ := side_ok hw hl
  obtain ⟨Q, q1, q2, q3, q4⟩ := side_ok hw hr
  have hall : ∀ c ∈ P ++ Q, WC (d + 1) c ∧ hd c ≠ some w := fun c hc => (List.mem_append.mp hc).elim (p1 c) (q1 c)
  have hwc : WC (d + 2) (.tup [.str w, .tup (P ++ Q)]) := .inr (.inr ⟨w, P ++ Q, hw, rfl, hall⟩)
  refine ⟨.tup [.str w, .tup (P ++ Q)], fun k st => ?_, hwc, ?_, hwc.pure⟩
  · have pl := hl.pure
    have pr := hr.pure
    have el := fun st => esc_p pl st
    have er := fun st => esc_p pr st
    have vl := fun st => varV_p pl st
    have vr := fun st => varV_p pr st
    have z0 : P.length < 16777216 ∧ Q.length < 16777216 ∧ P.length + Q.length ≤ 16777216 ∧ P.length + Q.length < 16777216 := by omega
    obtain ⟨z1, z2, z3, z4⟩ := z0
    rw [evCall]
    rcases p4 with rfl | ⟨rfl, w1, x, rfl, n1⟩ <;> rcases q4 with rfl | ⟨rfl, w2, y, rfl, n2⟩
    · have c1 := fun st => bin_add_fl (xs := []) (ys := P) (st := st) (by simp; omega)
      have c2 := fun st => bin_add_fl (xs := P) (ys := Q) (st := st) (by omega)
      simp only [List.nil_append] at c1
      simp [D, d20, b20_0, evSs, evS, ev, evA, evCs, evSrc, ME.held, leave_id, srcV, Src.many, forLoop, Src.get, MG.put, sizeLine_eq, bi_list_tup, bi_tuple_fl, c1, c2, el, er, vl, vr, Src.fits]
    · have c1 := fun st => bin_add_fl (xs := []) (ys := P) (st := st) (by simp; omega)
      simp only [List.nil_append] at c1
      simp [D, d20, b20_0, evSs, evS, ev, evA, evCs, evSrc, ME.held, leave_id, srcV, Src.many, forLoop, Src.get, MG.put, sizeLine_eq, bi_list_tup, bi_tuple_fl, c1, el, er, vl, vr, Src.fits, n2, z1]
    · have c1 := fun st => bin_add_fl (xs := [PV.tup [.str w1, x]]) (ys := Q) (st := st) (by simp; omega)
      simp only [List.cons_append, List.nil_append] at c1
      simp [D, d20, b20_0, evSs, evS, ev, evA, evCs, evSrc, ME.held, leave_id, srcV, Src.many, forLoop, Src.get, MG.put, sizeLine_eq, bi_list_tup, bi_tuple_fl, c1, el, er, vl, vr, Src.fits, n1]
    · simp [D, d20, b20_0, evSs, evS, ev, evA, evCs, evSrc, ME.held, leave_id, srcV, Src.many, forLoop, Src.get, MG.put, sizeLine_eq, bi_list_tup, bi_tuple_fl, el, er, vl, vr, Src.fits, n1, n2]
  · have np := noStr_of fun c hc => by obtain ⟨w, x, e, _⟩ := (hall c hc).1.tup; exact ⟨_, e⟩
    rw [pz_node, pzL_cons, pzL_nil, pz_body np, pzL_app]; omega
end K13

set_option maxHeartbeats 4000000
namespace K13
open PySem L2 U
variable {ns : List Int} {R : Store} {st : Store}
abbrev FR (a b : Int) : List PV := [.int 0, .int a, .int 0, .int 0, .int 0, .int b]
def CS (ns : List Int) (R : Store) (f : Nat) (a b : Int) (st : Store) : Prop := TR ns (R.set f (.lst (FR a b))) st
structure Wl (R : Store) (xs : List Str) (f w : Nat) : Prop where
  hn : R[0]? = some (.lst (xs.map .str))
  hw : R[w]? = some (.lst [.loc (f + 2), .loc 2, .loc 2, .loc 2])
  f0 : f ≠ 0
  fw : f ≠ w
  fl : f < R.length
variable {xs : List Str} {f w : Nat} {a b : Int}
theorem CS.cn (h : CS ns R f a b st) (W : Wl R xs f w) : st[2]? = some (.lst (xs.map .str)) := by
  have := TR.at h 0
  rw [List.getElem?_set_ne W.f0, W.hn] at this
  exact this
theorem CS.cw (h : CS ns R f a b st) (W : Wl R xs f w) : st[w + 2]? = some (.lst [.loc (f + 2), .loc 2, .loc 2, .loc 2]) := by
  have := TR.at h w
  rw [List.getElem?_set_ne W.fw, W.hw] at this
  exact this
theorem CS.cf (h : CS ns R f a b st) (W : Wl R xs f w) : st[f + 2]? = some (.lst (FR a b)) := by
  have := TR.at h f
  rw [List.getElem?_set_self W.fl] at this
  exact this
theorem CS.set (h : CS ns R f a b st) (a' b' : Int) : CS ns R f a' b' (setAt st (f + 2) (FR a' b')) := by
  have := TR.set h f (FR a' b')
  rw [List.set_set] at this
  exact this
theorem CS.len (h : CS ns R f a b st) : st.length = R.length + 2 := by
  have := TR.len h
  simpa using this
theorem truth_loc {n : Nat} {ys : List PV} {st : Store} (h : st[n]? = some (.lst ys)) : done .test (.loc n) st = .ok (.bl (!ys.isEmpty)) st := by
  show (opt ((seqOf (.loc n) st).map fun xs => !xs.isEmpty) st).bind _ = _
  rw [seq_loc h]; rfl
theorem leaf_ok {k : Nat} (W : Wl R xs f w) (hx : NM xs) (h : CS ns R f a b st) : ∃ v st' a', evCall TURNS D (k + 2) 19 [.loc 1, .loc (w + 2), .loc 2] st = .ok v st' ∧ WF v ∧ CS ns R f a' b st' := by
  have e1 : ixN 6 1 = some 1 := rfl
  have xe : (xs.map PV.str).isEmpty = false := by
    cases xs with
    | nil => exact absurd rfl hx.1
    | cons x xs => rfl
  have t0 := truth_loc (h.cn W)
  rw [xe] at t0
  have iw := ix_loc (k := 0) (h.cw W)
  have i1 := ix_loc (k := 1) (h.cf W)
  have fin : ∀ {st'} {a'}, CS ns R f a' b st' → ∀ v, leave st.length v st' = .ok v st' := fun c v => leave_same (by rw [c.len, h.len]; omega)
  rw [show k + 2 = (k + 1) + 1 from rfl, evCall]
  by_cases h0 : a = 0
  · obtain ⟨r, st1, x, q1, q2, q3, q4, _⟩ := nameR (k := k) h hx
    have q2 : CS ns R f a b st1 := q2
    have bl := bi_len_loc (h.cn W)
    rw [List.length_map] at bl
    have ix := ix_loc (k := r) (q2.cn W)
    rw [q3] at ix
    refine ⟨.tup [.str "flag", .str x], st1, a, ?_, ⟨_, _, .inr rfl, q4, rfl⟩, q2⟩
    simp [D, d19, evSs, evS, ev, evA, evCs, ME.held, iw, i1, t0, h0, bl, q1, ix, fin q2, sizeLine_eq]
  · obtain ⟨r3, st1, g1, g2, g3, g4⟩ := drawR (k := k) (m := 3) h (by decide)
    have g2 : CS ns R f a b st1 := g2
    by_cases h3 : r3 = 0
    · subst h3
      obtain ⟨r, st2, x, q1, q2, q3, q4, _⟩ := nameR (k := k) g2 hx
      have q2 : CS ns R f a b st2 := q2
      have bl := bi_len_loc (g2.cn W)
      rw [List.length_map] at bl
      have ix := ix_loc (k := r) (q2.cn W)
      rw [q3] at ix
      refine ⟨.tup [.str "flag", .str x], st2, a, ?_, ⟨_, _, .inr rfl, q4, rfl⟩, q2⟩
      simp [D, d19, evSs, evS, ev, evA, evCs, ME.held, iw, i1, t0, h0, g1, bl, q1, ix, fin q2, sizeLine_eq]
    · have g5 := g2.set (a - 1) b
      obtain ⟨r, st2, x, q1, q2, q3, q4, _⟩ := nameR (k := k) g5 hx
      have q2 : CS ns R f (a - 1) b st2 := q2
      have bl := bi_len_loc (g5.cn W)
      rw [List.length_map] at bl
      have ix := ix_loc (k := r) (q2.cn W)
      rw [q3] at ix
      have j1 := ix_loc (k := 1) (g2.cf W)
      have jf := g2.cf W
      have jw := ix_loc (k := 1) (g5.cw W)
      have jw2 := ix_loc (k := 1) (g5.cw W)
      refine ⟨.tup [.str "call", .str x], st2, a - 1, ?_, ⟨_, _, .inl rfl, q4, rfl⟩, q2⟩
      simp [D, d19, evSs, evS, ev, evA, evCs, ME.held, iw, i1, t0, h0, g1, h3, j1, jf, e1, jw, bl, q1, ix, fin q2, sizeLine_eq]
end K13

set_option maxHeartbeats 4000000
namespace K13
open PySem L2 U
variable {ns : List Int} {R : Store} {st : Store} {xs : List Str} {f w : Nat} {a b : Int}
theorem cutL_lo {α : Type} (A C : List PV) : cutL (A ++ C) none (some (A.length : Int)) = A := by
  unfold cutL
  rw [HT.sIx_nat, HT.sIx_none]
  have : min A.length (A ++ C).length = A.length := by simp
  rw [this]
  simp
theorem cutL_hi {α : Type} (A C : List PV) (i : Int) (h : i = (A.length : Int)) : cutL (A ++ C) (some i) none = C := by
  subst h
  unfold cutL
  rw [HT.sIx_nat, HT.sIx_none]
  have : min A.length (A ++ C).length = A.length := by simp
  rw [this, List.drop_left, List.take_of_length_le (by simp)]
theorem split2 {ps : List PV} {i : Int} (h0 : 0 ≤ i) (h1 : i < (ps.length : Int) - 1) : ∃ A p q C, ps = A ++ p :: q :: C ∧ (A.length : Int) = i := by
  refine ⟨ps.take i.toNat, ps[i.toNat]'(by omega), ps[i.toNat + 1]'(by omega), ps.drop (i.toNat + 2), ?_, ?_⟩
  · have e1 : ps.drop i.toNat = ps[i.toNat]'(by omega) :: ps.drop (i.toNat + 1) := List.drop_eq_getElem_cons (by omega)
    have e2 : ps.drop (i.toNat + 1) = ps[i.toNat + 1]'(by omega) :: ps.drop (i.toNat + 2) := List.drop_eq_getElem_cons (by omega)
    have e3 : ps = ps.take i.toNat ++ ps.drop i.toNat := (List.take_append_drop _ _).symm
    rw [e1, e2] at e3
    exact e3
  · rw [List.length_take]; omega
theorem rng_ok' {n : Int} (h0 : 0 ≤ n) (h1 : n < 100000) (st : Store) : rngV (.int 0) (.int n) st = .ok (.items ((List.range n.toNat).map fun (k : Nat) => .int k)) st := by
  have hr : rngV (.int 0) (.int n) st = .ok (.items ((List.range (n - 0).toNat).map fun (k : Nat) => .int (0 + k))) st := if_pos (by omega)
  rw [show n - 0 = n by omega] at hr
  simp only [Int.zero_add] at hr
  exact hr
/-- not, so many times -/
theorem nots_ok {call : Nat → List PV → Store → Res PV} {n : Nat} (hn : n ≤ 2) {v : PV} (hv : WF v) {a0 a1 a2 a3 a4 a5 a7 a8 : Option PV} {st : Store} :
    ∃ v' x7, forLoop (MG.put (.nm 7)) (evSs call TURNS b21_1) (.items ((List.range n).map fun (k : Nat) => .int k)) 0 n [a0, a1, a2, a3, a4, a5, some v, a7, a8] st = .nx [a0, a1, a2, a3, a4, a5, some v', x7, a8] st ∧ WC 2 v' ∧ pz v' ≤ 3 := by
  obtain ⟨e, s, q1, v', x7, q2, q3, q4, q5⟩ := forLoop_inv (put := MG.put (.nm 7)) (body := evSs call TURNS b21_1) (xs := (List.range n).map fun (k : Nat) => .int k)
    (fun j env s => ∃ v' x7, s = st ∧ env = [a0, a1, a2, a3, a4, a5, some v', x7, a8] ∧ WC j v' ∧ pz v' ≤ 1 + j) (fun j x env s hx ⟨v', x7, e1, e2, e3, e4⟩ => by
      subst e1 e2
      refine ⟨[a0, a1, a2, a3, a4, a5, some v', some x, a8], rfl, ?_⟩
      have p := varV_p e3.pure s
      have p2 := esc_p e3.pure s
      simp [b21_1, evSs, evS, ev, evA, p, p2, sizeLine_eq]
      exact ⟨.inr (.inl ⟨v', rfl, e3⟩), by omega⟩) n 0 [a0, a1, a2, a3, a4, a5, some v, a7, a8] st (by simp) ⟨v, a7, rfl, rfl, WC.leaf 0 hv, by
        obtain ⟨w, x, hw, hx, rfl⟩ := hv
        simp⟩
  rw [show ((List.range n).map fun (k : Nat) => PV.int k).length = n by simp] at q4 q5
  exact ⟨v', x7, by rw [q1, q2, q3], q4.mono hn, by omega⟩
end K13

set_option maxHeartbeats 4000000
namespace K13
open PySem L2 U
variable {ns : List Int} {R : Store} {st : Store} {xs : List Str} {f w : Nat} {a b : Int}
/-- the parts -/
theorem cond_parts {k : Nat} (W : Wl R xs f w) (hx : NM xs) {n : Nat} (hn : n ≤ 4) {x5 x6 x7 x8 : Option PV} (h : CS ns R f a b st) :
    ∃ (ps : List PV) (a' : Int) (x5' x6' x7' : Option PV) (st' : Store), forLoop (MG.put (.nm 5)) (evSs (evCall TURNS D (k + 2)) TURNS b21_2) (.items ((List.range n).map fun (k : Nat) => .int k)) 0 n [some (.loc 1), some (.loc (w + 2)), some (.loc 2), some (.int 4), some (.fl []), x5, x6, x7, x8] st
      = .nx [some (.loc 1), some (.loc (w + 2)), some (.loc 2), some (.int 4), some (.fl ps), x5', x6', x7', x8] st' ∧ CS ns R f a' b st' ∧ ps.length = n ∧ (∀ p ∈ ps, WC 3 p) ∧ pzL ps ≤ 3 * n := by
  obtain ⟨e, s, q1, ps, a', x5', x6', x7', q2, q3, q4, q5, q6⟩ := forLoop_inv (put := MG.put (.nm 5)) (body := evSs (evCall TURNS D (k + 2)) TURNS b21_2) (xs := (List.range n).map fun (k : Nat) => .int k)
    (fun j env s => ∃ (ps : List PV) (a' : Int) (x5' x6' x7' : Option PV), env = [some (.loc 1), some (.loc (w + 2)), some (.loc 2), some (.int 4), some (.fl ps), x5', x6', x7', x8] ∧ CS ns R f a' b s ∧ ps.length = j ∧ (∀ p ∈ ps, WC 3 p) ∧ pzL ps ≤ 3 * j) (fun j x env s hx' ⟨ps, a', x5', x6', x7', e1, e2, e3, e4, e5⟩ => by
      subst e1
      have hj : j < n := by
        have := (List.getElem?_eq_some_iff.mp hx').1
        simpa using this
      obtain ⟨v, st1, a1, g1, g2, g3⟩ := leaf_ok (k := k) W hx e2
      obtain ⟨r, st2, h1, h2, h3, h4⟩ : ∃ r st', evCall TURNS D (k + 2) 5 [.loc 1, .int 5] st1 = .ok (.int r) st' ∧ TR ns (R.set f (.lst (FR a1 b))) st' ∧ 0 ≤ r ∧ r < 5 := drawR (k := k + 1) (m := 5) g3 (by decide)
      have h2 : CS ns R f a1 b st2 := h2
      have pk : ∃ n : Int, atI [PV.int 0, .int 0, .int 0, .int 1, .int 2] r = some (.int n) ∧ 0 ≤ n ∧ n ≤ 2 := by
        obtain ⟨y, hy, e3⟩ := pick (xs := [PV.int 0, .int 0, .int 0, .int 1, .int 2]) (i := r) h3 (by simpa using h4)
        simp only [List.mem_cons, List.not_mem_nil, or_false] at hy
        rcases hy with rfl | rfl | rfl | rfl | rfl <;> exact ⟨_, e3, by decide, by decide⟩
      obtain ⟨m, e6, m0, m2⟩ := pk
      have hr := rng_ok' (n := m) m0 (by omega) st2
      obtain ⟨v', y7, l1, l2, l3⟩ := nots_ok (call := evCall TURNS D (k + 2)) (n := m.toNat) (by omega) g2 (a0 := some (.loc 1)) (a1 := some (.loc (w + 2))) (a2 := some (.loc 2)) (a3 := some (.int 4)) (a4 := some (.fl ps)) (a5 := some x) (a7 := x7') (a8 := x8) (st := st2)
      have ec := fun st => esc_p (WC.leaf 0 g2).pure st
      have pv := varV_p l2.pure st2
      have ev' := esc_p l2.pure st2
      have hl : ps.length < 16777216 := by omega
      refine ⟨[some (.loc 1), some (.loc (w + 2)), some (.loc 2), some (.int 4), some (.fl ps), some x, x6', x7', x8], rfl, ?_⟩
      have nfl : ∀ x, v ≠ .fl x := fun x z => by rw [z] at g2; obtain ⟨_, _, _, _, z⟩ := g2; cases z
      simp [b21_2, evSs, evS, ev, evA, evSrc, Src.many, g1, h1, e6, hr, l1, ec, pv, ev', hl, sizeLine_eq, -List.map_map]
      refine ⟨⟨a1, h2⟩, e3, fun p hp => ?_, by omega⟩
      rcases hp with hp | rfl
      · exact e4 p hp
      · exact l2.up) n 0 [some (.loc 1), some (.loc (w + 2)), some (.loc 2), some (.int 4), some (.fl []), x5, x6, x7, x8] st (by simp) ⟨[], a, x5, x6, x7, rfl, h, rfl, (fun p hp => nomatch hp), by simp⟩
  rw [show ((List.range n).map fun (k : Nat) => PV.int k).length = n by simp] at q4 q6
  exact ⟨ps, a', x5', x6', x7', s, by rw [q1, q2], q3, q4, q5, q6⟩
end K13

set_option maxHeartbeats 4000000
namespace K13
open PySem L2 U
variable {ns : List Int} {R : Store} {st : Store} {xs : List Str} {f w : Nat} {a b : Int}
theorem sl_fl' (xs : List PV) (lo hi : Option Int) (st : Store) : slV (.fl xs) lo hi st = some (.fl (cutL xs lo hi)) := rfl
/-- a turn of the joining -/
theorem cond_turn {k j : Nat} {ps : List PV} (hj : j ≤ 2) {x5 x6 x7 x8 : Option PV} (h : CS ns R f a b st) (h1 : 1 ≤ ps.length) (h2 : ps.length ≤ 4) (h3 : ∀ p ∈ ps, WC (3 + 2 * j) p) (h4 : pzL ps ≤ 12 + 2 * j) :
    ∃ (ps' : List PV) (x6' x8' : Option PV) (st' : Store), evSs (evCall TURNS D (k + 1)) TURNS b21_0 [some (.loc 1), some (.loc (w + 2)), some (.loc 2), some (.int 4), some (.fl ps), x5, x6, x7, x8] st
      = .nx [some (.loc 1), some (.loc (w + 2)), some (.loc 2), some (.int 4), some (.fl ps'), x5, x6', x7, x8'] st' ∧ CS ns R f a b st' ∧ 1 ≤ ps'.length ∧ ps'.length ≤ 4 ∧ (∀ p ∈ ps', WC (3 + 2 * (j + 1)) p) ∧ pzL ps' ≤ 12 + 2 * (j + 1) := by
  by_cases hl : ps.length = 1
  · refine ⟨ps, x6, x8, st, ?_, h, h1, h2, fun p hp => (h3 p hp).mono (by omega), by omega⟩
    have z : ¬ (1 : Int) < (ps.length : Int) := by omega
    simp [b21_0, evSs, evS, ev, evA, evCs, hl]
  · obtain ⟨r, st1, g1, g2, g3, g4⟩ := drawR (k := k) (m := (ps.length : Int) - 1) h (by omega)
    have g2 : CS ns R f a b st1 := g2
    obtain ⟨A, p, q, C, rfl, hA⟩ := split2 g3 (by omega)
    obtain ⟨r2, st2, d1, d2, d3, d4⟩ := drawR (k := k) (m := 2) g2 (by decide)
    have d2 : CS ns R f a b st2 := d2
    have hp := h3 p (by simp)
    have hq := h3 q (by simp)
    rw [pzL_app, pzL_cons, pzL_cons] at h4
    have wd : ∃ w : Str, atI [PV.str "and", .str "or"] r2 = some (.str w) ∧ (w = "and" ∨ w = "or") := pickS d3 (by simpa using d4) (fun x hx => by
      simp only [List.mem_cons, List.not_mem_nil, or_false] at hx
      rcases hx with rfl | rfl <;> exact ⟨_, rfl, by simp⟩)
    obtain ⟨wd, w1, w2⟩ := wd
    obtain ⟨v, v1, v2, v3, v4⟩ := joined_ok (d := 2 + 2 * j) w2 (hp.mono (by omega)) (hq.mono (by omega)) (by omega) (by omega)
    have v1 := fun st => v1 k st
    obtain ⟨r4, st3, f1, f2, f3, f4⟩ := drawR (k := k) (m := 4) d2 (by decide)
    have f2 : CS ns R f a b st3 := f2
    have i1 : atI (A ++ p :: q :: C) r = some p := atI_nn g3 (by rw [show r.toNat = A.length by omega]; simp)
    have i2 : atI (A ++ p :: q :: C) (r + 1) = some q := atI_nn (by omega) (by rw [show (r + 1).toNat = A.length + 1 by omega]; simp)
    have c1 : cutL (A ++ p :: q :: C) none (some r) = A := by rw [← hA]; exact cutL_lo (α := PV) A _
    have c2 : cutL (A ++ p :: q :: C) (some (r + 2)) none = C := by
      have := cutL_hi (α := PV) (A ++ [p, q]) C (r + 2) (by simp; omega)
      simpa using this
    have bl : biV .len [.fl (A ++ p :: q :: C)] st = some (.int (A ++ p :: q :: C).length) := rfl
    have zl : (1 : Int) < ((A ++ p :: q :: C).length : Int) := by omega
    have sl1 := fun st => sl_fl' (A ++ p :: q :: C) none (some r) st
    have sl2 := fun st => sl_fl' (A ++ p :: q :: C) (some (r + 2)) none st
    rw [c1] at sl1
    rw [c2] at sl2
    have ixa := fun st => ix_fl_ (A ++ p :: q :: C) r st
    have ixb := fun st => ix_fl_ (A ++ p :: q :: C) (r + 1) st
    rw [i1] at ixa
    rw [i2] at ixb
    have ep := fun st => esc_p hp.pure st
    have eq' := fun st => esc_p hq.pure st
    have ev' := fun st => esc_p v4 st
    have vv := fun st => varV_p v4 st
    have hlen : A.length + C.length + 2 ≤ 4 := by
      have : (A ++ p :: q :: C).length = A.length + C.length + 2 := by simp; omega
      omega
    have a1 := fun (x : PV) (st : Store) => bin_add_fl (xs := A) (ys := [x]) (st := st) (by simp; omega)
    have a2 := fun (x : PV) (st : Store) => bin_add_fl (xs := A ++ [x]) (ys := C) (st := st) (by simp; omega)
    have hall : ∀ x, WC (3 + 2 * (j + 1)) x → ∀ y ∈ A ++ [x] ++ C, WC (3 + 2 * (j + 1)) y := fun x hx y hy => by
      simp only [List.mem_append, List.mem_cons, List.not_mem_nil, or_false] at hy
      rcases hy with (hy | rfl) | hy
      · exact (h3 y (by simp [hy])).mono (by omega)
      · exact hx
      · exact (h3 y (by simp [hy])).mono (by omega)
    generalize hP : (A ++ p :: q :: C) = P at *
    by_cases hr4 : r4 = 0
    · subst hr4
      have wn : WC (3 + 2 * (j + 1)) (.tup [.str "not", v]) := by
        rw [show 3 + 2 * (j + 1) = (2 + 2 * j + 2) + 1 by omega]
        exact .inr (.inl ⟨v, rfl, v2⟩)
      refine ⟨A ++ [.tup [.str "not", v]] ++ C, some (.tup [.str "not", v]), some (.int r), st3, ?_, f2, by simp; omega, by simp; omega, hall _ wn, by rw [pzL_app, pzL_app, pzL_cons, pzL_nil, pz_node, pzL_cons, pzL_nil]; omega⟩
      simp [b21_0, evSs, evS, ev, evA, evCs, zl, g1, d1, w1, ixa, ixb, ep, eq', v1, ev', vv, f1, ME.absent, bound_non, bound_int, sl1, sl2, a1, a2, sizeLine_eq]
    · refine ⟨A ++ [v] ++ C, some v, some (.int r), st3, ?_, f2, by simp; omega, by simp; omega, hall _ (v2.mono (by omega)), by rw [pzL_app, pzL_app, pzL_cons, pzL_nil]; omega⟩
      simp [b21_0, evSs, evS, ev, evA, evCs, zl, g1, d1, w1, ixa, ixb, ep, eq', v1, ev', vv, f1, hr4, ME.absent, bound_non, bound_int, sl1, sl2, a1, a2, sizeLine_eq]
end K13

set_option maxHeartbeats 4000000
namespace K13
open PySem L2 U
variable {ns : List Int} {R : Store} {st : Store} {xs : List Str} {f w : Nat} {a b : Int}
theorem cond_ok {k : Nat} (W : Wl R xs f w) (hx : NM xs) (hb : 18 ≤ b) (h : CS ns R f a b st) :
    ∃ v st' a' b', evCall TURNS D (k + 12) 21 [.loc 1, .loc (w + 2), .loc 2] st = .ok v st' ∧ WC 9 v ∧ pz v ≤ 18 ∧ CS ns R f a' b' st' := by
  have xe : (xs.map PV.str).isEmpty = false := by
    cases xs with
    | nil => exact absurd rfl hx.1
    | cons x xs => rfl
  have t0 := truth_loc (h.cn W)
  rw [xe] at t0
  have iw := ix_loc (k := 0) (h.cw W)
  have i5 := ix_loc (k := 5) (h.cf W)
  rw [show atI (FR a b) 5 = some (.int b) from rfl] at i5
  have hb2 : ¬ b < 18 := by omega
  obtain ⟨r1, st1, d1, d2, d3, d4⟩ := drawR (k := k + 10) (m := 3) h (by decide)
  have d2 : CS ns R f a b st1 := d2
  have pk : ∃ n : Int, atI [PV.int 1, .int 1, .int 4] r1 = some (.int n) ∧ 1 ≤ n ∧ n ≤ 4 := by
    obtain ⟨y, hy, e3⟩ := pick (xs := [PV.int 1, .int 1, .int 4]) (i := r1) d3 (by simpa using d4)
    simp only [List.mem_cons, List.not_mem_nil, or_false] at hy
    rcases hy with rfl | rfl | rfl <;> exact ⟨_, e3, by decide, by decide⟩
  obtain ⟨n, e6, n1, n4⟩ := pk
  obtain ⟨r2, st2, g1, g2, g3, g4⟩ := drawR (k := k + 10) (m := n) d2 (by omega)
  have g2 : CS ns R f a b st2 := g2
  have hr := rng_ok' (n := 1 + r2) (by omega) (by omega) st2
  obtain ⟨ps, a', x5, x6, x7, st3, l1, l2, l3, l4, l5⟩ := cond_parts (k := k + 9) W hx (n := (1 + r2).toNat) (by omega) (x5 := none) (x6 := none) (x7 := none) (x8 := none) g2
  have hr3 := rng_ok' (n := 3) (by omega) (by omega) st3
  obtain ⟨e, st4, m1, ps', x5', x6', x8', m2, m3, m4, m5, m6, m7⟩ := forLoop_inv (put := MG.put (.nm 5)) (body := evSs (evCall TURNS D (k + 11)) TURNS b21_0) (xs := (List.range (3 : Int).toNat).map fun (k : Nat) => .int k)
    (fun j env s => ∃ (ps : List PV) (x5 x6 x8 : Option PV), env = [some (.loc 1), some (.loc (w + 2)), some (.loc 2), some (.int 4), some (.fl ps), x5, x6, x7, x8] ∧ CS ns R f a' b s ∧ 1 ≤ ps.length ∧ ps.length ≤ 4 ∧ (∀ p ∈ ps, WC (3 + 2 * j) p) ∧ pzL ps ≤ 12 + 2 * j) (fun j x env s hx' ⟨ps, x5, x6, x8, e1, e2, e3, e4, e5, e6⟩ => by
      subst e1
      have hj : j < 3 := by
        have := (List.getElem?_eq_some_iff.mp hx').1
        simpa using this
      obtain ⟨ps', x6', x8', st', q1, q2, q3, q4, q5, q6⟩ := cond_turn (k := k + 10) (j := j) (w := w) (by omega) (x5 := some x) (x6 := x6) (x7 := x7) (x8 := x8) e2 e3 e4 e5 e6
      refine ⟨_, rfl, ?_⟩
      show SR.go (evSs (evCall TURNS D (k + 11)) TURNS b21_0 [some (.loc 1), some (.loc (w + 2)), some (.loc 2), some (.int 4), some (.fl ps), some x, x6, x7, x8] s) _
      rw [q1]
      exact ⟨ps', _, _, _, rfl, q2, q3, q4, q5, q6⟩) 3 0 [some (.loc 1), some (.loc (w + 2)), some (.loc 2), some (.int 4), some (.fl ps), x5, x6, x7, none] st3 (by simp) ⟨ps, x5, x6, none, rfl, l2, by omega, by omega, l4, by omega⟩
  simp only [List.length_map, List.length_range] at m6 m7
  subst m2
  obtain ⟨p, qs, rfl⟩ : ∃ p qs, ps' = p :: qs := by
    cases ps' with
    | nil => simp at m4
    | cons p qs => exact ⟨p, qs, rfl⟩
  have pw : WC 9 p := m6 p List.mem_cons_self
  have pzb : pz p ≤ 18 := by
    rw [pzL_cons] at m7
    have : pz p ≤ 12 + 2 * (3 : Int).toNat := by omega
    exact this
  have pp := parts_ok 9 (k + 1) p st4 pw (by omega)
  rw [show k + 1 + 9 + 1 = k + 11 by omega] at pp
  have iw4 := ix_loc (k := 0) (m3.cw W)
  have i54 := ix_loc (k := 5) (m3.cf W)
  rw [show atI (FR a' b) 5 = some (.int b) from rfl] at i54
  have jf := m3.cf W
  have fin := m3.set a' (b - (pz p : Int))
  have ep := fun st => esc_p pw.pure st
  have e5 : ixN 6 5 = some 5 := rfl
  have lv : ∀ v, leave st.length v (setAt st4 (f + 2) (FR a' (b - (pz p : Int)))) = .ok v (setAt st4 (f + 2) (FR a' (b - (pz p : Int)))) := fun v => leave_same (by rw [fin.len, h.len]; omega)
  refine ⟨p, _, a', b - (pz p : Int), ?_, pw, pzb, fin⟩
  rw [show k + 12 = (k + 11) + 1 from rfl, evCall]
  have hl3 : ((List.range (3 : Int).toNat).map fun (k : Nat) => PV.int k).length = 3 := by simp
  have t3 : (3 : Int).toNat = 3 := rfl
  rw [t3] at m1 hr3
  generalize hP : (pz p : Int) = N at *
  simp [D, d21, evSs, evS, ev, evA, evCs, evSrc, Src.many, ME.held, t0, iw, i5, hb2, d1, e6, g1, hr, l1, hr3, m1, iw4, i54, jf, pp, ep, e5, sizeLine_eq, lv, -List.map_map]
end K13

set_option maxHeartbeats 4000000
namespace K13
open PySem L2 U
variable {ns : List Int} {R C : Store} {st : Store} {xs : List Str} {f w : Nat} {a b : Int}
mutual
theorem low_mono {n m : Nat} (h : n ≤ m) : ∀ v : PV, PV.low n v = true → PV.low m v = true
  | .tup xs, l => lowL_mono h xs l
  | .fl xs, l => lowL_mono h xs l
  | .rol xs, l => lowL_mono h xs l
  | .loc k, l => by
    have l : decide (k < n) = true := l
    show decide (k < m) = true
    rw [decide_eq_true_eq] at l ⊢; omega
  | .non, _ => rfl
  | .bl _, _ => rfl
  | .int _, _ => rfl
  | .str _, _ => rfl
theorem lowL_mono {n m : Nat} (h : n ≤ m) : ∀ v : List PV, PV.lowL n v = true → PV.lowL m v = true
  | [], _ => rfl
  | x :: xs, l => by
    have l : (PV.low n x && PV.lowL n xs) = true := l
    rw [Bool.and_eq_true] at l
    show (PV.low m x && PV.lowL m xs) = true
    rw [low_mono h x l.1, lowL_mono h xs l.2]; rfl
end
def Low (n : Nat) (C : Store) : Prop := ∀ c ∈ C, Cell.low n c = true
theorem Low.mono {n m : Nat} (h : n ≤ m) (l : Low n C) : Low m C := fun c hc => by
  have := l c hc
  cases c with
  | lst xs => exact lowL_mono h xs this
/-- a call's end where the store has grown -/
theorem TR.drop' (h : TR ns R st) {R' C : Store} {st' : Store} (h' : TR ns (R' ++ C) st') (e : R'.length = R.length) (hR : Low (R.length + 2) R') {v : PV} (hv : PV.pure v = true) :
    ∃ st2, U.leave st.length v st' = .ok v st2 ∧ TR ns R' st2 := by
  have l1 := h.len
  have l2 := h'.len
  obtain ⟨p, q, z, h1, h2, h3, rfl⟩ := h'
  unfold U.leave
  split
  · rename_i hl
    have : C = [] := by
      cases C with
      | nil => rfl
      | cons c C => simp at hl; omega
    subst this
    exact ⟨_, rfl, p, q, z, h1, h2, h3, by simp⟩
  · have et : (Cell.lst (ns.map .int) :: Cell.lst (tp 0 p q z) :: (R' ++ C)).take st.length = Cell.lst (ns.map .int) :: Cell.lst (tp 0 p q z) :: R' := by
      rw [l1, ← e]
      simp
    rw [et]
    have c1 : PV.low st.length v = true := PV.pure_low _ _ hv
    have c2 : (Cell.lst (ns.map .int) :: Cell.lst (tp 0 p q z) :: R').all (Cell.low st.length) = true := by
      rw [List.all_cons, List.all_cons, Bool.and_eq_true, Bool.and_eq_true]
      refine ⟨lowL_ints _ _, ?_, ?_⟩
      · show (decide (0 < st.length) && true) = true
        simp; omega
      · rw [List.all_eq_true, l1]
        exact hR
    rw [c1, c2]
    exact ⟨_, rfl, p, q, z, h1, h2, h3, rfl⟩
/-- the names and the room -/
abbrev RS (xs : List Str) (r : Int) (C : Store) : Store := .lst (xs.map .str) :: .lst [.int r] :: C
theorem RS.low {n : Nat} {r : Int} (h : Low n C) : Low n (RS xs r C) := fun c hc => by
  have e : ∀ l : List Str, PV.lowL n (l.map .str) = true := fun l => by
    induction l with
    | nil => rfl
    | cons x l ih => exact ih
  rcases List.mem_cons.mp hc with rfl | hc
  · exact e xs
  · rcases List.mem_cons.mp hc with rfl | hc
    · rfl
    · exact h c hc
variable {r : Int}
theorem TR.room (h : TR ns (RS xs r C) st) : st[3]? = some (.lst [.int r]) := TR.at h 1
theorem TR.names (h : TR ns (RS xs r C) st) : st[2]? = some (.lst (xs.map .str)) := TR.at h 0
theorem TR.setr (h : TR ns (RS xs r C) st) (r' : Int) : TR ns (RS xs r' C) (setAt st 3 [.int r']) := TR.set h 1 [.int r']
/-- what a statement's beginning draws -/
theorem wild_head {k : Nat} (hx : NM xs) (h : TR ns (RS xs r C) st) : ∃ (ch q2 q3 q4 : Int) (st1 st2 st3 st4 : Store) (x : Str) (l : PV),
    evCall TURNS D (k + 1) 5 [.loc 1, .int 16] st = .ok (.int ch) st1 ∧ 0 ≤ ch ∧ ch < 16 ∧
    biV .len [.loc 2] st1 = some (.int xs.length) ∧ evCall TURNS D (k + 1) 5 [.loc 1, .int xs.length] st1 = .ok (.int q2) st2 ∧ ixV (.loc 2) (.int q2) st2 = some (.str x) ∧ B 60 x ∧
    evCall TURNS D (k + 1) 5 [.loc 1, .int 2] st2 = .ok (.int q3) st3 ∧ atI [PV.non, .str x] q3 = some l ∧ LAB l ∧
    evCall TURNS D (k + 1) 5 [.loc 1, .int 2] st3 = .ok (.int q4) st4 ∧ TR ns (RS xs r C) st4 := by
  obtain ⟨ch, st1, a1, a2, a3, a4⟩ := drawR (k := k) (m := 16) h (by decide)
  obtain ⟨q2, st2, x, b1, b2, b3, b4, _⟩ := nameR (k := k) a2 hx
  obtain ⟨q3, st3, c1, c2, c3, c4⟩ := drawR (k := k) (m := 2) b2 (by decide)
  obtain ⟨q4, st4, d1, d2, d3, d4⟩ := drawR (k := k) (m := 2) c2 (by decide)
  have bl := bi_len_loc a2.names
  rw [List.length_map] at bl
  have ix := ix_loc (k := q2) b2.names
  rw [b3] at ix
  obtain ⟨l, hl, e⟩ := pick (xs := [PV.non, .str x]) (i := q3) c3 (by simpa using c4)
  refine ⟨ch, q2, q3, q4, st1, st2, st3, st4, x, l, a1, a3, a4, bl, b1, ix, b4, c1, e, ?_, d1, d2⟩
  simp only [List.mem_cons, List.not_mem_nil, or_false] at hl
  rcases hl with rfl | rfl
  · exact .inl rfl
  · exact .inr ⟨x, rfl, b4⟩
/-- a simple statement is drawn -/
theorem wild_simple {k d : Nat} {dI : Int} (hx : NM xs) (h : TR ns (RS xs r C) st) {ch q2 q3 q4 : Int} {st1 st2 st3 st4 : Store} {x : Str} {l : PV}
    (a1 : evCall TURNS D (k + 1) 5 [.loc 1, .int 16] st = .ok (.int ch) st1) (c0 : 0 ≤ ch) (a2 : biV .len [.loc 2] st1 = some (.int xs.length)) (a3 : evCall TURNS D (k + 1) 5 [.loc 1, .int xs.length] st1 = .ok (.int q2) st2)
    (a4 : ixV (.loc 2) (.int q2) st2 = some (.str x)) (xB : B 60 x) (a5 : evCall TURNS D (k + 1) 5 [.loc 1, .int 2] st2 = .ok (.int q3) st3) (a6 : atI [PV.non, .str x] q3 = some l) (lB : LAB l) (a7 : evCall TURNS D (k + 1) 5 [.loc 1, .int 2] st3 = .ok (.int q4) st4) (h4 : TR ns (RS xs r C) st4)
    (hc : dI = 0 ∨ ch < 6) : ∃ v st', evCall TURNS D (k + 2) 28 [.loc 1, .loc 2, .loc 3, .int dI] st = .ok v st' ∧ WS d v ∧ pz v = 1 ∧ TR ns (RS xs r C) st' := by
  obtain ⟨q5, st5, b1, b2, b3, b4⟩ := drawR (k := k) (m := 100) h4 (by decide)
  obtain ⟨q6, st6, d1, d2, d3, d4⟩ := drawR (k := k) (m := 6) b2 (by decide)
  have nm : ∃ nv, atI [PV.non, .int 0, .int 9, .int 10, .int 99, .int q5] q6 = some nv ∧ NUM nv := by
    obtain ⟨y, hy, e⟩ := pick (xs := [PV.non, .int 0, .int 9, .int 10, .int 99, .int q5]) (i := q6) d3 (by simpa using d4)
    refine ⟨y, e, ?_⟩
    simp only [List.mem_cons, List.not_mem_nil, or_false] at hy
    rcases hy with rfl | rfl | rfl | rfl | rfl | rfl
    · exact .inl rfl
    all_goals exact .inr ⟨_, rfl, by omega, by omega⟩
  obtain ⟨nv, e1, e2⟩ := nm
  have hm0 : 0 ≤ ch % 6 := Int.emod_nonneg _ (by decide)
  have hm1 : ch % 6 < 6 := Int.emod_lt_of_pos _ (by decide)
  have md := fun st => bin_mod_int (i := ch) (j := 6) (st := st) (by decide)
  obtain ⟨v, hv, e3⟩ := pick (xs := [PV.tup [.str "call", .str x], .tup [.str "let", .str x, .bl (decide (q4 = 0))], .tup [.str "set", .str x, .bl (decide (q4 = 0))], .tup [.str "break", l], .tup [.str "continue", l], .tup [.str "return", nv]]) (i := ch % 6) hm0 (by simpa using hm1)
  have pl := fun st => esc_p lB.pure st
  have vl := fun st => varV_p lB.pure st
  have pn := fun st => esc_p e2.pure st
  have vn := fun st => varV_p e2.pure st
  have ad := fun st => bin_add_fl (xs := [PV.tup [.str "call", .str x], .tup [.str "let", .str x, .bl (decide (q4 = 0))], .tup [.str "set", .str x, .bl (decide (q4 = 0))], .tup [.str "break", l], .tup [.str "continue", l]]) (ys := [.tup [.str "return", nv]]) (st := st) (by simp)
  have wv : WS 0 v ∧ pz v = 1 := by
    simp only [List.mem_cons, List.not_mem_nil, or_false] at hv
    rcases hv with rfl | rfl | rfl | rfl | rfl | rfl
    · exact ⟨.call xB, by simp⟩
    · exact ⟨.decl (.inl rfl) xB, by simp⟩
    · exact ⟨.decl (.inr rfl) xB, by simp⟩
    · exact ⟨.jump (.inl rfl) lB, by simp [lB.pz]⟩
    · exact ⟨.jump (.inr rfl) lB, by simp [lB.pz]⟩
    · exact ⟨.ret e2, by simp [e2.pz]⟩
  refine ⟨v, st6, ?_, wv.1.mono (Nat.zero_le _), wv.2, d2⟩
  have lv := fun v => TR.leave h d2 rfl v
  rw [show k + 2 = (k + 1) + 1 from rfl, evCall]
  simp at ad
  rcases hc with rfl | hc
  · simp [D, d28, evSs, evS, ev, evA, evCs, ME.held, a1, a2, a3, a4, a5, a6, a7, b1, d1, e1, e3, md, pl, vl, pn, vn, ad, sizeLine_eq, lv]
  · by_cases hd : dI = 0 <;> simp [D, d28, evSs, evS, ev, evA, evCs, ME.held, a1, a2, a3, a4, a5, a6, a7, b1, d1, e1, e3, md, pl, vl, pn, vn, ad, sizeLine_eq, lv, hc, hd]
end K13

set_option maxHeartbeats 4000000
namespace K13
open PySem L2 U
variable {ns : List Int} {R C : Store} {st : Store} {xs : List Str} {f w : Nat} {a b r : Int}
def TreeOk (ns : List Int) (xs : List Str) (d : Nat) : Prop := ∀ (k : Nat) (r dI : Int) (C st : Store), dI = d → TR ns (RS xs r C) st → r ≤ 1000 → Low (C.length + 4) C →
  ∃ body r' st', evCall TURNS D (k + 2 * d + 17) 29 [.loc 1, .loc 2, .loc 3, .int dI] st = .ok (.tup body) st' ∧ TR ns (RS xs r' C) st' ∧ (∀ s ∈ body, WS d s) ∧ (pzL body : Int) ≤ r - r' ∧ (pzL body : Int) ≤ 2 * max r 0
def WildOk (ns : List Int) (xs : List Str) (d : Nat) : Prop := ∀ (k : Nat) (r dI : Int) (C st : Store), dI = d → TR ns (RS xs r C) st → 0 ≤ r → r ≤ 1000 → Low (C.length + 4) C →
  ∃ v r' st', evCall TURNS D (k + 2 * d + 16) 28 [.loc 1, .loc 2, .loc 3, .int dI] st = .ok v st' ∧ TR ns (RS xs r' C) st' ∧ WS d v ∧ (pz v : Int) - 1 ≤ r - r' ∧ (pz v : Int) - 1 ≤ 2 * r + 1
theorem cell2_set {x y z : Cell} : (RS xs r (C ++ [y, z])).set (C.length + 2) x = RS xs r (C ++ [x, z]) := by
  show _ :: _ :: (C ++ [y, z]).set C.length x = _
  rw [List.set_append_right _ _ (Nat.le_refl _), Nat.sub_self]
  rfl
/-- the condition of a statement is drawn -/
theorem wild_cond {k : Nat} (hx : NM xs) (h : TR ns (RS xs r C) st) : ∃ c a' b' st5, evCall TURNS D (k + 12) 21 [.loc 1, .loc (C.length + 5), .loc 2] (st ++ [.lst (FR 99 99), .lst [.loc (C.length + 4), .loc 2, .loc 2, .loc 2]]) = .ok c st5 ∧
    WC 9 c ∧ pz c ≤ 18 ∧ TR ns (RS xs r (C ++ [.lst (FR a' b'), .lst [.loc (C.length + 4), .loc 2, .loc 2, .loc 2]])) st5 := by
  have W : Wl (RS xs r (C ++ [.lst (FR 99 99), .lst [.loc (C.length + 4), .loc 2, .loc 2, .loc 2]])) xs (C.length + 2) (C.length + 3) :=
    ⟨rfl, by
      show (C ++ [Cell.lst (FR 99 99), .lst [.loc (C.length + 4), .loc 2, .loc 2, .loc 2]])[C.length + 1]? = _
      rw [List.getElem?_append_right (by omega), show C.length + 1 - C.length = 1 by omega]
      rfl, by omega, by omega, by simp⟩
  have h0 : CS ns (RS xs r (C ++ [.lst (FR 99 99), .lst [.loc (C.length + 4), .loc 2, .loc 2, .loc 2]])) (C.length + 2) 99 99 (st ++ [.lst (FR 99 99), .lst [.loc (C.length + 4), .loc 2, .loc 2, .loc 2]]) := by
    unfold CS
    rw [cell2_set]
    exact TR.push h _
  obtain ⟨c, st5, a', b', q1, q2, q3, q4⟩ := cond_ok (k := k) W hx (by decide) h0
  unfold CS at q4
  rw [cell2_set] at q4
  exact ⟨c, a', b', st5, q1, q2, q3, q4⟩
theorem low2 (h : Low (C.length + 4) C) (a b : Int) : Low (C.length + 6) (C ++ [.lst (FR a b), .lst [.loc (C.length + 4), .loc 2, .loc 2, .loc 2]]) := fun c hc => by
  rcases List.mem_append.mp hc with hc | hc
  · exact h.mono (by omega) c hc
  · simp only [List.mem_cons, List.not_mem_nil, or_false] at hc
    rcases hc with rfl | rfl
    · rfl
    · show (decide (C.length + 4 < C.length + 6) && (decide (2 < C.length + 6) && (decide (2 < C.length + 6) && (decide (2 < C.length + 6) && true)))) = true
      simp
theorem wild_ok {d : Nat} (hx : NM xs) (ih : ∀ e, d = e + 1 → TreeOk ns xs e) : WildOk ns xs d := by
  intro k r dI C st hd h r0 r1 lo
  obtain ⟨ch, q2, q3, q4, st1, st2, st3, st4, x, l, a1, c0, c1, a2, a3, a4, xB, a5, a6, lB, a7, h4⟩ := wild_head (k := k + 2 * d + 14) hx h
  by_cases hs : dI = 0 ∨ ch < 6
  · obtain ⟨v, st', g1, g2, g3, g4⟩ := wild_simple (d := d) hx h a1 c0 a2 a3 a4 xB a5 a6 lB a7 h4 hs
    exact ⟨v, r, st', g1, g4, g2, by omega, by omega⟩
  have hs1 : ¬ dI = 0 := fun z => hs (.inl z)
  have hs2 : ¬ ch < 6 := fun z => hs (.inr z)
  obtain ⟨e, rfl⟩ : ∃ e, d = e + 1 := ⟨d - 1, by omega⟩
  have tree := ih e rfl
  have hd1 : dI - 1 = (e : Int) := by omega
  have pl := fun st => esc_p lB.pure st
  have vl := fun st => varV_p lB.pure st
  rw [show k + 2 * (e + 1) + 14 + 1 = k + 2 * e + 17 by omega] at a1 a3 a5 a7
  have e0 : ixN 1 0 = some 0 := rfl
  have a0 : ∀ x : PV, atI [x] 0 = some x := fun x => atI_0 x []
  -- one body
  obtain ⟨b1, r1', st5, t1, t2, t3, t4, t5⟩ := tree k r (dI - 1) C st4 hd1 h4 r1 lo
  have p1 : PV.pureL b1 = true := pureL_of fun s hs => (t3 s hs).pure
  by_cases k8 : ch < 8
  · have hw : WS (e + 1) (.tup [.str "block", .tup b1]) := .block t3
    refine ⟨_, r1', st5, ?_, t2, hw, by rw [pz_node, pzL_cons, pzL_nil, pz_b t3]; omega, by rw [pz_node, pzL_cons, pzL_nil, pz_b t3]; omega⟩
    have lv := fun v => TR.leave h t2 rfl v
    rw [show k + 2 * (e + 1) + 16 = (k + 2 * e + 17) + 1 by omega, evCall]
    simp [D, d28, evSs, evS, ev, evA, evCs, ME.held, a1, a2, a3, a4, a5, a6, a7, hs1, hs2, k8, t1, sizeLine_eq, lv, pl]
  by_cases k9 : ch = 8
  · subst k9
    have hw : WS (e + 1) (.tup [.str "for", l, .tup b1]) := .for_ lB t3
    refine ⟨_, r1', st5, ?_, t2, hw, by rw [pz_node, pzL_cons, pzL_cons, pzL_nil, pz_b t3, lB.pz]; omega, by rw [pz_node, pzL_cons, pzL_cons, pzL_nil, pz_b t3, lB.pz]; omega⟩
    have lv := fun v => TR.leave h t2 rfl v
    rw [show k + 2 * (e + 1) + 16 = (k + 2 * e + 17) + 1 by omega, evCall]
    simp [D, d28, evSs, evS, ev, evA, evCs, ME.held, a1, a2, a3, a4, a5, a6, a7, hs1, t1, sizeLine_eq, lv, pl, vl]
  by_cases k10 : ch = 9
  · subst k10
    obtain ⟨b2, r2', st6, u1, u2, u3, u4, u5⟩ := tree k r1' (dI - 1) C st5 hd1 t2 (by omega) lo
    have hw : WS (e + 1) (.tup [.str "try", .tup b1, .tup b2]) := .try_ t3 u3
    refine ⟨_, r2', st6, ?_, u2, hw, by rw [pz_node, pzL_cons, pzL_cons, pzL_nil, pz_b t3, pz_b u3]; omega, by rw [pz_node, pzL_cons, pzL_cons, pzL_nil, pz_b t3, pz_b u3]; omega⟩
    have lv := fun v => TR.leave h u2 rfl v
    rw [show k + 2 * (e + 1) + 16 = (k + 2 * e + 17) + 1 by omega, evCall]
    simp [D, d28, evSs, evS, ev, evA, evCs, ME.held, a1, a2, a3, a4, a5, a6, a7, hs1, t1, u1, sizeLine_eq, lv, pl, vl]
  have hlen : st4.length = C.length + 4 := h4.len
  have rm4 := ix_loc (k := 0) h4.room
  rw [a0] at rm4
  by_cases hr : 20 < r
  · obtain ⟨c, a', b', st5, g1, g2, g3, g4⟩ := wild_cond (k := k + 2 * e + 5) hx h4
    rw [show k + 2 * e + 5 + 12 = k + 2 * e + 17 by omega] at g1
    have pp := parts_ok 9 (k + 2 * e + 7) c st5 g2 (by omega)
    rw [show k + 2 * e + 7 + 9 + 1 = k + 2 * e + 17 by omega] at pp
    have n1 := g2.pos
    have g2' : WC 25 c := g2.mono (by omega)
    have pc := fun st => esc_p g2.pure st
    have vc := fun st => varV_p g2.pure st
    have rm5 := ix_loc (k := 0) g4.room
    rw [a0] at rm5
    have r5 := g4.room
    generalize hN : (pz c : Int) = N at *
    have h6 := g4.setr (r - N)
    have lo2 : Low ((C ++ [Cell.lst (FR a' b'), Cell.lst [.loc (C.length + 4), .loc 2, .loc 2, .loc 2]]).length + 4) (C ++ [.lst (FR a' b'), .lst [.loc (C.length + 4), .loc 2, .loc 2, .loc 2]]) := by
      rw [show (C ++ [Cell.lst (FR a' b'), .lst [.loc (C.length + 4), .loc 2, .loc 2, .loc 2]]).length + 4 = C.length + 6 by simp]
      exact low2 lo a' b'
    obtain ⟨b1, r1', st7, t1, t2, t3, t4, t5⟩ := tree k (r - N) (dI - 1) _ _ hd1 h6 (by omega) lo2
    have p1 : PV.pureL b1 = true := pureL_of fun s hs => (t3 s hs).pure
    by_cases k12 : ch < 12
    · have hw : WS (e + 1) (.tup [.str "while", l, c, .tup b1]) := .while_ lB g2' t3
      obtain ⟨st8, lv, h8⟩ := TR.drop' (R' := RS xs r1' C) h t2 rfl (RS.low lo) hw.pure
      have ez : (pz (.tup [.str "while", l, c, .tup b1]) : Int) = 1 + N + pzL b1 := by rw [pz_node, pzL_cons, pzL_cons, pzL_cons, pzL_nil, pz_b t3, lB.pz]; omega
      refine ⟨_, r1', st8, ?_, h8, hw, by omega, by omega⟩
      rw [show k + 2 * (e + 1) + 16 = (k + 2 * e + 17) + 1 by omega, evCall]
      simp [D, d28, evSs, evS, ev, evA, evCs, ME.held, a1, a2, a3, a4, a5, a6, a7, hs1, hs2, k8, k9, k10, hr, rm4, hlen, g1, pp, rm5, r5, e0, t1, k12, sizeLine_eq, lv, pl, vl, pc, vc]
    by_cases k15 : ch < 15
    · obtain ⟨b2, r2', st8, u1, u2, u3, u4, u5⟩ := tree k r1' (dI - 1) _ _ hd1 t2 (by omega) lo2
      have hw : WS (e + 1) (.tup [.str "if", c, .tup b1, .tup b2]) := .if_ g2' t3 u3
      obtain ⟨st9, lv, h9⟩ := TR.drop' (R' := RS xs r2' C) h u2 rfl (RS.low lo) hw.pure
      have ez : (pz (.tup [.str "if", c, .tup b1, .tup b2]) : Int) = 1 + N + pzL b1 + pzL b2 := by rw [pz_node, pzL_cons, pzL_cons, pzL_cons, pzL_nil, pz_b t3, pz_b u3]; omega
      refine ⟨_, r2', st9, ?_, h9, hw, by omega, by omega⟩
      rw [show k + 2 * (e + 1) + 16 = (k + 2 * e + 17) + 1 by omega, evCall]
      simp [D, d28, evSs, evS, ev, evA, evCs, ME.held, a1, a2, a3, a4, a5, a6, a7, hs1, hs2, k8, k9, k10, hr, rm4, hlen, g1, pp, rm5, r5, e0, t1, u1, k12, k15, sizeLine_eq, lv, pl, vl, pc, vc]
    · have hw : WS (e + 1) (.tup [.str "if", c, .tup b1, .tup []]) := .if_ g2' t3 (fun s hs => nomatch hs)
      obtain ⟨st9, lv, h9⟩ := TR.drop' (R' := RS xs r1' C) h t2 rfl (RS.low lo) hw.pure
      have ez : (pz (.tup [.str "if", c, .tup b1, .tup []]) : Int) = 1 + N + pzL b1 := by rw [pz_node, pzL_cons, pzL_cons, pzL_cons, pzL_nil, pz_b t3, show pz (.tup []) = 0 by simp [pz, pzT]]; omega
      refine ⟨_, r1', st9, ?_, h9, hw, by omega, by omega⟩
      rw [show k + 2 * (e + 1) + 16 = (k + 2 * e + 17) + 1 by omega, evCall]
      simp [D, d28, evSs, evS, ev, evA, evCs, ME.held, a1, a2, a3, a4, a5, a6, a7, hs1, hs2, k8, k9, k10, hr, rm4, hlen, g1, pp, rm5, r5, e0, t1, k12, k15, sizeLine_eq, lv, pl, vl, pc, vc]
  · have fl : WF (.tup [.str "flag", .str x]) := ⟨_, _, .inr rfl, xB, rfl⟩
    have fc : WC 25 (.tup [.str "flag", .str x]) := WC.leaf 25 fl
    have pp := parts_ok 0 (k + 2 * e + 16) (.tup [.str "flag", .str x]) st4 fl (by simp)
    rw [show k + 2 * e + 16 + 0 + 1 = k + 2 * e + 17 by omega, show (pz (.tup [.str "flag", .str x]) : Int) = 1 by simp] at pp
    have r4 := h4.room
    have h6 := h4.setr (r - 1)
    obtain ⟨b1, r1', st7, t1, t2, t3, t4, t5⟩ := tree k (r - 1) (dI - 1) _ _ hd1 h6 (by omega) lo
    by_cases k12 : ch < 12
    · have hw : WS (e + 1) (.tup [.str "while", l, .tup [.str "flag", .str x], .tup b1]) := .while_ lB fc t3
      have lv := fun v => TR.leave h t2 rfl v
      have ez : (pz (.tup [.str "while", l, .tup [.str "flag", .str x], .tup b1]) : Int) = 1 + 1 + pzL b1 := by rw [pz_node, pzL_cons, pzL_cons, pzL_cons, pzL_nil, pz_b t3, lB.pz]; simp; omega
      refine ⟨_, r1', st7, ?_, t2, hw, by omega, by omega⟩
      rw [show k + 2 * (e + 1) + 16 = (k + 2 * e + 17) + 1 by omega, evCall]
      simp [D, d28, evSs, evS, ev, evA, evCs, ME.held, a1, a2, a3, a4, a5, a6, a7, hs1, hs2, k8, k9, k10, hr, rm4, pp, r4, e0, t1, k12, sizeLine_eq, lv, pl, vl]
    by_cases k15 : ch < 15
    · obtain ⟨b2, r2', st8, u1, u2, u3, u4, u5⟩ := tree k r1' (dI - 1) _ _ hd1 t2 (by omega) lo
      have hw : WS (e + 1) (.tup [.str "if", .tup [.str "flag", .str x], .tup b1, .tup b2]) := .if_ fc t3 u3
      have lv := fun v => TR.leave h u2 rfl v
      have ez : (pz (.tup [.str "if", .tup [.str "flag", .str x], .tup b1, .tup b2]) : Int) = 1 + 1 + pzL b1 + pzL b2 := by rw [pz_node, pzL_cons, pzL_cons, pzL_cons, pzL_nil, pz_b t3, pz_b u3]; simp; omega
      refine ⟨_, r2', st8, ?_, u2, hw, by omega, by omega⟩
      rw [show k + 2 * (e + 1) + 16 = (k + 2 * e + 17) + 1 by omega, evCall]
      simp [D, d28, evSs, evS, ev, evA, evCs, ME.held, a1, a2, a3, a4, a5, a6, a7, hs1, hs2, k8, k9, k10, hr, rm4, pp, r4, e0, t1, u1, k12, k15, sizeLine_eq, lv, pl, vl]
    · have hw : WS (e + 1) (.tup [.str "if", .tup [.str "flag", .str x], .tup b1, .tup []]) := .if_ fc t3 (fun s hs => nomatch hs)
      have lv := fun v => TR.leave h t2 rfl v
      have ez : (pz (.tup [.str "if", .tup [.str "flag", .str x], .tup b1, .tup []]) : Int) = 1 + 1 + pzL b1 := by rw [pz_node, pzL_cons, pzL_cons, pzL_cons, pzL_nil, pz_b t3, show pz (.tup []) = 0 by simp [pz, pzT]]; simp; omega
      refine ⟨_, r1', st7, ?_, t2, hw, by omega, by omega⟩
      rw [show k + 2 * (e + 1) + 16 = (k + 2 * e + 17) + 1 by omega, evCall]
      simp [D, d28, evSs, evS, ev, evA, evCs, ME.held, a1, a2, a3, a4, a5, a6, a7, hs1, hs2, k8, k9, k10, hr, rm4, pp, r4, e0, t1, k12, k15, sizeLine_eq, lv, pl, vl]
end K13

set_option maxHeartbeats 4000000
namespace K13
open PySem L2 U
variable {ns : List Int} {R C : Store} {st : Store} {xs : List Str} {f w : Nat} {a b r : Int}
theorem tree_ok {d : Nat} (hx : NM xs) (wd : WildOk ns xs d) : TreeOk ns xs d := by
  intro k r dI C st hd h r1 lo
  obtain ⟨q, st1, d1, d2, d3, d4⟩ := drawR (k := k + 2 * d + 15) (m := 6) h (by decide)
  have pk : ∃ n : Int, atI [PV.int 0, .int 1, .int 1, .int 2, .int 2, .int 3] q = some (.int n) ∧ 0 ≤ n ∧ n ≤ 3 := by
    obtain ⟨y, hy, e3⟩ := pick (xs := [PV.int 0, .int 1, .int 1, .int 2, .int 2, .int 3]) (i := q) d3 (by simpa using d4)
    simp only [List.mem_cons, List.not_mem_nil, or_false] at hy
    rcases hy with rfl | rfl | rfl | rfl | rfl | rfl <;> exact ⟨_, e3, by decide, by decide⟩
  obtain ⟨n, e6, n0, n3⟩ := pk
  have hr := rng_ok' (n := n) n0 (by omega) st1
  obtain ⟨e, s, m1, ps, r', x5, m2, m3, m4, m5, m6, m7⟩ := forLoop_inv (put := MG.put (.nm 5)) (body := evSs (evCall TURNS D (k + 2 * d + 16)) TURNS b29_0) (xs := (List.range n.toNat).map fun (k : Nat) => .int k)
    (fun j env s => ∃ (ps : List PV) (r' : Int) (x5 : Option PV), env = [some (.loc 1), some (.loc 2), some (.loc 3), some (.int dI), some (.fl ps), x5] ∧ TR ns (RS xs r' C) s ∧ ps.length ≤ j ∧ (∀ p ∈ ps, WS d p) ∧ (pzL ps : Int) ≤ r - r' ∧ (pzL ps : Int) ≤ 2 * max r 0) (fun j x env s hx' ⟨ps, r', x5, e1, e2, e3, e4, e5, e6⟩ => by
      subst e1
      have hj : j < n.toNat := by
        have := (List.getElem?_eq_some_iff.mp hx').1
        simpa using this
      have rm := ix_loc (k := 0) e2.room
      rw [atI_0] at rm
      refine ⟨[some (.loc 1), some (.loc 2), some (.loc 3), some (.int dI), some (.fl ps), some x], rfl, ?_⟩
      by_cases hr : 0 < r'
      · have h6 := e2.setr (r' - 1)
        obtain ⟨v, r2, st2, g1, g2, g3, g4, g5⟩ := wd k (r' - 1) dI C _ hd h6 (by omega) (by omega) lo
        have ec := fun st => esc_p g3.pure st
        have e0 : ixN 1 0 = some 0 := rfl
        have r3 := e2.room
        have hl : ps.length < 16777216 := by omega
        have lv := g3.pos
        simp [b29_0, evSs, evS, ev, evA, evCs, rm, hr, r3, e0, g1, ec, hl, sizeLine_eq]
        refine ⟨r2, g2, by omega, fun p hp => ?_, by omega, by omega⟩
        rcases hp with hp | rfl
        · exact e4 p hp
        · exact g3
      · simp [b29_0, evSs, evS, ev, evA, evCs, rm, hr]
        exact ⟨r', e2, by omega, e4, e5, e6⟩) n.toNat 0 [some (.loc 1), some (.loc 2), some (.loc 3), some (.int dI), some (.fl []), none] st1 (by simp) ⟨[], r, none, rfl, d2, by simp, (fun p hp => nomatch hp), by simp, by simp; omega⟩
  subst m2
  have lv := fun v => TR.leave h m3 rfl v
  have bt := bi_tuple_fl ps
  refine ⟨ps, r', s, ?_, m3, m5, m6, m7⟩
  rw [show k + 2 * d + 17 = (k + 2 * d + 16) + 1 by omega, evCall]
  rw [show k + 2 * d + 15 + 1 = k + 2 * d + 16 by omega] at d1
  simp [D, d29, evSs, evS, ev, evA, evCs, evSrc, Src.many, ME.held, d1, e6, hr, m1, bt, sizeLine_eq, lv, -List.map_map]
theorem tw_ok (hx : NM xs) : ∀ d, TreeOk ns xs d ∧ WildOk ns xs d
  | 0 => by
    have w := wild_ok (ns := ns) (d := 0) hx fun e h => absurd h (by omega)
    exact ⟨tree_ok hx w, w⟩
  | d + 1 => by
    have w := wild_ok (ns := ns) (d := d + 1) hx fun e h => by
      have : e = d := by omega
      subst this
      exact (tw_ok hx e).1
    exact ⟨tree_ok hx w, w⟩
end K13

set_option maxHeartbeats 4000000
namespace K13
open PySem L2 U
variable {ns : List Int} {R C : Store} {st : Store} {xs : List Str} {f w : Nat} {a b r : Int}
/-- a statement around a body -/
theorem shell_ok {d : Nat} {b : List PV} {x : Str} {lf : PV} (hb : ∀ s ∈ b, WS d s) (xB : B 60 x) (hl : WF lf) {q : Int} (q0 : 0 ≤ q) (q8 : q < 8) :
    ∃ v, atI [.tup [.str "block", .tup b], .tup [.str "for", .non, .tup b], .tup [.str "for", .str x, .tup b], .tup [.str "while", .str x, lf, .tup b],
      .tup [.str "if", lf, .tup b, .tup []], .tup [.str "if", lf, .tup [], .tup b], .tup [.str "try", .tup b, .tup []], .tup [.str "try", .tup [], .tup b]] q = some v ∧ WS (d + 1) v ∧ pz v ≤ pzL b + 2 := by
  obtain ⟨y, hy, e⟩ := pick (xs := [PV.tup [.str "block", .tup b], .tup [.str "for", .non, .tup b], .tup [.str "for", .str x, .tup b], .tup [.str "while", .str x, lf, .tup b],
      .tup [.str "if", lf, .tup b, .tup []], .tup [.str "if", lf, .tup [], .tup b], .tup [.str "try", .tup b, .tup []], .tup [.str "try", .tup [], .tup b]]) (i := q) q0 (by simpa using q8)
  have n0 : ∀ s ∈ ([] : List PV), WS d s := fun s hs => nomatch hs
  have z0 : pz (.tup []) = 0 := by simp [pz, pzT]
  have z1 : pz lf = 1 := by obtain ⟨_, _, _, _, rfl⟩ := hl; simp
  have zb := pz_b hb
  have c30 : WC 25 lf := WC.leaf 25 hl
  have lx : LAB (.str x) := .inr ⟨x, rfl, xB⟩
  have ln : LAB .non := .inl rfl
  simp only [List.mem_cons, List.not_mem_nil, or_false] at hy
  rcases hy with rfl | rfl | rfl | rfl | rfl | rfl | rfl | rfl
  · exact ⟨_, e, .block hb, by simp [zb, z0, z1]; omega⟩
  · exact ⟨_, e, .for_ ln hb, by simp [zb, z0, z1]; omega⟩
  · exact ⟨_, e, .for_ lx hb, by simp [zb, z0, z1]; omega⟩
  · exact ⟨_, e, .while_ lx c30 hb, by simp [zb, z0, z1]; omega⟩
  · exact ⟨_, e, .if_ c30 hb n0, by simp [zb, z0, z1]; omega⟩
  · exact ⟨_, e, .if_ c30 n0 hb, by simp [zb, z0, z1]; omega⟩
  · exact ⟨_, e, .try_ hb n0, by simp [zb, z0, z1]; omega⟩
  · exact ⟨_, e, .try_ n0 hb, by simp [zb, z0, z1]; omega⟩
theorem wrapped_ok {d k : Nat} {body : List PV} {n : Int} (hx : NM xs) (h : TR ns (RS xs r C) st) (hb : ∀ s ∈ body, WS d s) (n0 : 0 ≤ n) (n1 : n ≤ 35) :
    ∃ body' st', evCall TURNS D (k + 2) 30 [.loc 1, .loc 2, .tup body, .int n] st = .ok (.tup body') st' ∧ TR ns (RS xs r C) st' ∧ (∀ s ∈ body', WS (d + n.toNat) s) ∧ pzL body' ≤ pzL body + 2 * n.toNat := by
  have hr := rng_ok' (n := n) n0 (by omega) st
  obtain ⟨e, s, m1, ps, x4, x5, x6, x7, m2, m3, m4, m5⟩ := forLoop_inv (put := MG.put (.nm 4)) (body := evSs (evCall TURNS D (k + 1)) TURNS b30_0) (xs := (List.range n.toNat).map fun (k : Nat) => .int k)
    (fun j env s => ∃ (ps : List PV) (x4 x5 x6 x7 : Option PV), env = [some (.loc 1), some (.loc 2), some (.tup ps), some (.int n), x4, x5, x6, x7] ∧ TR ns (RS xs r C) s ∧ (∀ p ∈ ps, WS (d + j) p) ∧ pzL ps ≤ pzL body + 2 * j) (fun j x env s hx' ⟨ps, x4, x5, x6, x7, e1, e2, e3, e4⟩ => by
      subst e1
      have ln : biV .len [.loc 2] s = some (.int xs.length) := by rw [bi_len_loc e2.names]; simp
      obtain ⟨q1, st1, x', a1, a2, a3, a4⟩ := nameR (k := k) e2 hx
      obtain ⟨a4, _⟩ := a4
      have i1 := ix_loc (k := q1) a2.names
      rw [a3] at i1
      obtain ⟨q2, st2, b1, b2, b3, b4⟩ := drawR (k := k) (m := 2) a2 (by decide)
      have lf : ∃ lf, atI [PV.tup [.str "call", .str x'], .tup [.str "flag", .str x']] q2 = some lf ∧ WF lf := by
        obtain ⟨y, hy, e⟩ := pick (xs := [PV.tup [.str "call", .str x'], .tup [.str "flag", .str x']]) (i := q2) b3 (by simpa using b4)
        simp only [List.mem_cons, List.not_mem_nil, or_false] at hy
        rcases hy with rfl | rfl
        · exact ⟨_, e, _, _, .inl rfl, a4, rfl⟩
        · exact ⟨_, e, _, _, .inr rfl, a4, rfl⟩
      obtain ⟨lf, l1, l2⟩ := lf
      obtain ⟨q3, st3, c1, c2, c3, c4⟩ := drawR (k := k) (m := 8) b2 (by decide)
      obtain ⟨v, v1, v2, v3⟩ := shell_ok e3 a4 l2 c3 c4
      have pp : PV.pureL ps = true := pureL_of fun s hs => (e3 s hs).pure
      have el := fun st => esc_p (WC.leaf 0 l2).pure st
      have vl := fun st => varV_p (WC.leaf 0 l2).pure st
      have ev' := fun st => esc_p v2.pure st
      have ad : ∀ (a1 a2 a3 a4 b1 b2 b3 b4 : PV) (st : Store), binV .add (.fl [a1, a2, a3, a4]) (.fl [b1, b2, b3, b4]) st = some (.fl [a1, a2, a3, a4, b1, b2, b3, b4]) := fun a1 a2 a3 a4 b1 b2 b3 b4 st => bin_add_fl (xs := [a1, a2, a3, a4]) (ys := [b1, b2, b3, b4]) (by simp)
      refine ⟨[some (.loc 1), some (.loc 2), some (.tup ps), some (.int n), some x, x5, x6, x7], rfl, ?_⟩
      simp [b30_0, evSs, evS, ev, evA, evCs, ln, a1, i1, b1, l1, c1, v1, el, vl, ev', ad, sizeLine_eq]
      refine ⟨c2, ?_, ?_⟩
      · rw [show d + (j + 1) = d + j + 1 by omega]; exact v2
      · omega) n.toNat 0 [some (.loc 1), some (.loc 2), some (.tup body), some (.int n), none, none, none, none] st (by simp) ⟨body, none, none, none, none, rfl, h, fun p hp => hb p hp, by omega⟩
  subst m2
  simp only [List.length_map, List.length_range] at m4 m5
  have lv := fun v => TR.leave h m3 rfl v
  refine ⟨ps, s, ?_, m3, m4, by omega⟩
  rw [show k + 2 = (k + 1) + 1 by omega, evCall]
  simp [D, d30, evSs, evS, ev, evA, evCs, evSrc, Src.many, ME.held, hr, m1, sizeLine_eq, lv, -List.map_map]
end K13

set_option maxHeartbeats 4000000
namespace K13
open PySem L2 U
variable {ns : List Int} {R C : Store} {st : Store} {xs : List Str} {f w : Nat} {a b r : Int}
abbrev R1 (xs : List Str) : Store := [.lst (xs.map .str)]
theorem any_turn {k : Nat} (hx : NM xs) {n : Int} (n0 : 0 ≤ n) (n3 : n ≤ 3) {r0 r : Int} {ps : List PV} {s0 : Store} {sh : Int} {x5 : Option PV} (r00 : 0 ≤ r0) (r01 : r0 ≤ 150) (h : TR ns (RS xs r []) s0) (hp : ∀ p ∈ ps, WS 40 p)
    (hz : (pzL ps : Int) ≤ 70 + r0 - r) (hz2 : (pzL ps : Int) ≤ 70 + 2 * r0) :
    ∃ (ps' : List PV) (r' : Int) (x5' : Option PV) (s' : Store), forLoop (MG.put (.nm 5)) (evSs (evCall TURNS D (k + 24)) TURNS b31_0) (.items ((List.range n.toNat).map fun (k : Nat) => .int k)) 0 n.toNat [some (.loc 1), some (.loc 2), some (.int sh), some (.loc 3), some (.tup ps), x5] s0
      = .nx [some (.loc 1), some (.loc 2), some (.int sh), some (.loc 3), some (.tup ps'), x5'] s' ∧ TR ns (RS xs r' []) s' ∧ (∀ p ∈ ps', WS 40 p) ∧ pzL ps' ≤ 450 := by
  obtain ⟨e, s, m1, ps', r', x5', m2, m3, m5, m6, m7⟩ := forLoop_inv (put := MG.put (.nm 5)) (body := evSs (evCall TURNS D (k + 24)) TURNS b31_0) (xs := (List.range n.toNat).map fun (k : Nat) => .int k)
    (fun j env s => ∃ (ps : List PV) (r' : Int) (x5 : Option PV), env = [some (.loc 1), some (.loc 2), some (.int sh), some (.loc 3), some (.tup ps), x5] ∧ TR ns (RS xs r' []) s ∧ (∀ p ∈ ps, WS 40 p) ∧ (pzL ps : Int) ≤ 70 + r0 - r' ∧ (pzL ps : Int) ≤ 140 + 2 * r0) (fun j x env s hx' ⟨ps, r', x5, e1, e2, e4, e5, e6⟩ => by
      subst e1
      have rm := ix_loc (k := 0) e2.room
      rw [atI_0] at rm
      refine ⟨[some (.loc 1), some (.loc 2), some (.int sh), some (.loc 3), some (.tup ps), some x], rfl, ?_⟩
      by_cases hr : 0 < r'
      · have h6 := e2.setr (r' - 1)
        by_cases hr2 : r' ≤ 1000
        · obtain ⟨v, r2, st2, g1, g2, g3, g4, g5⟩ := (tw_ok (ns := ns) hx 4).2 k (r' - 1) 4 [] _ rfl h6 (by omega) (by omega) (fun c hc => nomatch hc)
          rw [show k + 2 * 4 + 16 = k + 24 by omega] at g1
          have ec := fun st => esc_p g3.pure st
          have e0 : ixN 1 0 = some 0 := rfl
          have r3 := e2.room
          have lv := g3.pos
          have hl := pz_many fun c hc => (e4 c hc).pos
          have ad : ∀ st, binV .add (.tup ps) (.tup [v]) st = some (.tup (ps ++ [v])) := fun st => bin_add_tup (by rw [sizeLine_eq]; simp; omega)
          simp [b31_0, evSs, evS, ev, evA, evCs, rm, hr, r3, e0, g1, ec, ad, sizeLine_eq]
          refine ⟨r2, g2, fun p hp => ?_, by omega, by omega⟩
          rcases hp with hp | rfl
          · exact e4 p hp
          · exact g3.mono (by omega)
        · exact absurd e5 (by omega)
      · simp [b31_0, evSs, evS, ev, evA, evCs, rm, hr]
        exact ⟨r', e2, e4, e5, e6⟩) n.toNat 0 [some (.loc 1), some (.loc 2), some (.int sh), some (.loc 3), some (.tup ps), x5] s0 (by simp) ⟨ps, r, x5, rfl, h, hp, hz, by omega⟩
  subst m2
  exact ⟨ps', r', x5', s, m1, m3, m5, by omega⟩
theorem any_ok {k : Nat} (hx : NM xs) (h : TR ns (R1 xs) st) : ∃ ps st', evCall TURNS D (k + 28) 31 [.loc 1, .loc 2] st = .ok (.tup ps) st' ∧ TR ns (R1 xs) st' ∧ (∀ s ∈ ps, WS 40 s) ∧ pzL ps ≤ 450 := by
  obtain ⟨sh, st1, a1, a2, a3, a4⟩ := drawR (k := k + 26) (m := 8) h (by decide)
  have pk : ∃ n : Int, atI [PV.int 12, .int 30, .int 60, .int 60, .int 60, .int 100, .int 100, .int 150] sh = some (.int n) ∧ 0 ≤ n ∧ n ≤ 150 := by
    obtain ⟨y, hy, e3⟩ := pick (xs := [PV.int 12, .int 30, .int 60, .int 60, .int 60, .int 100, .int 100, .int 150]) (i := sh) a3 (by simpa using a4)
    simp only [List.mem_cons, List.not_mem_nil, or_false] at hy
    rcases hy with rfl | rfl | rfl | rfl | rfl | rfl | rfl | rfl <;> exact ⟨_, e3, by decide, by decide⟩
  obtain ⟨r0, e6, n0, n3⟩ := pk
  have len1 : st1.length = 3 := a2.len
  have h2 : TR ns (RS xs r0 []) (st1 ++ [.lst [.int r0]]) := a2.push [.lst [.int r0]]
  obtain ⟨ps, r', st3, t1, t2, t3, t4, t5⟩ := (tw_ok (ns := ns) hx 5).1 k r0 5 [] _ rfl h2 (by omega) (fun c hc => nomatch hc)
  rw [show k + 2 * 5 + 17 = k + 27 by omega] at t1
  have pp : PV.pureL ps = true := pureL_of fun s hs => (t3 s hs).pure
  have low : Low ((R1 xs).length + 2) (R1 xs) := fun c hc => RS.low (xs := xs) (r := 0) (C := []) (fun c hc => nomatch hc) c (by simp at hc; simp [hc])
  -- the loop and the end, from a program and a store
  have fin : ∀ (ps : List PV) (s0 : Store), TR ns (RS xs r' []) s0 → (∀ p ∈ ps, WS 40 p) → (pzL ps : Int) ≤ 70 + r0 - r' → (pzL ps : Int) ≤ 70 + 2 * r0 → ∃ (n : Int) (st4 st5 : Store) (q : Int) (ps' : List PV) (x5' : Option PV) (st6 : Store),
      evCall TURNS D (k + 27) 5 [.loc 1, .int 4] s0 = .ok (.int q) st4 ∧ atI [PV.int 0, .int 0, .int 1, .int 3] q = some (.int n) ∧ rngV (.int 0) (.int n) st4 = .ok (.items ((List.range n.toNat).map fun (k : Nat) => .int k)) st4 ∧
      forLoop (MG.put (.nm 5)) (evSs (evCall TURNS D (k + 27)) TURNS b31_0) (.items ((List.range n.toNat).map fun (k : Nat) => .int k)) 0 n.toNat [some (.loc 1), some (.loc 2), some (.int sh), some (.loc 3), some (.tup ps), none] st4
      = .nx [some (.loc 1), some (.loc 2), some (.int sh), some (.loc 3), some (.tup ps'), x5'] st5 ∧ U.leave st.length (.tup ps') st5 = .ok (.tup ps') st6 ∧ TR ns (R1 xs) st6 ∧ (∀ s ∈ ps', WS 40 s) ∧ pzL ps' ≤ 450 := by
    intro ps s0 g1 g2 g3 g4
    obtain ⟨q, st4, d1, d2, d3, d4⟩ := drawR (k := k + 26) (m := 4) g1 (by decide)
    have pk : ∃ n : Int, atI [PV.int 0, .int 0, .int 1, .int 3] q = some (.int n) ∧ 0 ≤ n ∧ n ≤ 3 := by
      obtain ⟨y, hy, e3⟩ := pick (xs := [PV.int 0, .int 0, .int 1, .int 3]) (i := q) d3 (by simpa using d4)
      simp only [List.mem_cons, List.not_mem_nil, or_false] at hy
      rcases hy with rfl | rfl | rfl | rfl <;> exact ⟨_, e3, by decide, by decide⟩
    obtain ⟨n, e6, m0, m3⟩ := pk
    obtain ⟨ps', r2, x5', st5, l1, l2, l3, l4⟩ := any_turn (k := k + 3) (sh := sh) (x5 := none) hx m0 m3 n0 n3 d2 g2 g3 g4
    have pp : PV.pureL ps' = true := pureL_of fun s hs => (l3 s hs).pure
    obtain ⟨st6, v1, v2⟩ := TR.drop' (R' := R1 xs) (C := [.lst [.int r2]]) (v := .tup ps') h l2 rfl low pp
    exact ⟨n, st4, st5, q, ps', x5', st6, d1, e6, rng_ok' m0 (by omega) st4, l1, v1, v2, l3, l4⟩
  by_cases hs : sh < 2
  · obtain ⟨q, st4, d1, d2, d3, d4⟩ := drawR (k := k + 26) (m := 36) t2 (by decide)
    obtain ⟨ps2, st5, w1, w2, w3, w4⟩ := wrapped_ok (k := k + 25) (n := q) hx d2 t3 d3 (by omega)
    obtain ⟨n, st6, st7, q7, ps', x5', st8, f1, f2, f3, f4, f5, f6, f7, f8⟩ := fin ps2 st5 w2 (fun p hp => (w3 p hp).mono (by omega)) (by omega) (by omega)
    refine ⟨ps', st8, ?_, f6, f7, f8⟩
    rw [show k + 28 = (k + 27) + 1 by omega, evCall]
    simp [D, d31, evSs, evS, ev, evA, evCs, evSrc, Src.many, ME.held, a1, e6, len1, t1, hs, d1, w1, f1, f2, f3, f4, f5, sizeLine_eq, -List.map_map]
  · obtain ⟨n, st6, st7, q7, ps', x5', st8, f1, f2, f3, f4, f5, f6, f7, f8⟩ := fin ps st3 t2 (fun p hp => (t3 p hp).mono (by omega)) (by omega) (by omega)
    refine ⟨ps', st8, ?_, f6, f7, f8⟩
    rw [show k + 28 = (k + 27) + 1 by omega, evCall]
    simp [D, d31, evSs, evS, ev, evA, evCs, evSrc, Src.many, ME.held, a1, e6, len1, t1, hs, f1, f2, f3, f4, f5, sizeLine_eq, -List.map_map]
end K13

set_option maxHeartbeats 4000000
namespace K13
open PySem L2 U
variable {ns : List Int} {R C : Store} {st : Store} {xs : List Str} {f w : Nat} {a b r : Int}
abbrev R3 (xs : List Str) (a b : Int) : Store := [.lst (xs.map .str), .lst (FR a b), .lst [.loc 3, .loc 2, .loc 2, .loc 2]]
theorem great_turn {k j : Nat} (hx : NM xs) (hj : j ≤ 10) {c : PV} {x3 x4 x5 : Option PV} (h : TR ns (R3 xs a b) st) (hc : WC (9 + j) c) (hz : pz c ≤ 18 + 2 * j) :
    ∃ (c' : PV) (x4' x5' : Option PV) (st' : Store), evSs (evCall TURNS D (k + 1)) TURNS b50_0 [some (.loc 1), some (.loc 2), some c, x3, x4, x5] st = .nx [some (.loc 1), some (.loc 2), some c', x3, x4', x5'] st' ∧
      TR ns (R3 xs a b) st' ∧ WC (9 + (j + 1)) c' ∧ pz c' ≤ 18 + 2 * (j + 1) := by
  obtain ⟨q1, st1, a1, a2, a3, a4⟩ := drawR (k := k) (m := 2) h (by decide)
  have wd : ∃ w : Str, atI [PV.str "call", .str "flag"] q1 = some (.str w) ∧ (w = "call" ∨ w = "flag") := pickS a3 (by simpa using a4) (fun x hx => by
    simp only [List.mem_cons, List.not_mem_nil, or_false] at hx
    rcases hx with rfl | rfl <;> exact ⟨_, rfl, by simp⟩)
  obtain ⟨wd, w1, w2⟩ := wd
  have nm : st1[2]? = some (.lst (xs.map .str)) := TR.at a2 0
  have ln : biV .len [.loc 2] st1 = some (.int xs.length) := by rw [bi_len_loc nm]; simp
  obtain ⟨q2, st2, x, b1, b2, b3, b4, _⟩ := nameR (k := k) a2 hx
  have nm2 : st2[2]? = some (.lst (xs.map .str)) := TR.at b2 0
  have i1 := ix_loc (k := q2) nm2
  rw [b3] at i1
  obtain ⟨ch, st3, c1, c2, c3, c4⟩ := drawR (k := k) (m := 6) b2 (by decide)
  have lf : WF (.tup [.str wd, .str x]) := ⟨wd, x, w2, b4, rfl⟩
  have zl : pz (.tup [.str wd, .str x]) = 1 := by simp
  have lc : WC (9 + j) (.tup [.str wd, .str x]) := WC.leaf _ lf
  have pc := fun st => esc_p hc.pure st
  have vc := fun st => varV_p hc.pure st
  by_cases k2 : ch < 2
  · refine ⟨.tup [.str "not", c], some (.tup [.str wd, .str x]), some (.int ch), st3, ?_, c2, .inr (.inl ⟨c, rfl, hc⟩), by rw [pz_node, pzL_cons, pzL_nil]; omega⟩
    simp [b50_0, evSs, evS, ev, evA, evCs, a1, w1, ln, b1, i1, c1, k2, pc, vc, sizeLine_eq]
  have andor : ∀ i : Int, 0 ≤ i → i < 2 → ∃ w : Str, atI [PV.str "and", .str "or"] i = some (.str w) ∧ (w = "and" ∨ w = "or") := fun i i0 i2 => pickS i0 (by simpa using i2) (fun x hx => by
    simp only [List.mem_cons, List.not_mem_nil, or_false] at hx
    rcases hx with rfl | rfl <;> exact ⟨_, rfl, by simp⟩)
  by_cases k4 : ch < 4
  · obtain ⟨wj, j1, j2⟩ := andor (ch - 2) (by omega) (by omega)
    obtain ⟨v, v1, v2, v3, v4⟩ := joined_ok (d := 8 + j) j2 (hc.mono (by omega)) (lc.mono (by omega)) (by omega) (by omega)
    have v1 := fun st => v1 k st
    have ev' := fun st => esc_p v4 st
    refine ⟨v, some (.tup [.str wd, .str x]), some (.int ch), st3, ?_, c2, v2.mono (by omega), by omega⟩
    simp [b50_0, evSs, evS, ev, evA, evCs, a1, w1, ln, b1, i1, c1, k2, k4, j1, v1, ev', pc, vc, sizeLine_eq]
  · obtain ⟨wj, j1, j2⟩ := andor (ch - 4) (by omega) (by omega)
    obtain ⟨v, v1, v2, v3, v4⟩ := joined_ok (d := 8 + j) j2 (lc.mono (by omega)) (hc.mono (by omega)) (by omega) (by omega)
    have v1 := fun st => v1 k st
    have ev' := fun st => esc_p v4 st
    refine ⟨v, some (.tup [.str wd, .str x]), some (.int ch), st3, ?_, c2, v2.mono (by omega), by omega⟩
    simp [b50_0, evSs, evS, ev, evA, evCs, a1, w1, ln, b1, i1, c1, k2, k4, j1, v1, ev', pc, vc, sizeLine_eq]
theorem great_ok {k : Nat} (hx : NM xs) (h : TR ns (R1 xs) st) : ∃ c st', evCall TURNS D (k + 13) 50 [.loc 1, .loc 2] st = .ok c st' ∧ TR ns (R1 xs) st' ∧ WC 25 c ∧ pz c ≤ 40 := by
  have len0 : st.length = 3 := h.len
  have h2 : TR ns (R3 xs 99 99) (st ++ [.lst (FR 99 99), .lst [.loc 3, .loc 2, .loc 2, .loc 2]]) := h.push [.lst (FR 99 99), .lst [.loc 3, .loc 2, .loc 2, .loc 2]]
  have W : Wl (R3 xs 99 99) xs 1 2 := ⟨rfl, rfl, by decide, by decide, by simp⟩
  obtain ⟨c, st1, a', b', g1, g2, g3, g4⟩ := cond_ok (ns := ns) (R := R3 xs 99 99) (f := 1) (w := 2) (a := 99) (b := 99) (k := k) W hx (by omega) h2
  have g4 : TR ns (R3 xs a' b') st1 := g4
  obtain ⟨n, st2, d1, d2, d3, d4⟩ := drawR (k := k + 11) (m := 11) g4 (by decide)
  have hr := rng_ok' (n := n) d3 (by omega) st2
  obtain ⟨e, s, m1, c', x3, x4, x5, m2, m3, m4, m5⟩ := forLoop_inv (put := MG.put (.nm 3)) (body := evSs (evCall TURNS D (k + 12)) TURNS b50_0) (xs := (List.range n.toNat).map fun (k : Nat) => .int k)
    (fun j env s => ∃ (c : PV) (x3 x4 x5 : Option PV), env = [some (.loc 1), some (.loc 2), some c, x3, x4, x5] ∧ TR ns (R3 xs a' b') s ∧ WC (9 + j) c ∧ pz c ≤ 18 + 2 * j) (fun j x env s hx' ⟨c, x3, x4, x5, e1, e2, e3, e4⟩ => by
      subst e1
      have hj : j < n.toNat := by
        have := (List.getElem?_eq_some_iff.mp hx').1
        simpa using this
      obtain ⟨c', x4', x5', st', q1, q2, q3, q4⟩ := great_turn (k := k + 11) (j := j) (x3 := some x) (x4 := x4) (x5 := x5) hx (by omega) e2 e3 e4
      refine ⟨[some (.loc 1), some (.loc 2), some c, some x, x4, x5], rfl, ?_⟩
      show SR.go (evSs (evCall TURNS D (k + 12)) TURNS b50_0 [some (.loc 1), some (.loc 2), some c, some x, x4, x5] s) _
      rw [q1]
      exact ⟨c', _, _, _, rfl, q2, q3, q4⟩) n.toNat 0 [some (.loc 1), some (.loc 2), some c, none, none, none] st2 (by simp) ⟨c, none, none, none, rfl, d2, g2, by omega⟩
  subst m2
  simp only [List.length_map, List.length_range] at m4 m5
  have low : Low ((R1 xs).length + 2) (R1 xs) := fun c hc => RS.low (xs := xs) (r := 0) (C := []) (fun c hc => nomatch hc) c (by simp at hc; simp [hc])
  obtain ⟨st6, v1, v2⟩ := TR.drop' (R' := R1 xs) (C := [.lst (FR a' b'), .lst [.loc 3, .loc 2, .loc 2, .loc 2]]) (v := c') h m3 rfl low m4.pure
  have pc := fun st => esc_p g2.pure st
  have vc := fun st => varV_p m4.pure st
  refine ⟨c', st6, ?_, v2, m4.mono (by omega), by omega⟩
  rw [len0] at v1
  have hh : ME.held (.var 2) [some (.loc 1), some (.loc 2), some c', x3, x4, x5] = none := by
    obtain ⟨w', x', e, _⟩ := m4.tup
    subst e; rfl
  rw [show k + 13 = (k + 12) + 1 by omega, evCall]
  simp [D, d50, evSs, evS, ev, evA, evCs, evSrc, Src.many, hh, len0, g1, d1, hr, m1, pc, vc, v1, sizeLine_eq, -List.map_map]
end K13

set_option maxHeartbeats 4000000
namespace K13
open PySem L2 U
variable {ns : List Int} {R C : Store} {st : Store} {xs : List Str} {f w : Nat} {a b r : Int}
theorem pzL_take : ∀ (n : Nat) (l : List PV), pzL (l.take n) ≤ pzL l
  | 0, l => by simp
  | n + 1, [] => by simp
  | n + 1, x :: l => by have := pzL_take n l; simp only [List.take_succ_cons, pzL_cons]; omega
theorem pzL_drop : ∀ (n : Nat) (l : List PV), pzL (l.drop n) ≤ pzL l
  | 0, l => by simp
  | n + 1, [] => by simp
  | n + 1, x :: l => by have := pzL_drop n l; simp only [List.drop_succ_cons, pzL_cons]; omega
theorem pzL_cut (l : List PV) (lo hi : Option Int) : pzL (cutL l lo hi) ≤ pzL l := Nat.le_trans (pzL_take _ _) (pzL_drop _ _)
theorem mem_cut {l : List PV} {lo hi : Option Int} {x : PV} (h : x ∈ cutL l lo hi) : x ∈ l := List.mem_of_mem_drop (List.mem_of_mem_take h)
/-- the first branch of a link of the chain -/
theorem first_ok {x : Str} (xB : B 60 x) {q : Int} (q0 : 0 ≤ q) (q3 : q < 3) : ∃ b : List PV, atI [PV.tup [], .tup [.tup [.str "break", .non]], .tup [.tup [.str "call", .str x], .tup [.str "continue", .str x]]] q = some (.tup b) ∧ (∀ s ∈ b, WS 0 s) ∧ pzL b ≤ 2 := by
  obtain ⟨y, hy, e⟩ := pick (xs := [PV.tup [], .tup [.tup [.str "break", .non]], .tup [.tup [.str "call", .str x], .tup [.str "continue", .str x]]]) (i := q) q0 (by simpa using q3)
  simp only [List.mem_cons, List.not_mem_nil, or_false] at hy
  have c0 : WS 0 (.tup [.str "call", .str x]) := SH.call xB
  have c1 : WS 0 (.tup [.str "continue", .str x]) := SH.jump (.inr rfl) (.inr ⟨x, rfl, xB⟩)
  have c2 : WS 0 (.tup [.str "break", .non]) := SH.jump (.inl rfl) (.inl rfl)
  rcases hy with rfl | rfl | rfl
  · exact ⟨_, e, (fun s hs => nomatch hs), by simp⟩
  · exact ⟨_, e, (fun s hs => by simp at hs; subst hs; exact c2), by simp⟩
  · exact ⟨_, e, (fun s hs => by simp at hs; rcases hs with rfl | rfl <;> assumption), by simp⟩
abbrev OT (x : Str) : PV := .tup [.str "if", .tup [.str "flag", .str x], .tup [.tup [.str "call", .str x]], .tup []]
theorem ot_ok {x : Str} (xB : B 60 x) : WS 1 (OT x) ∧ pz (OT x) = 3 := by
  have c0 : WS 0 (.tup [.str "call", .str x]) := SH.call xB
  refine ⟨SH.if_ (WC.leaf 25 ⟨_, _, .inr rfl, xB, rfl⟩) (fun s hs => by simp at hs; subst hs; exact c0) (fun s hs => nomatch hs), ?_⟩
  simp [pz, pzT, pzL]
/-- what stands in the last second branch -/
theorem second_ok {x : Str} (xB : B 60 x) {q : Int} (q0 : 0 ≤ q) (q4 : q < 4) : ∃ b : List PV, atI [PV.tup [], .tup [OT x, .tup [.str "return", .non]], .tup [.tup [.str "block", .tup [OT x]]], .tup [.tup [.str "let", .str x, .bl true], OT x]] q = some (.tup b) ∧ (∀ s ∈ b, WS 2 s) ∧ pzL b ≤ 5 := by
  obtain ⟨y, hy, e⟩ := pick (xs := [PV.tup [], .tup [OT x, .tup [.str "return", .non]], .tup [.tup [.str "block", .tup [OT x]]], .tup [.tup [.str "let", .str x, .bl true], OT x]]) (i := q) q0 (by simpa using q4)
  simp only [List.mem_cons, List.not_mem_nil, or_false] at hy
  obtain ⟨o1, o2⟩ := ot_ok xB
  have c1 : WS 0 (.tup [.str "return", .non]) := SH.ret (.inl rfl)
  have c2 : WS 0 (.tup [.str "let", .str x, .bl true]) := SH.decl (.inl rfl) xB
  have c3 : WS 2 (.tup [.str "block", .tup [OT x]]) := SH.block (fun s hs => by simp only [List.mem_singleton] at hs; subst hs; exact o1)
  have z3 : pz (.tup [.str "block", .tup [OT x]]) = 4 := by rw [pz_node, pzL_cons, pzL_nil, pz_body (noStr_of fun s hs => by simp only [List.mem_singleton] at hs; subst hs; exact ⟨_, rfl⟩), pzL_cons, pzL_nil, o2]
  rcases hy with rfl | rfl | rfl | rfl
  · exact ⟨_, e, (fun s hs => nomatch hs), by simp⟩
  · refine ⟨_, e, (fun s hs => ?_), by rw [pzL_cons, pzL_cons, pzL_nil, o2]; simp⟩
    simp only [List.mem_cons, List.not_mem_nil, or_false] at hs
    rcases hs with rfl | rfl
    · exact o1.mono (by omega)
    · exact c1.mono (by omega)
  · refine ⟨_, e, (fun s hs => ?_), by rw [pzL_cons, pzL_nil, z3]; omega⟩
    simp only [List.mem_singleton] at hs
    subst hs; exact c3
  · refine ⟨_, e, (fun s hs => ?_), by rw [pzL_cons, pzL_cons, pzL_nil, o2]; simp⟩
    simp only [List.mem_cons, List.not_mem_nil, or_false] at hs
    rcases hs with rfl | rfl
    · exact c2.mono (by omega)
    · exact o1.mono (by omega)
/-- the chain -/
theorem chain_ok {k : Nat} (hx : NM xs) {x : Str} (hx0 : atI (xs.map PV.str) 0 = some (.str x)) (xB : B 60 x) {n : Nat} (hn : n ≤ 9) {v0 v4 v5 v9 : Option PV} {sh : Int} {b0 : List PV} (h : TR ns (R1 xs) st) (hb : ∀ s ∈ b0, WS 2 s) (hz : pzL b0 ≤ 5) :
    ∃ (b : List PV) (x7 x8 : Option PV) (st' : Store), forLoop (MG.put (.nm 7)) (evSs (evCall TURNS D (k + 1)) TURNS b0_0) (.items ((List.range n).map fun (k : Nat) => .int k)) 0 n [v0, some (.loc 1), some (.loc 2), some (.int sh), v4, v5, some (.tup b0), none, none, v9] st
      = .nx [v0, some (.loc 1), some (.loc 2), some (.int sh), v4, v5, some (.tup b), x7, x8, v9] st' ∧ TR ns (R1 xs) st' ∧ (∀ s ∈ b, WS 11 s) ∧ pzL b ≤ 50 := by
  obtain ⟨e, s, m1, b, x7, x8, m2, m3, m4, m5⟩ := forLoop_inv (put := MG.put (.nm 7)) (body := evSs (evCall TURNS D (k + 1)) TURNS b0_0) (xs := (List.range n).map fun (k : Nat) => .int k)
    (fun j env s => ∃ (b : List PV) (x7 x8 : Option PV), env = [v0, some (.loc 1), some (.loc 2), some (.int sh), v4, v5, some (.tup b), x7, x8, v9] ∧ TR ns (R1 xs) s ∧ (∀ s ∈ b, WS (2 + j) s) ∧ pzL b ≤ 5 + 4 * j) (fun j y env s hx' ⟨b, x7, x8, e1, e2, e3, e4⟩ => by
      subst e1
      have nm : s[2]? = some (.lst (xs.map .str)) := TR.at e2 0
      have i0 := ix_loc (k := 0) nm
      rw [hx0] at i0
      obtain ⟨q1, st1, a1, a2, a3, a4⟩ := drawR (k := k) (m := 3) e2 (by decide)
      obtain ⟨fb, f1, f2, f3⟩ := first_ok xB a3 a4
      have nm1 : st1[2]? = some (.lst (xs.map .str)) := TR.at a2 0
      have ln : biV .len [.loc 2] st1 = some (.int xs.length) := by rw [bi_len_loc nm1]; simp
      obtain ⟨q2, st2, x', b1, b2, b3, b4, _⟩ := nameR (k := k) a2 hx
      have nm2 : st2[2]? = some (.lst (xs.map .str)) := TR.at b2 0
      have i1 := ix_loc (k := q2) nm2
      rw [b3] at i1
      have z1 : pz (.tup [.str "call", .str x']) = 1 := by simp
      have zf := pz_b f2
      have zb := pz_b e3
      have ws : WS (2 + (j + 1)) (.tup [.str "if", .tup [.str "call", .str x'], .tup fb, .tup b]) := by
        rw [show 2 + (j + 1) = (2 + j) + 1 by omega]
        exact SH.if_ (WC.leaf 25 ⟨_, _, .inl rfl, b4, rfl⟩) (fun s hs => (f2 s hs).mono (by omega)) e3
      refine ⟨[v0, some (.loc 1), some (.loc 2), some (.int sh), v4, v5, some (.tup b), some y, x8, v9], rfl, ?_⟩
      simp [b0_0, evSs, evS, ev, evA, evCs, i0, a1, f1, ln, b1, i1, sizeLine_eq]
      refine ⟨b2, ws, ?_⟩
      omega) n 0 [v0, some (.loc 1), some (.loc 2), some (.int sh), v4, v5, some (.tup b0), none, none, v9] st (by simp) ⟨b0, none, none, rfl, h, hb, by omega⟩
  subst m2
  simp only [List.length_map, List.length_range] at m4 m5
  exact ⟨b, x7, x8, s, m1, m3, fun s hs => (m4 s hs).mono (by omega), by omega⟩
theorem leave0 (b : Bool) (st : Store) : ∃ st', U.leave 0 (.bl b) st = .ok (.bl b) st' := by
  unfold U.leave
  split
  · exact ⟨_, rfl⟩
  · exact ⟨[], by rw [List.take_zero]; rfl⟩
theorem main (ns : List Int) (hl : ns.length ≤ 63) : ∃ st', evCall TURNS D DEEP 0 [.rol (ns.map .int)] [] = .ok (.bl true) st' := by
  obtain ⟨z, z0, t1⟩ := tape_ok (k := 228) (ns := ns)
  have t : T ns [.lst (ns.map .int), .lst (tp 0 0 0 z)] := ⟨0, 0, z, by omega, by omega, z0, rfl⟩
  obtain ⟨q1, st1, a1, a2, a3, a4⟩ := drawT (k := 228) (m := 4) t (by decide)
  obtain ⟨xs, st2, n1, n2, n3, n4⟩ := names_ok (k := 227) (mn := 1 + q1) (by omega) (by omega) a2
  have hx : NM xs := ⟨fun e => by subst e; simp at n2; omega, by omega, n3⟩
  obtain ⟨x, hx0, xB⟩ : ∃ x, atI (xs.map PV.str) 0 = some (.str x) ∧ B 60 x := by
    cases xs with
    | nil => exact absurd rfl hx.1
    | cons x xs => exact ⟨x, atI_0 _ _, n3 x List.mem_cons_self⟩
  have len2 : st2.length = 2 := n4.len
  have h2 : TR ns (R1 xs) (st2 ++ [.lst (xs.map .str)]) := (TR.of n4).push [.lst (xs.map .str)]
  obtain ⟨sh, st3, b1, b2, b3, b4⟩ := drawR (k := 228) (m := 3) h2 (by decide)
  obtain ⟨ps, st4, c1, c2, c3, c4⟩ := any_ok (k := 201) hx b2
  have nm4 : st4[2]? = some (.lst (xs.map .str)) := TR.at c2 0
  have i0 := ix_loc (k := 0) nm4
  rw [hx0] at i0
  have fin : ∀ ps : List PV, (∀ s ∈ ps, WS 40 s) → pzL ps ≤ 1000 → ∃ y : Str, (∀ st, biV .repr [.str y] st = some (.str (reprText y))) ∧ (∀ st, evCall TURNS D 229 105 [.tup ps] st = .ok (.str y) st) ∧ ∀ st, evCall TURNS D 229 115 [.tup ps] st = .ok (.str y) st := fun ps h1 h2 => by
    obtain ⟨y, y1, y2, y3⟩ := printed_ok h1 h2
    exact ⟨y, fun st => if_pos y1, fun st => y2 7 st, fun st => y3 149 st⟩
  have hlen := pz_many fun c hc => (c3 c hc).pos
  have cl : ∀ lo hi, (cutL ps lo hi).length ≤ 450 := fun lo hi => by
    have := pzL_cut ps lo hi
    have := pz_many (cs := cutL ps lo hi) fun c hc => (c3 c (mem_cut hc)).pos
    omega
  rw [show DEEP = 229 + 1 from rfl, evCall]
  by_cases k0 : sh = 0
  · subst k0
    obtain ⟨q5, st5, d1, d2, d3, d4⟩ := drawR (k := 228) (m := 4) c2 (by decide)
    obtain ⟨b0, s1, s2, s3⟩ := second_ok xB d3 d4
    obtain ⟨q6, st6, e1, e2, e3, e4⟩ := drawR (k := 228) (m := 9) d2 (by decide)
    have hr := rng_ok' (n := 1 + q6) (by omega) (by omega) st6
    obtain ⟨b, x7, x8, st7, l1, l2, l3, l4⟩ := chain_ok (k := 228) (n := (1 + q6).toNat) (sh := 0) (v0 := some (.rol (ns.map .int))) (v4 := some (.tup ps)) (v5 := some (OT x)) (v9 := none) hx hx0 xB (by omega) e2 s2 s3
    have bl := pz_many fun c hc => (l3 c hc).pos
    have k1 := cl none (some 2)
    have k2 := cl (some 2) (some 3)
    have p1 := pzL_cut ps none (some 2)
    have p2 := pzL_cut ps (some 2) (some 3)
    have u1 : ∀ st, slV (.tup ps) none (some 2) st = some (.tup (cutL ps none (some 2))) := fun st => rfl
    have u2 : ∀ st, slV (.tup ps) (some 2) (some 3) st = some (.tup (cutL ps (some 2) (some 3))) := fun st => rfl
    have u3 : ∀ st, binV .add (.tup (cutL ps none (some 2))) (.tup b) st = some (.tup (cutL ps none (some 2) ++ b)) := fun st => bin_add_tup (by rw [sizeLine_eq]; omega)
    have u4 : ∀ st, binV .add (.tup (cutL ps none (some 2) ++ b)) (.tup (cutL ps (some 2) (some 3))) st = some (.tup (cutL ps none (some 2) ++ b ++ cutL ps (some 2) (some 3))) := fun st => bin_add_tup (by rw [sizeLine_eq, List.length_append]; omega)
    obtain ⟨y, y1, y2, y3⟩ := fin (cutL ps none (some 2) ++ b ++ cutL ps (some 2) (some 3)) (fun s hs => by
      rcases List.mem_append.mp hs with hs | hs
      · rcases List.mem_append.mp hs with hs | hs
        · exact (c3 s (mem_cut hs)).mono (by omega)
        · exact (l3 s hs).mono (by omega)
      · exact (c3 s (mem_cut hs)).mono (by omega)) (by rw [pzL_app, pzL_app]; omega)
    generalize hP : cutL ps none (some 2) ++ b ++ cutL ps (some 2) (some 3) = P at *
    generalize hP1 : cutL ps none (some 2) = P1 at *
    generalize hP2 : cutL ps (some 2) (some 3) = P2 at *
    simp [D, d0, evSs, evS, ev, evA, evCs, evSrc, Src.many, ME.held, t1, a1, n1, len2, b1, c1, i0, d1, s1, e1, hr, l1, ME.absent, bound_non, bound_int, u1, u2, u3, u4, y1, y2, y3, sizeLine_eq, -List.map_map]
    exact leave0 _ _
  · by_cases k1 : sh = 1
    · subst k1
      obtain ⟨q5, st5, d1, d2, d3, d4⟩ := drawR (k := 228) (m := 2) c2 (by decide)
      have lb : ∃ l, atI [PV.non, .str x] q5 = some l ∧ LAB l := by
        obtain ⟨y, hy, e⟩ := pick (xs := [PV.non, .str x]) (i := q5) d3 (by simpa using d4)
        simp only [List.mem_cons, List.not_mem_nil, or_false] at hy
        rcases hy with rfl | rfl
        · exact ⟨_, e, .inl rfl⟩
        · exact ⟨_, e, .inr ⟨_, rfl, xB⟩⟩
      obtain ⟨l, l1, l2⟩ := lb
      obtain ⟨c, st6, g1, g2, g3, g4⟩ := great_ok (k := 216) hx d2
      have w : WS 1 (.tup [.str "while", l, c, .tup []]) := SH.while_ l2 g3 (fun s hs => nomatch hs)
      have zw : pz (.tup [.str "while", l, c, .tup []]) ≤ 41 := by rw [pz_node, pzL_cons, pzL_cons, pzL_cons, pzL_nil, l2.pz, show pz (.tup []) = 0 by simp [pz, pzT]]; omega
      have u : ∀ st, binV .add (.tup ps) (.tup [.tup [.str "while", l, c, .tup []]]) st = some (.tup (ps ++ [.tup [.str "while", l, c, .tup []]])) := fun st => bin_add_tup (by rw [sizeLine_eq]; simp; omega)
      obtain ⟨y, y1, y2, y3⟩ := fin (ps ++ [.tup [.str "while", l, c, .tup []]]) (fun s hs => by
        rcases List.mem_append.mp hs with hs | hs
        · exact (c3 s hs).mono (by omega)
        · rw [List.mem_singleton.mp hs]; exact w.mono (by omega)) (by rw [pzL_app, pzL_cons, pzL_nil]; omega)
      have pl := fun st => esc_p l2.pure st
      have pc := fun st => esc_p g3.pure st
      simp [D, d0, evSs, evS, ev, evA, evCs, evSrc, Src.many, ME.held, t1, a1, n1, len2, b1, c1, i0, d1, l1, pl, g1, pc, u, y1, y2, y3, sizeLine_eq, -List.map_map]
      exact leave0 _ _
    · obtain ⟨y, y1, y2, y3⟩ := fin ps (fun s hs => (c3 s hs).mono (by omega)) (by omega)
      simp [D, d0, evSs, evS, ev, evA, evCs, evSrc, Src.many, ME.held, t1, a1, n1, len2, b1, c1, k0, k1, y1, y2, y3, sizeLine_eq, -List.map_map]
      exact leave0 _ _
end K13


open PySem PySem.W PyProof.Rows
set_option maxHeartbeats 0 in
theorem PySem.Challenge.cw_flowform_k13_printed_programs_holds : PySem.Challenge.rw_flowform_k13_printed_programs.Holds := by
  w_on; o_law; k_head; (case hw => w_witness2)
  k_fill
  refine L2.walk_of (l := PySem.Challenge.rw_flowform_k13_printed_programs) (n := 63) (k := K13.DEEP) (x := "script") (CX := fun _ => L2.CX0) (sp := fun w => U.spEv _ (U.evCall K13.TURNS K13.D K13.DEEP 0)) rfl (by decide) rfl ⟨rfl, by decide, by decide⟩ (fun w h Y => PySem.W.kIn_of Y) ?F (fun _ _ a ns hl ho hS => U.law_sp (K13.main ns hl) ho hS) (fun _ _ _ _ _ h => h)
  case F =>
    intro w mg fa h KX G hmg
    refine' K13.all_mk KX G hmg ?a105 ?l105 ?c105 ?k105 ?a85 ?l85 ?c85 ?k85 ?a86 ?l86 ?c86 ?k86 ?a106 ?l106 ?c106 ?k106 ?a107 ?l107 ?c107 ?k107 ?a108 ?l108 ?c108 ?k108 ?a109 ?l109 ?c109 ?k109 ?a110 ?l110 ?c110 ?k110 ?a111 ?l111 ?c111 ?k111 ?a112 ?l112 ?c112 ?k112 ?a4 ?l4 ?c4 ?k4 ?a5 ?l5 ?c5 ?k5 ?a6 ?l6 ?c6 ?k6 ?a19 ?l19 ?c19 ?k19 ?a20 ?l20 ?c20 ?k20 ?a21 ?l21 ?c21 ?k21 ?a27 ?l27 ?c27 ?k27 ?a28 ?l28 ?c28 ?k28 ?a29 ?l29 ?c29 ?k29 ?a30 ?l30 ?c30 ?k30 ?a31 ?l31 ?c31 ?k31 ?a93 ?l93 ?c93 ?k93 ?a113 ?l113 ?c113 ?k113 ?a114 ?l114 ?c114 ?k114 ?a115 ?l115 ?c115 ?k115 ?a50 ?l50 ?c50 ?k50 ?a0 ?l0 ?c0 ?k0 ?q0 ?dg0 ?dl0 ?di0 ?dj0 ?dm0 ?b0 ?b1 ?b2 ?b3 ?b4 ?b5 ?b6 ?b7 ?b8 ?b9 ?b10
    (case a105 => k_is); (case l105 => k_is); (case c105 => k_is); (case k105 => k_is); (case a85 => k_is); (case l85 => k_is); (case c85 => k_is); (case k85 => k_is); (case a86 => k_is); (case l86 => k_is); (case c86 => k_is); (case k86 => k_is); (case a106 => k_is); (case l106 => k_is); (case c106 => k_is); (case k106 => k_is); (case a107 => k_is); (case l107 => k_is); (case c107 => k_is); (case k107 => k_is); (case a108 => k_is); (case l108 => k_is); (case c108 => k_is); (case k108 => k_is); (case a109 => k_is); (case l109 => k_is); (case c109 => k_is); (case k109 => k_is); (case a110 => k_is); (case l110 => k_is); (case c110 => k_is); (case k110 => k_is); (case a111 => k_is); (case l111 => k_is); (case c111 => k_is); (case k111 => k_is); (case a112 => k_is); (case l112 => k_is); (case c112 => k_is); (case k112 => k_is); (case a4 => k_is); (case l4 => k_is); (case c4 => k_is); (case k4 => k_is); (case a5 => k_is); (case l5 => k_is); (case c5 => k_is); (case k5 => k_is); (case a6 => k_is); (case l6 => k_is); (case c6 => k_is); (case k6 => k_is); (case a19 => k_is); (case l19 => k_is); (case c19 => k_is); (case k19 => k_is); (case a20 => k_is); (case l20 => k_is); (case c20 => k_is); (case k20 => k_is); (case a21 => k_is); (case l21 => k_is); (case c21 => k_is); (case k21 => k_is); (case a27 => k_is); (case l27 => k_is); (case c27 => k_is); (case k27 => k_is); (case a28 => k_is); (case l28 => k_is); (case c28 => k_is); (case k28 => k_is); (case a29 => k_is); (case l29 => k_is); (case c29 => k_is); (case k29 => k_is); (case a30 => k_is); (case l30 => k_is); (case c30 => k_is); (case k30 => k_is); (case a31 => k_is); (case l31 => k_is); (case c31 => k_is); (case k31 => k_is); (case a93 => k_is); (case l93 => k_is); (case c93 => k_is); (case k93 => k_is); (case a113 => k_is); (case l113 => k_is); (case c113 => k_is); (case k113 => k_is); (case a114 => k_is); (case l114 => k_is); (case c114 => k_is); (case k114 => k_is); (case a115 => k_is); (case l115 => k_is); (case c115 => k_is); (case k115 => k_is); (case a50 => k_is); (case l50 => k_is); (case c50 => k_is); (case k50 => k_is); (case a0 => k_is); (case l0 => k_is); (case c0 => k_is); (case k0 => k_is); (case q0 => k_is); (case dg0 => k_is); (case dl0 => k_is); (case b0 => k_is); (case b1 => k_is); (case b2 => k_is); (case b3 => k_is); (case b4 => k_is); (case b5 => k_is); (case b6 => k_is); (case b7 => k_is); (case b8 => k_is); (case b9 => k_is); (case b10 => k_is)
    (case di0 => exact ⟨⟨_, _, rfl, rfl⟩, ⟨⟨_, _, rfl, rfl⟩, trivial⟩⟩); (case dj0 => decide); (case dm0 => exact ⟨⟨_, _, rfl, rfl, ⟨_, rfl⟩⟩, ⟨⟨_, _, rfl, rfl, ⟨_, rfl⟩⟩, trivial⟩⟩)

