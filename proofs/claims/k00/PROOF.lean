import PyProof.Rows.All
import HandS.ForMost
import HandS.TupAny
import HandS.Flow
import PySem.Challenge.RW_flowform_k00_names_and_outcomes
import HandS.Codes
set_option Elab.async false
set_option linter.all false
set_option maxRecDepth 100000
set_option maxHeartbeats 4000000
/-! U1: a small language of programs over plain data, and what its programs yield. -/
namespace U
open PySem

/-- plain data; loc: a list that is shared, by its place in the store; fl: a list that nothing else holds; rol: a list that is only read -/
inductive PV where
  | non | bl (b : Bool) | int (i : Int) | str (s : Str) | tup (xs : List PV) | loc (n : Nat) | fl (xs : List PV) | rol (xs : List PV)
  deriving Inhabited
/-- what stands at a place of the store: a list -/
inductive Cell where
  | lst (xs : List PV)
  deriving Inhabited
abbrev Store := List Cell
abbrev En := List (Option PV)

inductive Res (α : Type) where
  | ok (a : α) (st : Store)
  | bad
def Res.bind {α β : Type} : Res α → (α → Store → Res β) → Res β
  | .ok a st, f => f a st
  | .bad, _ => .bad
def opt {α : Type} (o : Option α) (st : Store) : Res α := match o with
  | some a => .ok a st
  | none => .bad

inductive BOp where | add | sub | mul | fdiv | mod | pow
inductive COp where | eq | ne | lt | le | gt | ge | isN | notN | inn | nin
inductive BF where | len | int | abs | max | min | str | repr | list | tuple | sum | all | any
inductive MF where | append | split | partition | join
inductive MG where
  | nm (i : Nat)
  | tp (is : List Nat)

mutual
inductive ME where
  | var (i : Nat)
  | con (v : PV)
  | glb (x : Str) (v : PV)
  | bin (o : BOp) (a b : ME)
  | neg (a : ME)
  | cmp (o : COp) (a b : ME)
  | cmp2 (o o' : COp) (a b c : ME)
  | not (a : ME)
  | and (a b : ME)
  | or (a b : ME)
  | ite (t a b : ME)
  | fn (f : Nat) (as : MEs)
  | bi (f : BF) (as : MEs)
  | mt (m : MF) (o : ME) (as : MEs)
  | tup (as : MEs)
  | lst (as : MEs)
  | ix (a i : ME)
  | sl (a lo hi : ME)
  | lc (elt : ME) (g : MG) (src : ME) (has : Bool) (c : ME)
  | rng (a b : ME)
inductive MEs where
  | nil
  | cons (a : ME) (as : MEs)
end
mutual
inductive MS where
  | set (i : Nat) (e : ME) (own : Bool)
  | setT (is : List Nat) (e : ME)
  | setIx (a i e : ME)
  | aug (i : Nat) (o : BOp) (e : ME)
  | ex (e : ME)
  | app (i : Nat) (e : ME)
  | ret (e : ME)
  | ret0
  | ite (t : ME) (a b : MSs)
  | whl (t : ME) (b : MSs)
  | for_ (g : MG) (src : ME) (b : MSs)
  | brk | cnt | pass
inductive MSs where
  | nil
  | cons (s : MS) (ss : MSs)
end

/-! ### values -/
def PV.isFl : PV → Bool
  | .fl _ => true
  | _ => false
/-- the items of a list or tuple -/
def seqOf (v : PV) (st : Store) : Option (List PV) := match v with
  | .tup xs => some xs
  | .fl xs => some xs
  | .rol xs => some xs
  | .loc n => match st[n]? with
    | some (.lst xs) => some xs
    | none => none
  | _ => none
/-- .. of a list that is read -/
def rdOf (v : PV) (st : Store) : Option (List PV) := match v with
  | .tup _ => none
  | v => seqOf v st
/-- .. of a list -/
def listOf (v : PV) (st : Store) : Option (List PV) := match v with
  | .fl xs => some xs
  | .loc n => match st[n]? with
    | some (.lst xs) => some xs
    | none => none
  | _ => none
def truth (v : PV) (st : Store) : Option Bool := match v with
  | .non => some false
  | .bl b => some b
  | .int i => some (i != 0)
  | .str s => if s.length ≤ sizeLine then some ((s.length : Int) != 0) else none
  | v => (seqOf v st).map fun xs => !xs.isEmpty
def ckM (i j : Int) : Bool := (decide (-(2 ^ 64) < i) && decide (i < 2 ^ 64)) || (decide (-(2 ^ 64) < j) && decide (j < 2 ^ 64))
def binV (o : BOp) (a b : PV) (st : Store) : Option PV := match o, a, b with
  | .add, .int i, .int j => some (.int (i + j))
  | .add, .str x, .str y => if x.length + y.length ≤ sizeLine then some (.str (x ++ y)) else none
  | .add, .tup xs, .tup ys => if xs.length + ys.length ≤ sizeLine then some (.tup (xs ++ ys)) else none
  | .add, a, b => match listOf a st, listOf b st with
    | some xs, some ys => if xs.length + ys.length ≤ sizeLine then some (.fl (xs ++ ys)) else none
    | _, _ => none
  | .sub, .int i, .int j => some (.int (i - j))
  | .mul, .int i, .int j => if ckM i j then some (.int (i * j)) else none
  | .mul, .str x, .int j => if -1000000 ≤ j ∧ j ≤ 1000000 ∧ x.length * j.toNat ≤ 1000000 then some (.str (⟨((List.replicate j.toNat x.cps.toList).flatten).toArray⟩)) else none
  | .fdiv, .int i, .int j => if 0 < j ∧ j < 1073741824 then some (.int (i / j)) else none
  | .mod, .int i, .int j => if 0 < j then some (.int (i % j)) else none
  | .pow, .int i, .int j => if 0 ≤ j ∧ j ≤ 1000000 ∧ i.natAbs < 2 ^ 64 then some (.int (i ^ j.toNat)) else none
  | _, _, _ => none
/-- a flat value -/
def flV : PV → Option L2.V
  | .non => some .non
  | .bl b => some (.bl b)
  | .int i => some (.int i)
  | .str s => some (.str s)
  | _ => none
def flL : List PV → Option (List L2.V)
  | [] => some []
  | x :: r => match flV x, flL r with
    | some v, some vs => some (v :: vs)
    | _, _ => none
/-- == of two scalars -/
def eqS (a b : PV) : Option Bool := match flV a, flV b with
  | some x, some y => if L2.scal x y = true then some (decide (x = y)) else none
  | _, _ => none
/-- a flat thing among flat things -/
def memF (a : PV) (ys : List PV) : Option Bool := match flV a, flL ys with
  | some x, some vs => some (L2.inV x vs)
  | _, _ => none
def inV (a b : PV) (st : Store) : Option Bool := match a, b with
  | .str x, .str z => match x.cps.toList with
    | [c] => some (decide (c ∈ z.cps.toList))
    | _ => none
  | a, b => match seqOf b st with
    | some ys => memF a ys
    | none => none
def cmpV (o : COp) (a b : PV) (st : Store) : Option Bool := match o with
  | .eq => eqS a b
  | .ne => (eqS a b).map (!·)
  | .lt => match a, b with
    | .int i, .int j => some (decide (i < j))
    | _, _ => none
  | .le => match a, b with
    | .int i, .int j => some (decide (i ≤ j))
    | _, _ => none
  | .gt => match a, b with
    | .int i, .int j => some (decide (j < i))
    | _, _ => none
  | .ge => match a, b with
    | .int i, .int j => some (decide (j ≤ i))
    | _, _ => none
  | .isN => match b with
    | .non => match a with
      | .non => some true
      | .fl _ => none
      | _ => some false
    | _ => none
  | .notN => match b with
    | .non => match a with
      | .non => some false
      | .fl _ => none
      | _ => some true
    | _ => none
  | .inn => inV a b st
  | .nin => (inV a b st).map (!·)
def ixV (a i : PV) (st : Store) : Option PV := match i with
  | .int k => match a with
    | .str z => if z.length ≤ sizeLine then (L2.atI z.cps.toList k).map fun c => .str ⟨#[c]⟩ else none
    | a => match seqOf a st with
      | some xs => L2.atI xs k
      | none => none
  | _ => none
/-- a slice's bound; absent: none is written -/
def bound (absent : Bool) (v : PV) : Option (Option Int) := match absent, v with
  | true, .non => some none
  | false, .int i => some (some i)
  | _, _ => none
def cutL (xs : List PV) (lo hi : Option Int) : List PV := (xs.drop (HT.sIx xs.length 0 lo)).take (HT.sIx xs.length xs.length hi - HT.sIx xs.length 0 lo)
def slV (a : PV) (lo hi : Option Int) (st : Store) : Option PV := match a with
  | .str z => if z.length ≤ sizeLine then some (.str (L2.cutS z lo hi)) else none
  | .tup xs => some (.tup (cutL xs lo hi))
  | a => match seqOf a st with
    | some xs => some (.fl (cutL xs lo hi))
    | none => none
def bools : List PV → Option (List Bool)
  | [] => some []
  | .bl b :: r => (bools r).map (b :: ·)
  | _ :: _ => none
def intsL : List PV → Option (List Int)
  | [] => some []
  | .int b :: r => (intsL r).map (b :: ·)
  | _ :: _ => none
def strsL : List PV → Option (List Str)
  | [] => some []
  | .str b :: r => (strsL r).map (b :: ·)
  | _ :: _ => none
def biV (f : BF) (as : List PV) (st : Store) : Option PV := match f, as with
  | .len, [.str z] => if z.length ≤ sizeLine then some (.int z.length) else none
  | .len, [a] => (seqOf a st).map fun xs => .int xs.length
  | .int, [.int i] => some (.int i)
  | .int, [.bl k] => some (.int (if k then 1 else 0))
  | .abs, [.int i] => some (.int (if i < 0 then -i else i))
  | .max, [.int i, .int j] => some (.int (if j > i then j else i))
  | .min, [.int i, .int j] => some (.int (if j < i then j else i))
  | .str, [.int i] => if i.natAbs < 1000000 then some (.str (toString i)) else none
  | .repr, [.bl b] => some (.str (if b then Str.ofString "True" else Str.ofString "False"))
  | .list, [a] => (seqOf a st).map fun xs => .fl xs
  | .tuple, [.tup xs] => some (.tup xs)
  | .tuple, [a] => (seqOf a st).map fun xs => .tup xs
  | .sum, [a] => match rdOf a st with
    | some xs => (intsL xs).map fun ns => .int ns.sum
    | none => none
  | .all, [a] => match rdOf a st with
    | some xs => (bools xs).map fun bs => .bl (bs.all id)
    | none => none
  | .any, [a] => match rdOf a st with
    | some xs => (bools xs).map fun bs => .bl (bs.any id)
    | none => none
  | _, _ => none
def setAt (st : Store) (n : Nat) (xs : List PV) : Store := st.set n (.lst xs)
/-- a method of a list or text: the answer, the store -/
def mtV (m : MF) (o : PV) (as : List PV) (st : Store) : Res PV := match m, o, as with
  | .append, .loc n, [x] => match st[n]? with
    | some (.lst xs) => if xs.length < sizeLine ∧ x.isFl = false then .ok .non (setAt st n (xs ++ [x])) else .bad
    | _ => .bad
  | .split, .str a, [.str b] => if b.length = 0 ∨ sizeLine < a.length + 2 then .bad else .ok (.fl ((Txt.split a b).map .str)) st
  | .partition, .str a, [.str b] => if b.length = 0 ∨ sizeLine < a.length then .bad else .ok (.tup [.str (Txt.partition a b).1, .str (Txt.partition a b).2.1, .str (Txt.partition a b).2.2]) st
  | .join, .str a, [x] => match seqOf x st with
    | some xs => match strsL xs with
      | some ys => if (ys.map (·.length)).sum + a.length * ys.length ≤ 16000000 then .ok (.str (Txt.join a ys)) st else .bad
      | none => .bad
    | none => .bad
  | _, _, _ => .bad
/-- a list that comes to be shared -/
def esc (v : PV) (st : Store) : PV × Store := match v with
  | .fl xs => (.loc st.length, st ++ [.lst xs])
  | v => (v, st)

/-! ### what a walk goes over -/
inductive Src where
  | items (xs : List PV)
  | live (n : Nat) (many : Nat)
def Src.many : Src → Nat
  | .items xs => xs.length
  | .live _ m => m
/-- the j-th item; the source must be as long as it was -/
def Src.get (s : Src) (j : Nat) (st : Store) : Option PV := match s with
  | .items xs => xs[j]?
  | .live n m => match seqOf (.loc n) st with
    | some xs => if xs.length = m then xs[j]? else none
    | none => none
def Src.fits (s : Src) (st : Store) : Bool := match s with
  | .items _ => true
  | .live n m => match seqOf (.loc n) st with
    | some xs => xs.length == m
    | none => false
def srcV (v : PV) (st : Store) : Option Src := match v with
  | .str s => some (.items (s.cps.toList.map fun c => .str ⟨#[c]⟩))
  | .tup xs => some (.items xs)
  | .fl xs => some (.items xs)
  | .rol xs => some (.items xs)
  | .loc n => (seqOf (.loc n) st).map fun xs => .live n xs.length
  | _ => none
def setEach : List Nat → List PV → En → Option En
  | [], [], env => some env
  | i :: is, x :: xs, env => setEach is xs (env.set i (some x))
  | _, _, _ => none
def MG.put (g : MG) (x : PV) (env : En) : Option En := match g with
  | .nm i => some (env.set i (some x))
  | .tp is => match x with
    | .tup xs => setEach is xs env
    | _ => none
def MG.slots : MG → List Nat
  | .nm i => [i]
  | .tp is => is
def wipe (env : En) : List Nat → En
  | [] => env
  | v :: vs => (wipe env vs).set v none

/-! ### expressions -/
section
variable (call : Nat → List PV → Store → Res PV)
/-- the comprehension's turns -/
def lcLoop (test : En → Store → Res Bool) (elt : En → Store → Res PV) (put : PV → En → Option En) (env : En) (src : Src) : Nat → Nat → List PV → Store → Res PV
  | _, 0, acc, st => if src.fits st then .ok (.fl acc) st else .bad
  | j, m + 1, acc, st => match src.get j st with
    | none => .bad
    | some x => match put x env with
      | none => .bad
      | some env' => (test env' st).bind fun b st1 =>
        if b then (elt env' st1).bind fun y st2 => if acc.length < sizeLine then lcLoop test elt put env src (j + 1) m (acc ++ [(esc y st2).1]) (esc y st2).2 else .bad
        else lcLoop test elt put env src (j + 1) m acc st1
def ME.absent : ME → Bool
  | .con .non => true
  | _ => false
/-- for a value, for an immediate use that keeps no list, for its truth -/
inductive Md where | val | use | test
def done (m : Md) (v : PV) (st : Store) : Res PV := match m with
  | .test => (opt (truth v st) st).bind fun k st1 => .ok (.bl k) st1
  | _ => .ok v st
def isBl : PV → Option Bool
  | .bl k => some k
  | _ => none
def rngV (x y : PV) (st : Store) : Res Src := match x, y with
  | .int i, .int j => if (-(2 ^ 62) ≤ i ∧ i < 2 ^ 62 ∧ -(2 ^ 62) ≤ j ∧ j < 2 ^ 62) then .ok (.items ((List.range (j - i).toNat).map fun (k : Nat) => .int (i + k))) st else .bad
  | _, _ => .bad
def varV (m : Md) (o : Option (Option PV)) (st : Store) : Res PV := match o with
  | some (some v) => match m with
    | .val => match v with
      | .fl _ => .bad
      | v => .ok v st
    | m => done m v st
  | _ => .bad
mutual
/-- the value; a list that comes is fresh, but of a name that is used -/
def ev : ME → Md → En → Store → Res PV
  | .var i, m, env, st => varV m env[i]? st
  | .con v, m, _, st => done m v st
  | .glb _ v, m, _, st => done m v st
  | .bin o a b, m, env, st => (ev a .use env st).bind fun x st1 => (ev b .use env st1).bind fun y st2 => (opt (binV o x y st2) st2).bind fun v st3 => done m v st3
  | .neg a, m, env, st => (ev a .val env st).bind fun x st1 => match x with
    | .int i => done m (.int (-i)) st1
    | _ => .bad
  | .cmp o a b, _, env, st => (ev a .use env st).bind fun x st1 => (ev b .use env st1).bind fun y st2 => (opt (cmpV o x y st2) st2).bind fun k st3 => .ok (.bl k) st3
  | .cmp2 o o' a b c, _, env, st => (ev a .use env st).bind fun x st1 => (ev b .use env st1).bind fun y st2 => (opt (cmpV o x y st2) st2).bind fun k st3 =>
      if k then (ev c .use env st3).bind fun z st4 => (opt (cmpV o' y z st4) st4).bind fun k' st5 => .ok (.bl k') st5 else .ok (.bl false) st3
  | .not a, m, env, st => match m with
    | .test => (ev a .test env st).bind fun x st1 => (opt (isBl x) st1).bind fun k st2 => .ok (.bl (!k)) st2
    | _ => (ev a .use env st).bind fun x st1 => (opt (truth x st1) st1).bind fun k st2 => .ok (.bl (!k)) st2
  | .and a b, m, env, st => (ev a m env st).bind fun x st1 => (opt (isBl x) st1).bind fun k st2 => if k then ev b m env st2 else .ok (.bl false) st2
  | .or a b, m, env, st => (ev a m env st).bind fun x st1 => (opt (isBl x) st1).bind fun k st2 => if k then .ok (.bl true) st2 else ev b m env st2
  | .ite _ _ _, .test, _, _ => .bad
  | .ite t a b, m, env, st => (ev t .test env st).bind fun x st1 => (opt (isBl x) st1).bind fun k st2 => if k then ev a m env st2 else ev b m env st2
  | .fn f as, m, env, st => (evA as env st).bind fun xs st1 => (call f xs st1).bind fun v st2 => done m v st2
  | .bi f as, m, env, st => (evCs as env st).bind fun xs st1 => (opt (biV f xs st1) st1).bind fun v st2 => done m v st2
  | .mt f o as, m, env, st => (ev o .use env st).bind fun x st1 => (evCs as env st1).bind fun xs st2 => (mtV f x xs st2).bind fun v st3 => done m v st3
  | .tup as, m, env, st => (evA as env st).bind fun xs st1 => if xs.length ≤ sizeLine then done m (.tup xs) st1 else .bad
  | .lst as, m, env, st => (evA as env st).bind fun xs st1 => if xs.length ≤ sizeLine then done m (.fl xs) st1 else .bad
  | .ix a i, m, env, st => (ev a .use env st).bind fun x st1 => (ev i .val env st1).bind fun y st2 => (opt (ixV x y st2) st2).bind fun v st3 => done m v st3
  | .sl a lo hi, m, env, st => (ev a .use env st).bind fun x st1 => (ev lo .val env st1).bind fun l st2 => (ev hi .val env st2).bind fun h st3 =>
      (opt (bound lo.absent l) st3).bind fun l' st4 => (opt (bound hi.absent h) st4).bind fun h' st5 => (opt (slV x l' h' st5) st5).bind fun v st6 => done m v st6
  | .lc elt g (.rng a b) has c, m, env, st => (ev a .val env st).bind fun x st1 => (ev b .val env st1).bind fun y st2 => (rngV x y st2).bind fun s st3 =>
      (lcLoop (fun e s => if has then (ev c .test e s).bind fun x s1 => opt (isBl x) s1 else .ok true s) (ev elt .val) g.put (wipe env g.slots) s 0 s.many [] st3).bind fun v st4 => done m v st4
  | .lc elt g src has c, m, env, st => (ev src .use env st).bind fun x st1 => (opt (srcV x st1) st1).bind fun s st3 =>
      (lcLoop (fun e s => if has then (ev c .test e s).bind fun x s1 => opt (isBl x) s1 else .ok true s) (ev elt .val) g.put (wipe env g.slots) s 0 s.many [] st3).bind fun v st4 => done m v st4
  | .rng _ _, _, _, _ => .bad
/-- arguments, items of a display: a list that comes is shared from then on -/
def evA : MEs → En → Store → Res (List PV)
  | .nil, _, st => .ok [] st
  | .cons a as, env, st => (ev a .val env st).bind fun x st1 => (evA as env (esc x st1).2).bind fun xs st2 => .ok ((esc x st1).1 :: xs) st2
/-- arguments of a built-in, which keeps none of them -/
def evCs : MEs → En → Store → Res (List PV)
  | .nil, _, st => .ok [] st
  | .cons a as, env, st => (ev a .use env st).bind fun x st1 => (evCs as env st1).bind fun xs st2 => .ok (x :: xs) st2
end
/-- what a for goes over -/
def evSrc : ME → En → Store → Res Src
  | .rng a b, env, st => (ev call a .val env st).bind fun x st1 => (ev call b .val env st1).bind fun y st2 => rngV x y st2
  | e, env, st => (ev call e .val env st).bind fun v st1 => opt (srcV v st1) st1

/-! ### statements -/
inductive SR where
  | nx (env : En) (st : Store)
  | rt (v : PV) (st : Store)
  | bk (env : En) (st : Store)
  | ct (env : En) (st : Store)
  | bad
def SR.then : SR → (En → Store → SR) → SR
  | .nx env st, f => f env st
  | r, _ => r
def Res.to {α : Type} : Res α → (α → Store → SR) → SR
  | .ok a st, f => f a st
  | .bad, _ => .bad
/-- a loop's turns -/
def forLoop (put : PV → En → Option En) (body : En → Store → SR) (src : Src) : Nat → Nat → En → Store → SR
  | _, 0, env, st => if src.fits st then .nx env st else .bad
  | j, m + 1, env, st => match src.get j st with
    | none => .bad
    | some x => match put x env with
      | none => .bad
      | some env' => match body env' st with
        | .nx e s => forLoop put body src (j + 1) m e s
        | .ct e s => forLoop put body src (j + 1) m e s
        | .bk e s => .nx e s
        | r => r
/-- at most so many turns of a while -/
def whlLoop (test : En → Store → Res PV) (body : En → Store → SR) : Nat → En → Store → SR
  | 0, _, _ => .bad
  | n + 1, env, st => (test env st).to fun x st1 => match isBl x with
    | some true => match body env st1 with
      | .nx e s => whlLoop test body n e s
      | .ct e s => whlLoop test body n e s
      | .bk e s => .nx e s
      | r => r
    | some false => .nx env st1
    | none => .bad
/-- a name that holds a list of its own -/
def ME.held : ME → En → Option (Nat × List PV)
  | .var i, env => match env[i]? with
    | some (some (.fl xs)) => some (i, xs)
    | _ => none
  | _, _ => none
variable (turns : Nat)
mutual
def evS : MS → En → Store → SR
  | .set i e own, env, st => (ev call e .val env st).to fun x st1 => if own then .nx (env.set i (some x)) st1 else .nx (env.set i (some (esc x st1).1)) (esc x st1).2
  | .setT is e, env, st => (ev call e .val env st).to fun x st1 => match x with
    | .tup xs => match setEach is xs env with
      | some env' => .nx env' st1
      | none => .bad
    | _ => .bad
  | .setIx a i e, env, st => (ev call e .val env st).to fun v st1 => (ev call a .val env st1).to fun o st2 => (ev call i .val env st2).to fun k st3 =>
      match o, k with
      | .loc n, .int k => match st3[n]? with
        | some (.lst xs) => match L2.ixN xs.length k with
          | some j => if v.isFl then .bad else .nx env (setAt st3 n (xs.set j v))
          | none => .bad
        | _ => .bad
      | _, _ => .bad
  | .aug i o e, env, st => match env[i]? with
    | some (some (.int x)) => (ev call e .val env st).to fun y st1 => match y with
      | .int z => match o with
        | .add => .nx (env.set i (some (.int (x + z)))) st1
        | .sub => .nx (env.set i (some (.int (x - z)))) st1
        | _ => .bad
      | _ => .bad
    | _ => .bad
  | .ex e, env, st => (ev call e .val env st).to fun _ st1 => .nx env st1
  | .app i e, env, st => (ev call e .val env st).to fun x st1 => match env[i]? with
    | some (some (.fl xs)) => if xs.length < sizeLine then .nx (env.set i (some (.fl (xs ++ [(esc x st1).1])))) (esc x st1).2 else .bad
    | _ => .bad
  | .ret e, env, st => match e.held env with
    | some (_, xs) => .rt (.fl xs) st
    | none => (ev call e .val env st).to fun x st1 => .rt x st1
  | .ret0, _, st => .rt .non st
  | .ite t a b, env, st => (ev call t .test env st).to fun x st1 => match isBl x with
    | some true => evSs a env st1
    | some false => evSs b env st1
    | none => .bad
  | .whl t b, env, st => whlLoop (ev call t .test) (evSs b) turns env st
  | .for_ g src b, env, st => (evSrc call src env st).to fun s st1 => forLoop g.put (evSs b) s 0 s.many env st1
  | .brk, env, st => .bk env st
  | .cnt, env, st => .ct env st
  | .pass, env, st => .nx env st
def evSs : MSs → En → Store → SR
  | .nil, env, st => .nx env st
  | .cons s ss, env, st => (evS s env st).then fun env1 st1 => evSs ss env1 st1
end
end

mutual
def PV.same : PV → PV → Bool
  | .non, .non => true
  | .bl a, .bl b => a == b
  | .int a, .int b => decide (a = b)
  | .str a, .str b => decide (a = b)
  | .tup a, .tup b => PV.sameL a b
  | _, _ => false
def PV.sameL : List PV → List PV → Bool
  | [], [] => true
  | x :: xs, y :: ys => PV.same x y && PV.sameL xs ys
  | _, _ => false
end
/-! ### a program -/
mutual
/-- no list in it stands at a place of the store from n on -/
def PV.low (n : Nat) : PV → Bool
  | .tup xs => PV.lowL n xs
  | .fl xs => PV.lowL n xs
  | .rol xs => PV.lowL n xs
  | .loc k => decide (k < n)
  | _ => true
def PV.lowL (n : Nat) : List PV → Bool
  | [] => true
  | x :: xs => PV.low n x && PV.lowL n xs
end
def Cell.low (n : Nat) : Cell → Bool
  | .lst xs => PV.lowL n xs
structure Def where
  np : Nat
  nl : Nat
  body : MSs
/-- behind a call: what nothing can reach any more is forgotten -/
def leave (n : Nat) (v : PV) (st : Store) : Res PV :=
  if st.length ≤ n then .ok v st
  else if PV.low n v && (st.take n).all (Cell.low n) then .ok v (st.take n) else .ok v st
def evCall (turns : Nat) (D : Nat → Option Def) : Nat → Nat → List PV → Store → Res PV
  | 0, _, _, _ => .bad
  | k + 1, f, args, st => match D f with
    | none => .bad
    | some d => if args.length = d.np ∧ (args.any PV.isFl) = false then
        match evSs (evCall turns D k) turns d.body (args.map some ++ List.replicate (d.nl - d.np) none) st with
        | .nx _ s => leave st.length .non s
        | .rt v s => leave st.length v s
        | _ => .bad
      else .bad
end U

set_option maxHeartbeats 4000000
/-! U2: how the store's data stand in the heap. -/
namespace U
open PySem PySem.Spec PyProof.Rows L2

section
variable (K : PySem.W.Frag)
/-- what is only read: the script, a written list -/
def Kl (H : Hp) (a : Addr) (vs : List V) : Prop :=
  (∃ o, H a = some (.frz o (.lst vs))) ∨
    ∃ (o : Obj) (its : Array Value) (n : Nat), K.lookup a = some o ∧ o.cls = .type "list" ∧ o.dict = none ∧ o.data = .seq its n ∧ its.size ≤ sizeLine ∧ Vals vs its.toList
mutual
inductive RV (μ : Nat → Addr) (L : Nat) (H : Hp) : PV → V → Prop
  | non : RV μ L H .non .non
  | bl (b : Bool) : RV μ L H (.bl b) (.bl b)
  | int (i : Int) : RV μ L H (.int i) (.int i)
  | str (s : Str) : RV μ L H (.str s) (.str s)
  | tup {xs : List PV} {a : Addr} {vs : List V} (h : SqT K H a vs) (r : RVs μ L H xs vs) : RV μ L H (.tup xs) (.ref a)
  | loc {n : Nat} (h : n < L) : RV μ L H (.loc n) (.ref (μ n))
  | fl {xs : List PV} {a : Addr} {vs : List V} (h : H a = some (.lst vs)) (n : ∀ n, n < L → μ n ≠ a) (r : RVs μ L H xs vs) : RV μ L H (.fl xs) (.ref a)
  | rol {xs : List PV} {a : Addr} {vs : List V} (h : Kl K H a vs) (r : RVs μ L H xs vs) : RV μ L H (.rol xs) (.ref a)
inductive RVs (μ : Nat → Addr) (L : Nat) (H : Hp) : List PV → List V → Prop
  | nil : RVs μ L H [] []
  | cons {x : PV} {v : V} {xs : List PV} {vs : List V} (f : x.isFl = false) (h : RV μ L H x v) (r : RVs μ L H xs vs) : RVs μ L H (x :: xs) (v :: vs)
end
/-- the store stands in the heap -/
structure Ok (μ : Nat → Addr) (st : Store) (H : Hp) : Prop where
  inj : ∀ n m, n < st.length → m < st.length → μ n = μ m → n = m
  cell : ∀ n xs, st[n]? = some (.lst xs) → ∃ vs, H (μ n) = some (.lst vs) ∧ RVs K μ st.length H xs vs
end
/-- from one state to a later one; what stands at S may have been changed besides the store -/
structure StX (S : Addr → Prop) (μ : Nat → Addr) (L : Nat) (H : Hp) (μ' : Nat → Addr) (L' : Nat) (H' : Hp) : Prop where
  le : L ≤ L'
  ext : ∀ n, n < L → μ' n = μ n
  keep : ∀ b o, H b = some o → (∀ n, n < L → μ n ≠ b) → ¬ S b → H' b = some o
  tup : ∀ b xs, H b = some (.tup xs) → H' b = some (.tup xs)
  frz : ∀ b o u, H b = some (.frz o u) → H' b = some (.frz o u)
  there : ∀ b, H' b = none → H b = none
  new : ∀ n, L ≤ n → n < L' → H (μ' n) = none
abbrev NoS : Addr → Prop := fun _ => False
abbrev Stp := StX NoS

section
variable {K : PySem.W.Frag} {μ μ1 μ2 : Nat → Addr} {L L1 L2 : Nat} {H H1 H2 : Hp} {S S1 : Addr → Prop}
theorem StX.refl : StX S μ L H μ L H := ⟨Nat.le_refl _, fun _ _ => rfl, fun _ _ h _ _ => h, fun _ _ h => h, fun _ _ _ h => h, fun _ h => h, fun n h1 h2 => absurd h2 (by omega)⟩
theorem StX.some (s : StX S μ L H μ1 L1 H1) {b : Addr} {o : HO} (h : H b = some o) : ∃ o', H1 b = Option.some o' := by
  cases q : H1 b with
  | none => rw [s.there b q] at h; cases h
  | some o' => exact ⟨o', rfl⟩
theorem StX.trans (s : StX S μ L H μ1 L1 H1) (t : StX S1 μ1 L1 H1 μ2 L2 H2) (hs : ∀ b, S1 b → S b ∨ H b = none) : StX S μ L H μ2 L2 H2 := by
  refine ⟨Nat.le_trans s.le t.le, fun n h => (t.ext n (Nat.lt_of_lt_of_le h s.le)).trans (s.ext n h), fun b o h n hS => ?_, fun b xs h => t.tup b xs (s.tup b xs h), fun b o u h => t.frz b o u (s.frz b o u h), fun b h => s.there b (t.there b h), fun n h1 h2 => ?_⟩
  · refine t.keep b o (s.keep b o h n hS) (fun k hk e => ?_) fun z => ?_
    · by_cases hl : k < L
      · exact n k hl ((s.ext k hl).symm.trans e)
      · have := s.new k (by omega) hk
        rw [e, h] at this
        cases this
    · rcases hs b z with z | z
      · exact hS z
      · rw [h] at z; cases z
  · by_cases hl : n < L1
    · have := s.new n h1 hl
      rw [t.ext n hl]
      exact this
    · exact s.there _ (t.new n (by omega) h2)
theorem Stp.trans (s : Stp μ L H μ1 L1 H1) (t : Stp μ1 L1 H1 μ2 L2 H2) : Stp μ L H μ2 L2 H2 := StX.trans s t fun _ h => h.elim
theorem StX.weak (s : StX S μ L H μ1 L1 H1) (hs : ∀ b, S b → S1 b) : StX S1 μ L H μ1 L1 H1 := ⟨s.le, s.ext, fun b o h n hS => s.keep b o h n fun z => hS (hs b z), s.tup, s.frz, s.there, s.new⟩
theorem Stp.wide (s : Stp μ L H μ1 L1 H1) : StX S μ L H μ1 L1 H1 := StX.weak s fun _ h => h.elim

theorem StX.sqT (s : StX S μ L H μ1 L1 H1) {a : Addr} {vs : List V} (h : SqT K H a vs) : SqT K H1 a vs := by
  rcases h with (h | ⟨o, h⟩) | h
  · exact .inl (.inl (s.tup _ _ h))
  · exact .inl (.inr ⟨o, s.frz _ _ _ h⟩)
  · exact .inr h
theorem StX.kl (s : StX S μ L H μ1 L1 H1) {a : Addr} {vs : List V} (h : Kl K H a vs) : Kl K H1 a vs := by
  rcases h with ⟨o, h⟩ | h
  · exact .inl ⟨o, s.frz _ _ _ h⟩
  · exact .inr h
theorem Kl.sq {a : Addr} {vs : List V} (h : Kl K H a vs) : SqL K H a vs := by
  rcases h with ⟨o, h⟩ | h
  · exact .inl (.inr ⟨o, h⟩)
  · exact .inr h

theorem RVs.len {xs : List PV} {vs : List V} : RVs K μ L H xs vs → xs.length = vs.length
  | .nil => rfl
  | .cons _ _ r => congrArg (· + 1) (RVs.len r)
theorem RVs.get : ∀ {xs : List PV} {vs : List V} {i : Nat} {x : PV}, RVs K μ L H xs vs → xs[i]? = some x → ∃ v, vs[i]? = some v ∧ RV K μ L H x v ∧ x.isFl = false
  | _, _, _, _, .nil, e => by simp at e
  | _, _, 0, _, .cons f h r, e => by
    simp only [List.getElem?_cons_zero, Option.some.injEq] at e
    subst e
    exact ⟨_, rfl, h, f⟩
  | _, _, i + 1, _, .cons f h r, e => by
    obtain ⟨v, h1, h2⟩ := RVs.get (i := i) r (by simpa using e)
    exact ⟨v, by simpa using h1, h2⟩
theorem RVs.app {xs ys : List PV} {vs ws : List V} : RVs K μ L H xs vs → RVs K μ L H ys ws → RVs K μ L H (xs ++ ys) (vs ++ ws)
  | .nil, s => s
  | .cons f h r, s => .cons f h (RVs.app r s)
theorem RVs.set {x : PV} {v : V} (f : x.isFl = false) (q : RV K μ L H x v) : ∀ {xs : List PV} {vs : List V} (i : Nat), RVs K μ L H xs vs → RVs K μ L H (xs.set i x) (vs.set i v)
  | _, _, _, .nil => .nil
  | _, _, 0, .cons _ _ r => .cons f q r
  | _, _, i + 1, .cons f' h r => .cons f' h (RVs.set f q i r)
theorem RVs.take : ∀ {xs : List PV} {vs : List V} (n : Nat), RVs K μ L H xs vs → RVs K μ L H (xs.take n) (vs.take n)
  | _, _, 0, _ => .nil
  | _, _, _ + 1, .nil => .nil
  | _, _, n + 1, .cons f h r => .cons f h (RVs.take n r)
theorem RVs.drop : ∀ {xs : List PV} {vs : List V} (n : Nat), RVs K μ L H xs vs → RVs K μ L H (xs.drop n) (vs.drop n)
  | _, _, 0, r => r
  | _, _, _ + 1, .nil => .nil
  | _, _, n + 1, .cons _ _ r => RVs.drop n r
theorem RVs.one {x : PV} {v : V} (f : x.isFl = false) (q : RV K μ L H x v) : RVs K μ L H [x] [v] := .cons f q .nil

/-- an own list stands off S -/
def Off (S : Addr → Prop) : PV → V → Prop
  | .fl _, .ref a => ¬ S a
  | _, _ => True
mutual
theorem RV.mono (s : StX S μ L H μ1 L1 H1) : ∀ {x : PV} {v : V}, Off S x v → RV K μ L H x v → RV K μ1 L1 H1 x v
  | _, _, _, .non => .non
  | _, _, _, .bl b => .bl b
  | _, _, _, .int i => .int i
  | _, _, _, .str z => .str z
  | _, _, _, .tup h r => .tup (StX.sqT s h) (RVs.mono s r)
  | _, _, _, .loc (n := n) h => by
    have e := s.ext n h
    rw [← e]
    exact .loc (Nat.lt_of_lt_of_le h s.le)
  | .fl _, .ref a, o, .fl h n r => by
    refine .fl (s.keep _ _ h n o) (fun k hk e => ?_) (RVs.mono s r)
    by_cases hl : k < L
    · exact n k hl ((s.ext k hl).symm.trans e)
    · have := s.new k (by omega) hk
      rw [e, h] at this
      cases this
  | _, _, _, .rol h r => .rol (StX.kl s h) (RVs.mono s r)
theorem RVs.mono (s : StX S μ L H μ1 L1 H1) : ∀ {xs : List PV} {vs : List V}, RVs K μ L H xs vs → RVs K μ1 L1 H1 xs vs
  | _, _, .nil => .nil
  | _, _, .cons (x := x) f h r => .cons f (RV.mono s (by cases x <;> first | trivial | cases f) h) (RVs.mono s r)
end
theorem off_no {x : PV} {v : V} : Off NoS x v := by
  unfold Off
  split <;> simp
theorem RV.mono0 (s : Stp μ L H μ1 L1 H1) {x : PV} {v : V} (h : RV K μ L H x v) : RV K μ1 L1 H1 x v := RV.mono s off_no h

/-- a list of the store is written -/
theorem Ok.write {st : Store} {n : Nat} {ys : List PV} {ws : List V} (o : Ok K μ st H) (hn : n < st.length) (r : RVs K μ st.length H ys ws) :
    Stp μ st.length H μ (setAt st n ys).length (upd H (μ n) (.lst ws)) ∧ Ok K μ (setAt st n ys) (upd H (μ n) (.lst ws)) := by
  have hl : (setAt st n ys).length = st.length := by simp [setAt]
  obtain ⟨xs, hx⟩ : ∃ xs, st[n]? = some (.lst xs) := by
    rw [List.getElem?_eq_getElem hn]
    cases st[n] with
    | lst xs => exact ⟨xs, rfl⟩
  obtain ⟨vs, hv, _⟩ := o.cell n xs hx
  have s : Stp μ st.length H μ (setAt st n ys).length (upd H (μ n) (.lst ws)) := by
    rw [hl]
    refine ⟨Nat.le_refl _, fun _ _ => rfl, fun b u h k _ => ?_, fun b zs h => ?_, fun b u z h => ?_, fun b h => ?_, fun k h1 h2 => absurd h2 (by omega)⟩
    · rw [upd_ne (fun e => k n hn e.symm)]; exact h
    · rw [upd_ne (fun e => by rw [e, hv] at h; cases h)]; exact h
    · rw [upd_ne (fun e => by rw [e, hv] at h; cases h)]; exact h
    · by_cases e : b = μ n
      · rw [e, upd_same] at h; cases h
      · rw [upd_ne e] at h; exact h
  refine ⟨s, ⟨fun a b ha hb e => o.inj a b (by omega) (by omega) e, fun k zs hk => ?_⟩⟩
  by_cases e : k = n
  · subst e
    have e2 : zs = ys := by
      have hk' : some (Cell.lst ys) = some (.lst zs) := by
        rw [← hk]
        simp [setAt, hn]
      cases hk'; rfl
    subst e2
    exact ⟨ws, upd_same, RVs.mono s r⟩
  · have hk' : st[k]? = some (.lst zs) := by
      rw [← hk]
      simp [setAt, List.getElem?_set_ne (Ne.symm e)]
    obtain ⟨us, h1, h2⟩ := o.cell k zs hk'
    have hkl : k < st.length := (List.getElem?_eq_some_iff.mp hk').1
    refine ⟨us, ?_, RVs.mono s h2⟩
    rw [upd_ne (fun z => e (o.inj k n hkl hn z))]
    exact h1
/-- a new object is laid -/
theorem Stp.laid {p : Addr} {u : HO} (h : H p = none) : Stp μ L H μ L (upd H p u) := by
  refine ⟨Nat.le_refl _, fun _ _ => rfl, fun b o hb _ _ => ?_, fun b o hb => ?_, fun b o z hb => ?_, fun b hb => ?_, fun n h1 h2 => absurd h2 (by omega)⟩
  · rw [upd_ne (ne_of_none hb h)]; exact hb
  · rw [upd_ne (ne_of_none hb h)]; exact hb
  · rw [upd_ne (ne_of_none hb h)]; exact hb
  · by_cases e : b = p
    · rw [e, upd_same] at hb; cases hb
    · rw [upd_ne e] at hb; exact hb
theorem Ok.stp {st : Store} (o : Ok K μ st H) (s : Stp μ st.length H μ st.length H1) (k : ∀ n, n < st.length → ∀ u, H (μ n) = some u → H1 (μ n) = some u) : Ok K μ st H1 :=
  ⟨o.inj, fun n xs h => by
    obtain ⟨vs, h1, h2⟩ := o.cell n xs h
    exact ⟨vs, k n (List.getElem?_eq_some_iff.mp h).1 _ h1, RVs.mono s h2⟩⟩
theorem Ok.laid {st : Store} {p : Addr} {u : HO} (o : Ok K μ st H) (h : H p = none) : Ok K μ st (upd H p u) :=
  o.stp (Stp.laid h) fun n _ u hu => by rw [upd_ne (ne_of_none hu h)]; exact hu
theorem Ok.apart {st : Store} {p : Addr} (o : Ok K μ st H) (h : H p = none) : ∀ n, n < st.length → μ n ≠ p := fun n hn e => by
  have : ∃ xs, st[n]? = some (.lst xs) := by
    rw [List.getElem?_eq_getElem hn]
    cases st[n] with
    | lst xs => exact ⟨xs, rfl⟩
  obtain ⟨xs, hx⟩ := this
  obtain ⟨vs, h1, _⟩ := o.cell n xs hx
  rw [e, h] at h1
  cases h1
mutual
/-- one place more -/
theorem RV.grow {a : Addr} : ∀ {x : PV} {v : V}, x.isFl = false → RV K μ L H x v → RV K (fun k => if k = L then a else μ k) (L + 1) H x v
  | _, _, _, .non => .non
  | _, _, _, .bl b => .bl b
  | _, _, _, .int i => .int i
  | _, _, _, .str z => .str z
  | _, _, _, .tup h r => .tup h (RVs.grow r a)
  | _, _, _, .loc (n := n) h => by
    have : RV K (fun k => if k = L then a else μ k) (L + 1) H (.loc n) (.ref ((fun k => if k = L then a else μ k) n)) := .loc (by omega)
    have e : (fun k => if k = L then a else μ k) n = μ n := if_neg (by omega)
    rw [e] at this
    exact this
  | _, _, f, .fl _ _ _ => by cases f
  | _, _, _, .rol h r => .rol h (RVs.grow r a)
theorem RVs.grow : ∀ {xs : List PV} {vs : List V}, RVs K μ L H xs vs → ∀ a : Addr, RVs K (fun k => if k = L then a else μ k) (L + 1) H xs vs
  | _, _, .nil, _ => .nil
  | _, _, .cons f h r, a => .cons f (RV.grow f h) (RVs.grow r a)
end
/-- fresh behind H -/
def Fr (H : Hp) : PV → V → Prop
  | .fl _, .ref a => H a = none
  | _, _ => True
theorem Fr.back {x : PV} {v : V} (s : StX S μ L H μ1 L1 H1) (f : Fr H1 x v) : Fr H x v := by
  unfold Fr at f ⊢
  split <;> simp_all
  exact s.there _ f
theorem fr_of {x : PV} {v : V} (h : x.isFl = false) : Fr H x v := by
  cases x <;> first | trivial | cases h
/-- a fresh list comes to be shared -/
theorem Ok.esc {μ0 : Nat → Addr} {L0 : Nat} {H0 : Hp} {st : Store} {x : PV} {v : V} (s : Stp μ0 L0 H0 μ st.length H) (o : Ok K μ st H) (r : RV K μ st.length H x v) (f : Fr H0 x v) :
    ∃ μ', Stp μ0 L0 H0 μ' (esc x st).2.length H ∧ Ok K μ' (esc x st).2 H ∧ RV K μ' (esc x st).2.length H (esc x st).1 v ∧ (esc x st).1.isFl = false ∧ (∀ n, n < st.length → μ' n = μ n) := by
  cases x with
  | fl xs =>
    cases r with
    | fl h n r =>
      rename_i a vs
      have f : H0 a = none := f
      have el : (U.esc (PV.fl xs) st).2.length = st.length + 1 := by simp [U.esc]
      refine ⟨fun k => if k = st.length then a else μ k, ?_, ?_, ?_, rfl, fun k hk => if_neg (by omega)⟩
      · rw [el]
        refine ⟨by have := s.le; omega, fun k hk => ?_, s.keep, s.tup, s.frz, s.there, fun k h1 h2 => ?_⟩
        · show (if k = st.length then a else μ k) = μ0 k
          rw [if_neg (by have := s.le; omega)]
          exact s.ext k hk
        · show H0 (if k = st.length then a else μ k) = none
          by_cases e : k = st.length
          · rw [if_pos e]; exact f
          · rw [if_neg e]; exact s.new k h1 (by omega)
      · have grow : ∀ {zs : List PV} {us : List V}, RVs K μ st.length H zs us → RVs K (fun k => if k = st.length then a else μ k) (st.length + 1) H zs us := by
          have go : ∀ (m : Nat), True := fun _ => trivial
          intro zs us q
          exact RVs.grow q a
        refine ⟨fun k m hk hm e => ?_, fun k zs hk => ?_⟩
        · rw [el] at hk hm
          have e : (if k = st.length then a else μ k) = (if m = st.length then a else μ m) := e
          by_cases h1 : k = st.length
          · by_cases h2 : m = st.length
            · omega
            · rw [if_pos h1, if_neg h2] at e
              exact absurd e.symm (n m (by omega))
          · by_cases h2 : m = st.length
            · rw [if_neg h1, if_pos h2] at e
              exact absurd e (n k (by omega))
            · rw [if_neg h1, if_neg h2] at e
              exact o.inj k m (by omega) (by omega) e
        · rw [el]
          have hk : (st ++ [Cell.lst xs])[k]? = some (.lst zs) := hk
          by_cases h1 : k = st.length
          · subst h1
            have e : xs = zs := by simpa using hk
            subst e
            exact ⟨vs, by simpa using h, grow r⟩
          · have hk2 : st[k]? = some (.lst zs) := by
              by_cases h2 : k < st.length
              · rw [List.getElem?_append_left h2] at hk; exact hk
              · rw [List.getElem?_eq_none (by simp; omega)] at hk; cases hk
            obtain ⟨us, h2, h3⟩ := o.cell k zs hk2
            exact ⟨us, by simpa [h1] using h2, grow h3⟩
      · rw [el]
        have : RV K (fun k => if k = st.length then a else μ k) (st.length + 1) H (.loc st.length) (.ref ((fun k => if k = st.length then a else μ k) st.length)) := .loc (by omega)
        have e : (fun k => if k = List.length st then a else μ k) (List.length st) = a := if_pos rfl
        rw [e] at this
        exact this
  | _ => exact ⟨μ, s, o, r, rfl, fun _ _ => rfl⟩
end
end U

set_option maxHeartbeats 4000000
/-! U3: the operations, from the store's data to the heap's. -/
namespace U
open PySem PySem.Spec PyProof.Rows L2

section
variable {K : PySem.W.Frag} {μ : Nat → Addr} {st : Store} {H : Hp}
/-- what is wanted behind an operation that leaves the store -/
def Go (K : PySem.W.Frag) (μ : Nat → Addr) (st : Store) (H : Hp) (v : PV) (Q : VK) : Prop :=
  ∀ H' v', Stp μ st.length H μ st.length H' → Ok K μ st H' → RV K μ st.length H' v v' → Fr H v v' → Q v' H'
theorem Go.same {v : PV} {v' : V} {Q : VK} (g : Go K μ st H v Q) (o : Ok K μ st H) (r : RV K μ st.length H v v') (f : v.isFl = false) : Q v' H := g H v' StX.refl o r (fr_of f)
theorem Go.lst {xs : List PV} {vs : List V} {Q : VK} (g : Go K μ st H (.fl xs) Q) (o : Ok K μ st H) (r : RVs K μ st.length H xs vs) : ∀ p, H p = none → Q (.ref p) (upd H p (.lst vs)) := fun p hp =>
  g _ _ (Stp.laid hp) (o.laid hp) (.fl upd_same (o.apart hp) (RVs.mono (Stp.laid hp) r)) hp
theorem Go.tup {xs : List PV} {vs : List V} {Q : VK} (g : Go K μ st H (.tup xs) Q) (o : Ok K μ st H) (r : RVs K μ st.length H xs vs) : ∀ p, H p = none → Q (.ref p) (upd H p (.tup vs)) := fun p hp =>
  g _ _ (Stp.laid hp) (o.laid hp) (.tup (SqT.of upd_same) (RVs.mono (Stp.laid hp) r)) trivial

theorem list_at {x : PV} {x' : V} {xs : List PV} (o : Ok K μ st H) (r : RV K μ st.length H x x') (h : listOf x st = some xs) : ∃ a vs, x' = .ref a ∧ H a = some (.lst vs) ∧ RVs K μ st.length H xs vs := by
  cases r with
  | fl h1 n r1 =>
    cases h
    exact ⟨_, _, rfl, h1, r1⟩
  | loc hn =>
    rename_i n
    unfold listOf at h
    cases q : st[n]? with
    | none => simp only [q] at h; cases h
    | some c =>
      cases c with
      | lst ys =>
        simp only [q] at h
        cases h
        obtain ⟨vs, h1, h2⟩ := o.cell n _ q
        exact ⟨_, _, rfl, h1, h2⟩
  | _ => cases h
theorem seq_at {x : PV} {x' : V} {xs : List PV} (o : Ok K μ st H) (r : RV K μ st.length H x x') (h : seqOf x st = some xs) : ∃ a vs, x' = .ref a ∧ (SqL K H a vs ∨ SqT K H a vs) ∧ RVs K μ st.length H xs vs := by
  cases r with
  | tup h1 r1 => cases h; exact ⟨_, _, rfl, .inr h1, r1⟩
  | rol h1 r1 => cases h; exact ⟨_, _, rfl, .inl h1.sq, r1⟩
  | fl h1 n r1 => cases h; exact ⟨_, _, rfl, .inl (SqL.of h1), r1⟩
  | loc hn =>
    rename_i n
    unfold seqOf at h
    cases q : st[n]? with
    | none => simp only [q] at h; cases h
    | some c =>
      cases c with
      | lst ys =>
        simp only [q] at h
        cases h
        obtain ⟨vs, h1, h2⟩ := o.cell n _ q
        exact ⟨_, _, rfl, .inl (SqL.of h1), h2⟩
  | _ => cases h
theorem RVs.nil_iff {L : Nat} {xs : List PV} {vs : List V} (r : RVs K μ L H xs vs) : xs.isEmpty = vs.isEmpty := by cases r <;> rfl

variable {X : Cx} {σ : L2.St} {pins : List (Addr × Obj)}
theorem OpR.imp {f : Value → Value → Sem Value} {r r' : R2} (h : OpR X f r) (i : ∀ x y H Q, r' x y H Q → r x y H Q) : OpR X f r' := fun pins s σ H x y v u Q I rx ry q => h pins s σ H x y v u Q I rx ry (i _ _ _ _ q)
theorem CallR.imp {f : Value} {r r' : List V → Hp → VK → Prop} (h : CallR X f r) (i : ∀ xs H Q, r' xs H Q → r xs H Q) : CallR X f r' := fun pins s σ H xs us Q I rx q => h pins s σ H xs us Q I rx (i _ _ _ q)
theorem MtR.imp {id : String} {r r' : V → List V → Hp → VK → Prop} (h : MtR X id r) (i : ∀ x xs H Q, r' x xs H Q → r x xs H Q) : MtR X id r' := fun pins s σ H x xs v us Q I rx rs q => h pins s σ H x xs v us Q I rx rs (i _ _ _ _ q)
theorem IxR.imp {r r' : R2} (h : IxR X r) (i : ∀ x y H Q, r' x y H Q → r x y H Q) : IxR X r' := fun a b pins s σ H x y v u Q I rx ry q hs => h a b pins s σ H x y v u Q I rx ry (i _ _ _ _ q) hs
theorem SlR.imp {r r' : V → Option Int → Option Int → Hp → VK → Prop} (h : SlR X r) (i : ∀ x l u H Q, r' x l u H Q → r x l u H Q) : SlR X r' := fun pins s σ H x v vl vu lo hi sl Q I rx hs pl pu q => h pins s σ H x v vl vu lo hi sl Q I rx hs pl pu (i _ _ _ _ _ q)

/-- the reading of an operation on values -/
def rO (K : PySem.W.Frag) (f : PV → PV → Store → Option PV) : R2 := fun x' y' H Q => ∃ μ st x y v, Ok K μ st H ∧ RV K μ st.length H x x' ∧ RV K μ st.length H y y' ∧ f x y st = some v ∧ Go K μ st H v Q

/-- text * int -/
def rMulS : R2 := fun x y H Q => ∃ z j, x = .str z ∧ y = .int j ∧ -1000000 ≤ j ∧ j ≤ 1000000 ∧ z.length * j.toNat ≤ 1000000 ∧ Q (.str ⟨((List.replicate j.toNat z.cps.toList).flatten).toArray⟩) H
theorem fold_cps (a : Array Nat) : ∀ (n : Nat) (acc : Array Nat), (List.replicate n a).foldl (· ++ ·) acc = acc ++ ((List.replicate n a.toList).flatten).toArray
  | 0, acc => by simp
  | n + 1, acc => by
    rw [List.replicate_succ, List.foldl_cons, fold_cps a n, List.replicate_succ, List.flatten_cons]
    apply Array.toList_inj.mp
    simp
theorem op_mulS : OpR X (binaryOp .Mult) rMulS := by
  intro pins s σ H x y v u Q I rx ry h
  obtain ⟨z, j, rfl, rfl, h1, h2, hz, q⟩ := h
  obtain ⟨t, rfl⟩ := rx
  obtain ⟨t', rfl⟩ := ry
  have sl := sizeLine_eq
  refine P.mul_str ?_ (fun n1 n2 => ?_) (fun n1 n2 => ?_) ?_
  · rw [decide_eq_false (by omega), decide_eq_false (by omega)]; rfl
  · have n3 : 1 ≤ j := by omega
    intro c
    have hm : ((z.length * j.toNat : Nat) : Int) ≤ 1000000 := Int.ofNat_le.mpr hz
    have e : ((z.length * j.toNat : Nat) : Int) = (z.length : Int) * j := by
      rw [Int.natCast_mul, Int.toNat_of_nonneg (by omega)]
    rw [e] at hm
    have := (Int.le_ediv_iff_mul_le (by omega : 0 < j)).mpr (show (z.length : Int) * j ≤ 2 ^ 63 - 1 by omega)
    omega
  · show decide (z.length * j.toNat > sizeLine) = false
    exact decide_eq_false (by omega)
  · by_cases n1 : j < 1
    · rw [if_pos n1]
      refine ⟨by decide, .str _, H, I.tok _, ⟨_, rfl⟩, ?_⟩
      have e : j.toNat = 0 := by omega
      rw [e] at q
      exact q
    · rw [if_neg n1]
      by_cases n2 : (j == 1 || z.length == 0) = true
      · rw [if_pos n2]
        refine ⟨.str z, H, I, ⟨_, rfl⟩, ?_⟩
        have e : (⟨((List.replicate j.toNat z.cps.toList).flatten).toArray⟩ : Str) = z := by
          refine TL.ext_tl ?_
          show ((List.replicate j.toNat z.cps.toList).flatten) = z.cps.toList
          rcases (by simpa using n2 : j = 1 ∨ z.length = 0) with e | e
          · subst e
            simp
          · have e2 : z.cps.toList = [] := by
              have h0 := TL.len_tl z
              exact List.length_eq_zero_iff.mp (h0.symm.trans e)
            show _ = z.cps.toList
            rw [e2]
            simp
        rw [e] at q
        exact q
      · rw [if_neg n2]
        have e : ((List.replicate j.toNat z.cps).foldl (· ++ ·) #[]) = ((List.replicate j.toNat z.cps.toList).flatten).toArray := by
          rw [fold_cps]; simp
        refine ⟨?_, .str _, H, I.tok _, ⟨_, rfl⟩, ?_⟩
        · rw [e]
          show ((List.replicate j.toNat z.cps.toList).flatten).toArray.size ≤ sizeLine
          have : ((List.replicate j.toNat z.cps.toList).flatten).length = j.toNat * z.length := by
            rw [List.length_flatten, List.map_replicate, List.sum_replicate_nat]
            rfl
          rw [List.size_toArray, this, Nat.mul_comm]
          omega
        · rw [e]; exact q
def bop : BOp → Operator
  | .add => .Add | .sub => .Sub | .mul => .Mult | .fdiv => .FloorDiv | .mod => .Mod | .pow => .Pow
theorem op_bin (o : BOp) : OpR X (binaryOp (bop o)) (rO X.K (binV o)) := by
  cases o with
  | add =>
    refine OpR.imp (op_add.or (op_add_str.or (op_catA.or op_cat))) fun x y H Q ⟨μ, st, a, b, v, o, ra, rb, e, g⟩ => ?_
    unfold binV at e
    split at e
    case _ _ _ _ i j h1 => cases ra; cases rb; cases e; exact .inl ⟨i, j, rfl, rfl, g.same o (.int _) rfl⟩
    case _ _ _ _ i j h1 =>
      cases ra; cases rb
      split at e
      · rename_i hz
        cases e
        exact .inr (.inl ⟨i, j, rfl, rfl, hz, g.same o (.str _) rfl⟩)
      · cases e
    case _ xs ys h1 =>
      cases ra with
      | tup h1 r1 =>
        cases rb with
        | tup h2 r2 =>
          split at e
          · rename_i hz
            cases e
            rename_i a1 v1 a2 v2
            have l1 := r1.len
            have l2 := r2.len
            refine .inr (.inr (.inl ⟨_, _, _, _, rfl, rfl, h1, h2, by omega, fun z => ?_, fun z z2 => ?_, fun _ _ => g.tup o (r1.app r2)⟩))
            · subst z
              cases r1
              exact g.same o (.tup h2 r2) rfl
            · subst z2
              cases r2
              rw [List.append_nil] at g
              exact g.same o (.tup h1 r1) rfl
          · cases e
    case _ =>
      split at e
      · rename_i xs ys h1 h2
        split at e
        · rename_i hz
          cases e
          obtain ⟨a1, v1, rfl, q1, r1⟩ := list_at o ra h1
          obtain ⟨a2, v2, rfl, q2, r2⟩ := list_at o rb h2
          have l1 := r1.len
          have l2 := r2.len
          exact .inr (.inr (.inr ⟨a1, a2, v1, v2, rfl, rfl, q1, q2, by omega, g.lst o (r1.app r2)⟩))
        · cases e
      · cases e
    all_goals contradiction
  | sub =>
    refine OpR.imp op_sub fun x y H Q ⟨μ, st, a, b, v, o, ra, rb, e, g⟩ => ?_
    unfold binV at e
    split at e <;> first | contradiction | (cases ra; cases rb; cases e; exact ⟨_, _, rfl, rfl, g.same o (.int _) rfl⟩) | cases e
  | mul =>
    refine OpR.imp (op_mul.or op_mulS) fun x y H Q ⟨μ, st, a, b, v, o, ra, rb, e, g⟩ => ?_
    unfold binV at e
    split at e <;> first | contradiction | skip
    · cases ra; cases rb
      split at e
      · rename_i hc
        cases e
        refine .inl ⟨_, _, rfl, rfl, ?_, g.same o (.int _) rfl⟩
        simpa [ckM, CMul] using hc
      · cases e
    · cases ra; cases rb
      split at e
      · rename_i hc
        cases e
        exact .inr ⟨_, _, rfl, rfl, hc.1, hc.2.1, hc.2.2, g.same o (.str _) rfl⟩
      · cases e
  | fdiv =>
    refine OpR.imp op_fdiv fun x y H Q ⟨μ, st, a, b, v, o, ra, rb, e, g⟩ => ?_
    unfold binV at e
    split at e <;> first | contradiction | skip
    · cases ra; cases rb
      split at e
      · rename_i hc
        cases e
        exact ⟨_, _, rfl, rfl, hc, g.same o (.int _) rfl⟩
      · cases e
  | mod =>
    refine OpR.imp op_mod fun x y H Q ⟨μ, st, a, b, v, o, ra, rb, e, g⟩ => ?_
    unfold binV at e
    split at e <;> first | contradiction | skip
    · cases ra; cases rb
      split at e
      · rename_i hc
        cases e
        exact ⟨_, _, rfl, rfl, hc, g.same o (.int _) rfl⟩
      · cases e
  | pow =>
    refine OpR.imp op_pow fun x y H Q ⟨μ, st, a, b, v, o, ra, rb, e, g⟩ => ?_
    unfold binV at e
    split at e <;> first | contradiction | skip
    · cases ra; cases rb
      split at e
      · rename_i hc
        cases e
        exact ⟨_, _, rfl, rfl, hc, g.same o (.int _) rfl⟩
      · cases e
end
end U

set_option maxHeartbeats 4000000
/-! U4: comparisons, items, slices, built-in functions and methods. -/
namespace U
open PySem PySem.Spec PyProof.Rows L2
section
variable {K : PySem.W.Frag} {μ : Nat → Addr} {L : Nat} {st : Store} {H : Hp} {X : Cx} {σ : L2.St} {pins : List (Addr × Obj)}
theorem flV_at {x : PV} {v v' : V} (r : RV K μ L H x v') (h : flV x = some v) : v' = v ∧ flatV v = true := by
  cases r <;> first | (cases h; exact ⟨rfl, rfl⟩) | cases h
theorem flL_at : ∀ {xs : List PV} {vs vs' : List V}, RVs K μ L H xs vs' → flL xs = some vs → vs' = vs ∧ vs.all flatV = true
  | _, _, _, .nil, h => by cases h; exact ⟨rfl, rfl⟩
  | _, _, _, .cons (x := x) (xs := xs) f r rs, h => by
    unfold flL at h
    cases h1 : flV x with
    | none => rw [h1] at h; cases h
    | some v =>
      cases h2 : flL xs with
      | none => rw [h1, h2] at h; cases h
      | some vs =>
        rw [h1, h2] at h
        cases h
        obtain ⟨e1, f1⟩ := flV_at r h1
        obtain ⟨e2, f2⟩ := flL_at rs h2
        subst e1; subst e2
        exact ⟨rfl, by simp [f1, f2]⟩
def cop : COp → CmpOp
  | .eq => .Eq | .ne => .NotEq | .lt => .Lt | .le => .LtE | .gt => .Gt | .ge => .GtE | .isN => .Is | .notN => .IsNot | .inn => .In | .nin => .NotIn
/-- the reading of a comparison -/
def rC (K : PySem.W.Frag) (f : PV → PV → Store → Option Bool) : R2 := fun x' y' H Q => ∃ μ st x y k, Ok K μ st H ∧ RV K μ st.length H x x' ∧ RV K μ st.length H y y' ∧ f x y st = some k ∧ Q (.bl k) H
theorem eqS_at {x y : PV} {x' y' : V} {k : Bool} (rx : RV K μ L H x x') (ry : RV K μ L H y y') (h : eqS x y = some k) : scal x' y' = true ∧ k = decide (x' = y') := by
  unfold eqS at h
  cases h1 : flV x with
  | none => rw [h1] at h; cases h
  | some v =>
    cases h2 : flV y with
    | none => rw [h1, h2] at h; cases h
    | some w =>
      rw [h1, h2] at h
      obtain ⟨e1, _⟩ := flV_at rx h1
      obtain ⟨e2, _⟩ := flV_at ry h2
      subst e1; subst e2
      simp only at h
      split at h
      · rename_i hs
        cases h
        exact ⟨hs, rfl⟩
      · cases h
theorem inV_at {x y : PV} {x' y' : V} {k : Bool} (o : Ok K μ st H) (rx : RV K μ st.length H x x') (ry : RV K μ st.length H y y') (h : U.inV x y st = some k) :
    (∃ c z, x' = .str ⟨#[c]⟩ ∧ y' = .str z ∧ k = decide (c ∈ z.cps.toList)) ∨ ∃ p xs, y' = .ref p ∧ (SqL K H p xs ∨ SqT K H p xs) ∧ flatV x' = true ∧ xs.all flatV = true ∧ k = L2.inV x' xs := by
  unfold U.inV at h
  split at h
  · cases rx; cases ry
    split at h
    · rename_i c hc
      cases h
      exact .inl ⟨c, _, congrArg V.str (TL.ext_tl hc), rfl, rfl⟩
    · cases h
  · split at h
    · rename_i ys hy
      obtain ⟨a, vs, rfl, q, r⟩ := seq_at o ry hy
      unfold memF at h
      cases h1 : flV x with
      | none => rw [h1] at h; cases h
      | some v =>
        cases h2 : flL ys with
        | none => rw [h1, h2] at h; cases h
        | some ws =>
          rw [h1, h2] at h
          cases h
          obtain ⟨e1, f1⟩ := flV_at rx h1
          obtain ⟨e2, f2⟩ := flL_at r h2
          subst e1; subst e2
          exact .inr ⟨a, _, rfl, q, f1, f2, rfl⟩
    · cases h
theorem op_cmp (o : COp) : OpR X (compareOp (cop o)) (rC X.K (cmpV o)) := by
  cases o with
  | eq =>
    refine OpR.imp op_eq fun x y H Q ⟨μ, st, a, b, k, o, ra, rb, e, g⟩ => ?_
    obtain ⟨h1, rfl⟩ := eqS_at ra rb e
    exact ⟨h1, g⟩
  | ne =>
    refine OpR.imp op_ne fun x y H Q ⟨μ, st, a, b, k, o, ra, rb, e, g⟩ => ?_
    obtain ⟨c, hc, rfl⟩ := Option.map_eq_some_iff.mp e
    obtain ⟨h1, rfl⟩ := eqS_at ra rb hc
    exact ⟨h1, g⟩
  | lt =>
    refine OpR.imp op_lt fun x y H Q ⟨μ, st, a, b, k, o, ra, rb, e, g⟩ => ?_
    unfold cmpV at e
    simp only at e
    split at e
    · cases ra; cases rb; cases e; exact ⟨_, _, rfl, rfl, g⟩
    · cases e
  | le =>
    refine OpR.imp op_le fun x y H Q ⟨μ, st, a, b, k, o, ra, rb, e, g⟩ => ?_
    unfold cmpV at e
    simp only at e
    split at e
    · cases ra; cases rb; cases e; exact ⟨_, _, rfl, rfl, g⟩
    · cases e
  | gt =>
    refine OpR.imp op_gt fun x y H Q ⟨μ, st, a, b, k, o, ra, rb, e, g⟩ => ?_
    unfold cmpV at e
    simp only at e
    split at e
    · cases ra; cases rb; cases e; exact ⟨_, _, rfl, rfl, g⟩
    · cases e
  | ge =>
    refine OpR.imp op_ge fun x y H Q ⟨μ, st, a, b, k, o, ra, rb, e, g⟩ => ?_
    unfold cmpV at e
    simp only at e
    split at e
    · cases ra; cases rb; cases e; exact ⟨_, _, rfl, rfl, g⟩
    · cases e
  | isN =>
    refine OpR.imp op_isN fun x y H Q ⟨μ, st, a, b, k, o, ra, rb, e, g⟩ => ?_
    unfold cmpV at e
    simp only at e
    split at e
    · cases rb
      refine ⟨rfl, ?_⟩
      have : decide (x = V.non) = k := by cases ra <;> first | (cases e; rfl) | cases e
      rw [this]; exact g
    · cases e
  | notN =>
    refine OpR.imp op_notN fun x y H Q ⟨μ, st, a, b, k, o, ra, rb, e, g⟩ => ?_
    unfold cmpV at e
    simp only at e
    split at e
    · cases rb
      refine ⟨rfl, ?_⟩
      have : (!decide (x = V.non)) = k := by cases ra <;> first | (cases e; rfl) | cases e
      rw [this]; exact g
    · cases e
  | inn =>
    refine OpR.imp (op_in_sign.or op_in_seq) fun x y H Q ⟨μ, st, a, b, k, o, ra, rb, e, g⟩ => ?_
    rcases inV_at o ra rb e with ⟨c, z, rfl, rfl, rfl⟩ | ⟨p, xs, rfl, q, f1, f2, rfl⟩
    · exact .inl ⟨c, z, rfl, rfl, g⟩
    · exact .inr ⟨p, xs, rfl, q, f1, f2, g⟩
  | nin =>
    refine OpR.imp (op_notIn_sign.or op_notIn_seq) fun x y H Q ⟨μ, st, a, b, k, o, ra, rb, e, g⟩ => ?_
    obtain ⟨c, hc, rfl⟩ := Option.map_eq_some_iff.mp e
    rcases inV_at o ra rb hc with ⟨c, z, rfl, rfl, rfl⟩ | ⟨p, xs, rfl, q, f1, f2, rfl⟩
    · exact .inl ⟨c, z, rfl, rfl, g⟩
    · exact .inr ⟨p, xs, rfl, q, f1, f2, g⟩

/-- truth -/
theorem truth_at {x : PV} {x' : V} {k : Bool} (o : Ok K μ st H) (r : RV K μ st.length H x x') (h : truth x st = some k) : TruV K x' H k := by
  have seqs : ∀ {y : PV} {y' : V}, RV K μ st.length H y y' → (seqOf y st).map (fun xs => !xs.isEmpty) = some k → TruV K y' H k := fun {y y'} r e => by
    obtain ⟨xs, h1, rfl⟩ := Option.map_eq_some_iff.mp e
    obtain ⟨a, vs, rfl, q, rs⟩ := seq_at o r h1
    rw [rs.nil_iff]
    rcases q with q | q
    · exact .inl ⟨vs, q, rfl⟩
    · exact .inr (.inl ⟨vs, q, rfl⟩)
  cases x with
  | non => cases r; cases h; rfl
  | bl b => cases r; cases h; rfl
  | int i => cases r; cases h; rfl
  | str s =>
    cases r
    unfold truth at h
    simp only at h
    split at h
    · rename_i hz
      cases h
      exact ⟨hz, rfl⟩
    · cases h
  | tup xs => exact seqs r h
  | fl xs => exact seqs r h
  | rol xs => exact seqs r h
  | loc n => exact seqs r h

/-- items -/
theorem atI_map {L : Nat} {xs : List PV} {vs : List V} {i : Int} {x : PV} (r : RVs K μ L H xs vs) (h : atI xs i = some x) : ∃ v, atI vs i = some v ∧ RV K μ L H x v ∧ x.isFl = false := by
  unfold atI at h ⊢
  rw [← r.len]
  cases q : ixN xs.length i with
  | none => rw [q] at h; cases h
  | some j =>
    rw [q] at h
    exact r.get h
theorem op_ix : IxR X (rO X.K ixV) := by
  refine IxR.imp ix_seq fun x y H Q ⟨μ, st, a, b, v, o, ra, rb, e, g⟩ => ?_
  unfold ixV at e
  split at e
  · cases rb
    split at e
    · cases ra
      split at e
      · rename_i hz
        obtain ⟨c, hc, rfl⟩ := Option.map_eq_some_iff.mp e
        exact .inr (.inr ⟨_, _, c, rfl, rfl, hz, hc, g.same o (.str _) rfl⟩)
      · cases e
    · split at e
      · rename_i xs hx
        obtain ⟨p, vs, rfl, q, r⟩ := seq_at o ra hx
        obtain ⟨w, h1, h2, h3⟩ := atI_map r e
        rcases q with q | q
        · exact .inl ⟨p, vs, _, w, rfl, rfl, q, h1, g.same o h2 h3⟩
        · exact .inr (.inl ⟨p, vs, _, w, rfl, rfl, q, h1, g.same o h2 h3⟩)
      · cases e
  · cases e
/-- slices -/
theorem cut_at {L : Nat} {xs : List PV} {vs : List V} (r : RVs K μ L H xs vs) (lo hi : Option Int) : RVs K μ L H (cutL xs lo hi) (cutV vs lo hi) := by
  unfold cutL cutV
  rw [← r.len]
  exact (r.drop _).take _
theorem RVs.empty {L : Nat} {xs : List PV} {vs : List V} (r : RVs K μ L H xs vs) : xs = [] ↔ vs = [] := by cases r <;> simp
def rS (K : PySem.W.Frag) : V → Option Int → Option Int → Hp → VK → Prop := fun x' lo hi H Q => ∃ μ st x v, Ok K μ st H ∧ RV K μ st.length H x x' ∧ slV x lo hi st = some v ∧ Go K μ st H v Q
theorem op_sl : SlR X (rS X.K) := by
  refine SlR.imp (sl_str.or (sl_tupA.or sl_list)) fun x lo hi H Q ⟨μ, st, a, v, o, ra, e, g⟩ => ?_
  have lists : ∀ {xs : List PV} {p : Addr} {vs : List V}, (some (PV.fl (cutL xs lo hi)) = some v) → SqL X.K H p vs → RVs X.K μ st.length H xs vs → rSlL X.K (.ref p) lo hi H Q := fun e q r => by
    cases e
    exact ⟨_, _, rfl, q, g.lst o (cut_at r lo hi)⟩
  cases ra with
  | str z =>
    unfold slV at e
    simp only at e
    split at e
    · rename_i hz
      cases e
      exact .inl ⟨_, rfl, hz, g.same o (.str _) rfl⟩
    · cases e
  | @tup xs1 _ _ h1 r1 =>
    cases e
    refine .inr (.inl ⟨_, _, rfl, h1, fun z => ?_, fun _ => g.tup o (cut_at r1 lo hi)⟩)
    have w : ∀ {α : Type} (l : List α), HT.sIx l.length 0 lo = 0 ∧ HT.sIx l.length l.length hi = l.length → (l.drop (HT.sIx l.length 0 lo)).take (HT.sIx l.length l.length hi - HT.sIx l.length 0 lo) = l := fun l z => by
      rw [z.1, z.2]; simp
    rw [← r1.len] at z
    have e1 : cutL xs1 lo hi = xs1 := w xs1 z
    rw [e1] at g
    exact g.same o (.tup h1 r1) rfl
  | fl h1 n r1 => exact .inr (.inr (lists e (SqL.of h1) r1))
  | rol h1 r1 => exact .inr (.inr (lists e h1.sq r1))
  | @loc n hn =>
    unfold slV at e
    simp only at e
    split at e
    · rename_i xs hx
      obtain ⟨p, vs, hp, hq, r⟩ := list_at o (.loc hn) (show listOf (.loc n) st = some xs from hx)
      rw [hp]
      exact .inr (.inr (lists e (SqL.of hq) r))
    · cases e
  | _ => cases e

/-! ### built-in functions -/
abbrev RAs (K : PySem.W.Frag) (μ : Nat → Addr) (L : Nat) (H : Hp) : List PV → List V → Prop := Paired (RV K μ L H)
def bfn : BF → Value
  | .len => .builtin "len" | .int => .type "int" | .abs => .builtin "abs" | .max => .builtin "max" | .min => .builtin "min" | .str => .type "str" | .repr => .builtin "repr"
  | .list => .type "list" | .tuple => .type "tuple" | .sum => .builtin "sum" | .all => .builtin "all" | .any => .builtin "any"
def rB (K : PySem.W.Frag) (f : BF) : List V → Hp → VK → Prop := fun vs H Q => ∃ μ st as v, Ok K μ st H ∧ RAs K μ st.length H as vs ∧ biV f as st = some v ∧ Go K μ st H v Q
theorem ints_at : ∀ {xs : List PV} {vs : List V} {ns : List Int}, RVs K μ L H xs vs → intsL xs = some ns → vs = ns.map V.int
  | _, _, _, .nil, h => by cases h; rfl
  | _, _, _, .cons (xs := xs) f r rs, h => by
    cases r <;> try cases h
    unfold intsL at h
    obtain ⟨ms, h1, rfl⟩ := Option.map_eq_some_iff.mp h
    rw [ints_at rs h1]; rfl
theorem bools_at : ∀ {xs : List PV} {vs : List V} {ns : List Bool}, RVs K μ L H xs vs → bools xs = some ns → vs = ns.map V.bl
  | _, _, _, .nil, h => by cases h; rfl
  | _, _, _, .cons (xs := xs) f r rs, h => by
    cases r <;> try cases h
    unfold bools at h
    obtain ⟨ms, h1, rfl⟩ := Option.map_eq_some_iff.mp h
    rw [bools_at rs h1]; rfl
theorem strs_at : ∀ {xs : List PV} {vs : List V} {ns : List Str}, RVs K μ L H xs vs → strsL xs = some ns → vs = ns.map V.str
  | _, _, _, .nil, h => by cases h; rfl
  | _, _, _, .cons (xs := xs) f r rs, h => by
    cases r <;> try cases h
    unfold strsL at h
    obtain ⟨ms, h1, rfl⟩ := Option.map_eq_some_iff.mp h
    rw [strs_at rs h1]; rfl
theorem rd_at {x : PV} {x' : V} {xs : List PV} (o : Ok K μ st H) (r : RV K μ st.length H x x') (h : rdOf x st = some xs) : ∃ a vs, x' = .ref a ∧ SqL K H a vs ∧ RVs K μ st.length H xs vs := by
  cases r with
  | rol h1 r1 => cases h; exact ⟨_, _, rfl, h1.sq, r1⟩
  | fl h1 n r1 => cases h; exact ⟨_, _, rfl, SqL.of h1, r1⟩
  | @loc n hn =>
    obtain ⟨p, vs, hp, hq, r⟩ := list_at o (.loc hn) (show listOf (.loc n) st = some xs from h)
    exact ⟨p, vs, hp, SqL.of hq, r⟩
  | _ => cases h
/-- repr(a bool) -/
theorem call_reprB : CallR X (.builtin "repr") (fun xs H Q => ∃ b, xs = [.bl b] ∧ Q (.str (if b then Str.ofString "True" else Str.ofString "False")) H) := by
  intro pins s σ H xs us Q I rx h
  obtain ⟨b, rfl, q⟩ := h
  obtain ⟨u, rfl, ru⟩ := vals1 rx
  cases ru
  exact PySem.P.repr_of_bool ⟨.str _, H, I.tok _, ⟨_, rfl⟩, q⟩
theorem log_ok {i : Int} (h : i.natAbs < 1000000) : i.natAbs.log2 < 1920 := by
  by_cases h0 : i.natAbs = 0
  · rw [h0]; decide
  · have := (Nat.log2_lt h0 (k := 20)).mpr (by omega)
    omega
theorem op_bi (hc : X.calm = true) (f : BF) : CallR X (bfn f) (rB X.K f) := by
  cases f with
  | len =>
    refine CallR.imp (call_len_seq.or call_len_str) fun xs H Q ⟨μ, st, as, v, o, ra, e, g⟩ => ?_
    unfold biV at e
    split at e <;> try contradiction
    · cases ra with
      | cons r1 r2 =>
        cases r2; cases r1
        split at e
        · rename_i hz
          cases e
          exact .inr ⟨_, rfl, hz, g.same o (.int _) rfl⟩
        · cases e
    · cases ra with
      | cons r1 r2 =>
        cases r2
        obtain ⟨ys, h1, rfl⟩ := Option.map_eq_some_iff.mp e
        obtain ⟨p, vs, rfl, q, r⟩ := seq_at o r1 h1
        refine .inl ⟨p, vs, rfl, q, ?_⟩
        rw [← r.len]
        exact g.same o (.int _) rfl
  | int =>
    refine CallR.imp call_int1 fun xs H Q ⟨μ, st, as, v, o, ra, e, g⟩ => ?_
    unfold biV at e
    split at e <;> try contradiction
    · cases ra with
      | cons r1 r2 => cases r2; cases r1; cases e; exact .inl ⟨_, rfl, g.same o (.int _) rfl⟩
    · cases ra with
      | cons r1 r2 => cases r2; cases r1; cases e; exact .inr ⟨_, rfl, g.same o (.int _) rfl⟩
  | abs =>
    refine CallR.imp call_abs fun xs H Q ⟨μ, st, as, v, o, ra, e, g⟩ => ?_
    unfold biV at e
    split at e <;> try contradiction
    cases ra with
    | cons r1 r2 => cases r2; cases r1; cases e; exact ⟨_, rfl, g.same o (.int _) rfl⟩
  | max =>
    refine CallR.imp (call_max2 hc) fun xs H Q ⟨μ, st, as, v, o, ra, e, g⟩ => ?_
    unfold biV at e
    split at e <;> try contradiction
    cases ra with
    | cons r1 r2 =>
      cases r2 with
      | cons r2 r3 => cases r3; cases r2; cases r1; cases e; exact ⟨_, _, rfl, g.same o (.int _) rfl⟩
  | min =>
    refine CallR.imp (call_min2 hc) fun xs H Q ⟨μ, st, as, v, o, ra, e, g⟩ => ?_
    unfold biV at e
    split at e <;> try contradiction
    cases ra with
    | cons r1 r2 =>
      cases r2 with
      | cons r2 r3 => cases r3; cases r2; cases r1; cases e; exact ⟨_, _, rfl, g.same o (.int _) rfl⟩
  | str =>
    refine CallR.imp call_str_int fun xs H Q ⟨μ, st, as, v, o, ra, e, g⟩ => ?_
    unfold biV at e
    split at e <;> try contradiction
    cases ra with
    | cons r1 r2 =>
      cases r2
      cases r1 with
      | int i =>
      split at e
      · rename_i hz
        cases e
        exact ⟨_, rfl, log_ok hz, g.same o (.str _) rfl⟩
      · cases e
  | repr =>
    refine CallR.imp call_reprB fun xs H Q ⟨μ, st, as, v, o, ra, e, g⟩ => ?_
    unfold biV at e
    split at e <;> try contradiction
    cases ra with
    | cons r1 r2 => cases r2; cases r1; cases e; exact ⟨_, rfl, g.same o (.str _) rfl⟩
  | list =>
    refine CallR.imp call_list_of fun xs H Q ⟨μ, st, as, v, o, ra, e, g⟩ => ?_
    unfold biV at e
    split at e <;> try contradiction
    cases ra with
    | cons r1 r2 =>
      cases r2
      obtain ⟨ys, h1, rfl⟩ := Option.map_eq_some_iff.mp e
      obtain ⟨p, vs, rfl, q, r⟩ := seq_at o r1 h1
      exact ⟨p, vs, rfl, q, g.lst o r⟩
  | tuple =>
    refine CallR.imp call_tuple_of fun xs H Q ⟨μ, st, as, v, o, ra, e, g⟩ => ?_
    unfold biV at e
    split at e <;> try contradiction
    · cases ra with
      | cons r1 r2 =>
        cases r2
        cases e
        cases r1 with
        | tup h1 r1 => exact ⟨_, _, rfl, .inr ⟨h1, g.same o (.tup h1 r1) rfl⟩⟩
    · cases ra with
      | cons r1 r2 =>
        cases r2
        obtain ⟨ys, h1, rfl⟩ := Option.map_eq_some_iff.mp e
        have fin : rdOf _ st = some ys → ∃ p ys, [_] = [V.ref p] ∧ ((SqL X.K H p ys ∧ ∀ l, H l = none → Q (.ref l) (upd H l (.tup ys))) ∨ (SqT X.K H p ys ∧ Q (.ref p) H)) := fun h => by
          obtain ⟨p, vs, e2, q, r⟩ := rd_at o r1 h
          exact ⟨p, vs, congrArg (fun z => [z]) e2, .inl ⟨q, g.tup o r⟩⟩
        cases r1 with
        | @tup zs a vs h2 r2 =>
          cases h1
          exact ⟨_, _, rfl, .inr ⟨h2, g.same o (.tup h2 r2) rfl⟩⟩
        | _ => exact fin h1
  | sum =>
    refine CallR.imp (cr_sum hc) fun xs H Q ⟨μ, st, as, v, o, ra, e, g⟩ => ?_
    unfold biV at e
    split at e <;> try contradiction
    cases ra with
    | cons r1 r2 =>
      cases r2
      split at e
      · rename_i ys hy
        obtain ⟨ns, h1, rfl⟩ := Option.map_eq_some_iff.mp e
        obtain ⟨p, vs, rfl, q, r⟩ := rd_at o r1 hy
        have := ints_at r h1
        subst this
        exact ⟨p, ns, rfl, q, g.same o (.int _) rfl⟩
      · cases e
  | all =>
    refine CallR.imp (cr_all hc) fun xs H Q ⟨μ, st, as, v, o, ra, e, g⟩ => ?_
    unfold biV at e
    split at e <;> try contradiction
    cases ra with
    | cons r1 r2 =>
      cases r2
      split at e
      · rename_i ys hy
        obtain ⟨ns, h1, rfl⟩ := Option.map_eq_some_iff.mp e
        obtain ⟨p, vs, rfl, q, r⟩ := rd_at o r1 hy
        have := bools_at r h1
        subst this
        exact ⟨p, ns, rfl, q, g.same o (.bl _) rfl⟩
      · cases e
  | any =>
    refine CallR.imp (cr_any hc) fun xs H Q ⟨μ, st, as, v, o, ra, e, g⟩ => ?_
    unfold biV at e
    split at e <;> try contradiction
    cases ra with
    | cons r1 r2 =>
      cases r2
      split at e
      · rename_i ys hy
        obtain ⟨ns, h1, rfl⟩ := Option.map_eq_some_iff.mp e
        obtain ⟨p, vs, rfl, q, r⟩ := rd_at o r1 hy
        have := bools_at r h1
        subst this
        exact ⟨p, ns, rfl, q, g.same o (.bl _) rfl⟩
      · cases e

/-! ### methods -/
def mfn : MF → String
  | .append => "list.append" | .split => "str.split" | .partition => "str.partition" | .join => "str.join"
def rM (K : PySem.W.Frag) (f : MF) : V → List V → Hp → VK → Prop := fun x' vs H Q => ∃ μ st x as v st', Ok K μ st H ∧ RV K μ st.length H x x' ∧ RAs K μ st.length H as vs ∧ mtV f x as st = .ok v st' ∧
  ∀ H' v', Stp μ st.length H μ st'.length H' → Ok K μ st' H' → RV K μ st'.length H' v v' → Fr H v v' → Q v' H'
theorem op_mt (f : MF) : MtR X (mfn f) (rM X.K f) := by
  cases f with
  | append =>
    refine MtR.imp (show MtR X "list.append" rAppend from mt_append) fun x xs H Q ⟨μ, st, a, as, v, st', o, ra, rs, e, g⟩ => ?_
    unfold mtV at e
    split at e <;> try contradiction
    cases rs with
    | cons r1 r2 =>
      cases r2
      split at e
      · rename_i zs hz
        split at e
        · rename_i hc
          cases e
          cases ra with
          | loc hn =>
            obtain ⟨vs, h1, h2⟩ := o.cell _ _ hz
            obtain ⟨s1, o1⟩ := o.write hn (h2.app (RVs.one hc.2 r1))
            refine ⟨_, vs, _, rfl, rfl, h1, by rw [← h2.len]; exact hc.1, g _ _ s1 o1 .non trivial⟩
        · cases e
      · cases e
  | split =>
    refine MtR.imp mt_split fun x xs H Q ⟨μ, st, a, as, v, st', o, ra, rs, e, g⟩ => ?_
    unfold mtV at e
    split at e <;> try contradiction
    cases rs with
    | cons r1 r2 =>
      cases r2; cases r1; cases ra
      split at e
      · cases e
      · rename_i hc
        cases e
        refine ⟨_, _, rfl, rfl, ?_, by omega, fun p hp => ?_⟩
        · rw [beq_eq_false_iff_ne]; omega
        · rename_i s1 s2
          have q : ∀ (l : List Str), RVs X.K μ st.length H (l.map PV.str) (l.map V.str) := fun l => by
            induction l with
            | nil => exact .nil
            | cons z l ih => exact .cons rfl (.str z) ih
          exact (show Go X.K μ st H _ Q from g).lst o (q _) p hp
  | partition =>
    refine MtR.imp mt_partition fun x xs H Q ⟨μ, st, a, as, v, st', o, ra, rs, e, g⟩ => ?_
    unfold mtV at e
    split at e <;> try contradiction
    cases rs with
    | cons r1 r2 =>
      cases r2; cases r1; cases ra
      split at e
      · cases e
      · rename_i hc
        cases e
        refine ⟨_, _, rfl, rfl, ?_, by omega, fun p hp => ?_⟩
        · rw [beq_eq_false_iff_ne]; omega
        · exact (show Go X.K μ st H _ Q from g).tup o (.cons rfl (.str _) (.cons rfl (.str _) (.cons rfl (.str _) .nil))) p hp
  | join =>
    refine MtR.imp mt_join fun x xs H Q ⟨μ, st, a, as, v, st', o, ra, rs, e, g⟩ => ?_
    unfold mtV at e
    split at e <;> try contradiction
    cases rs with
    | cons r1 r2 =>
      cases r2; cases ra
      split at e
      · rename_i zs hz
        split at e
        · rename_i ys hy
          split at e
          · rename_i hc
            cases e
            obtain ⟨p, vs, rfl, q, r⟩ := seq_at o r1 hz
            have := strs_at r hy
            subst this
            exact ⟨_, p, ys, rfl, rfl, q, by rw [Nat.mul_comm]; omega, g _ _ StX.refl o (.str _) trivial⟩
          · cases e
        · cases e
      · cases e
end
end U

set_option maxHeartbeats 4000000
/-! U5: expressions: the text is the program, and what the program yields the machine yields. -/
namespace U
open PySem PySem.Spec PyProof.Rows L2

/-! ### is this text that program -/
structure Ct where
  N : List Str
  sc : Scope
  fn : List (Str × Nat)
  cs : List (Str × PV)
  bl : List Str
def visB (sc : Scope) (x : Str) : Bool := match sc.names.lookup x with
  | some .local => true
  | some .cell => true
  | some .free => true
  | _ => false
def glB (sc : Scope) (x : Str) : Bool := match sc.names.lookup x with
  | some .globalImplicit => !(x == ("__debug__" : Str))
  | _ => false
def conB : PV → Const → Bool
  | .non, .none => true
  | .bl a, .bool b => a == b
  | .int a, .int b => decide (a = b)
  | .str a, .str b => decide (a = b)
  | _, _ => false
def bname : BF → Str
  | .len => "len" | .int => "int" | .abs => "abs" | .max => "max" | .min => "min" | .str => "str" | .repr => "repr"
  | .list => "list" | .tuple => "tuple" | .sum => "sum" | .all => "all" | .any => "any"
def mname : MF → Str
  | .append => "append" | .split => "split" | .partition => "partition" | .join => "join"
def MG.own (g : MG) (N : List Str) : List (Str × Nat) := g.slots.map fun i => (N.getD i "", i)
def locB (sc : Scope) (x : Str) : Bool := match sc.names.lookup x with
  | some .local => true
  | some .cell => true
  | _ => false
/-- a target's names; cell: may they be cells of the block itself -/
def mT1 (C : Ct) (i : Nat) (e : Expr) : Bool := match e with
  | .Name x _ => decide (C.N[i]? = some x) && decide (C.sc.names.lookup x = some .local)
  | _ => false
def mTs (C : Ct) : List Nat → List Expr → Bool
  | [], [] => true
  | i :: is, e :: es => mT1 C i e && mTs C is es
  | _, _ => false
def mG (C : Ct) (g : MG) (e : Expr) : Bool := match g, e with
  | .nm i, e => mT1 C i e
  | .tp is, .Tuple es _ _ => mTs C is es
  | _, _ => false
mutual
def mE (C : Ct) : ME → Expr → Bool
  | .var i, e => match e with
    | .Name x _ => decide (C.N[i]? = some x) && visB C.sc x && !(x == ("__debug__" : Str)) && !(x == ("__classdict__" : Str))
    | _ => false
  | .con v, e => match e with
    | .Constant c _ _ => conB v c
    | _ => false
  | .glb x v, e => match e with
    | .Name y _ => decide (y = x) && glB C.sc x && (match C.cs.lookup x with
      | some w => PV.same v w
      | none => false)
    | _ => false
  | .bin o a b, e => match e with
    | .BinOp l op r _ => decide (op = bop o) && mE C a l && mE C b r
    | _ => false
  | .neg a, e => match e with
    | .UnaryOp .USub x _ => mE C a x
    | _ => false
  | .cmp o a b, e => match e with
    | .Compare l [op] [r] _ => decide (op = cop o) && mE C a l && mE C b r
    | _ => false
  | .cmp2 o o' a b c, e => match e with
    | .Compare l [op, op'] [r, r'] _ => decide (op = cop o) && decide (op' = cop o') && mE C a l && mE C b r && mE C c r'
    | _ => false
  | .not a, e => match e with
    | .UnaryOp .Not x _ => mE C a x
    | _ => false
  | .and a b, e => match e with
    | .BoolOp .And [x, y] _ => mE C a x && mE C b y
    | .BoolOp .And (x :: y :: z :: r) p => mE C a x && mE C b (.BoolOp .And (y :: z :: r) p)
    | _ => false
  | .or a b, e => match e with
    | .BoolOp .Or [x, y] _ => mE C a x && mE C b y
    | .BoolOp .Or (x :: y :: z :: r) p => mE C a x && mE C b (.BoolOp .Or (y :: z :: r) p)
    | _ => false
  | .ite t a b, e => match e with
    | .IfExp c x y _ => mE C t c && mE C a x && mE C b y
    | _ => false
  | .fn f as, e => match e with
    | .Call (.Name x _) (y :: ys) [] _ => decide (C.fn.lookup x = some f) && glB C.sc x && mA C as (y :: ys)
    | _ => false
  | .bi f as, e => match e with
    | .Call (.Name x _) (y :: ys) [] _ => decide (x = bname f) && C.bl.contains x && glB C.sc x && mA C as (y :: ys)
    | _ => false
  | .mt f o as, e => match e with
    | .Call (.Attribute x name apos) [y] [] pos => decide (name = mname f) && mE C o x && (apos.endLine == pos.line) && !(match x with
        | .Call _ [] [] _ => true
        | _ => false) && mA C as [y]
    | _ => false
  | .tup as, e => match e with
    | .Tuple es _ _ => mA C as es
    | _ => false
  | .lst as, e => match e with
    | .List es _ => mA C as es
    | _ => false
  | .ix a i, e => match e with
    | .Subscript x y _ => mE C a x && mE C i y
    | _ => false
  | .sl a lo hi, e => match e with
    | .Subscript x (.Slice l h none _) _ => mE C a x && (match l with
        | none => lo.absent
        | some y => !lo.absent && mE C lo y) && (match h with
        | none => hi.absent
        | some y => !hi.absent && mE C hi y)
    | _ => false
  | .lc elt g (.rng a b) has c, e => match e with
    | .ListComp x [⟨tg, .Call (.Name f _) es [] _, ifs, 0⟩] scope _ => decide (f = "range") && C.bl.contains "range" && glB C.sc f &&
        (match es with
        | [y] => (match a with
          | .con (.int 0) => mE C b y
          | _ => false)
        | [z, y] => mE C a z && mE C b y
        | _ => false) && blkC C.N C.sc scope (g.own C.N) && mG { C with sc := relS scope C.sc } g tg &&
        (match has, ifs with
        | true, [t] => mE { C with sc := relS scope C.sc } c t
        | false, [] => true
        | _, _ => false) && mE { C with sc := relS scope C.sc } elt x
    | _ => false
  | .lc elt g src has c, e => match e with
    | .ListComp x [⟨tg, iter, ifs, 0⟩] scope _ => mE C src iter && blkC C.N C.sc scope (g.own C.N) && mG { C with sc := relS scope C.sc } g tg &&
        (match has, ifs with
        | true, [t] => mE { C with sc := relS scope C.sc } c t
        | false, [] => true
        | _, _ => false) && mE { C with sc := relS scope C.sc } elt x
    | _ => false
  | .rng _ _, _ => false
def mA (C : Ct) : MEs → List Expr → Bool
  | .nil, es => match es with
    | [] => true
    | _ => false
  | .cons a as, es => match es with
    | [] => false
    | e :: es => mE C a e && mA C as es
end
end U

set_option maxHeartbeats 4000000
/-! U6: readings of expressions. -/
namespace U
open PySem PySem.Spec PyProof.Rows L2

theorem bind_ok {α β : Type} {r : Res α} {f : α → Store → Res β} {b : β} {st : Store} (h : r.bind f = .ok b st) : ∃ a st1, r = .ok a st1 ∧ f a st1 = .ok b st := by
  cases r with
  | ok a st1 => exact ⟨a, st1, rfl, h⟩
  | bad => cases h
theorem opt_ok {α : Type} {o : Option α} {st st1 : Store} {b : α} (h : opt o st = .ok b st1) : o = some b ∧ st = st1 := by
  cases o with
  | some a => cases h; exact ⟨rfl, rfl⟩
  | none => cases h
theorem isBl_ok {x : PV} {k : Bool} (h : isBl x = some k) : x = .bl k := by
  unfold isBl at h
  split at h
  · cases h; rfl
  · cases h
theorem done_ok {m : Md} {v w : PV} {st st1 : Store} (h : done m v st = .ok w st1) (hm : m ≠ .test) : w = v ∧ st = st1 := by
  cases m with
  | val => cases h; exact ⟨rfl, rfl⟩
  | use => cases h; exact ⟨rfl, rfl⟩
  | test => exact absurd rfl hm

section
variable {K : PySem.W.Frag} {μ μ1 μ2 : Nat → Addr} {L L1 : Nat} {H H1 H2 : Hp} {S : Addr → Prop}
theorem bind_assoc {α β γ : Type} (r : Res α) (f : α → Store → Res β) (g : β → Store → Res γ) : (r.bind f).bind g = r.bind fun a st => (f a st).bind g := by cases r <;> rfl
/-- the names' values -/
structure RE (K : PySem.W.Frag) (μ : Nat → Addr) (L : Nat) (H : Hp) (env : En) (σ : L2.St) : Prop where
  len : env.length = σ.length
  at_ : ∀ (i : Nat) (x : PV), env[i]? = some (some x) → ∃ v : V, σ[i]? = some (some v) ∧ RV K μ L H x v
theorem RE.mono {env : En} {σ : L2.St} (s : Stp μ L H μ1 L1 H1) (r : RE K μ L H env σ) : RE K μ1 L1 H1 env σ :=
  ⟨r.len, fun i x h => let ⟨v, h1, h2⟩ := r.at_ i x h; ⟨v, h1, h2.mono0 s⟩⟩
theorem RE.set {env : En} {σ : L2.St} {x : PV} {v : V} (r : RE K μ L H env σ) (q : RV K μ L H x v) (i : Nat) : RE K μ L H (env.set i (some x)) (σ.set i (some v)) := by
  refine ⟨by simp [r.len], fun j y h => ?_⟩
  by_cases e : i = j
  · subst e
    by_cases hi : i < env.length
    · rw [List.getElem?_set_self hi] at h
      cases h
      exact ⟨v, List.getElem?_set_self (by rw [← r.len]; exact hi), q⟩
    · rw [List.getElem?_eq_none (by simp; omega)] at h; cases h
  · rw [List.getElem?_set_ne e] at h ⊢
    exact r.at_ j y h
theorem RE.drop {env : En} {σ : L2.St} (r : RE K μ L H env σ) (i : Nat) : RE K μ L H (env.set i none) (σ.set i none) := by
  refine ⟨by simp [r.len], fun j y h => ?_⟩
  by_cases e : i = j
  · subst e
    by_cases hi : i < env.length
    · rw [List.getElem?_set_self hi] at h
      cases h
    · rw [List.getElem?_eq_none (by simp; omega)] at h; cases h
  · rw [List.getElem?_set_ne e] at h ⊢
    exact r.at_ j y h
theorem RE.wipe {env : En} {σ : L2.St} (r : RE K μ L H env σ) : ∀ vs : List Nat, RE K μ L H (U.wipe env vs) (L2.wipe σ vs)
  | [] => r
  | v :: vs => by
    unfold U.wipe L2.wipe
    exact (RE.wipe r vs).drop v

/-! ### readings -/
def rd (K : PySem.W.Frag) (m : En → Store → Res PV) : TE := fun σ H Q => ∃ μ env st v st', Ok K μ st H ∧ RE K μ st.length H env σ ∧ m env st = .ok v st' ∧
  ∀ μ' H' v', Stp μ st.length H μ' st'.length H' → Ok K μ' st' H' → RV K μ' st'.length H' v v' → Fr H v v' → Q v' H'
def rdU (K : PySem.W.Frag) (m : En → Store → Res PV) : TE := fun σ H Q => ∃ μ env st v st', Ok K μ st H ∧ RE K μ st.length H env σ ∧ m env st = .ok v st' ∧
  ∀ μ' H' v', Stp μ st.length H μ' st'.length H' → Ok K μ' st' H' → RV K μ' st'.length H' v v' → Q v' H'
def rdT (K : PySem.W.Frag) (m : En → Store → Res PV) : TT := fun σ H Q => ∃ μ env st k st', Ok K μ st H ∧ RE K μ st.length H env σ ∧ m env st = .ok (.bl k) st' ∧
  ∀ μ' H', Stp μ st.length H μ' st'.length H' → Ok K μ' st' H' → Q k H'
def rdA (K : PySem.W.Frag) (m : En → Store → Res (List PV)) : TA := fun σ H Q => ∃ μ env st v st', Ok K μ st H ∧ RE K μ st.length H env σ ∧ m env st = .ok v st' ∧
  ∀ μ' H' v', Stp μ st.length H μ' st'.length H' → Ok K μ' st' H' → RVs K μ' st'.length H' v v' → Q v' H'
def rdC (K : PySem.W.Frag) (m : En → Store → Res (List PV)) : TA := fun σ H Q => ∃ μ env st v st', Ok K μ st H ∧ RE K μ st.length H env σ ∧ m env st = .ok v st' ∧
  ∀ μ' H' v', Stp μ st.length H μ' st'.length H' → Ok K μ' st' H' → RAs K μ' st'.length H' v v' → Q v' H'
def rdO (K : PySem.W.Frag) (m : En → Store → Res PV) (absent : Bool) : TO := fun σ H Q => ∃ μ env st v st' b, Ok K μ st H ∧ RE K μ st.length H env σ ∧ m env st = .ok v st' ∧ bound absent v = some b ∧
  ∀ μ' H', Stp μ st.length H μ' st'.length H' → Ok K μ' st' H' → Q b H'
variable {X : Cx} {e : Expr}
theorem _root_.L2.PE.imp {t t' : TE} (h : PE X e t) (i : ∀ σ H Q, t' σ H Q → t σ H Q) : PE X e t' := ⟨fun pins s σ H Q I q => h.run pins s σ H Q I (i _ _ _ q)⟩
theorem _root_.L2.PT.imp {t t' : TT} (h : PT X e t) (i : ∀ σ H Q, t' σ H Q → t σ H Q) : PT X e t' := ⟨fun pins s σ H Q I q => h.run pins s σ H Q I (i _ _ _ q)⟩
theorem _root_.L2.PW.imp {t t' : TT} (h : PW X e t) (i : ∀ σ H Q, t' σ H Q → t σ H Q) : PW X e t' := ⟨fun wh pins s σ H Q I q => h.run wh pins s σ H Q I (i _ _ _ q)⟩
theorem _root_.L2.PA.imp {es : List Expr} {t t' : TA} (h : PA X es t) (i : ∀ σ H Q, t' σ H Q → t σ H Q) : PA X es t' := ⟨fun pos pins s σ H Q I q => h.run pos pins s σ H Q I (i _ _ _ q)⟩
theorem _root_.L2.PO.imp {o : Option Expr} {t t' : TO} (h : PO X o t) (i : ∀ σ H Q, t' σ H Q → t σ H Q) : PO X o t' := ⟨fun pins s σ H Q I q => h.run pins s σ H Q I (i _ _ _ q)⟩
theorem rd_eq {m m' : En → Store → Res PV} (e : ∀ env st, m' env st = m env st) : ∀ σ H Q, rd K m' σ H Q → rd K m σ H Q := fun σ H Q ⟨μ, env, st, v, st', o, r, h, g⟩ => ⟨μ, env, st, v, st', o, r, by rw [← e]; exact h, g⟩
theorem rdU_of {m : En → Store → Res PV} (h : PE X e (rd X.K m)) : PE X e (rdU X.K m) := h.imp fun σ H Q ⟨μ, env, st, v, st', o, r, h, g⟩ => ⟨μ, env, st, v, st', o, r, h, fun μ' H' v' s o' r' _ => g μ' H' v' s o' r'⟩

/-- an expression's three readings -/
structure SE (X : Cx) (call : Nat → List PV → Store → Res PV) (m : ME) (e : Expr) : Prop where
  val : PE X e (rd X.K (ev call m .val))
  use : PE X e (rdU X.K (ev call m .use))
  test : PT X e (rdT X.K (ev call m .test))
variable {call : Nat → List PV → Store → Res PV} {m : ME}
/-- whose test is its value's truth -/
theorem SE.plain (core : En → Store → Res PV) (h : PE X e (rd X.K core)) (eq : ∀ md env st, ev call m md env st = (core env st).bind fun v st1 => done md v st1)
    (he : ∀ whole, isTrue e X.env whole = (do let v ← whole; standAt e.pos; holding [v] (truthy v))) : SE X call m e := by
  have hv : PE X e (rd X.K (ev call m .val)) := h.imp (rd_eq fun env st => by
    rw [eq]
    cases core env st <;> rfl)
  refine ⟨hv, rdU_of (hv.imp (rd_eq fun env st => by
    rw [eq, eq]
    cases core env st <;> rfl)), ?_⟩
  refine PT.imp (pt_truth h he) fun σ H Q ⟨μ, env, st, k, st', o, r, h, g⟩ => ?_
  rw [eq] at h
  obtain ⟨v, st1, h1, h2⟩ := bind_ok h
  obtain ⟨k', st2, h3, h4⟩ := bind_ok h2
  obtain ⟨h5, rfl⟩ := opt_ok h3
  cases h4
  exact ⟨μ, env, st, v, st', o, r, h1, fun μ' H' v' s o' r' _ => ⟨k, truth_at o' r' h5, g μ' H' s o'⟩⟩
/-- which is a bool -/
theorem SE.bool (h : PE X e (rd X.K (ev call m .val))) (hu : ∀ env st, ev call m .use env st = ev call m .val env st) (t : PT X e (rdT X.K (ev call m .test))) : SE X call m e :=
  ⟨h, rdU_of (h.imp (rd_eq hu)), t⟩

/-! two operands -/
theorem pe_bin {a b : ME} {x y : Expr} {f : PV → PV → Store → Option PV} {g : Expr} (ha : SE X call a x) (hb : SE X call b y) (hr : ∀ {ta tb : TE}, PE X x ta → PE X y tb → PE X g (tOp (rO X.K f) ta tb)) :
    PE X g (rd X.K fun env st => (ev call a .use env st).bind fun x st1 => (ev call b .use env st1).bind fun y st2 => opt (f x y st2) st2) := by
  refine (hr ha.use hb.use).imp fun σ H Q ⟨μ, env, st, v, st', o, r, h, g⟩ => ?_
  obtain ⟨x1, st1, h1, h2⟩ := bind_ok h
  obtain ⟨y1, st2, h3, h4⟩ := bind_ok h2
  obtain ⟨h5, rfl⟩ := opt_ok h4
  exact ⟨μ, env, st, x1, st1, o, r, h1, fun μ1 H1 x' s1 o1 r1 => ⟨μ1, env, st1, y1, st2, o1, r.mono s1, h3, fun μ2 H2 y' s2 o2 r2 => ⟨μ2, st2, x1, y1, v, o2, r1.mono0 s2, r2, h5,
    fun H3 v' s3 o3 r3 f3 => g μ2 H3 v' (Stp.trans s1 (Stp.trans s2 s3)) o3 r3 (f3.back (Stp.trans s1 s2))⟩⟩⟩
theorem pe_binV {a b : ME} {x y : Expr} {f : PV → PV → Store → Option PV} {g : Expr} (ha : SE X call a x) (hb : SE X call b y) (hr : ∀ {ta tb : TE}, PE X x ta → PE X y tb → PE X g (tOp (rO X.K f) ta tb)) :
    PE X g (rd X.K fun env st => (ev call a .use env st).bind fun x st1 => (ev call b .val env st1).bind fun y st2 => opt (f x y st2) st2) := by
  refine (hr ha.use hb.val).imp fun σ H Q ⟨μ, env, st, v, st', o, r, h, g⟩ => ?_
  obtain ⟨x1, st1, h1, h2⟩ := bind_ok h
  obtain ⟨y1, st2, h3, h4⟩ := bind_ok h2
  obtain ⟨h5, rfl⟩ := opt_ok h4
  exact ⟨μ, env, st, x1, st1, o, r, h1, fun μ1 H1 x' s1 o1 r1 => ⟨μ1, env, st1, y1, st2, o1, r.mono s1, h3, fun μ2 H2 y' s2 o2 r2 _ => ⟨μ2, st2, x1, y1, v, o2, r1.mono0 s2, r2, h5,
    fun H3 v' s3 o3 r3 f3 => g μ2 H3 v' (Stp.trans s1 (Stp.trans s2 s3)) o3 r3 (f3.back (Stp.trans s1 s2))⟩⟩⟩
theorem se_bin {o : BOp} {a b : ME} {x y : Expr} {pos : Pos} (ha : SE X call a x) (hb : SE X call b y) : SE X call (.bin o a b) (.BinOp x (bop o) y pos) :=
  .plain _ (pe_bin ha hb fun p q => pe_op (op_bin o) p q) (fun md env st => by rw [ev]; simp only [bind_assoc]) fun _ => rfl
theorem se_ix {a b : ME} {x y : Expr} {pos : Pos} (ha : SE X call a x) (hb : SE X call b y) (hs : PlainIx y) : SE X call (.ix a b) (.Subscript x y pos) :=
  .plain _ (pe_binV ha hb fun p q => pe_ix op_ix p q hs) (fun md env st => by rw [ev]; simp only [bind_assoc]) fun _ => rfl
theorem tC_imp {core : PV} {v' : V} (h : ∀ μ L H, RV K μ L H core v') (f : core.isFl = false) : ∀ σ H Q, rd K (fun _ st => .ok core st) σ H Q → tC v' σ H Q := fun σ H Q ⟨μ, env, st, v, st', o, r, e, g⟩ => by
  cases e
  exact g μ H v' StX.refl o (h _ _ _) (fr_of f)
theorem se_con {v : PV} {c : Const} {k : Nat} {pos : Pos} (h : conB v c = true) : SE X call (.con v) (.Constant c k pos) := by
  refine .plain (fun _ st => .ok v st) ?_ (fun md env st => by rw [ev]; rfl) fun _ => rfl
  unfold conB at h
  split at h
  · exact pe_non.imp (tC_imp (fun _ _ _ => .non) rfl)
  · cases eq_of_beq h
    exact pe_bl.imp (tC_imp (fun _ _ _ => .bl _) rfl)
  · cases of_decide_eq_true h
    exact pe_int.imp (tC_imp (fun _ _ _ => .int _) rfl)
  · cases of_decide_eq_true h
    exact pe_str.imp (tC_imp (fun _ _ _ => .str _) rfl)
  · cases h
theorem se_glb {x : Str} {v : PV} {v' : V} {u : Value} {pos : Pos} (hg : Gl X x) (hm : X.mg x = some u) (hr : RelV v' u) (h : ∀ μ L H, RV X.K μ L H v v') (f : v.isFl = false) (hd : (x == ("__debug__" : Str)) = false) : SE X call (.glb x v) (.Name x pos) :=
  .plain (fun _ st => .ok v st) ((pe_glob hg hm hr hd).imp (tC_imp h f)) (fun md env st => by rw [ev]; rfl) fun _ => rfl
theorem se_var {i : Nat} {x : Str} {pos : Pos} (hN : X.N[i]? = some x) (hv : Vis X.env.scope x) (hd : (x == ("__debug__" : Str)) = false) (hcd : (x == ("__classdict__" : Str)) = false) : SE X call (.var i) (.Name x pos) := by
  have base : PE X (.Name x pos) (tVar i) := pe_var hN hv hd hcd
  refine ⟨base.imp fun σ H Q ⟨μ, env, st, v, st', o, r, h, g⟩ => ?_, base.imp fun σ H Q ⟨μ, env, st, v, st', o, r, h, g⟩ => ?_, PT.imp (pt_truth base fun _ => rfl) fun σ H Q ⟨μ, env, st, k, st', o, r, h, g⟩ => ?_⟩
  · rw [ev] at h
    unfold varV at h
    split at h
    · rename_i w hw
      obtain ⟨v', h1, h2⟩ := r.at_ i w hw
      simp only at h
      split at h
      · cases h
      · rename_i nf
        cases h
        exact ⟨v', h1, g μ H v' StX.refl o h2 (by cases h2 <;> first | trivial | exact absurd rfl (nf _))⟩
    · cases h
  · rw [ev] at h
    unfold varV at h
    split at h
    · rename_i w hw
      obtain ⟨v', h1, h2⟩ := r.at_ i w hw
      cases h
      exact ⟨v', h1, g μ H v' StX.refl o h2⟩
    · cases h
  · rw [ev] at h
    unfold varV at h
    split at h
    · rename_i w hw
      obtain ⟨v', h1, h2⟩ := r.at_ i w hw
      simp only at h
      obtain ⟨k', st2, h3, h4⟩ := bind_ok h
      obtain ⟨h5, rfl⟩ := opt_ok h3
      cases h4
      exact ⟨v', h1, k, truth_at o h2 h5, g μ H StX.refl o⟩
    · cases h
theorem se_neg {a : ME} {x : Expr} {pos : Pos} (ha : SE X call a x) : SE X call (.neg a) (.UnaryOp .USub x pos) := by
  refine .plain (fun env st => (ev call a .val env st).bind fun x st1 => match x with
    | .int i => .ok (.int (-i)) st1
    | _ => .bad) ((pe_un un_neg ha.val).imp fun σ H Q ⟨μ, env, st, v, st', o, r, h, g⟩ => ?_) (fun md env st => ?_) fun _ => rfl
  · obtain ⟨x1, st1, h1, h2⟩ := bind_ok h
    split at h2
    · cases h2
      refine ⟨μ, env, st, _, _, o, r, h1, fun μ1 H1 x' s1 o1 r1 _ => ?_⟩
      cases r1
      exact ⟨_, rfl, g μ1 H1 _ s1 o1 (.int _) trivial⟩
    · cases h2
  · rw [ev, bind_assoc]
    congr 1
    funext x1 st1
    cases x1 <;> rfl
end
end U

set_option maxHeartbeats 4000000
/-! U7: comparisons, tests, displays, arguments, calls. -/
namespace U
open PySem PySem.Spec PyProof.Rows L2
section
variable {K : PySem.W.Frag} {μ : Nat → Addr} {L : Nat} {H : Hp} {X : Cx} {e : Expr} {call : Nat → List PV → Store → Res PV} {m : ME}
/-- the reading of a comparison's two operands -/
theorem cmp_imp {a b : ME} {f : PV → PV → Store → Option Bool} (σ : L2.St) (H : Hp) (Q : Bool → Hp → Prop)
    (q : ∃ μ env st k st', Ok X.K μ st H ∧ RE X.K μ st.length H env σ ∧ ((ev call a .use env st).bind fun x st1 => (ev call b .use env st1).bind fun y st2 => (opt (f x y st2) st2).bind fun k st3 => Res.ok (PV.bl k) st3) = Res.ok (PV.bl k) st' ∧
      ∀ μ' H', Stp μ st.length H μ' st'.length H' → Ok X.K μ' st' H' → Q k H') :
    tOp (rC X.K f) (rdU X.K (ev call a .use)) (rdU X.K (ev call b .use)) σ H fun v H' => ∃ k, v = .bl k ∧ Q k H' := by
  obtain ⟨μ, env, st, k, st', o, r, h, g⟩ := q
  obtain ⟨x1, st1, h1, h2⟩ := bind_ok h
  obtain ⟨y1, st2, h3, h4⟩ := bind_ok h2
  obtain ⟨k1, st3, h5, h6⟩ := bind_ok h4
  obtain ⟨h7, rfl⟩ := opt_ok h5
  cases h6
  exact ⟨μ, env, st, x1, st1, o, r, h1, fun μ1 H1 x' s1 o1 r1 => ⟨μ1, env, st1, y1, _, o1, r.mono s1, h3, fun μ2 H2 y' s2 o2 r2 => ⟨μ2, _, x1, y1, _, o2, r1.mono0 s2, r2, h7, _, rfl, g μ2 H2 (Stp.trans s1 s2) o2⟩⟩⟩
/-- a value that is a bool, from the wish of a bool -/
theorem rd_bl {core : En → Store → Res PV} {t : TE} (hb : ∀ env st v st', core env st = .ok v st' → ∃ k, v = .bl k)
    (i : ∀ σ H (Q : Bool → Hp → Prop), rdT K core σ H Q → t σ H fun v H' => ∃ k, v = .bl k ∧ Q k H') (mono : ∀ σ H (Q Q' : VK), (∀ v H', Q v H' → Q' v H') → t σ H Q → t σ H Q') : ∀ σ H Q, rd K core σ H Q → t σ H Q := fun σ H Q ⟨μ, env, st, v, st', o, r, h, g⟩ => by
  obtain ⟨k, rfl⟩ := hb env st v st' h
  refine mono σ H _ _ (fun v H' ⟨k', e, q⟩ => ?_) (i σ H (fun k' H' => Q (.bl k') H') ⟨μ, env, st, k, st', o, r, h, fun μ' H' s o' => g μ' H' _ s o' (.bl k) trivial⟩)
  subst e
  exact q
theorem rdU_mono {core : En → Store → Res PV} (σ : L2.St) (H : Hp) (Q Q' : VK) (i : ∀ v H', Q v H' → Q' v H') : rdU K core σ H Q → rdU K core σ H Q' := fun ⟨μ, env, st, v, st', o, r, h, g⟩ => ⟨μ, env, st, v, st', o, r, h, fun μ' H' v' s o' r' => i _ _ (g μ' H' v' s o' r')⟩
theorem rC_mono {f : PV → PV → Store → Option Bool} (x y : V) (H : Hp) (Q Q' : VK) (i : ∀ v H', Q v H' → Q' v H') : rC K f x y H Q → rC K f x y H Q' := fun ⟨μ, st, a, b, k, o, r1, r2, h, g⟩ => ⟨μ, st, a, b, k, o, r1, r2, h, i _ _ g⟩
theorem cmp_bl {a b : ME} {f : PV → PV → Store → Option Bool} (env : En) (st : Store) (v : PV) (st' : Store) (h : ((ev call a .use env st).bind fun x st1 => (ev call b .use env st1).bind fun y st2 => (opt (f x y st2) st2).bind fun k st3 => Res.ok (PV.bl k) st3) = Res.ok v st') : ∃ k, v = PV.bl k := by
  obtain ⟨x1, st1, h1, h2⟩ := bind_ok h
  obtain ⟨y1, st2, h3, h4⟩ := bind_ok h2
  obtain ⟨k1, st3, h5, h6⟩ := bind_ok h4
  cases h6
  exact ⟨k1, rfl⟩
theorem se_cmp {o : COp} {a b : ME} {x y : Expr} {pos : Pos} (ha : SE X call a x) (hb : SE X call b y) (hm : behindInMarks (cop o) y = false) : SE X call (.cmp o a b) (.Compare x [cop o] [y] pos) := by
  refine .bool ?_ (fun env st => by rw [ev, ev]) ?_
  · refine (pe_cmpR (op_cmp o) ha.use hb.use hm).imp ?_
    refine rd_bl (fun env st v st' h => by rw [ev] at h; exact cmp_bl env st v st' h) (fun σ H Q ⟨μ, env, st, k, st', o, r, h, g⟩ => by rw [ev] at h; exact cmp_imp σ H Q ⟨μ, env, st, k, st', o, r, h, g⟩) ?_
    exact fun σ H Q Q' i q => rdU_mono σ H _ _ (fun x' H1 q1 => rdU_mono σ H1 _ _ (fun y' H2 q2 => rC_mono x' y' H2 Q Q' i q2) q1) q
  · exact (pt_cmpR (op_cmp o) ha.use hb.use hm).imp fun σ H Q ⟨μ, env, st, k, st', o, r, h, g⟩ => by
      rw [ev] at h
      exact cmp_imp σ H Q ⟨μ, env, st, k, st', o, r, h, g⟩

/-- a < b < c -/
theorem cmp2_imp {a b c : ME} {f f' : PV → PV → Store → Option Bool} (σ : L2.St) (H : Hp) (Q : Bool → Hp → Prop)
    (q : ∃ μ env st k st', Ok X.K μ st H ∧ RE X.K μ st.length H env σ ∧ ((ev call a .use env st).bind fun x st1 => (ev call b .use env st1).bind fun y st2 => (opt (f x y st2) st2).bind fun k st3 =>
      if k then (ev call c .use env st3).bind fun z st4 => (opt (f' y z st4) st4).bind fun k' st5 => Res.ok (PV.bl k') st5 else Res.ok (PV.bl false) st3) = Res.ok (PV.bl k) st' ∧
      ∀ μ' H', Stp μ st.length H μ' st'.length H' → Ok X.K μ' st' H' → Q k H') :
    tChain (rC X.K f) (rC X.K f') (rdU X.K (ev call a .use)) (rdU X.K (ev call b .use)) (rdU X.K (ev call c .use)) σ H fun v H' => ∃ k, v = .bl k ∧ Q k H' := by
  obtain ⟨μ, env, st, k, st', o, r, h, g⟩ := q
  obtain ⟨x1, st1, h1, h2⟩ := bind_ok h
  obtain ⟨y1, st2, h3, h4⟩ := bind_ok h2
  obtain ⟨k1, st3, h5, h6⟩ := bind_ok h4
  obtain ⟨h7, rfl⟩ := opt_ok h5
  refine ⟨μ, env, st, x1, st1, o, r, h1, fun μ1 H1 x' s1 o1 r1 => ⟨μ1, env, st1, y1, st2, o1, r.mono s1, h3, fun μ2 H2 y' s2 o2 r2 => ⟨μ2, st2, x1, y1, k1, o2, r1.mono0 s2, r2, h7, k1, rfl, ?_⟩⟩⟩
  cases k1 with
  | false =>
    cases h6
    exact iteF ⟨false, rfl, g μ2 H2 (Stp.trans s1 s2) o2⟩
  | true =>
    obtain ⟨z1, st4, h8, h9⟩ := bind_ok h6
    obtain ⟨k2, st5, h10, h11⟩ := bind_ok h9
    obtain ⟨h12, rfl⟩ := opt_ok h10
    cases h11
    exact iteT ⟨μ2, env, _, z1, _, o2, r.mono (Stp.trans s1 s2), h8, fun μ3 H3 z' s3 o3 r3 => ⟨μ3, _, y1, z1, _, o3, r2.mono0 s3, r3, h12, _, rfl, g μ3 H3 (Stp.trans s1 (Stp.trans s2 s3)) o3⟩⟩
theorem cmp2_bl {a b c : ME} {f f' : PV → PV → Store → Option Bool} (env : En) (st : Store) (v : PV) (st' : Store) (h : ((ev call a .use env st).bind fun x st1 => (ev call b .use env st1).bind fun y st2 => (opt (f x y st2) st2).bind fun k st3 =>
      if k then (ev call c .use env st3).bind fun z st4 => (opt (f' y z st4) st4).bind fun k' st5 => Res.ok (PV.bl k') st5 else Res.ok (PV.bl false) st3) = Res.ok v st') : ∃ k, v = PV.bl k := by
  obtain ⟨x1, st1, h1, h2⟩ := bind_ok h
  obtain ⟨y1, st2, h3, h4⟩ := bind_ok h2
  obtain ⟨k1, st3, h5, h6⟩ := bind_ok h4
  cases k1 with
  | false => cases h6; exact ⟨false, rfl⟩
  | true =>
    obtain ⟨z1, st4, h8, h9⟩ := bind_ok h6
    obtain ⟨k2, st5, h10, h11⟩ := bind_ok h9
    cases h11
    exact ⟨k2, rfl⟩
theorem se_cmp2 {o o' : COp} {a b c : ME} {x y z : Expr} {pos : Pos} (ha : SE X call a x) (hb : SE X call b y) (hc : SE X call c z) (hm : lastMarks [cop o, cop o'] [y, z] = false) :
    SE X call (.cmp2 o o' a b c) (.Compare x [cop o, cop o'] [y, z] pos) := by
  refine .bool ?_ (fun env st => by rw [ev, ev]) ?_
  · refine (pe_chain (op_cmp o) (op_cmp o') ha.use hb.use hc.use hm).imp ?_
    refine rd_bl (fun env st v st' h => by rw [ev] at h; exact cmp2_bl env st v st' h) (fun σ H Q ⟨μ, env, st, k, st', o, r, h, g⟩ => by rw [ev] at h; exact cmp2_imp σ H Q ⟨μ, env, st, k, st', o, r, h, g⟩) ?_
    refine fun σ H Q Q' i q => rdU_mono σ H _ _ (fun x' H1 q1 => rdU_mono σ H1 _ _ (fun y' H2 q2 => rC_mono x' y' H2 _ _ (fun v H3 ⟨k, e, q3⟩ => ⟨k, e, ?_⟩) q2) q1) q
    cases k with
    | false => exact iteF (i _ _ (by simpa using q3))
    | true => exact iteT (rdU_mono σ H3 _ _ (fun z' H4 q4 => rC_mono y' z' H4 _ _ i q4) (by simpa using q3))
  · exact (pt_chain (op_cmp o) (op_cmp o') ha.use hb.use hc.use hm).imp fun σ H Q ⟨μ, env, st, k, st', o, r, h, g⟩ => by
      rw [ev] at h
      exact cmp2_imp σ H Q ⟨μ, env, st, k, st', o, r, h, g⟩

/-! ### not, and, or, if -/
theorem ev_not1 {a : ME} {env : En} {st : Store} : ev call (.not a) .test env st = (ev call a .test env st).bind fun x st1 => (opt (isBl x) st1).bind fun k st2 => .ok (.bl (!k)) st2 := rfl
theorem ev_not2 {a : ME} {env : En} {st : Store} : ev call (.not a) .val env st = (ev call a .use env st).bind fun x st1 => (opt (truth x st1) st1).bind fun k st2 => .ok (.bl (!k)) st2 := rfl
theorem ev_not3 {a : ME} {env : En} {st : Store} : ev call (.not a) .use env st = (ev call a .use env st).bind fun x st1 => (opt (truth x st1) st1).bind fun k st2 => .ok (.bl (!k)) st2 := rfl
theorem se_not {a : ME} {x : Expr} {pos : Pos} (ha : SE X call a x) : SE X call (.not a) (.UnaryOp .Not x pos) := by
  refine .bool ((pe_notT ha.use).imp fun σ H Q ⟨μ, env, st, v, st', o, r, h, g⟩ => ?_) (fun env st => ev_not3.trans ev_not2.symm) ((pt_not ha.test).imp fun σ H Q ⟨μ, env, st, k, st', o, r, h, g⟩ => ?_)
  · rw [ev_not2] at h
    obtain ⟨x1, st1, h1, h2⟩ := bind_ok h
    obtain ⟨k1, st2, h3, h4⟩ := bind_ok h2
    obtain ⟨h5, rfl⟩ := opt_ok h3
    cases h4
    exact ⟨μ, env, st, x1, _, o, r, h1, fun μ1 H1 x' s1 o1 r1 => ⟨k1, truth_at o1 r1 h5, g μ1 H1 _ s1 o1 (.bl _) trivial⟩⟩
  · rw [ev_not1] at h
    obtain ⟨x1, st1, h1, h2⟩ := bind_ok h
    obtain ⟨k1, st2, h3, h4⟩ := bind_ok h2
    obtain ⟨h5, rfl⟩ := opt_ok h3
    cases isBl_ok h5
    cases h4
    exact ⟨μ, env, st, k1, _, o, r, h1, g⟩
/-- a chain of and, or: its test whatever its whole is -/
structure SB (X : Cx) (call : Nat → List PV → Store → Res PV) (m : ME) (e : Expr) : Prop where
  val : PE X e (rd X.K (ev call m .val))
  use : PE X e (rdU X.K (ev call m .use))
  test : PW X e (rdT X.K (ev call m .test))
theorem SB.se {m : ME} {e : Expr} (h : SB X call m e) : SE X call m e := ⟨h.val, h.use, h.test.pt⟩
theorem SE.one {m : ME} {x : Expr} {op : BoolOp} {pos : Pos} (h : SE X call m x) : SB X call m (.BoolOp op [x] pos) := by
  refine ⟨pe_one h.val, pe_one h.use, ?_⟩
  cases op with
  | And => exact pw_and1 h.test
  | Or => exact pw_or1 h.test
theorem sb_and {a b : ME} {x y : Expr} {ys : List Expr} {pos : Pos} (ha : SE X call a x) (hb : SB X call b (.BoolOp .And (y :: ys) pos)) : SB X call (.and a b) (.BoolOp .And (x :: y :: ys) pos) := by
  refine ⟨(pe_and ha.val hb.val).imp fun σ H Q ⟨μ, env, st, v, st', o, r, h, g⟩ => ?_, (pe_and ha.use hb.use).imp fun σ H Q ⟨μ, env, st, v, st', o, r, h, g⟩ => ?_, (pw_and ha.test hb.test).imp fun σ H Q ⟨μ, env, st, k, st', o, r, h, g⟩ => ?_⟩
  all_goals
    rw [ev] at h
    obtain ⟨x1, st1, h1, h2⟩ := bind_ok h
    obtain ⟨k1, st2, h3, h4⟩ := bind_ok h2
    obtain ⟨h5, rfl⟩ := opt_ok h3
    cases isBl_ok h5
  · refine ⟨μ, env, st, _, _, o, r, h1, fun μ1 H1 x' s1 o1 r1 _ => ?_⟩
    cases r1
    refine ⟨k1, rfl, ?_⟩
    cases k1 with
    | true => exact iteT ⟨μ1, env, _, v, st', o1, r.mono s1, h4, fun μ2 H2 v' s2 o2 r2 f2 => g μ2 H2 v' (Stp.trans s1 s2) o2 r2 (f2.back s1)⟩
    | false => cases h4; exact iteF (g μ1 H1 _ s1 o1 (.bl _) trivial)
  · refine ⟨μ, env, st, _, _, o, r, h1, fun μ1 H1 x' s1 o1 r1 => ?_⟩
    cases r1
    refine ⟨k1, rfl, ?_⟩
    cases k1 with
    | true => exact iteT ⟨μ1, env, _, v, st', o1, r.mono s1, h4, fun μ2 H2 v' s2 o2 r2 => g μ2 H2 v' (Stp.trans s1 s2) o2 r2⟩
    | false => cases h4; exact iteF (g μ1 H1 _ s1 o1 (.bl _))
  · refine ⟨μ, env, st, k1, _, o, r, h1, fun μ1 H1 s1 o1 => ?_⟩
    cases k1 with
    | true => exact iteT ⟨μ1, env, _, k, st', o1, r.mono s1, h4, fun μ2 H2 s2 o2 => g μ2 H2 (Stp.trans s1 s2) o2⟩
    | false => cases h4; exact iteF (g μ1 H1 s1 o1)
theorem sb_or {a b : ME} {x y : Expr} {ys : List Expr} {pos : Pos} (ha : SE X call a x) (hb : SB X call b (.BoolOp .Or (y :: ys) pos)) : SB X call (.or a b) (.BoolOp .Or (x :: y :: ys) pos) := by
  refine ⟨(pe_or ha.val hb.val).imp fun σ H Q ⟨μ, env, st, v, st', o, r, h, g⟩ => ?_, (pe_or ha.use hb.use).imp fun σ H Q ⟨μ, env, st, v, st', o, r, h, g⟩ => ?_, (pw_or ha.test hb.test).imp fun σ H Q ⟨μ, env, st, k, st', o, r, h, g⟩ => ?_⟩
  all_goals
    rw [ev] at h
    obtain ⟨x1, st1, h1, h2⟩ := bind_ok h
    obtain ⟨k1, st2, h3, h4⟩ := bind_ok h2
    obtain ⟨h5, rfl⟩ := opt_ok h3
    cases isBl_ok h5
  · refine ⟨μ, env, st, _, _, o, r, h1, fun μ1 H1 x' s1 o1 r1 _ => ?_⟩
    cases r1
    refine ⟨k1, rfl, ?_⟩
    cases k1 with
    | false => exact iteF ⟨μ1, env, _, v, st', o1, r.mono s1, h4, fun μ2 H2 v' s2 o2 r2 f2 => g μ2 H2 v' (Stp.trans s1 s2) o2 r2 (f2.back s1)⟩
    | true => cases h4; exact iteT (g μ1 H1 _ s1 o1 (.bl _) trivial)
  · refine ⟨μ, env, st, _, _, o, r, h1, fun μ1 H1 x' s1 o1 r1 => ?_⟩
    cases r1
    refine ⟨k1, rfl, ?_⟩
    cases k1 with
    | false => exact iteF ⟨μ1, env, _, v, st', o1, r.mono s1, h4, fun μ2 H2 v' s2 o2 r2 => g μ2 H2 v' (Stp.trans s1 s2) o2 r2⟩
    | true => cases h4; exact iteT (g μ1 H1 _ s1 o1 (.bl _))
  · refine ⟨μ, env, st, k1, _, o, r, h1, fun μ1 H1 s1 o1 => ?_⟩
    cases k1 with
    | false => exact iteF ⟨μ1, env, _, k, st', o1, r.mono s1, h4, fun μ2 H2 s2 o2 => g μ2 H2 (Stp.trans s1 s2) o2⟩
    | true => cases h4; exact iteT (g μ1 H1 s1 o1)

/-! ### arguments and displays -/
/-- an argument list's two readings -/
structure SA (X : Cx) (call : Nat → List PV → Store → Res PV) (as : MEs) (es : List Expr) : Prop where
  kept : PA X es (rdA X.K (evA call as))
  used : PA X es (rdC X.K (evCs call as))
theorem sa_nil : SA X call .nil [] := by
  refine ⟨pa_nil.imp fun σ H Q ⟨μ, env, st, v, st', o, r, h, g⟩ => ?_, pa_nil.imp fun σ H Q ⟨μ, env, st, v, st', o, r, h, g⟩ => ?_⟩
  · rw [evA] at h; cases h
    exact g μ H [] StX.refl o .nil
  · rw [evCs] at h; cases h
    exact g μ H [] StX.refl o .nil
theorem sa_cons {a : ME} {as : MEs} {x : Expr} {xs : List Expr} (ha : SE X call a x) (hs : SA X call as xs) (he : starEach (x :: xs) X.env = (false, eval x X.env) :: starEach xs X.env) : SA X call (.cons a as) (x :: xs) := by
  refine ⟨(pa_cons ha.val hs.kept he).imp fun σ H Q ⟨μ, env, st, v, st', o, r, h, g⟩ => ?_, (pa_cons ha.use hs.used he).imp fun σ H Q ⟨μ, env, st, v, st', o, r, h, g⟩ => ?_⟩
  · rw [evA] at h
    obtain ⟨x1, st1, h1, h2⟩ := bind_ok h
    obtain ⟨y1, st2, h3, h4⟩ := bind_ok h2
    cases h4
    refine ⟨μ, env, st, x1, st1, o, r, h1, fun μ1 H1 x' s1 o1 r1 f1 => ?_⟩
    obtain ⟨μe, se, oe, re, fe, _⟩ := Ok.esc s1 o1 r1 f1
    exact ⟨μe, env, _, y1, st', oe, r.mono se, h3, fun μ2 H2 ys s2 o2 r2 => g μ2 H2 _ (Stp.trans se s2) o2 (.cons fe (re.mono0 s2) r2)⟩
  · rw [evCs] at h
    obtain ⟨x1, st1, h1, h2⟩ := bind_ok h
    obtain ⟨y1, st2, h3, h4⟩ := bind_ok h2
    cases h4
    exact ⟨μ, env, st, x1, st1, o, r, h1, fun μ1 H1 x' s1 o1 r1 => ⟨μ1, env, st1, y1, st', o1, r.mono s1, h3, fun μ2 H2 ys s2 o2 r2 => g μ2 H2 _ (Stp.trans s1 s2) o2 (.cons (r1.mono0 s2) r2)⟩⟩
theorem se_tup {as : MEs} {es : List Expr} {k : Nat} {pos : Pos} (hs : SA X call as es) : SE X call (.tup as) (.Tuple es k pos) := by
  refine .plain (fun env st => (evA call as env st).bind fun xs st1 => if xs.length ≤ sizeLine then .ok (.tup xs) st1 else .bad) ((pe_tup hs.kept).imp fun σ H Q ⟨μ, env, st, v, st', o, r, h, g⟩ => ?_) (fun md env st => ?_) fun _ => rfl
  · obtain ⟨xs, st1, h1, h2⟩ := bind_ok h
    split at h2
    · rename_i hz
      cases h2
      refine ⟨μ, env, st, xs, st', o, r, h1, fun μ1 H1 vs s1 o1 r1 => ⟨by rw [← r1.len]; exact hz, fun p hp => ?_⟩⟩
      exact g μ1 _ _ (Stp.trans s1 (Stp.laid hp)) (o1.laid hp) (.tup (SqT.of upd_same) (RVs.mono (Stp.laid hp) r1)) trivial
    · cases h2
  · rw [ev, bind_assoc]
    congr 1
    funext xs st1
    split <;> rfl
theorem se_lst {as : MEs} {es : List Expr} {pos : Pos} (hs : SA X call as es) : SE X call (.lst as) (.List es pos) := by
  refine .plain (fun env st => (evA call as env st).bind fun xs st1 => if xs.length ≤ sizeLine then .ok (.fl xs) st1 else .bad) ((pe_lst hs.kept).imp fun σ H Q ⟨μ, env, st, v, st', o, r, h, g⟩ => ?_) (fun md env st => ?_) fun _ => rfl
  · obtain ⟨xs, st1, h1, h2⟩ := bind_ok h
    split at h2
    · rename_i hz
      cases h2
      refine ⟨μ, env, st, xs, st', o, r, h1, fun μ1 H1 vs s1 o1 r1 => ⟨by rw [← r1.len]; exact hz, fun p hp => ?_⟩⟩
      exact g μ1 _ _ (Stp.trans s1 (Stp.laid hp)) (o1.laid hp) (.fl upd_same (o1.apart hp) (RVs.mono (Stp.laid hp) r1)) (s1.there _ hp)
    · cases h2
  · rw [ev, bind_assoc]
    congr 1
    funext xs st1
    split <;> rfl

/-! ### calls of built-ins -/
theorem se_bi {f : BF} {as : MEs} {es : List Expr} {g : Expr} (hs : SA X call as es) (h : ∀ {r : List V → Hp → VK → Prop} {t : TA}, CallR X (bfn f) r → PA X es t → PE X g (tCB r t)) (hc : X.calm = true)
    (he : ∀ whole, isTrue g X.env whole = (do let v ← whole; standAt g.pos; holding [v] (truthy v))) : SE X call (.bi f as) g := by
  refine .plain (fun env st => (evCs call as env st).bind fun xs st1 => opt (biV f xs st1) st1) ((h (op_bi hc f) hs.used).imp fun σ H Q ⟨μ, env, st, v, st', o, r, h, g⟩ => ?_) (fun md env st => by rw [ev, bind_assoc]) he
  obtain ⟨xs, st1, h1, h2⟩ := bind_ok h
  obtain ⟨h3, rfl⟩ := opt_ok h2
  exact ⟨μ, env, st, xs, _, o, r, h1, fun μ1 H1 vs s1 o1 r1 => ⟨μ1, _, xs, v, o1, r1, h3, fun H2 v' s2 o2 r2 f2 => g μ1 H2 v' (Stp.trans s1 s2) o2 r2 (f2.back s1)⟩⟩
end
end U

set_option maxHeartbeats 4000000
/-! U8: calls, methods, slices, what is walked. -/
namespace U
open PySem PySem.Spec PyProof.Rows L2
/-- a def's promise: what the program yields -/
def spEv (K : PySem.W.Frag) (cf : List PV → Store → Res PV) : Sp := fun vs H Q _ => ∃ μ st as v st', Ok K μ st H ∧ RVs K μ st.length H as vs ∧ cf as st = .ok v st' ∧
  ∀ μ' H' v', Stp μ st.length H μ' st'.length H' → Ok K μ' st' H' → RV K μ' st'.length H' v v' → Fr H v v' → Q v' H'
section
variable {K : PySem.W.Frag} {μ : Nat → Addr} {L : Nat} {H : Hp} {X : Cx} {e : Expr} {call : Nat → List PV → Store → Res PV} {m : ME}
theorem ev_iteV {t a b : ME} {env : En} {st : Store} : ev call (.ite t a b) .val env st = (ev call t .test env st).bind fun x st1 => (opt (isBl x) st1).bind fun k st2 => if k then ev call a .val env st2 else ev call b .val env st2 := rfl
theorem ev_iteU {t a b : ME} {env : En} {st : Store} : ev call (.ite t a b) .use env st = (ev call t .test env st).bind fun x st1 => (opt (isBl x) st1).bind fun k st2 => if k then ev call a .use env st2 else ev call b .use env st2 := rfl
/-- an own def -/
theorem se_fn {f : Nat} {as : MEs} {es : List Expr} {g : Expr} (hs : SA X call as es) (h : ∀ {t : TA}, PA X es t → PE X g (fun σ H Q => t σ H fun vs H1 => spEv X.K (call f) vs H1 Q E0))
    (he : ∀ whole, isTrue g X.env whole = (do let v ← whole; standAt g.pos; holding [v] (truthy v))) : SE X call (.fn f as) g := by
  refine .plain (fun env st => (evA call as env st).bind fun xs st1 => call f xs st1) ((h hs.kept).imp fun σ H Q ⟨μ, env, st, v, st', o, r, h, g⟩ => ?_) (fun md env st => by rw [ev, bind_assoc]) he
  obtain ⟨xs, st1, h1, h2⟩ := bind_ok h
  exact ⟨μ, env, st, xs, _, o, r, h1, fun μ1 H1 vs s1 o1 r1 => ⟨μ1, _, xs, v, st', o1, r1, h2, fun μ2 H2 v' s2 o2 r2 f2 => g μ2 H2 v' (Stp.trans s1 s2) o2 r2 (f2.back s1)⟩⟩
theorem Ok.held {st : Store} {n : Nat} (o : Ok K μ st H) (hn : n < st.length) : ∃ vs, H (μ n) = some (.lst vs) := by
  have : ∃ xs, st[n]? = some (.lst xs) := by
    rw [List.getElem?_eq_getElem hn]
    cases st[n] with
    | lst xs => exact ⟨xs, rfl⟩
  obtain ⟨zs, hz⟩ := this
  obtain ⟨vs, h1, _⟩ := o.cell n zs hz
  exact ⟨vs, h1⟩
/-- a method of a list or text -/
def mty : MF → String
  | .append => "list" | .split => "str" | .partition => "str" | .join => "str"
theorem mt_ty {f : MF} {x : PV} {xs : List PV} {st st1 st' : Store} {v : PV} {x' : V} (h : mtV f x xs st = .ok v st') (o : Ok K μ st1 H) (r : RV K μ st1.length H x x') : tyV K (mty f) x' H := by
  unfold mtV at h
  split at h
  · cases r with
    | loc hn =>
      obtain ⟨vs, h1⟩ := o.held hn
      exact .inl ⟨rfl, vs, SqL.of h1⟩
  · cases r; exact rfl
  · cases r; exact rfl
  · cases r; exact rfl
  · cases h
theorem se_mt {f : MF} {ob : ME} {as : MEs} {x : Expr} {es : List Expr} {g : Expr} (ho : SE X call ob x) (hs : SA X call as es)
    (h : ∀ {r : V → List V → Hp → VK → Prop} {to : TE} {t : TA}, MtR X (mfn f) r → PE X x to → PA X es t → PE X g (tBM X.K (mty f) r to t))
    (he : ∀ whole, isTrue g X.env whole = (do let v ← whole; standAt g.pos; holding [v] (truthy v))) : SE X call (.mt f ob as) g := by
  refine .plain (fun env st => (ev call ob .use env st).bind fun x st1 => (evCs call as env st1).bind fun xs st2 => mtV f x xs st2) ((h (op_mt f) ho.use hs.used).imp fun σ H Q ⟨μ, env, st, v, st', o, r, h, g⟩ => ?_) (fun md env st => by rw [ev]; simp only [bind_assoc]) he
  obtain ⟨x1, st1, h1, h2⟩ := bind_ok h
  obtain ⟨xs, st2, h3, h4⟩ := bind_ok h2
  exact ⟨μ, env, st, x1, st1, o, r, h1, fun μ1 H1 x' s1 o1 r1 => ⟨mt_ty h4 o1 r1, μ1, env, st1, xs, st2, o1, r.mono s1, h3, fun μ2 H2 vs s2 o2 r2 =>
    ⟨μ2, st2, x1, xs, v, st', o2, r1.mono0 s2, r2, h4, fun H3 v' s3 o3 r3 f3 => g μ2 H3 v' (Stp.trans s1 (Stp.trans s2 s3)) o3 r3 (f3.back (Stp.trans s1 s2))⟩⟩⟩
/-- a slice's bounds -/
theorem po_absent {l : ME} (ha : l.absent = true) : PO X none (rdO X.K (ev call l .val) l.absent) := by
  refine po_none.imp fun σ H Q ⟨μ, env, st, v, st', b, o, r, h, hb, g⟩ => ?_
  unfold ME.absent at ha
  split at ha
  · rw [ev] at h
    cases h
    cases hb
    exact g μ H StX.refl o
  · cases ha
theorem po_there {l : ME} {x : Expr} (ha : l.absent = false) (hl : SE X call l x) : PO X (some x) (rdO X.K (ev call l .val) l.absent) := by
  refine (po_some hl.val).imp fun σ H Q ⟨μ, env, st, v, st', b, o, r, h, hb, g⟩ => ⟨μ, env, st, v, st', o, r, h, fun μ1 H1 v' s1 o1 r1 _ => ?_⟩
  rw [ha] at hb
  unfold bound at hb
  split at hb
  · contradiction
  · cases hb
    cases r1
    exact ⟨_, rfl, g μ1 H1 s1 o1⟩
  · cases hb
theorem se_sl {a lo hi : ME} {x : Expr} {l h : Option Expr} {pos p2 : Pos} (ha : SE X call a x) (hl : PO X l (rdO X.K (ev call lo .val) lo.absent)) (hh : PO X h (rdO X.K (ev call hi .val) hi.absent)) :
    SE X call (.sl a lo hi) (.Subscript x (.Slice l h none p2) pos) := by
  refine .plain (fun env st => (ev call a .use env st).bind fun x st1 => (ev call lo .val env st1).bind fun l st2 => (ev call hi .val env st2).bind fun h st3 =>
      (opt (bound lo.absent l) st3).bind fun l' st4 => (opt (bound hi.absent h) st4).bind fun h' st5 => opt (slV x l' h' st5) st5) ((pe_slice op_sl ha.use hl hh).imp fun σ H Q ⟨μ, env, st, v, st', o, r, h, g⟩ => ?_) (fun md env st => by rw [ev]; simp only [bind_assoc]) fun _ => rfl
  obtain ⟨x1, st1, h1, h2⟩ := bind_ok h
  obtain ⟨l1, st2, h3, h4⟩ := bind_ok h2
  obtain ⟨k1, st3, h5, h6⟩ := bind_ok h4
  obtain ⟨b1, st4, h7, h8⟩ := bind_ok h6
  obtain ⟨h9, rfl⟩ := opt_ok h7
  obtain ⟨b2, st5, h10, h11⟩ := bind_ok h8
  obtain ⟨h12, rfl⟩ := opt_ok h10
  obtain ⟨h13, rfl⟩ := opt_ok h11
  exact ⟨μ, env, st, x1, st1, o, r, h1, fun μ1 H1 x' s1 o1 r1 => ⟨μ1, env, st1, l1, st2, b1, o1, r.mono s1, h3, h9, fun μ2 H2 s2 o2 => ⟨μ2, env, st2, k1, _, b2, o2, r.mono (Stp.trans s1 s2), h5, h12, fun μ3 H3 s3 o3 =>
    ⟨μ3, _, x1, v, o3, r1.mono0 (Stp.trans s2 s3), h13, fun H4 v' s4 o4 r4 f4 => g μ3 H4 v' (Stp.trans s1 (Stp.trans s2 (Stp.trans s3 s4))) o4 r4 (f4.back (Stp.trans s1 (Stp.trans s2 s3)))⟩⟩⟩⟩
theorem se_ite {t a b : ME} {c x y : Expr} {pos : Pos} (ht : SE X call t c) (ha : SE X call a x) (hb : SE X call b y) (X' : PT X (.IfExp c x y pos) (fun _ _ _ => False)) : SE X call (.ite t a b) (.IfExp c x y pos) := by
  refine ⟨(pe_ifExp ht.test ha.val hb.val).imp fun σ H Q ⟨μ, env, st, v, st', o, r, h, g⟩ => ?_, (pe_ifExp ht.test ha.use hb.use).imp fun σ H Q ⟨μ, env, st, v, st', o, r, h, g⟩ => ?_, X'.imp fun σ H Q ⟨μ, env, st, v, st', o, r, h, g⟩ => ?_⟩
  · rw [ev_iteV] at h
    obtain ⟨x1, st1, h1, h2⟩ := bind_ok h
    obtain ⟨k1, st2, h3, h4⟩ := bind_ok h2
    obtain ⟨h5, rfl⟩ := opt_ok h3
    cases isBl_ok h5
    refine ⟨μ, env, st, k1, _, o, r, h1, fun μ1 H1 s1 o1 => ?_⟩
    cases k1 with
    | true => exact iteT ⟨μ1, env, _, v, st', o1, r.mono s1, h4, fun μ2 H2 v' s2 o2 r2 f2 => g μ2 H2 v' (Stp.trans s1 s2) o2 r2 (f2.back s1)⟩
    | false => exact iteF ⟨μ1, env, _, v, st', o1, r.mono s1, h4, fun μ2 H2 v' s2 o2 r2 f2 => g μ2 H2 v' (Stp.trans s1 s2) o2 r2 (f2.back s1)⟩
  · rw [ev_iteU] at h
    obtain ⟨x1, st1, h1, h2⟩ := bind_ok h
    obtain ⟨k1, st2, h3, h4⟩ := bind_ok h2
    obtain ⟨h5, rfl⟩ := opt_ok h3
    cases isBl_ok h5
    refine ⟨μ, env, st, k1, _, o, r, h1, fun μ1 H1 s1 o1 => ?_⟩
    cases k1 with
    | true => exact iteT ⟨μ1, env, _, v, st', o1, r.mono s1, h4, fun μ2 H2 v' s2 o2 r2 => g μ2 H2 v' (Stp.trans s1 s2) o2 r2⟩
    | false => exact iteF ⟨μ1, env, _, v, st', o1, r.mono s1, h4, fun μ2 H2 v' s2 o2 r2 => g μ2 H2 v' (Stp.trans s1 s2) o2 r2⟩
  · cases h
theorem pt_never : PT X e (fun _ _ _ => False) := ⟨fun _ _ _ _ _ _ h => h.elim⟩

/-! ### what is walked -/
inductive SrcR (K : PySem.W.Frag) (S : Addr → Prop) (μ : Nat → Addr) (L : Nat) (H : Hp) : It → Src → Prop
  | tup {a : Addr} {vs : List V} {xs : List PV} (h : SqT K H a vs) (r : RVs K μ L H xs vs) : SrcR K S μ L H (Itt K a) (.items xs)
  | own {a : Addr} {vs : List V} {xs : List PV} (h : H a = some (.lst vs)) (n : ∀ n, n < L → μ n ≠ a) (s : ¬ S a) (r : RVs K μ L H xs vs) : SrcR K S μ L H (Itl K a) (.items xs)
  | rol {a : Addr} {vs : List V} {xs : List PV} (h : Kl K H a vs) (r : RVs K μ L H xs vs) : SrcR K S μ L H (Itl K a) (.items xs)
  | live {n m : Nat} (h : n < L) : SrcR K S μ L H (Itl K (μ n)) (.live n m)
  | str {s : Str} : SrcR K S μ L H (Its s) (.items (s.cps.toList.map fun c => .str ⟨#[c]⟩))
  | rng {lo : Int} {n : Nat} : SrcR K S μ L H (Itr lo n) (.items ((List.range n).map fun (k : Nat) => .int (lo + k)))
theorem SrcR.mono {S S1 : Addr → Prop} {μ1 : Nat → Addr} {L1 : Nat} {H1 : Hp} {J : It} {src : Src} (s : StX S μ L H μ1 L1 H1) (h : SrcR K S μ L H J src) (hs : ∀ a, S1 a → S a ∨ H a = none) : SrcR K S1 μ1 L1 H1 J src := by
  cases h with
  | tup h r => exact .tup (s.sqT h) (r.mono s)
  | @own a vs xs h n hS r =>
    refine .own (s.keep _ _ h n hS) (fun k hk e => ?_) (fun z => ?_) (r.mono s)
    · by_cases hl : k < L
      · exact n k hl ((s.ext k hl).symm.trans e)
      · have := s.new k (by omega) hk
        rw [e, h] at this
        cases this
    · rcases hs _ z with z | z
      · exact hS z
      · rw [h] at z; cases z
  | rol h r => exact .rol (s.kl h) (r.mono s)
  | @live n m h =>
    have e := s.ext n h
    rw [← e]
    exact .live (Nat.lt_of_lt_of_le h s.le)
  | str => exact .str
  | rng => exact .rng
theorem SrcR.stop {S : Addr → Prop} {J : It} {src : Src} {st : Store} (h : SrcR K S μ st.length H J src) (o : Ok K μ st H) (f : src.fits st = true) : J.stop src.many H := by
  cases h with
  | tup h r => exact ⟨_, h, Nat.le_of_eq r.len.symm⟩
  | own h n hS r => exact ⟨_, SqL.of h, Nat.le_of_eq r.len.symm⟩
  | rol h r => exact ⟨_, h.sq, Nat.le_of_eq r.len.symm⟩
  | @live n m h =>
    unfold Src.fits at f
    simp only at f
    split at f
    · rename_i xs hx
      obtain ⟨a, vs, e, q, r⟩ := list_at o (.loc h) (show listOf (.loc n) st = some xs from hx)
      cases e
      refine ⟨vs, SqL.of q, ?_⟩
      have := r.len
      have h2 : xs.length = m := by simpa using f
      show vs.length ≤ m
      omega
    · cases f
  | str =>
    show _ ≤ _
    simp [Src.many]
  | rng =>
    show _ ≤ _
    simp [Src.many]
theorem SrcR.go {S : Addr → Prop} {J : It} {src : Src} {st : Store} {i : Nat} {x : PV} (h : SrcR K S μ st.length H J src) (o : Ok K μ st H) (f : src.get i st = some x) :
    J.go i H ∧ ∀ x' H', J.yld i H x' H' → H' = H ∧ RV K μ st.length H x x' ∧ x.isFl = false := by
  cases h with
  | tup h r =>
    obtain ⟨v, h1, h2, h3⟩ := r.get f
    exact ⟨⟨_, v, h, h1⟩, fun x' H' ⟨e, y⟩ => ⟨e, by rw [← Option.some.inj (h1.symm.trans (y _ h))]; exact h2, h3⟩⟩
  | own h n hS r =>
    obtain ⟨v, h1, h2, h3⟩ := r.get f
    exact ⟨⟨_, v, SqL.of h, h1⟩, fun x' H' ⟨e, y⟩ => ⟨e, by rw [← Option.some.inj (h1.symm.trans (y _ (SqL.of h)))]; exact h2, h3⟩⟩
  | rol h r =>
    obtain ⟨v, h1, h2, h3⟩ := r.get f
    exact ⟨⟨_, v, h.sq, h1⟩, fun x' H' ⟨e, y⟩ => ⟨e, by rw [← Option.some.inj (h1.symm.trans (y _ h.sq))]; exact h2, h3⟩⟩
  | @live n m h =>
    unfold Src.get at f
    simp only at f
    split at f
    · rename_i xs hx
      split at f
      · obtain ⟨a, vs, e, q, r⟩ := list_at o (.loc h) (show listOf (.loc n) st = some xs from hx)
        cases e
        obtain ⟨v, h1, h2, h3⟩ := r.get f
        exact ⟨⟨_, v, SqL.of q, h1⟩, fun x' H' ⟨e, y⟩ => ⟨e, by rw [← Option.some.inj (h1.symm.trans (y _ (SqL.of q)))]; exact h2, h3⟩⟩
      · cases f
    · cases f
  | @str s =>
    have f : (s.cps.toList.map fun c => PV.str ⟨#[c]⟩)[i]? = some x := f
    rw [List.getElem?_map] at f
    obtain ⟨c, h1, rfl⟩ := Option.map_eq_some_iff.mp f
    have h2 : s.cps[i]? = some c := by simpa using h1
    refine ⟨(Array.getElem?_eq_some_iff.mp h2).1, fun x' H' ⟨e, c', y1, y2⟩ => ⟨e, ?_, rfl⟩⟩
    rw [h2] at y1
    cases y1
    rw [y2]
    exact .str _
  | @rng lo n =>
    have f : ((List.range n).map fun (k : Nat) => PV.int (lo + k))[i]? = some x := f
    rw [List.getElem?_map] at f
    obtain ⟨c, h1, rfl⟩ := Option.map_eq_some_iff.mp f
    obtain ⟨h2, h3⟩ := List.getElem?_eq_some_iff.mp h1
    rw [List.getElem_range] at h3
    subst h3
    exact ⟨show i < n by simpa using h2, fun x' H' ⟨e, y⟩ => ⟨e, by rw [y]; exact .int _, rfl⟩⟩
end
end U

set_option maxHeartbeats 4000000
/-! U9: targets, what a comprehension walks, comprehensions. -/
namespace U
open PySem PySem.Spec PyProof.Rows L2
section
variable {K : PySem.W.Frag} {μ : Nat → Addr} {L : Nat} {H : Hp} {X : Cx} {e : Expr} {call : Nat → List PV → Store → Res PV} {m : ME}
/-! ### targets -/
def gAll : List Nat → TGs
  | [] => gNil
  | i :: is => gCons (gName i) (gAll is)
def gOf (K : PySem.W.Frag) : MG → TG
  | .nm i => gName i
  | .tp is => gTup K is.length (gAll is)
theorem wipe_set {σ : L2.St} {i : Nat} {v : V} : ∀ {is : List Nat}, i ∈ is → L2.wipe (σ.set i (some v)) is = L2.wipe σ is
  | [], h => by simp at h
  | j :: is, h => by
    unfold L2.wipe
    by_cases e : i = j
    · subst e
      by_cases hm : i ∈ is
      · rw [wipe_set hm]
      · have : ∀ (τ : L2.St) (is : List Nat), i ∉ is → L2.wipe (τ.set i (some v)) is = (L2.wipe τ is).set i (some v) := by
          intro τ is
          induction is with
          | nil => intro _; rfl
          | cons k is ih =>
            intro hk
            have h1 : i ≠ k := fun z => hk (by simp [z])
            have h2 : i ∉ is := fun z => hk (by simp [z])
            unfold L2.wipe
            rw [ih h2, List.set_comm _ _ h1]
        rw [this σ is hm, List.set_set]
    · have hm : i ∈ is := by
        rcases List.mem_cons.mp h with z | z
        · exact absurd z e
        · exact z
      rw [wipe_set hm]
theorem setEach_ok : ∀ {is : List Nat} {xs : List PV} {vs : List V} {env env' : En} {σ : L2.St} {Q : L2.St → Hp → Prop}, setEach is xs env = some env' → RE K μ L H env σ → RVs K μ L H xs vs →
    (∀ σ', RE K μ L H env' σ' → (∀ js : List Nat, (∀ i ∈ is, i ∈ js) → L2.wipe σ' js = L2.wipe σ js) → Q σ' H) → gAll is vs σ H Q
  | [], _, _, _, _, _, _, h, r, .nil, q => by
    cases h
    exact ⟨rfl, q _ r fun _ _ => rfl⟩
  | [], _, _, _, _, _, _, h, _, .cons _ _ _, _ => by cases h
  | _ :: _, _, _, _, _, _, _, h, _, .nil, _ => by cases h
  | i :: is, _, _, _, _, _, _, h, r, .cons f rx rs, q =>
    ⟨_, _, rfl, setEach_ok h (r.set rx i) rs fun σ' r' w => q σ' r' fun js hj => by
      rw [w js fun k hk => hj k (List.mem_cons_of_mem _ hk)]
      exact wipe_set (hj i List.mem_cons_self)⟩
theorem setEach_len : ∀ {is : List Nat} {xs : List PV} {env env' : En}, setEach is xs env = some env' → xs.length = is.length
  | [], [], _, _, _ => rfl
  | [], _ :: _, _, _, h => by cases h
  | _ :: _, [], _, _, h => by cases h
  | _ :: is, _ :: xs, _, _, h => by
    have := setEach_len (is := is) (xs := xs) h
    simp [this]
theorem put_ok {g : MG} {x : PV} {x' : V} {env env' : En} {σ : L2.St} {Q : L2.St → Hp → Prop} (h : g.put x env = some env') (r : RE K μ L H env σ) (rx : RV K μ L H x x')
    (q : ∀ σ', RE K μ L H env' σ' → L2.wipe σ' g.slots = L2.wipe σ g.slots → Q σ' H) : gOf K g x' σ H Q := by
  cases g with
  | nm i =>
    cases h
    exact q _ (r.set rx i) (wipe_set (by simp [MG.slots]))
  | tp is =>
    unfold MG.put at h
    simp only at h
    split at h
    · cases rx with
      | tup h1 r1 => exact ⟨_, _, rfl, h1, by rw [← r1.len]; exact setEach_len h, setEach_ok h r r1 fun σ' r' w => q σ' r' (w _ fun _ hi => hi)⟩
    · cases h

/-! ### sources -/
theorem _root_.L2.PI.imp {tg it : Expr} {w w' : TI} (h : PI X tg it w) (i : ∀ σ H R, w' σ H R → w σ H R) : PI X tg it w' := ⟨fun pins s σ H R I q => h.run pins s σ H R I (i _ _ _ q)⟩
def rdW (K : PySem.W.Frag) (m : En → Store → Res Src) : TI := fun σ H R => ∃ μ env st s st', Ok K μ st H ∧ RE K μ st.length H env σ ∧ m env st = .ok s st' ∧
  ∀ μ' H' J, Stp μ st.length H μ' st'.length H' → Ok K μ' st' H' → SrcR K NoS μ' st'.length H' J s → R J H'
theorem pi_used {tg it : Expr} (h : SE X call m it) : PI X tg it (rdW X.K fun env st => (ev call m .use env st).bind fun x st1 => opt (srcV x st1) st1) := by
  refine ⟨fun pins s σ H R I ⟨μ, env, st, src, st', o, r, h1, g⟩ => ?_⟩
  obtain ⟨v, st1, h2, h3⟩ := bind_ok h1
  obtain ⟨h4, rfl⟩ := opt_ok h3
  have ls : (∀ μ1 H1 v', Stp μ st.length H μ1 st1.length H1 → Ok X.K μ1 st1 H1 → RV X.K μ1 st1.length H1 v v' → ∃ a, v' = .ref a ∧ (∃ xs, SqL X.K H1 a xs) ∧ R (Itl X.K a) H1) →
      wpAny (model X.prog X.w) X.A (eval it X.env) (fun v s1 => wpAny (model X.prog X.w) X.A (pyIter v) (PIE X pins σ tg R) X.xe s1) X.xe s :=
    fun q => (pi_list h.use).run pins s σ H R I ⟨μ, env, st, v, st1, o, r, h2, fun μ1 H1 v' s1 o1 r1 => q μ1 H1 v' s1 o1 r1⟩
  cases v with
  | str z =>
    cases h4
    refine (pi_str h.use).run pins s σ H R I ⟨μ, env, st, _, st1, o, r, h2, fun μ1 H1 v' s1 o1 r1 => ?_⟩
    cases r1
    exact ⟨z, rfl, g μ1 H1 _ s1 o1 .str⟩
  | tup xs =>
    cases h4
    refine (pi_tup h.use).run pins s σ H R I ⟨μ, env, st, _, st1, o, r, h2, fun μ1 H1 v' s1 o1 r1 => ?_⟩
    cases r1 with
    | tup h5 r5 => exact ⟨_, rfl, ⟨_, h5⟩, g μ1 H1 _ s1 o1 (.tup h5 r5)⟩
  | fl xs =>
    cases h4
    refine ls fun μ1 H1 v' s1 o1 r1 => ?_
    cases r1 with
    | fl h5 n5 r5 => exact ⟨_, rfl, ⟨_, SqL.of h5⟩, g μ1 H1 _ s1 o1 (.own h5 n5 (fun z => z) r5)⟩
  | rol xs =>
    cases h4
    refine ls fun μ1 H1 v' s1 o1 r1 => ?_
    cases r1 with
    | rol h5 r5 => exact ⟨_, rfl, ⟨_, h5.sq⟩, g μ1 H1 _ s1 o1 (.rol h5 r5)⟩
  | loc n =>
    refine ls fun μ1 H1 v' s1 o1 r1 => ?_
    cases r1 with
    | loc h5 =>
      obtain ⟨xs, hx, e⟩ := Option.map_eq_some_iff.mp h4
      obtain ⟨vs, hv⟩ := o1.held h5
      subst e
      exact ⟨_, rfl, ⟨vs, SqL.of hv⟩, g μ1 H1 _ s1 o1 (.live h5)⟩
  | _ => cases h4
theorem rng_ok {x y : PV} {st st' : Store} {s : Src} (h : rngV x y st = .ok s st') : ∃ i j : Int, x = .int i ∧ y = .int j ∧ (-(2 ^ 62) ≤ i ∧ i < 2 ^ 62 ∧ -(2 ^ 62) ≤ j ∧ j < 2 ^ 62) ∧ s = .items ((List.range (j - i).toNat).map fun (k : Nat) => .int (i + k)) ∧ st = st' := by
  unfold rngV at h
  split at h
  · split at h
    · rename_i hb
      cases h
      exact ⟨_, _, rfl, rfl, hb, rfl, rfl⟩
    · cases h
  · cases h
theorem pi_rng2 {tg x y : Expr} {a b : ME} {p pos : Pos} (ha : SE X call a x) (hb : SE X call b y) (hg : Gl X "range") (hm : X.mg "range" = none) (hs : starEach [x, y] X.env = [(false, eval x X.env), (false, eval y X.env)]) (hs2 : starEach [y] X.env = [(false, eval y X.env)]) :
    PI X tg (.Call (.Name "range" p) [x, y] [] pos) (rdW X.K fun env st => (ev call a .val env st).bind fun x st1 => (ev call b .val env st1).bind fun y st2 => rngV x y st2) := by
  refine (pi_range2 hg hm (pa_cons ha.val (pa_cons hb.val pa_nil hs2) (by rw [hs, hs2])) hs hs2).imp fun σ H R ⟨μ, env, st, s, st', o, r, h, g⟩ => ?_
  obtain ⟨x1, st1, h1, h2⟩ := bind_ok h
  obtain ⟨y1, st2, h3, h4⟩ := bind_ok h2
  obtain ⟨i, j, rfl, rfl, hb, rfl, rfl⟩ := rng_ok h4
  refine ⟨μ, env, st, _, st1, o, r, h1, fun μ1 H1 x' s1 o1 r1 _ => ⟨μ1, env, st1, _, _, o1, r.mono s1, h3, fun μ2 H2 y' s2 o2 r2 _ => ?_⟩⟩
  cases r1; cases r2
  exact ⟨i, j, rfl, hb, g μ2 H2 _ (Stp.trans s1 s2) o2 .rng⟩
theorem pi_rng1 {tg y : Expr} {b : ME} {p pos : Pos} (hb : SE X call b y) (hg : Gl X "range") (hm : X.mg "range" = none) (hs : starEach [y] X.env = [(false, eval y X.env)]) :
    PI X tg (.Call (.Name "range" p) [y] [] pos) (rdW X.K fun env st => (ev call (.con (.int 0)) .val env st).bind fun x st1 => (ev call b .val env st1).bind fun y st2 => rngV x y st2) := by
  refine (pi_range1 hg hm (pa_cons hb.val pa_nil hs) hs).imp fun σ H R ⟨μ, env, st, s, st', o, r, h, g⟩ => ?_
  obtain ⟨x1, st1, h1, h2⟩ := bind_ok h
  cases (show Res.ok (PV.int 0) st = Res.ok x1 st1 from h1)
  obtain ⟨y1, st2, h3, h4⟩ := bind_ok h2
  obtain ⟨i, j, e, rfl, hb, rfl, rfl⟩ := rng_ok h4
  cases e
  refine ⟨μ, env, _, _, _, o, r, h3, fun μ2 H2 y' s2 o2 r2 _ => ?_⟩
  cases r2
  have q := g μ2 H2 _ s2 o2 (.rng (lo := 0) (n := (j - 0).toNat))
  rw [Int.sub_zero] at q
  exact ⟨j, rfl, hb.2.2.1, hb.2.2.2, q⟩

/-! ### comprehensions -/
/-- the object at D is written -/
theorem StX.wrt {D : Addr} {ys zs : List V} (h : H D = Option.some (HO.lst ys)) : StX (fun a => a = D) μ L H μ L (upd H D (HO.lst zs)) := by
  refine ⟨Nat.le_refl _, fun _ _ => rfl, fun b o hb _ ne => ?_, fun b us hb => ?_, fun b o u hb => ?_, fun b hb => ?_, fun n h1 h2 => absurd h2 (by omega)⟩
  · rw [upd_ne ne]; exact hb
  · rw [upd_ne (fun e => by rw [e, h] at hb; cases hb)]; exact hb
  · rw [upd_ne (fun e => by rw [e, h] at hb; cases hb)]; exact hb
  · by_cases e : b = D
    · rw [e, upd_same] at hb; cases hb
    · rw [upd_ne e] at hb; exact hb
theorem Ok.wrt {st : Store} {D : Addr} {ys zs : List V} (o : Ok K μ st H) (h : H D = some (.lst ys)) (n : ∀ k, k < st.length → μ k ≠ D) : Ok K μ st (upd H D (.lst zs)) :=
  ⟨o.inj, fun k xs hk => by
    obtain ⟨vs, h1, h2⟩ := o.cell k xs hk
    exact ⟨vs, by rw [upd_ne (n k (List.getElem?_eq_some_iff.mp hk).1)]; exact h1, h2.mono (StX.wrt h)⟩⟩
theorem SE.lcImp {σ : L2.St} {H : Hp} {Q : VK} {wi : TI} {tt : TT} {te : TE} {test : En → Store → Res Bool} {elt : En → Store → Res PV} {g : MG} {srcF : En → Store → Res Src}
    (hw : ∀ σ H R, rdW K srcF σ H R → wi σ H R) (he : ∀ σ H Q, rd K elt σ H Q → te σ H Q)
    (ht : ∀ μ env st b st' σ H (Q : Bool → Hp → Prop), Ok K μ st H → RE K μ st.length H env σ → test env st = .ok b st' → (∀ μ' H', Stp μ st.length H μ' st'.length H' → Ok K μ' st' H' → Q b H') → tt σ H Q)
    (h : rd K (fun env st => (srcF env st).bind fun s st1 => lcLoop test elt g.put (wipe env g.slots) s 0 s.many [] st1) σ H Q) : tLc wi (gOf K g) tt te g.slots σ H Q := by
  obtain ⟨μ, env, st, v, st4, o, r, h, fin⟩ := h
  obtain ⟨src, st1, h1, h2⟩ := bind_ok h
  refine hw σ H _ ⟨μ, env, st, src, st1, o, r, h1, fun μ1 H1 J s1 o1 j1 D hD => ?_⟩
  refine ⟨fun i m Hc => ∃ μ st acc accV, Stp μ1 st1.length H1 μ st.length Hc ∧ Ok K μ st Hc ∧ Hc D = some (.lst accV) ∧ (∀ n, n < st.length → μ n ≠ D) ∧ RVs K μ st.length Hc acc accV ∧
    SrcR K (fun a => a = D) μ st.length Hc J src ∧ i + m = src.many ∧ lcLoop test elt g.put (wipe env g.slots) src i m acc st = .ok v st4,
    ⟨src.many, μ1, st1, [], [], Stp.laid hD, o1.laid hD, upd_same, o1.apart hD, .nil, j1.mono (Stp.laid hD) (fun a z => .inr (by rw [z]; exact hD)), by omega, h2⟩, ?_⟩
  rintro i m Hc ⟨μ2, st2, acc, accV, s2, o2, d2, n2, r2, j2, em, e2⟩
  cases m with
  | zero =>
    refine .inl ?_
    unfold lcLoop at e2
    split at e2
    · rename_i hf
      cases e2
      have q := j2.stop o2 hf
      have e0 : i = src.many := by omega
      subst e0
      exact ⟨q, fin μ2 Hc _ (Stp.trans s1 s2) o2 (.fl d2 n2 r2) (s1.there _ hD)⟩
    · cases e2
  | succ m =>
    refine .inr ?_
    unfold lcLoop at e2
    split at e2
    · cases e2
    · rename_i x hx
      split at e2
      · cases e2
      · rename_i env' hp
        obtain ⟨q1, q2⟩ := j2.go o2 hx
        obtain ⟨b, st3, e3, e4⟩ := bind_ok e2
        refine ⟨q1, _, fun H' w => ⟨m, Nat.lt_succ_self m, w⟩, fun x' H' y => ?_⟩
        obtain ⟨rfl, rx, fx⟩ := q2 x' H' y
        have rw0 : RE K μ2 st2.length H' (wipe env g.slots) (L2.wipe σ g.slots) := (r.mono (Stp.trans s1 s2)).wipe _
        refine put_ok hp rw0 rx fun σ2 rE wE => ⟨?_, ?_⟩
        · rw [wE]
          have : ∀ (τ : L2.St) (vs : List Nat), L2.wipe (L2.wipe τ vs) vs = L2.wipe τ vs := by
            have idem : ∀ (τ : L2.St) (is vs : List Nat), (∀ i ∈ is, ∀ x : V, τ[i]? ≠ some (some x)) → L2.wipe τ is = τ := by
              intro τ is _
              induction is with
              | nil => intro _; rfl
              | cons k is ih =>
                intro hk
                unfold L2.wipe
                rw [ih fun i hi => hk i (List.mem_cons_of_mem _ hi)]
                apply List.ext_getElem?
                intro n
                by_cases e : k = n
                · subst e
                  by_cases hl : k < τ.length
                  · rw [List.getElem?_set_self hl]
                    have := hk k List.mem_cons_self
                    cases q : τ[k] with
                    | none => rw [List.getElem?_eq_getElem hl, q]
                    | some z => exact absurd (by rw [List.getElem?_eq_getElem hl, q]) (this z)
                  · rw [List.getElem?_eq_none (by simp; omega), List.getElem?_eq_none (by omega)]
                · rw [List.getElem?_set_ne e]
            intro τ vs
            exact idem _ vs vs fun i hi x hx => (L2.wipe_some hx).2 hi
          exact this σ g.slots
        · refine ht μ2 env' st2 b st3 σ2 H' _ o2 rE e3 fun μ3 H3 s3 o3 => ?_
          have d3 : H3 D = some (.lst accV) := s3.keep D _ d2 n2 fun z => z
          have n3 : ∀ n, n < st3.length → μ3 n ≠ D := fun n hn z => by
            by_cases hl : n < st2.length
            · exact n2 n hl ((s3.ext n hl).symm.trans z)
            · have := s3.new n (by omega) hn
              rw [z, d2] at this; cases this
          cases b with
          | false =>
            refine iteF ⟨μ3, st3, acc, accV, Stp.trans s2 s3, o3, d3, n3, r2.mono s3, j2.mono (Stp.wide s3) (fun _ z => .inl z), by omega, ?_⟩
            exact e4
          | true =>
            obtain ⟨y1, st5, e5, e6⟩ := bind_ok (show (elt env' st3).bind _ = _ from e4)
            split at e6
            · rename_i hz
              refine iteT (he σ2 H3 _ ⟨μ3, env', st3, y1, st5, o3, rE.mono s3, e5, fun μ5 H5 y' s5 o5 r5 f5 => ?_⟩)
              obtain ⟨μe, se, oe, re, fe, ext⟩ := Ok.esc s5 o5 r5 f5
              have d5 : H5 D = some (.lst accV) := s5.keep D _ d3 n3 fun z => z
              have ne : ∀ n, n < (esc y1 st5).2.length → μe n ≠ D := fun n hn z => by
                by_cases hl : n < st3.length
                · exact n3 n hl ((se.ext n hl).symm.trans z)
                · have := se.new n (by omega) hn
                  rw [z, d3] at this; cases this
              have ra : RVs K μe (esc y1 st5).2.length H5 acc accV := (r2.mono s3).mono se
              have wr : StX (fun a => a = D) μe (esc y1 st5).2.length H5 μe (esc y1 st5).2.length (upd H5 D (.lst (accV ++ [y']))) := StX.wrt d5
              have sw : Stp μ1 st1.length H1 μe (esc y1 st5).2.length (upd H5 D (.lst (accV ++ [y']))) := StX.trans (Stp.trans s2 (Stp.trans s3 se)) wr fun b e => .inr (by rw [e]; exact hD)
              refine ⟨accV, d5, by rw [← r2.len]; exact hz, μe, (esc y1 st5).2, acc ++ [(esc y1 st5).1], accV ++ [y'], sw, oe.wrt d5 ne, upd_same, ne, ?_, ?_, by omega, e6⟩
              · refine (RVs.mono wr ra).app (RVs.one fe (RV.mono wr ?_ re))
                cases hq : (esc y1 st5).1 <;> first | trivial | (rw [hq] at fe; cases fe)
              · exact (j2.mono (Stp.wide (Stp.trans s3 se)) (fun _ z => .inl z)).mono wr (fun _ z => .inl z)
            · cases e6
end
end U

set_option maxHeartbeats 8000000
/-! U10: every expression of the language. -/
namespace U
open PySem PySem.Spec PyProof.Rows L2
structure Wd where
  P : Program
  w : World
  K : PySem.W.Frag
  mg : Str → Option Value
  base : Heap
/-- a body of the text stands here -/
structure Gd (W : Wd) (C : Ct) (k : Nat) (X : Cx) : Prop where
  P : X.prog = W.P
  w : X.w = W.w
  K : X.K = W.K
  mg : X.mg = W.mg
  base : X.base = W.base
  N : X.N = C.N
  sc : X.env.scope = C.sc
  nd : X.N.Nodup
  calm : X.calm = true
  room : Room k X.A
/-- what the names of the module are -/
structure Fx (W : Wd) (C : Ct) (k : Nat) (call : Nat → List PV → Store → Res PV) : Prop where
  fn : ∀ x f, C.fn.lookup x = some f → ∃ a fd ps, W.mg x = some (.ref a) ∧ PySem.W.keepIn W.K (.ref a) = true ∧ Binds W.K fd ps [] ∧ FnOk W.P W.w W.K W.mg W.base CX0 k a fd ps (spEv W.K (call f))
  cs : ∀ x v, C.cs.lookup x = some v → v.isFl = false ∧ ∃ u v', W.mg x = some u ∧ RelV v' u ∧ ∀ μ L H, RV W.K μ L H v v'
  bl : ∀ x, C.bl.contains x = true → W.mg x = none
mutual
theorem same_ok : ∀ {v w : PV}, PV.same v w = true → v = w
  | .non, .non, _ => rfl
  | .bl a, .bl b, h => by rw [eq_of_beq (show (a == b) = true from h)]
  | .int a, .int b, h => by rw [of_decide_eq_true (show decide (a = b) = true from h)]
  | .str a, .str b, h => by rw [of_decide_eq_true (show decide (a = b) = true from h)]
  | .tup a, .tup b, h => by rw [sames_ok (show PV.sameL a b = true from h)]
  | .non, .bl _, h | .non, .int _, h | .non, .str _, h | .non, .tup _, h | .non, .loc _, h | .non, .fl _, h | .non, .rol _, h => by cases h
  | .bl _, .non, h | .bl _, .int _, h | .bl _, .str _, h | .bl _, .tup _, h | .bl _, .loc _, h | .bl _, .fl _, h | .bl _, .rol _, h => by cases h
  | .int _, .non, h | .int _, .bl _, h | .int _, .str _, h | .int _, .tup _, h | .int _, .loc _, h | .int _, .fl _, h | .int _, .rol _, h => by cases h
  | .str _, .non, h | .str _, .bl _, h | .str _, .int _, h | .str _, .tup _, h | .str _, .loc _, h | .str _, .fl _, h | .str _, .rol _, h => by cases h
  | .tup _, .non, h | .tup _, .bl _, h | .tup _, .int _, h | .tup _, .str _, h | .tup _, .loc _, h | .tup _, .fl _, h | .tup _, .rol _, h => by cases h
  | .loc _, _, h | .fl _, _, h | .rol _, _, h => by cases h
theorem sames_ok : ∀ {v w : List PV}, PV.sameL v w = true → v = w
  | [], [], _ => rfl
  | [], _ :: _, h => by cases h
  | _ :: _, [], h => by cases h
  | x :: xs, y :: ys, h => by
    have h : (PV.same x y && PV.sameL xs ys) = true := h
    rw [Bool.and_eq_true] at h
    rw [same_ok h.1, sames_ok h.2]
end
section
variable {W : Wd} {k : Nat} {call : Nat → List PV → Store → Res PV}
theorem vis_of {sc : Scope} {x : Str} (h : visB sc x = true) : Vis sc x := by
  unfold visB at h
  unfold Vis
  split at h <;> first | (rename_i q; rw [q]; simp) | cases h
theorem gl_of {X : Cx} {x : Str} (h : glB X.env.scope x = true) : Gl X x ∧ (x == ("__debug__" : Str)) = false := by
  unfold glB at h
  split at h
  · rename_i q
    exact ⟨q, by simpa using h⟩
  · cases h
/-- no star, no set, no slice -/
def plainE : Expr → Bool
  | .Starred .. => false
  | .Set .. => false
  | .Slice .. => false
  | .NamedExpr .. => false
  | _ => true
theorem plain_ok {C : Ct} {m : ME} {e : Expr} (h : mE C m e = true) : plainE e = true := by
  cases e <;> first | rfl | (exfalso; cases m with
    | lc elt g src has c => cases src <;> cases h
    | _ => cases h)
theorem star_ok {e : Expr} (h : plainE e = true) (es : List Expr) (env : Env) : starEach (e :: es) env = (false, eval e env) :: starEach es env := by
  cases e <;> first | rfl | cases h
theorem ix_ok {e : Expr} (h : plainE e = true) : PlainIx e := by
  intro o i
  cases e <;> first | rfl | cases h
theorem mark_ok {e : Expr} (h : plainE e = true) (op : CmpOp) : behindInMarks op e = false := by
  cases e <;> first | rfl | cases h
theorem marks_ok {e e' : Expr} (h : plainE e = true) (h' : plainE e' = true) (op op' : CmpOp) : lastMarks [op, op'] [e, e'] = false := by
  have := mark_ok h' op'
  cases e' <;> first | rfl | (exact this) | cases h'
theorem set_ok {e : Expr} (h : plainE e = true) (env : Env) : ∀ x, foldedSetIterable e env x = pure x := by
  intro x
  cases e <;> first | rfl | cases h
theorem any_ok {C : Ct} {pos : Pos} {env : Env} : ∀ {as : MEs} {es : List Expr}, mA C as es = true → (backTo pos (starEach es env)).any (·.1) = false
  | .nil, [], _ => rfl
  | .nil, _ :: _, h => by cases h
  | .cons _ _, [], h => by cases h
  | .cons a as, e :: es, h => by
    have h : (mE C a e && mA C as es) = true := h
    rw [Bool.and_eq_true] at h
    rw [star_ok (plain_ok h.1)]
    show (false || (backTo pos (starEach es env)).any (·.1)) = false
    rw [any_ok h.2]
    rfl
theorem base_ok {x : Expr} {name : Str} {env : Env} {whole : Sem Value} (h : (match x with
    | .Call _ [] [] _ => true
    | _ => false) = false) : attributeBase x name env whole = whole := by
  cases x <;> try rfl
  rename_i f as ks p
  cases as with
  | nil =>
    cases ks with
    | nil => cases h
    | cons _ _ => cases f <;> rfl
  | cons _ _ => cases f <;> rfl
end
end U

set_option maxHeartbeats 8000000
/-! U11: every expression of the language, the theorem. -/
namespace U
open PySem PySem.Spec PyProof.Rows L2
section
variable {W : Wd} {k : Nat} {call : Nat → List PV → Store → Res PV}
theorem Gd.blk {C : Ct} {X : Cx} (G : Gd W C k X) (s : Shared) (H : Hp) (scope : Scope) (c : Addr) (cl : List (Str × Addr)) (fp : List Addr) : Gd W { C with sc := relS scope C.sc } k (X.blk s H scope (compEnvC scope cl c X.env) fp) :=
  ⟨G.P, G.w, G.K, G.mg, G.base, G.N, by show relS scope X.env.scope = _; rw [G.sc], G.nd, G.calm, G.room⟩
theorem pg1 {C : Ct} {X : Cx} (G : Gd W C k X) {i : Nat} {e : Expr} (h : mT1 C i e = true) : PG X e (gName i) := by
  cases e <;> try (exact absurd h Bool.false_ne_true)
  rename_i x pos
  have h : (decide (C.N[i]? = some x) && decide (C.sc.names.lookup x = some .local)) = true := h
  simp only [Bool.and_eq_true, decide_eq_true_eq] at h
  exact pg_name G.nd (by rw [G.N]; exact h.1) (.inl (by rw [G.sc]; exact h.2)) (.inr (by rw [G.sc]; exact h.2))
theorem assign_ok {e : Expr} {C : Ct} {i : Nat} (h : mT1 C i e = true) (es : List Expr) (env : Env) : assignEach (e :: es) env = (false, assign e env) :: assignEach es env := by
  cases e <;> first | rfl | exact absurd h Bool.false_ne_true
theorem pgs {C : Ct} {X : Cx} (G : Gd W C k X) : ∀ {is : List Nat} {es : List Expr}, mTs C is es = true → PGs X es (gAll is) ∧ (assignEach es X.env).length = is.length ∧ (assignEach es X.env).findIdx? (·.1) = none
  | [], [], _ => ⟨pgs_nil, rfl, rfl⟩
  | [], _ :: _, h => by cases h
  | _ :: _, [], h => by cases h
  | i :: is, e :: es, h => by
    have h : (mT1 C i e && mTs C is es) = true := h
    rw [Bool.and_eq_true] at h
    obtain ⟨p1, p2, p3⟩ := pgs G h.2
    have e1 := assign_ok h.1 es X.env
    refine ⟨pgs_cons (pg1 G h.1) p1 (by rw [e1]; rfl), by rw [e1]; simp [p2], by rw [e1]; simp [List.findIdx?_cons, p3]⟩
theorem pgG {C : Ct} {X : Cx} (G : Gd W C k X) {g : MG} {e : Expr} (h : mG C g e = true) : PG X e (gOf X.K g) := by
  cases g with
  | nm i => exact pg1 G h
  | tp is =>
    cases e <;> try (exact absurd h Bool.false_ne_true)
    obtain ⟨p1, p2, p3⟩ := pgs G (show mTs C is _ = true from h)
    exact pg_tup G.calm p1 p2 p3
theorem own_slots (g : MG) (N : List Str) : (g.own N).map (·.2) = g.slots := by
  unfold MG.own
  rw [List.map_map]
  have : ((fun x : Str × Nat => x.2) ∘ fun i => (N.getD i "", i)) = fun i => i := rfl
  rw [this, List.map_id']
/-- a comprehension's tests -/
def tTest' (K : PySem.W.Frag) (call : Nat → List PV → Store → Res PV) (has : Bool) (c : ME) : TT := if has then rdT K (ev call c .test) else tYes
def tsOk (C : Ct) (has : Bool) (c : ME) (ifs : List Expr) : Bool := match has, ifs with
  | true, [t] => mE C c t
  | false, [] => true
  | _, _ => false
theorem lc_plain {X : Cx} {g : MG} {has : Bool} {c elt : ME} {srcF : En → Store → Res Src} {wi : TI} {e : Expr} {m : ME}
    (hw : ∀ σ H R, rdW X.K srcF σ H R → wi σ H R)
    (hp : PE X e (tLc wi (gOf X.K g) (tTest' X.K call has c) (rd X.K (ev call elt .val)) g.slots))
    (eq : ∀ md env st, ev call m md env st = ((srcF env st).bind fun s st1 => lcLoop (fun e s => if has then (ev call c .test e s).bind fun x s1 => opt (isBl x) s1 else .ok true s) (ev call elt .val) g.put (wipe env g.slots) s 0 s.many [] st1).bind fun v st1 => done md v st1)
    (he : ∀ whole, isTrue e X.env whole = (do let v ← whole; standAt e.pos; holding [v] (truthy v))) : SE X call m e := by
  refine .plain _ (hp.imp fun σ H Q q => SE.lcImp hw (fun _ _ _ q => q) ?_ q) eq he
  intro μ env st b st' σ H Q o r h q
  unfold tTest'
  cases has with
  | true =>
    obtain ⟨x, s1, h1, h2⟩ := bind_ok h
    obtain ⟨h3, rfl⟩ := opt_ok h2
    cases isBl_ok h3
    exact ⟨μ, env, st, b, _, o, r, h1, q⟩
  | false =>
    cases h
    exact q μ H StX.refl o
theorem pw_of_pt {X : Cx} {op : BoolOp} {vs : List Expr} {p : Pos} {t : TT} (h : PT X (.BoolOp op vs p) t) : PW X (.BoolOp op vs p) t := ⟨fun wh pins s σ H Q I hw => h.run pins s σ H Q I hw⟩
theorem SE.sb {X : Cx} {m : ME} {op : BoolOp} {vs : List Expr} {p : Pos} (h : SE X call m (.BoolOp op vs p)) : SB X call m (.BoolOp op vs p) := ⟨h.val, h.use, pw_of_pt h.test⟩
theorem mE_lc {C : Ct} {elt src c : ME} {g : MG} {has : Bool} {e : Expr} (hn : ∀ a b, src ≠ .rng a b) : mE C (.lc elt g src has c) e = (match e with
    | .ListComp x [⟨tg, iter, ifs, 0⟩] scope _ => mE C src iter && blkC C.N C.sc scope (g.own C.N) && mG { C with sc := relS scope C.sc } g tg &&
        tsOk { C with sc := relS scope C.sc } has c ifs && mE { C with sc := relS scope C.sc } elt x
    | _ => false) := by
  cases src <;> first | (exact absurd rfl (hn _ _)) | rfl
theorem ev_lc {elt src c : ME} {g : MG} {has : Bool} {md : Md} {env : En} {st : Store} (hn : ∀ a b, src ≠ .rng a b) : ev call (.lc elt g src has c) md env st =
    (((ev call src .use env st).bind fun x st1 => opt (srcV x st1) st1).bind fun s st3 =>
      lcLoop (fun e s => if has then (ev call c .test e s).bind fun x s1 => opt (isBl x) s1 else .ok true s) (ev call elt .val) g.put (wipe env g.slots) s 0 s.many [] st3).bind fun v st4 => done md v st4 := by
  rw [bind_assoc, bind_assoc]
  cases src <;> first | (exact absurd rfl (hn _ _)) | rfl
theorem ev_lcR {elt a b c : ME} {g : MG} {has : Bool} {md : Md} {env : En} {st : Store} : ev call (.lc elt g (.rng a b) has c) md env st =
    (((ev call a .val env st).bind fun x st1 => (ev call b .val env st1).bind fun y st2 => rngV x y st2).bind fun s st3 =>
      lcLoop (fun e s => if has then (ev call c .test e s).bind fun x s1 => opt (isBl x) s1 else .ok true s) (ev call elt .val) g.put (wipe env g.slots) s 0 s.many [] st3).bind fun v st4 => done md v st4 := by
  simp only [bind_assoc]
  rfl
theorem ts_ok {C : Ct} {X : Cx} {has : Bool} {c : ME} {ifs : List Expr} (h : tsOk C has c ifs = true) (hc : ∀ t, mE C c t = true → SE X call c t) : PTs X ifs (tTest' X.K call has c) := by
  unfold tsOk at h
  split at h
  · exact pts_one (hc _ h).test
  · exact pts_nil
  · cases h
/-- a comprehension, from its parts -/
theorem lc_mk {C : Ct} {X : Cx} (G : Gd W C k X) {elt c m : ME} {g : MG} {has : Bool} {x tg iter : Expr} {ifs : List Expr} {scope : Scope} {pos : Pos} {srcF : En → Store → Res Src}
    (hi : PI X tg iter (rdW X.K srcF)) (hp : ∀ x, foldedSetIterable iter X.env x = pure x) (h2 : blkC C.N C.sc scope (g.own C.N) = true) (h3 : mG { C with sc := relS scope C.sc } g tg = true)
    (h4 : tsOk { C with sc := relS scope C.sc } has c ifs = true) (hc : ∀ {X : Cx}, Gd W { C with sc := relS scope C.sc } k X → ∀ t, mE { C with sc := relS scope C.sc } c t = true → SE X call c t)
    (he : ∀ {X : Cx}, Gd W { C with sc := relS scope C.sc } k X → SE X call elt x)
    (eq : ∀ md env st, ev call m md env st = ((srcF env st).bind fun s st1 => lcLoop (fun e s => if has then (ev call c .test e s).bind fun x s1 => opt (isBl x) s1 else .ok true s) (ev call elt .val) g.put (wipe env g.slots) s 0 s.many [] st1).bind fun v st1 => done md v st1) :
    SE X call m (.ListComp x [⟨tg, iter, ifs, 0⟩] scope pos) := by
  have ok : BlkOk X.N X.env.scope scope (g.own C.N) := by rw [G.N, G.sc]; exact blkOk_by h2
  have p := pe_lc (pos := pos) (own := g.own C.N) (g := gOf X.K g) (tt := tTest' X.K call has c) (te := rd X.K (ev call elt .val)) G.calm G.nd hi ok
    (fun s H a cl fp => pgG (G.blk s H scope a cl fp) h3) (fun s H a cl fp => ts_ok h4 (hc (G.blk s H scope a cl fp))) (fun s H a cl fp => (he (G.blk s H scope a cl fp)).val) hp
  rw [own_slots] at p
  exact lc_plain (fun _ _ _ q => q) p eq fun _ => rfl
theorem lc_rng {C : Ct} {X : Cx} (G : Gd W C k X) (F : Fx W C k call) {elt a b c : ME} {g : MG} {has : Bool} {e : Expr} (h : mE C (.lc elt g (.rng a b) has c) e = true)
    (ia : ∀ {e : Expr}, mE C a e = true → SE X call a e) (ib : ∀ {e : Expr}, mE C b e = true → SE X call b e)
    (ic : ∀ {C' : Ct} {X : Cx} (G : Gd W C' k X) (F : Fx W C' k call) {e : Expr}, mE C' c e = true → SE X call c e)
    (ie : ∀ {C' : Ct} {X : Cx} (G : Gd W C' k X) (F : Fx W C' k call) {e : Expr}, mE C' elt e = true → SE X call elt e) : SE X call (.lc elt g (.rng a b) has c) e := by
  unfold mE at h
  split at h
  · rename_i x tg f p es pos ifs scope pos2
    simp only [Bool.and_eq_true, decide_eq_true_eq] at h
    obtain ⟨⟨⟨⟨⟨⟨⟨rfl, h1⟩, h2⟩, h3⟩, h4⟩, h5⟩, h6⟩, h7⟩ := h
    obtain ⟨g1, g2⟩ := gl_of (X := X) (by rw [G.sc]; exact h2)
    have hm : X.mg "range" = none := by rw [G.mg]; exact F.bl _ h1
    refine lc_mk G (srcF := fun env st => (ev call a .val env st).bind fun x st1 => (ev call b .val env st1).bind fun y st2 => rngV x y st2) ?_ (fun _ => rfl) h4 h5 h6
      (fun G' t ht => ic G' ⟨F.fn, F.cs, F.bl⟩ ht) (fun G' => ie G' ⟨F.fn, F.cs, F.bl⟩ h7) fun _ _ _ => ev_lcR
    split at h3
    · rename_i y
      split at h3
      · exact pi_rng1 (ib h3) g1 hm (star_ok (plain_ok h3) _ _)
      · cases h3
    · rename_i z y
      rw [Bool.and_eq_true] at h3
      have e2 : starEach [y] X.env = [(false, eval y X.env)] := star_ok (plain_ok h3.2) _ _
      exact pi_rng2 (ia h3.1) (ib h3.2) g1 hm (by rw [star_ok (plain_ok h3.1), e2]) e2
    · cases h3
  · cases h
mutual
theorem sE : ∀ (m : ME) {C : Ct} {X : Cx} (G : Gd W C k X) (F : Fx W C k call) {e : Expr}, mE C m e = true → SE X call m e
  | .var i, C, X, G, F, e, h => by
    cases e <;> try (exact absurd h Bool.false_ne_true)
    rename_i x pos
    have h : (decide (C.N[i]? = some x) && visB C.sc x && !(x == ("__debug__" : Str)) && !(x == ("__classdict__" : Str))) = true := h
    simp only [Bool.and_eq_true, decide_eq_true_eq, Bool.not_eq_true'] at h
    exact se_var (by rw [G.N]; exact h.1.1.1) (vis_of (by rw [G.sc]; exact h.1.1.2)) h.1.2 h.2
  | .con v, C, X, G, F, e, h => by
    cases e <;> try (exact absurd h Bool.false_ne_true)
    exact se_con h
  | .glb x v, C, X, G, F, e, h => by
    cases e <;> try (exact absurd h Bool.false_ne_true)
    rename_i y pos
    rw [mE] at h
    simp only [Bool.and_eq_true, decide_eq_true_eq] at h
    obtain ⟨⟨rfl, h2⟩, h3⟩ := h
    obtain ⟨g1, g2⟩ := gl_of (X := X) (by rw [G.sc]; exact h2)
    split at h3
    · rename_i w hw
      cases same_ok h3
      obtain ⟨f, u, v', c1, c2, c3⟩ := F.cs _ _ hw
      exact se_glb g1 (by rw [G.mg]; exact c1) c2 (by rw [G.K]; exact c3) f g2
    · cases h3
  | .bin o a b, C, X, G, F, e, h => by
    cases e <;> try (exact absurd h Bool.false_ne_true)
    rw [mE] at h
    simp only [Bool.and_eq_true, decide_eq_true_eq] at h
    obtain ⟨⟨rfl, h2⟩, h3⟩ := h
    exact se_bin (sE a G F h2) (sE b G F h3)
  | .neg a, C, X, G, F, e, h => by
    cases e <;> try (exact absurd h Bool.false_ne_true)
    rename_i op x pos
    cases op <;> try (exact absurd h Bool.false_ne_true)
    exact se_neg (sE a G F h)
  | .cmp o a b, C, X, G, F, e, h => by
    unfold mE at h
    split at h
    · simp only [Bool.and_eq_true, decide_eq_true_eq] at h
      obtain ⟨⟨rfl, h2⟩, h3⟩ := h
      exact se_cmp (sE a G F h2) (sE b G F h3) (mark_ok (plain_ok h3) _)
    · cases h
  | .cmp2 o o' a b c, C, X, G, F, e, h => by
    unfold mE at h
    split at h
    · simp only [Bool.and_eq_true, decide_eq_true_eq] at h
      obtain ⟨⟨⟨⟨rfl, rfl⟩, h2⟩, h3⟩, h4⟩ := h
      exact se_cmp2 (sE a G F h2) (sE b G F h3) (sE c G F h4) (marks_ok (plain_ok h3) (plain_ok h4) _ _)
    · cases h
  | .not a, C, X, G, F, e, h => by
    cases e <;> try (exact absurd h Bool.false_ne_true)
    rename_i op x pos
    cases op <;> try (exact absurd h Bool.false_ne_true)
    exact se_not (sE a G F h)
  | .and a b, C, X, G, F, e, h => by
    unfold mE at h
    split at h
    · rw [Bool.and_eq_true] at h
      exact (sb_and (sE a G F h.1) (sE b G F h.2).one).se
    · rw [Bool.and_eq_true] at h
      exact (sb_and (sE a G F h.1) (sE b G F h.2).sb).se
    · cases h
  | .or a b, C, X, G, F, e, h => by
    unfold mE at h
    split at h
    · rw [Bool.and_eq_true] at h
      exact (sb_or (sE a G F h.1) (sE b G F h.2).one).se
    · rw [Bool.and_eq_true] at h
      exact (sb_or (sE a G F h.1) (sE b G F h.2).sb).se
    · cases h
  | .ite t a b, C, X, G, F, e, h => by
    unfold mE at h
    split at h
    · simp only [Bool.and_eq_true] at h
      exact se_ite (sE t G F h.1.1) (sE a G F h.1.2) (sE b G F h.2) pt_never
    · cases h
  | .fn f as, C, X, G, F, e, h => by
    unfold mE at h
    split at h
    · rename_i x p y ys pos
      simp only [Bool.and_eq_true, decide_eq_true_eq] at h
      obtain ⟨⟨h1, h2⟩, h3⟩ := h
      obtain ⟨g1, g2⟩ := gl_of (X := X) (by rw [G.sc]; exact h2)
      obtain ⟨a, fd, ps, f1, f2, f3, f4⟩ := F.fn _ _ h1
      have f4' : FnOk X.prog X.w X.K X.mg X.base CX0 k a fd ps (spEv X.K (call f)) := by rw [G.P, G.w, G.K, G.mg, G.base]; exact f4
      have hh : plainE y = true ∧ (backTo pos (starEach ys X.env)).any (·.1) = false := by
        cases as with
        | nil => cases h3
        | cons a as =>
          rw [mA, Bool.and_eq_true] at h3
          exact ⟨plain_ok h3.1, any_ok h3.2⟩
      refine se_fn (sA as G F h3) (fun {t} pa => ?_) fun _ => rfl
      refine (pe_call f4' G.room g1 (by rw [G.mg]; exact f1) (by rw [G.K]; exact f2) (by rw [G.K]; exact f3) .nil pass0 pa g2 (star_ok hh.1 _ _) hh.2).imp fun σ H Q q => ?_
      have e : (fun vs H1 => spEv X.K (call f) (vs ++ []) H1 Q E0) = (fun vs H1 => spEv X.K (call f) vs H1 Q E0) := by
        funext vs H1
        rw [List.append_nil]
      show t σ H (fun vs H1 => spEv X.K (call f) (vs ++ []) H1 Q E0)
      rw [e]
      exact q
    · cases h
  | .bi f as, C, X, G, F, e, h => by
    unfold mE at h
    split at h
    · rename_i x p y ys pos
      simp only [Bool.and_eq_true, decide_eq_true_eq] at h
      obtain ⟨⟨⟨rfl, h1⟩, h2⟩, h3⟩ := h
      obtain ⟨g1, g2⟩ := gl_of (X := X) (by rw [G.sc]; exact h2)
      have hm : X.mg (bname f) = none := by rw [G.mg]; exact F.bl _ h1
      have hh : plainE y = true ∧ (backTo pos (starEach ys X.env)).any (·.1) = false := by
        cases as with
        | nil => cases h3
        | cons a as =>
          rw [mA, Bool.and_eq_true] at h3
          exact ⟨plain_ok h3.1, any_ok h3.2⟩
      refine se_bi (sA as G F h3) (fun {r t} hr pa => ?_) G.calm fun _ => rfl
      cases f <;> first
        | exact pe_callB hr g1 hm (by decide +kernel) pa (by decide) g2 (star_ok hh.1 _ _) hh.2
        | exact pe_callTy hr g1 hm (by decide +kernel) pa (by decide) g2 (star_ok hh.1 _ _) hh.2
    · cases h
  | .mt f o as, C, X, G, F, e, h => by
    unfold mE at h
    split at h
    · rename_i x name apos y pos
      simp only [Bool.and_eq_true, decide_eq_true_eq, Bool.not_eq_true'] at h
      obtain ⟨⟨⟨⟨rfl, h1⟩, h2⟩, h3⟩, h4⟩ := h
      have hy : plainE y = true := by
        cases as with
        | nil => cases h4
        | cons a as =>
          rw [mA, Bool.and_eq_true] at h4
          exact plain_ok h4.1
      have st := star_ok hy [] X.env
      refine se_mt (sE o G F h1) (sA as G F h4) (fun {r to t} hr po pa => ?_) fun _ => rfl
      have few : ((backTo pos (starEach [y] X.env)).all (fun x => !x.1) && (backToKw pos (keywordEach [] X.env)).all (fun x => x.1.isSome)
        && decide (([y] : List Expr).length + ([] : List Keyword).length + (if ([] : List Keyword).isEmpty then 0 else 1) < 30)) = true := by rw [st]; rfl
      cases f with
      | append => exact pe_bm PySem.F.plainAttrs_list PySem.F.slot_list_append PySem.F.type_list_append hr po pa (base_ok h3) few h2 st rfl
      | split => exact pe_bm PySem.F.plainAttrs_str PySem.F.slot_str_split PySem.F.type_str_split hr po pa (base_ok h3) few h2 st rfl
      | partition => exact pe_bm PySem.F.plainAttrs_str PySem.F.slot_str_partition PySem.F.type_str_partition hr po pa (base_ok h3) few h2 st rfl
      | join => exact pe_bm PySem.F.plainAttrs_str PySem.F.slot_str_join PySem.F.type_str_join hr po pa (base_ok h3) few h2 st rfl
    · cases h
  | .tup as, C, X, G, F, e, h => by
    cases e <;> try (exact absurd h Bool.false_ne_true)
    exact se_tup (sA as G F h)
  | .lst as, C, X, G, F, e, h => by
    cases e <;> try (exact absurd h Bool.false_ne_true)
    exact se_lst (sA as G F h)
  | .ix a i, C, X, G, F, e, h => by
    cases e <;> try (exact absurd h Bool.false_ne_true)
    rw [mE, Bool.and_eq_true] at h
    exact se_ix (sE a G F h.1) (sE i G F h.2) (ix_ok (plain_ok h.2))
  | .sl a lo hi, C, X, G, F, e, h => by
    unfold mE at h
    split at h
    · rename_i x l u p2 pos
      simp only [Bool.and_eq_true] at h
      refine se_sl (sE a G F h.1.1) ?_ ?_
      · have hl := h.1.2
        cases l with
        | none => exact po_absent hl
        | some y =>
          simp only [Bool.and_eq_true, Bool.not_eq_true'] at hl
          exact po_there hl.1 (sE lo G F hl.2)
      · have hl := h.2
        cases u with
        | none => exact po_absent hl
        | some y =>
          simp only [Bool.and_eq_true, Bool.not_eq_true'] at hl
          exact po_there hl.1 (sE hi G F hl.2)
    · cases h
  | .rng _ _, C, X, G, F, e, h => by cases h
  | .lc elt g src has c, C, X, G, F, e, h => by
    by_cases hn : ∀ a b, src ≠ .rng a b
    · rw [mE_lc hn] at h
      split at h
      · rename_i x tg iter ifs scope pos
        simp only [Bool.and_eq_true] at h
        obtain ⟨⟨⟨⟨h1, h2⟩, h3⟩, h4⟩, h5⟩ := h
        exact lc_mk G (pi_used (sE src G F h1)) (set_ok (plain_ok h1) _) h2 h3 h4
          (fun G' t ht => sE c G' ⟨F.fn, F.cs, F.bl⟩ ht) (fun G' => sE elt G' ⟨F.fn, F.cs, F.bl⟩ h5) fun _ _ _ => ev_lc hn
      · cases h
    · cases src with
      | rng a b => exact lc_rng G F h (fun h => sE a G F h) (fun h => sE b G F h) (fun G F _ h => sE c G F h) (fun G F _ h => sE elt G F h)
      | _ => exact absurd (fun a b z => by cases z) hn
termination_by m => sizeOf m
theorem sA : ∀ (as : MEs) {C : Ct} {X : Cx} (G : Gd W C k X) (F : Fx W C k call) {es : List Expr}, mA C as es = true → SA X call as es
  | .nil, C, X, G, F, es, h => by
    cases es with
    | nil => exact sa_nil
    | cons _ _ => cases h
  | .cons a as, C, X, G, F, es, h => by
    cases es with
    | nil => cases h
    | cons e es =>
      rw [mA, Bool.and_eq_true] at h
      exact sa_cons (sE a G F h.1) (sA as G F h.2) (star_ok (plain_ok h.1) _ _)
termination_by as => sizeOf as
end
end
end U

set_option maxHeartbeats 8000000
/-! U12: statements. -/
namespace U
open PySem PySem.Spec PyProof.Rows L2
/-! ### is this text that program -/
def notLc : Expr → Bool
  | .ListComp .. => false
  | .SetComp .. => false
  | .DictComp .. => false
  | _ => true
def notTup : Expr → Bool
  | .Tuple .. => false
  | _ => true
def mV1 (C : Ct) (i : Nat) (e : Expr) : Bool := match e with
  | .Name x _ => decide (C.N[i]? = some x) && locB C.sc x
  | _ => false
def mVs (C : Ct) : List Nat → List Expr → Bool
  | [], [] => true
  | i :: is, e :: es => mV1 C i e && mVs C is es
  | _, _ => false
def mV (C : Ct) (g : MG) (e : Expr) : Bool := match g, e with
  | .nm i, e => mV1 C i e
  | .tp is, .Tuple es _ _ => mVs C is es
  | _, _ => false
/-- x = [..] on one line, x a local -/
def lcOk (C : Ct) (x : Str) (px : Pos) (v : Expr) : Bool := match v with
  | .ListComp _ _ scope p => decide (C.sc.kind = .function) && decide (C.sc.names.lookup x = some .local) && (px.line == p.line) && !(scope.names.any fun (n, k) => n == x && (k == .local || k == .cell))
  | _ => false
/-- what a for walks -/
def mSrc (C : Ct) : ME → Expr → Bool
  | .rng a b, e => match e with
    | .Call (.Name f _) es [] _ => decide (f = "range") && C.bl.contains "range" && glB C.sc f && (match es with
        | [y] => (match a with
          | .con (.int 0) => mE C b y
          | _ => false)
        | [z, y] => mE C a z && mE C b y
        | _ => false)
    | _ => false
  | m, e => mE C m e
mutual
def mS (C : Ct) : MS → Stmt → Bool
  | .set i e own, s => match s with
    | .Assign [.Name x px] v pos => decide (C.N[i]? = some x) && locB C.sc x && mE C e v && (notLc v || lcOk C x px v)
    | _ => false
  | .setT is e, s => match s with
    | .Assign [.Tuple es k p] v pos => mVs C is es && mE C e v && notLc v && notTup v
    | _ => false
  | .setIx a i e, s => match s with
    | .Assign [.Subscript o x p] v pos => mE C a o && mE C i x && mE C e v && notLc v
    | _ => false
  | .aug i o e, s => match s with
    | .AugAssign (.Name x p) op v pos => decide (op = bop o) && decide (C.N[i]? = some x) && locB C.sc x && mE C e v
    | _ => false
  | .ex e, s => match s with
    | .Expr v pos => mE C e v && notLc v
    | _ => false
  | .app i e, s => match s with
    | .Expr (.Call (.Attribute (.Name x p) name apos) [y] [] cpos) pos => decide (name = "append") && (apos.endLine == cpos.line) && mE C (.var i) (.Name x p) && mE C e y
    | _ => false
  | .ret e, s => match s with
    | .Return (some v) pos => mE C e v
    | _ => false
  | .ret0, s => match s with
    | .Return none pos => true
    | _ => false
  | .ite t a b, s => match s with
    | .If c x y pos => mE C t c && mSs C a x && mSs C b y
    | _ => false
  | .whl t b, s => match s with
    | .While c x [] pos => mE C t c && mSs C b x
    | _ => false
  | .for_ g src b, s => match s with
    | .For tg iter x [] pos => mV C g tg && mSrc C src iter && plainE iter && mSs C b x
    | _ => false
  | .brk, s => match s with
    | .Break _ => true
    | _ => false
  | .cnt, s => match s with
    | .Continue _ => true
    | _ => false
  | .pass, s => match s with
    | .Pass _ => true
    | _ => false
def mSs (C : Ct) : MSs → List Stmt → Bool
  | .nil, l => match l with
    | [] => true
    | _ => false
  | .cons s ss, l => match l with
    | [] => false
    | x :: xs => mS C s x && mSs C ss xs
end

/-! ### readings -/
section
variable {K : PySem.W.Frag} {μ : Nat → Addr} {L : Nat} {H : Hp} {X : Cx} {call : Nat → List PV → Store → Res PV}
/-- the lists of its own -/
def Own (env : En) (σ : L2.St) : Addr → Prop := fun a => ∃ (i : Nat) (xs : List PV), env[i]? = some (some (.fl xs)) ∧ σ[i]? = some (some (.ref a))
structure S1 (K : PySem.W.Frag) (μ : Nat → Addr) (L : Nat) (H : Hp) (env : En) (σ : L2.St) : Prop where
  re : RE K μ L H env σ
  de : ∀ (i j : Nat) (xs ys : List PV) (a : Addr), i ≠ j → env[i]? = some (some (.fl xs)) → env[j]? = some (some (.fl ys)) → σ[i]? = some (some (.ref a)) → σ[j]? = some (some (.ref a)) → False
theorem Own.there {env : En} {σ : L2.St} {a : Addr} (r : RE K μ L H env σ) (h : Own env σ a) : ∃ vs, H a = some (.lst vs) := by
  obtain ⟨i, xs, h1, h2⟩ := h
  obtain ⟨v, h3, h4⟩ := r.at_ i _ h1
  rw [h2] at h3
  cases h3
  cases h4 with
  | fl h5 _ _ => exact ⟨_, h5⟩
theorem S1.mono {μ1 : Nat → Addr} {L1 : Nat} {H1 : Hp} {env : En} {σ : L2.St} (s : Stp μ L H μ1 L1 H1) (r : S1 K μ L H env σ) : S1 K μ1 L1 H1 env σ := ⟨r.re.mono s, r.de⟩
def post (K : PySem.W.Frag) (S : Addr → Prop) (μ : Nat → Addr) (st : Store) (H : Hp) (r : SR) (D : Ends) : Prop := match r with
  | .nx e s => ∀ μ' H' σ', StX S μ st.length H μ' s.length H' → Ok K μ' s H' → S1 K μ' s.length H' e σ' → (∀ a, Own e σ' a → S a ∨ H a = none) → D.nx σ' H'
  | .bk e s => ∀ μ' H' σ', StX S μ st.length H μ' s.length H' → Ok K μ' s H' → S1 K μ' s.length H' e σ' → (∀ a, Own e σ' a → S a ∨ H a = none) → D.bk σ' H'
  | .ct e s => ∀ μ' H' σ', StX S μ st.length H μ' s.length H' → Ok K μ' s H' → S1 K μ' s.length H' e σ' → (∀ a, Own e σ' a → S a ∨ H a = none) → D.ct σ' H'
  | .rt v s => ∀ μ' H' v', StX S μ st.length H μ' s.length H' → Ok K μ' s H' → RV K μ' s.length H' v v' → (∀ a, v.isFl = true → v' = .ref a → S a ∨ H a = none) → D.rt v' H'
  | .bad => False
def rdS (K : PySem.W.Frag) (m : En → Store → SR) : TS := fun D σ H => ∃ μ env st, Ok K μ st H ∧ S1 K μ st.length H env σ ∧ post K (Own env σ) μ st H (m env st) D
theorem post.shift {S S' : Addr → Prop} {μ1 : Nat → Addr} {st st1 : Store} {H1 : Hp} {r : SR} {D : Ends} (s : StX S μ st.length H μ1 st1.length H1) (hs : ∀ a, S' a → S a ∨ H a = none) (p : post K S μ st H r D) : post K S' μ1 st1 H1 r D := by
  have own : ∀ a, S' a ∨ H1 a = none → S a ∨ H a = none := fun a z => z.elim (hs a) fun z => .inr (s.there a z)
  cases r with
  | nx e t => exact fun μ' H' σ' t o q w => p μ' H' σ' (s.trans t hs) o q fun a z => own a (w a z)
  | bk e t => exact fun μ' H' σ' t o q w => p μ' H' σ' (s.trans t hs) o q fun a z => own a (w a z)
  | ct e t => exact fun μ' H' σ' t o q w => p μ' H' σ' (s.trans t hs) o q fun a z => own a (w a z)
  | rt v t => exact fun μ' H' v' t o q w => p μ' H' v' (s.trans t hs) o q fun a z1 z2 => own a (w a z1 z2)
  | bad => exact p
theorem to_ok {α : Type} {r : Res α} {f : α → Store → SR} {S : Addr → Prop} {st : Store} {D : Ends} (h : post K S μ st H (r.to f) D) : ∃ a st1, r = .ok a st1 ∧ post K S μ st H (f a st1) D := by
  cases r with
  | ok a st1 => exact ⟨a, st1, rfl, h⟩
  | bad => exact h.elim
theorem post.mono {S : Addr → Prop} {st : Store} {r : SR} {D D' : Ends} (p : post K S μ st H r D) (hn : ∀ σ H, D.nx σ H → D'.nx σ H) (hr : ∀ v H, D.rt v H → D'.rt v H) (hb : ∀ σ H, D.bk σ H → D'.bk σ H) (hc : ∀ σ H, D.ct σ H → D'.ct σ H) : post K S μ st H r D' := by
  cases r with
  | nx e t => exact fun μ' H' σ' t o q w => hn _ _ (p μ' H' σ' t o q w)
  | bk e t => exact fun μ' H' σ' t o q w => hb _ _ (p μ' H' σ' t o q w)
  | ct e t => exact fun μ' H' σ' t o q w => hc _ _ (p μ' H' σ' t o q w)
  | rt v t => exact fun μ' H' v' t o q w => hr _ _ (p μ' H' v' t o q w)
  | bad => exact p
theorem _root_.L2.PS.imp {st : Stmt} {t t' : TS} (h : PS X st t) (i : ∀ D σ H, t' D σ H → t D σ H) : PS X st t' := ⟨fun pins s σ H D I q => h.run pins s σ H D I (i _ _ _ q)⟩
theorem _root_.L2.PSs.imp {st : List Stmt} {t t' : TS} (h : PSs X st t) (i : ∀ D σ H, t' D σ H → t D σ H) : PSs X st t' := ⟨fun pins s σ H D I q => h.run pins s σ H D I (i _ _ _ q)⟩

/-- a name gets a value that is shared or no list -/
theorem S1.set {env : En} {σ : L2.St} {x : PV} {v : V} (r : S1 K μ L H env σ) (q : RV K μ L H x v) (f : x.isFl = false) (i : Nat) : S1 K μ L H (env.set i (some x)) (σ.set i (some v)) ∧ ∀ a, Own (env.set i (some x)) (σ.set i (some v)) a → Own env σ a := by
  have key : ∀ (j : Nat) (xs : List PV) (a : Addr), (env.set i (some x))[j]? = some (some (.fl xs)) → (σ.set i (some v))[j]? = some (some (.ref a)) → env[j]? = some (some (.fl xs)) ∧ σ[j]? = some (some (.ref a)) := fun j xs a h1 h2 => by
    by_cases e : i = j
    · subst e
      by_cases hi : i < env.length
      · rw [List.getElem?_set_self hi] at h1
        cases h1; cases f
      · rw [List.getElem?_eq_none (by simp; omega)] at h1; cases h1
    · rw [List.getElem?_set_ne e] at h1 h2
      exact ⟨h1, h2⟩
  exact ⟨⟨r.re.set q i, fun j k xs ys a ne h1 h2 h3 h4 => let ⟨a1, a2⟩ := key j xs a h1 h3; let ⟨b1, b2⟩ := key k ys a h2 h4; r.de j k xs ys a ne a1 b1 a2 b2⟩, fun a ⟨j, xs, h1, h2⟩ => let ⟨a1, a2⟩ := key j xs a h1 h2; ⟨j, xs, a1, a2⟩⟩
/-- .. or a list that stands off its own lists -/
theorem S1.setFl {env : En} {σ : L2.St} {x : PV} {v : V} (r : S1 K μ L H env σ) (q : RV K μ L H x v) (f : ∀ a, x.isFl = true → v = .ref a → ¬ Own env σ a) (i : Nat) :
    S1 K μ L H (env.set i (some x)) (σ.set i (some v)) ∧ ∀ a, Own (env.set i (some x)) (σ.set i (some v)) a → Own env σ a ∨ (x.isFl = true ∧ v = .ref a) := by
  have key : ∀ (j : Nat) (xs : List PV) (a : Addr), (env.set i (some x))[j]? = some (some (.fl xs)) → (σ.set i (some v))[j]? = some (some (.ref a)) → (j ≠ i ∧ env[j]? = some (some (.fl xs)) ∧ σ[j]? = some (some (.ref a))) ∨ (j = i ∧ x.isFl = true ∧ v = .ref a) := fun j xs a h1 h2 => by
    by_cases e : i = j
    · subst e
      by_cases hi : i < env.length
      · rw [List.getElem?_set_self hi] at h1
        rw [List.getElem?_set_self (by rw [← r.re.len]; exact hi)] at h2
        cases h1; cases h2
        exact .inr ⟨rfl, rfl, rfl⟩
      · rw [List.getElem?_eq_none (by simp; omega)] at h1; cases h1
    · rw [List.getElem?_set_ne e] at h1 h2
      exact .inl ⟨fun z => e z.symm, h1, h2⟩
  refine ⟨⟨r.re.set q i, fun j k xs ys a ne h1 h2 h3 h4 => ?_⟩, fun a ⟨j, xs, h1, h2⟩ => ?_⟩
  · rcases key j xs a h1 h3 with ⟨_, a1, a2⟩ | ⟨rfl, f1, e1⟩
    · rcases key k ys a h2 h4 with ⟨_, b1, b2⟩ | ⟨rfl, f2, e2⟩
      · exact r.de j k xs ys a ne a1 b1 a2 b2
      · exact f a f2 e2 ⟨j, xs, a1, a2⟩
    · rcases key k ys a h2 h4 with ⟨_, b1, b2⟩ | ⟨e3, _, _⟩
      · exact f a f1 e1 ⟨k, ys, b1, b2⟩
      · exact ne e3.symm
  · rcases key j xs a h1 h2 with ⟨_, a1, a2⟩ | ⟨_, f1, e1⟩
    · exact .inl ⟨j, xs, a1, a2⟩
    · exact .inr ⟨f1, e1⟩
theorem S1.setEach {Q : L2.St → Hp → Prop} : ∀ {is : List Nat} {xs : List PV} {vs : List V} {env env' : En} {σ : L2.St}, U.setEach is xs env = some env' → S1 K μ L H env σ → RVs K μ L H xs vs →
    (∀ σ', S1 K μ L H env' σ' → (∀ a, Own env' σ' a → Own env σ a) → Q σ' H) → gAll is vs σ H Q
  | [], _, _, _, _, _, h, r, .nil, q => by
    cases h
    exact ⟨rfl, q _ r fun _ z => z⟩
  | [], _, _, _, _, _, h, _, .cons _ _ _, _ => by cases h
  | _ :: _, _, _, _, _, _, h, _, .nil, _ => by cases h
  | i :: is, _, _, _, _, _, h, r, .cons f rx rs, q =>
    ⟨_, _, rfl, S1.setEach h (r.set rx f i).1 rs fun σ' r' w => q σ' r' fun a z => (r.set rx f i).2 a (w a z)⟩
theorem S1.put {g : MG} {x : PV} {x' : V} {env env' : En} {σ : L2.St} {Q : L2.St → Hp → Prop} (h : g.put x env = some env') (r : S1 K μ L H env σ) (f : x.isFl = false) (rx : RV K μ L H x x')
    (q : ∀ σ', S1 K μ L H env' σ' → (∀ a, Own env' σ' a → Own env σ a) → Q σ' H) : gOf K g x' σ H Q := by
  cases g with
  | nm i =>
    cases h
    exact q _ (r.set rx f i).1 (r.set rx f i).2
  | tp is =>
    unfold MG.put at h
    simp only at h
    split at h
    · cases rx with
      | tup h1 r1 => exact ⟨_, _, rfl, h1, by rw [← r1.len]; exact setEach_len h, S1.setEach h r r1 q⟩
    · cases h
end
end U

set_option maxHeartbeats 8000000
/-! U13: statements, one by one. -/
namespace U
open PySem PySem.Spec PyProof.Rows L2
section
variable {K : PySem.W.Frag} {X : Cx} {call : Nat → List PV → Store → Res PV} {m : ME}
/-- e, dropped -/
theorem ps_ex {e : ME} {x : Expr} {pos : Pos} {turns : Nat} (he : SE X call e x) (hs : swapsWith x none pos.line X.env = pure false) : PS X (.Expr x pos) (rdS X.K (evS call turns (.ex e))) := by
  refine (ps_expr he.val hs).imp fun D σ H ⟨μ, env, st, o, r, p⟩ => ?_
  rw [evS] at p
  obtain ⟨x1, st1, h1, p⟩ := to_ok p
  exact ⟨μ, env, st, x1, st1, o, r.re, h1, fun μ1 H1 x' s1 o1 r1 f1 => p μ1 H1 σ s1.wide o1 (r.mono s1) fun a z => .inl z⟩
/-- x = e -/
theorem set_imp {e : ME} {i : Nat} {own : Bool} {turns : Nat} : ∀ D σ H, rdS K (evS call turns (.set i e own)) D σ H → tAsg (rd K (ev call e .val)) (gName i) D σ H := fun D σ H ⟨μ, env, st, o, r, p⟩ => by
  rw [evS] at p
  obtain ⟨x1, st1, h1, p⟩ := to_ok p
  refine ⟨μ, env, st, x1, st1, o, r.re, h1, fun μ1 H1 x' s1 o1 r1 f1 => ?_⟩
  show D.nx (σ.set i (some x')) H1
  cases own with
  | true =>
    have off : ∀ a, x1.isFl = true → x' = .ref a → H a = none := fun a z e => by
      cases x1 <;> first | cases z | skip
      subst e
      exact f1
    obtain ⟨q1, q2⟩ := (r.mono s1).setFl r1 (fun a z e w => by
      obtain ⟨vs, hv⟩ := w.there r.re
      rw [off a z e] at hv; cases hv) i
    exact p μ1 H1 _ s1.wide o1 q1 fun a z => (q2 a z).elim .inl fun w => .inr (off a w.1 w.2)
  | false =>
    obtain ⟨μe, se, oe, re, fe, _⟩ := Ok.esc s1 o1 r1 f1
    obtain ⟨q1, q2⟩ := (r.mono se).set re fe i
    exact p μe H1 _ se.wide oe q1 fun a z => .inl (q2 a z)
/-- return e -/
theorem ps_retE {e : ME} {x : Expr} {pos : Pos} {turns : Nat} (he : SE X call e x) (hv : ∀ j, e = .var j → PE X x (tVar j)) : PS X (.Return (some x) pos) (rdS X.K (evS call turns (.ret e))) := by
  have val : PS X (.Return (some x) pos) (tRet (rd X.K (ev call e .val))) := ps_ret he.val
  refine ⟨fun pins s σ H D I ⟨μ, env, st, o, r, p⟩ => ?_⟩
  rw [evS] at p
  split at p
  · rename_i i xs hh
    unfold ME.held at hh
    split at hh
    · rename_i j
      split at hh
      · rename_i hy
        cases hh
        obtain ⟨v, h1, h2⟩ := r.re.at_ _ _ hy
        refine (ps_ret (pos := pos) (hv _ rfl)).run pins s σ H D I ⟨v, h1, p μ H v StX.refl o h2 fun a _ e => .inl ⟨_, _, hy, ?_⟩⟩
        rw [← e]; exact h1
      · cases hh
    · cases hh
  · obtain ⟨x1, st1, h1, p⟩ := to_ok p
    refine val.run pins s σ H D I ⟨μ, env, st, x1, st1, o, r.re, h1, fun μ1 H1 v' s1 o1 r1 f1 => ?_⟩
    refine p μ1 H1 v' s1.wide o1 r1 fun a z e => .inr ?_
    cases x1 <;> first | cases z | skip
    subst e
    exact f1
theorem ps_ret0 {pos : Pos} {turns : Nat} : PS X (.Return none pos) (rdS X.K (evS call turns .ret0)) := by
  refine ps_retN.imp fun D σ H ⟨μ, env, st, o, r, p⟩ => ?_
  rw [evS] at p
  exact p μ H .non StX.refl o .non fun a z => by cases z
theorem ps_brk {pos : Pos} {turns : Nat} : PS X (.Break pos) (rdS X.K (evS call turns .brk)) := by
  refine ps_break.imp fun D σ H ⟨μ, env, st, o, r, p⟩ => ?_
  rw [evS] at p
  exact p μ H σ StX.refl o r fun a z => .inl z
theorem ps_cnt {pos : Pos} {turns : Nat} : PS X (.Continue pos) (rdS X.K (evS call turns .cnt)) := by
  refine ps_continue.imp fun D σ H ⟨μ, env, st, o, r, p⟩ => ?_
  rw [evS] at p
  exact p μ H σ StX.refl o r fun a z => .inl z
theorem ps_pas {pos : Pos} {turns : Nat} : PS X (.Pass pos) (rdS X.K (evS call turns .pass)) := by
  refine ps_pass.imp fun D σ H ⟨μ, env, st, o, r, p⟩ => ?_
  rw [evS] at p
  exact p μ H σ StX.refl o r fun a z => .inl z
/-- if -/
theorem ps_ite {t : ME} {a b : MSs} {c : Expr} {x y : List Stmt} {pos : Pos} {turns : Nat} (ht : SE X call t c) (ha : PSs X x (rdS X.K (evSs call turns a))) (hb : PSs X y (rdS X.K (evSs call turns b))) : PS X (.If c x y pos) (rdS X.K (evS call turns (.ite t a b))) := by
  refine (ps_if ht.test ha hb).imp fun D σ H ⟨μ, env, st, o, r, p⟩ => ?_
  rw [evS] at p
  obtain ⟨x1, st1, h1, p⟩ := to_ok p
  split at p
  · rename_i hk
    cases isBl_ok hk
    exact ⟨μ, env, st, true, st1, o, r.re, h1, fun μ1 H1 s1 o1 => iteT ⟨μ1, env, st1, o1, r.mono s1, p.shift s1.wide fun a z => .inl z⟩⟩
  · rename_i hk
    cases isBl_ok hk
    exact ⟨μ, env, st, false, st1, o, r.re, h1, fun μ1 H1 s1 o1 => iteF ⟨μ1, env, st1, o1, r.mono s1, p.shift s1.wide fun a z => .inl z⟩⟩
  · exact p.elim
/-- a block -/
theorem pss_n {turns : Nat} : PSs X [] (rdS X.K (evSs call turns .nil)) := by
  refine pss_nil.imp fun D σ H ⟨μ, env, st, o, r, p⟩ => ?_
  rw [evSs] at p
  exact p μ H σ StX.refl o r fun a z => .inl z
theorem pss_c {s : MS} {ss : MSs} {x : Stmt} {xs : List Stmt} {turns : Nat} (h1 : PS X x (rdS X.K (evS call turns s))) (h2 : PSs X xs (rdS X.K (evSs call turns ss))) : PSs X (x :: xs) (rdS X.K (evSs call turns (.cons s ss))) := by
  refine (pss_cons h1 h2).imp fun D σ H ⟨μ, env, st, o, r, p⟩ => ⟨μ, env, st, o, r, ?_⟩
  rw [evSs] at p
  cases q : evS call turns s env st with
  | nx e1 s1 =>
    rw [q] at p
    exact fun μ' H' σ' t o' r' w => ⟨μ', e1, s1, o', r', post.shift (r := evSs call turns ss e1 s1) t w p⟩
  | rt v s1 => rw [q] at p; exact p
  | bk e1 s1 => rw [q] at p; exact p
  | ct e1 s1 => rw [q] at p; exact p
  | bad => rw [q] at p; exact p
/-- while -/
theorem whl_step {test : En → Store → Res PV} {body : En → Store → SR} {n : Nat} {env : En} {st : Store} : whlLoop test body (n + 1) env st = (test env st).to fun x st1 => match isBl x with
    | some true => match body env st1 with
      | .nx e s => whlLoop test body n e s
      | .ct e s => whlLoop test body n e s
      | .bk e s => .nx e s
      | r => r
    | some false => .nx env st1
    | none => .bad := rfl
theorem ps_whl {t : ME} {b : MSs} {c : Expr} {x : List Stmt} {pos : Pos} {turns : Nat} (hp : PassesOwn (model X.prog X.w) X.A X.env X.xe) (ht : SE X call t c) (hb : PSs X x (rdS X.K (evSs call turns b))) : PS X (.While c x [] pos) (rdS X.K (evS call turns (.whl t b))) := by
  refine (ps_while hp ht.test hb).imp fun D σ H ⟨μ, env, st, o, r, p⟩ => ?_
  rw [evS] at p
  refine ⟨fun m σ H => ∃ μ env st, Ok X.K μ st H ∧ S1 X.K μ st.length H env σ ∧ post X.K (Own env σ) μ st H (whlLoop (ev call t .test) (evSs call turns b) m env st) D, ⟨turns, μ, env, st, o, r, p⟩, ?_⟩
  rintro m σ H ⟨μ, env, st, o, r, p⟩
  cases m with
  | zero => exact p.elim
  | succ m =>
    rw [whl_step] at p
    obtain ⟨x1, st1, h1, p⟩ := to_ok p
    split at p
    · rename_i hk
      cases isBl_ok hk
      refine ⟨μ, env, st, true, st1, o, r.re, h1, fun μ1 H1 s1 o1 => iteT ⟨fun σ' H' => ∃ μ env st, Ok X.K μ st H' ∧ S1 X.K μ st.length H' env σ' ∧ post X.K (Own env σ') μ st H' (whlLoop (ev call t .test) (evSs call turns b) m env st) D,
        fun σ' H' w => ⟨m, Nat.lt_succ_self m, w⟩, μ1, env, st1, o1, r.mono s1, ?_⟩⟩
      have p := p.shift (S' := Own env σ) s1.wide fun a z => .inl z
      cases q : evSs call turns b env st1 with
      | nx e s => rw [q] at p; exact fun μ' H' σ' t o' r' w => ⟨μ', e, s, o', r', post.shift t w p⟩
      | ct e s => rw [q] at p; exact fun μ' H' σ' t o' r' w => ⟨μ', e, s, o', r', post.shift t w p⟩
      | bk e s => rw [q] at p; exact p
      | rt v s => rw [q] at p; exact p
      | bad => rw [q] at p; exact p
    · rename_i hk
      cases isBl_ok hk
      exact ⟨μ, env, st, false, st1, o, r.re, h1, fun μ1 H1 s1 o1 => iteF (p μ1 H1 σ s1.wide o1 (r.mono s1) fun a z => .inl z)⟩
    · exact p.elim

/-! ### for -/
def rdF (K : PySem.W.Frag) (m : En → Store → Res Src) : TI := fun σ H R => ∃ μ env st s st', Ok K μ st H ∧ S1 K μ st.length H env σ ∧ m env st = .ok s st' ∧
  ∀ μ' H' J, Stp μ st.length H μ' st'.length H' → Ok K μ' st' H' → SrcR K (Own env σ) μ' st'.length H' J s → R J H'
theorem pf_val {tg it : Expr} (h : SE X call m it) : PI X tg it (rdF X.K fun env st => (ev call m .val env st).bind fun x st1 => opt (srcV x st1) st1) := by
  refine ⟨fun pins s σ H R I ⟨μ, env, st, src, st', o, r, h1, g⟩ => ?_⟩
  obtain ⟨v, st1, h2, h3⟩ := bind_ok h1
  obtain ⟨h4, rfl⟩ := opt_ok h3
  have ls : (∀ μ1 H1 v', Stp μ st.length H μ1 st1.length H1 → Ok X.K μ1 st1 H1 → RV X.K μ1 st1.length H1 v v' → Fr H v v' → ∃ a, v' = .ref a ∧ (∃ xs, SqL X.K H1 a xs) ∧ R (Itl X.K a) H1) →
      wpAny (model X.prog X.w) X.A (eval it X.env) (fun v s1 => wpAny (model X.prog X.w) X.A (pyIter v) (PIE X pins σ tg R) X.xe s1) X.xe s :=
    fun q => (pi_list h.val).run pins s σ H R I ⟨μ, env, st, v, st1, o, r.re, h2, fun μ1 H1 v' s1 o1 r1 f1 => q μ1 H1 v' s1 o1 r1 f1⟩
  cases v with
  | str z =>
    cases h4
    refine (pi_str h.val).run pins s σ H R I ⟨μ, env, st, _, st1, o, r.re, h2, fun μ1 H1 v' s1 o1 r1 _ => ?_⟩
    cases r1
    exact ⟨z, rfl, g μ1 H1 _ s1 o1 .str⟩
  | tup xs =>
    cases h4
    refine (pi_tup h.val).run pins s σ H R I ⟨μ, env, st, _, st1, o, r.re, h2, fun μ1 H1 v' s1 o1 r1 _ => ?_⟩
    cases r1 with
    | tup h5 r5 => exact ⟨_, rfl, ⟨_, h5⟩, g μ1 H1 _ s1 o1 (.tup h5 r5)⟩
  | fl xs =>
    cases h4
    refine ls fun μ1 H1 v' s1 o1 r1 f1 => ?_
    cases r1 with
    | fl h5 n5 r5 => exact ⟨_, rfl, ⟨_, SqL.of h5⟩, g μ1 H1 _ s1 o1 (.own h5 n5 (fun z => by
        obtain ⟨vs, hv⟩ := z.there r.re
        rw [show H _ = none from f1] at hv; cases hv) r5)⟩
  | rol xs =>
    cases h4
    refine ls fun μ1 H1 v' s1 o1 r1 _ => ?_
    cases r1 with
    | rol h5 r5 => exact ⟨_, rfl, ⟨_, h5.sq⟩, g μ1 H1 _ s1 o1 (.rol h5 r5)⟩
  | loc n =>
    refine ls fun μ1 H1 v' s1 o1 r1 _ => ?_
    cases r1 with
    | loc h5 =>
      obtain ⟨xs, hx, e⟩ := Option.map_eq_some_iff.mp h4
      obtain ⟨vs, hv⟩ := o1.held h5
      subst e
      exact ⟨_, rfl, ⟨vs, SqL.of hv⟩, g μ1 H1 _ s1 o1 (.live h5)⟩
  | _ => cases h4
theorem pf_rng2 {tg x y : Expr} {a b : ME} {p pos : Pos} (ha : SE X call a x) (hb : SE X call b y) (hg : Gl X "range") (hm : X.mg "range" = none) (hs : starEach [x, y] X.env = [(false, eval x X.env), (false, eval y X.env)]) (hs2 : starEach [y] X.env = [(false, eval y X.env)]) :
    PI X tg (.Call (.Name "range" p) [x, y] [] pos) (rdF X.K fun env st => (ev call a .val env st).bind fun x st1 => (ev call b .val env st1).bind fun y st2 => rngV x y st2) := by
  refine (pi_range2 hg hm (pa_cons ha.val (pa_cons hb.val pa_nil hs2) (by rw [hs, hs2])) hs hs2).imp fun σ H R ⟨μ, env, st, s, st', o, r, h, g⟩ => ?_
  obtain ⟨x1, st1, h1, h2⟩ := bind_ok h
  obtain ⟨y1, st2, h3, h4⟩ := bind_ok h2
  obtain ⟨i, j, rfl, rfl, hb, rfl, rfl⟩ := rng_ok h4
  refine ⟨μ, env, st, _, st1, o, r.re, h1, fun μ1 H1 x' s1 o1 r1 _ => ⟨μ1, env, st1, _, _, o1, r.re.mono s1, h3, fun μ2 H2 y' s2 o2 r2 _ => ?_⟩⟩
  cases r1; cases r2
  exact ⟨i, j, rfl, hb, g μ2 H2 _ (Stp.trans s1 s2) o2 .rng⟩
theorem pf_rng1 {tg y : Expr} {b : ME} {p pos : Pos} (hb : SE X call b y) (hg : Gl X "range") (hm : X.mg "range" = none) (hs : starEach [y] X.env = [(false, eval y X.env)]) :
    PI X tg (.Call (.Name "range" p) [y] [] pos) (rdF X.K fun env st => (ev call (.con (.int 0)) .val env st).bind fun x st1 => (ev call b .val env st1).bind fun y st2 => rngV x y st2) := by
  refine (pi_range1 hg hm (pa_cons hb.val pa_nil hs) hs).imp fun σ H R ⟨μ, env, st, s, st', o, r, h, g⟩ => ?_
  obtain ⟨x1, st1, h1, h2⟩ := bind_ok h
  cases (show Res.ok (PV.int 0) st = Res.ok x1 st1 from h1)
  obtain ⟨y1, st2, h3, h4⟩ := bind_ok h2
  obtain ⟨i, j, e, rfl, hb, rfl, rfl⟩ := rng_ok h4
  cases e
  refine ⟨μ, env, _, _, _, o, r.re, h3, fun μ2 H2 y' s2 o2 r2 _ => ?_⟩
  cases r2
  have q := g μ2 H2 _ s2 o2 (.rng (lo := 0) (n := (j - 0).toNat))
  rw [Int.sub_zero] at q
  exact ⟨j, rfl, hb.2.2.1, hb.2.2.2, q⟩
theorem for_step {put : PV → En → Option En} {body : En → Store → SR} {src : Src} {j n : Nat} {env : En} {st : Store} : forLoop put body src j (n + 1) env st = match src.get j st with
    | none => .bad
    | some x => match put x env with
      | none => .bad
      | some env' => match body env' st with
        | .nx e s => forLoop put body src (j + 1) n e s
        | .ct e s => forLoop put body src (j + 1) n e s
        | .bk e s => .nx e s
        | r => r := rfl
theorem ps_forE {g : MG} {src : ME} {b : MSs} {tg iter : Expr} {x : List Stmt} {pos : Pos} {turns : Nat} (hp : PassesOwn (model X.prog X.w) X.A X.env X.xe) (hc : X.calm = true) (hi : PI X tg iter (rdF X.K (evSrc call src))) (hg : PG X tg (gOf X.K g))
    (hb : PSs X x (rdS X.K (evSs call turns b))) (hs : ∀ x, foldedSetIterable iter X.env x = pure x) : PS X (.For tg iter x [] pos) (rdS X.K (evS call turns (.for_ g src b))) := by
  refine (ps_for hp hc hi hg hb hs).imp fun D σ H ⟨μ, env, st, o, r, p⟩ => ?_
  rw [evS] at p
  obtain ⟨src1, st1, h1, p⟩ := to_ok p
  refine ⟨μ, env, st, src1, st1, o, r, h1, fun μ1 H1 J s1 o1 j1 => ?_⟩
  have p := p.shift (S' := Own env σ) s1.wide fun a z => .inl z
  refine ⟨fun i m σ H => ∃ μ env st, Ok X.K μ st H ∧ S1 X.K μ st.length H env σ ∧ SrcR X.K (Own env σ) μ st.length H J src1 ∧ i + m = src1.many ∧ post X.K (Own env σ) μ st H (forLoop g.put (evSs call turns b) src1 i m env st) D,
    ⟨src1.many, μ1, env, st1, o1, r.mono s1, j1, by omega, p⟩, ?_⟩
  rintro i m σ H ⟨μ, env, st, o, r, j, em, p⟩
  cases m with
  | zero =>
    refine .inl ?_
    unfold forLoop at p
    split at p
    · rename_i hf
      have q := j.stop o hf
      have e0 : i = src1.many := by omega
      subst e0
      exact ⟨q, p μ H σ StX.refl o r fun a z => .inl z⟩
    · exact p.elim
  | succ m =>
    refine .inr ?_
    rw [for_step] at p
    split at p
    · exact p.elim
    · rename_i x hx
      split at p
      · exact p.elim
      · rename_i env' hput
        obtain ⟨q1, q2⟩ := j.go o hx
        refine ⟨q1, fun σ' H' => ∃ μ env st, Ok X.K μ st H' ∧ S1 X.K μ st.length H' env σ' ∧ SrcR X.K (Own env σ') μ st.length H' J src1 ∧ (i + 1) + m = src1.many ∧ post X.K (Own env σ') μ st H' (forLoop g.put (evSs call turns b) src1 (i + 1) m env st) D,
          fun σ' H' w => ⟨m, Nat.lt_succ_self m, w⟩, fun x' H' y => ?_⟩
        obtain ⟨rfl, rx, fx⟩ := q2 x' H' y
        refine S1.put hput r fx rx fun σ2 r2 w2 => ⟨μ, env', st, o, r2, ?_⟩
        have p := p.shift (S' := Own env' σ2) StX.refl fun a z => .inl (w2 a z)
        have j2 := j.mono (S1 := Own env' σ2) StX.refl fun a z => .inl (w2 a z)
        cases q : evSs call turns b env' st with
        | nx e s => rw [q] at p; exact fun μ' H' σ' t o' r' w => ⟨μ', e, s, o', r', j2.mono t w, by omega, post.shift t w p⟩
        | ct e s => rw [q] at p; exact fun μ' H' σ' t o' r' w => ⟨μ', e, s, o', r', j2.mono t w, by omega, post.shift t w p⟩
        | bk e s => rw [q] at p; exact p
        | rt v s => rw [q] at p; exact p
        | bad => rw [q] at p; exact p
/-- a, b = e -/
theorem ps_tup {is : List Nat} {e : ME} {x tg : Expr} {pos : Pos} {turns : Nat} (he : SE X call e x) (hg : PG X tg (gTup X.K is.length (gAll is))) (hs : swapsWithSole [tg] x pos.line X.env = pure false) (hw : swappedStores [tg] x X.env = pure none)
    (h1 : (assignEach [tg] X.env).map (·.2) = [assign tg X.env]) : PS X (.Assign [tg] x pos) (rdS X.K (evS call turns (.setT is e))) := by
  refine (ps_asg he.val hg hs hw h1).imp fun D σ H ⟨μ, env, st, o, r, p⟩ => ?_
  rw [evS] at p
  obtain ⟨x1, st1, h2, p⟩ := to_ok p
  refine ⟨μ, env, st, x1, st1, o, r.re, h2, fun μ1 H1 x' s1 o1 r1 f1 => ?_⟩
  split at p
  · split at p
    · rename_i env' hset
      cases r1 with
      | tup h3 r3 =>
        exact ⟨_, _, rfl, h3, by rw [← r3.len]; exact setEach_len hset, S1.setEach hset (r.mono s1) r3 fun σ' r' w => p μ1 H1 σ' s1.wide o1 r' fun a z => .inl (w a z)⟩
    · exact p.elim
  · exact p.elim
/-- a[i] = e -/
theorem ps_ix {a i e : ME} {y z x : Expr} {p1 pos : Pos} {turns : Nat} (ha : SE X call a y) (hi : SE X call i z) (he : SE X call e x) (hs : swapsWithSole [.Subscript y z p1] x pos.line X.env = pure false) (hw : swappedStores [.Subscript y z p1] x X.env = pure none)
    (hsub : ∀ v, assign (.Subscript y z p1) X.env v = (do
      let ov ← holding [v] (eval y X.env)
      let iv ← holding [v, ov] (eval z X.env)
      standAt p1
      holding [v, ov, iv] (setItem ov iv v)
      release [v, ov, iv] [])) : PS X (.Assign [.Subscript y z p1] x pos) (rdS X.K (evS call turns (.setIx a i e))) := by
  refine (ps_asg he.val (pg_sub ha.val hi.val set_list hsub) hs hw rfl).imp fun D σ H ⟨μ, env, st, o, r, p⟩ => ?_
  rw [evS] at p
  obtain ⟨v1, st1, h1, p⟩ := to_ok p
  obtain ⟨o1, st2, h2, p⟩ := to_ok p
  obtain ⟨k1, st3, h3, p⟩ := to_ok p
  refine ⟨μ, env, st, v1, st1, o, r.re, h1, fun μ1 H1 v' s1 ok1 r1 f1 => ⟨μ1, env, st1, o1, st2, ok1, r.re.mono s1, h2, fun μ2 H2 o' s2 ok2 r2 f2 => ⟨μ2, env, st2, k1, st3, ok2, r.re.mono (Stp.trans s1 s2), h3, fun μ3 H3 k' s3 ok3 r3 f3 => ?_⟩⟩⟩
  split at p
  · rename_i n k
    cases r3
    have r2 := r2.mono0 s3
    cases r2 with
    | loc hn =>
      split at p
      · rename_i xs hx
        split at p
        · rename_i j hj
          split at p
          · exact p.elim
          · rename_i nf
            obtain ⟨vs, q1, q2⟩ := ok3.cell _ _ hx
            have r1 := r1.mono0 (Stp.trans s2 s3)
            have nf : v1.isFl = false := by simpa using nf
            obtain ⟨w1, w2⟩ := ok3.write hn (q2.set nf r1 j)
            refine ⟨_, vs, _, j, rfl, rfl, q1, by rw [← q2.len]; exact hj, ?_⟩
            have all := Stp.trans s1 (Stp.trans s2 (Stp.trans s3 w1))
            exact p μ3 _ σ all.wide w2 (r.mono all) fun a z => .inl z
        · exact p.elim
      · exact p.elim
  · exact p.elim
/-- x += e -/
theorem ps_augE {i : Nat} {op : BOp} {e : ME} {x : Expr} {y : Str} {py pos : Pos} {turns : Nat} (he : SE X call e x) (hN : X.N.Nodup) (hi : X.N[i]? = some y) (hx : L2.Loc X.env.scope y) (hf : X.fn y = true ∨ X.env.scope.names.lookup y = some .local) :
    PS X (.AugAssign (.Name y py) (bop op) x pos) (rdS X.K (evS call turns (.aug i op e))) := by
  refine ⟨fun pins s σ H D I ⟨μ, env, st, o, r, p⟩ => ?_⟩
  rw [evS] at p
  split at p
  · rename_i n hn
    obtain ⟨v, h1, h2⟩ := r.re.at_ _ _ hn
    cases h2
    obtain ⟨y1, st1, h3, p⟩ := to_ok p
    split at p
    · rename_i z
      split at p
      · refine (ps_aug hN hi hx he.val ip_add hf).run pins s σ H D I ⟨_, h1, μ, env, st, _, st1, o, r.re, h3, fun μ1 H1 x' s1 o1 r1 f1 => ?_⟩
        cases r1
        refine ⟨n, z, rfl, rfl, ?_⟩
        obtain ⟨q1, q2⟩ := (r.mono s1).set (.int (n + z)) rfl i
        exact p μ1 H1 _ s1.wide o1 q1 fun a w => .inl (q2 a w)
      · refine (ps_aug hN hi hx he.val ip_sub hf).run pins s σ H D I ⟨_, h1, μ, env, st, _, st1, o, r.re, h3, fun μ1 H1 x' s1 o1 r1 f1 => ?_⟩
        cases r1
        refine ⟨n, z, rfl, rfl, ?_⟩
        obtain ⟨q1, q2⟩ := (r.mono s1).set (.int (n - z)) rfl i
        exact p μ1 H1 _ s1.wide o1 q1 fun a w => .inl (q2 a w)
      · exact p.elim
    · exact p.elim
  · exact p.elim
/-- xs.append(e), xs a list of its own -/
theorem ps_app {i : Nat} {e : ME} {x y : Expr} {apos cpos pos : Pos} {turns : Nat} (he : SE X call e x) (hv : PE X y (tVar i)) (hy : attributeBase y "append" X.env (eval y X.env) = eval y X.env) (hl : (apos.endLine == cpos.line) = true) (hx : plainE x = true) :
    PS X (.Expr (.Call (.Attribute y "append" apos) [x] [] cpos) pos) (rdS X.K (evS call turns (.app i e))) := by
  have st := star_ok hx [] X.env
  have few : ((backTo cpos (starEach [x] X.env)).all (fun x => !x.1) && (backToKw cpos (keywordEach [] X.env)).all (fun x => x.1.isSome)
        && decide (([x] : List Expr).length + ([] : List Keyword).length + (if ([] : List Keyword).isEmpty then 0 else 1) < 30)) = true := by rw [st]; rfl
  refine (ps_expr (pe_bm PySem.F.plainAttrs_list PySem.F.slot_list_append PySem.F.type_list_append mt_append hv (pa_cons he.val pa_nil st) hy few hl st rfl)).imp fun D σ H ⟨μ, env, st, o, r, p⟩ => ?_
  rw [evS] at p
  obtain ⟨y1, st1, h1, p⟩ := to_ok p
  split at p
  · rename_i xs hxs
    split at p
    · rename_i hz
      obtain ⟨v, h2, h3⟩ := r.re.at_ _ _ hxs
      cases h3 with
      | @fl _ a vs h4 n4 r4 =>
        refine ⟨_, h2, .inl ⟨rfl, vs, SqL.of h4⟩, μ, env, st, y1, st1, o, r.re, h1, fun μ1 H1 y' s1 o1 r1 f1 => ?_⟩
        obtain ⟨μe, se, oe, re, fe, _⟩ := Ok.esc s1 o1 r1 f1
        have own : Own env σ a := ⟨i, xs, hxs, h2⟩
        have h5 : H1 a = some (.lst vs) := se.keep a _ h4 n4 fun z => z
        have r5 := r.mono se
        have n5 : ∀ n, n < (esc y1 st1).2.length → μe n ≠ a := fun n hn z => by
          by_cases hl : n < st.length
          · exact n4 n hl ((se.ext n hl).symm.trans z)
          · have := se.new n (by omega) hn
            rw [z, h4] at this; cases this
        have wr : StX (fun b => b = a) μe (esc y1 st1).2.length H1 μe (esc y1 st1).2.length (upd H1 a (.lst (vs ++ [y']))) := StX.wrt h5
        have all : StX (Own env σ) μ st.length H μe (esc y1 st1).2.length (upd H1 a (.lst (vs ++ [y']))) := StX.trans se.wide wr fun b e => .inl (by rw [e]; exact own)
        have off : ∀ (w : V), Off (fun b => b = a) (esc y1 st1).1 w := fun w => by
          cases hq : (esc y1 st1).1 <;> first | trivial | (rw [hq] at fe; cases fe)
        refine ⟨a, vs, y', rfl, rfl, h5, by rw [← r4.len]; exact hz, ?_⟩
        refine p μe _ σ all (oe.wrt h5 n5) ⟨⟨by simp [r.re.len], fun j q hq => ?_⟩, fun j k zs ws b ne g1 g2 g3 g4 => ?_⟩ fun b ⟨j, zs, g1, g2⟩ => .inl ?_
        · by_cases e : i = j
          · subst e
            by_cases hi : i < env.length
            · rw [List.getElem?_set_self hi] at hq
              cases hq
              exact ⟨_, h2, .fl upd_same n5 ((RVs.mono wr (RVs.mono se r4)).app (RVs.one fe (RV.mono wr (off _) re)))⟩
            · rw [List.getElem?_eq_none (by simp; omega)] at hq; cases hq
          · rw [List.getElem?_set_ne e] at hq
            obtain ⟨w, g1, g2⟩ := r5.re.at_ j q hq
            refine ⟨w, g1, RV.mono wr ?_ g2⟩
            cases g2 with
            | fl _ _ _ => exact fun z => r.de i j _ _ _ e hxs hq h2 (by rw [← z]; exact g1)
            | _ => trivial
        · have back : ∀ (j : Nat) (zs : List PV), (env.set i (some (.fl (xs ++ [(esc y1 st1).1]))))[j]? = some (some (.fl zs)) → ∃ zs', env[j]? = some (some (.fl zs')) := fun j zs h => by
            by_cases e : i = j
            · subst e; exact ⟨_, hxs⟩
            · rw [List.getElem?_set_ne e] at h; exact ⟨_, h⟩
          obtain ⟨_, b1⟩ := back j zs g1
          obtain ⟨_, b2⟩ := back k ws g2
          exact r.de j k _ _ b ne b1 b2 g3 g4
        · by_cases e : i = j
          · subst e; exact ⟨i, xs, hxs, g2⟩
          · rw [List.getElem?_set_ne e] at g1; exact ⟨j, zs, g1, g2⟩
    · exact p.elim
  · exact p.elim
end
end U

set_option maxHeartbeats 8000000
/-! U14: every statement; a def; a program. -/
namespace U
open PySem PySem.Spec PyProof.Rows L2
section
variable {W : Wd} {k : Nat} {call : Nat → List PV → Store → Res PV} {turns : Nat}
/-- a body whose every name may be stored, and which lets nothing out -/
structure Gs (W : Wd) (C : Ct) (k : Nat) (X : Cx) : Prop extends Gd W C k X where
  kind : X.env.scope.kind = .function
  fnT : ∀ x, X.fn x = true
  xe : X.xe = fun _ _ => False
theorem Gs.pass {C : Ct} {X : Cx} (G : Gs W C k X) : PassesOwn (model X.prog X.w) X.A X.env X.xe := by
  rw [G.xe]
  exact PassesOwn.never
theorem loc_of {sc : Scope} {x : Str} (h : locB sc x = true) : L2.Loc sc x := by
  unfold locB at h
  unfold L2.Loc
  split at h <;> first | (rename_i q; rw [q]; simp) | cases h
theorem pv1 {C : Ct} {X : Cx} (G : Gs W C k X) {i : Nat} {e : Expr} (h : mV1 C i e = true) : PG X e (gName i) := by
  cases e <;> try (exact absurd h Bool.false_ne_true)
  rename_i x pos
  have h : (decide (C.N[i]? = some x) && locB C.sc x) = true := h
  simp only [Bool.and_eq_true, decide_eq_true_eq] at h
  exact pg_name G.nd (by rw [G.N]; exact h.1) (loc_of (by rw [G.sc]; exact h.2)) (.inl (G.fnT x))
theorem assignV_ok {e : Expr} {C : Ct} {i : Nat} (h : mV1 C i e = true) (es : List Expr) (env : Env) : assignEach (e :: es) env = (false, assign e env) :: assignEach es env := by
  cases e <;> first | rfl | exact absurd h Bool.false_ne_true
theorem pvs {C : Ct} {X : Cx} (G : Gs W C k X) : ∀ {is : List Nat} {es : List Expr}, mVs C is es = true → PGs X es (gAll is) ∧ (assignEach es X.env).length = is.length ∧ (assignEach es X.env).findIdx? (·.1) = none
  | [], [], _ => ⟨pgs_nil, rfl, rfl⟩
  | [], _ :: _, h => by cases h
  | _ :: _, [], h => by cases h
  | i :: is, e :: es, h => by
    have h : (mV1 C i e && mVs C is es) = true := h
    rw [Bool.and_eq_true] at h
    obtain ⟨p1, p2, p3⟩ := pvs G h.2
    have e1 := assignV_ok h.1 es X.env
    refine ⟨pgs_cons (pv1 G h.1) p1 (by rw [e1]; rfl), by rw [e1]; simp [p2], by rw [e1]; simp [List.findIdx?_cons, p3]⟩
theorem pvT {C : Ct} {X : Cx} (G : Gs W C k X) {is : List Nat} {es : List Expr} {n : Nat} {p : Pos} (h : mVs C is es = true) : PG X (.Tuple es n p) (gTup X.K is.length (gAll is)) := by
  obtain ⟨p1, p2, p3⟩ := pvs G h
  exact pg_tup G.calm p1 p2 p3
theorem pvG {C : Ct} {X : Cx} (G : Gs W C k X) {g : MG} {e : Expr} (h : mV C g e = true) : PG X e (gOf X.K g) := by
  cases g with
  | nm i => exact pv1 G h
  | tp is =>
    cases e <;> try (exact absurd h Bool.false_ne_true)
    exact pvT G (show mVs C is _ = true from h)
theorem sw_ok {v : Expr} (h : notLc v = true) (t : Option Expr) (l : Nat) (env : Env) : swapsWith v t l env = pure false := by
  cases v <;> first | rfl | cases h
theorem sws_ok {v tg : Expr} (h : notLc v = true) (l : Nat) (env : Env) : swapsWithSole [tg] v l env = pure false := sw_ok h _ _ _
theorem st_ok {v : Expr} {es : List Expr} {n : Nat} {p : Pos} (h : notTup v = true) (env : Env) : swappedStores [.Tuple es n p] v env = pure none := by
  cases v <;> first | rfl | cases h
theorem st_sub {v y z : Expr} {p : Pos} (env : Env) : swappedStores [.Subscript y z p] v env = pure none := by
  cases v <;> rfl
theorem sub_ok {y z : Expr} {p : Pos} {env : Env} (h : plainE z = true) (v : Value) : assign (.Subscript y z p) env v = (do
      let ov ← holding [v] (eval y env)
      let iv ← holding [v, ov] (eval z env)
      standAt p
      holding [v, ov, iv] (setItem ov iv v)
      release [v, ov, iv] []) := by
  cases z <;> first | rfl | cases h
theorem src_ok {C : Ct} {X : Cx} (G : Gs W C k X) (F : Fx W C k call) {src : ME} {tg it : Expr} (h : mSrc C src it = true) : PI X tg it (rdF X.K (evSrc call src)) := by
  have gen : mE C src it = true → (∀ env st, evSrc call src env st = (ev call src .val env st).bind fun v st1 => opt (srcV v st1) st1) → PI X tg it (rdF X.K (evSrc call src)) := fun h e => by
    have e2 : evSrc call src = fun env st => (ev call src .val env st).bind fun v st1 => opt (srcV v st1) st1 := by
      funext env st
      exact e env st
    rw [e2]
    exact pf_val (sE src G.toGd F h)
  cases src with
  | rng a b =>
    unfold mSrc at h
    simp only at h
    split at h
    · rename_i f p es pos
      simp only [Bool.and_eq_true, decide_eq_true_eq] at h
      obtain ⟨⟨⟨rfl, h1⟩, h2⟩, h3⟩ := h
      obtain ⟨g1, g2⟩ := gl_of (X := X) (by rw [G.sc]; exact h2)
      have hm : X.mg "range" = none := by rw [G.mg]; exact F.bl _ h1
      split at h3
      · split at h3
        · exact pf_rng1 (sE b G.toGd F h3) g1 hm (star_ok (plain_ok h3) _ _)
        · cases h3
      · rename_i z y
        rw [Bool.and_eq_true] at h3
        have e2 : starEach [y] X.env = [(false, eval y X.env)] := star_ok (plain_ok h3.2) _ _
        exact pf_rng2 (sE a G.toGd F h3.1) (sE b G.toGd F h3.2) g1 hm (by rw [star_ok (plain_ok h3.1), e2]) e2
      · cases h3
    · cases h
  | _ => exact gen h fun _ _ => rfl
theorem var_ok {C : Ct} {X : Cx} (G : Gd W C k X) {i : Nat} {e : Expr} (h : mE C (.var i) e = true) : PE X e (tVar i) := by
  cases e <;> try (exact absurd h Bool.false_ne_true)
  rename_i x pos
  have h : (decide (C.N[i]? = some x) && visB C.sc x && !(x == ("__debug__" : Str)) && !(x == ("__classdict__" : Str))) = true := h
  simp only [Bool.and_eq_true, decide_eq_true_eq, Bool.not_eq_true'] at h
  exact pe_var (by rw [G.N]; exact h.1.1.1) (vis_of (by rw [G.sc]; exact h.1.1.2)) h.1.2 h.2
/-- x = [..], from its parts -/
theorem lcSet_mk {C : Ct} {X : Cx} (G : Gs W C k X) {elt c m : ME} {g : MG} {has : Bool} {x tg iter : Expr} {ifs : List Expr} {scope : Scope} {pos : Pos} {srcF : En → Store → Res Src}
    (hi : PI X tg iter (rdW X.K srcF)) (hp : ∀ x, foldedSetIterable iter X.env x = pure x) (h2 : blkC C.N C.sc scope (g.own C.N) = true) (h3 : mG { C with sc := relS scope C.sc } g tg = true)
    (h4 : tsOk { C with sc := relS scope C.sc } has c ifs = true) (hc : ∀ {X : Cx}, Gd W { C with sc := relS scope C.sc } k X → ∀ t, mE { C with sc := relS scope C.sc } c t = true → SE X call c t)
    (he : ∀ {X : Cx}, Gd W { C with sc := relS scope C.sc } k X → SE X call elt x)
    (eq : ∀ md env st, ev call m md env st = ((srcF env st).bind fun s st1 => lcLoop (fun e s => if has then (ev call c .test e s).bind fun x s1 => opt (isBl x) s1 else .ok true s) (ev call elt .val) g.put (wipe env g.slots) s 0 s.many [] st1).bind fun v st1 => done md v st1)
    {i : Nat} {y : Str} {py spos : Pos} (hN : X.N[i]? = some y) (hy : X.env.scope.names.lookup y = some .local) (hl : (py.line == pos.line) = true) (ha : (scope.names.any fun (n, k) => n == y && (k == .local || k == .cell)) = false) :
    PS X (.Assign [.Name y py] (.ListComp x [⟨tg, iter, ifs, 0⟩] scope pos) spos) (tAsg (rd X.K (ev call m .val)) (gName i)) := by
  have ok : BlkOk X.N X.env.scope scope (g.own C.N) := by rw [G.N, G.sc]; exact blkOk_by h2
  have p := ps_setLc (pos := pos) (spos := spos) (own := g.own C.N) (g := gOf X.K g) (tt := tTest' X.K call has c) (te := rd X.K (ev call elt .val)) G.calm G.nd hN hy (sw_true G.kind hy hl ha) hi ok
    (fun s H a cl fp => pgG (G.toGd.blk s H scope a cl fp) h3) (fun s H a cl fp => ts_ok h4 (hc (G.toGd.blk s H scope a cl fp))) (fun s H a cl fp => (he (G.toGd.blk s H scope a cl fp)).val) hp
  rw [own_slots] at p
  refine p.imp fun D σ H q => ?_
  refine SE.lcImp (test := fun e s => if has then (ev call c .test e s).bind fun x s1 => opt (isBl x) s1 else .ok true s) (elt := ev call elt .val) (srcF := srcF) (fun _ _ _ q => q) (fun _ _ _ q => q) ?_ (rd_eq (fun env st => ?_) σ H _ q)
  · intro μ env st b st' σ H Q o r h q
    unfold tTest'
    cases has with
    | true =>
      obtain ⟨x, s1, h1, h2⟩ := bind_ok h
      obtain ⟨h3, rfl⟩ := opt_ok h2
      cases isBl_ok h3
      exact ⟨μ, env, st, b, _, o, r, h1, q⟩
    | false =>
      cases h
      exact q μ H StX.refl o
  · rw [eq]
    cases (srcF env st).bind fun s st1 => lcLoop (fun e s => if has then (ev call c .test e s).bind fun x s1 => opt (isBl x) s1 else .ok true s) (ev call elt .val) g.put (wipe env g.slots) s 0 s.many [] st1 <;> rfl
theorem lc_only {C : Ct} {e : ME} {x : Expr} {gs : List Comprehension} {scope : Scope} {pos : Pos} (h : mE C e (.ListComp x gs scope pos) = true) : ∃ elt g src has c, e = .lc elt g src has c := by
  cases e <;> first | exact ⟨_, _, _, _, _, rfl⟩ | (cases h; done)
theorem set_lc {C : Ct} {X : Cx} (G : Gs W C k X) (F : Fx W C k call) {e : ME} {i : Nat} {y : Str} {py spos : Pos} {v : Expr} (h : mE C e v = true) (hN : X.N[i]? = some y) (hl : lcOk C y py v = true) :
    PS X (.Assign [.Name y py] v spos) (tAsg (rd X.K (ev call e .val)) (gName i)) := by
  unfold lcOk at hl
  split at hl
  · rename_i x gs scope pos
    simp only [Bool.and_eq_true, decide_eq_true_eq, Bool.not_eq_true'] at hl
    obtain ⟨⟨⟨l1, l2⟩, l3⟩, l4⟩ := hl
    have hy : X.env.scope.names.lookup y = some .local := by rw [G.sc]; exact l2
    obtain ⟨elt, g, src, has, c, rfl⟩ := lc_only h
    by_cases hn : ∀ a b, src ≠ .rng a b
    · rw [mE_lc hn] at h
      split at h
      · rename_i q
        cases q
        simp only [Bool.and_eq_true] at h
        obtain ⟨⟨⟨⟨h1, h2⟩, h3⟩, h4⟩, h5⟩ := h
        exact lcSet_mk G (pi_used (sE src G.toGd F h1)) (set_ok (plain_ok h1) _) h2 h3 h4
          (fun G' t ht => sE c G' ⟨F.fn, F.cs, F.bl⟩ ht) (fun G' => sE elt G' ⟨F.fn, F.cs, F.bl⟩ h5) (fun _ _ _ => ev_lc hn) hN hy l3 l4
      · cases h
    · cases src with
      | rng a b =>
        unfold mE at h
        split at h
        · rename_i q
          cases q
          simp only [Bool.and_eq_true, decide_eq_true_eq] at h
          obtain ⟨⟨⟨⟨⟨⟨⟨rfl, h1⟩, h2⟩, h3⟩, h4⟩, h5⟩, h6⟩, h7⟩ := h
          obtain ⟨g1, g2⟩ := gl_of (X := X) (by rw [G.sc]; exact h2)
          have hm : X.mg "range" = none := by rw [G.mg]; exact F.bl _ h1
          refine lcSet_mk G (srcF := fun env st => (ev call a .val env st).bind fun x st1 => (ev call b .val env st1).bind fun y st2 => rngV x y st2) ?_ (fun _ => rfl) h4 h5 h6
            (fun G' t ht => sE c G' ⟨F.fn, F.cs, F.bl⟩ ht) (fun G' => sE elt G' ⟨F.fn, F.cs, F.bl⟩ h7) (fun _ _ _ => ev_lcR) hN hy l3 l4
          split at h3
          · split at h3
            · exact pi_rng1 (sE b G.toGd F h3) g1 hm (star_ok (plain_ok h3) _ _)
            · cases h3
          · rename_i z y
            rw [Bool.and_eq_true] at h3
            have e2 : starEach [y] X.env = [(false, eval y X.env)] := star_ok (plain_ok h3.2) _ _
            exact pi_rng2 (sE a G.toGd F h3.1) (sE b G.toGd F h3.2) g1 hm (by rw [star_ok (plain_ok h3.1), e2]) e2
          · cases h3
        · cases h
      | _ => exact absurd (fun a b z => by cases z) hn
  · cases hl
mutual
theorem sS : ∀ (m : MS) {C : Ct} {X : Cx} (G : Gs W C k X) (F : Fx W C k call) {s : Stmt}, mS C m s = true → PS X s (rdS X.K (evS call turns m))
  | .set i e own, C, X, G, F, s, h => by
    unfold mS at h
    split at h
    · rename_i x px v pos
      simp only [Bool.and_eq_true, decide_eq_true_eq, Bool.or_eq_true] at h
      obtain ⟨⟨⟨h1, h2⟩, h3⟩, h4⟩ := h
      have se := sE e G.toGd F h3
      rcases h4 with h4 | h4
      · exact (ps_set G.nd (by rw [G.N]; exact h1) (loc_of (by rw [G.sc]; exact h2)) se.val (sw_ok h4 _ _ _) (.inl (G.fnT x))).imp set_imp
      · exact (set_lc G F h3 (by rw [G.N]; exact h1) h4).imp set_imp
    · cases h
  | .setT is e, C, X, G, F, s, h => by
    unfold mS at h
    split at h
    · simp only [Bool.and_eq_true] at h
      obtain ⟨⟨⟨h1, h2⟩, h3⟩, h4⟩ := h
      exact ps_tup (sE e G.toGd F h2) (pvT G h1) (sws_ok h3 _ _) (st_ok h4 _) rfl
    · cases h
  | .setIx a i e, C, X, G, F, s, h => by
    unfold mS at h
    split at h
    · simp only [Bool.and_eq_true] at h
      obtain ⟨⟨⟨h1, h2⟩, h3⟩, h4⟩ := h
      exact ps_ix (sE a G.toGd F h1) (sE i G.toGd F h2) (sE e G.toGd F h3) (sws_ok h4 _ _) (st_sub _) (sub_ok (plain_ok h2))
    · cases h
  | .aug i o e, C, X, G, F, s, h => by
    unfold mS at h
    split at h
    · rename_i x p op v pos
      simp only [Bool.and_eq_true, decide_eq_true_eq] at h
      obtain ⟨⟨⟨rfl, h1⟩, h2⟩, h3⟩ := h
      exact ps_augE (sE e G.toGd F h3) G.nd (by rw [G.N]; exact h1) (loc_of (by rw [G.sc]; exact h2)) (.inl (G.fnT x))
    · cases h
  | .ex e, C, X, G, F, s, h => by
    unfold mS at h
    split at h
    · rw [Bool.and_eq_true] at h
      exact ps_ex (sE e G.toGd F h.1) (sw_ok h.2 _ _ _)
    · cases h
  | .app i e, C, X, G, F, s, h => by
    unfold mS at h
    split at h
    · rename_i x p name apos y cpos pos
      simp only [Bool.and_eq_true, decide_eq_true_eq] at h
      obtain ⟨⟨⟨rfl, h1⟩, h2⟩, h3⟩ := h
      exact ps_app (sE e G.toGd F h3) (var_ok G.toGd h2) rfl h1 (plain_ok h3)
    · cases h
  | .ret e, C, X, G, F, s, h => by
    unfold mS at h
    split at h
    · exact ps_retE (sE e G.toGd F h) fun j z => by
        subst z
        exact var_ok G.toGd h
    · cases h
  | .ret0, C, X, G, F, s, h => by
    unfold mS at h
    split at h
    · exact ps_ret0
    · cases h
  | .ite t a b, C, X, G, F, s, h => by
    unfold mS at h
    split at h
    · simp only [Bool.and_eq_true] at h
      exact ps_ite (sE t G.toGd F h.1.1) (sSs a G F h.1.2) (sSs b G F h.2)
    · cases h
  | .whl t b, C, X, G, F, s, h => by
    unfold mS at h
    split at h
    · rw [Bool.and_eq_true] at h
      exact ps_whl G.pass (sE t G.toGd F h.1) (sSs b G F h.2)
    · cases h
  | .for_ g src b, C, X, G, F, s, h => by
    unfold mS at h
    split at h
    · simp only [Bool.and_eq_true] at h
      exact ps_forE G.pass G.calm (src_ok G F h.1.1.2) (pvG G h.1.1.1) (sSs b G F h.2) (set_ok h.1.2 _)
    · cases h
  | .brk, C, X, G, F, s, h => by
    unfold mS at h
    split at h
    · exact ps_brk
    · cases h
  | .cnt, C, X, G, F, s, h => by
    unfold mS at h
    split at h
    · exact ps_cnt
    · cases h
  | .pass, C, X, G, F, s, h => by
    unfold mS at h
    split at h
    · exact ps_pas
    · cases h
theorem sSs : ∀ (ms : MSs) {C : Ct} {X : Cx} (G : Gs W C k X) (F : Fx W C k call) {s : List Stmt}, mSs C ms s = true → PSs X s (rdS X.K (evSs call turns ms))
  | .nil, C, X, G, F, s, h => by
    cases s with
    | nil => exact pss_n
    | cons _ _ => cases h
  | .cons m ms, C, X, G, F, s, h => by
    cases s with
    | nil => cases h
    | cons x xs =>
      rw [mSs, Bool.and_eq_true] at h
      exact pss_c (sS m G F h.1) (sSs ms G F h.2)
end
end
end U

set_option maxHeartbeats 8000000
/-! U15: a def, a program, a law. -/
namespace U
open PySem PySem.Spec PyProof.Rows L2
section
variable {K : PySem.W.Frag} {μ : Nat → Addr} {L : Nat} {H : Hp}
mutual
theorem RV.low {n : Nat} (hn : n ≤ L) : ∀ {x : PV} {v : V}, PV.low n x = true → RV K μ L H x v → RV K μ n H x v
  | _, _, _, .non => .non
  | _, _, _, .bl b => .bl b
  | _, _, _, .int i => .int i
  | _, _, _, .str z => .str z
  | .tup xs, .ref a, l, .tup h r => .tup h (RVs.low hn (show PV.lowL n xs = true from l) r)
  | .loc m, _, l, .loc h => .loc (of_decide_eq_true (show decide (m < n) = true from l))
  | .fl xs, .ref a, l, .fl h k r => .fl h (fun m hm => k m (Nat.lt_of_lt_of_le hm hn)) (RVs.low hn (show PV.lowL n xs = true from l) r)
  | .rol xs, .ref a, l, .rol h r => .rol h (RVs.low hn (show PV.lowL n xs = true from l) r)
theorem RVs.low {n : Nat} (hn : n ≤ L) : ∀ {xs : List PV} {vs : List V}, PV.lowL n xs = true → RVs K μ L H xs vs → RVs K μ n H xs vs
  | _, _, _, .nil => .nil
  | x :: xs, v :: vs, l, .cons f h r => by
    have l : (PV.low n x && PV.lowL n xs) = true := l
    rw [Bool.and_eq_true] at l
    exact .cons f (RV.low hn l.1 h) (RVs.low hn l.2 r)
end
theorem leave_ok {μ0 : Nat → Addr} {H0 : Hp} {st s st' : Store} {v w : PV} {v' : V} (h : leave st.length v s = .ok w st') (t : Stp μ0 st.length H0 μ s.length H) (o : Ok K μ s H) (r : RV K μ s.length H v v') :
    w = v ∧ Stp μ0 st.length H0 μ st'.length H ∧ Ok K μ st' H ∧ RV K μ st'.length H v v' := by
  unfold leave at h
  split at h
  · cases h; exact ⟨rfl, t, o, r⟩
  · rename_i hn
    split at h
    · rename_i hc
      cases h
      rw [Bool.and_eq_true] at hc
      have el : (s.take st.length).length = st.length := by rw [List.length_take]; omega
      have hle : st.length ≤ s.length := by omega
      refine ⟨rfl, ?_, ⟨fun a b ha hb e => o.inj a b (by omega) (by omega) e, fun n xs hx => ?_⟩, ?_⟩
      · rw [el]
        exact ⟨Nat.le_refl _, t.ext, t.keep, t.tup, t.frz, t.there, fun n h1 h2 => absurd h2 (by omega)⟩
      · rw [el]
        have hm : Cell.lst xs ∈ s.take st.length := List.mem_of_getElem? hx
        have lo : PV.lowL st.length xs = true := (List.all_eq_true.mp hc.2) _ hm
        have hx2 : s[n]? = some (.lst xs) := by
          rw [List.getElem?_take] at hx
          split at hx
          · exact hx
          · cases hx
        obtain ⟨vs, h1, h2⟩ := o.cell n xs hx2
        exact ⟨vs, h1, RVs.low hle lo h2⟩
      · rw [el]; exact RV.low hle hc.1 r
    · cases h; exact ⟨rfl, t, o, r⟩
theorem start_ok {as : List PV} {vs : List V} {N : List Str} {nl : Nat} (r : RVs K μ L H as vs) (f : as.any PV.isFl = false) (hN : N.length = nl) : S1 K μ L H (as.map some ++ List.replicate (nl - as.length) none) (L2.start N vs) ∧
    ∀ a, ¬ Own (as.map some ++ List.replicate (nl - as.length) none) (L2.start N vs) a := by
  have get : ∀ (i : Nat) (x : PV), (as.map some ++ List.replicate (nl - as.length) (none : Option PV))[i]? = some (some x) → as[i]? = some x := fun i x h => by
    by_cases hi : i < as.length
    · rw [List.getElem?_append_left (by simpa using hi), List.getElem?_map] at h
      cases e : as[i]? with
      | none => rw [e] at h; cases h
      | some a => rw [e] at h; cases h; rfl
    · rw [List.getElem?_append_right (by simpa using hi), List.getElem?_replicate] at h
      split at h <;> cases h
  have nofl : ∀ (i : Nat) (xs : List PV), as[i]? ≠ some (.fl xs) := fun i xs h => by
    have := List.any_eq_false.mp f _ (List.mem_of_getElem? h)
    exact this rfl
  refine ⟨⟨⟨?_, fun i x h => ?_⟩, fun i j xs ys a _ h1 _ _ _ => nofl i xs (get i _ h1)⟩, fun a ⟨i, xs, h1, _⟩ => nofl i xs (get i _ h1)⟩
  · unfold L2.start
    have := r.len
    simp
    omega
  · obtain ⟨v, h1, h2, _⟩ := r.get (get i x h)
    refine ⟨v, ?_, h2⟩
    unfold L2.start
    have hi : i < vs.length := (List.getElem?_eq_some_iff.mp h1).1
    rw [List.getElem?_append_left (by simpa using hi), List.getElem?_map, h1]
    rfl
end
section
variable {W : Wd} {k : Nat} {turns : Nat} {D : Nat → Option Def}
theorem call_len {f : Nat} {d : Def} {as : List PV} {st st' : Store} {v : PV} {j : Nat} (hd : D f = some d) (h : evCall turns D j f as st = .ok v st') : as.length = d.np := by
  cases j with
  | zero => cases h
  | succ j =>
    rw [evCall, hd] at h
    simp only at h
    split at h
    · rename_i q; exact q.1
    · cases h
/-- a def of the text: its name, its number, where it stands -/
structure Ent where
  x : Str
  f : Nat
  a : Addr
  fd : FuncData
  st : Stmt
  N : List Str
  ps : List Str
  d : Def
def Ent.pair (e : Ent) : Str × Nat := (e.x, e.f)
structure EntOk (W : Wd) (D : Nat → Option Def) (fn : List (Str × Nat)) (cs : List (Str × PV)) (bl : List Str) (e : Ent) : Prop where
  mg : W.mg e.x = some (.ref e.a)
  fun_ : Fun W.K e.x e.x e.st e.a e.fd
  binds : Binds W.K e.fd e.ps []
  sc : FnScope e.N e.ps (defScope e.st)
  d : D e.f = some e.d
  np : e.ps.length = e.d.np
  nl : e.N.length = e.d.nl
  text : mSs ⟨e.N, defScope e.st, fn, cs, bl⟩ e.d.body (defBody e.st) = true
/-- a program of the text -/
structure ProgOk (W : Wd) (D : Nat → Option Def) (es : List Ent) (cs : List (Str × PV)) (bl : List Str) : Prop where
  df : ∀ e ∈ es, EntOk W D (es.map Ent.pair) cs bl e
  cs : ∀ x v, cs.lookup x = some v → v.isFl = false ∧ ∃ u v', W.mg x = some u ∧ RelV v' u ∧ ∀ μ L H, RV W.K μ L H v v'
  bl : ∀ x, bl.contains x = true → W.mg x = none
theorem ent_of : ∀ {es : List Ent} {x : Str} {f : Nat}, (es.map Ent.pair).lookup x = some f → ∃ e, e ∈ es ∧ e.x = x ∧ e.f = f
  | [], _, _, h => by cases h
  | e :: es, x, f, h => by
    have h : (match x == e.x with
      | true => some e.f
      | false => (es.map Ent.pair).lookup x) = some f := h
    split at h
    · rename_i q
      cases h
      exact ⟨e, List.mem_cons_self, (eq_of_beq q).symm, rfl⟩
    · obtain ⟨e', h1, h2⟩ := ent_of h
      exact ⟨e', List.mem_cons_of_mem _ h1, h2⟩
theorem def_ok {es : List Ent} {cs : List (Str × PV)} {bl : List Str} (P : ProgOk W D es cs bl) (ih : ∀ e ∈ es, FnOk W.P W.w W.K W.mg W.base CX0 k e.a e.fd e.ps (spEv W.K (evCall turns D k e.f)))
    (e : Ent) (he : e ∈ es) : FnOk W.P W.w W.K W.mg W.base CX0 (k + 1) e.a e.fd e.ps (spEv W.K (evCall turns D (k + 1) e.f)) := by
  have E0 := P.df e he
  refine E0.fun_.ok E0.sc (fun vs H Q E h => ?_) fun cdv A outer s H vs Q E hr h => ?_
  · obtain ⟨μ, st, as, v, st', _, r, q, _⟩ := h
    rw [← r.len, E0.np]
    exact call_len E0.d q
  · obtain ⟨μ, st0, as, v, st', o, r, q, g⟩ := h
    rw [evCall, E0.d] at q
    simp only at q
    split at q
    · rename_i qq
      obtain ⟨s1, own⟩ := start_ok (N := e.N) r qq.2 E0.nl
      have G : Gs W ⟨e.N, defScope e.st, es.map Ent.pair, cs, bl⟩ k (cxOf CX0 W.P W.w W.K W.mg W.base e.N e.x (defScope e.st) e.a cdv A outer s H E).nox :=
        ⟨⟨rfl, rfl, rfl, rfl, rfl, rfl, rfl, E0.sc.nd, rfl, hr⟩, E0.sc.kind, fun _ => rfl, rfl⟩
      have F : Fx W ⟨e.N, defScope e.st, es.map Ent.pair, cs, bl⟩ k (evCall turns D k) := ⟨fun x f hx => by
        obtain ⟨e', h1, rfl, rfl⟩ := ent_of hx
        have E1 := P.df e' h1
        exact ⟨e'.a, e'.fd, e'.ps, E1.mg, E1.fun_.kp, E1.binds, ih e' h1⟩, P.cs, P.bl⟩
      refine ⟨_, sSs (turns := turns) e.d.body G F E0.text, μ, _, st0, o, s1, ?_⟩
      rw [← qq.1] at q
      split at q
      · rename_i env' s' hs
        rw [hs]
        refine fun μ' H' σ' t o' r' w => ?_
        have t : Stp μ st0.length H μ' s'.length H' := t.weak fun b z => (own b z).elim
        obtain ⟨rfl, q1, q2, q3⟩ := leave_ok q t o' .non
        exact g μ' H' .non q1 q2 q3 trivial
      · rename_i w' s' hs
        rw [hs]
        refine fun μ' H' v' t o' r' w => ?_
        have t : Stp μ st0.length H μ' s'.length H' := t.weak fun b z => (own b z).elim
        obtain ⟨rfl, q1, q2, q3⟩ := leave_ok q t o' r'
        refine g μ' H' v' q1 q2 q3 ?_
        cases q3 with
        | fl _ _ _ => exact (w _ rfl rfl).elim (fun z => (own _ z).elim) fun z => z
        | _ => trivial
      · cases q
    · cases q
theorem prog_ok {es : List Ent} {cs : List (Str × PV)} {bl : List Str} (P : ProgOk W D es cs bl) : ∀ (k : Nat) (e : Ent), e ∈ es → FnOk W.P W.w W.K W.mg W.base CX0 k e.a e.fd e.ps (spEv W.K (evCall turns D k e.f))
  | 0, e, he => by
    refine ⟨fun vs H Q E h => ?_, fun A outer s H args us vs Q E _ _ _ _ h => ?_⟩
    · obtain ⟨μ, st, as, v, st', _, r, q, _⟩ := h
      cases q
    · obtain ⟨μ, st, as, v, st', _, r, q, _⟩ := h
      cases q
  | k + 1, e, he => def_ok P (prog_ok P k) e he
end
/-- a def behind the top -/
theorem fun_at {K : PySem.W.Frag} {x : Str} {st : Stmt} {f : Addr} {oc : Value} {od an : Option Addr} {osl : Array (Option Value)} {kV doc pm cdv ct : Value} (l : K.lookup f = some ⟨oc, od, .func (PySem.W.fnOf x x (defArgs st) (defBody st) (defScope st) .none kV doc pm an cdv ct), osl⟩)
    (c : PySem.W.codeIn K cdv x = true) (k : PySem.W.keepIn K (.ref f) = true) : Fun K x x st f (PySem.W.fnOf x x (defArgs st) (defBody st) (defScope st) .none kV doc pm an cdv ct) := fun_mk l c k
/-- a written tuple of texts -/
theorem tup_rv {K : PySem.W.Frag} {a : Addr} {od : Option Addr} {its : Array Value} {n : Nat} {sl : Array (Option Value)} {xs : List Str} (l : K.lookup a = some ⟨.type "tuple", od, .seq its n, sl⟩) (hz : its.size ≤ sizeLine) (v : Vals (xs.map V.str) its.toList) :
    ∀ μ L H, RV K μ L H (.tup (xs.map .str)) (.ref a) := fun μ L H => by
  have go : ∀ xs : List Str, RVs K μ L H (xs.map PV.str) (xs.map V.str) := fun xs => by
    induction xs with
    | nil => exact .nil
    | cons z xs ih => exact .cons rfl (.str z) ih
  exact .tup (.inr ⟨_, its, n, l, rfl, rfl, hz, v⟩) (go xs)
/-- the law's promise, from what its program yields -/
theorem law_sp {K : PySem.W.Frag} {cf : List PV → Store → Res PV} {H : Hp} {a : Addr} {ns : List Int} (h : ∃ st', cf [.rol (ns.map .int)] [] = .ok (.bl true) st') (ho : Only H) (hs : SqL K H a (ns.map V.int)) : spEv K cf [.ref a] H (fun v _ => v = .bl true) fun _ _ _ => False := by
  obtain ⟨st', e⟩ := h
  refine ⟨fun _ => 0, [], _, _, st', ⟨fun n m hn => absurd hn (by simp), fun n xs hx => by simp at hx⟩, .cons rfl (.rol ?_ (go ns)) .nil, e, fun μ' H' v' _ _ r _ => by cases r; rfl⟩
  rcases hs with (z | ⟨o, z⟩) | z
  · rcases ho a with w | ⟨o, xs, w⟩ <;> (rw [w] at z; cases z)
  · exact .inl ⟨o, z⟩
  · exact .inr z
where go {K : PySem.W.Frag} {μ : Nat → Addr} {L : Nat} {H : Hp} : ∀ ns : List Int, RVs K μ L H (ns.map PV.int) (ns.map V.int)
  | [] => .nil
  | n :: ns => .cons rfl (.int n) (go ns)
end U

set_option maxHeartbeats 8000000
/-! U16: reasoning over the language. -/
namespace U
open PySem L2
@[simp] theorem bind_ok_ {α β : Type} (a : α) (st : Store) (f : α → Store → Res β) : (Res.ok a st).bind f = f a st := rfl
@[simp] theorem opt_some_ {α : Type} (a : α) (st : Store) : opt (some a) st = .ok a st := rfl
@[simp] theorem to_ok_ {α : Type} (a : α) (st : Store) (f : α → Store → SR) : (Res.ok a st).to f = f a st := rfl
@[simp] theorem then_nx_ (e : En) (st : Store) (f : En → Store → SR) : (SR.nx e st).then f = f e st := rfl
@[simp] theorem then_rt_ (v : PV) (st : Store) (f : En → Store → SR) : (SR.rt v st).then f = .rt v st := rfl
@[simp] theorem then_bk_ (e : En) (st : Store) (f : En → Store → SR) : (SR.bk e st).then f = .bk e st := rfl
@[simp] theorem then_ct_ (e : En) (st : Store) (f : En → Store → SR) : (SR.ct e st).then f = .ct e st := rfl
@[simp] theorem isBl_bl_ (b : Bool) : isBl (.bl b) = some b := rfl
@[simp] theorem done_val_ (v : PV) (st : Store) : done .val v st = .ok v st := rfl
@[simp] theorem done_use_ (v : PV) (st : Store) : done .use v st = .ok v st := rfl
@[simp] theorem done_tbl_ (b : Bool) (st : Store) : done .test (.bl b) st = .ok (.bl b) st := rfl
@[simp] theorem isFl_non : PV.isFl .non = false := rfl
@[simp] theorem isFl_bl (b : Bool) : PV.isFl (.bl b) = false := rfl
@[simp] theorem isFl_int (i : Int) : PV.isFl (.int i) = false := rfl
@[simp] theorem isFl_str (s : Str) : PV.isFl (.str s) = false := rfl
@[simp] theorem isFl_tup (s : List PV) : PV.isFl (.tup s) = false := rfl
@[simp] theorem isFl_loc (n : Nat) : PV.isFl (.loc n) = false := rfl
@[simp] theorem isFl_rol (n : List PV) : PV.isFl (.rol n) = false := rfl
@[simp] theorem esc_non (st : Store) : esc .non st = (.non, st) := rfl
@[simp] theorem esc_bl (b : Bool) (st : Store) : esc (.bl b) st = (.bl b, st) := rfl
@[simp] theorem esc_int (i : Int) (st : Store) : esc (.int i) st = (.int i, st) := rfl
@[simp] theorem esc_str (s : Str) (st : Store) : esc (.str s) st = (.str s, st) := rfl
@[simp] theorem esc_tup (s : List PV) (st : Store) : esc (.tup s) st = (.tup s, st) := rfl
@[simp] theorem esc_loc (n : Nat) (st : Store) : esc (.loc n) st = (.loc n, st) := rfl
@[simp] theorem esc_rol (n : List PV) (st : Store) : esc (.rol n) st = (.rol n, st) := rfl
@[simp] theorem esc_fl (n : List PV) (st : Store) : esc (.fl n) st = (.loc st.length, st ++ [.lst n]) := rfl
/-! values at names -/
@[simp] theorem varV_non (st : Store) : varV .val (some (some .non)) st = .ok .non st := rfl
@[simp] theorem varV_bl (b : Bool) (st : Store) : varV .val (some (some (.bl b))) st = .ok (.bl b) st := rfl
@[simp] theorem varV_int (i : Int) (st : Store) : varV .val (some (some (.int i))) st = .ok (.int i) st := rfl
@[simp] theorem varV_str (s : Str) (st : Store) : varV .val (some (some (.str s))) st = .ok (.str s) st := rfl
@[simp] theorem varV_tup (xs : List PV) (st : Store) : varV .val (some (some (.tup xs))) st = .ok (.tup xs) st := rfl
@[simp] theorem varV_loc (n : Nat) (st : Store) : varV .val (some (some (.loc n))) st = .ok (.loc n) st := rfl
@[simp] theorem varV_rol (xs : List PV) (st : Store) : varV .val (some (some (.rol xs))) st = .ok (.rol xs) st := rfl
@[simp] theorem varV_use (v : PV) (st : Store) : varV .use (some (some v)) st = .ok v st := rfl
@[simp] theorem varV_test (v : PV) (st : Store) : varV .test (some (some v)) st = done .test v st := rfl
/-! operations -/
@[simp] theorem bin_add_int (i j : Int) (st : Store) : binV .add (.int i) (.int j) st = some (.int (i + j)) := rfl
@[simp] theorem bin_sub_int (i j : Int) (st : Store) : binV .sub (.int i) (.int j) st = some (.int (i - j)) := rfl
theorem bin_mul_int {i j : Int} {st : Store} (h : ckM i j = true) : binV .mul (.int i) (.int j) st = some (.int (i * j)) := if_pos h
theorem bin_mod_int {i j : Int} {st : Store} (h : 0 < j) : binV .mod (.int i) (.int j) st = some (.int (i % j)) := if_pos h
theorem bin_fdiv_int {i j : Int} {st : Store} (h : 0 < j ∧ j < 1073741824) : binV .fdiv (.int i) (.int j) st = some (.int (i / j)) := if_pos h
theorem bin_pow_int {i j : Int} {st : Store} (h : 0 ≤ j ∧ j ≤ 1000000 ∧ i.natAbs < 2 ^ 64) : binV .pow (.int i) (.int j) st = some (.int (i ^ j.toNat)) := if_pos h
theorem bin_add_str {x y : Str} {st : Store} (h : x.length + y.length ≤ sizeLine) : binV .add (.str x) (.str y) st = some (.str (x ++ y)) := if_pos h
theorem bin_add_tup {x y : List PV} {st : Store} (h : x.length + y.length ≤ sizeLine) : binV .add (.tup x) (.tup y) st = some (.tup (x ++ y)) := if_pos h
theorem bin_mul_str {x : Str} {j : Int} {st : Store} (h : -1000000 ≤ j ∧ j ≤ 1000000 ∧ x.length * j.toNat ≤ 1000000) : binV .mul (.str x) (.int j) st = some (.str (⟨((List.replicate j.toNat x.cps.toList).flatten).toArray⟩)) := if_pos h
@[simp] theorem cmp_eq_int (i j : Int) (st : Store) : cmpV .eq (.int i) (.int j) st = some (decide (i = j)) := by
  show some (decide (V.int i = V.int j)) = _
  simp
@[simp] theorem cmp_ne_int (i j : Int) (st : Store) : cmpV .ne (.int i) (.int j) st = some (!decide (i = j)) := by
  show some (!decide (V.int i = V.int j)) = _
  simp
@[simp] theorem cmp_eq_str (i j : Str) (st : Store) : cmpV .eq (.str i) (.str j) st = some (decide (i = j)) := by
  show some (decide (V.str i = V.str j)) = _
  simp
@[simp] theorem cmp_ne_str (i j : Str) (st : Store) : cmpV .ne (.str i) (.str j) st = some (!decide (i = j)) := by
  show some (!decide (V.str i = V.str j)) = _
  simp
@[simp] theorem cmp_lt_int (i j : Int) (st : Store) : cmpV .lt (.int i) (.int j) st = some (decide (i < j)) := rfl
@[simp] theorem cmp_le_int (i j : Int) (st : Store) : cmpV .le (.int i) (.int j) st = some (decide (i ≤ j)) := rfl
@[simp] theorem cmp_gt_int (i j : Int) (st : Store) : cmpV .gt (.int i) (.int j) st = some (decide (j < i)) := rfl
@[simp] theorem cmp_ge_int (i j : Int) (st : Store) : cmpV .ge (.int i) (.int j) st = some (decide (j ≤ i)) := rfl
@[simp] theorem seq_tup (xs : List PV) (st : Store) : seqOf (.tup xs) st = some xs := rfl
@[simp] theorem seq_fl (xs : List PV) (st : Store) : seqOf (.fl xs) st = some xs := rfl
@[simp] theorem seq_rol (xs : List PV) (st : Store) : seqOf (.rol xs) st = some xs := rfl
theorem seq_loc {n : Nat} {xs : List PV} {st : Store} (h : st[n]? = some (.lst xs)) : seqOf (.loc n) st = some xs := by
  unfold seqOf
  simp only [h]
theorem ix_loc {n : Nat} {xs : List PV} {st : Store} {k : Int} (h : st[n]? = some (.lst xs)) : ixV (.loc n) (.int k) st = atI xs k := by
  unfold ixV
  simp only [seq_loc h]
@[simp] theorem ix_tup_ (xs : List PV) (k : Int) (st : Store) : ixV (.tup xs) (.int k) st = atI xs k := rfl
@[simp] theorem ix_fl_ (xs : List PV) (k : Int) (st : Store) : ixV (.fl xs) (.int k) st = atI xs k := rfl
@[simp] theorem ix_rol_ (xs : List PV) (k : Int) (st : Store) : ixV (.rol xs) (.int k) st = atI xs k := rfl
theorem ix_str_ {z : Str} {k : Int} {st : Store} (h : z.length ≤ sizeLine) : ixV (.str z) (.int k) st = (atI z.cps.toList k).map fun c => .str ⟨#[c]⟩ := if_pos h
@[simp] theorem atI_0 {α : Type} (x : α) (xs : List α) : atI (x :: xs) 0 = some x := atI_nat (j := 0) rfl
@[simp] theorem atI_1 {α : Type} (x y : α) (xs : List α) : atI (x :: y :: xs) 1 = some y := atI_nat (j := 1) rfl
@[simp] theorem atI_2 {α : Type} (x y z : α) (xs : List α) : atI (x :: y :: z :: xs) 2 = some z := atI_nat (j := 2) rfl
@[simp] theorem atI_3 {α : Type} (x y z w : α) (xs : List α) : atI (x :: y :: z :: w :: xs) 3 = some w := atI_nat (j := 3) rfl
@[simp] theorem truth_bl_ (b : Bool) (st : Store) : truth (.bl b) st = some b := rfl
@[simp] theorem bi_int_int (i : Int) (st : Store) : biV .int [.int i] st = some (.int i) := rfl
@[simp] theorem bi_int_bl (k : Bool) (st : Store) : biV .int [.bl k] st = some (.int (if k then 1 else 0)) := rfl
@[simp] theorem bi_abs (i : Int) (st : Store) : biV .abs [.int i] st = some (.int (if i < 0 then -i else i)) := rfl
@[simp] theorem bi_max (i j : Int) (st : Store) : biV .max [.int i, .int j] st = some (.int (if j > i then j else i)) := rfl
@[simp] theorem bi_min (i j : Int) (st : Store) : biV .min [.int i, .int j] st = some (.int (if j < i then j else i)) := rfl
theorem bi_len_str {z : Str} {st : Store} (h : z.length ≤ sizeLine) : biV .len [.str z] st = some (.int z.length) := if_pos h
theorem bi_len_loc {n : Nat} {xs : List PV} {st : Store} (h : st[n]? = some (.lst xs)) : biV .len [.loc n] st = some (.int xs.length) := by
  show (seqOf (.loc n) st).map _ = _
  rw [seq_loc h]; rfl
@[simp] theorem bi_len_fl (xs : List PV) (st : Store) : biV .len [.fl xs] st = some (.int xs.length) := rfl
@[simp] theorem bi_len_tup (xs : List PV) (st : Store) : biV .len [.tup xs] st = some (.int xs.length) := rfl
@[simp] theorem bi_list_rol (xs : List PV) (st : Store) : biV .list [.rol xs] st = some (.fl xs) := rfl
@[simp] theorem bi_repr (b : Bool) (st : Store) : biV .repr [.bl b] st = some (.str (if b then Str.ofString "True" else Str.ofString "False")) := rfl
theorem bi_str {i : Int} {st : Store} (h : i.natAbs < 1000000) : biV .str [.int i] st = some (.str (toString i)) := if_pos h
@[simp] theorem low_int (n : Nat) (i : Int) : PV.low n (.int i) = true := rfl
@[simp] theorem low_bl (n : Nat) (i : Bool) : PV.low n (.bl i) = true := rfl
@[simp] theorem low_str (n : Nat) (i : Str) : PV.low n (.str i) = true := rfl
theorem leave_id (v : PV) (st : Store) : leave st.length v st = .ok v st := if_pos (Nat.le_refl _)
theorem leave_set (v : PV) (st : Store) (n : Nat) (c : Cell) : leave st.length v (st.set n c) = .ok v (st.set n c) := if_pos (by simp)
theorem leave_setAt (v : PV) (st : Store) (n : Nat) (c : List PV) : leave st.length v (setAt st n c) = .ok v (setAt st n c) := if_pos (by simp [setAt])
/-- a call that leaves the store as long as it was -/
theorem leave_same {n : Nat} {v : PV} {st : Store} (h : st.length ≤ n) : leave n v st = .ok v st := if_pos h

/-- the turns of a comprehension over items -/
theorem lcLoop_inv {test : En → Store → Res Bool} {elt : En → Store → Res PV} {put : PV → En → Option En} {env : En} {xs : List PV} (I : Nat → List PV → Store → Prop)
    (step : ∀ j x acc st, xs[j]? = some x → I j acc st → ∃ env' b st1, put x env = some env' ∧ test env' st = .ok b st1 ∧
      if b = true then ∃ y st2, elt env' st1 = .ok y st2 ∧ acc.length < sizeLine ∧ I (j + 1) (acc ++ [(esc y st2).1]) (esc y st2).2 else I (j + 1) acc st1) :
    ∀ m j acc st, j + m = xs.length → I j acc st → ∃ acc' st', lcLoop test elt put env (.items xs) j m acc st = .ok (.fl acc') st' ∧ I xs.length acc' st'
  | 0, j, acc, st, e, i => by
    have e : j = xs.length := by omega
    subst e
    exact ⟨acc, st, rfl, i⟩
  | m + 1, j, acc, st, e, i => by
    have hj : j < xs.length := by omega
    obtain ⟨env', b, st1, h1, h2, h3⟩ := step j xs[j] acc st (by simp [hj]) i
    have hg : (Src.items xs).get j st = some xs[j] := by simp [Src.get, hj]
    unfold lcLoop
    rw [hg]
    simp only [h1, h2, bind_ok_]
    cases b with
    | false =>
      simp only [Bool.false_eq_true, if_false] at h3 ⊢
      exact lcLoop_inv I step m (j + 1) acc st1 (by omega) h3
    | true =>
      simp only [if_true] at h3 ⊢
      obtain ⟨y, st2, h4, h5, h6⟩ := h3
      simp only [h4, bind_ok_, if_pos h5]
      exact lcLoop_inv I step m (j + 1) _ _ (by omega) h6
/-- .. that leave the store -/
theorem lcLoop_pure {test : En → Store → Res Bool} {elt : En → Store → Res PV} {put : PV → En → Option En} {env : En} {xs : List PV} {st : Store} (b : PV → Bool) (f : PV → PV) (hz : xs.length < sizeLine)
    (step : ∀ x, x ∈ xs → ∃ env', put x env = some env' ∧ test env' st = .ok (b x) st ∧ (b x = true → elt env' st = .ok (f x) st ∧ (f x).isFl = false)) :
    lcLoop test elt put env (.items xs) 0 xs.length [] st = .ok (.fl ((xs.filter b).map f)) st := by
  obtain ⟨acc, st', h1, h2, h3⟩ := lcLoop_inv (env := env) (put := put) (test := test) (elt := elt) (xs := xs) (fun j acc st' => st' = st ∧ acc = ((xs.take j).filter b).map f) (fun j x acc st1 hx ⟨e1, e2⟩ => by
    subst e1
    obtain ⟨env', q1, q2, q3⟩ := step x (List.mem_of_getElem? hx)
    have ht : xs.take (j + 1) = xs.take j ++ [x] := by rw [List.take_add_one, hx]; rfl
    refine ⟨env', b x, st1, q1, q2, ?_⟩
    cases hb : b x with
    | false =>
      simp only [Bool.false_eq_true, if_false]
      exact ⟨by trivial, by rw [ht, List.filter_append, e2]; simp [hb]⟩
    | true =>
      obtain ⟨q4, q5⟩ := q3 hb
      simp only [if_true]
      refine ⟨f x, st1, q4, ?_, ?_⟩
      · rw [e2, List.length_map]
        have := List.length_filter_le b (xs.take j)
        have := List.length_take_le j xs
        have : (xs.take j).length ≤ xs.length := by rw [List.length_take]; omega
        omega
      · have es : esc (f x) st1 = (f x, st1) := by cases hf : f x <;> first | rfl | (rw [hf] at q5; cases q5)
        rw [es]
        exact ⟨by trivial, by rw [ht, List.filter_append, e2]; simp [hb]⟩) xs.length 0 [] st (by omega) ⟨rfl, by simp⟩
  rw [h1, h2, h3, List.take_length]
/-- what a turn comes to -/
def SR.go (r : SR) (P : En → Store → Prop) : Prop := match r with
  | .nx e s => P e s
  | .ct e s => P e s
  | _ => False
@[simp] theorem go_nx (e : En) (s : Store) (P : En → Store → Prop) : (SR.nx e s).go P = P e s := rfl
@[simp] theorem go_ct (e : En) (s : Store) (P : En → Store → Prop) : (SR.ct e s).go P = P e s := rfl
def SR.goR (r : SR) (P : En → Store → Prop) (R : PV → Store → Prop) : Prop := match r with
  | .nx e s => P e s
  | .ct e s => P e s
  | .rt v s => R v s
  | _ => False
@[simp] theorem goR_nx (e : En) (s : Store) (P : En → Store → Prop) (R : PV → Store → Prop) : (SR.nx e s).goR P R = P e s := rfl
@[simp] theorem goR_ct (e : En) (s : Store) (P : En → Store → Prop) (R : PV → Store → Prop) : (SR.ct e s).goR P R = P e s := rfl
@[simp] theorem goR_rt (v : PV) (s : Store) (P : En → Store → Prop) (R : PV → Store → Prop) : (SR.rt v s).goR P R = R v s := rfl
/-- the turns of a for over items, none of which leaves -/
theorem forLoop_inv {put : PV → En → Option En} {body : En → Store → SR} {xs : List PV} (I : Nat → En → Store → Prop)
    (step : ∀ j x env st, xs[j]? = some x → I j env st → ∃ env', put x env = some env' ∧ (body env' st).go fun e s => I (j + 1) e s) :
    ∀ m j env st, j + m = xs.length → I j env st → ∃ e s, forLoop put body (.items xs) j m env st = .nx e s ∧ I xs.length e s
  | 0, j, env, st, e, i => by
    have e : j = xs.length := by omega
    subst e
    exact ⟨env, st, rfl, i⟩
  | m + 1, j, env, st, e, i => by
    have hj : j < xs.length := by omega
    obtain ⟨env', h1, h2⟩ := step j xs[j] env st (by simp [hj]) i
    have hg : (Src.items xs).get j st = some xs[j] := by simp [Src.get, hj]
    unfold forLoop
    rw [hg]
    simp only [h1]
    cases q : body env' st with
    | nx e' s' => rw [q] at h2; exact forLoop_inv I step m (j + 1) e' s' (by omega) h2
    | ct e' s' => rw [q] at h2; exact forLoop_inv I step m (j + 1) e' s' (by omega) h2
    | _ => rw [q] at h2; exact h2.elim
/-- .. some of which may hand back a value of R -/
theorem forLoop_ret {put : PV → En → Option En} {body : En → Store → SR} {xs : List PV} (I : Nat → En → Store → Prop) (R : PV → Store → Prop)
    (step : ∀ j x env st, xs[j]? = some x → I j env st → ∃ env', put x env = some env' ∧ (body env' st).goR (fun e s => I (j + 1) e s) R) :
    ∀ m j env st, j + m = xs.length → I j env st → (∃ e s, forLoop put body (.items xs) j m env st = .nx e s ∧ I xs.length e s) ∨ ∃ v s, forLoop put body (.items xs) j m env st = .rt v s ∧ R v s
  | 0, j, env, st, e, i => by
    have e : j = xs.length := by omega
    subst e
    exact .inl ⟨env, st, rfl, i⟩
  | m + 1, j, env, st, e, i => by
    have hj : j < xs.length := by omega
    obtain ⟨env', h1, h2⟩ := step j xs[j] env st (by simp [hj]) i
    have hg : (Src.items xs).get j st = some xs[j] := by simp [Src.get, hj]
    unfold forLoop
    rw [hg]
    simp only [h1]
    cases q : body env' st with
    | nx e' s' => rw [q] at h2; exact forLoop_ret I R step m (j + 1) e' s' (by omega) h2
    | ct e' s' => rw [q] at h2; exact forLoop_ret I R step m (j + 1) e' s' (by omega) h2
    | rt v s => rw [q] at h2; exact .inr ⟨v, s, rfl, h2⟩
    | _ => rw [q] at h2; exact h2.elim
theorem atI_nn {α : Type} {xs : List α} {i : Int} {x : α} (h0 : 0 ≤ i) (h : xs[i.toNat]? = some x) : atI xs i = some x := by
  have := atI_nat h
  rwa [Int.toNat_of_nonneg h0] at this
end U

set_option maxHeartbeats 8000000
namespace K00
abbrev DEEP : Nat := 6
abbrev TURNS : Nat := 1
/-! the program's own text, by the generator -/
open PySem PySem.Spec PyProof.Rows L2 U
def topS (i : Nat) : Stmt := PySem.Challenge.pw_flowform_k00_names_and_outcomes.main.body.getD i (.Pass ⟨0, 0, 0, 0⟩)
def e1_0 : ME :=
  (.cmp .inn (.var 1) (.glb "WORD_CHARACTERS" (.str "abcdefghijklmnopqrstuvwxyzABCDEFGHIJKLMNOPQRSTUVWXYZ_0123456789")))
/-- is_name -/
abbrev s1 : Stmt := topS 6
def n1 : List Str := ["text", "character"]
def p1 : List Str := ["text"]
def d1 : Def := { np := 1, nl := 2, body :=
  (.cons (.ite (.or (.not (.cmp2 .le .le (.con (.int 1)) (.bi .len (.cons (.var 0) .nil)) (.glb "LONGEST_NAME" (.int 30)))) (.cmp .inn (.var 0) (.glb "RESERVED" (.tup [(.str "let"), (.str "if"), (.str "else"), (.str "while"), (.str "for"), (.str "break"), (.str "continue"), (.str "return"), (.str "try"), (.str "finally"), (.str "true"), (.str "false")])))) (.cons (.ret (.con (.bl false)))
  .nil) .nil)
  (.cons (.ret (.and (.cmp .inn (.ix (.var 0) (.con (.int 0))) (.glb "LETTERS" (.str "abcdefghijklmnopqrstuvwxyzABCDEFGHIJKLMNOPQRSTUVWXYZ"))) (.bi .all (.cons (.lc e1_0 (.nm 1) (.var 0) false (.con (.bl true))) .nil))))
  .nil)) }
def e2_0 : ME :=
  (.cmp .inn (.var 1) (.glb "DIGITS" (.str "0123456789")))
/-- is_number -/
abbrev s2 : Stmt := topS 7
def n2 : List Str := ["text", "character"]
def p2 : List Str := ["text"]
def d2 : Def := { np := 1, nl := 2, body :=
  (.cons (.ite (.or (.not (.cmp2 .le .le (.con (.int 1)) (.bi .len (.cons (.var 0) .nil)) (.con (.int 2)))) (.not (.bi .all (.cons (.lc e2_0 (.nm 1) (.var 0) false (.con (.bl true))) .nil)))) (.cons (.ret (.con (.bl false)))
  .nil) .nil)
  (.cons (.ret (.or (.cmp .eq (.bi .len (.cons (.var 0) .nil)) (.con (.int 1))) (.cmp .ne (.ix (.var 0) (.con (.int 0))) (.con (.str "0")))))
  .nil)) }
/-- is_outcome -/
abbrev s3 : Stmt := topS 8
def n3 : List Str := ["text", "word", "_", "rest"]
def p3 : List Str := ["text"]
def d3 : Def := { np := 1, nl := 4, body :=
  (.cons (.ite (.cmp .inn (.var 0) (.tup (.cons (.con (.str "end")) (.cons (.con (.str "return")) (.cons (.con (.str "hang")) .nil))))) (.cons (.ret (.con (.bl true)))
  .nil) .nil)
  (.cons (.setT [1, 2, 3] (.mt .partition (.var 0) (.cons (.con (.str " ")) .nil)))
  (.cons (.ite (.cmp .eq (.var 1) (.con (.str "return"))) (.cons (.ret (.fn 2 (.cons (.var 3) .nil)))
  .nil) .nil)
  (.cons (.ret (.and (.cmp .inn (.var 1) (.tup (.cons (.con (.str "break")) (.cons (.con (.str "continue")) .nil)))) (.fn 1 (.cons (.var 3) .nil))))
  .nil)))) }
def b4_0 : MSs :=
  (.cons (.set 1 (.bin .mod (.bi .int (.cons (.bin .add (.bin .mul (.var 1) (.con (.int 31))) (.bi .abs (.cons (.bi .int (.cons (.var 2) .nil)) .nil))) .nil)) (.con (.int 2147483647))) false)
  .nil)
/-- _law_tape -/
abbrev s4 : Stmt := topS 10
def n4 : List Str := ["script", "total", "cell"]
def p4 : List Str := ["script"]
def d4 : Def := { np := 1, nl := 3, body :=
  (.cons (.set 1 (.con (.int 7)) false)
  (.cons (.for_ (.nm 2) (.var 0) b4_0)
  (.cons (.ret (.lst (.cons (.bi .list (.cons (.var 0) .nil)) (.cons (.con (.int 0)) (.cons (.con (.int 0)) (.cons (.var 1) .nil))))))
  .nil))) }
/-- _law_draw -/
abbrev s5 : Stmt := topS 11
def n5 : List Str := ["tape", "many", "place", "number"]
def p5 : List Str := ["tape", "many"]
def d5 : Def := { np := 2, nl := 4, body :=
  (.cons (.ite (.cmp .eq (.ix (.var 0) (.con (.int 2))) (.con (.int 0))) (.cons (.set 2 (.ix (.var 0) (.con (.int 1))) false)
  (.cons (.set 3 (.con (.int 0)) false)
  (.cons (.ite (.cmp .lt (.var 2) (.bi .len (.cons (.ix (.var 0) (.con (.int 0))) .nil))) (.cons (.set 3 (.bi .abs (.cons (.bi .int (.cons (.ix (.ix (.var 0) (.con (.int 0))) (.var 2)) .nil)) .nil)) false)
  .nil) (.cons (.setIx (.var 0) (.con (.int 3)) (.bin .mod (.bi .int (.cons (.bin .add (.bin .add (.bin .mul (.ix (.var 0) (.con (.int 3))) (.con (.int 48271))) (.var 2)) (.con (.int 1))) .nil)) (.con (.int 2147483647))))
  (.cons (.set 3 (.ix (.var 0) (.con (.int 3))) false)
  .nil)))
  (.cons (.setIx (.var 0) (.con (.int 1)) (.bin .add (.var 2) (.con (.int 1))))
  (.cons (.ite (.cmp .lt (.var 3) (.bin .pow (.con (.int 10)) (.con (.int 18)))) (.cons (.set 3 (.bin .mod (.bi .int (.cons (.bin .add (.bin .add (.bin .mul (.var 3) (.con (.int 48271))) (.bin .mul (.var 2) (.con (.int 69621)))) (.con (.int 5))) .nil)) (.con (.int 2147483647))) false)
  (.cons (.set 3 (.bin .mod (.bi .int (.cons (.bin .mul (.var 3) (.con (.int 69621))) .nil)) (.con (.int 2147483629))) false)
  (.cons (.ret (.bin .mod (.bi .int (.cons (.var 3) .nil)) (.bi .max (.cons (.var 1) (.cons (.con (.int 1)) .nil)))))
  .nil))) .nil)
  (.cons (.setIx (.var 0) (.con (.int 2)) (.var 3))
  .nil)))))) .nil)
  (.cons (.set 3 (.ix (.var 0) (.con (.int 2))) false)
  (.cons (.setIx (.var 0) (.con (.int 2)) (.bin .fdiv (.var 3) (.bi .max (.cons (.var 1) (.cons (.con (.int 2)) .nil)))))
  (.cons (.ret (.bin .mod (.bi .int (.cons (.var 3) .nil)) (.bi .max (.cons (.var 1) (.cons (.con (.int 1)) .nil)))))
  .nil)))) }
def b6_0 : MSs :=
  (.cons (.set 8 (.bin .add (.var 8) (.ix (.var 2) (.fn 5 (.cons (.var 0) (.cons (.con (.int 63)) .nil))))) false)
  .nil)
def b6_1 : MSs :=
  (.cons (.set 8 (.bin .add (.bin .add (.sl (.var 4) (.con .non) (.var 5)) (.ix (.var 2) (.fn 5 (.cons (.var 0) (.cons (.con (.int 52)) .nil))))) (.sl (.var 4) (.var 5) (.con .non))) false)
  (.cons (.for_ (.nm 9) (.rng (.con (.int 0)) (.ix (.lst (.cons (.con (.int 0)) (.cons (.con (.int 0)) (.cons (.con (.int 0)) (.cons (.con (.int 1)) (.cons (.con (.int 2)) (.cons (.con (.int 6)) .nil))))))) (.fn 5 (.cons (.var 0) (.cons (.con (.int 6)) .nil))))) b6_0)
  (.cons (.set 10 (.fn 5 (.cons (.var 0) (.cons (.con (.int 16)) .nil))) true)
  (.cons (.ite (.cmp .eq (.var 10) (.con (.int 0))) (.cons (.set 8 (.bin .add (.var 8) (.bin .mul (.con (.str "x")) (.bin .sub (.con (.int 30)) (.bi .len (.cons (.var 8) .nil))))) false)
  .nil) .nil)
  (.cons (.ite (.cmp .eq (.var 10) (.con (.int 1))) (.cons (.set 8 (.bin .add (.ix (.var 3) (.fn 5 (.cons (.var 0) (.cons (.con (.int 12)) .nil)))) (.sl (.var 8) (.con .non) (.con (.int 1)))) false)
  .nil) .nil)
  (.cons (.ite (.cmp .eq (.var 10) (.con (.int 2))) (.cons (.set 8 (.sl (.ix (.var 3) (.fn 5 (.cons (.var 0) (.cons (.con (.int 12)) .nil)))) (.con .non) (.neg (.con (.int 1)))) false)
  .nil) .nil)
  (.cons (.ite (.or (.cmp .inn (.var 8) (.var 3)) (.cmp .inn (.var 8) (.var 6))) (.cons (.set 8 (.bin .add (.con (.str "one_of_two_equal_names_")) (.bi .str (.cons (.var 7) .nil))) false)
  .nil) .nil)
  (.cons (.app 6 (.var 8))
  .nil))))))))
/-- _law_names -/
abbrev s6 : Stmt := topS 12
def n6 : List Str := ["tape", "many", "signs", "words", "stem", "place", "names", "k", "name", "j", "choice"]
def p6 : List Str := ["tape", "many"]
def d6 : Def := { np := 2, nl := 11, body :=
  (.cons (.set 2 (.con (.str "abcdefghijklmnopqrstuvwxyzABCDEFGHIJKLMNOPQRSTUVWXYZ0123456789_")) true)
  (.cons (.set 3 (.lst (.cons (.con (.str "let")) (.cons (.con (.str "if")) (.cons (.con (.str "else")) (.cons (.con (.str "while")) (.cons (.con (.str "for")) (.cons (.con (.str "break")) (.cons (.con (.str "continue")) (.cons (.con (.str "return")) (.cons (.con (.str "try")) (.cons (.con (.str "finally")) (.cons (.con (.str "true")) (.cons (.con (.str "false")) .nil))))))))))))) true)
  (.cons (.set 4 (.ix (.lst (.cons (.con (.str "")) (.cons (.con (.str "")) (.cons (.con (.str "sharedStem")) (.cons (.con (.str "while_x")) .nil))))) (.fn 5 (.cons (.var 0) (.cons (.con (.int 4)) .nil)))) true)
  (.cons (.set 5 (.fn 5 (.cons (.var 0) (.cons (.bin .add (.bi .len (.cons (.var 4) .nil)) (.con (.int 1))) .nil))) false)
  (.cons (.set 6 (.lst .nil) true)
  (.cons (.for_ (.nm 7) (.rng (.con (.int 0)) (.var 1)) b6_1)
  (.cons (.ret (.var 6))
  .nil))))))) }
/-- _law_sign -/
abbrev s7 : Stmt := topS 13
def n7 : List Str := ["tape", "signs"]
def p7 : List Str := ["tape"]
def d7 : Def := { np := 1, nl := 2, body :=
  (.cons (.set 1 (.con (.str " !\"#$&'()*+,-./0123456789:;<=>?@ABCDEFGHIJKLMNOPQRSTUVWXYZ[\\]^_`abcdefghijklmnopqrstuvwxyz{|}~")) true)
  (.cons (.ret (.ix (.var 1) (.fn 5 (.cons (.var 0) (.cons (.con (.int 94)) .nil)))))
  .nil)) }
def c8_0 : ME :=
  (.cmp .nin (.var 3) (.bin .add (.var 1) (.con (.str "0123456789_"))))
def e8_1 : ME :=
  (.var 3)
/-- _law_is_name -/
abbrev s8 : Stmt := topS 14
def n8 : List Str := ["text", "letters", "words", "sign"]
def p8 : List Str := ["text"]
def d8 : Def := { np := 1, nl := 4, body :=
  (.cons (.set 1 (.con (.str "abcdefghijklmnopqrstuvwxyzABCDEFGHIJKLMNOPQRSTUVWXYZ")) true)
  (.cons (.set 2 (.lst (.cons (.con (.str "let")) (.cons (.con (.str "if")) (.cons (.con (.str "else")) (.cons (.con (.str "while")) (.cons (.con (.str "for")) (.cons (.con (.str "break")) (.cons (.con (.str "continue")) (.cons (.con (.str "return")) (.cons (.con (.str "try")) (.cons (.con (.str "finally")) (.cons (.con (.str "true")) (.cons (.con (.str "false")) .nil))))))))))))) true)
  (.cons (.ite (.or (.cmp .inn (.var 0) (.var 2)) (.or (.cmp .eq (.bi .len (.cons (.var 0) .nil)) (.con (.int 0))) (.or (.cmp .gt (.bi .len (.cons (.var 0) .nil)) (.con (.int 30))) (.cmp .nin (.ix (.var 0) (.con (.int 0))) (.var 1))))) (.cons (.ret (.con (.bl false)))
  .nil) .nil)
  (.cons (.ret (.cmp .eq (.bi .len (.cons (.lc e8_1 (.nm 3) (.var 0) true c8_0) .nil)) (.con (.int 0))))
  .nil)))) }
def e9_0 : ME :=
  (.bi .str (.cons (.var 2) .nil))
/-- _law_is_outcome -/
abbrev s9 : Stmt := topS 15
def n9 : List Str := ["text", "parts", "k"]
def p9 : List Str := ["text"]
def d9 : Def := { np := 1, nl := 3, body :=
  (.cons (.ite (.cmp .inn (.var 0) (.lst (.cons (.con (.str "end")) (.cons (.con (.str "return")) (.cons (.con (.str "hang")) .nil))))) (.cons (.ret (.con (.bl true)))
  .nil) .nil)
  (.cons (.set 1 (.mt .split (.var 0) (.cons (.con (.str " ")) .nil)) true)
  (.cons (.ite (.cmp .ne (.bi .len (.cons (.var 1) .nil)) (.con (.int 2))) (.cons (.ret (.con (.bl false)))
  .nil) .nil)
  (.cons (.ite (.cmp .eq (.ix (.var 1) (.con (.int 0))) (.con (.str "return"))) (.cons (.ret (.cmp .inn (.ix (.var 1) (.con (.int 1))) (.lc e9_0 (.nm 2) (.rng (.con (.int 0)) (.con (.int 100))) false (.con (.bl true)))))
  .nil) .nil)
  (.cons (.ret (.and (.or (.cmp .eq (.ix (.var 1) (.con (.int 0))) (.con (.str "break"))) (.cmp .eq (.ix (.var 1) (.con (.int 0))) (.con (.str "continue")))) (.fn 8 (.cons (.ix (.var 1) (.con (.int 1))) .nil))))
  .nil))))) }
def e10_0 : ME :=
  (.fn 7 (.cons (.var 0) .nil))
/-- _law_string -/
abbrev s10 : Stmt := topS 16
def n10 : List Str := ["tape", "name", "words", "word", "long", "place", "choice", "head", "gap", "tails", "k"]
def p10 : List Str := ["tape", "name"]
def d10 : Def := { np := 2, nl := 11, body :=
  (.cons (.set 2 (.lst (.cons (.con (.str "let")) (.cons (.con (.str "if")) (.cons (.con (.str "else")) (.cons (.con (.str "while")) (.cons (.con (.str "for")) (.cons (.con (.str "break")) (.cons (.con (.str "continue")) (.cons (.con (.str "return")) (.cons (.con (.str "try")) (.cons (.con (.str "finally")) (.cons (.con (.str "true")) (.cons (.con (.str "false")) .nil))))))))))))) true)
  (.cons (.set 3 (.ix (.var 2) (.fn 5 (.cons (.var 0) (.cons (.con (.int 12)) .nil)))) false)
  (.cons (.set 4 (.sl (.bin .mul (.var 1) (.con (.int 34))) (.con .non) (.bin .add (.con (.int 28)) (.fn 5 (.cons (.var 0) (.cons (.con (.int 6)) .nil))))) false)
  (.cons (.set 5 (.fn 5 (.cons (.var 0) (.cons (.bin .add (.bi .len (.cons (.var 1) .nil)) (.con (.int 1))) .nil))) false)
  (.cons (.set 6 (.fn 5 (.cons (.var 0) (.cons (.con (.int 9)) .nil))) false)
  (.cons (.ite (.cmp .lt (.var 6) (.con (.int 3))) (.cons (.ret (.ix (.lst (.cons (.var 1) (.cons (.var 3) (.cons (.var 4) .nil)))) (.var 6)))
  .nil) .nil)
  (.cons (.ite (.cmp .eq (.var 6) (.con (.int 3))) (.cons (.ret (.bin .add (.bin .add (.sl (.var 1) (.con .non) (.var 5)) (.fn 7 (.cons (.var 0) .nil))) (.sl (.var 1) (.bin .add (.var 5) (.fn 5 (.cons (.var 0) (.cons (.con (.int 2)) .nil)))) (.con .non))))
  .nil) .nil)
  (.cons (.ite (.cmp .eq (.var 6) (.con (.int 4))) (.cons (.set 5 (.fn 5 (.cons (.var 0) (.cons (.bin .add (.bi .len (.cons (.var 3) .nil)) (.con (.int 1))) .nil))) false)
  (.cons (.ret (.bin .add (.bin .add (.sl (.var 3) (.con .non) (.var 5)) (.ix (.lst (.cons (.con (.str "")) (.cons (.con (.str "_")) (.cons (.con (.str "E")) (.cons (.con (.str "7")) (.cons (.fn 7 (.cons (.var 0) .nil)) .nil)))))) (.fn 5 (.cons (.var 0) (.cons (.con (.int 5)) .nil))))) (.sl (.var 3) (.bin .add (.var 5) (.fn 5 (.cons (.var 0) (.cons (.con (.int 2)) .nil)))) (.con .non))))
  .nil)) .nil)
  (.cons (.ite (.cmp .eq (.var 6) (.con (.int 5))) (.cons (.ret (.mt .join (.con (.str "")) (.cons (.lc e10_0 (.nm 10) (.rng (.con (.int 0)) (.fn 5 (.cons (.var 0) (.cons (.con (.int 9)) .nil)))) false (.con (.bl true))) .nil)))
  .nil) .nil)
  (.cons (.ite (.cmp .eq (.var 6) (.con (.int 6))) (.cons (.ret (.ix (.lst (.cons (.con (.str "")) (.cons (.con (.str "end")) (.cons (.con (.str "hang")) (.cons (.con (.str "return")) (.cons (.con (.str " end")) (.cons (.con (.str "end ")) (.cons (.con (.str "End")) (.cons (.con (.str "return ")) (.cons (.con (.str "return 1 ")) (.cons (.con (.str "hang 1")) .nil))))))))))) (.fn 5 (.cons (.var 0) (.cons (.con (.int 10)) .nil)))))
  .nil) .nil)
  (.cons (.set 7 (.ix (.lst (.cons (.con (.str "break")) (.cons (.con (.str "continue")) (.cons (.con (.str "return")) (.cons (.con (.str "end")) (.cons (.con (.str "Break")) (.cons (.con (.str "return")) (.cons (.con (.str "break")) (.cons (.con (.str "continue")) .nil))))))))) (.fn 5 (.cons (.var 0) (.cons (.con (.int 8)) .nil)))) true)
  (.cons (.set 8 (.ix (.lst (.cons (.con (.str " ")) (.cons (.con (.str " ")) (.cons (.con (.str " ")) (.cons (.con (.str " ")) (.cons (.con (.str "")) (.cons (.con (.str "  ")) .nil))))))) (.fn 5 (.cons (.var 0) (.cons (.con (.int 6)) .nil)))) true)
  (.cons (.set 9 (.lst (.cons (.var 1) (.cons (.var 3) (.cons (.var 4) (.cons (.bi .str (.cons (.fn 5 (.cons (.var 0) (.cons (.con (.int 100)) .nil))) .nil)) (.cons (.bi .str (.cons (.fn 5 (.cons (.var 0) (.cons (.con (.int 1200)) .nil))) .nil)) (.cons (.bin .add (.con (.str "0")) (.bi .str (.cons (.fn 5 (.cons (.var 0) (.cons (.con (.int 12)) .nil))) .nil))) (.cons (.con (.str "")) (.cons (.fn 7 (.cons (.var 0) .nil)) (.cons (.con (.str "-1")) (.cons (.bin .add (.con (.str "7")) (.fn 7 (.cons (.var 0) .nil))) .nil))))))))))) true)
  (.cons (.ret (.bin .add (.bin .add (.var 7) (.var 8)) (.ix (.var 9) (.fn 5 (.cons (.var 0) (.cons (.con (.int 10)) .nil))))))
  .nil)))))))))))))) }
def b0_0 : MSs :=
  (.cons (.set 4 (.fn 10 (.cons (.var 1) (.cons (.var 2) .nil))) false)
  (.cons (.ite (.or (.cmp .ne (.bi .repr (.cons (.fn 1 (.cons (.var 4) .nil)) .nil)) (.bi .repr (.cons (.fn 8 (.cons (.var 4) .nil)) .nil))) (.cmp .ne (.bi .repr (.cons (.fn 3 (.cons (.var 4) .nil)) .nil)) (.bi .repr (.cons (.fn 9 (.cons (.var 4) .nil)) .nil)))) (.cons (.ret (.con (.bl false)))
  .nil) .nil)
  .nil))
/-- law -/
abbrev s0 : Stmt := topS 17
def n0 : List Str := ["script", "tape", "name", "k", "text"]
def p0 : List Str := ["script"]
def d0 : Def := { np := 1, nl := 5, body :=
  (.cons (.set 1 (.fn 4 (.cons (.var 0) .nil)) false)
  (.cons (.set 2 (.ix (.fn 6 (.cons (.var 1) (.cons (.con (.int 1)) .nil))) (.con (.int 0))) false)
  (.cons (.for_ (.nm 3) (.rng (.con (.int 0)) (.bin .add (.con (.int 1)) (.fn 5 (.cons (.var 1) (.cons (.con (.int 4)) .nil))))) b0_0)
  (.cons (.ret (.con (.bl true)))
  .nil)))) }
def D : Nat → Option Def
  | 1 => some d1
  | 2 => some d2
  | 3 => some d3
  | 4 => some d4
  | 5 => some d5
  | 6 => some d6
  | 7 => some d7
  | 8 => some d8
  | 9 => some d9
  | 10 => some d10
  | 0 => some d0
  | _ => none
def cs : List (Str × PV) := [("LETTERS", (.str "abcdefghijklmnopqrstuvwxyzABCDEFGHIJKLMNOPQRSTUVWXYZ")), ("DIGITS", (.str "0123456789")), ("WORD_CHARACTERS", (.str "abcdefghijklmnopqrstuvwxyzABCDEFGHIJKLMNOPQRSTUVWXYZ_0123456789")), ("LONGEST_NAME", (.int 30)), ("RESERVED", (.tup [(.str "let"), (.str "if"), (.str "else"), (.str "while"), (.str "for"), (.str "break"), (.str "continue"), (.str "return"), (.str "try"), (.str "finally"), (.str "true"), (.str "false")]))]
def bl : List Str := ["abs", "all", "int", "len", "list", "max", "range", "repr", "str"]
def fnm : List (Str × Nat) := [("is_name", 1), ("is_number", 2), ("is_outcome", 3), ("_law_tape", 4), ("_law_draw", 5), ("_law_names", 6), ("_law_sign", 7), ("_law_is_name", 8), ("_law_is_outcome", 9), ("_law_string", 10), ("law", 0)]
theorem sc1 : FnScope n1 p1 (defScope s1) := ⟨rfl, rfl, rfl, by decide +kernel, rfl, by decide +kernel, by decide +kernel⟩
theorem t1 : mSs ⟨n1, defScope s1, fnm, cs, bl⟩ d1.body (defBody s1) = true := by decide +kernel
theorem sc2 : FnScope n2 p2 (defScope s2) := ⟨rfl, rfl, rfl, by decide +kernel, rfl, by decide +kernel, by decide +kernel⟩
theorem t2 : mSs ⟨n2, defScope s2, fnm, cs, bl⟩ d2.body (defBody s2) = true := by decide +kernel
theorem sc3 : FnScope n3 p3 (defScope s3) := ⟨rfl, rfl, rfl, by decide +kernel, rfl, by decide +kernel, by decide +kernel⟩
theorem t3 : mSs ⟨n3, defScope s3, fnm, cs, bl⟩ d3.body (defBody s3) = true := by decide +kernel
theorem sc4 : FnScope n4 p4 (defScope s4) := ⟨rfl, rfl, rfl, by decide +kernel, rfl, by decide +kernel, by decide +kernel⟩
theorem t4 : mSs ⟨n4, defScope s4, fnm, cs, bl⟩ d4.body (defBody s4) = true := by decide +kernel
theorem sc5 : FnScope n5 p5 (defScope s5) := ⟨rfl, rfl, rfl, by decide +kernel, rfl, by decide +kernel, by decide +kernel⟩
theorem t5 : mSs ⟨n5, defScope s5, fnm, cs, bl⟩ d5.body (defBody s5) = true := by decide +kernel
theorem sc6 : FnScope n6 p6 (defScope s6) := ⟨rfl, rfl, rfl, by decide +kernel, rfl, by decide +kernel, by decide +kernel⟩
theorem t6 : mSs ⟨n6, defScope s6, fnm, cs, bl⟩ d6.body (defBody s6) = true := by decide +kernel
theorem sc7 : FnScope n7 p7 (defScope s7) := ⟨rfl, rfl, rfl, by decide +kernel, rfl, by decide +kernel, by decide +kernel⟩
theorem t7 : mSs ⟨n7, defScope s7, fnm, cs, bl⟩ d7.body (defBody s7) = true := by decide +kernel
theorem sc8 : FnScope n8 p8 (defScope s8) := ⟨rfl, rfl, rfl, by decide +kernel, rfl, by decide +kernel, by decide +kernel⟩
theorem t8 : mSs ⟨n8, defScope s8, fnm, cs, bl⟩ d8.body (defBody s8) = true := by decide +kernel
theorem sc9 : FnScope n9 p9 (defScope s9) := ⟨rfl, rfl, rfl, by decide +kernel, rfl, by decide +kernel, by decide +kernel⟩
theorem t9 : mSs ⟨n9, defScope s9, fnm, cs, bl⟩ d9.body (defBody s9) = true := by decide +kernel
theorem sc10 : FnScope n10 p10 (defScope s10) := ⟨rfl, rfl, rfl, by decide +kernel, rfl, by decide +kernel, by decide +kernel⟩
theorem t10 : mSs ⟨n10, defScope s10, fnm, cs, bl⟩ d10.body (defBody s10) = true := by decide +kernel
theorem sc0 : FnScope n0 p0 (defScope s0) := ⟨rfl, rfl, rfl, by decide +kernel, rfl, by decide +kernel, by decide +kernel⟩
theorem t0 : mSs ⟨n0, defScope s0, fnm, cs, bl⟩ d0.body (defBody s0) = true := by decide +kernel
section
variable {w : World} {K : PySem.W.Frag} {h : Heap} {mg : Str → Option Value} {fa : Addr}
theorem all_mk (X : K.In h) (G : h.Ns mainGlobals mg) (hfa : mg "law" = some (.ref fa))
    {f1 : Addr} {oc1 kV1 dc1 pm1 cd1 ct1 : Value} {od1 an1 : Option Addr} {sl1 : Array (Option Value)}
    {f2 : Addr} {oc2 kV2 dc2 pm2 cd2 ct2 : Value} {od2 an2 : Option Addr} {sl2 : Array (Option Value)}
    {f3 : Addr} {oc3 kV3 dc3 pm3 cd3 ct3 : Value} {od3 an3 : Option Addr} {sl3 : Array (Option Value)}
    {f4 : Addr} {oc4 kV4 dc4 pm4 cd4 ct4 : Value} {od4 an4 : Option Addr} {sl4 : Array (Option Value)}
    {f5 : Addr} {oc5 kV5 dc5 pm5 cd5 ct5 : Value} {od5 an5 : Option Addr} {sl5 : Array (Option Value)}
    {f6 : Addr} {oc6 kV6 dc6 pm6 cd6 ct6 : Value} {od6 an6 : Option Addr} {sl6 : Array (Option Value)}
    {f7 : Addr} {oc7 kV7 dc7 pm7 cd7 ct7 : Value} {od7 an7 : Option Addr} {sl7 : Array (Option Value)}
    {f8 : Addr} {oc8 kV8 dc8 pm8 cd8 ct8 : Value} {od8 an8 : Option Addr} {sl8 : Array (Option Value)}
    {f9 : Addr} {oc9 kV9 dc9 pm9 cd9 ct9 : Value} {od9 an9 : Option Addr} {sl9 : Array (Option Value)}
    {f10 : Addr} {oc10 kV10 dc10 pm10 cd10 ct10 : Value} {od10 an10 : Option Addr} {sl10 : Array (Option Value)}
    {f0 : Addr} {oc0 kV0 dc0 pm0 cd0 ct0 : Value} {od0 an0 : Option Addr} {sl0 : Array (Option Value)}
    {ct_0 : Tok}
    {ct_1 : Tok}
    {ct_2 : Tok}
    {ct_3 : Tok}
    {ca_4 : Addr} {cd_4 : Option Addr} {ci_4 : Array Value} {cn_4 : Nat} {cl_4 : Array (Option Value)}
    (a1 : PySem.W.nsIn K mainGlobals "is_name" = some (some (.ref f1))) (l1 : K.lookup f1 = some ⟨oc1, od1, .func (PySem.W.fnOf "is_name" "is_name" (defArgs s1) (defBody s1) (defScope s1) .none kV1 dc1 pm1 an1 cd1 ct1), sl1⟩) (c1 : PySem.W.codeIn K cd1 "is_name" = true) (k1 : PySem.W.keepIn K (.ref f1) = true)
    (a2 : PySem.W.nsIn K mainGlobals "is_number" = some (some (.ref f2))) (l2 : K.lookup f2 = some ⟨oc2, od2, .func (PySem.W.fnOf "is_number" "is_number" (defArgs s2) (defBody s2) (defScope s2) .none kV2 dc2 pm2 an2 cd2 ct2), sl2⟩) (c2 : PySem.W.codeIn K cd2 "is_number" = true) (k2 : PySem.W.keepIn K (.ref f2) = true)
    (a3 : PySem.W.nsIn K mainGlobals "is_outcome" = some (some (.ref f3))) (l3 : K.lookup f3 = some ⟨oc3, od3, .func (PySem.W.fnOf "is_outcome" "is_outcome" (defArgs s3) (defBody s3) (defScope s3) .none kV3 dc3 pm3 an3 cd3 ct3), sl3⟩) (c3 : PySem.W.codeIn K cd3 "is_outcome" = true) (k3 : PySem.W.keepIn K (.ref f3) = true)
    (a4 : PySem.W.nsIn K mainGlobals "_law_tape" = some (some (.ref f4))) (l4 : K.lookup f4 = some ⟨oc4, od4, .func (PySem.W.fnOf "_law_tape" "_law_tape" (defArgs s4) (defBody s4) (defScope s4) .none kV4 dc4 pm4 an4 cd4 ct4), sl4⟩) (c4 : PySem.W.codeIn K cd4 "_law_tape" = true) (k4 : PySem.W.keepIn K (.ref f4) = true)
    (a5 : PySem.W.nsIn K mainGlobals "_law_draw" = some (some (.ref f5))) (l5 : K.lookup f5 = some ⟨oc5, od5, .func (PySem.W.fnOf "_law_draw" "_law_draw" (defArgs s5) (defBody s5) (defScope s5) .none kV5 dc5 pm5 an5 cd5 ct5), sl5⟩) (c5 : PySem.W.codeIn K cd5 "_law_draw" = true) (k5 : PySem.W.keepIn K (.ref f5) = true)
    (a6 : PySem.W.nsIn K mainGlobals "_law_names" = some (some (.ref f6))) (l6 : K.lookup f6 = some ⟨oc6, od6, .func (PySem.W.fnOf "_law_names" "_law_names" (defArgs s6) (defBody s6) (defScope s6) .none kV6 dc6 pm6 an6 cd6 ct6), sl6⟩) (c6 : PySem.W.codeIn K cd6 "_law_names" = true) (k6 : PySem.W.keepIn K (.ref f6) = true)
    (a7 : PySem.W.nsIn K mainGlobals "_law_sign" = some (some (.ref f7))) (l7 : K.lookup f7 = some ⟨oc7, od7, .func (PySem.W.fnOf "_law_sign" "_law_sign" (defArgs s7) (defBody s7) (defScope s7) .none kV7 dc7 pm7 an7 cd7 ct7), sl7⟩) (c7 : PySem.W.codeIn K cd7 "_law_sign" = true) (k7 : PySem.W.keepIn K (.ref f7) = true)
    (a8 : PySem.W.nsIn K mainGlobals "_law_is_name" = some (some (.ref f8))) (l8 : K.lookup f8 = some ⟨oc8, od8, .func (PySem.W.fnOf "_law_is_name" "_law_is_name" (defArgs s8) (defBody s8) (defScope s8) .none kV8 dc8 pm8 an8 cd8 ct8), sl8⟩) (c8 : PySem.W.codeIn K cd8 "_law_is_name" = true) (k8 : PySem.W.keepIn K (.ref f8) = true)
    (a9 : PySem.W.nsIn K mainGlobals "_law_is_outcome" = some (some (.ref f9))) (l9 : K.lookup f9 = some ⟨oc9, od9, .func (PySem.W.fnOf "_law_is_outcome" "_law_is_outcome" (defArgs s9) (defBody s9) (defScope s9) .none kV9 dc9 pm9 an9 cd9 ct9), sl9⟩) (c9 : PySem.W.codeIn K cd9 "_law_is_outcome" = true) (k9 : PySem.W.keepIn K (.ref f9) = true)
    (a10 : PySem.W.nsIn K mainGlobals "_law_string" = some (some (.ref f10))) (l10 : K.lookup f10 = some ⟨oc10, od10, .func (PySem.W.fnOf "_law_string" "_law_string" (defArgs s10) (defBody s10) (defScope s10) .none kV10 dc10 pm10 an10 cd10 ct10), sl10⟩) (c10 : PySem.W.codeIn K cd10 "_law_string" = true) (k10 : PySem.W.keepIn K (.ref f10) = true)
    (a0 : PySem.W.nsIn K mainGlobals "law" = some (some (.ref f0))) (l0 : K.lookup f0 = some ⟨oc0, od0, .func (PySem.W.fnOf "law" "law" (defArgs s0) (defBody s0) (defScope s0) .none kV0 dc0 pm0 an0 cd0 ct0), sl0⟩) (c0 : PySem.W.codeIn K cd0 "law" = true) (k0 : PySem.W.keepIn K (.ref f0) = true)
    (q0 : PySem.W.nsIn K mainGlobals "LETTERS" = some (some (.str "abcdefghijklmnopqrstuvwxyzABCDEFGHIJKLMNOPQRSTUVWXYZ" ct_0)))
    (q1 : PySem.W.nsIn K mainGlobals "DIGITS" = some (some (.str "0123456789" ct_1)))
    (q2 : PySem.W.nsIn K mainGlobals "WORD_CHARACTERS" = some (some (.str "abcdefghijklmnopqrstuvwxyzABCDEFGHIJKLMNOPQRSTUVWXYZ_0123456789" ct_2)))
    (q3 : PySem.W.nsIn K mainGlobals "LONGEST_NAME" = some (some (.int 30 ct_3)))
    (q4 : PySem.W.nsIn K mainGlobals "RESERVED" = some (some (.ref ca_4))) (r4 : K.lookup ca_4 = some ⟨.type "tuple", cd_4, .seq ci_4 cn_4, cl_4⟩) (z4 : ci_4.size ≤ sizeLine) (v4 : Vals ((["let", "if", "else", "while", "for", "break", "continue", "return", "try", "finally", "true", "false"] : List Str).map V.str) ci_4.toList)
    (b0 : PySem.W.nsIn K mainGlobals "abs" = some none)
    (b1 : PySem.W.nsIn K mainGlobals "all" = some none)
    (b2 : PySem.W.nsIn K mainGlobals "int" = some none)
    (b3 : PySem.W.nsIn K mainGlobals "len" = some none)
    (b4 : PySem.W.nsIn K mainGlobals "list" = some none)
    (b5 : PySem.W.nsIn K mainGlobals "max" = some none)
    (b6 : PySem.W.nsIn K mainGlobals "range" = some none)
    (b7 : PySem.W.nsIn K mainGlobals "repr" = some none)
    (b8 : PySem.W.nsIn K mainGlobals "str" = some none) :
    ∃ fd : FuncData, (∀ (s : Shared) (v : Value), BindsTo s fd ⟨[v], []⟩ [("script", v)]) ∧ ∀ base : Heap, K.In base → base.Ns mainGlobals mg → FnOk PySem.Challenge.rw_flowform_k00_names_and_outcomes.prog w K mg base CX0 DEEP fa fd ["script"] (spEv K (evCall TURNS D DEEP 0)) := by
  have e := hfa.symm.trans (PySem.W.mg_of X G a0)
  cases e
  refine ⟨(PySem.W.fnOf "law" "law" (defArgs s0) (defBody s0) (defScope s0) .none kV0 dc0 pm0 an0 cd0 ct0), fun s v => .of_eq rfl, fun base _ _ => ?_⟩
  let es : List Ent := [⟨"is_name", 1, f1, (PySem.W.fnOf "is_name" "is_name" (defArgs s1) (defBody s1) (defScope s1) .none kV1 dc1 pm1 an1 cd1 ct1), s1, n1, p1, d1⟩, ⟨"is_number", 2, f2, (PySem.W.fnOf "is_number" "is_number" (defArgs s2) (defBody s2) (defScope s2) .none kV2 dc2 pm2 an2 cd2 ct2), s2, n2, p2, d2⟩, ⟨"is_outcome", 3, f3, (PySem.W.fnOf "is_outcome" "is_outcome" (defArgs s3) (defBody s3) (defScope s3) .none kV3 dc3 pm3 an3 cd3 ct3), s3, n3, p3, d3⟩, ⟨"_law_tape", 4, f4, (PySem.W.fnOf "_law_tape" "_law_tape" (defArgs s4) (defBody s4) (defScope s4) .none kV4 dc4 pm4 an4 cd4 ct4), s4, n4, p4, d4⟩, ⟨"_law_draw", 5, f5, (PySem.W.fnOf "_law_draw" "_law_draw" (defArgs s5) (defBody s5) (defScope s5) .none kV5 dc5 pm5 an5 cd5 ct5), s5, n5, p5, d5⟩, ⟨"_law_names", 6, f6, (PySem.W.fnOf "_law_names" "_law_names" (defArgs s6) (defBody s6) (defScope s6) .none kV6 dc6 pm6 an6 cd6 ct6), s6, n6, p6, d6⟩, ⟨"_law_sign", 7, f7, (PySem.W.fnOf "_law_sign" "_law_sign" (defArgs s7) (defBody s7) (defScope s7) .none kV7 dc7 pm7 an7 cd7 ct7), s7, n7, p7, d7⟩, ⟨"_law_is_name", 8, f8, (PySem.W.fnOf "_law_is_name" "_law_is_name" (defArgs s8) (defBody s8) (defScope s8) .none kV8 dc8 pm8 an8 cd8 ct8), s8, n8, p8, d8⟩, ⟨"_law_is_outcome", 9, f9, (PySem.W.fnOf "_law_is_outcome" "_law_is_outcome" (defArgs s9) (defBody s9) (defScope s9) .none kV9 dc9 pm9 an9 cd9 ct9), s9, n9, p9, d9⟩, ⟨"_law_string", 10, f10, (PySem.W.fnOf "_law_string" "_law_string" (defArgs s10) (defBody s10) (defScope s10) .none kV10 dc10 pm10 an10 cd10 ct10), s10, n10, p10, d10⟩, ⟨"law", 0, fa, (PySem.W.fnOf "law" "law" (defArgs s0) (defBody s0) (defScope s0) .none kV0 dc0 pm0 an0 cd0 ct0), s0, n0, p0, d0⟩]
  have P : ProgOk ⟨PySem.Challenge.rw_flowform_k00_names_and_outcomes.prog, w, K, mg, base⟩ D es cs bl := by
    refine ⟨fun e he => ?_, fun x v hx => ?_, fun x hx => ?_⟩
    · have E : es.map Ent.pair = fnm := rfl
      rw [E]
      simp only [es, List.mem_cons, List.not_mem_nil, or_false] at he
      rcases he with rfl | rfl | rfl | rfl | rfl | rfl | rfl | rfl | rfl | rfl | rfl
      · have F := fun_at l1 c1 k1
        exact ⟨PySem.W.mg_of X G a1, F, F.binds (ps := p1) fun _ _ _ _ _ _ us hl => match us, hl with | [_], _ => rfl, sc1, rfl, rfl, rfl, t1⟩
      · have F := fun_at l2 c2 k2
        exact ⟨PySem.W.mg_of X G a2, F, F.binds (ps := p2) fun _ _ _ _ _ _ us hl => match us, hl with | [_], _ => rfl, sc2, rfl, rfl, rfl, t2⟩
      · have F := fun_at l3 c3 k3
        exact ⟨PySem.W.mg_of X G a3, F, F.binds (ps := p3) fun _ _ _ _ _ _ us hl => match us, hl with | [_], _ => rfl, sc3, rfl, rfl, rfl, t3⟩
      · have F := fun_at l4 c4 k4
        exact ⟨PySem.W.mg_of X G a4, F, F.binds (ps := p4) fun _ _ _ _ _ _ us hl => match us, hl with | [_], _ => rfl, sc4, rfl, rfl, rfl, t4⟩
      · have F := fun_at l5 c5 k5
        exact ⟨PySem.W.mg_of X G a5, F, F.binds (ps := p5) fun _ _ _ _ _ _ us hl => match us, hl with | [_, _], _ => rfl, sc5, rfl, rfl, rfl, t5⟩
      · have F := fun_at l6 c6 k6
        exact ⟨PySem.W.mg_of X G a6, F, F.binds (ps := p6) fun _ _ _ _ _ _ us hl => match us, hl with | [_, _], _ => rfl, sc6, rfl, rfl, rfl, t6⟩
      · have F := fun_at l7 c7 k7
        exact ⟨PySem.W.mg_of X G a7, F, F.binds (ps := p7) fun _ _ _ _ _ _ us hl => match us, hl with | [_], _ => rfl, sc7, rfl, rfl, rfl, t7⟩
      · have F := fun_at l8 c8 k8
        exact ⟨PySem.W.mg_of X G a8, F, F.binds (ps := p8) fun _ _ _ _ _ _ us hl => match us, hl with | [_], _ => rfl, sc8, rfl, rfl, rfl, t8⟩
      · have F := fun_at l9 c9 k9
        exact ⟨PySem.W.mg_of X G a9, F, F.binds (ps := p9) fun _ _ _ _ _ _ us hl => match us, hl with | [_], _ => rfl, sc9, rfl, rfl, rfl, t9⟩
      · have F := fun_at l10 c10 k10
        exact ⟨PySem.W.mg_of X G a10, F, F.binds (ps := p10) fun _ _ _ _ _ _ us hl => match us, hl with | [_, _], _ => rfl, sc10, rfl, rfl, rfl, t10⟩
      · have F := fun_at l0 c0 k0
        exact ⟨PySem.W.mg_of X G a0, F, F.binds (ps := p0) fun _ _ _ _ _ _ us hl => match us, hl with | [_], _ => rfl, sc0, rfl, rfl, rfl, t0⟩
    · have hm := PySem.mem_of_lookup hx
      simp only [cs, List.mem_cons, List.not_mem_nil, or_false, Prod.mk.injEq] at hm
      rcases hm with ⟨rfl, rfl⟩ | ⟨rfl, rfl⟩ | ⟨rfl, rfl⟩ | ⟨rfl, rfl⟩ | ⟨rfl, rfl⟩
      · exact ⟨rfl, _, V.str _, PySem.W.mg_of X G q0, ⟨_, rfl⟩, fun _ _ _ => .str _⟩
      · exact ⟨rfl, _, V.str _, PySem.W.mg_of X G q1, ⟨_, rfl⟩, fun _ _ _ => .str _⟩
      · exact ⟨rfl, _, V.str _, PySem.W.mg_of X G q2, ⟨_, rfl⟩, fun _ _ _ => .str _⟩
      · exact ⟨rfl, _, V.int _, PySem.W.mg_of X G q3, ⟨_, rfl⟩, fun _ _ _ => .int _⟩
      · exact ⟨rfl, _, .ref ca_4, PySem.W.mg_of X G q4, rfl, tup_rv r4 z4 v4⟩
    · have hm : x ∈ bl := by simpa using hx
      simp only [bl, List.mem_cons, List.not_mem_nil, or_false] at hm
      rcases hm with rfl | rfl | rfl | rfl | rfl | rfl | rfl | rfl | rfl
      · exact PySem.W.mg_none_of X G b0
      · exact PySem.W.mg_none_of X G b1
      · exact PySem.W.mg_none_of X G b2
      · exact PySem.W.mg_none_of X G b3
      · exact PySem.W.mg_none_of X G b4
      · exact PySem.W.mg_none_of X G b5
      · exact PySem.W.mg_none_of X G b6
      · exact PySem.W.mg_none_of X G b7
      · exact PySem.W.mg_none_of X G b8
  have hm : (⟨"law", 0, fa, (PySem.W.fnOf "law" "law" (defArgs s0) (defBody s0) (defScope s0) .none kV0 dc0 pm0 an0 cd0 ct0), s0, n0, p0, d0⟩ : Ent) ∈ es := by simp [es]
  exact prog_ok (turns := TURNS) P DEEP _ hm
end

end K00

set_option maxHeartbeats 4000000
namespace K00
open PySem L2 U
/-- the tape's four items -/
abbrev tp (c : Nat) (p q z : Int) : List PV := [.loc c, .int p, .int q, .int z]
theorem draw_ok {k : Nat} {st : Store} {t c : Nat} {ns : List Int} {p q z m : Int} (ht : st[t]? = some (.lst (tp c p q z))) (hc : st[c]? = some (.lst (ns.map .int))) (hp : 0 ≤ p) (hq : 0 ≤ q) (hz : 0 ≤ z) (hm : m < 1000000) :
    ∃ r p' q' z', evCall TURNS D (k + 1) 5 [.loc t, .int m] st = .ok (.int r) (setAt st t (tp c p' q' z')) ∧ 0 ≤ r ∧ r < max m 1 ∧ 0 ≤ p' ∧ 0 ≤ q' ∧ 0 ≤ z' := by
  have hct : c ≠ t := by
    rintro rfl
    rw [ht] at hc
    have hc : Cell.lst _ = Cell.lst _ := Option.some.inj hc
    injection hc with hc
    cases ns with
    | nil => cases hc
    | cons n ns => injection hc with h1 _; cases h1
  have htl : t < st.length := (List.getElem?_eq_some_iff.mp ht).1
  have hs : ∀ (s : Store) (x : List PV), s.length = st.length → (setAt s t x)[t]? = some (.lst x) := fun s x e => by simp [setAt, htl, e]
  have hs2 : ∀ (s : Store) (x : List PV), s[c]? = some (.lst (ns.map .int)) → (setAt s t x)[c]? = some (.lst (ns.map .int)) := fun s x e => by unfold setAt; rw [List.getElem?_set_ne (Ne.symm hct)]; exact e
  have hs1 : ∀ (x : List PV), (setAt st t x)[t]? = some (.lst x) := fun x => hs st x rfl
  have hss : ∀ (x y : List PV), (setAt (setAt st t x) t y) = setAt st t y := fun x y => by simp [setAt]
  have e2 : ixN 4 2 = some 2 := rfl
  have e1 : ixN 4 1 = some 1 := rfl
  have e3 : ixN 4 3 = some 3 := rfl
  generalize hM1 : (if m < 1 then 1 else m) = M1
  generalize hM2 : (if m < 2 then 2 else m) = M2
  have m1 : 0 < M1 ∧ M1 = max m 1 := by rw [← hM1]; split <;> omega
  have m2 : 0 < M2 ∧ M2 < 1073741824 := by rw [← hM2]; split <;> omega
  have fdiv : ∀ (i : Int) (s : Store), binV .fdiv (.int i) (.int M2) s = some (.int (i / M2)) := fun i s => bin_fdiv_int m2
  have fmod : ∀ (i : Int) (s : Store), binV .mod (.int i) (.int M1) s = some (.int (i % M1)) := fun i s => bin_mod_int m1.1
  have fin : ∀ (v : PV) (x : List PV), leave st.length v (setAt st t x) = .ok v (setAt st t x) := fun v x => leave_setAt v st t x
  by_cases h0 : q = 0
  · subst h0
    clear htl
    -- what stands behind the first if, for the number that was drawn
    have mulA : ∀ (i : Int) (s : Store), binV .mul (.int i) (.int 48271) s = some (.int (i * 48271)) := fun i s => bin_mul_int (by simp [ckM])
    have mulB : ∀ (i : Int) (s : Store), binV .mul (.int i) (.int 69621) s = some (.int (i * 69621)) := fun i s => bin_mul_int (by simp [ckM])
    have modA : ∀ (i : Int) (s : Store), binV .mod (.int i) (.int 2147483647) s = some (.int (i % 2147483647)) := fun i s => bin_mod_int (by decide)
    have modB : ∀ (i : Int) (s : Store), binV .mod (.int i) (.int 2147483629) s = some (.int (i % 2147483629)) := fun i s => bin_mod_int (by decide)
    have powA : ∀ (s : Store), binV .pow (.int 10) (.int 18) s = some (.int (10 ^ 18)) := fun s => bin_pow_int (by decide)
    have lenA : ∀ s : Store, s[c]? = some (.lst (ns.map .int)) → biV .len [.loc c] s = some (.int ns.length) := fun s h => by rw [bi_len_loc h]; simp
    by_cases hl : p < ns.length
    · obtain ⟨n, hn⟩ : ∃ n, ns[p.toNat]? = some n := ⟨ns[p.toNat]'(by omega), by simp⟩
      have hn2 : atI (ns.map PV.int) p = some (.int n) := atI_nn hp (by rw [List.getElem?_map, hn]; rfl)
      generalize ha : (if n < 0 then -n else n) = a
      have a0 : 0 ≤ a := by rw [← ha]; split <;> omega
      by_cases hb : a < 1000000000000000000
      · simp only [evCall, D, d5]
        simp [evSs, evS, ev, evA, evCs, ix_loc ht, cmp_eq_int, hs1, ht, hM1, hM2, fdiv, fmod, ME.held, e1, e2, e3, hss, mulA, mulB, modA, modB, powA, lenA _ hc, hl, ix_loc hc, hb, hn2, ha]
        exact ⟨_, _, _, _, fin _ _, Int.emod_nonneg _ (by omega), by rw [← m1.2]; exact Int.emod_lt_of_pos _ m1.1, by omega, by omega, hz⟩
      · simp only [evCall, D, d5]
        simp [evSs, evS, ev, evA, evCs, ix_loc ht, cmp_eq_int, hs1, ht, hM1, hM2, fdiv, fmod, ME.held, e1, e2, e3, hss, mulA, mulB, modA, modB, powA, lenA _ hc, hl, ix_loc hc, hb, hn2, ha, ix_loc (hs1 _)]
        exact ⟨_, _, _, _, fin _ _, Int.emod_nonneg _ (by omega), by rw [← m1.2]; exact Int.emod_lt_of_pos _ m1.1, by omega, Int.ediv_nonneg a0 (by omega), hz⟩
    · have hb : (z * 48271 + p + 1) % 2147483647 < 1000000000000000000 := Int.lt_trans (Int.emod_lt_of_pos _ (by decide)) (by decide)
      simp only [evCall, D, d5]
      simp [evSs, evS, ev, evA, evCs, ix_loc ht, cmp_eq_int, hs1, ht, hM1, hM2, fdiv, fmod, ME.held, e1, e2, e3, hss, mulA, mulB, modA, modB, powA, lenA _ hc, hl, ix_loc hc, hb, ix_loc (hs1 _)]
      exact ⟨_, _, _, _, fin _ _, Int.emod_nonneg _ (by omega), by rw [← m1.2]; exact Int.emod_lt_of_pos _ m1.1, by omega, by omega, Int.emod_nonneg _ (by omega)⟩
  · simp only [evCall, D, d5]
    clear htl
    simp [evSs, evS, ev, evA, evCs, ix_loc ht, cmp_eq_int, h0, hs1, ht, hM1, hM2, fdiv, fmod, ME.held, e2, hss]
    exact ⟨_, _, _, _, fin _ _, Int.emod_nonneg _ (by omega), by rw [← m1.2]; exact Int.emod_lt_of_pos _ m1.1, hp, Int.ediv_nonneg hq (by omega), hz⟩
end K00

set_option maxHeartbeats 4000000
namespace K00
open PySem L2 U
/-- the store with the script's numbers and the tape -/
def TS (ns : List Int) (p q z : Int) : Store := [.lst (ns.map .int), .lst (tp 0 p q z)]
def T (ns : List Int) (st : Store) : Prop := ∃ p q z, 0 ≤ p ∧ 0 ≤ q ∧ 0 ≤ z ∧ st = TS ns p q z
theorem T.len {ns : List Int} {st : Store} (h : T ns st) : st.length = 2 := by
  obtain ⟨p, q, z, _, _, _, rfl⟩ := h
  rfl
theorem drawT {k : Nat} {ns : List Int} {st : Store} {m : Int} (h : T ns st) (hm : 1 ≤ m ∧ m < 1000000) : ∃ r st', evCall TURNS D (k + 1) 5 [.loc 1, .int m] st = .ok (.int r) st' ∧ T ns st' ∧ 0 ≤ r ∧ r < m := by
  obtain ⟨p, q, z, hp, hq, hz, rfl⟩ := h
  obtain ⟨r, p', q', z', h1, h2, h3, h4, h5, h6⟩ := draw_ok (k := k) (st := TS ns p q z) (t := 1) (c := 0) (ns := ns) rfl rfl hp hq hz hm.2
  exact ⟨r, _, h1, ⟨p', q', z', h4, h5, h6, rfl⟩, h2, by omega⟩
theorem leaveT {ns : List Int} {st : Store} {v : PV} (h : T ns st) : leave 2 v st = .ok v st := leave_same (by rw [h.len]; exact Nat.le_refl _)
theorem pick {α : Type} {xs : List α} {i : Int} (h0 : 0 ≤ i) (h1 : i < xs.length) : ∃ x, x ∈ xs ∧ atI xs i = some x :=
  ⟨xs[i.toNat]'(by omega), List.getElem_mem _, atI_nn h0 (by simp)⟩
theorem ixS {s : Str} {i : Int} {st : Store} (h0 : 0 ≤ i) (h1 : i < s.length) (hz : s.length ≤ 1000000) : ∃ c, c ∈ s.cps.toList ∧ ixV (.str s) (.int i) st = some (.str ⟨#[c]⟩) := by
  have e := TL.len_tl s
  have hz2 : s.length ≤ sizeLine := by rw [sizeLine_eq]; omega
  obtain ⟨c, hc, h⟩ := pick (xs := s.cps.toList) h0 (by show i < ((TL.tl s).length : Int); omega)
  exact ⟨c, hc, by rw [ix_str_ hz2, h]; rfl⟩
/-- the tape -/
theorem tape_ok {k : Nat} {ns : List Int} : ∃ z, 0 ≤ z ∧ evCall TURNS D (k + 1) 4 [.rol (ns.map .int)] [] = .ok (.fl (tp 0 0 0 z)) [.lst (ns.map .int)] := by
  obtain ⟨e, s, h1, t, x, ht, rfl, rfl⟩ := forLoop_inv (put := MG.put (.nm 2)) (body := evSs (evCall TURNS D k) TURNS b4_0) (xs := ns.map .int)
    (fun j env st => ∃ t x, 0 ≤ t ∧ env = [some (.rol (ns.map .int)), some (.int t), x] ∧ st = []) (fun j x env st hx ⟨t, y, ht, e1, e2⟩ => by
      subst e1 e2
      rw [List.getElem?_map] at hx
      obtain ⟨n, hn, rfl⟩ := Option.map_eq_some_iff.mp hx
      have mulA : ∀ (i : Int) (s : Store), binV .mul (.int i) (.int 31) s = some (.int (i * 31)) := fun i s => bin_mul_int (by simp [ckM])
      have modA : ∀ (i : Int) (s : Store), binV .mod (.int i) (.int 2147483647) s = some (.int (i % 2147483647)) := fun i s => bin_mod_int (by decide)
      refine ⟨_, rfl, ?_⟩
      simp [b4_0, evSs, evS, ev, evCs, mulA, modA]
      exact Int.emod_nonneg _ (by decide)) ns.length 0 [some (.rol (ns.map .int)), some (.int 7), none] [] (by simp) ⟨7, none, by decide, rfl, rfl⟩
  refine ⟨t, ht, ?_⟩
  simp only [evCall, D, d4]
  simp [evSs, evS, ev, evA, evCs, evSrc, srcV, Src.many, h1, ME.held, leave, PV.low, PV.lowL, sizeLine_eq]
theorem len_app (x y : Str) : (x ++ y).length = x.length + y.length := by
  have h1 := TL.len_tl (x ++ y)
  rw [TL.tl_append, List.length_append] at h1
  have h2 := TL.len_tl x
  have h3 := TL.len_tl y
  omega
theorem add_ok {x y : Str} {st : Store} (hx : x.length ≤ 100000) (hy : y.length ≤ 100000) : binV .add (.str x) (.str y) st = some (.str (x ++ y)) := bin_add_str (by rw [sizeLine_eq]; omega)
theorem sl_str_ok {x : Str} {lo hi : Option Int} {st : Store} (hx : x.length ≤ 100000) : slV (.str x) lo hi st = some (.str (cutS x lo hi)) := if_pos (by rw [sizeLine_eq]; omega)
theorem cut_len {x : Str} {lo hi : Option Int} {n : Nat} (h : x.length ≤ n) : (cutS x lo hi).length ≤ n := Nat.le_trans (cutS_length x lo hi) h
theorem one_len (c : Nat) : (⟨#[c]⟩ : Str).length = 1 := rfl
theorem len_ok {x : Str} {st : Store} (hx : x.length ≤ 100000) : biV .len [.str x] st = some (.int x.length) := bi_len_str (by rw [sizeLine_eq]; omega)
theorem bound_non : bound true .non = some none := rfl
theorem bound_int (i : Int) : bound false (.int i) = some (some i) := rfl
/-- one of some texts -/
theorem pickS {xs : List PV} {i : Int} {n : Nat} (h0 : 0 ≤ i) (h1 : i < xs.length) (h : ∀ x ∈ xs, ∃ s : Str, x = .str s ∧ s.length ≤ n) : ∃ s : Str, atI xs i = some (.str s) ∧ s.length ≤ n := by
  obtain ⟨x, hx, e⟩ := pick h0 h1
  obtain ⟨s, rfl, hs⟩ := h x hx
  exact ⟨s, e, hs⟩
/-- what a call comes to -/
def gets {α : Type} (r : Res α) (P : α → Store → Prop) : Prop := match r with
  | .ok a st => P a st
  | .bad => False
@[simp] theorem gets_ok {α : Type} (a : α) (st : Store) (P : α → Store → Prop) : gets (.ok a st) P = P a st := rfl
theorem of_gets {α : Type} {r : Res α} {P : α → Store → Prop} (h : gets r P) : ∃ a st, r = .ok a st ∧ P a st := by
  cases r with
  | ok a st => exact ⟨a, st, rfl, h⟩
  | bad => exact h.elim
theorem sign_ok {k : Nat} {ns : List Int} {st : Store} (h : T ns st) : ∃ c st', evCall TURNS D (k + 2) 7 [.loc 1] st = .ok (.str ⟨#[c]⟩) st' ∧ T ns st' := by
  obtain ⟨r, st1, h1, t1, l1, u1⟩ := drawT (k := k) (m := 94) h (by decide)
  have q := t1
  obtain ⟨c, _, hc⟩ := ixS (s := " !\"#$&'()*+,-./0123456789:;<=>?@ABCDEFGHIJKLMNOPQRSTUVWXYZ[\\]^_`abcdefghijklmnopqrstuvwxyz{|}~") (i := r) (st := st1) l1 (by rw [show Str.length _ = 94 by decide +kernel]; omega) (by decide +kernel)
  refine ⟨c, st1, ?_, t1⟩
  rw [show k + 2 = (k + 1) + 1 from rfl, evCall]
  simp [D, d7, evSs, evS, ev, evA, h1, ME.held, hc, h.len, leaveT t1]
theorem strsL_map {α : Type} (f : α → Str) : ∀ l : List α, strsL (l.map fun x => .str (f x)) = some (l.map f)
  | [] => rfl
  | x :: r => by
    show (strsL (r.map fun x => .str (f x))).map (f x :: ·) = _
    rw [strsL_map f r]; rfl
theorem joinL_one : ∀ l : List Nat, TL.joinL [] (l.map fun c => [c]) = l
  | [] => rfl
  | [_] => rfl
  | a :: b :: r => by
    show a :: ([] ++ TL.joinL [] ((b :: r).map fun c => [c])) = _
    rw [joinL_one (b :: r)]; rfl
theorem join_ok {l : List Nat} {st : Store} (h : l.length ≤ 1000) : mtV .join (.str "") [.fl (l.map fun c => .str ⟨#[c]⟩)] st = .ok (.str ⟨l.toArray⟩) st := by
  have e1 : strsL (l.map fun c => .str ⟨#[c]⟩) = some (l.map fun c => (⟨#[c]⟩ : Str)) := strsL_map _ l
  have e2 : ((l.map fun c => (⟨#[c]⟩ : Str)).map (·.length)).sum = l.length := by
    rw [List.map_map]
    clear e1 h
    induction l with
    | nil => rfl
    | cons a r ih =>
      rw [List.map_cons, List.sum_cons, ih, List.length_cons]
      show 1 + r.length = _
      omega
  have e3 : Txt.join "" (l.map fun c => (⟨#[c]⟩ : Str)) = ⟨l.toArray⟩ := by
    have := SX.join_S [] (l.map fun c => [c])
    rw [joinL_one, List.map_map] at this
    exact this
  unfold mtV
  simp only [seq_fl, e1, e2]
  rw [if_pos (by rw [show Str.length "" = 0 by decide +kernel]; omega), e3]
theorem num_len {i : Int} (h0 : 0 ≤ i) (h : i < 10000) : (toString i : Str).length ≤ 5 ∧ i.natAbs < 1000000 := by
  have e := PySem.int_text_length_le10 (a := i) (k := 4) (by decide) (by omega)
  refine ⟨?_, by omega⟩
  show (Str.ofString (toString i)).length ≤ 5
  rw [show (Str.ofString (toString i)).length = (toString i : String).length by rw [TL.len_tl, TL.tl_ofString, List.length_map]; rfl]
  exact e
def ENDS : List PV := [.str "", .str "end", .str "hang", .str "return", .str " end", .str "end ", .str "End", .str "return ", .str "return 1 ", .str "hang 1"]
theorem string_ok {k : Nat} {ns : List Int} {st : Store} {s : Str} (h : T ns st) (hs : s.length ≤ 60) : ∃ x st', evCall TURNS D (k + 3) 10 [.loc 1, .str s] st = .ok (.str x) st' ∧ T ns st' ∧ x.length ≤ 10000 := by
  suffices g : gets (evCall TURNS D (k + 3) 10 [.loc 1, .str s] st) (fun v st' => ∃ x, v = .str x ∧ T ns st' ∧ x.length ≤ 10000) by
    obtain ⟨v, st', e, x, rfl, t, l⟩ := of_gets g
    exact ⟨x, st', e, t, l⟩
  obtain ⟨r1, st1, h1, t1, l1, u1⟩ := drawT (k := k + 1) (m := 12) h (by decide)
  obtain ⟨w, hw, lw⟩ := pickS (xs := [.str "let", .str "if", .str "else", .str "while", .str "for", .str "break", .str "continue", .str "return", .str "try", .str "finally", .str "true", .str "false"]) (i := r1) (n := 8) l1 (by simpa using u1) (by
    intro x hx
    simp only [List.mem_cons, List.not_mem_nil, or_false] at hx
    rcases hx with rfl | rfl | rfl | rfl | rfl | rfl | rfl | rfl | rfl | rfl | rfl | rfl <;> exact ⟨_, rfl, by decide +kernel⟩)
  obtain ⟨r2, st2, h2, t2, l2, u2⟩ := drawT (k := k + 1) (m := 6) t1 (by decide)
  obtain ⟨r3, st3, h3, t3, l3, u3⟩ := drawT (k := k + 1) (m := (s.length : Int) + 1) t2 (by omega)
  obtain ⟨r4, st4, h4, t4, l4, u4⟩ := drawT (k := k + 1) (m := 9) t3 (by decide)
  have m34 : ∀ st : Store, binV .mul (.str s) (.int 34) st = some (.str ⟨((List.replicate 34 s.cps.toList).flatten).toArray⟩) := fun st => bin_mul_str ⟨by decide, by decide, by show s.length * 34 ≤ 1000000; omega⟩
  generalize hL : (⟨((List.replicate 34 s.cps.toList).flatten).toArray⟩ : Str) = L at m34
  have lL : L.length ≤ 2040 := by
    rw [← hL, TL.len_tl]
    show ((List.replicate 34 s.cps.toList).flatten).length ≤ 2040
    have := TL.len_tl s
    rw [List.length_flatten, List.map_replicate, List.sum_replicate_nat]
    show 34 * s.cps.toList.length ≤ 2040
    have e : s.length = s.cps.toList.length := this
    omega
  have cL : (cutS L none (some (28 + r2))).length ≤ 2040 := cut_len lL
  generalize hC : cutS L none (some (28 + r2)) = C at cL
  rw [show k + 3 = (k + 2) + 1 from rfl, evCall]
  have b0 := sl_str_ok (x := L) (lo := none) (hi := some (28 + r2)) (st := st2) (by omega)
  have b1 := len_ok (x := s) (st := st2) (by omega)
  have ds : ∀ (lo hi : Option Int) (st : Store), slV (.str s) lo hi st = some (.str (cutS s lo hi)) := fun lo hi st => sl_str_ok (by omega)
  have dw : ∀ (lo hi : Option Int) (st : Store), slV (.str w) lo hi st = some (.str (cutS w lo hi)) := fun lo hi st => sl_str_ok (by omega)
  have dl : ∀ (st : Store), biV .len [.str w] st = some (.int w.length) := fun st => len_ok (by omega)
  by_cases c3 : r4 < 3
  · obtain ⟨x, hx, lx⟩ := pickS (xs := [.str s, .str w, .str C]) (i := r4) (n := 10000) l4 (by simpa using c3) (by
      intro x hx
      simp only [List.mem_cons, List.not_mem_nil, or_false] at hx
      rcases hx with rfl | rfl | rfl
      · exact ⟨_, rfl, by omega⟩
      · exact ⟨_, rfl, by omega⟩
      · exact ⟨_, rfl, by omega⟩)
    simp [D, d10, evSs, evS, ev, evA, evCs, h1, hw, h2, h3, h4, m34, b0, b1, ME.absent, bound_non, bound_int, hC, sizeLine_eq, h.len, ME.held, c3, hx, leaveT t4]
    exact ⟨t4, lx⟩
  by_cases e3 : r4 = 3
  · subst e3
    obtain ⟨c, st5, h5, t5⟩ := sign_ok (k := k) t4
    obtain ⟨r6, st6, h6, t6, l6, u6⟩ := drawT (k := k + 1) (m := 2) t5 (by decide)
    have a1 := add_ok (x := cutS s none (some r3)) (y := ⟨#[c]⟩) (st := st5) (by have := cut_len (lo := none) (hi := some r3) hs; omega) (by rw [one_len]; omega)
    have a2 := add_ok (x := cutS s none (some r3) ++ ⟨#[c]⟩) (y := cutS s (some (r3 + r6)) none) (st := st6) (by have := cut_len (lo := none) (hi := some r3) hs; rw [len_app, one_len]; omega) (by have := cut_len (lo := some (r3 + r6)) (hi := none) hs; omega)
    simp [D, d10, evSs, evS, ev, evA, evCs, h1, hw, h2, h3, h4, m34, b0, b1, ME.absent, bound_non, bound_int, hC, sizeLine_eq, h.len, ME.held, ds, dw, dl, h5, h6, a1, a2, leaveT t6]
    have q1 := cut_len (lo := none) (hi := some r3) hs
    have q2 := cut_len (lo := some (r3 + r6)) (hi := none) hs
    refine ⟨t6, ?_⟩
    rw [len_app, len_app, one_len]
    omega
  by_cases e4 : r4 = 4
  · subst e4
    obtain ⟨r5, st5, h5, t5, l5, u5⟩ := drawT (k := k + 1) (m := (w.length : Int) + 1) t4 (by omega)
    obtain ⟨c, st6, h6, t6⟩ := sign_ok (k := k) t5
    obtain ⟨r7, st7, h7, t7, l7, u7⟩ := drawT (k := k + 1) (m := 5) t6 (by decide)
    obtain ⟨x, hx, lx⟩ := pickS (xs := [.str "", .str "_", .str "E", .str "7", .str ⟨#[c]⟩]) (i := r7) (n := 1) l7 (by simpa using u7) (by
      intro x hx
      simp only [List.mem_cons, List.not_mem_nil, or_false] at hx
      rcases hx with rfl | rfl | rfl | rfl | rfl
      · exact ⟨_, rfl, by decide +kernel⟩
      · exact ⟨_, rfl, by decide +kernel⟩
      · exact ⟨_, rfl, by decide +kernel⟩
      · exact ⟨_, rfl, by decide +kernel⟩
      · exact ⟨_, rfl, by rw [one_len]; exact Nat.le_refl _⟩)
    obtain ⟨r8, st8, h8, t8, l8, u8⟩ := drawT (k := k + 1) (m := 2) t7 (by decide)
    have q1 := cut_len (lo := none) (hi := some r5) lw
    have q2 := cut_len (lo := some (r5 + r8)) (hi := none) lw
    have a1 := add_ok (x := cutS w none (some r5)) (y := x) (st := st7) (by omega) (by omega)
    have a2 := add_ok (x := cutS w none (some r5) ++ x) (y := cutS w (some (r5 + r8)) none) (st := st8) (by rw [len_app]; omega) (by omega)
    simp [D, d10, evSs, evS, ev, evA, evCs, h1, hw, h2, h3, h4, m34, b0, b1, ME.absent, bound_non, bound_int, hC, sizeLine_eq, h.len, ME.held, ds, dw, dl, h5, h6, h7, h8, hx, a1, a2, leaveT t8]
    refine ⟨t8, ?_⟩
    rw [len_app, len_app]
    omega
  by_cases e5 : r4 = 5
  · subst e5
    obtain ⟨r5, st5, h5, t5, l5, u5⟩ := drawT (k := k + 1) (m := 9) t4 (by decide)
    have hr : ∀ st : Store, rngV (.int 0) (.int r5) st = .ok (.items ((List.range (r5 - 0).toNat).map fun (k : Nat) => .int (0 + k))) st := fun st => if_pos (by omega)
    have lc : ∀ (test : En → Store → Res Bool) (env : En), (∀ e s, test e s = .ok true s) → env[0]? = some (some (.loc 1)) → ∃ cs : List Nat, ∃ s', cs.length = r5.toNat ∧ T ns s' ∧
        lcLoop test (ev (evCall TURNS D (k + 2)) e10_0 .val) (MG.put (.nm 10)) env (.items ((List.range (r5 - 0).toNat).map fun (k : Nat) => .int (0 + k))) 0 r5.toNat [] st5 = .ok (.fl (cs.map fun c => .str ⟨#[c]⟩)) s' := by
      intro test env ht he
      obtain ⟨acc, s', q1, cs, q2, q3, q4⟩ := lcLoop_inv (env := env) (put := MG.put (.nm 10)) (test := test) (elt := ev (evCall TURNS D (k + 2)) e10_0 .val) (xs := (List.range (r5 - 0).toNat).map fun (k : Nat) => .int (0 + k))
        (fun j acc st' => ∃ cs : List Nat, cs.length = j ∧ acc = cs.map (fun c => .str ⟨#[c]⟩) ∧ T ns st') (fun j x acc st1 hx ⟨cs, e1, e2, e3⟩ => by
          obtain ⟨c, st2, g1, g2⟩ := sign_ok (k := k) e3
          have hj : j < r5.toNat := by
            have := (List.getElem?_eq_some_iff.mp hx).1
            simpa using this
          refine ⟨_, true, st1, rfl, ht _ _, ?_⟩
          have he2 : (env.set 10 (some x))[0]? = some (some (.loc 1)) := by rw [List.getElem?_set_ne (by decide), he]
          rw [if_pos rfl]
          refine ⟨.str ⟨#[c]⟩, st2, ?_, by rw [e2, List.length_map, sizeLine_eq]; omega, cs ++ [c], by simp [e1], by simp [e2], g2⟩
          simp [e10_0, ev, evA, he2, g1]) r5.toNat 0 [] st5 (by simp) ⟨[], rfl, rfl, t5⟩
      exact ⟨cs, s', by simpa using q2, q4, by rw [q1, q3]⟩
    have ng : r5 - 0 = r5 := by omega
    rw [ng] at hr lc
    simp only [Int.zero_add] at hr lc
    simp [D, d10, evSs, evS, ev, evA, evCs, h1, hw, h2, h3, h4, m34, b0, b1, ME.absent, bound_non, bound_int, hC, sizeLine_eq, h.len, ME.held, ds, dw, dl, h5, hr, MG.slots, Src.many, -List.map_map]
    generalize hE : U.wipe _ _ = E
    obtain ⟨cs, s', z1, z2, z3⟩ := lc (fun e s => .ok true s) E (fun _ _ => rfl) (by rw [← hE]; rfl)
    have z4 := join_ok (l := cs) (st := s') (by omega)
    simp [z3, z4, leaveT z2]
    refine ⟨z2, ?_⟩
    show cs.length ≤ 10000
    omega
  by_cases e6 : r4 = 6
  · subst e6
    obtain ⟨r5, st5, h5, t5, l5, u5⟩ := drawT (k := k + 1) (m := 10) t4 (by decide)
    obtain ⟨x, hx, lx⟩ := pickS (xs := ENDS) (i := r5) (n := 20) l5 (by simpa [ENDS] using u5) (by
      intro x hx
      simp only [ENDS, List.mem_cons, List.not_mem_nil, or_false] at hx
      rcases hx with rfl | rfl | rfl | rfl | rfl | rfl | rfl | rfl | rfl | rfl <;> exact ⟨_, rfl, by decide +kernel⟩)
    unfold ENDS at hx
    simp [D, d10, evSs, evS, ev, evA, evCs, h1, hw, h2, h3, h4, m34, b0, b1, ME.absent, bound_non, bound_int, hC, sizeLine_eq, h.len, ME.held, ds, dw, dl, h5, hx, leaveT t5]
    exact ⟨t5, by omega⟩
  obtain ⟨r5, st5, h5, t5, l5, u5⟩ := drawT (k := k + 1) (m := 8) t4 (by decide)
  obtain ⟨hd, hhd, lhd⟩ := pickS (xs := [.str "break", .str "continue", .str "return", .str "end", .str "Break", .str "return", .str "break", .str "continue"]) (i := r5) (n := 20) l5 (by simpa using u5) (by
    intro x hx
    simp only [List.mem_cons, List.not_mem_nil, or_false] at hx
    rcases hx with rfl | rfl | rfl | rfl | rfl | rfl | rfl | rfl <;> exact ⟨_, rfl, by decide +kernel⟩)
  obtain ⟨r6, st6, h6, t6, l6, u6⟩ := drawT (k := k + 1) (m := 6) t5 (by decide)
  obtain ⟨gp, hgp, lgp⟩ := pickS (xs := [.str " ", .str " ", .str " ", .str " ", .str "", .str "  "]) (i := r6) (n := 20) l6 (by simpa using u6) (by
    intro x hx
    simp only [List.mem_cons, List.not_mem_nil, or_false] at hx
    rcases hx with rfl | rfl | rfl | rfl | rfl | rfl <;> exact ⟨_, rfl, by decide +kernel⟩)
  obtain ⟨r7, st7, h7, t7, l7, u7⟩ := drawT (k := k + 1) (m := 100) t6 (by decide)
  obtain ⟨r8, st8, h8, t8, l8, u8⟩ := drawT (k := k + 1) (m := 1200) t7 (by decide)
  obtain ⟨r9, st9, h9, t9, l9, u9⟩ := drawT (k := k + 1) (m := 12) t8 (by decide)
  obtain ⟨c10, st10, h10, t10⟩ := sign_ok (k := k) t9
  obtain ⟨c11, st11, h11, t11⟩ := sign_ok (k := k) t10
  obtain ⟨r12, st12, h12, t12, l12, u12⟩ := drawT (k := k + 1) (m := 10) t11 (by decide)
  obtain ⟨n7, v7⟩ := num_len (i := r7) l7 (by omega)
  obtain ⟨n8, v8⟩ := num_len (i := r8) l8 (by omega)
  obtain ⟨n9, v9⟩ := num_len (i := r9) l9 (by omega)
  have w7 := bi_str (st := st7) v7
  have w8 := bi_str (st := st8) v8
  have w9 := bi_str (st := st9) v9
  generalize Str.ofString (toString r7) = R7 at n7 w7
  generalize Str.ofString (toString r8) = R8 at n8 w8
  generalize Str.ofString (toString r9) = R9 at n9 w9
  have y9 := add_ok (x := ("0" : Str)) (y := R9) (st := st9) (by decide +kernel) (by omega)
  have y11 := add_ok (x := ("7" : Str)) (y := ⟨#[c11]⟩) (st := st11) (by decide +kernel) (by rw [one_len]; omega)
  obtain ⟨tl, htl, ltl⟩ := pickS (xs := [.str s, .str w, .str C, .str (R7), .str (R8), .str (("0" : Str) ++ R9), .str "", .str ⟨#[c10]⟩, .str "-1", .str (("7" : Str) ++ ⟨#[c11]⟩)]) (i := r12) (n := 3000) l12 (by simpa using u12) (by
    intro x hx
    simp only [List.mem_cons, List.not_mem_nil, or_false] at hx
    rcases hx with rfl | rfl | rfl | rfl | rfl | rfl | rfl | rfl | rfl | rfl
    · exact ⟨_, rfl, by omega⟩
    · exact ⟨_, rfl, by omega⟩
    · exact ⟨_, rfl, by omega⟩
    · exact ⟨_, rfl, by omega⟩
    · exact ⟨_, rfl, by omega⟩
    · exact ⟨_, rfl, by rw [len_app, show Str.length "0" = 1 by decide +kernel]; omega⟩
    · exact ⟨_, rfl, by decide +kernel⟩
    · exact ⟨_, rfl, by rw [one_len]; omega⟩
    · exact ⟨_, rfl, by decide +kernel⟩
    · exact ⟨_, rfl, by rw [len_app, one_len, show Str.length "7" = 1 by decide +kernel]; omega⟩)
  have a1 := add_ok (x := hd) (y := gp) (st := st11) (by omega) (by omega)
  have a2 := add_ok (x := hd ++ gp) (y := tl) (st := st12) (by rw [len_app]; omega) (by omega)
  have f3 : ¬ r4 < 3 := c3
  simp [D, d10, evSs, evS, ev, evA, evCs, h1, hw, h2, h3, h4, m34, b0, b1, ME.absent, bound_non, bound_int, hC, sizeLine_eq, h.len, ME.held, ds, dw, dl, c3, e3, e4, e5, e6, h5, hhd, h6, hgp, h7, w7, h8, w8, h9, w9, y9, h10, h11, y11, h12, htl, a1, a2, leaveT t12]
  refine ⟨t12, ?_⟩
  rw [len_app, len_app]
  omega
end K00

set_option maxHeartbeats 4000000
namespace K00
open PySem L2 U
theorem loopA {k : Nat} {ns : List Int} {st : Store} {sg name : Str} {r : Int} {a1 a3 a4 a5 a6 a7 a9 a10 : Option PV} (hg : ∀ (i : Int) (st : Store), 0 ≤ i → i < 63 → ∃ c, ixV (.str sg) (.int i) st = some (.str ⟨#[c]⟩))
    (t : T ns st) (hn : name.length ≤ 21) (h0 : 0 ≤ r) (h1 : r ≤ 6) :
    ∃ nm x9 st', forLoop (MG.put (.nm 9)) (evSs (evCall TURNS D (k + 1)) TURNS b6_0) (.items ((List.range r.toNat).map fun (k : Nat) => .int k)) 0 r.toNat [some (.loc 1), a1, some (.str sg), a3, a4, a5, a6, a7, some (.str name), a9, a10] st
      = .nx [some (.loc 1), a1, some (.str sg), a3, a4, a5, a6, a7, some (.str nm), x9, a10] st' ∧ nm.length ≤ 27 ∧ T ns st' := by
  obtain ⟨e, s, q1, nm, x9, q2, q3, q4⟩ := forLoop_inv (put := MG.put (.nm 9)) (body := evSs (evCall TURNS D (k + 1)) TURNS b6_0) (xs := (List.range r.toNat).map fun (k : Nat) => .int k)
    (fun j env st => ∃ nm x9, nm.length ≤ 21 + j ∧ T ns st ∧ env = [some (.loc 1), a1, some (.str sg), a3, a4, a5, a6, a7, some (.str nm), x9, a10]) (fun j x env st hx ⟨nm, x9, e1, e2, e3⟩ => by
      subst e3
      have hj : j < r.toNat := by
        have := (List.getElem?_eq_some_iff.mp hx).1
        simpa using this
      obtain ⟨q, st1, g1, g2, g3, g4⟩ := drawT (k := k) (m := 63) e2 (by decide)
      obtain ⟨c, hc⟩ := hg q st1 g3 g4
      have a := add_ok (x := nm) (y := ⟨#[c]⟩) (st := st1) (by omega) (by rw [one_len]; omega)
      refine ⟨_, rfl, ?_⟩
      simp [b6_0, evSs, evS, ev, evA, evCs, g1, hc, a]
      refine ⟨?_, g2⟩
      rw [len_app, one_len]; omega) r.toNat 0 _ st (by simp) ⟨name, a9, by omega, t, rfl⟩
  refine ⟨nm, x9, s, by rw [q1, q4], ?_, q3⟩
  have : ((List.range r.toNat).map fun (k : Nat) => PV.int k).length = r.toNat := by simp
  omega
def SG : Str := "abcdefghijklmnopqrstuvwxyzABCDEFGHIJKLMNOPQRSTUVWXYZ0123456789_"
theorem SG_ok (i : Int) (st : Store) (h0 : 0 ≤ i) (h1 : i < 63) : ∃ c, ixV (.str SG) (.int i) st = some (.str ⟨#[c]⟩) := by
  obtain ⟨c, _, h⟩ := ixS (s := SG) (st := st) h0 (by rw [show Str.length SG = 63 by decide +kernel]; omega) (by decide +kernel)
  exact ⟨c, h⟩
def WL : List PV := [.str "let", .str "if", .str "else", .str "while", .str "for", .str "break", .str "continue", .str "return", .str "try", .str "finally", .str "true", .str "false"]
theorem WL_ok {i : Int} (l1 : 0 ≤ i) (u1 : i < 12) : ∃ s : Str, atI WL i = some (.str s) ∧ s.length ≤ 8 := pickS (xs := WL) l1 (by simpa [WL] using u1) (by
    intro x hx
    simp only [WL, List.mem_cons, List.not_mem_nil, or_false] at hx
    rcases hx with rfl | rfl | rfl | rfl | rfl | rfl | rfl | rfl | rfl | rfl | rfl | rfl <;> exact ⟨_, rfl, by decide +kernel⟩)
theorem inW (x : Str) (st : Store) : ∃ b, cmpV .inn (.str x) (.fl WL) st = some b := by
  have h : ∃ b, memF (.str x) WL = some b := ⟨_, rfl⟩
  obtain ⟨b, h⟩ := h
  refine ⟨b, ?_⟩
  show U.inV (.str x) (.fl WL) st = some b
  unfold U.inV
  simp only [seq_fl, h]
theorem in0 (x : Str) (st : Store) : cmpV .inn (.str x) (.fl []) st = some false := rfl
/-- what follows the stem in a turn -/
theorem turnA {k : Nat} {ns : List Int} {st : Store} {stem : Str} {place : Int} {a8 a9 a10 : Option PV} (t : T ns st) (hs : stem.length ≤ 10) (h0 : 0 ≤ place) :
    ∃ x a9' a10' st', evSs (evCall TURNS D (k + 1)) TURNS b6_1 [some (.loc 1), some (.int 1), some (.str SG), some (.fl WL), some (.str stem), some (.int place), some (.fl []), some (.int 0), a8, a9, a10] st
      = .nx [some (.loc 1), some (.int 1), some (.str SG), some (.fl WL), some (.str stem), some (.int place), some (.fl [.str x]), some (.int 0), some (.str x), a9', a10'] st' ∧ x.length ≤ 60 ∧ T ns st' := by
  obtain ⟨r1, st1, h1, t1, l1, u1⟩ := drawT (k := k) (m := 52) t (by decide)
  obtain ⟨c1, hc1⟩ := SG_ok r1 st1 l1 (by omega)
  have q1 := cut_len (lo := none) (hi := some place) hs
  have q2 := cut_len (lo := some place) (hi := none) hs
  have d1 := sl_str_ok (x := stem) (lo := none) (hi := some place) (st := st) (by omega)
  have d2 := sl_str_ok (x := stem) (lo := some place) (hi := none) (st := st1) (by omega)
  have m1 := add_ok (x := cutS stem none (some place)) (y := ⟨#[c1]⟩) (st := st1) (by omega) (by rw [one_len]; omega)
  have m2 := add_ok (x := cutS stem none (some place) ++ ⟨#[c1]⟩) (y := cutS stem (some place) none) (st := st1) (by rw [len_app, one_len]; omega) (by omega)
  obtain ⟨r3, st3, h3, t3, l3, u3⟩ := drawT (k := k) (m := 6) (ns := ns) (st := st1) t1 (by decide)
  have e3 : ∃ n : Int, atI [PV.int 0, .int 0, .int 0, .int 1, .int 2, .int 6] r3 = some (.int n) ∧ 0 ≤ n ∧ n ≤ 6 := by
    obtain ⟨y, hy, e3⟩ := pick (xs := [PV.int 0, .int 0, .int 0, .int 1, .int 2, .int 6]) (i := r3) l3 (by simpa using u3)
    simp only [List.mem_cons, List.not_mem_nil, or_false] at hy
    rcases hy with rfl | rfl | rfl | rfl | rfl | rfl <;> exact ⟨_, e3, by decide, by decide⟩
  obtain ⟨n, e3, n0, n6⟩ := e3
  have hr : rngV (.int 0) (.int n) st3 = .ok (.items ((List.range (n - 0).toNat).map fun (k : Nat) => .int (0 + k))) st3 := if_pos (by omega)
  rw [show n - 0 = n by omega] at hr
  simp only [Int.zero_add] at hr
  obtain ⟨nm, x9, st4, g1, g2, g3⟩ := loopA (k := k) (sg := SG) (name := cutS stem none (some place) ++ ⟨#[c1]⟩ ++ cutS stem (some place) none) (a1 := some (.int 1)) (a3 := some (.fl WL)) (a4 := some (.str stem)) (a5 := some (.int place)) (a6 := some (.fl [])) (a7 := some (.int 0)) (a9 := a9) (a10 := a10) SG_ok t3 (by rw [len_app, len_app, one_len]; omega) n0 n6
  obtain ⟨r5, st5, h5, t5, l5, u5⟩ := drawT (k := k) (m := 16) g3 (by decide)
  have w0 := bi_str (i := 0) (st := st5) (by decide)
  have one24 : (("one_of_two_equal_names_" : Str) ++ Str.ofString (toString (0 : Int))).length ≤ 60 := by decide +kernel
  by_cases c0 : r5 = 0
  · subst c0
    have k1 := len_ok (x := nm) (st := st5) (by omega)
    have k2 := bin_mul_str (x := "x") (j := 30 - nm.length) (st := st5) ⟨by omega, by omega, by rw [show Str.length "x" = 1 by decide +kernel]; omega⟩
    have k4 : (⟨((List.replicate (30 - (nm.length : Int)).toNat (Str.cps "x").toList).flatten).toArray⟩ : Str).length = (30 - (nm.length : Int)).toNat := by
      rw [TL.len_tl]
      show ((List.replicate (30 - (nm.length : Int)).toNat (Str.cps "x").toList).flatten).length = _
      rw [List.length_flatten, List.map_replicate, List.sum_replicate_nat, show (Str.cps "x").toList.length = 1 by decide +kernel]
      omega
    generalize (⟨((List.replicate (30 - (nm.length : Int)).toNat (Str.cps "x").toList).flatten).toArray⟩ : Str) = XX at k2 k4
    have k3 := add_ok (x := nm) (y := XX) (st := st5) (by omega) (by omega)
    obtain ⟨b, hb⟩ := inW (nm ++ XX) st5
    cases b with
    | false =>
      simp [b6_1, evSs, evS, ev, evA, evCs, evSrc, d1, h1, hc1, m1, d2, m2, h3, e3, hr, Src.many, g1, h5, ME.absent, bound_non, bound_int, in0, -List.map_map, k1, k2, k3, hb, sizeLine_eq]
      exact ⟨_, _, _, _, ⟨⟨rfl, rfl, rfl⟩, rfl⟩, by rw [len_app]; omega, t5⟩
    | true =>
      have k9 := add_ok (x := ("one_of_two_equal_names_" : Str)) (y := Str.ofString (toString (0 : Int))) (st := st5) (by decide +kernel) (by decide +kernel)
      have w9 := bi_str (i := 0) (st := st5) (by decide)
      generalize Str.ofString (toString (0 : Int)) = Z at k9 w9 one24
      simp [b6_1, evSs, evS, ev, evA, evCs, evSrc, d1, h1, hc1, m1, d2, m2, h3, e3, hr, Src.many, g1, h5, ME.absent, bound_non, bound_int, in0, -List.map_map, k1, k2, k3, hb, w9, k9, sizeLine_eq]
      exact ⟨_, _, _, _, ⟨⟨rfl, rfl, rfl⟩, rfl⟩, one24, t5⟩
  by_cases c1' : r5 = 1
  · subst c1'
    obtain ⟨r6, st6, h6, t6, l6, u6⟩ := drawT (k := k) (m := 12) t5 (by decide)
    obtain ⟨w, hw, lw⟩ := WL_ok l6 u6
    have s1 := sl_str_ok (x := nm) (lo := none) (hi := some 1) (st := st6) (by omega)
    have s2 := cut_len (x := nm) (lo := none) (hi := some 1) g2
    have k3 := add_ok (x := w) (y := cutS nm none (some 1)) (st := st6) (by omega) (by omega)
    obtain ⟨b, hb⟩ := inW (w ++ cutS nm none (some 1)) st6
    cases b with
    | false =>
      simp [b6_1, evSs, evS, ev, evA, evCs, evSrc, d1, h1, hc1, m1, d2, m2, h3, e3, hr, Src.many, g1, h5, ME.absent, bound_non, bound_int, in0, -List.map_map, h6, hw, s1, k3, hb, sizeLine_eq]
      exact ⟨_, _, _, _, ⟨⟨rfl, rfl, rfl⟩, rfl⟩, by rw [len_app]; omega, t6⟩
    | true =>
      have k9 := add_ok (x := ("one_of_two_equal_names_" : Str)) (y := Str.ofString (toString (0 : Int))) (st := st6) (by decide +kernel) (by decide +kernel)
      have w9 := bi_str (i := 0) (st := st6) (by decide)
      generalize Str.ofString (toString (0 : Int)) = Z at k9 w9 one24
      simp [b6_1, evSs, evS, ev, evA, evCs, evSrc, d1, h1, hc1, m1, d2, m2, h3, e3, hr, Src.many, g1, h5, ME.absent, bound_non, bound_int, in0, -List.map_map, h6, hw, s1, k3, hb, w9, k9, sizeLine_eq]
      exact ⟨_, _, _, _, ⟨⟨rfl, rfl, rfl⟩, rfl⟩, one24, t6⟩
  by_cases c2' : r5 = 2
  · subst c2'
    obtain ⟨r6, st6, h6, t6, l6, u6⟩ := drawT (k := k) (m := 12) t5 (by decide)
    obtain ⟨w, hw, lw⟩ := WL_ok l6 u6
    have s1 := sl_str_ok (x := w) (lo := none) (hi := some (-1)) (st := st6) (by omega)
    have s2 := cut_len (x := w) (lo := none) (hi := some (-1)) lw
    obtain ⟨b, hb⟩ := inW (cutS w none (some (-1))) st6
    cases b with
    | false =>
      simp [b6_1, evSs, evS, ev, evA, evCs, evSrc, d1, h1, hc1, m1, d2, m2, h3, e3, hr, Src.many, g1, h5, ME.absent, bound_non, bound_int, in0, -List.map_map, h6, hw, s1, hb, sizeLine_eq]
      exact ⟨_, _, _, _, ⟨⟨rfl, rfl, rfl⟩, rfl⟩, by omega, t6⟩
    | true =>
      have k9 := add_ok (x := ("one_of_two_equal_names_" : Str)) (y := Str.ofString (toString (0 : Int))) (st := st6) (by decide +kernel) (by decide +kernel)
      have w9 := bi_str (i := 0) (st := st6) (by decide)
      generalize Str.ofString (toString (0 : Int)) = Z at k9 w9 one24
      simp [b6_1, evSs, evS, ev, evA, evCs, evSrc, d1, h1, hc1, m1, d2, m2, h3, e3, hr, Src.many, g1, h5, ME.absent, bound_non, bound_int, in0, -List.map_map, h6, hw, s1, hb, w9, k9, sizeLine_eq]
      exact ⟨_, _, _, _, ⟨⟨rfl, rfl, rfl⟩, rfl⟩, one24, t6⟩
  obtain ⟨b, hb⟩ := inW (nm) st5
  cases b with
  | false =>
    simp [b6_1, evSs, evS, ev, evA, evCs, evSrc, d1, h1, hc1, m1, d2, m2, h3, e3, hr, Src.many, g1, h5, ME.absent, bound_non, bound_int, in0, -List.map_map, c0, c1', c2', hb, sizeLine_eq]
    exact ⟨_, _, _, _, ⟨⟨rfl, rfl, rfl⟩, rfl⟩, by omega, t5⟩
  | true =>
    have k9 := add_ok (x := ("one_of_two_equal_names_" : Str)) (y := Str.ofString (toString (0 : Int))) (st := st5) (by decide +kernel) (by decide +kernel)
    have w9 := bi_str (i := 0) (st := st5) (by decide)
    generalize Str.ofString (toString (0 : Int)) = Z at k9 w9 one24
    simp [b6_1, evSs, evS, ev, evA, evCs, evSrc, d1, h1, hc1, m1, d2, m2, h3, e3, hr, Src.many, g1, h5, ME.absent, bound_non, bound_int, in0, -List.map_map, c0, c1', c2', hb, w9, k9, sizeLine_eq]
    exact ⟨_, _, _, _, ⟨⟨rfl, rfl, rfl⟩, rfl⟩, one24, t5⟩
theorem names_ok {k : Nat} {ns : List Int} {st : Store} (t : T ns st) : ∃ x st', evCall TURNS D (k + 2) 6 [.loc 1, .int 1] st = .ok (.fl [.str x]) st' ∧ x.length ≤ 60 ∧ T ns st' := by
  obtain ⟨r1, st1, h1, t1, l1, u1⟩ := drawT (k := k) (m := 4) t (by decide)
  obtain ⟨stem, hs, ls⟩ := pickS (xs := [.str "", .str "", .str "sharedStem", .str "while_x"]) (i := r1) (n := 10) l1 (by simpa using u1) (by
    intro x hx
    simp only [List.mem_cons, List.not_mem_nil, or_false] at hx
    rcases hx with rfl | rfl | rfl | rfl <;> exact ⟨_, rfl, by decide +kernel⟩)
  have k1 := len_ok (x := stem) (st := st1) (by omega)
  obtain ⟨r2, st2, h2, t2, l2, u2⟩ := drawT (k := k) (m := (stem.length : Int) + 1) t1 (by omega)
  obtain ⟨x, x9, x10, st3, g1, g2, g3⟩ := turnA (k := k) (stem := stem) (place := r2) (a8 := none) (a9 := none) (a10 := none) t2 ls l2
  unfold SG WL at g1
  have hr : rngV (.int 0) (.int 1) st2 = .ok (.items [.int 0]) st2 := rfl
  have hf : forLoop (MG.put (.nm 7)) (evSs (evCall TURNS D (k + 1)) TURNS b6_1) (.items [.int 0]) 0 1 [some (.loc 1), some (.int 1), some (.str "abcdefghijklmnopqrstuvwxyzABCDEFGHIJKLMNOPQRSTUVWXYZ0123456789_"), some (.fl WL), some (.str stem), some (.int r2), some (.fl []), none, none, none, none] st2 = .nx [some (.loc 1), some (.int 1), some (.str "abcdefghijklmnopqrstuvwxyzABCDEFGHIJKLMNOPQRSTUVWXYZ0123456789_"), some (.fl WL), some (.str stem), some (.int r2), some (.fl [.str x]), some (.int 0), some (.str x), x9, x10] st3 := by
    unfold forLoop
    simp only [Src.get, List.getElem?_cons_zero, MG.put, List.set_cons_succ, List.set_cons_zero]
    unfold WL
    rw [g1]
    rfl
  unfold WL at hf
  refine ⟨x, st3, ?_, g2, g3⟩
  rw [show k + 2 = (k + 1) + 1 from rfl, evCall]
  simp [D, d6, evSs, evS, ev, evA, evCs, evSrc, h1, hs, k1, h2, hr, Src.many, hf, sizeLine_eq, ME.held, t.len, leaveT g3]
end K00

set_option maxHeartbeats 4000000
namespace K00
open PySem L2 U
def LT : Str := "abcdefghijklmnopqrstuvwxyzABCDEFGHIJKLMNOPQRSTUVWXYZ"
def WD : Str := "abcdefghijklmnopqrstuvwxyzABCDEFGHIJKLMNOPQRSTUVWXYZ_0123456789"
def DG : Str := "0123456789_"
def rsv (x : Str) : Bool := L2.inV (.str x) [.str "let", .str "if", .str "else", .str "while", .str "for", .str "break", .str "continue", .str "return", .str "try", .str "finally", .str "true", .str "false"]
theorem rsv_tup (x : Str) (st : Store) : cmpV .inn (.str x) (.tup WL) st = some (rsv x) := rfl
theorem rsv_fl (x : Str) (st : Store) : cmpV .inn (.str x) (.fl WL) st = some (rsv x) := rfl
theorem in_str (c : Nat) (z : Str) (st : Store) : cmpV .inn (.str ⟨#[c]⟩) (.str z) st = some (decide (c ∈ z.cps.toList)) := rfl
theorem nin_str (c : Nat) (z : Str) (st : Store) : cmpV .nin (.str ⟨#[c]⟩) (.str z) st = some (!decide (c ∈ z.cps.toList)) := rfl
def nameB (x : Str) : Bool := decide (x.length ≤ 30) && !rsv x && (match x.cps.toList with | [] => false | c :: _ => decide (c ∈ LT.cps.toList)) && x.cps.toList.all fun c => decide (c ∈ WD.cps.toList)
def chars (x : Str) : List PV := x.cps.toList.map fun c => .str ⟨#[c]⟩
theorem bools_map {α : Type} (f : α → Bool) : ∀ l : List α, bools (l.map fun x => .bl (f x)) = some (l.map f)
  | [] => rfl
  | x :: r => by
    show (bools (r.map fun x => .bl (f x))).map (f x :: ·) = _
    rw [bools_map f r]; rfl
/-- all(character in z for character in x) -/
theorem all_in {call : Nat → List PV → Store → Res PV} {z x : Str} {elt : ME} {env : En} {g : Nat} {st : Store} (hx : x.length ≤ 10000)
    (he : ∀ c, ev call elt .val (env.set g (some (.str ⟨#[c]⟩))) st = .ok (.bl (decide (c ∈ z.cps.toList))) st) :
    lcLoop (fun e s => .ok true s) (ev call elt .val) (MG.put (.nm g)) env (.items (chars x)) 0 (chars x).length [] st = .ok (.fl (x.cps.toList.map fun c => .bl (decide (c ∈ z.cps.toList)))) st := by
  have hl : (chars x).length = x.length := by rw [chars, List.length_map, TL.len_tl]
  rw [lcLoop_pure (fun _ => true) (fun v => match v with | .str s => .bl (match s.cps.toList with | [c] => decide (c ∈ z.cps.toList) | _ => false) | _ => .non) (by rw [hl, sizeLine_eq]; omega) (fun v hv => by
    obtain ⟨c, _, rfl⟩ := List.mem_map.mp hv
    exact ⟨_, rfl, rfl, fun _ => ⟨he c, rfl⟩⟩)]
  rw [List.filter_eq_self.mpr (fun _ _ => rfl)]
  unfold chars
  rw [List.map_map]
  rfl
theorem all_val (l : List Nat) (z : Str) (st : Store) : biV .all [.fl (l.map fun c => PV.bl (decide (c ∈ z.cps.toList)))] st = some (PV.bl (l.all fun c => decide (c ∈ z.cps.toList))) := by
  show (bools (l.map fun c => PV.bl (decide (c ∈ z.cps.toList)))).map (fun (bs : List Bool) => PV.bl (bs.all id)) = _
  rw [bools_map]
  simp [List.all_map]
theorem isname_ok {k : Nat} {x : Str} {st : Store} (hx : x.length ≤ 10000) : evCall TURNS D (k + 1) 1 [.str x] st = .ok (.bl (nameB x)) st := by
  have a := all_in (call := evCall TURNS D k) (z := WD) (elt := e1_0) (env := [some (.str x), none]) (g := 1) (st := st) hx (fun c => by
    simp [e1_0, ev, evA, evCs]
    rw [show cmpV .inn (.str ⟨#[c]⟩) (.str "abcdefghijklmnopqrstuvwxyzABCDEFGHIJKLMNOPQRSTUVWXYZ_0123456789") st = _ from in_str c WD st]
    simp)
  have hlen := len_ok (x := x) (st := st) (by omega)
  have hl := TL.len_tl x
  have ha := all_val x.cps.toList WD st
  have hc : (chars x).length = x.length := by rw [chars, List.length_map, TL.len_tl]
  have r1 := rsv_tup x st
  unfold WL at r1
  rw [evCall]
  by_cases h0 : x.length = 0
  · have e : x.cps.toList = [] := List.eq_nil_of_length_eq_zero (by show (TL.tl x).length = 0; omega)
    have : nameB x = false := by unfold nameB; rw [e]; simp
    rw [this]
    simp [D, d1, evSs, evS, ev, evA, evCs, hlen, h0, ME.held, leave_id]
  by_cases h30 : 30 < x.length
  · have : nameB x = false := by unfold nameB; simp; intro h; omega
    rw [this]
    have g1 : 1 ≤ x.length := by omega
    have g2 : ¬ x.length ≤ 30 := by omega
    simp [D, d1, evSs, evS, ev, evA, evCs, hlen, ME.held, leave_id, g1, g2, show (1 : Int) ≤ (x.length : Int) by omega, show ¬ (x.length : Int) ≤ 30 by omega]
  obtain ⟨c, r, e⟩ := List.exists_cons_of_ne_nil (l := x.cps.toList) (by intro e; rw [show x.length = x.cps.toList.length from hl, e] at h0; exact h0 rfl)
  have hi : ixV (.str x) (.int 0) st = some (.str ⟨#[c]⟩) := by
    rw [ix_str_ (by rw [sizeLine_eq]; omega), e, atI_0]
    rfl
  have i1 := in_str c LT st
  unfold LT at i1
  have hv : nameB x = (!rsv x && decide (c ∈ LT.cps.toList) && x.cps.toList.all fun c => decide (c ∈ WD.cps.toList)) := by
    unfold nameB
    rw [decide_eq_true (p := x.length ≤ 30) (by omega), Bool.true_and]
    conv => lhs; rw [e]
    rw [e]
  rw [hv]
  have i1 : cmpV .inn (.str ⟨#[c]⟩) (.str "abcdefghijklmnopqrstuvwxyzABCDEFGHIJKLMNOPQRSTUVWXYZ") st = some (decide (c ∈ LT.cps.toList)) := in_str c LT st
  generalize decide (c ∈ LT.cps.toList) = p at i1 ⊢
  generalize (x.cps.toList.all fun c => decide (c ∈ WD.cps.toList)) = q at ha ⊢
  generalize List.map (fun c => PV.bl (decide (c ∈ WD.cps.toList))) x.cps.toList = l at a ha
  have sv : srcV (.str x) st = some (.items (chars x)) := rfl
  have hw : U.wipe [some (.str x), none] [1] = [some (.str x), none] := rfl
  cases hr : rsv x with
  | true =>
    rw [hr] at r1
    simp [D, d1, evSs, evS, ev, evA, evCs, hlen, ME.held, leave_id, show (1 : Int) ≤ (x.length : Int) by omega, show (x.length : Int) ≤ 30 by omega, r1]
  | false =>
    rw [hr] at r1
    cases p <;> simp [D, d1, evSs, evS, ev, evA, evCs, hlen, ME.held, leave_id, show (1 : Int) ≤ (x.length : Int) by omega, show (x.length : Int) ≤ 30 by omega, r1, hi, i1, sv, Src.many, MG.slots, hw, a, ha]
theorem words_same (c : Nat) : decide (c ∈ WD.cps.toList) = decide (c ∈ (LT ++ DG).cps.toList) := by
  refine decide_eq_decide.mpr ⟨fun h => ?_, fun h => ?_⟩
  · exact (by decide +kernel : ∀ c ∈ WD.cps.toList, c ∈ (LT ++ DG).cps.toList) c h
  · exact (by decide +kernel : ∀ c ∈ (LT ++ DG).cps.toList, c ∈ WD.cps.toList) c h
theorem all_filter (l : List Nat) (p : Nat → Bool) : l.all p = decide ((l.filter fun c => !p c).length = 0) := by
  induction l with
  | nil => rfl
  | cons a r ih =>
    rw [List.all_cons, List.filter_cons, ih]
    cases p a <;> simp
theorem lawname_ok {k : Nat} {x : Str} {st : Store} (hx : x.length ≤ 10000) : evCall TURNS D (k + 1) 8 [.str x] st = .ok (.bl (nameB x)) st := by
  have hc : (chars x).length = x.length := by rw [chars, List.length_map, TL.len_tl]
  have ad : binV .add (.str LT) (.str DG) st = some (.str (LT ++ DG)) := add_ok (by decide +kernel) (by decide +kernel)
  have a := lcLoop_pure (test := fun e s => (ev (evCall TURNS D k) c8_0 .test e s).bind fun x s1 => opt (isBl x) s1) (elt := ev (evCall TURNS D k) e8_1 .val) (put := MG.put (.nm 3)) (env := [some (.str x), some (.str LT), some (.fl WL), none]) (xs := chars x) (st := st)
    (fun v => match v with | .str s => (match s.cps.toList with | [c] => !decide (c ∈ (LT ++ DG).cps.toList) | _ => false) | _ => false) (fun v => v) (by rw [hc, sizeLine_eq]; omega) (fun v hv => by
      obtain ⟨c, _, rfl⟩ := List.mem_map.mp hv
      have i := nin_str c (LT ++ DG) st
      unfold DG at ad i
      generalize hq : (!decide (c ∈ (LT ++ (Str.ofString "0123456789_" : Str)).cps.toList)) = q at i
      refine ⟨_, rfl, ?_, fun _ => ⟨?_, rfl⟩⟩
      · simp [c8_0, ev, evA, evCs, ad, i]
        rw [← hq]
        unfold DG
        simp
      · simp [e8_1, ev])
  have hf : ((chars x).filter (fun v => match v with | .str s => (match s.cps.toList with | [c] => !decide (c ∈ (LT ++ DG).cps.toList) | _ => false) | _ => false)).length = (x.cps.toList.filter fun c => !decide (c ∈ WD.cps.toList)).length := by
    unfold chars
    rw [List.filter_map, List.length_map]
    congr 2
    funext c
    show (!decide (c ∈ (LT ++ DG).cps.toList)) = _
    rw [words_same]
  have hall := all_filter x.cps.toList fun c => decide (c ∈ WD.cps.toList)
  generalize hF : List.map (fun v => v) ((chars x).filter _) = F at a
  rw [List.map_id'] at hF
  rw [hF] at hf
  rw [← hf] at hall
  have hlen := len_ok (x := x) (st := st) (by omega)
  have hl := TL.len_tl x
  have r1 := rsv_fl x st
  unfold WL at r1
  rw [evCall]
  cases hr : rsv x with
  | true =>
    rw [hr] at r1
    have : nameB x = false := by unfold nameB; simp [hr]
    rw [this]
    simp [D, d8, evSs, evS, ev, evA, evCs, ME.held, leave_id, r1, sizeLine_eq]
  | false =>
    rw [hr] at r1
    by_cases h0 : x.length = 0
    · have e : x.cps.toList = [] := List.eq_nil_of_length_eq_zero (by show (TL.tl x).length = 0; omega)
      have : nameB x = false := by unfold nameB; rw [e]; simp
      rw [this]
      simp [D, d8, evSs, evS, ev, evA, evCs, hlen, h0, ME.held, leave_id, r1, sizeLine_eq]
    by_cases h30 : 30 < x.length
    · have : nameB x = false := by unfold nameB; simp; intro h; omega
      rw [this]
      simp [D, d8, evSs, evS, ev, evA, evCs, hlen, h0, ME.held, leave_id, r1, sizeLine_eq, show (30 : Int) < (x.length : Int) by omega]
    obtain ⟨c, r, e⟩ := List.exists_cons_of_ne_nil (l := x.cps.toList) (by intro e; rw [show x.length = x.cps.toList.length from hl, e] at h0; exact h0 rfl)
    have hi : ixV (.str x) (.int 0) st = some (.str ⟨#[c]⟩) := by
      rw [ix_str_ (by rw [sizeLine_eq]; omega), e, atI_0]
      rfl
    have hv : nameB x = (decide (c ∈ LT.cps.toList) && x.cps.toList.all fun c => decide (c ∈ WD.cps.toList)) := by
      unfold nameB
      rw [decide_eq_true (p := x.length ≤ 30) (by omega), Bool.true_and, hr]
      conv => lhs; rw [e]
      rw [e]; rfl
    rw [hv, hall]
    have i1 := nin_str c LT st
    generalize decide (c ∈ LT.cps.toList) = p at i1 ⊢
    have sv : srcV (.str x) st = some (.items (chars x)) := rfl
    unfold LT WL at a
    unfold LT at i1
    have hw : U.wipe [some (.str x), some (.str "abcdefghijklmnopqrstuvwxyzABCDEFGHIJKLMNOPQRSTUVWXYZ"), some (.fl WL), none] [3] = [some (.str x), some (.str "abcdefghijklmnopqrstuvwxyzABCDEFGHIJKLMNOPQRSTUVWXYZ"), some (.fl WL), none] := rfl
    unfold WL at hw
    cases p <;> simp [D, d8, evSs, evS, ev, evA, evCs, hlen, h0, ME.held, leave_id, show ¬ (30 : Int) < (x.length : Int) by omega, r1, hi, i1, sv, Src.many, MG.slots, hw, a, sizeLine_eq]
end K00

set_option maxHeartbeats 4000000
namespace K00
open PySem L2 U
def DI : Str := "0123456789"
def numB (x : Str) : Bool := decide (1 ≤ x.length ∧ x.length ≤ 2) && (x.cps.toList.all fun c => decide (c ∈ DI.cps.toList)) && (decide (x.length = 1) || match x.cps.toList with | [] => false | c :: _ => decide (¬ (⟨#[c]⟩ : Str) = "0"))
theorem isnum_ok {k : Nat} {x : Str} {st : Store} (hx : x.length ≤ 10000) : evCall TURNS D (k + 1) 2 [.str x] st = .ok (.bl (numB x)) st := by
  have a := all_in (call := evCall TURNS D k) (z := DI) (elt := e2_0) (env := [some (.str x), none]) (g := 1) (st := st) hx (fun c => by
    simp [e2_0, ev, evA, evCs]
    rw [show cmpV .inn (.str ⟨#[c]⟩) (.str "0123456789") st = _ from in_str c DI st]
    simp)
  have hlen := len_ok (x := x) (st := st) (by omega)
  have hl := TL.len_tl x
  have ha := all_val x.cps.toList DI st
  have hc : (chars x).length = x.length := by rw [chars, List.length_map, TL.len_tl]
  rw [evCall]
  by_cases h0 : x.length = 0
  · have : numB x = false := by unfold numB; simp; intro h; omega
    rw [this]
    simp [D, d2, evSs, evS, ev, evA, evCs, hlen, h0, ME.held, leave_id]
  by_cases h30 : 2 < x.length
  · have : numB x = false := by unfold numB; simp; intro h; omega
    rw [this]
    simp [D, d2, evSs, evS, ev, evA, evCs, hlen, ME.held, leave_id, show (1 : Int) ≤ (x.length : Int) by omega, show ¬ (x.length : Int) ≤ 2 by omega]
  obtain ⟨c, r, e⟩ := List.exists_cons_of_ne_nil (l := x.cps.toList) (by intro e; rw [show x.length = x.cps.toList.length from hl, e] at h0; exact h0 rfl)
  have hi : ixV (.str x) (.int 0) st = some (.str ⟨#[c]⟩) := by
    rw [ix_str_ (by rw [sizeLine_eq]; omega), e, atI_0]
    rfl
  have hv : numB x = ((x.cps.toList.all fun c => decide (c ∈ DI.cps.toList)) && (decide (x.length = 1) || decide (¬ (⟨#[c]⟩ : Str) = "0"))) := by
    unfold numB
    rw [decide_eq_true (p := 1 ≤ x.length ∧ x.length ≤ 2) (by omega), Bool.true_and]
    conv => lhs; rw [e]
    rw [e]
  rw [hv]
  generalize (x.cps.toList.all fun c => decide (c ∈ DI.cps.toList)) = q at ha ⊢
  generalize List.map (fun c => PV.bl (decide (c ∈ DI.cps.toList))) x.cps.toList = l at a ha
  have sv : srcV (.str x) st = some (.items (chars x)) := rfl
  have hw : U.wipe [some (.str x), none] [1] = [some (.str x), none] := rfl
  have i2 : cmpV .ne (.str ⟨#[c]⟩) (.str "0") st = some (!decide ((⟨#[c]⟩ : Str) = "0")) := cmp_ne_str _ _ _
  have i3 : decide (¬ (⟨#[c]⟩ : Str) = "0") = !decide ((⟨#[c]⟩ : Str) = "0") := by simp
  rw [i3]
  generalize (!decide ((⟨#[c]⟩ : Str) = "0")) = p at i2 ⊢
  have g1 : (1 : Int) ≤ (x.length : Int) := by omega
  have g2 : (x.length : Int) ≤ 2 := by omega
  have g3 : cmpV .eq (.int x.length) (.int 1) st = some (decide (x.length = 1)) := by
    rw [cmp_eq_int]; congr 1; exact decide_eq_decide.mpr (by omega)
  generalize decide (x.length = 1) = o at g3 ⊢
  cases q with
  | false => simp [D, d2, evSs, evS, ev, evA, evCs, hlen, ME.held, leave_id, g1, g2, sv, Src.many, MG.slots, hw, a, ha, -cmp_eq_int]
  | true => cases o <;> simp [D, d2, evSs, evS, ev, evA, evCs, hlen, ME.held, leave_id, g1, g2, hi, i2, sv, Src.many, MG.slots, hw, a, ha, g3, -cmp_eq_int, -cmp_ne_str]
def NSt : List Str := (List.range 100).map fun (k : Nat) => Str.ofString (toString (k : Int))
theorem num_in (x : Str) : numB x = L2.inV (.str x) (NSt.map L2.V.str) := by
  apply Bool.eq_iff_iff.mpr
  constructor
  · intro h
    unfold numB at h
    simp only [Bool.and_eq_true, decide_eq_true_eq, List.all_eq_true] at h
    obtain ⟨⟨h1, h2⟩, h3⟩ := h
    have hl := TL.len_tl x
    have ex : x = ⟨(x.cps.toList).toArray⟩ := (TL.mk_tl x).symm
    rcases h : x.cps.toList with _ | ⟨a, _ | ⟨b, _ | ⟨c, r⟩⟩⟩
    · rw [show x.length = x.cps.toList.length from hl, h] at h1; simp at h1
    · rw [h] at ex h2
      rw [ex]
      exact (by decide +kernel : ∀ a ∈ DI.cps.toList, L2.inV (.str ⟨#[a]⟩) (NSt.map L2.V.str) = true) a (h2 a (by simp))
    · rw [h] at ex h2 h3
      rw [show x.length = x.cps.toList.length from hl, h] at h3
      rw [ex]
      have h4 : ¬ (⟨#[a]⟩ : Str) = "0" := by simpa using h3
      exact (by decide +kernel : ∀ a ∈ DI.cps.toList, ∀ b ∈ DI.cps.toList, ¬ (⟨#[a]⟩ : Str) = "0" → L2.inV (.str ⟨#[a, b]⟩) (NSt.map L2.V.str) = true) a (h2 a (by simp)) b (h2 b (by simp)) h4
    · rw [show x.length = x.cps.toList.length from hl, h] at h1; simp at h1
  · intro h
    have h' : ∃ y ∈ NSt, x = y := by
      unfold L2.inV at h
      rw [List.any_map, List.any_eq_true] at h
      obtain ⟨y, hy, e⟩ := h
      refine ⟨y, hy, ?_⟩
      exact (eq_of_beq (show (y == x) = true from e)).symm
    obtain ⟨y, hy, rfl⟩ := h'
    exact (by decide +kernel : ∀ y ∈ NSt, numB y = true) x hy
theorem spl_ne {S : List Nat} : ∀ (l : List Nat) (k : Nat) (acc : List Nat), TL.spl S k acc l ≠ []
  | [], k, acc => by rw [TL.spl_nil]; exact List.cons_ne_nil _ _
  | c :: r, 0, acc => by
    unfold TL.spl
    split
    · exact List.cons_ne_nil _ _
    · exact spl_ne r 0 _
  | c :: r, k + 1, acc => by
    unfold TL.spl
    exact spl_ne r k acc
def SP : Str := " "
theorem sp_tl : TL.tl SP = [32] := by decide +kernel
theorem part_hit {x : Str} {p q : List Nat} (h : TL.tl x = p ++ 32 :: q) (hp : 32 ∉ p) : Txt.partition x SP = (⟨p.toArray⟩, SP, ⟨q.toArray⟩) := by
  have e : TL.par [32] [] (p ++ ([32] ++ q)) = some (p, q) := by
    have := TL.par_part1 (s := 32) (S := []) (p := p) (rest := q) (acc := []) hp
    rwa [List.nil_append] at this
  rw [TL.partition_par x SP (by rw [sp_tl]; exact List.cons_ne_nil _ _), sp_tl, h]
  rw [show p ++ 32 :: q = p ++ ([32] ++ q) from rfl, e]
theorem part_miss {x : Str} (h : 32 ∉ TL.tl x) : Txt.partition x SP = (x, Str.empty, Str.empty) := by
  rw [TL.partition_par x SP (by rw [sp_tl]; exact List.cons_ne_nil _ _), sp_tl, TL.par_none1 h]
theorem sp_kind (x : Str) : ¬ Builtin.Str.strKind x < Builtin.Str.strKind SP := TL.kind_ok (by decide +kernel)
theorem split_miss {x : Str} (h : 32 ∉ TL.tl x) : Txt.split x SP = [x] := by
  refine TL.map_tl_inj ?_
  rw [TL.split_spl x SP (by rw [sp_tl]; exact List.cons_ne_nil _ _) (sp_kind x), sp_tl, TL.spl_last1 h, List.nil_append]
  rfl
theorem split_hit {x : Str} {p q : List Nat} (h : TL.tl x = p ++ 32 :: q) (hp : 32 ∉ p) (hq : 32 ∉ q) : Txt.split x SP = [⟨p.toArray⟩, ⟨q.toArray⟩] := by
  refine TL.map_tl_inj ?_
  rw [TL.split_spl x SP (by rw [sp_tl]; exact List.cons_ne_nil _ _) (sp_kind x), sp_tl, h, show p ++ 32 :: q = p ++ ([32] ++ q) from rfl, TL.spl_part1 (s := 32) (S := []) hp, TL.spl_last1 hq, List.nil_append, List.nil_append]
  rfl
theorem split_more {x : Str} {p q : List Nat} (h : TL.tl x = p ++ 32 :: q) (hp : 32 ∉ p) (hq : 32 ∈ q) : 3 ≤ (Txt.split x SP).length := by
  have e : (Txt.split x SP).length = ((Txt.split x SP).map TL.tl).length := by rw [List.length_map]
  obtain ⟨p2, q2, e2, hp2⟩ := List.eq_append_cons_of_mem hq
  rw [e, TL.split_spl x SP (by rw [sp_tl]; exact List.cons_ne_nil _ _) (sp_kind x), sp_tl, h, e2, show p ++ 32 :: (p2 ++ 32 :: q2) = p ++ ([32] ++ (p2 ++ ([32] ++ q2))) from rfl, TL.spl_part1 (s := 32) (S := []) hp, TL.spl_part1 (s := 32) (S := []) hp2]
  have := List.length_pos_iff.mpr (spl_ne (S := [32]) q2 0 [])
  rw [List.length_cons, List.length_cons]
  omega
theorem sp_len : SP.length = 1 := by decide +kernel
theorem mt_part {x : Str} {st : Store} (hx : x.length ≤ 10000) : mtV .partition (.str x) [.str SP] st = .ok (.tup [.str (Txt.partition x SP).1, .str (Txt.partition x SP).2.1, .str (Txt.partition x SP).2.2]) st := by
  show (if SP.length = 0 ∨ sizeLine < x.length then Res.bad else _) = _
  rw [if_neg (by rw [sp_len, sizeLine_eq]; omega)]
theorem mt_split {x : Str} {st : Store} (hx : x.length ≤ 10000) : mtV .split (.str x) [.str SP] st = .ok (.fl ((Txt.split x SP).map .str)) st := by
  show (if SP.length = 0 ∨ sizeLine < x.length + 2 then Res.bad else _) = _
  rw [if_neg (by rw [sp_len, sizeLine_eq]; omega)]
/-- what an outcome is -/
def wholes : List PV := [.str "end", .str "return", .str "hang"]
def jumps (x : Str) : Bool := decide (x = "break") || decide (x = "continue")
def outB (x : Str) : Bool := L2.inV (.str x) [.str "end", .str "return", .str "hang"] || (if (Txt.partition x SP).1 = "return" then numB (Txt.partition x SP).2.2 else jumps (Txt.partition x SP).1 && nameB (Txt.partition x SP).2.2)
theorem part_len {x : Str} (hx : x.length ≤ 10000) : (Txt.partition x SP).2.2.length ≤ 10000 := by
  by_cases h : 32 ∈ TL.tl x
  · obtain ⟨p, q, e, hp⟩ := List.eq_append_cons_of_mem h
    rw [part_hit e hp]
    have := TL.len_tl x
    rw [e, List.length_append, List.length_cons] at this
    show q.length ≤ 10000
    omega
  · rw [part_miss h]
    show Str.empty.length ≤ 10000
    decide +kernel
theorem beq_flip (a b : Str) : (a == b) = decide (b = a) := by
  rw [Bool.eq_iff_iff, beq_iff_eq, decide_eq_true_iff]
  exact eq_comm
theorem isout_ok {k : Nat} {x : Str} {st : Store} (hx : x.length ≤ 10000) : evCall TURNS D (k + 2) 3 [.str x] st = .ok (.bl (outB x)) st := by
  have hm := mt_part (st := st) hx
  have n1 := isname_ok (k := k) (st := st) (part_len hx)
  have n2 := isnum_ok (k := k) (st := st) (part_len hx)
  have i1 : cmpV .inn (.str x) (.tup [.str "end", .str "return", .str "hang"]) st = some (L2.inV (.str x) [.str "end", .str "return", .str "hang"]) := rfl
  have i3 : cmpV .inn (.str (Txt.partition x SP).1) (.tup [.str "break", .str "continue"]) st = some (jumps (Txt.partition x SP).1) := by
    show some (L2.inV (.str (Txt.partition x SP).1) [.str "break", .str "continue"]) = _
    congr 1
    show (("break" : Str) == (Txt.partition x SP).1 || (("continue" : Str) == (Txt.partition x SP).1 || false)) = _
    rw [Bool.or_false, beq_flip, beq_flip]
    rfl
  unfold outB
  generalize (Txt.partition x SP).1 = w at *
  generalize (Txt.partition x SP).2.1 = sep at *
  generalize (Txt.partition x SP).2.2 = rest at *
  generalize L2.inV (.str x) [.str "end", .str "return", .str "hang"] = b at *
  generalize numB rest = nb at *
  generalize nameB rest = mb at *
  generalize jumps w = jb at *
  rw [show k + 2 = (k + 1) + 1 from rfl, evCall]
  unfold SP at hm
  cases b with
  | true => simp [D, d3, evSs, evS, ev, evA, evCs, i1, ME.held, leave_id, sizeLine_eq]
  | false =>
    by_cases hw : w = "return"
    · subst hw
      simp [D, d3, evSs, evS, ev, evA, evCs, i1, ME.held, leave_id, sizeLine_eq, hm, setEach, n2]
    · cases jb <;> simp [D, d3, evSs, evS, ev, evA, evCs, i1, ME.held, leave_id, sizeLine_eq, hm, setEach, n1, i3, hw]
theorem flL_map {α : Type} (f : α → Str) : ∀ l : List α, flL (l.map fun x => .str (f x)) = some ((l.map f).map L2.V.str)
  | [] => rfl
  | x :: r => by
    show (match flV (.str (f x)), flL (r.map fun x => .str (f x)) with | some v, some vs => some (v :: vs) | _, _ => none) = _
    rw [flL_map f r]; rfl
def NL : List PV := (List.range 100).map fun (k : Nat) => .int k
theorem rng100 (st : Store) : rngV (.int 0) (.int 100) st = .ok (.items NL) st := by
  have h : rngV (.int 0) (.int 100) st = .ok (.items ((List.range ((100 : Int) - 0).toNat).map fun (k : Nat) => .int (0 + k))) st := by
    unfold rngV
    simp only []
    rw [if_pos (by decide)]
  rw [h]
  unfold NL
  simp only [Int.zero_add]
  rfl
def SL : List PV := NSt.map .str
theorem in_nums (q : Str) (st : Store) : cmpV .inn (.str q) (.fl SL) st = some (numB q) := by
  have e : flL SL = some (NSt.map L2.V.str) := by
    unfold SL
    rw [flL_map (fun x => x) NSt, List.map_id']
  have h : memF (.str q) SL = some (numB q) := by
    show (match flV (.str q), flL SL with | some x, some vs => some (L2.inV x vs) | _, _ => none) = _
    rw [e, num_in]; rfl
  show U.inV (.str q) (.fl SL) st = some (numB q)
  unfold U.inV
  simp only [seq_fl, h]
theorem nums_lc {call : Nat → List PV → Store → Res PV} {env : En} {st : Store} (he : env[2]? = some none) : lcLoop (fun e s => .ok true s) (ev call e9_0 .val) (MG.put (.nm 2)) env (.items NL) 0 NL.length [] st = .ok (.fl SL) st := by
  rw [lcLoop_pure (fun _ => true) (fun v => match v with | .int i => .str (Str.ofString (toString i)) | _ => .non) (by rw [show NL.length = 100 by unfold NL; simp, sizeLine_eq]; omega) (fun v hv => by
    obtain ⟨c, hc, rfl⟩ := List.mem_map.mp hv
    have hc : c < 100 := List.mem_range.mp hc
    have w := bi_str (i := (c : Int)) (st := st) (by omega)
    have h2 : ∀ v : Option PV, (env.set 2 v)[2]? = some v := fun v => by
      have hl : 2 < env.length := (List.getElem?_eq_some_iff.mp he).1
      simp [hl]
    refine ⟨_, rfl, rfl, fun _ => ⟨?_, rfl⟩⟩
    show ev call e9_0 .val (env.set 2 (some (.int c))) st = .ok (.str (Str.ofString (toString (c : Int)))) st
    generalize Str.ofString (toString (c : Int)) = z at w ⊢
    simp [e9_0, ev, evA, evCs, h2, w])]
  rw [List.filter_eq_self.mpr (fun _ _ => rfl)]
  unfold NL SL NSt
  rw [List.map_map, List.map_map]
  rfl
theorem lawout_ok {k : Nat} {x : Str} {st : Store} (hx : x.length ≤ 10000) : evCall TURNS D (k + 2) 9 [.str x] st = .ok (.bl (outB x)) st := by
  have hm := mt_split (st := st) hx
  have i1 : cmpV .inn (.str x) (.fl [.str "end", .str "return", .str "hang"]) st = some (L2.inV (.str x) [.str "end", .str "return", .str "hang"]) := rfl
  rw [show k + 2 = (k + 1) + 1 from rfl, evCall]
  unfold outB
  cases hb : L2.inV (.str x) [.str "end", .str "return", .str "hang"] with
  | true =>
    rw [hb] at i1
    simp [D, d9, evSs, evS, ev, evA, evCs, i1, ME.held, leave_id, sizeLine_eq]
  | false =>
  rw [hb] at i1
  by_cases h : 32 ∈ TL.tl x
  · obtain ⟨p, q, e, hp⟩ := List.eq_append_cons_of_mem h
    rw [part_hit e hp]
    by_cases hq : 32 ∈ q
    · have h3 := split_more e hp hq
      generalize Txt.split x SP = parts at hm h3
      unfold SP at hm
      have ne : ¬ ((List.map PV.str parts).length : Int) = 2 := by rw [List.length_map]; omega
      have r1 : nameB ⟨q.toArray⟩ = false := by
        unfold nameB
        rw [Bool.and_eq_false_iff]
        right
        rw [List.all_eq_false]
        exact ⟨32, hq, by decide +kernel⟩
      have r2 : numB ⟨q.toArray⟩ = false := by
        unfold numB
        rw [Bool.and_eq_false_iff]
        left
        rw [Bool.and_eq_false_iff]
        right
        rw [List.all_eq_false]
        exact ⟨32, hq, by decide +kernel⟩
      simp only [r1, r2]
      have ne : ¬ (parts.length : Int) = 2 := by omega
      simp [D, d9, evSs, evS, ev, evA, evCs, i1, ME.held, leave_id, sizeLine_eq, hm, ne]
    · have ql : q.length ≤ 10000 := by
        have := TL.len_tl x
        rw [e, List.length_append, List.length_cons] at this
        omega
      have n1 := lawname_ok (k := k) (x := ⟨q.toArray⟩) (st := st) ql
      have n2 := in_nums ⟨q.toArray⟩ st
      rw [split_hit e hp hq] at hm
      simp only []
      generalize (⟨p.toArray⟩ : Str) = P at *
      generalize (⟨q.toArray⟩ : Str) = R at *
      unfold SP at hm
      have lc := fun env => nums_lc (call := evCall TURNS D (k + 1)) (env := env) (st := st)
      have hn : NL.length = 100 := by unfold NL; simp
      rw [hn] at lc
      by_cases hP : P = "return"
      · subst hP
        have hw : (U.wipe [some (.str x), some (.fl [.str "return", .str R]), none] [2])[2]? = some none := rfl
        have l2 := lc _ hw
        simp [D, d9, evSs, evS, ev, evA, evCs, i1, ME.held, leave_id, sizeLine_eq, hm, rng100, Src.many, hn, MG.slots, l2, n2]
      · unfold jumps
        by_cases hB : P = "break"
        · subst hB
          simp [D, d9, evSs, evS, ev, evA, evCs, i1, ME.held, leave_id, sizeLine_eq, hm, n1, hP]
        · by_cases hC : P = "continue"
          · subst hC
            simp [D, d9, evSs, evS, ev, evA, evCs, i1, ME.held, leave_id, sizeLine_eq, hm, n1, hP, hB]
          · simp [D, d9, evSs, evS, ev, evA, evCs, i1, ME.held, leave_id, sizeLine_eq, hm, n1, hP, hB, hC]
  · rw [part_miss h]
    rw [split_miss h] at hm
    unfold SP at hm
    have r1 : nameB Str.empty = false := by decide +kernel
    have r2 : numB Str.empty = false := by decide +kernel
    simp only [r1, r2]
    simp [D, d9, evSs, evS, ev, evA, evCs, i1, ME.held, leave_id, sizeLine_eq, hm]
theorem law_turn {k : Nat} {ns : List Int} {st : Store} {s : Str} {a0 a4 : Option PV} {a3 : Option PV} (h : T ns st) (hs : s.length ≤ 60) :
    ∃ a4' st', evSs (evCall TURNS D (k + 3)) TURNS b0_0 [a0, some (.loc 1), some (.str s), a3, a4] st = .nx [a0, some (.loc 1), some (.str s), a3, a4'] st' ∧ T ns st' := by
  obtain ⟨x, st1, h1, t1, l1⟩ := string_ok (k := k) h hs
  have e1 := isname_ok (k := k + 2) (st := st1) l1
  have e2 := lawname_ok (k := k + 2) (st := st1) l1
  have e3 := isout_ok (k := k + 1) (st := st1) l1
  have e4 := lawout_ok (k := k + 1) (st := st1) l1
  refine ⟨some (.str x), st1, ?_, t1⟩
  simp [b0_0, evSs, evS, ev, evA, evCs, h1, e1, e2, e3, e4]
theorem main (ns : List Int) (h : ns.length ≤ 63) : ∃ st', evCall TURNS D DEEP 0 [.rol (ns.map .int)] [] = .ok (.bl true) st' := by
  obtain ⟨z, hz, g1⟩ := tape_ok (k := 4) (ns := ns)
  have t0 : T ns (TS ns 0 0 z) := ⟨0, 0, z, by decide, by decide, hz, rfl⟩
  obtain ⟨s, st1, g2, ls, t1⟩ := names_ok (k := 3) t0
  obtain ⟨r, st2, g3, t2, l2, u2⟩ := drawT (k := 4) (m := 4) t1 (by decide)
  have hr : rngV (.int 0) (.int (1 + r)) st2 = .ok (.items ((List.range (1 + r - 0).toNat).map fun (k : Nat) => .int (0 + k))) st2 := if_pos (by omega)
  rw [show 1 + r - 0 = 1 + r by omega] at hr
  simp only [Int.zero_add] at hr
  obtain ⟨e, st3, q1, a3, a4, q2, q3⟩ := forLoop_inv (put := MG.put (.nm 3)) (body := evSs (evCall TURNS D 5) TURNS b0_0) (xs := (List.range (1 + r).toNat).map fun (k : Nat) => .int k)
    (fun j env st => ∃ a3 a4, env = [some (.rol (ns.map .int)), some (.loc 1), some (.str s), a3, a4] ∧ T ns st) (fun j x env st hx ⟨a3, a4, e1, e2⟩ => by
      subst e1
      obtain ⟨a4', st', f1, f2⟩ := law_turn (k := 2) (a0 := some (.rol (ns.map .int))) (a3 := some x) (a4 := a4) e2 ls
      refine ⟨_, rfl, ?_⟩
      simp [f1]
      exact f2) (1 + r).toNat 0 [some (.rol (ns.map .int)), some (.loc 1), some (.str s), none, none] st2 (by simp) ⟨none, none, rfl, t2⟩
  have hd : DEEP = 5 + 1 := rfl
  rw [hd, evCall]
  unfold TS at g2
  simp [D, d0, evSs, evS, ev, evA, evCs, evSrc, g1, g2, g3, hr, Src.many, q1, ME.held, -List.map_map]
  unfold leave
  split
  · exact ⟨_, rfl⟩
  · split
    · exact ⟨_, rfl⟩
    · exact ⟨_, rfl⟩
end K00


open PySem PySem.W PyProof.Rows
set_option maxHeartbeats 0 in
theorem PySem.Challenge.cw_flowform_k00_names_and_outcomes_holds : PySem.Challenge.rw_flowform_k00_names_and_outcomes.Holds := by
  w_on; o_law; k_head; (case hw => w_witness2)
  k_fill
  refine L2.walk_of (l := PySem.Challenge.rw_flowform_k00_names_and_outcomes) (n := 63) (k := K00.DEEP) (x := "script") (CX := fun _ => L2.CX0) (sp := fun w => U.spEv _ (U.evCall K00.TURNS K00.D K00.DEEP 0)) rfl (by decide) rfl ⟨rfl, by decide, by decide⟩ (fun w h Y => PySem.W.kIn_of Y) ?F (fun _ _ a ns hl ho hS => U.law_sp (K00.main ns hl) ho hS) (fun _ _ _ _ _ h => h)
  case F =>
    intro w mg fa h KX G hmg
    refine' K00.all_mk KX G hmg ?a1 ?l1 ?c1 ?k1 ?a2 ?l2 ?c2 ?k2 ?a3 ?l3 ?c3 ?k3 ?a4 ?l4 ?c4 ?k4 ?a5 ?l5 ?c5 ?k5 ?a6 ?l6 ?c6 ?k6 ?a7 ?l7 ?c7 ?k7 ?a8 ?l8 ?c8 ?k8 ?a9 ?l9 ?c9 ?k9 ?a10 ?l10 ?c10 ?k10 ?a0 ?l0 ?c0 ?k0 ?q0 ?q1 ?q2 ?q3 ?q4 ?r4 ?z4 ?v4 ?b0 ?b1 ?b2 ?b3 ?b4 ?b5 ?b6 ?b7 ?b8
    (case a1 => k_is); (case l1 => k_is); (case c1 => k_is); (case k1 => k_is); (case a2 => k_is); (case l2 => k_is); (case c2 => k_is); (case k2 => k_is); (case a3 => k_is); (case l3 => k_is); (case c3 => k_is); (case k3 => k_is); (case a4 => k_is); (case l4 => k_is); (case c4 => k_is); (case k4 => k_is); (case a5 => k_is); (case l5 => k_is); (case c5 => k_is); (case k5 => k_is); (case a6 => k_is); (case l6 => k_is); (case c6 => k_is); (case k6 => k_is); (case a7 => k_is); (case l7 => k_is); (case c7 => k_is); (case k7 => k_is); (case a8 => k_is); (case l8 => k_is); (case c8 => k_is); (case k8 => k_is); (case a9 => k_is); (case l9 => k_is); (case c9 => k_is); (case k9 => k_is); (case a10 => k_is); (case l10 => k_is); (case c10 => k_is); (case k10 => k_is); (case a0 => k_is); (case l0 => k_is); (case c0 => k_is); (case k0 => k_is); (case q0 => k_is); (case q1 => k_is); (case q2 => k_is); (case q3 => k_is); (case q4 => k_is); (case r4 => k_is); (case b0 => k_is); (case b1 => k_is); (case b2 => k_is); (case b3 => k_is); (case b4 => k_is); (case b5 => k_is); (case b6 => k_is); (case b7 => k_is); (case b8 => k_is)
    (case z4 => decide); (case v4 => repeat (first | exact Paired.nil | refine Paired.cons ⟨_, rfl⟩ ?_))

