import PyProof.Rows.All
import Wide.All
import OpenK.AllK
import Wide.FinOn
import HandS.ForMost
import HandS.ForExc
import HandS.IsInst
import PySem.PyData
import PyProof.P3Statements
import PyProof.EqLayable
import HandS.RevRange
import HandS.Rev
import HandS.TupAny
import HandS.ExcIs
import HandS.HotCalls
import HandS.AnyAll
import HandS.FStr
import HandS.RaiseMore
import HandS.TryOnly
import HandS.TryMany
import HandS.SortKw
import PyProof.WalkInts
import KE.GoesEnumKw
import HandS.Flow
import HandS.GenList
import PyProof.Rows.MatchSeqLen
import KE.KUnpack
import HandS.WordsExc
import HandS.EndTab
import PyProof.P3Eq
import PyProof.TableCode
import PySem.Challenge.RW_bitpack_k03_good_shapes
/-! A small language of pure data, its evaluator. -/
namespace Q
open PySem

abbrev D := PyData
inductive Rs (α : Type) where
  | ok (a : α) | exc (k : Nat) | bad
@[simp] def Rs.bind {α β : Type} : Rs α → (α → Rs β) → Rs β
  | .ok a, f => f a
  | .exc k, _ => .exc k
  | .bad, _ => .bad
inductive BOp where
  | add | sub | mul | fdiv | mod | pow | shl | shr | band
  deriving DecidableEq
inductive COp where
  | lt | le | gt | ge | eq | ne | inn | nin
  deriving DecidableEq
inductive Ty where
  | int | bool | str | tup | lst
  deriving DecidableEq
inductive Blt where
  | len | list | abs | min2 | max2 | int1 | sum | minl | maxl | tuple | all | str1
  deriving DecidableEq
/-- a slot: data; a list of one's own, that grows; a caught error -/
inductive Sl where
  | fr (d : D) | ow (ds : List D) | er (k : Nat)
abbrev Env := List (Option Sl)

mutual
inductive Ex where
  | var (i : Nat)
  | cI (i : Int) | cS (s : Str) | cB (b : Bool) | cN
  | bin (o : BOp) (a b : Ex) | neg (a : Ex)
  | cmp (o : COp) (a b : Ex) | chn (o p : COp) (a b c : Ex)
  | isN (a : Ex) | notN (a : Ex)
  | conj (a : Ex) (as : Exs) | disj (a : Ex) (as : Exs) | nt (a : Ex)
  | ite (c a b : Ex)
  | ix (a b : Ex) | slc (a lo hi : Ex)
  | call (f : Nat) (a : Ex) (as : Exs)
  | blt (b : Blt) (a : Ex) (as : Exs)
  | tup (as : Exs) | lst (as : Exs)
  | isi (a : Ex) (t : Ty)
  | ntL (i : Nat) | clsE (i : Nat) (tb : List (Nat × List Str))
  | allG (i : Nat) (e a : Ex)
  | comp (i : Nat) (e : Ex) (it : Itr) | comp2 (i j : Nat) (e : Ex) (it : Itr)
  | lrev (a : Ex)
  | lenO (i : Nat)
  | fmt (a : Ex) | fstr (as : Exs)
  | mxD (mn : Bool) (a d : Ex) | isB (ng b : Bool) (a : Ex)
  | gI (i : Int) | ixO (i : Nat) (b : Ex)
  | isE (i : Nat) (tb : List (Nat × Bool)) | isT (i : Nat) (tbs : List (List (Nat × Bool)))
inductive Exs where
  | nil | cons (e : Ex) (es : Exs)
/-- what is walked -/
inductive Itr where
  | lst (a : Ex) | tup (a : Ex) | rng (a : Ex) | rng2 (a b : Ex) | rrng (a : Ex) | rev (a : Ex) | zip (a b : Ex) | enm (a : Ex) | enS (a b : Ex)
end

def isCN : Ex → Bool
  | .cN => true | _ => false
def szl : Nat := 16777216
def binD : BOp → D → D → Rs D
  | .add, .int i, .int j => .ok (.int (i + j))
  | .add, .list xs, .list ys => if xs.length + ys.length ≤ szl then .ok (.list (xs ++ ys)) else .bad
  | .sub, .int i, .int j => .ok (.int (i - j))
  | .mul, .int i, .int j => if (-(2 ^ 64) < i ∧ i < 2 ^ 64) ∨ (-(2 ^ 64) < j ∧ j < 2 ^ 64) then .ok (.int (i * j)) else .bad
  | .mul, .list xs, .int k => if -(2 ^ 63) ≤ k ∧ k < 2 ^ 63 ∧ xs.length * k.toNat ≤ szl then .ok (.list (List.replicate k.toNat xs).flatten) else .bad
  | .fdiv, .int i, .int j => if j ≠ 0 ∧ j.natAbs < 1073741824 then .ok (.int (i.fdiv j)) else .bad
  | .mod, .int i, .int j => if j ≠ 0 then .ok (.int (i.fmod j)) else .bad
  | .pow, .int i, .int j => if 0 ≤ j ∧ j ≤ 1000000 ∧ i.natAbs < 2 ^ 64 then .ok (.int (i ^ j.toNat)) else .bad
  | .shl, .int i, .int j => if 0 ≤ j ∧ j ≤ 1000000 ∧ i.natAbs < 2 ^ 64 then .ok (.int (i * 2 ^ j.toNat)) else .bad
  | .shr, .int i, .int j => if 0 ≤ j then .ok (.int (i / 2 ^ j.toNat)) else .bad
  | .band, .int i, .int j => if j = 1 then .ok (.int (i % 2)) else .bad
  | _, _, _ => .bad
def negD : D → Rs D
  | .int i => .ok (.int (-i))
  | _ => .bad
def isNo : D → Bool
  | .none => true | _ => false
def flatD : D → Bool
  | .none => true | .bool _ => true | .int _ => true | .str _ => true | _ => false
def scalD : D → D → Bool
  | .none, .none => true | .none, .int _ => true | .int _, .none => true | .none, .bool _ => true | .bool _, .none => true | .none, .str _ => true | .str _, .none => true
  | .int _, .int _ => true | .bool _, .bool _ => true | .str _, .str _ => true
  | .int _, .str _ => true | .str _, .int _ => true | .bool _, .str _ => true | .str _, .bool _ => true
  | _, _ => false
def eqS : D → D → Bool
  | .none, .none => true
  | .int i, .int j => decide (i = j)
  | .bool i, .bool j => decide (i = j)
  | .str i, .str j => decide (i = j)
  | _, _ => false
/-- == of two things; g: how deep things are compared -/
def eqR (shp : D → Bool) (x y : D) : Rs Bool :=
  if scalD x y = true then .ok (eqS x y) else if shp x = true ∧ shp y = true then .ok (PyData.eqv x y) else .bad
def inR (x : D) : D → Rs Bool
  | .list ys => if flatD x = true ∧ ys.all flatD = true then .ok (ys.any fun y => PyData.eqv y x) else .bad
  | .tuple ys => if flatD x = true ∧ ys.all flatD = true then .ok (ys.any fun y => PyData.eqv y x) else .bad
  | _ => .bad
def cmpR (shp : D → Bool) : COp → D → D → Rs Bool
  | .lt, .int i, .int j => .ok (decide (i < j))
  | .le, .int i, .int j => .ok (decide (i ≤ j))
  | .gt, .int i, .int j => .ok (decide (j < i))
  | .ge, .int i, .int j => .ok (decide (j ≤ i))
  | .eq, x, y => eqR shp x y
  | .ne, x, y => (eqR shp x y).bind fun b => .ok (!b)
  | .inn, x, y => inR x y
  | .nin, x, y => (inR x y).bind fun b => .ok (!b)
  | _, _, _ => .bad
def ixD (i : Int) (xs : List D) : Rs D :=
  if 0 ≤ i then (match xs[i.toNat]? with | some x => .ok x | none => .bad)
  else if -(xs.length : Int) ≤ i then (match xs[(i + xs.length).toNat]? with | some x => .ok x | none => .bad) else .bad
def ixR : D → D → Rs D
  | .list xs, .int i => ixD i xs
  | .tuple xs, .int i => ixD i xs
  | _, _ => .bad
/-- a slice's end: none is the default d -/
def sIx (n d : Nat) : Option Int → Nat
  | none => d
  | some v => if v < 0 then (v + (n : Int)).toNat else min v.toNat n
def cut {α : Type} (xs : List α) (lo hi : Option Int) : List α := (xs.drop (sIx xs.length 0 lo)).take (sIx xs.length xs.length hi - sIx xs.length 0 lo)
def intR : D → Rs (Option Int)
  | .int i => .ok (some i)
  | _ => .bad
def slcR (d : D) (l h : Option Int) : Rs D := match d with
  | .list xs => .ok (.list (cut xs l h))
  | .tuple xs => .ok (.tuple (cut xs l h))
  | _ => .bad
def isiD : D → Ty → Bool
  | .int _, .int => true
  | .bool _, .int => true
  | .bool _, .bool => true
  | .str _, .str => true
  | .tuple _, .tup => true
  | .list _, .lst => true
  | _, _ => false
def intsOf : List D → Option (List Int)
  | [] => some []
  | .int i :: r => (intsOf r).map (i :: ·)
  | _ => none
def boolsOf : List D → Option (List Bool)
  | [] => some []
  | .bool b :: r => (boolsOf r).map (b :: ·)
  | _ => none
def lstMin : Int → List Int → Int
  | m, [] => m
  | m, x :: r => lstMin (if x < m then x else m) r
def lstMax : Int → List Int → Int
  | m, [] => m
  | m, x :: r => lstMax (if m < x then x else m) r
def bltR : Blt → List D → Rs D
  | .len, [.list xs] => .ok (.int xs.length)
  | .len, [.tuple xs] => .ok (.int xs.length)
  | .list, [.list xs] => .ok (.list xs)
  | .list, [.tuple xs] => .ok (.list xs)
  | .tuple, [.list xs] => .ok (.tuple xs)
  | .abs, [.int i] => .ok (.int (if i < 0 then -i else i))
  | .min2, [.int i, .int j] => .ok (.int (if j < i then j else i))
  | .max2, [.int i, .int j] => .ok (.int (if j > i then j else i))
  | .int1, [.int i] => .ok (.int i)
  | .int1, [.bool b] => .ok (.int (if b then 1 else 0))
  | .sum, [.list xs] => (match intsOf xs with | some ns => .ok (.int ns.sum) | none => .bad)
  | .minl, [.list xs] => (match intsOf xs with | some (n :: ns) => .ok (.int (lstMin n ns)) | _ => .bad)
  | .maxl, [.list xs] => (match intsOf xs with | some (n :: ns) => .ok (.int (lstMax n ns)) | _ => .bad)
  | .all, [.list xs] => (match boolsOf xs with | some bs => .ok (.bool (bs.all id)) | none => .bad)
  | .str1, [.int i] => if i.natAbs.log2 < 1920 then .ok (.str (Str.ofString (toString i))) else .bad
  | _, _ => .bad
def isBd (b : Bool) : D → Bool
  | .bool c => c == b
  | _ => false
def mxR (mn : Bool) : D → D → Rs D
  | .list xs, d => (match intsOf xs with
    | some [] => .ok d
    | some (n :: ns) => .ok (.int (if mn = true then lstMin n ns else lstMax n ns))
    | none => .bad)
  | _, _ => .bad
def fmtR : D → Rs D
  | .str y => if y.length ≤ szl then .ok (.str y) else .bad
  | .int i => if i.natAbs.log2 < 1920 then .ok (.str (Str.ofString (toString i))) else .bad
  | _ => .bad
def seqOf : D → Option (List D)
  | .list xs => some xs
  | .tuple xs => some xs
  | _ => none
def pairR (f : D → D → Rs D) : D → Rs D
  | .tuple [x, y] => f x y
  | _ => .bad
/-- not, of what may be empty -/
def truN : D → Rs D
  | .list xs => .ok (.bool xs.isEmpty)
  | .tuple xs => .ok (.bool xs.isEmpty)
  | .bool b => .ok (.bool (!b))
  | _ => .bad
def mapR (f : D → Rs D) : List D → Rs (List D)
  | [] => .ok []
  | x :: xs => (f x).bind fun y => (mapR f xs).bind fun ys => .ok (y :: ys)
/-- all of a generator expression: up to the first no -/
def allR (f : D → Rs D) : List D → Rs D
  | [] => .ok (.bool true)
  | x :: xs => match f x with
    | .ok (.bool true) => allR f xs
    | .ok (.bool false) => .ok (.bool false)
    | _ => .bad
def Sl.toD : Sl → Rs D
  | .fr d => .ok d
  | .ow ds => .ok (.list ds)
  | .er _ => .bad
def Rs.cold {α : Type} : Rs α → Rs α
  | .ok a => .ok a
  | _ => .bad
def lstR : D → Rs (List D)
  | .list xs => .ok xs
  | _ => .bad
def tupR : D → Rs (List D)
  | .tuple xs => .ok xs
  | _ => .bad
def numR : D → Rs Int
  | .int i => if -(2 ^ 62) ≤ i ∧ i < 2 ^ 62 then .ok i else .bad
  | _ => .bad
def zipD : List D → List D → List D
  | x :: xs, y :: ys => .tuple [x, y] :: zipD xs ys
  | _, _ => []
def enumD : Int → List D → List D
  | _, [] => []
  | i, x :: xs => .tuple [.int i, x] :: enumD (i + 1) xs
def rangeD (lo : Int) (n : Nat) : List D := (List.range n).map fun (k : Nat) => PyData.int (lo + (k : Int))
def revD (n : Nat) : List D := (List.range n).map fun (k : Nat) => PyData.int ((n : Int) - 1 - (k : Int))

/-- own functions' answers -/
abbrev Fns := Nat → List D → Rs Sl

section
variable (shp : D → Bool) (Φ : Fns)
def varR (env : Env) (i : Nat) : Rs D := match env[i]? with
  | some (some (.fr d)) => .ok d
  | _ => .bad
def lenO (env : Env) (i : Nat) : Rs D := match env[i]? with
  | some (some (.ow ds)) => .ok (.int ds.length)
  | _ => .bad
def erR (env : Env) (i : Nat) : Rs Nat := match env[i]? with
  | some (some (.er k)) => .ok k
  | _ => .bad
def isK (k : Nat) (tb : List (Nat × Bool)) : Rs D := match tb.lookup k with
  | some b => .ok (.bool b)
  | none => .bad
def isA (k : Nat) : List (List (Nat × Bool)) → Rs D
  | [] => .ok (.bool false)
  | tb :: r => match tb.lookup k with
    | some true => .ok (.bool true)
    | some false => isA k r
    | none => .bad
/-- what a def tells of a caught error, by its class -/
def clsR (k : Nat) (tb : List (Nat × List Str)) : Rs D := match tb.lookup k with
  | some ss => .ok (.list (ss.map .str))
  | none => .bad
mutual
def ev : Ex → Env → Rs D
  | .var i, env => varR env i
  | .cI i, _ => .ok (.int i)
  | .cS s, _ => .ok (.str s)
  | .cB b, _ => .ok (.bool b)
  | .cN, _ => .ok .none
  | .bin o a b, env => (ev a env).bind fun x => (ev b env).bind fun y => binD o x y
  | .neg a, env => (ev a env).bind negD
  | .cmp o a b, env => (ev a env).bind fun x => (ev b env).bind fun y => (cmpR shp o x y).bind fun r => .ok (.bool r)
  | .chn o p a b c, env => (ev a env).bind fun x => (ev b env).bind fun y => (cmpR shp o x y).bind fun r =>
      if r = true then (ev c env).bind fun z => (cmpR shp p y z).bind fun r => .ok (.bool r) else .ok (.bool false)
  | .isN a, env => (ev a env).bind fun x => .ok (.bool (isNo x))
  | .notN a, env => (ev a env).bind fun x => .ok (.bool (!isNo x))
  | .conj a as, env => (ev a env).bind fun x => (match x with
      | .bool true => evC as env
      | .bool false => .ok (.bool false)
      | _ => .bad)
  | .disj a as, env => (ev a env).bind fun x => (match x with
      | .bool false => evJ as env
      | .bool true => .ok (.bool true)
      | _ => .bad)
  | .nt a, env => (ev a env).bind fun x => (match x with
      | .bool b => .ok (.bool (!b))
      | _ => .bad)
  | .clsE i tb, env => (erR env i).bind fun k => clsR k tb
  | .ntL i, env => (varR env i).bind truN
  | .ite c a b, env => (ev c env).bind fun x => (match x with
      | .bool true => ev a env
      | .bool false => ev b env
      | _ => .bad)
  | .ix a b, env => (ev a env).bind fun x => (ev b env).bind fun y => ixR x y
  | .slc a lo hi, env => (ev a env).bind fun x => (if isCN lo = true then .ok none else (ev lo env).bind intR).bind fun l => (if isCN hi = true then .ok none else (ev hi env).bind intR).bind fun h => slcR x l h
  | .call f a as, env => (ev a env).bind fun x => (evs as env).bind fun xs => (Φ f (x :: xs)).bind Sl.toD
  | .blt b a as, env => (ev a env).bind fun x => (evs as env).bind fun xs => bltR b (x :: xs)
  | .tup as, env => (evs as env).bind fun xs => if xs.length ≤ szl then .ok (.tuple xs) else .bad
  | .lst as, env => (evs as env).bind fun xs => if xs.length ≤ szl then .ok (.list xs) else .bad
  | .isi a t, env => (ev a env).bind fun x => .ok (.bool (isiD x t))
  | .allG i e a, env => ((ev a env).bind lstR).bind fun ds => allR (fun d => ev e (env.set i (some (.fr d)))) ds
  | .comp i e it, env => (evI it env).bind fun ds => if ds.length ≤ szl then (mapR (fun d => (ev e (env.set i (some (.fr d)))).cold) ds).bind fun ys => .ok (.list ys) else .bad
  | .comp2 i j e it, env => (evI it env).bind fun ds => if ds.length ≤ szl then (mapR (pairR fun x y => (ev e ((env.set i (some (.fr x))).set j (some (.fr y)))).cold) ds).bind fun ys => .ok (.list ys) else .bad
  | .lrev a, env => (ev a env).bind fun d => (match d with
      | .list ds => .ok (.list ds.reverse)
      | _ => .bad)
  | .lenO i, env => lenO env i
  | .fmt a, env => (ev a env).bind fmtR
  | .fstr as, env => (evF as Str.empty env).bind fun x => .ok (.str x)
  | .isB ng b a, env => (ev a env).bind fun x => .ok (.bool (ng ^^ isBd b x))
  | .mxD mn a d, env => (ev a env).bind fun x => (ev d env).bind fun y => mxR mn x y
  | .gI i, _ => .ok (.int i)
  | .ixO i b, env => (match env[i]? with
      | some (some (.ow ds)) => (ev b env).bind fun y => ixR (.list ds) y
      | _ => .bad)
  | .isE i tb, env => (erR env i).bind fun k => isK k tb
  | .isT i tbs, env => (erR env i).bind fun k => isA k tbs
def evF : Exs → Str → Env → Rs Str
  | .nil, acc, _ => .ok acc
  | .cons e es, acc, env => (ev e env).bind fun x => (match x with
      | .str y => if (acc ++ y).length ≤ szl then evF es (acc ++ y) env else .bad
      | _ => .bad)
def evs : Exs → Env → Rs (List D)
  | .nil, _ => .ok []
  | .cons e es, env => (ev e env).bind fun x => (evs es env).bind fun xs => .ok (x :: xs)
def evI : Itr → Env → Rs (List D)
  | .lst a, env => (ev a env).bind lstR
  | .tup a, env => (ev a env).bind tupR
  | .rng a, env => (ev a env).bind fun x => (numR x).bind fun n => .ok (rangeD 0 n.toNat)
  | .rng2 a b, env => (ev a env).bind fun x => (ev b env).bind fun y => (numR x).bind fun n => (numR y).bind fun m => .ok (rangeD n (m - n).toNat)
  | .rrng a, env => (ev a env).bind fun x => (numR x).bind fun n => .ok (revD n.toNat)
  | .rev a, env => (ev a env).bind fun x => (lstR x).bind fun xs => .ok xs.reverse
  | .zip a b, env => (ev a env).bind fun x => (ev b env).bind fun y => (lstR x).bind fun xs => (lstR y).bind fun ys => .ok (zipD xs ys)
  | .enm a, env => (ev a env).bind fun x => (lstR x).bind fun xs => .ok (enumD 0 xs)
  | .enS a b, env => (ev a env).bind fun x => (ev b env).bind fun y => (lstR x).bind fun xs => (numR y).bind fun n => .ok (enumD n xs)
def evC : Exs → Env → Rs D
  | .nil, _ => .bad
  | .cons e .nil, env => ev e env
  | .cons e (.cons e2 es), env => (ev e env).bind fun x => (match x with
      | .bool true => evC (.cons e2 es) env
      | .bool false => .ok (.bool false)
      | _ => .bad)
def evJ : Exs → Env → Rs D
  | .nil, _ => .bad
  | .cons e .nil, env => ev e env
  | .cons e (.cons e2 es), env => (ev e env).bind fun x => (match x with
      | .bool false => evJ (.cons e2 es) env
      | .bool true => .ok (.bool true)
      | _ => .bad)
end
end
/-! ### patterns -/
inductive P1 where
  | s (x : Str) | v (i : Nat) | w
inductive Pt where
  | seq (ps : List P1) | one (p : P1)
/-- none: it does not match; else what it binds -/
def p1R (shp : D → Bool) : P1 → D → Rs (Option (List (Nat × D)))
  | .s x, d => (eqR shp d (.str x)).bind fun b => .ok (if b = true then some [] else none)
  | .v i, d => .ok (some [(i, d)])
  | .w, _ => .ok (some [])
def psR (shp : D → Bool) : List P1 → List D → Rs (Option (List (Nat × D)))
  | [], [] => .ok (some [])
  | p :: ps, d :: ds => (p1R shp p d).bind fun r => (match r with
    | none => .ok none
    | some bs => (psR shp ps ds).bind fun q => .ok (match q with
      | none => none
      | some more => some (bs ++ more)))
  | _, _ => .bad
def ptR (shp : D → Bool) : Pt → D → Rs (Option (List (Nat × D)))
  | .one p, d => p1R shp p d
  | .seq ps, .list xs => if xs.length = ps.length then psR shp ps xs else .ok none
  | .seq ps, .tuple xs => if xs.length = ps.length then psR shp ps xs else .ok none
  | .seq _, d => if flatD d = true then .ok none else .bad
def bindE : List (Nat × D) → Env → Env
  | [], env => env
  | (i, d) :: r, env => bindE r (env.set i (some (.fr d)))
/-! ### statements -/
mutual
inductive St where
  | set (i : Nat) (e : Ex) | setC (i : Nat) (e : Ex) | own (i : Nat) (e : Ex) | frz (i : Nat) | app (i : Nat) (e : Ex) | ext (i : Nat) (e : Ex) | put (i : Nat) (j e : Ex)
  | ret (e : Ex) | retO (i : Nat) | exp (e : Ex) | doc | pas | brk | cnt
  | ifs (c : Ex) (a b : Sts)
  | forI (i : Nat) (it : Itr) (b : Sts) | for2 (i j : Nat) (it : Itr) (b : Sts)
  | whl (c : Ex) (b : Sts)
  | rse (k : Nat) (e : Ex)
  | tryO (b : Sts) (k : Nat) (h : Sts)
  | tryA (b : Sts) (k i : Nat) (h : Sts)
  | mat (e : Ex) (cs : Mcs)
  | tryM (b : Sts) (hs : Hds)
  | ownC (i f : Nat) (a : Ex) (as : Exs)
  | aug (ng : Bool) (i : Nat) (e : Ex) | unp (is : List Nat) (e : Ex)
inductive Sts where
  | nil | cons (s : St) (ss : Sts)
inductive Mcs where
  | nil | cons (p : Pt) (b : Sts) (r : Mcs)
inductive Hds where
  | nil | cons (k : Nat) (o : Option Nat) (h : Sts) (r : Hds)
end
inductive Fl where
  | nx (env : Env) | rt (s : Sl) | bk (env : Env) | ct (env : Env) | xc (k : Nat) (env : Env) | bad
@[simp] def Fl.seq : Fl → (Env → Fl) → Fl
  | .nx env, f => f env
  | .rt s, _ => .rt s
  | .bk e, _ => .bk e
  | .ct e, _ => .ct e
  | .xc k e, _ => .xc k e
  | .bad, _ => .bad
@[simp] def exR {α : Type} (r : Rs α) (env : Env) (f : α → Fl) : Fl := match r with
  | .ok d => f d
  | .exc k => .xc k env
  | .bad => .bad
def floop (f : D → Env → Fl) : List D → Env → Fl
  | [], env => .nx env
  | d :: ds, env => match f d env with
    | .nx e => floop f ds e
    | .ct e => floop f ds e
    | .bk e => .nx e
    | .rt s => .rt s
    | .xc k e => .xc k e
    | .bad => .bad
def wloop (c : Env → Rs D) (b : Env → Fl) : Nat → Env → Fl
  | 0, _ => .bad
  | n + 1, env => match c env with
    | .ok (.bool true) => (match b env with
      | .nx e => wloop c b n e
      | .ct e => wloop c b n e
      | .bk e => .nx e
      | .rt s => .rt s
      | .xc k e => .xc k e
      | .bad => .bad)
    | .ok (.bool false) => .nx env
    | .exc k => .xc k env
    | _ => .bad
/-- the place of xs[k] = .. -/
def plcR (n : Nat) : D → Rs Nat
  | .int i => if 0 ≤ i then (if i < n then .ok i.toNat else .bad) else if -(n : Int) ≤ i then .ok (i + n).toNat else .bad
  | _ => .bad
/-- how a thing of that error's class is caught -/
def catch1 (sub : Nat → Nat → Bool) (r : Fl) (k : Nat) (h : Nat → Env → Fl) : Fl := match r with
  | .xc j env => if sub j k = true then h j env else .xc j env
  | r => r
/-- no slot holds a caught error -/
def noEr (e : Env) : Bool := e.all fun | some (.er _) => false | _ => true
/-- behind a clause with a name: the name is gone -/
def sfin (f : Env → Env) : Fl → Fl
  | .nx e => if noEr (f e) = true then .nx (f e) else .bad
  | .bk e => if noEr (f e) = true then .bk (f e) else .bad
  | .ct e => if noEr (f e) = true then .ct (f e) else .bad
  | .xc _ _ => .bad
  | r => r
section
variable (shp : D → Bool) (sub : Nat → Nat → Bool) (Φ : Fns) (L : Nat)
mutual
def xs1 : St → Env → Fl
  | .set i e, env => exR (ev shp Φ e env) env fun d => .nx (env.set i (some (.fr d)))
  | .setC i e, env => exR (ev shp Φ e env) env fun d => .nx (env.set i (some (.fr d)))
  | .own i e, env => exR (ev shp Φ e env) env fun d => (match d with | .list ds => .nx (env.set i (some (.ow ds))) | _ => .bad)
  | .frz i, env => (match env[i]? with | some (some (.ow ds)) => .nx (env.set i (some (.fr (.list ds)))) | _ => .nx env)
  | .app i e, env => (match env[i]? with | some (some (.ow ds)) => exR (ev shp Φ e env) env fun d => if ds.length < szl then .nx (env.set i (some (.ow (ds ++ [d])))) else .bad | _ => .bad)
  | .ext i e, env => (match env[i]? with | some (some (.ow ds)) => exR (ev shp Φ e env) env fun d => (match d with | .list es => if ds.length + es.length ≤ szl then .nx (env.set i (some (.ow (ds ++ es)))) else .bad | _ => .bad) | _ => .bad)
  | .put i j e, env => exR (ev shp Φ e env) env fun d => (match env[i]? with | some (some (.ow ds)) => exR (ev shp Φ j env) env fun n => (match plcR ds.length n with | .ok m => .nx (env.set i (some (.ow (ds.set m d)))) | _ => .bad) | _ => .bad)
  | .ret e, env => exR (ev shp Φ e env) env fun d => .rt (.fr d)
  | .retO i, env => (match env[i]? with | some (some (.ow ds)) => .rt (.ow ds) | some (some (.fr d)) => .rt (.fr d) | _ => .bad)
  | .aug ng i e, env => (match env[i]? with
    | some (some (.fr (.int x))) => exR (ev shp Φ e env) env fun d => (match d with | .int y => .nx (env.set i (some (.fr (.int (if ng = true then x - y else x + y))))) | _ => .bad)
    | _ => .bad)
  | .unp is e, env => exR (ev shp Φ e env) env fun d => (match d with | .tuple ds => if ds.length = is.length then .nx (bindE (is.zip ds) env) else .bad | _ => .bad)
  | .ownC i f a as, env => exR ((ev shp Φ a env).bind fun x => (evs shp Φ as env).bind fun xs => Φ f (x :: xs)) env fun z => (match z with | .ow ds => .nx (env.set i (some (.ow ds))) | _ => .bad)
  | .exp e, env => exR (ev shp Φ e env) env fun _ => .nx env
  | .doc, env => .nx env
  | .pas, env => .nx env
  | .brk, env => .bk env
  | .cnt, env => .ct env
  | .ifs c a b, env => exR (ev shp Φ c env) env fun d => (match d with | .bool true => xs a env | .bool false => xs b env | _ => .bad)
  | .forI i it b, env => exR (evI shp Φ it env) env fun ds => floop (fun d env => xs b (env.set i (some (.fr d)))) ds env
  | .for2 i j it b, env => exR (evI shp Φ it env) env fun ds => floop (fun d env => (match d with | .tuple [x, y] => xs b ((env.set i (some (.fr x))).set j (some (.fr y))) | _ => .bad)) ds env
  | .whl c b, env => wloop (ev shp Φ c) (xs b) L env
  | .rse k e, env => exR (ev shp Φ e env) env fun _ => .xc k env
  | .tryO b k h, env => catch1 sub (xs b env) k fun _ e => if noEr e = true then sfin (fun e => e) (xs h e) else .bad
  | .tryA b k i h, env => catch1 sub (xs b env) k fun j e => if noEr e = true then sfin (fun e => e.set i none) (xs h (e.set i (some (.er j)))) else .bad
  | .tryM b hs, env => (match xs b env with
    | .xc j e => xsH hs j e
    | r => r)
  | .mat e cs, env => exR (ev shp Φ e env) env fun d => xsM cs d env
def xs : Sts → Env → Fl
  | .nil, env => .nx env
  | .cons s ss, env => (xs1 s env).seq (xs ss)
def xsH : Hds → Nat → Env → Fl
  | .nil, j, e => .xc j e
  | .cons k o h r, j, e => if sub j k = true then (if noEr e = true then (match o with
      | none => sfin (fun e => e) (xs h e)
      | some i => sfin (fun e => e.set i none) (xs h (e.set i (some (.er j))))) else .bad) else xsH r j e
def xsM : Mcs → D → Env → Fl
  | .nil, _, env => .nx env
  | .cons p b r, d, env => (match ptR shp p d with
    | .ok none => xsM r d env
    | .ok (some bs) => xs b (bindE bs env)
    | _ => .bad)
end
/-- a def's answer: its body over its arguments, n names in all -/
def run (n : Nat) (b : Sts) (ds : List D) : Rs Sl := match xs shp sub Φ L b (ds.map (fun d => some (Sl.fr d)) ++ List.replicate (n - ds.length) none) with
  | .nx _ => .ok (.fr .none)
  | .rt s => .ok s
  | .xc k _ => .exc k
  | _ => .bad
end
end Q

set_option Elab.async false
set_option linter.all false
set_option autoImplicit false
namespace Q
open PySem
abbrev SS := SeqAt.shaped
/-! ### a module's defs -/
structure Df where
  nm : Str
  N : List Str
  ar : Nat
  bd : Sts
/-- what the module's names stand for -/
structure Md where
  ds : List Df
  cs : List Str
  rs : List Str
  ist : List (Str × List (Nat × Bool))
  gi : List (Str × Int)
  sub : Nat → Nat → Bool
  L : Nat
  /-- defs that are told a caught error: what they answer -/
  es : List (Str × List (Nat × List Str)) := []
  /-- the names of the defs with generator expressions -/
  gs : List (List Str) := []
/-- its defs' answers, with that many calls in each other -/
def Md.Phi (m : Md) : Nat → Fns
  | 0 => fun _ _ => .bad
  | n + 1 => fun j ds => match m.ds[j]? with
    | some d => if ds.length = d.ar then run SS m.sub (Md.Phi m n) m.L d.N.length d.bd ds else .bad
    | none => .bad
theorem rangeD_get {lo : Int} {n j : Nat} {d : D} (e : (rangeD lo n)[j]? = some d) : j < n ∧ d = .int (lo + (j : Int)) := by
  unfold rangeD at e
  rw [List.getElem?_map] at e
  by_cases h : j < n
  · rw [List.getElem?_range h] at e
    cases e
    exact ⟨h, rfl⟩
  · rw [List.getElem?_eq_none (by simpa using h)] at e
    cases e
theorem rangeD_len {lo : Int} {n : Nat} : (rangeD lo n).length = n := by
  unfold rangeD
  rw [List.length_map, List.length_range]
end Q

set_option Elab.async false
set_option linter.all false
set_option maxRecDepth 100000
set_option autoImplicit false
namespace Q
open PySem PySem.Spec PyProof.Rows L2

abbrev Fg := PySem.W.Frag

mutual
theorem dp_mono {K : Fg} {F F' : Hp} (e : Same F F') : ∀ {v : V} {d : D}, Dp K F v d → Dp K F' v d
  | _, _, .non => .non
  | _, _, .bl b => .bl b
  | _, _, .int i => .int i
  | _, _, .str x => .str x
  | _, _, .lst h a => .lst (e.seq h) (dps_mono e a)
  | _, _, .tup h a => .tup (same_seqT e h) (dps_mono e a)
theorem same_seqT {K : Fg} {H H' : Hp} {a : Addr} {xs : List V} (e : Same H H') (h : SqT K H a xs) : SqT K H' a xs := by
  rcases h with (h | ⟨o, h⟩) | h
  · exact .inl (.inl (e _ _ h))
  · exact .inl (.inr ⟨o, e _ _ h⟩)
  · exact .inr h
theorem dps_mono {K : Fg} {F F' : Hp} (e : Same F F') : ∀ {vs : List V} {ds : List D}, DpAll K F vs ds → DpAll K F' vs ds
  | _, _, .nil => .nil
  | _, _, .cons h t => .cons (dp_mono e h) (dps_mono e t)
end
theorem dps_len {K : Fg} {F : Hp} : ∀ {vs : List V} {ds : List D}, DpAll K F vs ds → vs.length = ds.length
  | _, _, .nil => rfl
  | _, _, .cons _ t => by rw [List.length_cons, List.length_cons, dps_len t]
theorem dps_app {K : Fg} {F : Hp} : ∀ {vs ws : List V} {ds es : List D}, DpAll K F vs ds → DpAll K F ws es → DpAll K F (vs ++ ws) (ds ++ es)
  | _, _, _, _, .nil, b => b
  | _, _, _, _, .cons h t, b => .cons h (dps_app t b)
theorem dps_get {K : Fg} {F : Hp} : ∀ {vs : List V} {ds : List D} {i : Nat} {d : D}, DpAll K F vs ds → ds[i]? = some d → ∃ v, vs[i]? = some v ∧ Dp K F v d
  | _, _, _, _, .nil, h => by simp at h
  | _, _, 0, _, .cons h t, e => by
    simp at e
    subst e
    exact ⟨_, rfl, h⟩
  | _, _, i + 1, d, .cons h t, e => by
    obtain ⟨v, h1, h2⟩ := dps_get (i := i) (d := d) t (by simpa using e)
    exact ⟨v, by simpa using h1, h2⟩
theorem dps_drop {K : Fg} {F : Hp} : ∀ {vs : List V} {ds : List D} (n : Nat), DpAll K F vs ds → DpAll K F (vs.drop n) (ds.drop n)
  | _, _, 0, h => h
  | _, _, _ + 1, .nil => .nil
  | _, _, n + 1, .cons _ t => dps_drop n t
theorem dps_take {K : Fg} {F : Hp} : ∀ {vs : List V} {ds : List D} (n : Nat), DpAll K F vs ds → DpAll K F (vs.take n) (ds.take n)
  | _, _, 0, _ => .nil
  | _, _, _ + 1, .nil => .nil
  | _, _, n + 1, .cons h t => .cons h (dps_take n t)
theorem dps_rev {K : Fg} {F : Hp} : ∀ {vs : List V} {ds : List D}, DpAll K F vs ds → DpAll K F vs.reverse ds.reverse
  | _, _, .nil => .nil
  | _, _, .cons h t => by
    rw [List.reverse_cons, List.reverse_cons]
    exact dps_app (dps_rev t) (.cons h .nil)
theorem dps_rep {K : Fg} {F : Hp} {vs : List V} {ds : List D} (h : DpAll K F vs ds) : ∀ n : Nat, DpAll K F (List.replicate n vs).flatten (List.replicate n ds).flatten
  | 0 => .nil
  | n + 1 => by
    rw [List.replicate_succ, List.replicate_succ, List.flatten_cons, List.flatten_cons]
    exact dps_app h (dps_rep h n)
theorem dps_set {K : Fg} {F : Hp} {v : V} {d : D} (r : Dp K F v d) : ∀ {vs : List V} {ds : List D} (n : Nat), DpAll K F vs ds → DpAll K F (vs.set n v) (ds.set n d)
  | _, _, _, .nil => .nil
  | _, _, 0, .cons _ t => .cons r t
  | _, _, n + 1, .cons h t => .cons h (dps_set r n t)

/-- a table of code objects -/
def TbO (o : HO) : Prop := ∃ ps : Array Value, o = .tbl ps ∧ TriplesOk ps.toList
/-- what there is stays, but that tables grow -/
def Gr (H H' : Hp) : Prop := ∀ b u, H b = some u → H' b = some u ∨ (TbO u ∧ ∃ u', H' b = some u' ∧ TbO u')
theorem Gr.of {H H' : Hp} (s : Same H H') : Gr H H' := fun b u q => .inl (s b u q)
theorem Gr.trans {H H' H2 : Hp} (s : Gr H H') (t : Gr H' H2) : Gr H H2 := fun b u q => by
  rcases s b u q with q1 | ⟨q1, u', q2, q3⟩
  · exact t b u q1
  · rcases t b u' q2 with q4 | ⟨_, q5⟩
    · exact .inr ⟨q1, u', q4, q3⟩
    · exact .inr ⟨q1, q5⟩
theorem Gr.lst {H H' : Hp} (s : Gr H H') {b : Addr} {xs : List V} (q : H b = some (.lst xs)) : H' b = some (.lst xs) := by
  rcases s b _ q with q1 | ⟨⟨ps, e, _⟩, _⟩
  · exact q1
  · cases e
theorem Gr.ne {H H' : Hp} (s : Gr H H') {a : Addr} (h : H a ≠ none) : H' a ≠ none := by
  cases q : H a with
  | none => exact absurd q h
  | some o =>
    rcases s a o q with q1 | ⟨_, u, q1, _⟩ <;> rw [q1] <;> exact fun z => nomatch z
theorem Gr.non {H H' : Hp} (s : Gr H H') {a : Addr} (h : H' a = none) : H a = none := by
  cases q : H a with
  | none => rfl
  | some o => exact absurd h (s.ne (by rw [q]; exact fun z => nomatch z))
theorem Gr.upd {H H' : Hp} (s : Gr H H') {p : Addr} {o : HO} (h : H p = none) : Gr H (upd H' p o) := fun b u q => by
  have : b ≠ p := fun e => by
    subst e
    rw [h] at q
    cases q
  rw [upd_ne this]
  exact s b u q
/-- (F, H) grows to (F', H'): F is what stands for good -/
structure Ext (F H F' H' : Hp) : Prop where
  hh : Gr H H'
  ff : Same F F'
  fh : Same F' H'
  nw : ∀ a, H a ≠ none → F a = none → F' a = none
theorem Ext.refl {F H : Hp} (s : Same F H) : Ext F H F H := ⟨.of (Same.refl H), Same.refl F, s, fun _ _ h => h⟩
theorem ne_none_of {H H' : Hp} (e : Same H H') {a : Addr} (h : H a ≠ none) : H' a ≠ none := by
  cases q : H a with
  | none => exact absurd q h
  | some o =>
    rw [e a o q]
    exact fun z => nomatch z
theorem Ext.trans {F H F1 H1 F2 H2 : Hp} (a : Ext F H F1 H1) (b : Ext F1 H1 F2 H2) : Ext F H F2 H2 :=
  ⟨a.hh.trans b.hh, a.ff.trans b.ff, b.fh, fun x h n => b.nw x (a.hh.ne h) (a.nw x h n)⟩
theorem same_upd2 {H : Hp} {p : Addr} {o : HO} (h : H p = none) : Same H (upd H p o) := fun b u q => by
  rw [upd_ne (ne_of_none q h)]
  exact q
/-- a new object, for good -/
theorem Ext.new {F H : Hp} (s : Same F H) {p : Addr} {o : HO} (h : H p = none) : Ext F H (upd F p o) (upd H p o) := by
  have hf : F p = none := by
    cases q : F p with
    | none => rfl
    | some u =>
      have := s p u q
      rw [h] at this
      cases this
  refine ⟨.of (same_upd2 h), same_upd2 hf, fun b u q => ?_, fun a h1 h2 => ?_⟩
  · by_cases hb : b = p
    · subst hb
      rw [upd_same] at q ⊢
      exact q
    · rw [upd_ne hb] at q ⊢
      exact s b u q
  · have : a ≠ p := fun e => by
      subst e
      exact h1 h
    rw [upd_ne this]
    exact h2
/-- a new object that may yet change -/
theorem Ext.newO {F H : Hp} (s : Same F H) {p : Addr} {o : HO} (h : H p = none) : Ext F H F (upd H p o) :=
  ⟨.of (same_upd2 h), Same.refl F, s.trans (same_upd2 h), fun _ _ n => n⟩

/-! ### the state -/
structure Par where
  K : Fg
  F0 : Hp
  H0 : Hp
  /-- at this address lies an error of that class -/
  ER : Addr → Nat → Prop
  /-- the errors' classes -/
  cls : Nat → Value
  /-- the tables of code objects -/
  T : List Addr
def SlOk (P : Par) (F H : Hp) (v : Option (Option V)) : Sl → Prop
  | .fr d => ∃ x, v = some (some x) ∧ Dp P.K F x d
  | .ow ds => ∃ p vs, v = some (some (.ref p)) ∧ P.H0 p = none ∧ F p = none ∧ H p = some (.lst vs) ∧ DpAll P.K F vs ds
  | .er k => ∃ a, v = some (some (.ref a)) ∧ P.ER a k
structure Sta (P : Par) (F H : Hp) (σ : L2.St) (env : Env) : Prop where
  len : σ.length = env.length
  ext : Ext P.F0 P.H0 F H
  sl : ∀ (i : Nat) (s : Sl), env[i]? = some (some s) → SlOk P F H σ[i]? s
  ds : ∀ (i j : Nat) (p : Addr) (ds es : List D), i ≠ j → env[i]? = some (some (.ow ds)) → env[j]? = some (some (.ow es)) → σ[i]? = some (some (.ref p)) → σ[j]? ≠ some (some (.ref p))
theorem Sta.same {P : Par} {F H : Hp} {σ : L2.St} {env : Env} (s : Sta P F H σ env) : Same F H := s.ext.fh
theorem SlOk.mono {P : Par} {F H F' H' : Hp} {v : Option (Option V)} {s : Sl} (e : Ext F H F' H') (h : SlOk P F H v s) : SlOk P F' H' v s := by
  cases s with
  | fr d =>
    obtain ⟨x, e1, h1⟩ := h
    exact ⟨x, e1, dp_mono e.ff h1⟩
  | ow ds =>
    obtain ⟨p, vs, e1, h0, h1, h2, h3⟩ := h
    exact ⟨p, vs, e1, h0, e.nw p (by rw [h2]; exact fun z => nomatch z) h1, e.hh.lst h2, dps_mono e.ff h3⟩
  | er k => exact h
theorem Sta.mono {P : Par} {F H F' H' : Hp} {σ : L2.St} {env : Env} (s : Sta P F H σ env) (e : Ext F H F' H') : Sta P F' H' σ env :=
  ⟨s.len, s.ext.trans e, fun i z h => (s.sl i z h).mono e, s.ds⟩
/-- a slot is forgotten -/
theorem Sta.forget {P : Par} {F H : Hp} {σ : L2.St} {env : Env} (s : Sta P F H σ env) (i : Nat) (x : Option V) : Sta P F H (σ.set i x) (env.set i none) := by
  refine ⟨by rw [List.length_set, List.length_set]; exact s.len, s.ext, fun j z h => ?_, fun j k p ds es n h1 h2 h3 => ?_⟩
  · by_cases e : i = j
    · subst e
      rw [List.getElem?_set] at h
      split at h
      · split at h <;> cases h
      · exact absurd rfl ‹_›
    · rw [List.getElem?_set_ne e] at h
      rw [List.getElem?_set_ne e]
      exact s.sl j z h
  · have ne : ∀ (m : Nat) (ds : List D), (env.set i none)[m]? = some (some (.ow ds)) → i ≠ m := fun m ds h e => by
      subst e
      rw [List.getElem?_set] at h
      split at h
      · split at h <;> cases h
      · exact absurd rfl ‹_›
    have n1 := ne j ds h1
    have n2 := ne k es h2
    rw [List.getElem?_set_ne n1] at h1 h3
    rw [List.getElem?_set_ne n2] at h2
    rw [List.getElem?_set_ne n2]
    exact s.ds j k p ds es n h1 h2 h3
/-- a slot is stored: data or an error -/
theorem Sta.put {P : Par} {F H : Hp} {σ : L2.St} {env : Env} (s : Sta P F H σ env) {i : Nat} {x : V} {z : Sl} (hz : ∀ ds, z ≠ .ow ds) (hs : SlOk P F H (some (some x)) z) : Sta P F H (σ.set i (some x)) (env.set i (some z)) := by
  have hl := s.len
  refine ⟨by rw [List.length_set, List.length_set]; exact s.len, s.ext, fun j y h => ?_, fun j k p ds es n h1 h2 h3 => ?_⟩
  · by_cases e : i = j
    · subst e
      rw [List.getElem?_set] at h
      rw [if_pos rfl] at h
      split at h
      · rename_i hi
        cases h
        rw [List.getElem?_set, if_pos rfl, if_pos (by omega)]
        exact hs
      · cases h
    · rw [List.getElem?_set_ne e] at h
      rw [List.getElem?_set_ne e]
      exact s.sl j y h
  · have ne : ∀ (m : Nat) (ds : List D), (env.set i (some z))[m]? = some (some (.ow ds)) → i ≠ m := fun m ds h e => by
      subst e
      rw [List.getElem?_set, if_pos rfl] at h
      split at h
      · cases h
        exact hz ds rfl
      · cases h
    have n1 := ne j ds h1
    have n2 := ne k es h2
    rw [List.getElem?_set_ne n1] at h1 h3
    rw [List.getElem?_set_ne n2] at h2
    rw [List.getElem?_set_ne n2]
    exact s.ds j k p ds es n h1 h2 h3
theorem Sta.putD {P : Par} {F H : Hp} {σ : L2.St} {env : Env} (s : Sta P F H σ env) {i : Nat} {x : V} {d : D} (hs : Dp P.K F x d) : Sta P F H (σ.set i (some x)) (env.set i (some (.fr d))) :=
  s.put (fun _ z => nomatch z) ⟨x, rfl, hs⟩
/-- a slot is stored: a new list of one's own -/
theorem Sta.putO {P : Par} {F H : Hp} {σ : L2.St} {env : Env} (s : Sta P F H σ env) {i : Nat} {p : Addr} {vs : List V} {ds : List D} (h0 : P.H0 p = none) (hf : F p = none) (hp : H p = some (.lst vs)) (hd : DpAll P.K F vs ds)
    (ne : ∀ (j : Nat), i ≠ j → ∀ (es : List D), env[j]? = some (some (.ow es)) → σ[j]? ≠ some (some (.ref p))) : Sta P F H (σ.set i (some (.ref p))) (env.set i (some (.ow ds))) := by
  have hl := s.len
  refine ⟨by rw [List.length_set, List.length_set]; exact s.len, s.ext, fun j y h => ?_, fun j k q ds' es n h1 h2 h3 => ?_⟩
  · by_cases e : i = j
    · subst e
      rw [List.getElem?_set] at h
      rw [if_pos rfl] at h
      split at h
      · rename_i hi
        cases h
        rw [List.getElem?_set, if_pos rfl, if_pos (by omega)]
        exact ⟨p, vs, rfl, h0, hf, hp, hd⟩
      · cases h
    · rw [List.getElem?_set_ne e] at h
      rw [List.getElem?_set_ne e]
      exact s.sl j y h
  · by_cases e1 : i = j
    · have e2 : i ≠ k := fun e => n (e1.symm.trans e)
      subst e1
      rw [List.getElem?_set_ne e2] at h2
      rw [List.getElem?_set_ne e2]
      rw [List.getElem?_set, if_pos rfl] at h3
      split at h3
      · cases h3
        exact ne k e2 es h2
      · cases h3
    · rw [List.getElem?_set_ne e1] at h1 h3
      by_cases e2 : i = k
      · subst e2
        intro h4
        rw [List.getElem?_set, if_pos rfl] at h4
        split at h4
        · cases h4
          exact ne j e1 ds' h1 h3
        · cases h4
      · rw [List.getElem?_set_ne e2] at h2
        rw [List.getElem?_set_ne e2]
        exact s.ds j k q ds' es n h1 h2 h3
/-- a list of one's own is changed -/
theorem Sta.chg {P : Par} {F H : Hp} {σ : L2.St} {env : Env} (s : Sta P F H σ env) {i : Nat} {ds es : List D} (hi : env[i]? = some (some (.ow ds))) : ∃ p vs, σ[i]? = some (some (.ref p)) ∧ H p = some (.lst vs) ∧ DpAll P.K F vs ds ∧
    ∀ ws, DpAll P.K F ws es → Sta P F (upd H p (.lst ws)) σ (env.set i (some (.ow es))) := by
  obtain ⟨p, vs, e1, h0, h1, h2, h3⟩ := s.sl i _ hi
  refine ⟨p, vs, e1, h2, h3, fun ws hw => ⟨by rw [List.length_set]; exact s.len, ?_, fun j y h => ?_, fun j k q ds' es' n g1 g2 g3 => ?_⟩⟩
  · refine ⟨s.ext.hh.upd h0, s.ext.ff, fun b u q => ?_, s.ext.nw⟩
    · have : b ≠ p := fun e => by
        subst e
        rw [h1] at q
        cases q
      rw [upd_ne this]
      exact s.ext.fh b u q
  · by_cases e : i = j
    · subst e
      rw [List.getElem?_set, if_pos rfl] at h
      split at h
      · cases h
        exact ⟨p, ws, e1, h0, h1, upd_same, hw⟩
      · cases h
    · rw [List.getElem?_set_ne e] at h
      have q := s.sl j y h
      cases y with
      | fr d => exact q
      | er k => exact q
      | ow ds' =>
        obtain ⟨p', vs', f1, f2, f3, f4, f5⟩ := q
        have : p' ≠ p := fun z => by
          subst z
          exact s.ds i j p' ds ds' e hi h e1 f1
        exact ⟨p', vs', f1, f2, f3, by rw [upd_ne this]; exact f4, f5⟩
  · have g : ∀ (m : Nat) (zs : List D), (env.set i (some (.ow es)))[m]? = some (some (.ow zs)) → ∃ zs', env[m]? = some (some (.ow zs')) := fun m zs h => by
      by_cases e : i = m
      · subst e
        exact ⟨ds, hi⟩
      · rw [List.getElem?_set_ne e] at h
        exact ⟨zs, h⟩
    obtain ⟨z1, g1⟩ := g j ds' g1
    obtain ⟨z2, g2⟩ := g k es' g2
    exact s.ds j k q z1 z2 n g1 g2 g3
/-- a list of one's own is done with: it stands for good from here on -/
theorem Sta.freeze {P : Par} {F H : Hp} {σ : L2.St} {env : Env} (s : Sta P F H σ env) {i : Nat} {ds : List D} (hi : env[i]? = some (some (.ow ds))) : ∃ F', Same F F' ∧ Sta P F' H σ (env.set i (some (.fr (.list ds)))) := by
  obtain ⟨p, vs, e1, h0, h1, h2, h3⟩ := s.sl i _ hi
  have sf : Same F (upd F p (.lst vs)) := same_upd2 h1
  have at_ : ∀ b, b ≠ p → (upd F p (.lst vs)) b = F b := fun b hb => upd_ne hb
  refine ⟨upd F p (.lst vs), sf, by rw [List.length_set]; exact s.len, ⟨s.ext.hh, s.ext.ff.trans sf, fun b u q => ?_, fun b q1 q2 => ?_⟩, fun j y h => ?_, fun j k q ds' es' n g1 g2 g3 => ?_⟩
  · by_cases hb : b = p
    · subst hb
      rw [upd_same] at q
      cases q
      exact h2
    · rw [upd_ne hb] at q
      exact s.ext.fh b u q
  · have : b ≠ p := fun e => by
      subst e
      exact q1 h0
    rw [upd_ne this]
    exact s.ext.nw b q1 q2
  · by_cases e : i = j
    · subst e
      rw [List.getElem?_set, if_pos rfl] at h
      split at h
      · cases h
        exact ⟨.ref p, e1, .lst (.inl (.inl upd_same)) (dps_mono sf h3)⟩
      · cases h
    · rw [List.getElem?_set_ne e] at h
      have q := s.sl j y h
      cases y with
      | fr d =>
        obtain ⟨x, f1, f2⟩ := q
        exact ⟨x, f1, dp_mono sf f2⟩
      | er k => exact q
      | ow ds' =>
        obtain ⟨p', vs', f1, f2, f3, f4, f5⟩ := q
        have : p' ≠ p := fun z => by
          subst z
          exact s.ds i j p' ds ds' e hi h e1 f1
        exact ⟨p', vs', f1, f2, by rw [upd_ne this]; exact f3, f4, dps_mono sf f5⟩
  · have g : ∀ (m : Nat) (zs : List D), (env.set i (some (.fr (.list ds))))[m]? = some (some (.ow zs)) → env[m]? = some (some (.ow zs)) := fun m zs h => by
      by_cases e : i = m
      · subst e
        rw [List.getElem?_set, if_pos rfl] at h
        split at h <;> cases h
      · rw [List.getElem?_set_ne e] at h
        exact h
    exact s.ds j k q _ _ n (g j _ g1) (g k _ g2) g3

/-! ### readings -/
/-- what is wanted of an error of class k, at the slots as they stand -/
abbrev Wsh := Nat → L2.St → Hp → Prop
def post {α β : Type} (Rl : Hp → β → α → Prop) (W : Wsh) (σ : L2.St) (F H : Hp) (r : Rs α) (Q : β → Hp → Prop) : Prop := match r with
  | .ok d => ∀ F' H' v, Ext F H F' H' → Rl F' v d → Q v H'
  | .exc k => ∀ F' H', Ext F H F' H' → W k σ H'
  | .bad => False
theorem post_ext {α β : Type} {Rl : Hp → β → α → Prop} {W : Wsh} {σ : L2.St} {F H F1 H1 : Hp} {r : Rs α} {Q : β → Hp → Prop} (e : Ext F H F1 H1) (h : post Rl W σ F H r Q) : post Rl W σ F1 H1 r Q := by
  cases r with
  | ok d => exact fun F' H' v e' r => h F' H' v (e.trans e') r
  | exc k => exact fun F' H' e' => h F' H' (e.trans e')
  | bad => exact h
theorem post_seq {α β γ δ : Type} {RlA : Hp → β → α → Prop} {RlC : Hp → δ → γ → Prop} {W : Wsh} {σ : L2.St} {F H : Hp} {r : Rs α} {f : α → Rs γ} {Q : δ → Hp → Prop} {Q' : β → Hp → Prop} (h : post RlC W σ F H (r.bind f) Q)
    (k : ∀ d F1 H1 v, r = .ok d → Ext F H F1 H1 → RlA F1 v d → post RlC W σ F1 H1 (f d) Q → Q' v H1) : post RlA W σ F H r Q' := by
  cases r with
  | ok d => exact fun F1 H1 v e r => k d F1 H1 v rfl e r (post_ext e h)
  | exc k => exact h
  | bad => exact h
abbrev postD (P : Par) (W : Wsh) (σ : L2.St) (F H : Hp) (r : Rs D) (Q : VK) : Prop := post (Dp P.K) W σ F H r Q
/-- an expression's reading, from what it is worth -/
def rd (P : Par) (W : Wsh) (f : Env → Rs D) : TE := fun σ H Q => ∃ F env, Sta P F H σ env ∧ post (Dp P.K) W σ F H (f env) Q
def rds (P : Par) (W : Wsh) (f : Env → Rs (List D)) : TA := fun σ H Q => ∃ F env, Sta P F H σ env ∧ post (DpAll P.K) W σ F H (f env) Q
def RlB : Hp → Bool → D → Prop := fun _ b d => d = .bool b
def rdB (P : Par) (W : Wsh) (f : Env → Rs D) : TT := fun σ H Q => ∃ F env, Sta P F H σ env ∧ post RlB W σ F H (match f env with | .ok (.bool b) => .ok (.bool b) | .exc k => .exc k | _ => .bad) Q

theorem _root_.L2.PE.imp {X : Cx} {e : Expr} {t t' : TE} (h : PE X e t) (q : ∀ σ H Q, t' σ H Q → t σ H Q) : PE X e t' := ⟨fun pins s σ H Q I w => h.run pins s σ H Q I (q σ H Q w)⟩
theorem _root_.L2.PT.imp {X : Cx} {e : Expr} {t t' : TT} (h : PT X e t) (q : ∀ σ H Q, t' σ H Q → t σ H Q) : PT X e t' := ⟨fun pins s σ H Q I w => h.run pins s σ H Q I (q σ H Q w)⟩
theorem _root_.L2.PA.imp {X : Cx} {e : List Expr} {t t' : TA} (h : PA X e t) (q : ∀ σ H Q, t' σ H Q → t σ H Q) : PA X e t' := ⟨fun pos pins s σ H Q I w => h.run pos pins s σ H Q I (q σ H Q w)⟩
theorem _root_.L2.PS.imp {X : Cx} {e : Stmt} {t t' : TS} (h : PS X e t) (q : ∀ D σ H, t' D σ H → t D σ H) : PS X e t' := ⟨fun pins s σ H D I w => h.run pins s σ H D I (q D σ H w)⟩
theorem _root_.L2.PSs.imp {X : Cx} {e : List Stmt} {t t' : TS} (h : PSs X e t) (q : ∀ D σ H, t' D σ H → t D σ H) : PSs X e t' := ⟨fun pins s σ H D I w => h.run pins s σ H D I (q D σ H w)⟩
end Q

set_option Elab.async false
set_option linter.all false
set_option maxRecDepth 100000
set_option autoImplicit false
set_option maxHeartbeats 4000000
namespace Q
open PySem PySem.Spec PyProof.Rows L2

/-! ### operations -/
theorem dp_int {K : Fg} {F : Hp} {v : V} {i : Int} (h : Dp K F v (.int i)) : v = .int i := by cases h; rfl
theorem dp_bl {K : Fg} {F : Hp} {v : V} {b : Bool} (h : Dp K F v (.bool b)) : v = .bl b := by cases h; rfl
theorem dp_str {K : Fg} {F : Hp} {v : V} {b : Str} (h : Dp K F v (.str b)) : v = .str b := by cases h; rfl
theorem dp_non {K : Fg} {F : Hp} {v : V} (h : Dp K F v .none) : v = .non := by cases h; rfl
theorem dp_lst {K : Fg} {F : Hp} {v : V} {ds : List D} (h : Dp K F v (.list ds)) : ∃ a xs, v = .ref a ∧ SqL K F a xs ∧ DpAll K F xs ds := by
  cases h with
  | lst a b => exact ⟨_, _, rfl, a, b⟩
theorem dp_tup {K : Fg} {F : Hp} {v : V} {ds : List D} (h : Dp K F v (.tuple ds)) : ∃ a xs, v = .ref a ∧ SqT K F a xs ∧ DpAll K F xs ds := by
  cases h with
  | tup a b => exact ⟨_, _, rfl, a, b⟩
/-- no error -/
def Cl {α : Type} (r : Rs α) : Prop := ∀ k, r ≠ .exc k
def fin {α β : Type} (Rl : Hp → β → α → Prop) (F H : Hp) (r : Rs α) (Q : β → Hp → Prop) : Prop := match r with
  | .ok d => ∀ F' H' v, Ext F H F' H' → Rl F' v d → Q v H'
  | _ => False
theorem post_fin {α β : Type} {Rl : Hp → β → α → Prop} {W : Wsh} {σ : L2.St} {F H : Hp} {r : Rs α} {Q : β → Hp → Prop} (c : Cl r) (h : post Rl W σ F H r Q) : fin Rl F H r Q := by
  cases r with
  | ok d => exact h
  | exc k => exact absurd rfl (c k)
  | bad => exact h
/-- what an operation is worth -/
def rD2 (K : Fg) (f : D → D → Rs D) : R2 := fun x y H Q => ∃ F dx dy, Same F H ∧ Dp K F x dx ∧ Dp K F y dy ∧ fin (Dp K) F H (f dx dy) Q
def rD1 (K : Fg) (f : D → Rs D) : V → Hp → VK → Prop := fun x H Q => ∃ F dx, Same F H ∧ Dp K F x dx ∧ fin (Dp K) F H (f dx) Q
def rDs (K : Fg) (f : List D → Rs D) : List V → Hp → VK → Prop := fun xs H Q => ∃ F ds, Same F H ∧ DpAll K F xs ds ∧ fin (Dp K) F H (f ds) Q
theorem fin_here {α β : Type} {Rl : Hp → β → α → Prop} {F H : Hp} {d : α} {Q : β → Hp → Prop} (s : Same F H) (h : fin Rl F H (.ok d) Q) {v : β} (r : Rl F v d) : Q v H := h F H v (Ext.refl s) r

section
variable {X : Cx} {K : Fg}
theorem szl_eq : szl = sizeLine := rfl
theorem inv_sub {x y d : D} (h : binD .sub x y = .ok d) : ∃ i j, x = .int i ∧ y = .int j ∧ d = .int (i - j) := by
  cases x <;> cases y <;> simp [binD] at h
  exact ⟨_, _, rfl, rfl, h.symm⟩
theorem inv_add {x y d : D} (h : binD .add x y = .ok d) : (∃ i j, x = .int i ∧ y = .int j ∧ d = .int (i + j)) ∨ ∃ xs ys, x = .list xs ∧ y = .list ys ∧ xs.length + ys.length ≤ szl ∧ d = .list (xs ++ ys) := by
  cases x <;> cases y <;> simp [binD] at h
  · exact .inl ⟨_, _, rfl, rfl, h.symm⟩
  · split at h
    · cases h
      exact .inr ⟨_, _, rfl, rfl, ‹_›, rfl⟩
    · cases h
theorem inv_mul {x y d : D} (h : binD .mul x y = .ok d) : (∃ i j, x = .int i ∧ y = .int j ∧ ((-(2 ^ 64) < i ∧ i < 2 ^ 64) ∨ (-(2 ^ 64) < j ∧ j < 2 ^ 64)) ∧ d = .int (i * j)) ∨
    ∃ xs k, x = .list xs ∧ y = .int k ∧ (-(2 ^ 63) ≤ k ∧ k < 2 ^ 63 ∧ xs.length * k.toNat ≤ szl) ∧ d = .list (List.replicate k.toNat xs).flatten := by
  cases x <;> cases y <;> simp only [binD] at h <;> (try cases h)
  · split at h
    · cases h
      exact .inl ⟨_, _, rfl, rfl, ‹_›, rfl⟩
    · cases h
  · split at h
    · cases h
      exact .inr ⟨_, _, rfl, rfl, ‹_›, rfl⟩
    · cases h
theorem inv_ints {o : BOp} {C : Int → Int → Prop} {g : Int → Int → Int} (ho : ∀ x y d, binD o x y = .ok d → ∃ i j, x = .int i ∧ y = .int j ∧ C i j ∧ d = .int (g i j)) {op : Operator}
    (hr : OpR X (binaryOp op) (rI C fun i j => .int (g i j))) : OpR X (binaryOp op) (rD2 K (binD o)) := by
  intro pins s σ H x y v u Q I rx ry h
  obtain ⟨F, dx, dy, sf, hx, hy, h⟩ := h
  cases e : binD o dx dy with
  | ok d =>
    rw [e] at h
    obtain ⟨i, j, rfl, rfl, c, rfl⟩ := ho _ _ _ e
    rw [dp_int hx] at rx
    rw [dp_int hy] at ry
    exact hr pins s σ H (.int i) (.int j) v u Q I rx ry ⟨i, j, rfl, rfl, c, fin_here sf h (.int _)⟩
  | exc k => rw [e] at h; exact h.elim
  | bad => rw [e] at h; exact h.elim
theorem cond_int {o : BOp} {C : Int → Int → Prop} {g : Int → Int → Int} [∀ i j, Decidable (C i j)] (h : ∀ x y, binD o x y = match x, y with | .int i, .int j => if C i j then .ok (.int (g i j)) else .bad | _, _ => .bad) :
    ∀ x y d, binD o x y = .ok d → ∃ i j, x = .int i ∧ y = .int j ∧ C i j ∧ d = .int (g i j) := by
  intro x y d e
  rw [h] at e
  split at e
  · split at e
    · cases e
      exact ⟨_, _, rfl, rfl, ‹_›, rfl⟩
    · cases e
  · cases e
theorem o_sub : OpR X (binaryOp .Sub) (rD2 K (binD .sub)) :=
  inv_ints (C := fun _ _ => True) (g := fun i j => i - j) (fun x y d h => by obtain ⟨i, j, a, b, c⟩ := inv_sub h; exact ⟨i, j, a, b, trivial, c⟩) (fun pins s σ H x y v u Q I rx ry ⟨i, j, a, b, _, q⟩ => op_sub pins s σ H x y v u Q I rx ry ⟨i, j, a, b, q⟩)
theorem o_fdiv : OpR X (binaryOp .FloorDiv) (rD2 K (binD .fdiv)) := inv_ints (C := CDivN) (cond_int (C := fun i j => j ≠ 0 ∧ j.natAbs < 1073741824) (g := fun i j => i.fdiv j) (fun x y => by cases x <;> cases y <;> rfl)) op_fdivN
theorem o_mod : OpR X (binaryOp .Mod) (rD2 K (binD .mod)) := inv_ints (cond_int (C := fun i j => j ≠ 0) (g := fun i j => i.fmod j) (fun x y => by cases x <;> cases y <;> rfl)) op_modN
theorem o_pow : OpR X (binaryOp .Pow) (rD2 K (binD .pow)) := inv_ints (C := CPow) (cond_int (C := fun i j => 0 ≤ j ∧ j ≤ 1000000 ∧ i.natAbs < 2 ^ 64) (g := fun i j => i ^ j.toNat) (fun x y => by cases x <;> cases y <;> rfl)) op_pow
theorem o_shl : OpR X (binaryOp .LShift) (rD2 K (binD .shl)) := inv_ints (C := CPow) (cond_int (C := fun i j => 0 ≤ j ∧ j ≤ 1000000 ∧ i.natAbs < 2 ^ 64) (g := fun i j => i * 2 ^ j.toNat) (fun x y => by cases x <;> cases y <;> rfl)) op_shl
theorem o_shr : OpR X (binaryOp .RShift) (rD2 K (binD .shr)) := inv_ints (cond_int (C := fun i j => 0 ≤ j) (g := fun i j => i / 2 ^ j.toNat) (fun x y => by cases x <;> cases y <;> rfl)) op_shr
theorem o_band : OpR X (binaryOp .BitAnd) (rD2 K (binD .band)) := inv_ints (C := fun _ j => j = 1) (cond_int (C := fun _ j => j = 1) (g := fun i _ => i % 2) (fun x y => by cases x <;> cases y <;> rfl)) (fun pins s σ H x y v u Q I rx ry ⟨i, j, a, b, c, q⟩ =>
  op_and pins s σ H x y v u Q I rx ry ⟨i, j, a, b, by
    have c' : j = 1 := c
    subst c'
    show Q (V.int (Builtin.bitAnd i 1)) H
    rw [bitAnd_m1]
    exact q⟩)
/-! lists: any that is read -/
theorem cat_any {pins : List (Addr × Obj)} {s : Shared} {σ : L2.St} {H : Hp} {l b : Addr} {xs zs : List V} {Q : VK} (I : Inv X pins σ H s) (hH : SqL X.K H l xs) (hB : SqL X.K H b zs) (hz : xs.length + zs.length ≤ sizeLine) (q : ∀ p, H p = none → Q (.ref p) (upd H p (.lst (xs ++ zs)))) :
    wpAny (model X.prog X.w) X.A (binaryOp .Add (.ref l) (.ref b)) (EP X pins σ Q) X.xe s := by
  obtain ⟨its, r, ⟨o, n, e, c1, c2, c3⟩, z1⟩ := I.list hH
  obtain ⟨its2, r2, ⟨o2, n2, e2, d1, d2, d3⟩, z2⟩ := I.list hB
  have hl := r.length
  have hl2 := r2.length
  obtain ⟨oc, od, odt, osl⟩ := o
  obtain ⟨oc2, od2, odt2, osl2⟩ := o2
  dsimp only at c1 c2 c3 d1 d2 d3
  subst c1 c2 c3 d1 d2 d3
  have ea : its.toArray ++ its2.toArray = (its ++ its2).toArray := by simp
  refine concat_meets ⟨_, e, rfl⟩ ⟨_, e2, rfl⟩ noFill_list_add seq_list_add PySem.F.slot_list_add PySem.F.entry_list_add (PySem.F.args_list_add_2 _ _) (list_addW l b its.toArray its2.toArray n n2 none none osl osl2 (by rw [List.size_toArray, List.size_toArray]; omega)) ⟨e, e2, ?_⟩
  rw [ea]
  exact ⟨.ref _, _, I.lnew (t' := s.toks) (r.append r2) (by rw [List.length_append]; omega), rfl, q _ I.fresh⟩
theorem list_mulW (l : Addr) (items : Array Value) (n : Nat) (dd : Option Addr) (sl : Array (Option Value)) (x : Int) (u : Tok) (hc0 : ¬(!Builtin.List.listFitsIndex x) = true) (hc1 : ¬items.size * x.toNat > (2 ^ 63 - 1) / 8) (hc2 : ¬Builtin.List.listTooLong (items.size * x.toNat) = true) :
    Meets (Builtin.«list.__mul__» ⟨[.ref l, .int x u], []⟩) (fun _ R s => s.heap.get? l = some { cls := .type "list", dict := dd, data := .seq items n, slots := sl } ∧ R (.ok (.ret (Value.ref s.heap.objs.size))) { s with heap := s.heap.push { cls := Value.type "list", data := Data.seq (List.foldl (fun x1 x2 => x1 ++ x2) #[] (List.replicate (if items.isEmpty = true then 0 else x.toNat) items)) }, toks := s.toks }) :=
  .of_wp fun prog w A R s h => by
    obtain ⟨hp, g, d, tk, os⟩ := s; obtain ⟨hl, h⟩ := h
    have hsz := PySem.AutoListH.joined_fits hc2
    have f1 := AutoSeq1.idx_int; have f2 := AutoSeq1.sub_tuple_tuple; have f3 := AutoSeq1.sub_list_list; have f4 := AutoSeq1.sub_tuple_list; have f5 := AutoSeq1.sub_list_tuple
    wp_walk using AutoSeq1.wpAny_loadPart' hl; refine wpAny_ite_false (decide_eq_false (Nat.not_lt.mpr hsz)) ?_; wp_walk; exact ⟨_, rfl, h⟩
theorem int_rmulW (a : Int) (t : Tok) (l : Addr) (items : Array Value) (n : Nat) (sl : Array (Option Value)) :
    Meets (Builtin.«int.__rmul__» ⟨[.int a t, .ref l], []⟩) (fun _ R s => s.heap.get? l = some { cls := .type "list", dict := none, data := .seq items n, slots := sl } ∧ R (.ok (.ret Value.notImplemented)) s) :=
  .of_wp fun prog w A R s h => by obtain ⟨hp, g, d, tk, os⟩ := s; obtain ⟨hl, h⟩ := h; wp_walk; exact ⟨_, rfl, h⟩
theorem rep_any {pins : List (Addr × Obj)} {s : Shared} {σ : L2.St} {H : Hp} {l : Addr} {xs : List V} {k : Int} {t : Tok} {Q : VK} (I : Inv X pins σ H s) (hH : SqL X.K H l xs) (h1 : -(2 ^ 63) ≤ k) (h2 : k < 2 ^ 63) (hz : xs.length * k.toNat ≤ sizeLine)
    (q : ∀ p, H p = none → Q (.ref p) (upd H p (.lst (List.replicate k.toNat xs).flatten))) :
    wpAny (model X.prog X.w) X.A (binaryOp .Mult (.ref l) (.int k t)) (EP X pins σ Q) X.xe s := by
  obtain ⟨its, r, ⟨o, n, e, c1, c2, c3⟩, z1⟩ := I.list hH
  have hl := r.length
  obtain ⟨oc, od, odt, osl⟩ := o
  dsimp only at c1 c2 c3
  subst c1 c2 c3
  have hlen : its.toArray.size * k.toNat ≤ sizeLine := by rw [List.size_toArray, ← hl]; exact hz
  have hcap : ¬ its.toArray.size * k.toNat > (2 ^ 63 - 1) / 8 := by
    have : (sizeLine : Nat) ≤ (2 ^ 63 - 1) / 8 := by decide
    omega
  have hfit : ¬ (!Builtin.List.listFitsIndex k) = true := by
    rw [fitsIndex_both h1 h2]
    exact Bool.false_ne_true
  have hlong : ¬ Builtin.List.listTooLong (its.toArray.size * k.toNat) = true := by
    rw [notLongL hlen]
    exact Bool.false_ne_true
  have hnew : List.foldl (fun x1 x2 => x1 ++ x2) #[] (List.replicate (if its.toArray.isEmpty = true then 0 else k.toNat) its.toArray) = (List.replicate k.toNat its).flatten.toArray := by
    have f0 : ∀ m : Nat, List.foldl (fun x1 x2 => x1 ++ x2) #[] (List.replicate m its.toArray) = (List.replicate m its).flatten.toArray := fun m => by
      have := foldl_rep its m []
      rw [List.nil_append] at this
      exact this
    rw [f0]
    cases its with
    | nil => simp
    | cons a r' => rw [if_neg (by simp)]
  refine wpAny_binaryOp_repeat_ref (T := "list") (U := "int") (by decide) ⟨_, e, rfl⟩ (fun s' => typeIs_int s' k t) noFill_list_mul F.fills_int_mul F.slot_int_rmul repeat_list F.slot_int_index.lookup
    (call_meets F.slot_int_rmul (typeIs_int s k t) F.entry_int_rmul (F.args_int_rmul_2 _ _) (int_rmulW k t l its.toArray n osl)
      ⟨e, rfl, ⟨_, e, rfl⟩, call_meets F.slot_list_mul ⟨_, e, rfl⟩ F.entry_list_mul (F.args_list_mul_2 _ _) (list_mulW l its.toArray n none osl k t hfit hcap hlong) ⟨e, ?_⟩⟩)
  rw [hnew]
  exact ⟨.ref _, _, I.lnew (t' := s.toks) (r.rep k.toNat) (by rw [PyProof.Rows.lm_len_rep_flat, Nat.mul_comm]; exact hz), rfl, q _ I.fresh⟩
end
end Q

set_option Elab.async false
set_option linter.all false
set_option maxRecDepth 100000
set_option autoImplicit false
set_option maxHeartbeats 4000000
namespace Q
open PySem PySem.Spec PyProof.Rows L2
section
variable {X : Cx}
theorem ref_of {a : Addr} {v : Value} (h : RelV (.ref a) v) : v = .ref a := h
theorem o_add : OpR X (binaryOp .Add) (rD2 X.K (binD .add)) := by
  intro pins s σ H x y v u Q I rx ry h
  obtain ⟨F, dx, dy, sf, hx, hy, h⟩ := h
  cases e : binD .add dx dy with
  | ok d =>
    rw [e] at h
    rcases inv_add e with ⟨i, j, rfl, rfl, rfl⟩ | ⟨xs, ys, rfl, rfl, hz, rfl⟩
    · rw [dp_int hx] at rx
      rw [dp_int hy] at ry
      exact op_add pins s σ H (.int i) (.int j) v u Q I rx ry ⟨i, j, rfl, rfl, fin_here sf h (.int _)⟩
    · obtain ⟨a, vs, rfl, qa, da⟩ := dp_lst hx
      obtain ⟨b, ws, rfl, qb, db⟩ := dp_lst hy
      rw [ref_of rx, ref_of ry]
      refine cat_any I (sf.seq qa) (sf.seq qb) (by rw [dps_len da, dps_len db]; exact hz) fun p hp => ?_
      exact h _ _ _ (Ext.new sf hp) (.lst (.inl (.inl upd_same)) (dps_mono (Ext.new (o := HO.lst (vs ++ ws)) sf hp).ff (dps_app da db)))
  | exc k => rw [e] at h; exact h.elim
  | bad => rw [e] at h; exact h.elim
theorem o_mul : OpR X (binaryOp .Mult) (rD2 X.K (binD .mul)) := by
  intro pins s σ H x y v u Q I rx ry h
  obtain ⟨F, dx, dy, sf, hx, hy, h⟩ := h
  cases e : binD .mul dx dy with
  | ok d =>
    rw [e] at h
    rcases inv_mul e with ⟨i, j, rfl, rfl, hc, rfl⟩ | ⟨xs, k, rfl, rfl, ⟨h1, h2, hz⟩, rfl⟩
    · rw [dp_int hx] at rx
      rw [dp_int hy] at ry
      exact op_mul pins s σ H (.int i) (.int j) v u Q I rx ry ⟨i, j, rfl, rfl, hc, fin_here sf h (.int _)⟩
    · obtain ⟨a, vs, rfl, qa, da⟩ := dp_lst hx
      rw [dp_int hy] at ry
      obtain ⟨t, rfl⟩ := ry
      rw [ref_of rx]
      refine rep_any I (sf.seq qa) h1 h2 (by rw [dps_len da]; exact hz) fun p hp => ?_
      exact h _ _ _ (Ext.new sf hp) (.lst (.inl (.inl upd_same)) (dps_mono (Ext.new (o := HO.lst (List.replicate k.toNat vs).flatten) sf hp).ff (dps_rep da _)))
  | exc k => rw [e] at h; exact h.elim
  | bad => rw [e] at h; exact h.elim
def opOf : BOp → Operator
  | .add => .Add | .sub => .Sub | .mul => .Mult | .fdiv => .FloorDiv | .mod => .Mod | .pow => .Pow | .shl => .LShift | .shr => .RShift | .band => .BitAnd
theorem o_all (o : BOp) : OpR X (binaryOp (opOf o)) (rD2 X.K (binD o)) := by
  cases o
  · exact o_add
  · exact o_sub
  · exact o_mul
  · exact o_fdiv
  · exact o_mod
  · exact o_pow
  · exact o_shl
  · exact o_shr
  · exact o_band
theorem cl_ite {α : Type} {c : Prop} [Decidable c] {a b : Rs α} (h1 : Cl a) (h2 : Cl b) : Cl (if c then a else b) := by
  split
  · exact h1
  · exact h2
theorem cl_ok {α : Type} {a : α} : Cl (Rs.ok a) := fun k h => nomatch h
theorem cl_bad {α : Type} : Cl (Rs.bad : Rs α) := fun k h => nomatch h
theorem cl_bind {α β : Type} {r : Rs α} {f : α → Rs β} (h : Cl r) (hf : ∀ a, Cl (f a)) : Cl (r.bind f) := by
  cases r with
  | ok a => exact hf a
  | exc k => exact absurd rfl (h k)
  | bad => exact cl_bad
theorem cl_bin (o : BOp) (x y : D) : Cl (binD o x y) := by
  unfold binD
  split <;> first | exact cl_ok | exact cl_bad | exact cl_ite cl_ok cl_bad
theorem o_neg : UnR X (unaryOp .USub) (rD1 X.K negD) := by
  intro pins s σ H x v Q I rx h
  obtain ⟨F, dx, sf, hx, h⟩ := h
  cases hx with
  | int i => exact un_neg pins s σ H (.int i) v Q I rx ⟨i, rfl, fin_here sf h (.int _)⟩
  | _ => exact h.elim
theorem cl_neg (x : D) : Cl (negD x) := by
  cases x <;> first | exact cl_ok | exact cl_bad

/-! comparisons -/
def yB (r : Rs Bool) (q : Bool → Prop) : Prop := match r with | .ok b => q b | _ => False
def rB2 (K : Fg) (f : D → D → Rs Bool) : R2 := fun x y H Q => ∃ F dx dy, Same F H ∧ Dp K F x dx ∧ Dp K F y dy ∧ yB (f dx dy) fun b => Q (.bl b) H
theorem scal_v {F : Hp} {x y : V} {dx dy : D} (hx : Dp X.K F x dx) (hy : Dp X.K F y dy) (h : scalD dx dy = true) : scal x y = true ∧ decide (x = y) = eqS dx dy := by
  cases hx <;> cases hy <;> first | exact absurd h Bool.false_ne_true | exact ⟨rfl, by first | rfl | (simp [eqS]; done)⟩
theorem flat_v {F : Hp} {x : V} {dx : D} (hx : Dp X.K F x dx) (h : flatD dx = true) : flatV x = true := by
  cases hx <;> first | rfl | exact absurd h Bool.false_ne_true
theorem eqv_v {F : Hp} {x y : V} {dx dy : D} (hx : Dp X.K F x dx) (hy : Dp X.K F y dy) (h : flatD dx = true) (h' : flatD dy = true) : eqV x y = PyData.eqv dx dy := by
  cases hx <;> cases hy <;> first | rfl | exact absurd h Bool.false_ne_true | exact absurd h' Bool.false_ne_true | (unfold PyData.eqv; rfl)
theorem all_v {F : Hp} : ∀ {xs : List V} {ds : List D}, DpAll X.K F xs ds → ds.all flatD = true → xs.all flatV = true
  | _, _, .nil, _ => rfl
  | _, _, .cons h t, e => by
    rw [List.all_cons, Bool.and_eq_true] at e ⊢
    exact ⟨flat_v h e.1, all_v t e.2⟩
theorem any_v {F : Hp} {x : V} {dx : D} (hx : Dp X.K F x dx) (fx : flatD dx = true) : ∀ {xs : List V} {ds : List D}, DpAll X.K F xs ds → ds.all flatD = true → (xs.any fun y => eqV y x) = ds.any fun y => PyData.eqv y dx
  | _, _, .nil, _ => rfl
  | _, _, .cons h t, e => by
    rw [List.all_cons, Bool.and_eq_true] at e
    rw [List.any_cons, List.any_cons, eqv_v h hx e.1 fx, any_v hx fx t e.2]
theorem eq_step {F H : Hp} {x y : V} {dx dy : D} {Q : VK} {neg : Bool} (sf : Same F H) (hx : Dp X.K F x dx) (hy : Dp X.K F y dy) {b : Bool} (e : eqR SeqAt.shaped dx dy = .ok b) (q : Q (.bl (if neg then !b else b)) H) :
    (scal x y = true ∧ Q (.bl (if neg then !decide (x = y) else decide (x = y))) H) ∨ ∃ d e, Dp X.K H x d ∧ Dp X.K H y e ∧ SeqAt.shaped d = true ∧ SeqAt.shaped e = true ∧ Q (.bl (if neg then !PyData.eqv d e else PyData.eqv d e)) H := by
  unfold eqR at e
  split at e
  · rename_i hs
    obtain ⟨h1, h2⟩ := scal_v hx hy hs
    cases e
    exact .inl ⟨h1, by rw [h2]; exact q⟩
  · split at e
    · rename_i hs
      cases e
      exact .inr ⟨dx, dy, dp_mono sf hx, dp_mono sf hy, hs.1, hs.2, q⟩
    · cases e
theorem c_eq (hu : X.A.units + 64 < cLine) : OpR X (compareOp .Eq) (rB2 X.K (eqR SeqAt.shaped)) := by
  intro pins s σ H x y v u Q I rx ry h
  obtain ⟨F, dx, dy, sf, hx, hy, h⟩ := h
  cases e : eqR SeqAt.shaped dx dy with
  | ok b =>
    rw [e] at h
    rcases eq_step (neg := false) sf hx hy e h with q | q
    · exact op_eq pins s σ H x y v u Q I rx ry q
    · exact op_eqD hu pins s σ H x y v u Q I rx ry q
  | exc k => rw [e] at h; exact h.elim
  | bad => rw [e] at h; exact h.elim
theorem c_ne (hu : X.A.units + 64 < cLine) : OpR X (compareOp .NotEq) (rB2 X.K fun x y => (eqR SeqAt.shaped x y).bind fun b => .ok (!b)) := by
  intro pins s σ H x y v u Q I rx ry h
  obtain ⟨F, dx, dy, sf, hx, hy, h⟩ := h
  cases e : eqR SeqAt.shaped dx dy with
  | ok b =>
    simp only [e, Rs.bind, yB] at h
    rcases eq_step (neg := true) sf hx hy e h with q | q
    · exact op_ne pins s σ H x y v u Q I rx ry q
    · exact op_neD hu pins s σ H x y v u Q I rx ry q
  | exc k => simp only [e, Rs.bind, yB] at h
  | bad => simp only [e, Rs.bind, yB] at h
theorem inv_in {x y : D} {b : Bool} (h : inR x y = .ok b) : ∃ ys, (y = .list ys ∨ y = .tuple ys) ∧ flatD x = true ∧ ys.all flatD = true ∧ b = ys.any fun y => PyData.eqv y x := by
  unfold inR at h
  split at h
  · split at h
    · cases h
      exact ⟨_, .inl rfl, (‹_ ∧ _›).1, (‹_ ∧ _›).2, rfl⟩
    · cases h
  · split at h
    · cases h
      exact ⟨_, .inr rfl, (‹_ ∧ _›).1, (‹_ ∧ _›).2, rfl⟩
    · cases h
  · cases h
theorem in_step {F H : Hp} {x y : V} {dx dy : D} {Q : VK} {neg : Bool} (sf : Same F H) (hx : Dp X.K F x dx) (hy : Dp X.K F y dy) {b : Bool} (e : inR dx dy = .ok b) (q : Q (.bl (if neg then !b else b)) H) : rIn X.K neg x y H Q := by
  obtain ⟨ys, hy', fx, fy, rfl⟩ := inv_in e
  rcases hy' with rfl | rfl
  · obtain ⟨a, vs, rfl, qa, da⟩ := dp_lst hy
    exact ⟨a, vs, rfl, .inl (sf.seq qa), flat_v hx fx, all_v da fy, by unfold inV; rw [any_v hx fx da fy]; exact q⟩
  · obtain ⟨a, vs, rfl, qa, da⟩ := dp_tup hy
    exact ⟨a, vs, rfl, .inr (same_seqT sf qa), flat_v hx fx, all_v da fy, by unfold inV; rw [any_v hx fx da fy]; exact q⟩
theorem c_in : OpR X (compareOp .In) (rB2 X.K inR) := by
  intro pins s σ H x y v u Q I rx ry h
  obtain ⟨F, dx, dy, sf, hx, hy, h⟩ := h
  cases e : inR dx dy with
  | ok b =>
    rw [e] at h
    exact op_in_seq pins s σ H x y v u Q I rx ry (in_step (neg := false) sf hx hy e h)
  | exc k => rw [e] at h; exact h.elim
  | bad => rw [e] at h; exact h.elim
theorem c_nin : OpR X (compareOp .NotIn) (rB2 X.K fun x y => (inR x y).bind fun b => .ok (!b)) := by
  intro pins s σ H x y v u Q I rx ry h
  obtain ⟨F, dx, dy, sf, hx, hy, h⟩ := h
  cases e : inR dx dy with
  | ok b =>
    simp only [e, Rs.bind, yB] at h
    exact op_notIn_seq pins s σ H x y v u Q I rx ry (in_step (neg := true) sf hx hy e h)
  | exc k => simp only [e, Rs.bind, yB] at h
  | bad => simp only [e, Rs.bind, yB] at h
theorem c_ints {o : CmpOp} {f : D → D → Rs Bool} {p : Int → Int → Bool} (hf : ∀ x y b, f x y = .ok b → ∃ i j, x = .int i ∧ y = .int j ∧ b = p i j) (hr : OpR X (compareOp o) (rI0 fun i j => .bl (p i j))) : OpR X (compareOp o) (rB2 X.K f) := by
  intro pins s σ H x y v u Q I rx ry h
  obtain ⟨F, dx, dy, sf, hx, hy, h⟩ := h
  cases e : f dx dy with
  | ok b =>
    rw [e] at h
    obtain ⟨i, j, rfl, rfl, rfl⟩ := hf _ _ _ e
    rw [dp_int hx] at rx
    rw [dp_int hy] at ry
    exact hr pins s σ H (.int i) (.int j) v u Q I rx ry ⟨i, j, rfl, rfl, h⟩
  | exc k => rw [e] at h; exact h.elim
  | bad => rw [e] at h; exact h.elim
def copOf : COp → CmpOp
  | .lt => .Lt | .le => .LtE | .gt => .Gt | .ge => .GtE | .eq => .Eq | .ne => .NotEq | .inn => .In | .nin => .NotIn
theorem inv_cmp {o : COp} {p : Int → Int → Bool} (h : ∀ x y, cmpR SeqAt.shaped o x y = match x, y with | .int i, .int j => .ok (p i j) | _, _ => .bad) : ∀ x y b, cmpR SeqAt.shaped o x y = .ok b → ∃ i j, x = .int i ∧ y = .int j ∧ b = p i j := by
  intro x y b e
  rw [h] at e
  split at e
  · cases e
    exact ⟨_, _, rfl, rfl, rfl⟩
  · cases e
theorem c_all (hu : X.A.units + 64 < cLine) (o : COp) : OpR X (compareOp (copOf o)) (rB2 X.K (cmpR SeqAt.shaped o)) := by
  cases o
  · exact c_ints (inv_cmp (p := fun i j => decide (i < j)) fun x y => by cases x <;> cases y <;> rfl) op_lt
  · exact c_ints (inv_cmp (p := fun i j => decide (i ≤ j)) fun x y => by cases x <;> cases y <;> rfl) op_le
  · exact c_ints (inv_cmp (p := fun i j => decide (j < i)) fun x y => by cases x <;> cases y <;> rfl) op_gt
  · exact c_ints (inv_cmp (p := fun i j => decide (j ≤ i)) fun x y => by cases x <;> cases y <;> rfl) op_ge
  · have e : cmpR SeqAt.shaped .eq = eqR SeqAt.shaped := by
      funext x y
      cases x <;> cases y <;> rfl
    rw [e]
    exact c_eq hu
  · have e : cmpR SeqAt.shaped .ne = fun x y => (eqR SeqAt.shaped x y).bind fun b => .ok (!b) := by
      funext x y
      cases x <;> cases y <;> rfl
    rw [e]
    exact c_ne hu
  · have e : cmpR SeqAt.shaped .inn = inR := by
      funext x y
      cases x <;> cases y <;> rfl
    rw [e]
    exact c_in
  · have e : cmpR SeqAt.shaped .nin = fun x y => (inR x y).bind fun b => .ok (!b) := by
      funext x y
      cases x <;> cases y <;> rfl
    rw [e]
    exact c_nin
theorem cl_eq (x y : D) : Cl (eqR SeqAt.shaped x y) := cl_ite cl_ok (cl_ite cl_ok cl_bad)
theorem cl_in (x y : D) : Cl (inR x y) := by
  unfold inR
  split <;> first | exact cl_bad | exact cl_ite cl_ok cl_bad
theorem cl_cmp (o : COp) (x y : D) : Cl (cmpR SeqAt.shaped o x y) := by
  unfold cmpR
  split <;> first | exact cl_ok | exact cl_bad | exact cl_eq _ _ | exact cl_in _ _ | exact cl_bind (cl_eq _ _) fun _ => cl_ok | exact cl_bind (cl_in _ _) fun _ => cl_ok
end
end Q

set_option Elab.async false
set_option linter.all false
set_option maxRecDepth 100000
set_option autoImplicit false
set_option maxHeartbeats 4000000
namespace Q
open PySem PySem.Spec PyProof.Rows L2
section
variable {X : Cx}
/-! subscripts -/
theorem inv_ixD {i : Int} {xs : List D} {d : D} (h : ixD i xs = .ok d) : atI xs i = some d := by
  unfold ixD at h
  unfold atI ixN
  split at h
  · rename_i h0
    rw [if_pos h0]
    split at h
    · rename_i x hx
      cases h
      have : i < (xs.length : Int) := by
        have := (List.getElem?_eq_some_iff.mp hx).1
        omega
      rw [if_pos this]
      exact hx
    · cases h
  · rename_i h0
    rw [if_neg h0]
    split at h
    · rename_i h1
      rw [if_pos h1]
      split at h
      · rename_i x hx
        cases h
        exact hx
      · cases h
    · cases h
theorem at_v {F : Hp} {xs : List V} {ds : List D} {i : Int} {d : D} (a : DpAll X.K F xs ds) (h : atI ds i = some d) : ∃ v, atI xs i = some v ∧ Dp X.K F v d := by
  unfold atI at h ⊢
  rw [dps_len a]
  cases e : ixN ds.length i with
  | none => rw [e] at h; cases h
  | some j =>
    rw [e] at h
    exact dps_get a h
theorem i_ix : IxR X (rD2 X.K ixR) := by
  intro value slice pins s σ H x y v u Q I rx ry h hs
  obtain ⟨F, dx, dy, sf, hx, hy, h⟩ := h
  have key : ∀ (xs : List D) (i : Int), ixD i xs = ixD i xs → (dx = .list xs ∨ dx = .tuple xs) → dy = .int i → fin (Dp X.K) F H (ixD i xs) Q → wpAny (model X.prog X.w) X.A (subscriptTail value slice v u) (EP X pins σ Q) X.xe s := by
    intro xs i _ hd ei hq
    subst ei
    cases e : ixD i xs with
    | ok d =>
      rw [e] at hq
      have ea := inv_ixD e
      have ey := dp_int hy
      subst ey
      rcases hd with rfl | rfl
      · obtain ⟨a, vs, rfl, qa, da⟩ := dp_lst hx
        obtain ⟨z, hz1, hz2⟩ := at_v da ea
        exact ix_list value slice pins s σ H _ _ v u Q I rx ry ⟨a, vs, i, z, rfl, rfl, sf.seq qa, hz1, fin_here sf hq hz2⟩ hs
      · obtain ⟨a, vs, rfl, qa, da⟩ := dp_tup hx
        obtain ⟨z, hz1, hz2⟩ := at_v da ea
        exact ix_tup value slice pins s σ H _ _ v u Q I rx ry ⟨a, vs, i, z, rfl, rfl, same_seqT sf qa, hz1, fin_here sf hq hz2⟩ hs
    | exc k => rw [e] at hq; exact hq.elim
    | bad => rw [e] at hq; exact hq.elim
  cases dx <;> first
    | exact h.elim
    | (cases dy <;> first
        | exact h.elim
        | exact key _ _ rfl (.inl rfl) rfl h
        | exact key _ _ rfl (.inr rfl) rfl h)
theorem cl_ix (x y : D) : Cl (ixR x y) := by
  have k : ∀ i xs, Cl (ixD i xs) := fun i xs => by
    unfold ixD
    refine cl_ite ?_ (cl_ite ?_ cl_bad) <;> (split <;> first | exact cl_ok | exact cl_bad)
  unfold ixR
  split <;> first | exact k _ _ | exact cl_bad
theorem sIx_eq (n d : Nat) (o : Option Int) : sIx n d o = HT.sIx n d o := by cases o <;> rfl
theorem cut_eq {α : Type} (xs : List α) (lo hi : Option Int) : cut xs lo hi = (xs.drop (HT.sIx xs.length 0 lo)).take (HT.sIx xs.length xs.length hi - HT.sIx xs.length 0 lo) := by
  unfold cut
  rw [sIx_eq, sIx_eq]
def rSl (K : Fg) : V → Option Int → Option Int → Hp → VK → Prop := fun x lo hi H Q => ∃ F dx, Same F H ∧ Dp K F x dx ∧ fin (Dp K) F H (slcR dx lo hi) Q
theorem i_sl : SlR X (rSl X.K) := by
  intro pins s σ H x v vl vu lo hi sl Q I rx hs pl pu h
  obtain ⟨F, dx, sf, hx, h⟩ := h
  cases dx with
  | list ds =>
    obtain ⟨a, vs, rfl, qa, da⟩ := dp_lst hx
    refine sl_list pins s σ H (.ref a) v vl vu lo hi sl Q I rx hs pl pu ⟨a, vs, rfl, sf.seq qa, fun p hp => ?_⟩
    refine h _ _ _ (Ext.new sf hp) (.lst (.inl (.inl upd_same)) ?_)
    rw [cut_eq, ← dps_len da]
    exact dps_take _ (dps_drop _ (dps_mono (Ext.new (o := HO.lst (cutV vs lo hi)) sf hp).ff da))
  | tuple ds =>
    obtain ⟨a, vs, rfl, qa, da⟩ := dp_tup hx
    have ht := (same_seqT sf qa)
    have h : fin (Dp X.K) F H (Rs.ok (.tuple (cut ds lo hi))) Q := h
    have hl := dps_len da
    refine sl_tupA pins s σ H (.ref a) v vl vu lo hi sl Q I rx hs pl pu ⟨a, vs, rfl, ht, fun hw => ?_, fun _ p hp => ?_⟩
    · have e : cut ds lo hi = ds := by
        rw [cut_eq, ← hl, hw.1, hw.2, List.drop_zero, Nat.sub_zero, hl, List.take_length]
      rw [e] at h
      exact h _ _ _ (Ext.refl sf) (.tup qa da)
    · refine h _ _ _ (Ext.new sf hp) (.tup (.inl (.inl upd_same)) ?_)
      rw [cut_eq, ← dps_len da]
      exact dps_take _ (dps_drop _ (dps_mono (Ext.new (o := HO.tup (cutV vs lo hi)) sf hp).ff da))
  | _ => exact h.elim

/-! calls of built-ins -/
theorem ints_v {K : Fg} {F : Hp} : ∀ {vs : List V} {ds : List D} {ns : List Int}, DpAll K F vs ds → intsOf ds = some ns → vs = ns.map V.int
  | _, _, _, .nil, e => by
    cases e
    rfl
  | _, d :: ds, ns, .cons h t, e => by
    cases d with
    | int i =>
      unfold intsOf at e
      cases e2 : intsOf ds with
      | none => rw [e2] at e; cases e
      | some ms =>
        rw [e2] at e
        cases e
        rw [dp_int h, ints_v t e2]
        rfl
    | _ => cases e
theorem lstMin_spec : ∀ (ns : List Int) (m : Int), (lstMin m ns = m ∨ lstMin m ns ∈ ns) ∧ lstMin m ns ≤ m ∧ ∀ y ∈ ns, lstMin m ns ≤ y
  | [], m => ⟨.inl rfl, Int.le_refl m, fun _ h => nomatch h⟩
  | x :: r, m => by
    obtain ⟨h1, h2, h3⟩ := lstMin_spec r (if x < m then x else m)
    unfold lstMin
    have hm : (if x < m then x else m) ≤ m ∧ (if x < m then x else m) ≤ x := by split <;> omega
    refine ⟨?_, ?_, fun y hy => ?_⟩
    · rcases h1 with h1 | h1
      · rw [h1]
        split
        · exact .inr List.mem_cons_self
        · exact .inl rfl
      · exact .inr (List.mem_cons_of_mem _ h1)
    · omega
    · rcases List.mem_cons.mp hy with rfl | hy
      · omega
      · exact h3 y hy
theorem lstMax_spec : ∀ (ns : List Int) (m : Int), (lstMax m ns = m ∨ lstMax m ns ∈ ns) ∧ m ≤ lstMax m ns ∧ ∀ y ∈ ns, y ≤ lstMax m ns
  | [], m => ⟨.inl rfl, Int.le_refl m, fun _ h => nomatch h⟩
  | x :: r, m => by
    obtain ⟨h1, h2, h3⟩ := lstMax_spec r (if m < x then x else m)
    unfold lstMax
    have hm : m ≤ (if m < x then x else m) ∧ x ≤ (if m < x then x else m) := by split <;> omega
    refine ⟨?_, ?_, fun y hy => ?_⟩
    · rcases h1 with h1 | h1
      · rw [h1]
        split
        · exact .inr List.mem_cons_self
        · exact .inl rfl
      · exact .inr (List.mem_cons_of_mem _ h1)
    · omega
    · rcases List.mem_cons.mp hy with rfl | hy
      · omega
      · exact h3 y hy
theorem dps1 {K : Fg} {F : Hp} {xs : List V} {d : D} (h : DpAll K F xs [d]) : ∃ x, xs = [x] ∧ Dp K F x d := by
  cases h with
  | cons a b => cases b; exact ⟨_, rfl, a⟩
theorem dps2 {K : Fg} {F : Hp} {xs : List V} {d e : D} (h : DpAll K F xs [d, e]) : ∃ x y, xs = [x, y] ∧ Dp K F x d ∧ Dp K F y e := by
  cases h with
  | cons a b => cases b with
    | cons c r => cases r; exact ⟨_, _, rfl, a, c⟩
theorem k_len : CallR X (.builtin "len") (rDs X.K (bltR .len)) := by
  intro pins s σ H xs us Q I r h
  obtain ⟨F, ds, sf, hd, h⟩ := h
  rcases ds with _ | ⟨d, r'⟩
  · exact h.elim
  cases d <;> cases r' <;> first | exact h.elim | skip
  · obtain ⟨x, rfl, hx⟩ := dps1 hd
    obtain ⟨a, vs, rfl, qa, da⟩ := dp_lst hx
    exact call_len_seq pins s σ H _ us Q I r ⟨a, vs, rfl, .inl (sf.seq qa), by rw [dps_len da]; exact fin_here sf h (.int _)⟩
  · obtain ⟨x, rfl, hx⟩ := dps1 hd
    obtain ⟨a, vs, rfl, qa, da⟩ := dp_tup hx
    exact call_len_seq pins s σ H _ us Q I r ⟨a, vs, rfl, .inr (same_seqT sf qa), by rw [dps_len da]; exact fin_here sf h (.int _)⟩
theorem k_list : CallR X (.type "list") (rDs X.K (bltR .list)) := by
  intro pins s σ H xs us Q I r h
  obtain ⟨F, ds, sf, hd, h⟩ := h
  rcases ds with _ | ⟨d, r'⟩
  · exact h.elim
  cases d <;> cases r' <;> first | exact h.elim | skip
  · obtain ⟨x, rfl, hx⟩ := dps1 hd
    obtain ⟨a, vs, rfl, qa, da⟩ := dp_lst hx
    exact call_list_of pins s σ H _ us Q I r ⟨a, vs, rfl, .inl (sf.seq qa), fun p hp => h _ _ _ (Ext.new sf hp) (.lst (.inl (.inl upd_same)) (dps_mono (Ext.new (o := HO.lst vs) sf hp).ff da))⟩
  · obtain ⟨x, rfl, hx⟩ := dps1 hd
    obtain ⟨a, vs, rfl, qa, da⟩ := dp_tup hx
    exact call_list_of pins s σ H _ us Q I r ⟨a, vs, rfl, .inr (same_seqT sf qa), fun p hp => h _ _ _ (Ext.new sf hp) (.lst (.inl (.inl upd_same)) (dps_mono (Ext.new (o := HO.lst vs) sf hp).ff da))⟩
theorem k_tuple : CallR X (.type "tuple") (rDs X.K (bltR .tuple)) := by
  intro pins s σ H xs us Q I r h
  obtain ⟨F, ds, sf, hd, h⟩ := h
  rcases ds with _ | ⟨d, r'⟩
  · exact h.elim
  cases d <;> cases r' <;> first | exact h.elim | skip
  · obtain ⟨x, rfl, hx⟩ := dps1 hd
    obtain ⟨a, vs, rfl, qa, da⟩ := dp_lst hx
    exact call_tuple_of pins s σ H _ us Q I r ⟨a, vs, rfl, .inl ⟨sf.seq qa, fun p hp => h _ _ _ (Ext.new sf hp) (.tup (.inl (.inl upd_same)) (dps_mono (Ext.new (o := HO.tup vs) sf hp).ff da))⟩⟩
theorem k_abs : CallR X (.builtin "abs") (rDs X.K (bltR .abs)) := by
  intro pins s σ H xs us Q I r h
  obtain ⟨F, ds, sf, hd, h⟩ := h
  rcases ds with _ | ⟨d, r'⟩
  · exact h.elim
  cases d <;> cases r' <;> first | exact h.elim | skip
  obtain ⟨x, rfl, hx⟩ := dps1 hd
  rw [dp_int hx] at r
  exact call_abs pins s σ H _ us Q I r ⟨_, rfl, fin_here sf h (.int _)⟩
theorem k_int1 : CallR X (.type "int") (rDs X.K (bltR .int1)) := by
  intro pins s σ H xs us Q I r h
  obtain ⟨F, ds, sf, hd, h⟩ := h
  rcases ds with _ | ⟨d, r'⟩
  · exact h.elim
  cases d <;> cases r' <;> first | exact h.elim | skip
  · obtain ⟨x, rfl, hx⟩ := dps1 hd
    rw [dp_bl hx] at r
    exact call_int1 pins s σ H _ us Q I r (.inr ⟨_, rfl, fin_here sf h (.int _)⟩)
  · obtain ⟨x, rfl, hx⟩ := dps1 hd
    rw [dp_int hx] at r
    exact call_int1 pins s σ H _ us Q I r (.inl ⟨_, rfl, fin_here sf h (.int _)⟩)
theorem k_min2 (hc : X.calm = true) : CallR X (.builtin "min") (rDs X.K (bltR .min2)) := by
  intro pins s σ H xs us Q I r h
  obtain ⟨F, ds, sf, hd, h⟩ := h
  rcases ds with _ | ⟨d, _ | ⟨e, r'⟩⟩
  · exact h.elim
  · cases d <;> exact h.elim
  cases d <;> cases e <;> cases r' <;> first | exact h.elim | skip
  obtain ⟨x, y, rfl, hx, hy⟩ := dps2 hd
  rw [dp_int hx, dp_int hy] at r
  exact call_min2 hc pins s σ H _ us Q I r ⟨_, _, rfl, fin_here sf h (.int _)⟩
theorem k_max2 (hc : X.calm = true) : CallR X (.builtin "max") (rDs X.K (bltR .max2)) := by
  intro pins s σ H xs us Q I r h
  obtain ⟨F, ds, sf, hd, h⟩ := h
  rcases ds with _ | ⟨d, _ | ⟨e, r'⟩⟩
  · exact h.elim
  · cases d <;> exact h.elim
  cases d <;> cases e <;> cases r' <;> first | exact h.elim | skip
  obtain ⟨x, y, rfl, hx, hy⟩ := dps2 hd
  rw [dp_int hx, dp_int hy] at r
  exact call_max2 hc pins s σ H _ us Q I r ⟨_, _, rfl, fin_here sf h (.int _)⟩
theorem k_sum (hc : X.calm = true) : CallR X (.builtin "sum") (rDs X.K (bltR .sum)) := by
  intro pins s σ H xs us Q I r h
  obtain ⟨F, ds, sf, hd, h⟩ := h
  rcases ds with _ | ⟨d, r'⟩
  · exact h.elim
  cases d <;> cases r' <;> first | exact h.elim | skip
  rename_i zs
  obtain ⟨x, rfl, hx⟩ := dps1 hd
  obtain ⟨a, vs, rfl, qa, da⟩ := dp_lst hx
  cases e : intsOf zs with
  | none => simp only [bltR, e] at h; exact h.elim
  | some ns =>
    simp only [bltR, e] at h
    rw [ints_v da e] at qa
    exact cr_sum hc pins s σ H _ us Q I r ⟨a, ns, rfl, sf.seq qa, fin_here sf h (.int _)⟩
theorem bools_v {K : PySem.W.Frag} {F : Hp} : ∀ {ds : List D} {vs : List V} {bs : List Bool}, DpAll K F vs ds → boolsOf ds = some bs → vs = bs.map V.bl
  | [], _, bs, .nil, e => by
    cases e
    rfl
  | d :: ds, _, bs, .cons r rs, e => by
    cases d <;> simp only [boolsOf] at e <;> try cases e
    rename_i b
    cases e2 : boolsOf ds with
    | none => rw [e2] at e; cases e
    | some cs =>
      rw [e2] at e
      cases e
      rw [dp_bl r, bools_v rs e2]
      rfl
theorem k_all (hc : X.calm = true) : CallR X (.builtin "all") (rDs X.K (bltR .all)) := by
  intro pins s σ H xs us Q I r h
  obtain ⟨F, ds, sf, hd, h⟩ := h
  rcases ds with _ | ⟨d, r'⟩
  · exact h.elim
  cases d <;> cases r' <;> first | exact h.elim | skip
  rename_i zs
  obtain ⟨x, rfl, hx⟩ := dps1 hd
  obtain ⟨a, vs, rfl, qa, da⟩ := dp_lst hx
  cases e : boolsOf zs with
  | none => simp only [bltR, e] at h; exact h.elim
  | some bs =>
    simp only [bltR, e] at h
    rw [bools_v da e] at qa
    exact cr_all hc pins s σ H _ us Q I r ⟨a, bs, rfl, sf.seq qa, fin_here sf h (.bl _)⟩
theorem k_str1 : CallR X (.type "str") (rDs X.K (bltR .str1)) := by
  intro pins s σ H xs us Q I r h
  obtain ⟨F, ds, sf, hd, h⟩ := h
  rcases ds with _ | ⟨d, r'⟩
  · exact h.elim
  cases d <;> cases r' <;> first | exact h.elim | skip
  obtain ⟨x, rfl, hx⟩ := dps1 hd
  simp only [bltR] at h
  split at h
  case isFalse => exact h.elim
  rename_i hl
  rw [dp_int hx] at r
  exact call_str_int pins s σ H _ us Q I r ⟨_, rfl, hl, fin_here sf h (.str _)⟩
theorem k_minl (hc : X.calm = true) : CallR X (.builtin "min") (rDs X.K (bltR .minl)) := by
  intro pins s σ H xs us Q I r h
  obtain ⟨F, ds, sf, hd, h⟩ := h
  rcases ds with _ | ⟨d, r'⟩
  · exact h.elim
  cases d <;> cases r' <;> first | exact h.elim | skip
  rename_i zs
  obtain ⟨x, rfl, hx⟩ := dps1 hd
  obtain ⟨a, vs, rfl, qa, da⟩ := dp_lst hx
  cases e : intsOf zs with
  | none => simp only [bltR, e] at h; exact h.elim
  | some ns =>
    cases ns with
    | nil => simp only [bltR, e] at h; exact h.elim
    | cons n ns =>
      simp only [bltR, e] at h
      rw [ints_v da e] at qa
      obtain ⟨h1, h2, h3⟩ := lstMin_spec ns n
      refine cr_min hc pins s σ H _ us Q I r ⟨a, n :: ns, rfl, sf.seq qa, by simp, fun m hm hy => ?_⟩
      have e1 : m = lstMin n ns := by
        have a1 := hy (lstMin n ns) (by rcases h1 with h1 | h1 <;> simp [h1])
        rcases List.mem_cons.mp hm with rfl | hm
        · omega
        · have := h3 m hm
          omega
      rw [e1]
      exact fin_here sf h (.int _)
theorem k_maxl (hc : X.calm = true) : CallR X (.builtin "max") (rDs X.K (bltR .maxl)) := by
  intro pins s σ H xs us Q I r h
  obtain ⟨F, ds, sf, hd, h⟩ := h
  rcases ds with _ | ⟨d, r'⟩
  · exact h.elim
  cases d <;> cases r' <;> first | exact h.elim | skip
  rename_i zs
  obtain ⟨x, rfl, hx⟩ := dps1 hd
  obtain ⟨a, vs, rfl, qa, da⟩ := dp_lst hx
  cases e : intsOf zs with
  | none => simp only [bltR, e] at h; exact h.elim
  | some ns =>
    cases ns with
    | nil => simp only [bltR, e] at h; exact h.elim
    | cons n ns =>
      simp only [bltR, e] at h
      rw [ints_v da e] at qa
      obtain ⟨h1, h2, h3⟩ := lstMax_spec ns n
      refine cr_max hc pins s σ H _ us Q I r ⟨a, n :: ns, rfl, sf.seq qa, by simp, fun m hm hy => ?_⟩
      have e1 : m = lstMax n ns := by
        have a1 := hy (lstMax n ns) (by rcases h1 with h1 | h1 <;> simp [h1])
        rcases List.mem_cons.mp hm with rfl | hm
        · omega
        · have := h3 m hm
          omega
      rw [e1]
      exact fin_here sf h (.int _)
theorem cl_blt (b : Blt) (xs : List D) : Cl (bltR b xs) := by
  unfold bltR
  split <;> first | exact cl_ok | exact cl_bad | (split <;> first | exact cl_ok | exact cl_bad)
/-! isinstance -/
def tyN : Ty → String
  | .int => "int" | .bool => "bool" | .str => "str" | .tup => "tuple" | .lst => "list"
theorem isi_of {F H : Hp} {x : V} {d : D} {Q : VK} (t : Ty) (sf : Same F H) (hx : Dp X.K F x d) (q : Q (.bl (isiD d t)) H) : rIsi X.K [x, .ty (tyN t)] H Q := by
  have lst : ∀ {a : Addr} {xs : List V}, SqL X.K H a xs → TyX X.K H (.ref a) (.type "list") := fun {a xs} h => by
    rcases h with (h | ⟨o, h⟩) | ⟨o, its, n, hk, hc, _⟩
    · exact .base (.lst h)
    · exact .base (.frz h)
    · exact .kList hk hc
  have tup : ∀ {a : Addr} {xs : List V}, SqT X.K H a xs → TyX X.K H (.ref a) (.type "tuple") := fun {a xs} h => by
    rcases h with (h | ⟨o, h⟩) | ⟨o, its, n, hk, hc, _⟩
    · exact .base (.tup h)
    · exact .fTuple h
    · exact .kTuple hk hc
  have go : ∀ (c : String) (b : Bool), TyX X.K H x (.type c) → kitB c (tyN t) = some b → b = isiD d t → rIsi X.K [x, .ty (tyN t)] H Q := fun c b ty e eb =>
    ⟨x, .ty (tyN t), .type c, .type (tyN t), b, rfl, .ty _, ty, kit_ty e, by rw [eb]; exact q⟩
  cases hx with
  | non => cases t <;> first | exact go "NoneType" true (.base .non) (by decide +kernel) rfl | exact go "NoneType" false (.base .non) (by decide +kernel) rfl
  | bl b => cases t <;> first | exact go "bool" true (.base (.bl b)) (by decide +kernel) rfl | exact go "bool" false (.base (.bl b)) (by decide +kernel) rfl
  | int i => cases t <;> first | exact go "int" true (.base (.int i)) (by decide +kernel) rfl | exact go "int" false (.base (.int i)) (by decide +kernel) rfl
  | str s => cases t <;> first | exact go "str" true (.base (.str s)) (by decide +kernel) rfl | exact go "str" false (.base (.str s)) (by decide +kernel) rfl
  | lst h _ => cases t <;> first | exact go "list" true (lst (sf.seq h)) (by decide +kernel) rfl | exact go "list" false (lst (sf.seq h)) (by decide +kernel) rfl
  | tup h _ => cases t <;> first | exact go "tuple" true (tup (same_seqT sf h)) (by decide +kernel) rfl | exact go "tuple" false (tup (same_seqT sf h)) (by decide +kernel) rfl
end
end Q

set_option Elab.async false
set_option linter.all false
set_option maxRecDepth 100000
set_option autoImplicit false
set_option maxHeartbeats 4000000
namespace Q
open PySem PySem.Spec PyProof.Rows L2

/-! ### what a def promises -/
def outP (K : Fg) (F H : Hp) (r : Rs Sl) (Q : VK) (E : Nat → Hp → Prop) : Prop := match r with
  | .ok (.fr d) => ∀ F' H' v, Ext F H F' H' → Dp K F' v d → Q v H'
  | .ok (.ow es) => ∀ F' H' p ws, Ext F H F' H' → H p = none → F' p = none → H' p = some (.lst ws) → DpAll K F' ws es → Q (.ref p) H'
  | .ok (.er _) => False
  | .exc k => ∀ F' H', Ext F H F' H' → E k H'
  | .bad => False
def spF (K : Fg) (T : List Addr) (cls : Nat → Value) (n : Nat) (φ : List D → Rs Sl) : Sp := fun vs H Q E => vs.length = n ∧ (∀ t ∈ T, GxR.TabG H t) ∧ ∃ F ds, (∀ t ∈ T, F t = none) ∧ Same F H ∧ DpAll K F vs ds ∧ outP K F H (φ ds) Q fun k H' => E (cls k) none H'

/-! ### the text -/
structure Cfg where
  N : List Str
  fs : List (Str × Nat)
  hot : Bool
  /-- the errors' names: caught, raised -/
  cs : List Str
  rs : List Str
  /-- the names that isinstance asks an error for -/
  ist : List (Str × List (Nat × Bool))
  /-- numbers that stand for good -/
  gi : List (Str × Int)
  /-- defs that are told a caught error -/
  es : List (Str × List (Nat × List Str))
  /-- it has a table of code objects -/
  gen : Bool
/-- no comprehensions here -/
def Cfg.cmp (g : Cfg) : Bool := g.hot || g.gen
theorem cmp_of {g : Cfg} (h : g.cmp = false) : g.hot = false ∧ g.gen = false := by
  unfold Cfg.cmp at h
  rw [Bool.or_eq_false_iff] at h
  exact h
/-- not the scope of a generator expression -/
def pl0 (sc : Scope) : Bool := sc.names.all fun y => !(y.1 == (".0" : Str))
def okN (x : Str) : Bool := !(x == ("__debug__" : Str)) && !(x == ("__classdict__" : Str)) && !(x == ("__name__" : Str))
def visB (sc : Scope) (x : Str) : Bool := match sc.names.lookup x with
  | some .local => true | some .cell => true | some .free => true | _ => false
def locB (sc : Scope) (x : Str) : Bool := match sc.names.lookup x with
  | some .local => true | _ => false
def glB (sc : Scope) (x : Str) : Bool := (match sc.names.lookup x with
  | some .globalImplicit => true | _ => false) && okN x
def chkV (g : Cfg) (sc : Scope) (i : Nat) (x : Str) : Bool := decide (g.N[i]? = some x) && visB sc x && okN x
def nst : Expr → Bool
  | .Starred _ _ => false
  | _ => true
def nset : Expr → Bool
  | .Set _ _ _ => false
  | _ => true
def nsl : Expr → Bool
  | .Slice _ _ _ _ => false
  | _ => true
def bltN : Blt → Str
  | .len => "len" | .list => "list" | .abs => "abs" | .min2 => "min" | .max2 => "max" | .int1 => "int" | .sum => "sum" | .minl => "min" | .maxl => "max" | .tuple => "tuple" | .all => "all" | .str1 => "str"
def bltCold : Blt → Bool
  | .len => true | .list => true | .abs => true | .int1 => true | .tuple => true | _ => false
def bnames : List Str := ["len", "list", "abs", "min", "max", "int", "sum", "tuple", "isinstance", "bool", "str", "range", "reversed", "zip", "enumerate", "all"]
def tySt (t : Ty) : Str := Str.ofString (tyN t)
def vIx : Ex → Nat
  | .var i => i | _ => 0
def isVar : Ex → Bool
  | .var _ => true | _ => false
/-- the scope of a generator expression -/
def genC (scope : Scope) : Bool := (scope.names.all fun y => y.2 != .cell) && !scope.isCoroutine && (match scope.names.lookup (".0" : Str) with
  | some .local => true | _ => false)
def exsNil : Exs → Bool
  | .nil => true | _ => false
mutual
/-- a test only where Python asks it plainly -/
def tst : Ex → Bool
  | .ite _ _ _ => false
  | .nt a => tst a
  | .conj a as => tst a && tsts as
  | .disj a as => tst a && tsts as
  | _ => true
def tsts : Exs → Bool
  | .nil => true
  | .cons t ts => tst t && tsts ts
end
section
variable (g : Cfg)
def chkT : List (List (Nat × Bool)) → Scope → List Expr → Bool
  | [], sc, es => (match es with | [] => true | _ => false)
  | tb :: tbs, sc, es => (match es with | .Name y _ :: r => glB sc y && decide (g.ist.lookup y = some tb) && chkT tbs sc r | _ => false)
mutual
def chk : Ex → Scope → Expr → Bool
  | .var i, sc, e => (match e with | .Name x _ => chkV g sc i x | _ => false)
  | .clsE i tb, sc, e => (match e with | .Call (.Name x _) [.Name z _] [] _ => g.hot && glB sc x && decide (g.es.lookup x = some tb) && chkV g sc i z | _ => false)
  | .ntL i, sc, e => (match e with | .UnaryOp .Not (.Name x _) _ => chkV g sc i x | _ => false)
  | .cI k, sc, e => (match e with | .Constant (.int j) _ _ => decide (k = j) | _ => false)
  | .cS k, sc, e => (match e with | .Constant (.str j) _ _ => decide (k = j) | _ => false)
  | .cB k, sc, e => (match e with | .Constant (.bool j) _ _ => decide (k = j) | _ => false)
  | .cN, sc, e => (match e with | .Constant .none _ _ => true | _ => false)
  | .bin o a b, sc, e => (match e with | .BinOp l op r _ => decide (op = opOf o) && chk a sc l && chk b sc r | _ => false)
  | .neg a, sc, e => (match e with | .UnaryOp .USub l _ => chk a sc l | _ => false)
  | .cmp o a b, sc, e => (match e with | .Compare l [op] [r] _ => decide (op = copOf o) && chk a sc l && chk b sc r && !(behindInMarks op r) | _ => false)
  | .chn o p a b c, sc, e => (match e with | .Compare l [op, op'] [r, z] _ => decide (op = copOf o) && decide (op' = copOf p) && chk a sc l && chk b sc r && chk c sc z && !(lastMarks [op, op'] [r, z]) | _ => false)
  | .isN a, sc, e => (match e with | .Compare l [.Is] [.Constant .none _ _] _ => chk a sc l | _ => false)
  | .notN a, sc, e => (match e with | .Compare l [.IsNot] [.Constant .none _ _] _ => chk a sc l | _ => false)
  | .conj a as, sc, e => (match e with | .BoolOp .And (l :: r :: rs) _ => chk a sc l && chks as sc (r :: rs) | _ => false)
  | .disj a as, sc, e => (match e with | .BoolOp .Or (l :: r :: rs) _ => chk a sc l && chks as sc (r :: rs) | _ => false)
  | .nt a, sc, e => (match e with | .UnaryOp .Not l _ => chk a sc l | _ => false)
  | .ite c a b, sc, e => (match e with | .IfExp z l r _ => tst c && chk c sc z && chk a sc l && chk b sc r | _ => false)
  | .ix a b, sc, e => (match e with | .Subscript l r _ => nsl r && chk a sc l && chk b sc r | _ => false)
  | .slc a lo hi, sc, e => (match e with
      | .Subscript l (.Slice none none none _) _ => chk a sc l && isCN lo && isCN hi
      | .Subscript l (.Slice (some x) none none _) _ => chk a sc l && chk lo sc x && !(isCN lo) && isCN hi
      | .Subscript l (.Slice none (some y) none _) _ => chk a sc l && isCN lo && chk hi sc y && !(isCN hi)
      | .Subscript l (.Slice (some x) (some y) none _) _ => chk a sc l && chk lo sc x && !(isCN lo) && chk hi sc y && !(isCN hi)
      | _ => false)
  | .call f a as, sc, e => (match e with
      | .Call (.Name x _) (l :: ls) [] _ => !g.hot && glB sc x && decide (g.fs[f]? = some (x, ls.length + 1)) && nst l && chk a sc l && chks as sc ls
      | _ => false)
  | .blt b a as, sc, e => (match e with
      | .Call (.Name x _) (l :: ls) [] _ => (!g.hot || bltCold b) && glB sc x && decide (x = bltN b) && nst l && chk a sc l && chks as sc ls
      | _ => false)
  | .tup as, sc, e => (match e with | .Tuple ls _ _ => chks as sc ls | _ => false)
  | .lst as, sc, e => (match e with | .List ls _ => chks as sc ls | _ => false)
  | .isi a t, sc, e => (match e with
      | .Call (.Name x _) [l, .Name y _] [] _ => glB sc x && decide (x = "isinstance") && glB sc y && decide (y = tySt t) && nst l && chk a sc l
      | _ => false)
  | .allG i t a, sc, e => (match e with
      | .Call (.Name y _) [.GeneratorExp el [⟨.Name x _, .Name z _, [], 0⟩] scope _] [] _ => !g.hot && g.gen && pl0 sc && glB sc y && decide (y = "all") && blkC g.N sc scope [(x, i)] && genC scope && locB scope x && chkV g sc (vIx a) z && isVar a && chk t scope el
      | _ => false)
  | .comp i t it, sc, e => (match e with
      | .ListComp el [⟨.Name x _, itr, [], 0⟩] scope _ => !g.cmp && blkC g.N sc scope [(x, i)] && locB (relS scope sc) x && chkI it false sc itr && chk t (relS scope sc) el
      | _ => false)
  | .comp2 i j t it, sc, e => (match e with
      | .ListComp el [⟨.Tuple [.Name x _, .Name z _] _ _, itr, [], 0⟩] scope _ => !g.cmp && decide (i ≠ j) && blkC g.N sc scope [(x, i), (z, j)] && locB (relS scope sc) x && locB (relS scope sc) z && chkI it true sc itr && chk t (relS scope sc) el
      | _ => false)
  | .lrev a, sc, e => (match e with
      | .Call (.Name x _) [.Call (.Name y _) [l] [] _] [] _ => !g.hot && glB sc x && decide (x = "list") && glB sc y && decide (y = "reversed") && nst l && chk a sc l
      | _ => false)
  | .lenO i, sc, e => (match e with
      | .Call (.Name x _) [.Name y _] [] _ => glB sc x && decide (x = "len") && chkV g sc i y
      | _ => false)
  | .fmt a, sc, e => (match e with | .FormattedValue l (-1) none _ => chk a sc l | _ => false)
  | .isB ng b a, sc, e => (match e with
      | .Compare l [.Is] [.Constant (.bool c) _ _] _ => !ng && decide (b = c) && chk a sc l
      | .Compare l [.IsNot] [.Constant (.bool c) _ _] _ => ng && decide (b = c) && chk a sc l
      | _ => false)
  | .mxD mn a d, sc, e => (match e with
      | .Call (.Name x _) [l] [⟨some k, r, _⟩] _ => !g.hot && glB sc x && decide (x = (if mn = true then "min" else "max")) && decide (k = "default") && nst l && chk a sc l && chk d sc r
      | _ => false)
  | .gI i, sc, e => (match e with | .Name x _ => glB sc x && decide (g.gi.lookup x = some i) | _ => false)
  | .ixO i b, sc, e => (match e with | .Subscript (.Name x _) r _ => nsl r && chkV g sc i x && chk b sc r | _ => false)
  | .isE i tb, sc, e => (match e with
      | .Call (.Name x _) [.Name z _, .Name y _] [] _ => g.hot && glB sc x && decide (x = "isinstance") && chkV g sc i z && glB sc y && decide (g.ist.lookup y = some tb)
      | _ => false)
  | .isT i tbs, sc, e => (match e with
      | .Call (.Name x _) [.Name z _, .Tuple ls _ _] [] _ => g.hot && glB sc x && decide (x = "isinstance") && chkV g sc i z && decide (tbs.length ≤ szl) && chkT g tbs sc ls
      | _ => false)
  | .fstr as, sc, e => (match e with | .JoinedStr (l :: r :: rs) _ => chks as sc (l :: r :: rs) | _ => false)
/-- the target is a pair: pr -/
def chkI : Itr → Bool → Scope → Expr → Bool
  | .lst a, pr, sc, e => nset e && chk a sc e
  | .tup a, pr, sc, e => nset e && chk a sc e
  | .rng a, pr, sc, e => (match e with
      | .Call (.Name x _) [l] [] _ => glB sc x && decide (x = "range") && nst l && chk a sc l
      | _ => false)
  | .rng2 a b, pr, sc, e => (match e with
      | .Call (.Name x _) [l, r] [] _ => glB sc x && decide (x = "range") && nst l && nst r && chk a sc l && chk b sc r
      | _ => false)
  | .rrng a, pr, sc, e => (match e with
      | .Call (.Name x _) [.Call (.Name y _) [l] [] _] [] _ => glB sc x && decide (x = "reversed") && glB sc y && decide (y = "range") && nst l && chk a sc l
      | _ => false)
  | .rev a, pr, sc, e => (match e with
      | .Call (.Name x _) [l] [] _ => glB sc x && decide (x = "reversed") && nst l && chk a sc l
      | _ => false)
  | .zip a b, pr, sc, e => (match e with
      | .Call (.Name x _) [l, r] [] _ => pr && glB sc x && decide (x = "zip") && nst l && nst r && chk a sc l && chk b sc r
      | _ => false)
  | .enm a, pr, sc, e => (match e with
      | .Call (.Name x _) [l] [] _ => pr && glB sc x && decide (x = "enumerate") && nst l && chk a sc l
      | _ => false)
  | .enS a b, pr, sc, e => (match e with
      | .Call (.Name x _) [l] [⟨some k, r, _⟩] _ => pr && glB sc x && decide (x = "enumerate") && decide (k = "start") && nst l && nst r && chk a sc l && chk b sc r
      | _ => false)
def chks : Exs → Scope → List Expr → Bool
  | .nil, sc, es => (match es with | [] => true | _ => false)
  | .cons t ts, sc, es => (match es with | e :: r => nst e && chk t sc e && chks ts sc r | _ => false)
end
end

/-! ### where code stands -/
/-- what isinstance answers of the errors, asked for the class that y names -/
def IsC (P : Par) (X : Cx) (y : Str) (tb : List (Nat × Bool)) : Prop :=
  ∃ (v : V) (cv : Value), (X.mg y = some cv ∨ (X.mg y = none ∧ bootBuiltins y = some cv)) ∧ RelV v cv ∧ (∀ u, RelV v u → u = cv) ∧ ∀ k b, tb.lookup k = some b → PySem.W.kitOne X.K (P.cls k) cv = some b
/-- a def of a caught error, where it is handled -/
structure FnE (P : Program) (w : World) (K : Fg) (mg : Str → Option Value) (base : Heap) (cls : Nat → Value) (k : Nat) (f : Addr) (fd : FuncData) (ps : List Str) (tb : List (Nat × List Str)) : Prop where
  one : ps.length = 1
  run : ∀ (A : Around) (outer : List PySem.Env) (s : Shared) (F H : Hp) (Q : VK) (E : XK) (p : Addr × Obj) (j : Nat) (C : Addr) (ss : List Str), L2H.RoomH k A → L2H.PinOk outer H s p → Env0 P w K mg base A outer s H → BindsTo s fd ⟨[.ref p.1], []⟩ (ps.zip [.ref p.1]) →
    cls j = .ref C → ExcC K C → Zc (.ref C) none p.2 → (∃ vs, p.2.data = .fields vs) → tb.lookup j = some ss → Same F H → outP K F H (.ok (.ow (ss.map .str))) Q (fun _ _ => False) → codeAny (model P w) A (.call (.ref f) ⟨[.ref p.1], []⟩) (CR (L2.CX P w) outer P w H s Q E) s
structure Ct (P : Par) (g : Cfg) (X : Cx) (W : Wsh) (Φ : Fns) : Prop where
  n : X.N = g.N
  nd : g.N.Nodup
  k : X.K = P.K
  bl : ∀ x ∈ bnames, X.mg x = none
  calm : g.hot = false → X.calm = true
  un : X.A.units + 64 < cLine
  fns : g.hot = false → ∀ (j : Nat) (x : Str) (n : Nat), g.fs[j]? = some (x, n) → ∃ f fd ps k, X.mg x = some (.ref f) ∧ PySem.W.keepIn X.K (.ref f) = true ∧ Binds X.K fd ps [] ∧ Room k X.A ∧
    FnOk X.prog X.w X.K X.mg X.base (L2.CX X.prog X.w) k f fd ps (spF P.K P.T P.cls n (Φ j))
  er : g.hot = true → ∀ a k, P.ER a k → ∃ oe C, (a, oe) ∈ X.pn ∧ P.cls k = .ref C ∧ ExcC X.K C ∧ Zc (.ref C) none oe ∧ ∃ vs, oe.data = .fields vs
  gi : ∀ x i, g.gi.lookup x = some i → ∃ t, X.mg x = some (.int i t)
  is : ∀ y tb, g.ist.lookup y = some tb → IsC P X y tb
  es : ∀ y tb, g.es.lookup y = some tb → ∃ f fd ps k, X.mg y = some (.ref f) ∧ PySem.W.keepIn X.K (.ref f) = true ∧ Binds X.K fd ps [] ∧ L2H.RoomH k X.A ∧ FnE X.prog X.w X.K X.mg X.base P.cls k f fd ps tb
  pa : ∀ σ, PassesAt (L2.CX X.prog X.w) X σ (fun cls d H => ∃ k, cls = P.cls k ∧ d = none ∧ W k σ H)
  tb : ∀ t ∈ P.T, GxR.TabG P.H0 t ∧ P.F0 t = none
  gc : g.hot = false → g.gen = true → pl0 X.env.scope = true → ∃ c t, X.env.code = .ref c ∧ t ∈ P.T ∧ GxR.TabB X.base X.mg c t ∧ Room 1 X.A ∧ X.A.units + 72 < cLine ∧ ∀ A : Around, A.handled = X.A.handled → A.depth ≤ X.A.depth + 1 → A.units ≤ X.A.units + 8 →
    (∀ (j : Nat) (x : Str) (n : Nat), g.fs[j]? = some (x, n) → ∃ f fd ps k, X.mg x = some (.ref f) ∧ PySem.W.keepIn X.K (.ref f) = true ∧ Binds X.K fd ps [] ∧ Room k A ∧ FnOk X.prog X.w X.K X.mg X.base (L2.CX X.prog X.w) k f fd ps (spF P.K P.T P.cls n (Φ j))) ∧
    ∀ y tb, g.es.lookup y = some tb → ∃ f fd ps k, X.mg y = some (.ref f) ∧ PySem.W.keepIn X.K (.ref f) = true ∧ Binds X.K fd ps [] ∧ L2H.RoomH k A ∧ FnE X.prog X.w X.K X.mg X.base P.cls k f fd ps tb

theorem okN_of {x : Str} (h : okN x = true) : (x == ("__debug__" : Str)) = false ∧ (x == ("__classdict__" : Str)) = false ∧ x ≠ "__name__" := by
  unfold okN at h
  simp only [Bool.and_eq_true, Bool.not_eq_true'] at h
  exact ⟨h.1.1, h.1.2, fun e => by
    have := h.2
    rw [e] at this
    simp at this⟩
theorem vis_of {sc : Scope} {x : Str} (h : visB sc x = true) : Vis sc x := by
  unfold visB at h
  split at h <;> first | exact .inl ‹_› | exact .inr (.inl ‹_›) | exact .inr (.inr ‹_›) | cases h
theorem loc_of {sc : Scope} {x : Str} (h : locB sc x = true) : sc.names.lookup x = some .local := by
  unfold locB at h
  split at h
  · assumption
  · cases h
theorem gl_of {X : Cx} {x : Str} (h : glB X.env.scope x = true) : Gl X x ∧ (x == ("__debug__" : Str)) = false ∧ x ≠ "__name__" := by
  unfold glB at h
  rw [Bool.and_eq_true] at h
  obtain ⟨h1, h2⟩ := h
  obtain ⟨a, _, c⟩ := okN_of h2
  refine ⟨?_, a, c⟩
  split at h1
  · assumption
  · cases h1
theorem star_of {e : Expr} {es : List Expr} {env : PySem.Env} (h : nst e = true) : starEach (e :: es) env = (false, eval e env) :: starEach es env := by
  cases e <;> first | rfl | exact absurd h Bool.false_ne_true
theorem plain_of {e : Expr} (h : nsl e = true) : PlainIx e := by
  cases e <;> first | exact fun _ _ => rfl | exact absurd h Bool.false_ne_true
theorem nostars {g : Cfg} {sc : Scope} {env : PySem.Env} {pos : Pos} : ∀ {ts : Exs} {es : List Expr}, chks g ts sc es = true → (backTo pos (starEach es env)).any (·.1) = false
  | .nil, [], _ => rfl
  | .nil, _ :: _, h => absurd (show false = true from h) Bool.false_ne_true
  | .cons _ _, [], h => absurd (show false = true from h) Bool.false_ne_true
  | .cons t ts, e :: es, h => by
    have h : (nst e && chk g t sc e && chks g ts sc es) = true := h
    rw [Bool.and_eq_true, Bool.and_eq_true] at h
    rw [star_of h.1.1]
    exact nostars (ts := ts) (es := es) h.2

section
variable {P : Par} {g : Cfg} {X : Cx} {W : Wsh} {Φ : Fns} {e l r z : Expr} {es : List Expr} {pos : Pos} {f f1 f2 f3 : Env → Rs D} {fl : Env → Rs (List D)}
theorem Sta.var {F H : Hp} {σ : L2.St} {env : Env} (s : Sta P F H σ env) {i : Nat} {d : D} (h : varR env i = .ok d) : ∃ x, σ[i]? = some (some x) ∧ Dp P.K F x d := by
  unfold varR at h
  split at h
  · rename_i d' e
    cases h
    exact s.sl i _ e
  · cases h
theorem cl_var (env : Env) (i : Nat) : Cl (varR env i) := by
  unfold varR
  split <;> first | exact cl_ok | exact cl_bad
theorem s_const {v : V} {d : D} (h : PE X e (tC v)) (hd : ∀ F, Dp P.K F v d) : PE X e (rd P W fun _ => .ok d) := h.imp fun σ H Q ⟨F, env, st, q⟩ => q F H v (Ext.refl st.same) (hd F)
theorem s_var {i : Nat} {x : Str} (c : Ct P g X W Φ) (h : chkV g X.env.scope i x = true) : PE X (.Name x pos) (rd P W fun env => varR env i) := by
  unfold chkV at h
  rw [Bool.and_eq_true, Bool.and_eq_true, decide_eq_true_eq] at h
  obtain ⟨a, b, _⟩ := okN_of h.2
  refine (pe_var (i := i) (by rw [c.n]; exact h.1.1) (vis_of h.1.2) a b).imp fun σ H Q ⟨F, env, st, q⟩ => ?_
  cases e : varR env i with
  | ok d =>
    simp only [e] at q
    obtain ⟨y, h1, h2⟩ := st.var e
    exact ⟨y, h1, q F H y (Ext.refl st.same) h2⟩
  | exc k => exact absurd e (cl_var env i k)
  | bad => simp only [e] at q; exact q.elim
theorem s_op2 {o : R2} {k : D → D → Rs D} {ta tb : TE} {t : TE} (ho : o = rD2 P.K k) (hc : ∀ x y, Cl (k x y)) (h : PE X e (tOp o (rd P W f1) (rd P W f2))) : PE X e (rd P W fun env => (f1 env).bind fun x => (f2 env).bind fun y => k x y) := by
  subst ho
  refine h.imp fun σ H Q ⟨F, env, st, q⟩ => ?_
  refine ⟨F, env, st, post_seq q fun dx F1 H1 x e1 x1 rx q1 => ⟨F1, env, st.mono x1, post_seq q1 fun dy F2 H2 y e2 x2 ry q2 => ⟨F2, dx, dy, x2.fh, dp_mono x2.ff rx, ry, post_fin (hc dx dy) q2⟩⟩⟩
theorem s_bin {o : BOp} (c : Ct P g X W Φ) (ha : PE X l (rd P W f1)) (hb : PE X r (rd P W f2)) : PE X (.BinOp l (opOf o) r pos) (rd P W fun env => (f1 env).bind fun x => (f2 env).bind fun y => binD o x y) :=
  s_op2 (ta := rd P W f1) (tb := rd P W f2) (t := rd P W f1) rfl (cl_bin o) (pe_op (by rw [← c.k]; exact o_all o) ha hb)
theorem s_neg (c : Ct P g X W Φ) (ha : PE X l (rd P W f1)) : PE X (.UnaryOp .USub l pos) (rd P W fun env => (f1 env).bind negD) := by
  refine (pe_un (r := rD1 P.K negD) (by rw [← c.k]; exact o_neg) ha).imp fun σ H Q ⟨F, env, st, q⟩ => ?_
  exact ⟨F, env, st, post_seq q fun dx F1 H1 x e1 x1 rx q1 => ⟨F1, dx, x1.fh, rx, post_fin (cl_neg dx) q1⟩⟩
/-- from a yes or no by its rule, to data -/
theorem B_of {F H : Hp} {σ : L2.St} {r : Rs Bool} (hc : Cl r) {Q : VK} (s : Same F H) (q : post (Dp P.K) W σ F H (r.bind fun b => .ok (.bool b)) Q) : yB r fun b => Q (.bl b) H := by
  cases r with
  | ok b => exact q F H (.bl b) (Ext.refl s) (.bl b)
  | exc k => exact absurd rfl (hc k)
  | bad => exact q
theorem cmp_in {o : COp} (ha : PE X l (rd P W f1)) {σ : L2.St} {H : Hp} {Q : VK} (h : rd P W (fun env => (f1 env).bind fun x => (f2 env).bind fun y => (cmpR SeqAt.shaped o x y).bind fun b => .ok (.bool b)) σ H Q) :
    tOp (rB2 P.K (cmpR SeqAt.shaped o)) (rd P W f1) (rd P W f2) σ H Q := by
  obtain ⟨F, env, st, q⟩ := h
  exact ⟨F, env, st, post_seq q fun dx F1 H1 x e1 x1 rx q1 => ⟨F1, env, st.mono x1, post_seq q1 fun dy F2 H2 y e2 x2 ry q2 => ⟨F2, dx, dy, x2.fh, dp_mono x2.ff rx, ry, B_of (cl_cmp o dx dy) x2.fh q2⟩⟩⟩
theorem s_cmp {o : COp} (c : Ct P g X W Φ) (ha : PE X l (rd P W f1)) (hb : PE X r (rd P W f2)) (hm : behindInMarks (copOf o) r = false) :
    PE X (.Compare l [copOf o] [r] pos) (rd P W fun env => (f1 env).bind fun x => (f2 env).bind fun y => (cmpR SeqAt.shaped o x y).bind fun b => .ok (.bool b)) :=
  (pe_cmpR (r := rB2 P.K (cmpR SeqAt.shaped o)) (by rw [← c.k]; exact c_all c.un o) ha hb hm).imp fun σ H Q h => cmp_in ha h
/-- a test, from its value's rule -/
theorem T_of {t : TE} (h : PT X e (tTest t)) (k : ∀ σ H Q, rd P W f σ H Q → t σ H Q) : PT X e (rdB P W f) := by
  refine h.imp fun σ H Q ⟨F, env, st, q⟩ => k σ H _ ⟨F, env, st, ?_⟩
  cases e : f env with
  | ok d =>
    simp only [e] at q
    cases d with
    | bool b => exact fun F' H' v x r => by rw [dp_bl r]; exact ⟨b, rfl, q F' H' b x rfl⟩
    | _ => exact q.elim
  | exc j => simp only [e] at q; exact q
  | bad => simp only [e] at q; exact q.elim
theorem T_val (h : PE X e (rd P W f)) (he : ∀ whole, isTrue e X.env whole = (do let v ← whole; standAt e.pos; holding [v] (truthy v))) : PT X e (rdB P W f) := by
  refine (pt_val h he).imp fun σ H Q ⟨F, env, st, q⟩ => ⟨F, env, st, ?_⟩
  cases e : f env with
  | ok d =>
    simp only [e] at q
    cases d with
    | bool b => exact fun F' H' v x r => by rw [dp_bl r]; exact ⟨b, rfl, q F' H' b x rfl⟩
    | _ => exact q.elim
  | exc j => simp only [e] at q; exact q
  | bad => simp only [e] at q; exact q.elim
theorem t_cmp {o : COp} (c : Ct P g X W Φ) (ha : PE X l (rd P W f1)) (hb : PE X r (rd P W f2)) (hm : behindInMarks (copOf o) r = false) :
    PT X (.Compare l [copOf o] [r] pos) (rdB P W fun env => (f1 env).bind fun x => (f2 env).bind fun y => (cmpR SeqAt.shaped o x y).bind fun b => .ok (.bool b)) :=
  T_of (pt_cmpR (r := rB2 P.K (cmpR SeqAt.shaped o)) (by rw [← c.k]; exact c_all c.un o) ha hb hm) fun σ H Q h => cmp_in ha h
theorem chn_in {o p : COp} {σ : L2.St} {H : Hp} {Q : VK} (h : rd P W (fun env => (f1 env).bind fun x => (f2 env).bind fun y => (cmpR SeqAt.shaped o x y).bind fun r =>
      if r = true then (f3 env).bind fun z => (cmpR SeqAt.shaped p y z).bind fun r => .ok (.bool r) else .ok (.bool false)) σ H Q) :
    tChain (rB2 P.K (cmpR SeqAt.shaped o)) (rB2 P.K (cmpR SeqAt.shaped p)) (rd P W f1) (rd P W f2) (rd P W f3) σ H Q := by
  obtain ⟨F, env, st, q⟩ := h
  refine ⟨F, env, st, post_seq q fun dx F1 H1 x e1 x1 rx q1 => ⟨F1, env, st.mono x1, post_seq q1 fun dy F2 H2 y e2 x2 ry q2 => ⟨F2, dx, dy, x2.fh, dp_mono x2.ff rx, ry, ?_⟩⟩⟩
  have c := cl_cmp o dx dy
  cases e : cmpR SeqAt.shaped o dx dy with
  | exc k => exact absurd e (c k)
  | bad => simp only [e, Rs.bind] at q2; exact q2.elim
  | ok b =>
    simp only [e, Rs.bind] at q2
    refine ⟨b, rfl, ?_⟩
    cases b with
    | false => exact q2 F2 H2 (.bl false) (Ext.refl x2.fh) (.bl false)
    | true => exact ⟨F2, env, (st.mono x1).mono x2, post_seq q2 fun dz F3 H3 z e3 x3 rz q3 => ⟨F3, dy, dz, x3.fh, dp_mono x3.ff ry, rz, B_of (cl_cmp p dy dz) x3.fh q3⟩⟩
theorem s_chn {o p : COp} (c : Ct P g X W Φ) (ha : PE X l (rd P W f1)) (hb : PE X r (rd P W f2)) (hz : PE X z (rd P W f3)) (hm : lastMarks [copOf o, copOf p] [r, z] = false) :
    PE X (.Compare l [copOf o, copOf p] [r, z] pos) (rd P W fun env => (f1 env).bind fun x => (f2 env).bind fun y => (cmpR SeqAt.shaped o x y).bind fun r =>
      if r = true then (f3 env).bind fun z => (cmpR SeqAt.shaped p y z).bind fun r => .ok (.bool r) else .ok (.bool false)) :=
  (pe_chain (r := rB2 P.K (cmpR SeqAt.shaped o)) (r' := rB2 P.K (cmpR SeqAt.shaped p)) (by rw [← c.k]; exact c_all c.un o) (by rw [← c.k]; exact c_all c.un p) ha hb hz hm).imp fun σ H Q h => chn_in h
theorem t_chn {o p : COp} (c : Ct P g X W Φ) (ha : PE X l (rd P W f1)) (hb : PE X r (rd P W f2)) (hz : PE X z (rd P W f3)) (hm : lastMarks [copOf o, copOf p] [r, z] = false) :
    PT X (.Compare l [copOf o, copOf p] [r, z] pos) (rdB P W fun env => (f1 env).bind fun x => (f2 env).bind fun y => (cmpR SeqAt.shaped o x y).bind fun r =>
      if r = true then (f3 env).bind fun z => (cmpR SeqAt.shaped p y z).bind fun r => .ok (.bool r) else .ok (.bool false)) :=
  T_of (pt_chain (r := rB2 P.K (cmpR SeqAt.shaped o)) (r' := rB2 P.K (cmpR SeqAt.shaped p)) (by rw [← c.k]; exact c_all c.un o) (by rw [← c.k]; exact c_all c.un p) ha hb hz hm) fun σ H Q h => chn_in h
theorem non_iff {F : Hp} {x : V} {d : D} (h : Dp P.K F x d) : decide (x = .non) = isNo d := by
  cases h <;> simp [isNo]
theorem s_isN {j : Nat} {p' : Pos} (ha : PE X l (rd P W f1)) : PE X (.Compare l [.Is] [.Constant .none j p'] pos) (rd P W fun env => (f1 env).bind fun x => .ok (.bool (isNo x))) :=
  (pe_cmp (pc_isN ha) rfl).imp fun σ H Q ⟨F, env, st, q⟩ => ⟨F, env, st, post_seq q fun dx F1 H1 x e1 x1 rx q1 => by rw [non_iff rx]; exact q1 F1 H1 _ (Ext.refl x1.fh) (.bl _)⟩
theorem s_notN {j : Nat} {p' : Pos} (ha : PE X l (rd P W f1)) : PE X (.Compare l [.IsNot] [.Constant .none j p'] pos) (rd P W fun env => (f1 env).bind fun x => .ok (.bool (!isNo x))) :=
  (pe_cmp (pc_notN ha) rfl).imp fun σ H Q ⟨F, env, st, q⟩ => ⟨F, env, st, post_seq q fun dx F1 H1 x e1 x1 rx q1 => by rw [non_iff rx]; exact q1 F1 H1 _ (Ext.refl x1.fh) (.bl _)⟩
theorem t_isN {j : Nat} {p' : Pos} (ha : PE X l (rd P W f1)) : PT X (.Compare l [.Is] [.Constant .none j p'] pos) (rdB P W fun env => (f1 env).bind fun x => .ok (.bool (isNo x))) :=
  T_of (pt_cmp (pc_isN ha) rfl) fun σ H Q ⟨F, env, st, q⟩ => ⟨F, env, st, post_seq q fun dx F1 H1 x e1 x1 rx q1 => by rw [non_iff rx]; exact q1 F1 H1 _ (Ext.refl x1.fh) (.bl _)⟩
theorem t_notN {j : Nat} {p' : Pos} (ha : PE X l (rd P W f1)) : PT X (.Compare l [.IsNot] [.Constant .none j p'] pos) (rdB P W fun env => (f1 env).bind fun x => .ok (.bool (!isNo x))) :=
  T_of (pt_cmp (pc_notN ha) rfl) fun σ H Q ⟨F, env, st, q⟩ => ⟨F, env, st, post_seq q fun dx F1 H1 x e1 x1 rx q1 => by rw [non_iff rx]; exact q1 F1 H1 _ (Ext.refl x1.fh) (.bl _)⟩
end
end Q

set_option Elab.async false
set_option linter.all false
set_option maxRecDepth 100000
set_option autoImplicit false
set_option maxHeartbeats 4000000
namespace Q
open PySem PySem.Spec PyProof.Rows L2
section
variable {P : Par} {g : Cfg} {X : Cx} {W : Wsh} {Φ : Fns} {e l r z : Expr} {es : List Expr} {pos : Pos} {f f1 f2 f3 : Env → Rs D} {fl : Env → Rs (List D)}
/-! and, or, not -/
theorem s_and1 (ha : PE X l (rd P W f1)) : PE X (.BoolOp .And [l] pos) (rd P W f1) := pe_one ha
theorem s_or1 (ha : PE X l (rd P W f1)) : PE X (.BoolOp .Or [l] pos) (rd P W f1) := pe_one ha
theorem s_and (ha : PE X l (rd P W f1)) (hb : PE X (.BoolOp .And (r :: es) pos) (rd P W f2)) :
    PE X (.BoolOp .And (l :: r :: es) pos) (rd P W fun env => (f1 env).bind fun x => (match x with | .bool true => f2 env | .bool false => .ok (.bool false) | _ => .bad)) := by
  refine (pe_and ha hb).imp fun σ H Q ⟨F, env, st, q⟩ => ⟨F, env, st, post_seq q fun dx F1 H1 x e1 x1 rx q1 => ?_⟩
  cases dx with
  | bool b =>
    rw [dp_bl rx]
    refine ⟨b, rfl, ?_⟩
    cases b with
    | true => exact ⟨F1, env, st.mono x1, q1⟩
    | false => exact q1 F1 H1 _ (Ext.refl x1.fh) (.bl _)
  | _ => exact q1.elim
theorem s_or (ha : PE X l (rd P W f1)) (hb : PE X (.BoolOp .Or (r :: es) pos) (rd P W f2)) :
    PE X (.BoolOp .Or (l :: r :: es) pos) (rd P W fun env => (f1 env).bind fun x => (match x with | .bool false => f2 env | .bool true => .ok (.bool true) | _ => .bad)) := by
  refine (pe_or ha hb).imp fun σ H Q ⟨F, env, st, q⟩ => ⟨F, env, st, post_seq q fun dx F1 H1 x e1 x1 rx q1 => ?_⟩
  cases dx with
  | bool b =>
    rw [dp_bl rx]
    refine ⟨b, rfl, ?_⟩
    cases b with
    | false => exact ⟨F1, env, st.mono x1, q1⟩
    | true => exact q1 F1 H1 _ (Ext.refl x1.fh) (.bl _)
  | _ => exact q1.elim
theorem s_not (ha : PE X l (rd P W f1)) : PE X (.UnaryOp .Not l pos) (rd P W fun env => (f1 env).bind fun x => (match x with | .bool b => .ok (.bool (!b)) | _ => .bad)) := by
  refine (pe_not ha).imp fun σ H Q ⟨F, env, st, q⟩ => ⟨F, env, st, post_seq q fun dx F1 H1 x e1 x1 rx q1 => ?_⟩
  cases dx with
  | bool b =>
    rw [dp_bl rx]
    exact ⟨b, rfl, q1 F1 H1 _ (Ext.refl x1.fh) (.bl _)⟩
  | _ => exact q1.elim
/-- a test's reading: its two ways -/
theorem rdB_of {σ : L2.St} {H : Hp} {Q : Bool → Hp → Prop} {F : Hp} {env : Env} (st : Sta P F H σ env) (h : ∀ b, f env = .ok (.bool b) → ∀ F' H', Ext F H F' H' → Q b H') (hx : ∀ k, f env = .exc k → ∀ F' H', Ext F H F' H' → W k σ H')
    (hn : f env ≠ .bad) (hb : ∀ d, f env = .ok d → ∃ b, d = .bool b) : rdB P W f σ H Q := by
  refine ⟨F, env, st, ?_⟩
  cases e : f env with
  | ok d =>
    obtain ⟨b, rfl⟩ := hb d e
    exact fun F' H' v x r => by
      cases r
      exact h b e F' H' x
  | exc k => exact hx k e
  | bad => exact absurd e hn
/-- a test whose value is asked, then one of two ways -/
theorem test_seq {γ δ : Type} {RlC : Hp → δ → γ → Prop} {σ : L2.St} {F H : Hp} {env : Env} {k : D → Rs γ} {Q : δ → Hp → Prop} {Q' : Bool → Hp → Prop} (st : Sta P F H σ env) (hk : ∀ d, (∀ b, d ≠ .bool b) → k d = .bad)
    (q : post RlC W σ F H ((f env).bind k) Q) (h : ∀ b F' H', Ext F H F' H' → post RlC W σ F' H' (k (.bool b)) Q → Q' b H') : rdB P W f σ H Q' := by
  refine ⟨F, env, st, ?_⟩
  cases e : f env with
  | ok d =>
    rw [e] at q
    cases d with
    | bool b => exact fun F' H' v x r => by cases r; exact h b F' H' x (post_ext x q)
    | _ => rw [Rs.bind, hk _ (by intro b z; cases z)] at q; exact q.elim
  | exc j => rw [e] at q; exact q
  | bad => rw [e] at q; exact q.elim
theorem t_not (ha : PT X l (rdB P W f1)) : PT X (.UnaryOp .Not l pos) (rdB P W fun env => (f1 env).bind fun x => (match x with | .bool b => .ok (.bool (!b)) | _ => .bad)) := by
  refine (pt_not ha).imp fun σ H Q ⟨F, env, st, q⟩ => ?_
  show rdB P W f1 σ H fun c H1 => Q (!c) H1
  refine ⟨F, env, st, ?_⟩
  cases e : f1 env with
  | ok d =>
    simp only [e, Rs.bind] at q
    cases d with
    | bool b => exact fun F' H' v x r => by cases r; exact q F' H' (!b) x rfl
    | _ => exact q.elim
  | exc j => simp only [e, Rs.bind] at q; exact q
  | bad => simp only [e, Rs.bind] at q; exact q.elim
theorem T_and1 (ha : PT X l (rdB P W f1)) : PW X (.BoolOp .And [l] pos) (rdB P W f1) := pw_and1 ha
theorem T_and (ha : PT X l (rdB P W f1)) (hb : PW X (.BoolOp .And (r :: es) pos) (rdB P W f2)) :
    PW X (.BoolOp .And (l :: r :: es) pos) (rdB P W fun env => (f1 env).bind fun x => (match x with | .bool true => f2 env | .bool false => .ok (.bool false) | _ => .bad)) := by
  have h := pw_and (pos := pos) ha hb
  refine ⟨fun wh pins s σ H Q I w => h.run wh pins s σ H Q I ?_⟩
  obtain ⟨F, env, st, q⟩ := w
  refine ⟨F, env, st, ?_⟩
  cases e : f1 env with
  | ok d =>
    simp only [e, Rs.bind] at q
    cases d with
    | bool b =>
      refine fun F' H' v x r => ?_
      cases r
      cases b with
      | true => exact ⟨F', env, st.mono x, post_ext x q⟩
      | false => exact q F' H' false x rfl
    | _ => exact q.elim
  | exc j => simp only [e, Rs.bind] at q; exact q
  | bad => simp only [e, Rs.bind] at q; exact q.elim
theorem T_or1 (ha : PT X l (rdB P W f1)) : PW X (.BoolOp .Or [l] pos) (rdB P W f1) := pw_or1 ha
theorem T_or (ha : PT X l (rdB P W f1)) (hb : PW X (.BoolOp .Or (r :: es) pos) (rdB P W f2)) :
    PW X (.BoolOp .Or (l :: r :: es) pos) (rdB P W fun env => (f1 env).bind fun x => (match x with | .bool false => f2 env | .bool true => .ok (.bool true) | _ => .bad)) := by
  have h := pw_or (pos := pos) ha hb
  refine ⟨fun wh pins s σ H Q I w => h.run wh pins s σ H Q I ?_⟩
  obtain ⟨F, env, st, q⟩ := w
  refine ⟨F, env, st, ?_⟩
  cases e : f1 env with
  | ok d =>
    simp only [e, Rs.bind] at q
    cases d with
    | bool b =>
      refine fun F' H' v x r => ?_
      cases r
      cases b with
      | false => exact ⟨F', env, st.mono x, post_ext x q⟩
      | true => exact q F' H' true x rfl
    | _ => exact q.elim
  | exc j => simp only [e, Rs.bind] at q; exact q
  | bad => simp only [e, Rs.bind] at q; exact q.elim
theorem s_ite (hc : PT X z (rdB P W f1)) (ha : PE X l (rd P W f2)) (hb : PE X r (rd P W f3)) : PE X (.IfExp z l r pos) (rd P W fun env => (f1 env).bind fun x => (match x with | .bool true => f2 env | .bool false => f3 env | _ => .bad)) := by
  refine (pe_ifExp hc ha hb).imp fun σ H Q ⟨F, env, st, q⟩ => ?_
  refine ⟨F, env, st, ?_⟩
  cases e : f1 env with
  | ok d =>
    simp only [e, Rs.bind] at q
    cases d with
    | bool b =>
      refine fun F' H' v x r => ?_
      cases r
      cases b with
      | true => exact ⟨F', env, st.mono x, post_ext x q⟩
      | false => exact ⟨F', env, st.mono x, post_ext x q⟩
    | _ => exact q.elim
  | exc j => simp only [e, Rs.bind] at q; exact q
  | bad => simp only [e, Rs.bind] at q; exact q.elim
/-! subscripts -/
theorem s_ix (c : Ct P g X W Φ) (ha : PE X l (rd P W f1)) (hb : PE X r (rd P W f2)) (hr : nsl r = true) : PE X (.Subscript l r pos) (rd P W fun env => (f1 env).bind fun x => (f2 env).bind fun y => ixR x y) :=
  s_op2 (ta := rd P W f1) (tb := rd P W f2) (t := rd P W f1) rfl cl_ix (pe_ix (by rw [← c.k]; exact i_ix) ha hb (plain_of hr))
def rdO (P : Par) (W : Wsh) (f : Env → Rs (Option Int)) : TO := fun σ H Q => ∃ F env, Sta P F H σ env ∧ post (fun _ (o : Option Int) d => o = d) W σ F H (f env) Q
theorem _root_.L2.PO.imp {X : Cx} {e : Option Expr} {t t' : TO} (h : PO X e t) (q : ∀ σ H Q, t' σ H Q → t σ H Q) : PO X e t' := ⟨fun pins s σ H Q I w => h.run pins s σ H Q I (q σ H Q w)⟩
theorem o_none : PO X none (rdO P W fun _ => .ok none) := (po_none).imp fun σ H Q ⟨F, env, st, q⟩ => q F H none (Ext.refl st.same) rfl
theorem o_some (h : PE X e (rd P W f)) : PO X (some e) (rdO P W fun env => (f env).bind intR) := by
  refine (po_some h).imp fun σ H Q ⟨F, env, st, q⟩ => ⟨F, env, st, post_seq q fun d F1 H1 x e1 x1 rx q1 => ?_⟩
  cases d with
  | int i =>
    rw [dp_int rx]
    exact ⟨i, rfl, q1 F1 H1 (some i) (Ext.refl x1.fh) rfl⟩
  | _ => exact q1.elim
theorem cl_slc (d : D) (lo hi : Option Int) : Cl (slcR d lo hi) := by
  unfold slcR
  split <;> first | exact cl_ok | exact cl_bad
theorem s_slc (c : Ct P g X W Φ) {lo hi : Option Expr} {p2 : Pos} {g1 g2 : Env → Rs (Option Int)} (ha : PE X l (rd P W f1)) (hl : PO X lo (rdO P W g1)) (hh : PO X hi (rdO P W g2)) :
    PE X (.Subscript l (.Slice lo hi none p2) pos) (rd P W fun env => (f1 env).bind fun x => (g1 env).bind fun l => (g2 env).bind fun h => slcR x l h) := by
  refine (pe_slice (r := rSl P.K) (by rw [← c.k]; exact i_sl) ha hl hh).imp fun σ H Q ⟨F, env, st, q⟩ => ?_
  refine ⟨F, env, st, post_seq q fun dx F1 H1 x e1 x1 rx q1 => ⟨F1, env, st.mono x1, post_seq q1 fun o1 F2 H2 p1 e2 x2 r1 q2 => ⟨F2, env, (st.mono x1).mono x2, post_seq q2 fun o2 F3 H3 p3 e3 x3 r2 q3 => ?_⟩⟩⟩
  subst r1 r2
  exact ⟨F3, dx, x3.fh, dp_mono (x2.ff.trans x3.ff) rx, post_fin (cl_slc dx p1 p3) q3⟩
/-! lists of arguments, displays -/
theorem a_nil : PA X [] (rds P W fun _ => .ok []) := pa_nil.imp fun σ H Q ⟨F, env, st, q⟩ => q F H [] (Ext.refl st.same) .nil
theorem a_cons (hs : nst e = true) (ha : PE X e (rd P W f1)) (hb : PA X es (rds P W fl)) : PA X (e :: es) (rds P W fun env => (f1 env).bind fun x => (fl env).bind fun xs => .ok (x :: xs)) := by
  refine (pa_cons ha hb (star_of hs)).imp fun σ H Q ⟨F, env, st, q⟩ => ?_
  refine ⟨F, env, st, post_seq q fun dx F1 H1 x e1 x1 rx q1 => ⟨F1, env, st.mono x1, post_seq q1 fun dy F2 H2 y e2 x2 ry q2 => q2 F2 H2 _ (Ext.refl x2.fh) (.cons (dp_mono x2.ff rx) ry)⟩⟩
theorem s_tup {k : Nat} (ha : PA X es (rds P W fl)) : PE X (.Tuple es k pos) (rd P W fun env => (fl env).bind fun xs => if xs.length ≤ szl then .ok (.tuple xs) else .bad) := by
  refine (pe_tup ha).imp fun σ H Q ⟨F, env, st, q⟩ => ⟨F, env, st, post_seq q fun ds F1 H1 xs e1 x1 rx q1 => ?_⟩
  split at q1
  · rename_i hz
    exact ⟨by rw [dps_len rx]; exact hz, fun p hp => q1 _ _ _ (Ext.new x1.fh hp) (.tup (.inl (.inl upd_same)) (dps_mono (Ext.new (o := HO.tup xs) x1.fh hp).ff rx))⟩
  · exact q1.elim
theorem s_lst (ha : PA X es (rds P W fl)) : PE X (.List es pos) (rd P W fun env => (fl env).bind fun xs => if xs.length ≤ szl then .ok (.list xs) else .bad) := by
  refine (pe_lst ha).imp fun σ H Q ⟨F, env, st, q⟩ => ⟨F, env, st, post_seq q fun ds F1 H1 xs e1 x1 rx q1 => ?_⟩
  split at q1
  · rename_i hz
    exact ⟨by rw [dps_len rx]; exact hz, fun p hp => q1 _ _ _ (Ext.new x1.fh hp) (.lst (.inl (.inl upd_same)) (dps_mono (Ext.new (o := HO.lst xs) x1.fh hp).ff rx))⟩
  · exact q1.elim
/-! calls -/
/-- what a built-in is worth, of its arguments -/
theorem args_in {k : List D → Rs D} (hk : ∀ xs, Cl (k xs)) {σ : L2.St} {H : Hp} {Q : VK} (h : rd P W (fun env => (f1 env).bind fun x => (fl env).bind fun xs => k (x :: xs)) σ H Q) :
    rds P W (fun env => (f1 env).bind fun x => (fl env).bind fun xs => .ok (x :: xs)) σ H fun vs H1 => rDs P.K k vs H1 Q := by
  obtain ⟨F, env, st, q⟩ := h
  refine ⟨F, env, st, post_seq (f := k) ?_ fun ds F1 H1 vs e1 x1 rx q1 => ⟨F1, ds, x1.fh, rx, post_fin (hk ds) q1⟩⟩
  have e : (((f1 env).bind fun x => (fl env).bind fun xs => .ok (x :: xs)).bind k) = ((f1 env).bind fun x => (fl env).bind fun xs => k (x :: xs)) := by
    cases f1 env with
    | ok x => cases fl env <;> rfl
    | _ => rfl
  rw [e]
  exact q
theorem bn {g : Cfg} (c : Ct P g X W Φ) {x : Str} (h : x ∈ bnames) : X.mg x = none := c.bl x h
theorem s_blt (c : Ct P g X W Φ) {b : Blt} {x : Str} {p : Pos} (hh : (!g.hot || bltCold b) = true) (hx : glB X.env.scope x = true) (hb : x = bltN b) (hs : nst l = true) (hns : (backTo pos (starEach es X.env)).any (·.1) = false)
    (ha : PE X l (rd P W f1)) (hl : PA X es (rds P W fl)) : PE X (.Call (.Name x p) (l :: es) [] pos) (rd P W fun env => (f1 env).bind fun x => (fl env).bind fun xs => bltR b (x :: xs)) := by
  obtain ⟨gx, dx, nx⟩ := gl_of hx
  have pa := a_cons hs ha hl
  have calm : bltCold b = false → X.calm = true := fun e => c.calm (by rw [e, Bool.or_false] at hh; simpa using hh)
  have go : ∀ {v : Value}, (∀ {id : String}, v = .builtin id → bootBuiltins x = some (.builtin id) → CallR X (.builtin id) (rDs P.K (bltR b)) → X.mg x = none → PE X (.Call (.Name x p) (l :: es) [] pos) (rd P W fun env => (f1 env).bind fun x => (fl env).bind fun xs => bltR b (x :: xs))) := fun {v} {id} _ hv hc hm =>
    (pe_callB hc gx hm hv pa nx dx (star_of hs) hns).imp fun σ H Q h => args_in (cl_blt b) h
  have goT : ∀ {T : String}, bootBuiltins x = some (.type T) → CallR X (.type T) (rDs P.K (bltR b)) → X.mg x = none → PE X (.Call (.Name x p) (l :: es) [] pos) (rd P W fun env => (f1 env).bind fun x => (fl env).bind fun xs => bltR b (x :: xs)) := fun {T} hv hc hm =>
    (pe_callTy hc gx hm hv pa nx dx (star_of hs) hns).imp fun σ H Q h => args_in (cl_blt b) h
  subst hb
  rw [← c.k] at go goT
  have M : bltN b ∈ bnames := by cases b <;> decide
  have m := c.bl _ M
  cases b
  · exact go (v := .builtin "len") rfl PySem.boot_len k_len m
  · exact goT boot_list k_list m
  · exact go (v := .builtin "abs") rfl boot_abs k_abs m
  · exact go (v := .builtin "min") rfl boot_min (k_min2 (calm rfl)) m
  · exact go (v := .builtin "max") rfl boot_max (k_max2 (calm rfl)) m
  · exact goT boot_int k_int1 m
  · exact go (v := .builtin "sum") rfl boot_sum (k_sum (calm rfl)) m
  · exact go (v := .builtin "min") rfl boot_min (k_minl (calm rfl)) m
  · exact go (v := .builtin "max") rfl boot_max (k_maxl (calm rfl)) m
  · exact goT boot_tuple k_tuple m
  · exact go (v := .builtin "all") rfl boot_all (k_all (calm rfl)) m
  · exact goT boot_str k_str1 m
theorem toD_seq {σ : L2.St} {F H : Hp} {r : Rs Sl} {Q : VK} (q : post (Dp P.K) W σ F H (r.bind Sl.toD) Q) : outP P.K F H r Q fun k H' => WE (fun cls d σ H => ∃ k, cls = P.cls k ∧ d = none ∧ W k σ H) σ (P.cls k) none H' := by
  cases r with
  | ok z =>
    cases z with
    | fr d => exact q
    | ow es =>
      refine fun F' H' p ws x hp hf hH hd => ?_
      have sf : Same F' (upd F' p (.lst ws)) := same_upd2 hf
      refine q (upd F' p (.lst ws)) H' _ ⟨x.hh, x.ff.trans sf, fun b u h => ?_, fun b h1 h2 => ?_⟩ (.lst (.inl (.inl upd_same)) (dps_mono sf hd))
      · by_cases hb : b = p
        · subst hb
          rw [upd_same] at h
          cases h
          exact hH
        · rw [upd_ne hb] at h
          exact x.fh b u h
      · have : b ≠ p := fun e => by
          subst e
          exact h1 hp
        rw [upd_ne this]
        exact x.nw b h1 h2
    | er k => exact q
  | exc k => exact fun F' H' x => ⟨k, rfl, rfl, q F' H' x⟩
  | bad => exact q
theorem tabs_at {F H : Hp} {σ : L2.St} {env : Env} (h : ∀ t ∈ P.T, GxR.TabG P.H0 t ∧ P.F0 t = none) (st : Sta P F H σ env) : (∀ t ∈ P.T, GxR.TabG H t) ∧ ∀ t ∈ P.T, F t = none := by
  refine ⟨fun t ht => ?_, fun t ht => ?_⟩
  · obtain ⟨⟨ps, e1, e2⟩, _⟩ := h t ht
    rcases st.ext.hh t _ e1 with q | ⟨_, u, q, ps2, e3, e4⟩
    · exact ⟨ps, q, e2⟩
    · subst e3
      exact ⟨ps2, q, e4⟩
  · obtain ⟨⟨ps, e1, e2⟩, e3⟩ := h t ht
    exact st.ext.nw t (by rw [e1]; exact fun z => nomatch z) e3
theorem s_call (c : Ct P g X W Φ) {j : Nat} {x : Str} {p : Pos} (hh : g.hot = false) (hx : glB X.env.scope x = true) (hj : g.fs[j]? = some (x, es.length + 1)) (hs : nst l = true) (hns : (backTo pos (starEach es X.env)).any (·.1) = false)
    (ha : PE X l (rd P W f1)) (hl : PA X es (rds P W fl)) (hlen : ∀ env ds, fl env = .ok ds → ds.length = es.length) :
    PE X (.Call (.Name x p) (l :: es) [] pos) (rd P W fun env => (f1 env).bind fun x => (fl env).bind fun xs => (Φ j (x :: xs)).bind Sl.toD) := by
  obtain ⟨gx, dx, nx⟩ := gl_of hx
  obtain ⟨fa, fd, ps, k, hm, kp, hb, hr, FO⟩ := c.fns hh j x _ hj
  have pa := a_cons hs ha hl
  refine (pe_callS FO hr gx hm kp hb (E := WE fun cls d σ H => ∃ k, cls = P.cls k ∧ d = none ∧ W k σ H) (fun σ => c.pa σ) pa dx (star_of hs) hns).imp fun σ H Q ⟨F, env, st, q⟩ => ?_
  refine ⟨F, env, st, post_seq (f := fun xs => (Φ j xs).bind Sl.toD) ?_ fun ds F1 H1 vs e1 x1 rx q1 => ⟨?_, (tabs_at c.tb (st.mono x1)).1, F1, ds, (tabs_at c.tb (st.mono x1)).2, x1.fh, rx, toD_seq q1⟩⟩
  · have e : (((f1 env).bind fun x => (fl env).bind fun xs => .ok (x :: xs)).bind fun xs => (Φ j xs).bind Sl.toD) = ((f1 env).bind fun x => (fl env).bind fun xs => (Φ j (x :: xs)).bind Sl.toD) := by
      cases f1 env with
      | ok x => cases fl env <;> rfl
      | _ => rfl
    rw [e]
    exact q
  · rw [dps_len rx]
    have e1 : ((f1 env).bind fun x => (fl env).bind fun xs => .ok (x :: xs)) = .ok ds := e1
    cases e2 : f1 env with
    | ok a =>
      rw [e2] at e1
      cases e3 : fl env with
      | ok b =>
        rw [e3] at e1
        cases e1
        rw [List.length_cons, hlen env b e3]
      | exc k => rw [e3] at e1; cases e1
      | bad => rw [e3] at e1; cases e1
    | exc k => rw [e2] at e1; cases e1
    | bad => rw [e2] at e1; cases e1
theorem s_isi (c : Ct P g X W Φ) {t : Ty} {x y : Str} {p p2 : Pos} (hx : glB X.env.scope x = true) (ex : x = "isinstance") (hy : glB X.env.scope y = true) (ey : y = tySt t) (hs : nst l = true) (ha : PE X l (rd P W f1)) :
    PE X (.Call (.Name x p) [l, .Name y p2] [] pos) (rd P W fun env => (f1 env).bind fun x => .ok (.bool (isiD x t))) := by
  obtain ⟨gx, dx, nx⟩ := gl_of hx
  obtain ⟨gy, dy, ny⟩ := gl_of hy
  have hb : bootBuiltins y = some (.type (tyN t)) := by
    subst ey
    cases t <;> decide +kernel
  have my : X.mg y = none := c.bl y (by subst ey; cases t <;> decide)
  have mx : X.mg x = none := c.bl x (by subst ex; decide)
  have e1 : PE X (.Name y p2) (tC (.ty (tyN t))) := pe_bltn gy my hb rfl ny dy
  have pa := pa_cons ha (pa_cons e1 pa_nil) (star_of hs)
  refine (pe_callB (r := rIsi X.K) call_isi gx mx (by subst ex; exact boot_isinstance) pa nx dx (star_of hs)).imp fun σ H Q ⟨F, env, st, q⟩ => ?_
  exact ⟨F, env, st, post_seq q fun d F1 H1 v e2 x1 rx q1 => by
    rw [← c.k] at rx
    exact isi_of t x1.fh rx (q1 F1 H1 _ (Ext.refl x1.fh) (.bl _))⟩
theorem s_lenO (c : Ct P g X W Φ) {i : Nat} {x y : Str} {p p2 : Pos} (hx : glB X.env.scope x = true) (ex : x = "len") (hy : chkV g X.env.scope i y = true) : PE X (.Call (.Name x p) [.Name y p2] [] pos) (rd P W fun env => lenO env i) := by
  obtain ⟨gx, dx, nx⟩ := gl_of hx
  unfold chkV at hy
  rw [Bool.and_eq_true, Bool.and_eq_true, decide_eq_true_eq] at hy
  obtain ⟨a, b, _⟩ := okN_of hy.2
  have e1 : PE X (.Name y p2) (tVar i) := pe_var (i := i) (by rw [c.n]; exact hy.1.1) (vis_of hy.1.2) a b
  refine (pe_callB call_len_seq gx (c.bl x (by subst ex; decide)) (by subst ex; exact PySem.boot_len) (pa_cons e1 pa_nil) nx dx).imp fun σ H Q ⟨F, env, st, q⟩ => ?_
  have q : post (Dp P.K) W σ F H (lenO env i) Q := q
  unfold lenO at q
  split at q
  · rename_i ds e
    obtain ⟨p', vs, h1, h0, hf, hH, hd⟩ := st.sl i _ e
    refine ⟨_, h1, p', vs, rfl, .inl (.inl (.inl hH)), ?_⟩
    rw [dps_len hd]
    exact q F H _ (Ext.refl st.same) (.int _)
  · exact q.elim
end
end Q

set_option Elab.async false
set_option linter.all false
set_option maxRecDepth 100000
set_option autoImplicit false
set_option maxHeartbeats 4000000
namespace Q
open PySem PySem.Spec PyProof.Rows L2

/-! ### what is walked -/
structure Yl (K : Fg) (F1 : Hp) (J : L2.It) (ds : List D) : Prop where
  stop : ∀ F2 H, Same F1 F2 → Same F2 H → J.stop ds.length H
  step : ∀ (j : Nat) (d : D) F2 H, ds[j]? = some d → Same F1 F2 → Same F2 H → J.go j H ∧ ∀ x H', J.yld j H x H' → ∃ F3, Ext F2 H F3 H' ∧ Dp K F3 x d
def postI (K : Fg) (W : Wsh) (σ : L2.St) (F H : Hp) (r : Rs (List D)) (R : L2.It → Hp → Prop) : Prop := match r with
  | .ok ds => ∀ F' H' J, Ext F H F' H' → Yl K F' J ds → R J H'
  | .exc k => ∀ F' H', Ext F H F' H' → W k σ H'
  | .bad => False
def rdI (P : Par) (W : Wsh) (f : Env → Rs (List D)) : TI := fun σ H R => ∃ F env, Sta P F H σ env ∧ postI P.K W σ F H (f env) R
theorem postI_ext {K : Fg} {W : Wsh} {σ : L2.St} {F H F1 H1 : Hp} {r : Rs (List D)} {R : L2.It → Hp → Prop} (e : Ext F H F1 H1) (h : postI K W σ F H r R) : postI K W σ F1 H1 r R := by
  cases r with
  | ok d => exact fun F' H' v e' r => h F' H' v (e.trans e') r
  | exc k => exact fun F' H' e' => h F' H' (e.trans e')
  | bad => exact h
theorem postI_seq {α β : Type} {RlA : Hp → β → α → Prop} {K : Fg} {W : Wsh} {σ : L2.St} {F H : Hp} {r : Rs α} {f : α → Rs (List D)} {R : L2.It → Hp → Prop} {Q' : β → Hp → Prop} (h : postI K W σ F H (r.bind f) R)
    (k : ∀ d F1 H1 v, r = .ok d → Ext F H F1 H1 → RlA F1 v d → postI K W σ F1 H1 (f d) R → Q' v H1) : post RlA W σ F H r Q' := by
  cases r with
  | ok d => exact fun F1 H1 v e r => k d F1 H1 v rfl e r (postI_ext e h)
  | exc k => exact h
  | bad => exact h
theorem _root_.L2.PI.imp {X : Cx} {tg e : Expr} {t t' : TI} (h : PI X tg e t) (q : ∀ σ H Q, t' σ H Q → t σ H Q) : PI X tg e t' := ⟨fun pins s σ H Q I w => h.run pins s σ H Q I (q σ H Q w)⟩
section
variable {K : Fg} {F1 : Hp}
theorem itemL_of {H : Hp} {a : Addr} {vs : List V} {ds : List D} (q : SqL K F1 a vs) (da : DpAll K F1 vs ds) {F2 : Hp} (h1 : Same F1 F2) (h2 : Same F2 H) {j : Nat} {d : D} (e : ds[j]? = some d) : ∃ x, SqL K H a vs ∧ vs[j]? = some x ∧ Dp K F2 x d := by
  obtain ⟨x, h3, h4⟩ := dps_get da e
  exact ⟨x, (h1.trans h2).seq q, h3, dp_mono h1 h4⟩
theorem yl_list {a : Addr} {vs : List V} {ds : List D} (q : SqL K F1 a vs) (da : DpAll K F1 vs ds) : Yl K F1 (Itl K a) ds where
  stop := fun F2 H h1 h2 => ⟨vs, (h1.trans h2).seq q, by rw [dps_len da]; exact Nat.le_refl _⟩
  step := fun j d F2 H e h1 h2 => by
    obtain ⟨x, h3, h4, h5⟩ := itemL_of q da h1 h2 e
    refine ⟨⟨vs, x, h3, h4⟩, fun y H' ⟨eH, hy⟩ => ?_⟩
    subst eH
    have := hy vs h3
    rw [h4] at this
    cases this
    exact ⟨F2, Ext.refl h2, h5⟩
theorem yl_tup {a : Addr} {vs : List V} {ds : List D} (q : SqT K F1 a vs) (da : DpAll K F1 vs ds) : Yl K F1 (Itt K a) ds where
  stop := fun F2 H h1 h2 => ⟨vs, same_seqT (h1.trans h2) q, by rw [dps_len da]; exact Nat.le_refl _⟩
  step := fun j d F2 H e h1 h2 => by
    obtain ⟨x, h4, h5⟩ := dps_get da e
    have h3 := same_seqT (h1.trans h2) q
    refine ⟨⟨vs, x, h3, h4⟩, fun y H' ⟨eH, hy⟩ => ?_⟩
    subst eH
    have := hy vs h3
    rw [h4] at this
    cases this
    exact ⟨F2, Ext.refl h2, dp_mono h1 h5⟩
theorem revD_len {n : Nat} : (revD n).length = n := by
  unfold revD
  rw [List.length_map, List.length_range]
theorem revD_get {n j : Nat} {d : D} (e : (revD n)[j]? = some d) : j < n ∧ d = .int ((n : Int) - 1 - (j : Int)) := by
  unfold revD at e
  rw [List.getElem?_map] at e
  by_cases h : j < n
  · rw [List.getElem?_range h] at e
    cases e
    exact ⟨h, rfl⟩
  · rw [List.getElem?_eq_none (by simpa using h)] at e
    cases e
theorem yl_range {lo : Int} {n : Nat} : Yl K F1 (L2.Itr lo n) (rangeD lo n) where
  stop := fun F2 H h1 h2 => by rw [rangeD_len]; exact Nat.le_refl n
  step := fun j d F2 H e h1 h2 => by
    obtain ⟨h3, rfl⟩ := rangeD_get e
    refine ⟨h3, fun y H' ⟨eH, hy⟩ => ?_⟩
    subst eH hy
    exact ⟨F2, Ext.refl h2, .int _⟩
theorem yl_rrange {n : Int} : Yl K F1 (Itc (0 + (((n - 0).toNat : Nat) : Int) - 1) (-1) (n - 0).toNat) (revD n.toNat) where
  stop := fun F2 H h1 h2 => by
    rw [revD_len]
    show (n - 0).toNat ≤ n.toNat
    omega
  step := fun j d F2 H e h1 h2 => by
    obtain ⟨h3, rfl⟩ := revD_get e
    refine ⟨by show j < (n - 0).toNat; omega, fun y H' ⟨eH, hy⟩ => ?_⟩
    subst eH hy
    have e1 : (0 + (((n - 0).toNat : Nat) : Int) - 1) + ((j : Nat) : Int) * (-1) = ((n.toNat : Nat) : Int) - 1 - (j : Int) := by
      have : (n - 0).toNat = n.toNat := by omega
      rw [this]
      omega
    exact ⟨F2, Ext.refl h2, by rw [e1]; exact .int _⟩
theorem yl_rev {a : Addr} {vs : List V} {ds : List D} (q : SqL K F1 a vs) (da : DpAll K F1 vs ds) : Yl K F1 (Itv K a vs.length) ds.reverse where
  stop := fun F2 H h1 h2 => by
    show vs.length ≤ ds.reverse.length
    rw [List.length_reverse, dps_len da]
    exact Nat.le_refl _
  step := fun j d F2 H e h1 h2 => by
    have hl := dps_len da
    have hj : j < ds.length := by
      have := (List.getElem?_eq_some_iff.mp e).1
      simpa using this
    have e' : ds[vs.length - 1 - j]? = some d := by
      rw [List.getElem?_reverse hj] at e
      rw [hl]
      exact e
    obtain ⟨x, h3, h4, h5⟩ := itemL_of q da h1 h2 e'
    refine ⟨⟨by omega, vs, x, h3, h4⟩, fun y H' ⟨eH, hy⟩ => ?_⟩
    subst eH
    have := hy vs h3
    rw [h4] at this
    cases this
    exact ⟨F2, Ext.refl h2, h5⟩
theorem enumD_get : ∀ {ds : List D} {i : Int} {j : Nat} {d : D}, (enumD i ds)[j]? = some d → ∃ e, ds[j]? = some e ∧ d = .tuple [.int (i + (j : Int)), e]
  | [], _, _, _, h => by simp [enumD] at h
  | x :: xs, i, 0, d, h => by
    simp [enumD] at h
    subst h
    exact ⟨x, rfl, by simp⟩
  | x :: xs, i, j + 1, d, h => by
    simp only [enumD, List.getElem?_cons_succ] at h
    obtain ⟨e, h1, h2⟩ := enumD_get h
    exact ⟨e, by simpa using h1, by rw [h2, show i + 1 + (j : Int) = i + ((j + 1 : Nat) : Int) by omega]⟩
theorem enumD_len : ∀ {ds : List D} {i : Int}, (enumD i ds).length = ds.length
  | [], _ => rfl
  | x :: xs, i => by
    simp only [enumD, List.length_cons]
    rw [enumD_len]
theorem zipD_get : ∀ {xs ys : List D} {j : Nat} {d : D}, (zipD xs ys)[j]? = some d → ∃ x y, xs[j]? = some x ∧ ys[j]? = some y ∧ d = .tuple [x, y]
  | [], _, _, _, h => by simp [zipD] at h
  | _ :: _, [], _, _, h => by simp [zipD] at h
  | x :: xs, y :: ys, 0, d, h => by
    simp [zipD] at h
    exact ⟨x, y, rfl, rfl, h.symm⟩
  | x :: xs, y :: ys, j + 1, d, h => by
    simp only [zipD, List.getElem?_cons_succ] at h
    obtain ⟨u, v, h1, h2, h3⟩ := zipD_get h
    exact ⟨u, v, by simpa using h1, by simpa using h2, h3⟩
theorem zipD_len : ∀ {xs ys : List D}, xs.length ≤ (zipD xs ys).length ∨ ys.length ≤ (zipD xs ys).length
  | [], _ => .inl (Nat.zero_le _)
  | _ :: _, [] => .inr (Nat.zero_le _)
  | x :: xs, y :: ys => by
    simp only [zipD, List.length_cons]
    rcases zipD_len (xs := xs) (ys := ys) with h | h
    · exact .inl (by omega)
    · exact .inr (by omega)
theorem yl_enum {a : Addr} {vs : List V} {ds : List D} (q : SqL K F1 a vs) (da : DpAll K F1 vs ds) : Yl K F1 (Ite K a) (enumD 0 ds) where
  stop := fun F2 H h1 h2 => ⟨vs, (h1.trans h2).seq q, by rw [enumD_len, dps_len da]; exact Nat.le_refl _⟩
  step := fun j d F2 H e h1 h2 => by
    obtain ⟨e0, he, rfl⟩ := enumD_get e
    obtain ⟨x, h3, h4, h5⟩ := itemL_of q da h1 h2 he
    refine ⟨⟨vs, x, h3, h4⟩, fun y H' ⟨T, x', ey, hT, eH, hy⟩ => ?_⟩
    subst ey eH
    have := hy vs h3
    rw [h4] at this
    cases this
    have ex := Ext.new (o := HO.tup [.int ((j : Nat) : Int), x]) h2 hT
    exact ⟨_, ex, .tup (.inl (.inl upd_same)) (.cons (by rw [Int.zero_add]; exact .int _) (.cons (dp_mono ex.ff h5) .nil))⟩
theorem yl_zip {a b : Addr} {vs ws : List V} {ds es : List D} (q : SqL K F1 a vs) (da : DpAll K F1 vs ds) (q' : SqL K F1 b ws) (db : DpAll K F1 ws es) : Yl K F1 (Itz K a b) (zipD ds es) where
  stop := fun F2 H h1 h2 => ⟨vs, ws, (h1.trans h2).seq q, (h1.trans h2).seq q', by rw [dps_len da, dps_len db]; exact zipD_len⟩
  step := fun j d F2 H e h1 h2 => by
    obtain ⟨x0, y0, e1, e2, rfl⟩ := zipD_get e
    obtain ⟨x, h3, h4, h5⟩ := itemL_of q da h1 h2 e1
    obtain ⟨y, g3, g4, g5⟩ := itemL_of q' db h1 h2 e2
    refine ⟨⟨vs, ws, x, y, h3, g3, h4, g4⟩, fun v H' ⟨T, x', y', ev, hT, eH, hx, hy⟩ => ?_⟩
    subst ev eH
    have a1 := hx vs h3
    have a2 := hy ws g3
    rw [h4] at a1
    rw [g4] at a2
    cases a1
    cases a2
    have ex := Ext.new (o := HO.tup [x, y]) h2 hT
    exact ⟨_, ex, .tup (.inl (.inl upd_same)) (.cons (dp_mono ex.ff h5) (.cons (dp_mono ex.ff g5) .nil))⟩
end
section
variable {P : Par} {g : Cfg} {X : Cx} {W : Wsh} {Φ : Fns} {e l r z tg : Expr} {es : List Expr} {pos : Pos} {f f1 f2 f3 : Env → Rs D} {fl : Env → Rs (List D)}
theorem i_lst (c : Ct P g X W Φ) (h : PE X l (rd P W f1)) : PI X tg l (rdI P W fun env => (f1 env).bind lstR) := by
  refine (pi_list h).imp fun σ H R ⟨F, env, st, q⟩ => ⟨F, env, st, postI_seq q fun d F1 H1 v e1 x1 rx q1 => ?_⟩
  cases d with
  | list ds =>
    obtain ⟨a, vs, rfl, qa, da⟩ := dp_lst rx
    rw [c.k]
    exact ⟨a, rfl, ⟨vs, x1.fh.seq qa⟩, q1 F1 H1 _ (Ext.refl x1.fh) (yl_list qa da)⟩
  | _ => exact q1.elim
theorem i_tup (c : Ct P g X W Φ) (h : PE X l (rd P W f1)) : PI X tg l (rdI P W fun env => (f1 env).bind tupR) := by
  refine (pi_tup h).imp fun σ H R ⟨F, env, st, q⟩ => ⟨F, env, st, postI_seq q fun d F1 H1 v e1 x1 rx q1 => ?_⟩
  cases d with
  | tuple ds =>
    obtain ⟨a, vs, rfl, qa, da⟩ := dp_tup rx
    rw [c.k]
    exact ⟨a, rfl, ⟨vs, same_seqT x1.fh qa⟩, q1 F1 H1 _ (Ext.refl x1.fh) (yl_tup qa da)⟩
  | _ => exact q1.elim
theorem num_of {d : D} {n : Int} (h : numR d = .ok n) : d = .int n ∧ -(2 ^ 62) ≤ n ∧ n < 2 ^ 62 := by
  cases d <;> simp only [numR] at h <;> try cases h
  split at h
  · cases h
    exact ⟨rfl, ‹_ ∧ _›⟩
  · cases h
theorem num_no {d : D} {k : Nat} : numR d ≠ .exc k := by
  intro z
  cases d <;> simp only [numR] at z <;> (try cases z)
  split at z <;> cases z
/-- a number, then on -/
theorem num_seq {K : Fg} {σ : L2.St} {F H : Hp} {d : D} {k : Int → Rs (List D)} {R : L2.It → Hp → Prop} (q : postI K W σ F H ((numR d).bind k) R) : ∃ n, d = .int n ∧ -(2 ^ 62) ≤ n ∧ n < 2 ^ 62 ∧ postI K W σ F H (k n) R := by
  cases e : numR d with
  | ok n =>
    rw [e] at q
    obtain ⟨h1, h2, h3⟩ := num_of e
    exact ⟨n, h1, h2, h3, q⟩
  | exc k => exact absurd e num_no
  | bad => rw [e] at q; exact q.elim
theorem i_rng (c : Ct P g X W Φ) {x : Str} {p : Pos} (hx : glB X.env.scope x = true) (ex : x = "range") (hs : nst l = true) (h : PE X l (rd P W f1)) : PI X tg (.Call (.Name x p) [l] [] pos) (rdI P W fun env => (f1 env).bind fun x => (numR x).bind fun n => .ok (rangeD 0 n.toNat)) := by
  obtain ⟨gx, dx, nx⟩ := gl_of hx
  subst ex
  refine (pi_range1 gx (c.bl _ (by decide)) (pa_cons h pa_nil (star_of hs)) (star_of hs)).imp fun σ H R ⟨F, env, st, q⟩ => ⟨F, env, st, postI_seq q fun d F1 H1 v e1 x1 rx q1 => ?_⟩
  obtain ⟨n, rfl, h1, h2, q2⟩ := num_seq q1
  rw [dp_int rx]
  exact ⟨n, rfl, h1, h2, q2 F1 H1 _ (Ext.refl x1.fh) yl_range⟩
theorem i_rng2 (c : Ct P g X W Φ) {x : Str} {p : Pos} (hx : glB X.env.scope x = true) (ex : x = "range") (hs : nst l = true) (hs2 : nst r = true) (h : PE X l (rd P W f1)) (h' : PE X r (rd P W f2)) :
    PI X tg (.Call (.Name x p) [l, r] [] pos) (rdI P W fun env => (f1 env).bind fun x => (f2 env).bind fun y => (numR x).bind fun n => (numR y).bind fun m => .ok (rangeD n (m - n).toNat)) := by
  obtain ⟨gx, dx, nx⟩ := gl_of hx
  subst ex
  refine (pi_range2 gx (c.bl _ (by decide)) (pa_cons h (pa_cons h' pa_nil (star_of hs2)) (star_of hs)) (by rw [star_of hs, star_of hs2]; rfl) (star_of hs2)).imp fun σ H R ⟨F, env, st, q⟩ => ⟨F, env, st, postI_seq q fun d F1 H1 v e1 x1 rx q1 => ⟨F1, env, st.mono x1, postI_seq q1 fun d' F2 H2 v' e2 x2 ry q2 => ?_⟩⟩
  obtain ⟨n, rfl, h1, h2, q3⟩ := num_seq q2
  obtain ⟨m, rfl, h3, h4, q4⟩ := num_seq q3
  rw [dp_int rx, dp_int ry]
  exact ⟨n, m, rfl, ⟨h1, h2, h3, h4⟩, q4 F2 H2 _ (Ext.refl x2.fh) yl_range⟩
theorem i_rrng (c : Ct P g X W Φ) {x y : Str} {p p2 pos2 : Pos} (hx : glB X.env.scope x = true) (ex : x = "reversed") (hy : glB X.env.scope y = true) (ey : y = "range") (hs : nst l = true) (h : PE X l (rd P W f1)) :
    PI X tg (.Call (.Name x p) [.Call (.Name y p2) [l] [] pos2] [] pos) (rdI P W fun env => (f1 env).bind fun x => (numR x).bind fun n => .ok (revD n.toNat)) := by
  obtain ⟨gx, dx, nx⟩ := gl_of hx
  obtain ⟨gy, dy, ny⟩ := gl_of hy
  subst ex ey
  refine (pi_revR gx (c.bl _ (by decide)) (prg_1 gy (c.bl _ (by decide)) h (star_of hs)) rfl).imp fun σ H R ⟨F, env, st, q⟩ => ⟨F, env, st, postI_seq q fun d F1 H1 v e1 x1 rx q1 => ?_⟩
  obtain ⟨n, rfl, h1, h2, q2⟩ := num_seq q1
  rw [dp_int rx]
  exact ⟨n, rfl, by omega, by omega, h1, h2, q2 F1 H1 _ (Ext.refl x1.fh) yl_rrange⟩
theorem i_rev (c : Ct P g X W Φ) {x : Str} {p : Pos} (hx : glB X.env.scope x = true) (ex : x = "reversed") (hs : nst l = true) (h : PE X l (rd P W f1)) : PI X tg (.Call (.Name x p) [l] [] pos) (rdI P W fun env => (f1 env).bind fun x => (lstR x).bind fun xs => .ok xs.reverse) := by
  obtain ⟨gx, dx, nx⟩ := gl_of hx
  subst ex
  refine (pi_reversed gx (c.bl _ (by decide)) (pa_cons h pa_nil (star_of hs)) (star_of hs)).imp fun σ H R ⟨F, env, st, q⟩ => ⟨F, env, st, postI_seq q fun d F1 H1 v e1 x1 rx q1 => ?_⟩
  cases d with
  | list ds =>
    obtain ⟨a, vs, rfl, qa, da⟩ := dp_lst rx
    rw [c.k]
    exact ⟨a, vs, rfl, x1.fh.seq qa, q1 F1 H1 _ (Ext.refl x1.fh) (yl_rev qa da)⟩
  | _ => exact q1.elim
theorem i_enm (c : Ct P g X W Φ) {x : Str} {p tp : Pos} {kk : Nat} (hx : glB X.env.scope x = true) (ex : x = "enumerate") (hs : nst l = true) (h : PE X l (rd P W f1)) : PI X (.Tuple es kk tp) (.Call (.Name x p) [l] [] pos) (rdI P W fun env => (f1 env).bind fun x => (lstR x).bind fun xs => .ok (enumD 0 xs)) := by
  obtain ⟨gx, dx, nx⟩ := gl_of hx
  subst ex
  refine (pi_enum gx (c.bl _ (by decide)) (pa_cons h pa_nil (star_of hs)) (star_of hs)).imp fun σ H R ⟨F, env, st, q⟩ => ⟨F, env, st, postI_seq q fun d F1 H1 v e1 x1 rx q1 => ?_⟩
  cases d with
  | list ds =>
    obtain ⟨a, vs, rfl, qa, da⟩ := dp_lst rx
    rw [c.k]
    exact ⟨a, vs, rfl, x1.fh.seq qa, q1 F1 H1 _ (Ext.refl x1.fh) (yl_enum qa da)⟩
  | _ => exact q1.elim
theorem i_zip (c : Ct P g X W Φ) {x : Str} {p tp : Pos} {kk : Nat} (hx : glB X.env.scope x = true) (ex : x = "zip") (hs : nst l = true) (hs2 : nst r = true) (h : PE X l (rd P W f1)) (h' : PE X r (rd P W f2)) :
    PI X (.Tuple es kk tp) (.Call (.Name x p) [l, r] [] pos) (rdI P W fun env => (f1 env).bind fun x => (f2 env).bind fun y => (lstR x).bind fun xs => (lstR y).bind fun ys => .ok (zipD xs ys)) := by
  obtain ⟨gx, dx, nx⟩ := gl_of hx
  subst ex
  refine (pi_zip gx (c.bl _ (by decide)) (pa_cons h (pa_cons h' pa_nil (star_of hs2)) (star_of hs)) (star_of hs) (by rw [star_of hs2]; rfl)).imp fun σ H R ⟨F, env, st, q⟩ => ⟨F, env, st, postI_seq q fun d F1 H1 v e1 x1 rx q1 => ⟨F1, env, st.mono x1, postI_seq q1 fun d' F2 H2 v' e2 x2 ry q2 => ?_⟩⟩
  cases d with
  | list ds =>
    cases d' with
    | list es =>
      obtain ⟨a, vs, rfl, qa, da⟩ := dp_lst rx
      obtain ⟨b, ws, rfl, qb, db⟩ := dp_lst ry
      rw [c.k]
      have qa' := x2.ff.seq qa
      exact ⟨a, b, vs, ws, rfl, x2.fh.seq qa', x2.fh.seq qb, q2 F2 H2 _ (Ext.refl x2.fh) (yl_zip qa' (dps_mono x2.ff da) qb db)⟩
    | _ => exact q2.elim
  | _ => exact q2.elim
/-! comprehensions -/
theorem mapR_get {f : D → Rs D} : ∀ {ds ys : List D}, mapR f ds = .ok ys → ds.length = ys.length ∧ ∀ (j : Nat) (d : D), ds[j]? = some d → ∃ y, ys[j]? = some y ∧ f d = .ok y
  | [], ys, h => by
    cases h
    exact ⟨rfl, fun j d e => by simp at e⟩
  | x :: xs, ys, h => by
    unfold mapR at h
    cases e : f x with
    | ok y =>
      rw [e] at h
      simp only [Rs.bind] at h
      cases e2 : mapR f xs with
      | ok zs =>
        rw [e2] at h
        cases h
        obtain ⟨h1, h2⟩ := mapR_get e2
        refine ⟨by rw [List.length_cons, List.length_cons, h1], fun j d ej => ?_⟩
        cases j with
        | zero =>
          simp at ej
          subst ej
          exact ⟨y, rfl, e⟩
        | succ j =>
          obtain ⟨z, g1, g2⟩ := h2 j d (by simpa using ej)
          exact ⟨z, by simpa using g1, g2⟩
      | exc k => rw [e2] at h; cases h
      | bad => rw [e2] at h; cases h
    | exc k => rw [e] at h; cases h
    | bad => rw [e] at h; cases h
theorem cold_ok {α : Type} {r : Rs α} {a : α} (h : r.cold = .ok a) : r = .ok a := by
  cases r with
  | ok b => exact h
  | exc k => cases h
  | bad => cases h
theorem cl_map {f : D → Rs D} (h : ∀ d, Cl (f d)) : ∀ ds, Cl (mapR f ds)
  | [] => cl_ok
  | x :: xs => cl_bind (h x) fun _ => cl_bind (cl_map h xs) fun _ => cl_ok
theorem cl_cold {α : Type} {r : Rs α} : Cl r.cold := by
  cases r <;> first | exact cl_ok | exact cl_bad
abbrev Wno : Wsh := fun _ _ _ => False
theorem Ct.blk (c : Ct P g X W Φ) (hh : g.hot = false) (hge : g.gen = false) (s : Shared) (H : Hp) (scope : Scope) (cenv : PySem.Env) (fp : List Addr) : Ct P g (X.blk s H scope cenv fp) Wno Φ :=
  ⟨c.n, c.nd, c.k, c.bl, c.calm, c.un, c.fns, fun z => absurd (hh.symm.trans z) Bool.false_ne_true, c.gi, c.is, c.es, fun σ pins H s e s' I h => by
    obtain ⟨_, _, _, _, _, _, _, _, _, _, _, _, _, _, _, z⟩ := h
    exact z.elim, c.tb, fun _ z => absurd (hge.symm.trans z) Bool.false_ne_true⟩
/-- a list grows while others are kept -/
theorem Ext.grow {F1 H1 F2 H2 : Hp} {p : Addr} {o : HO} (e : Ext F1 H1 F2 H2) (h1 : H1 p = none) (h2 : F2 p = none) : Ext F1 H1 F2 (upd H2 p o) := by
  refine ⟨e.hh.upd h1, e.ff, fun b u q => ?_, e.nw⟩
  · rw [upd_ne (ne_of_none q h2)]
    exact e.fh b u q
/-- it is done with -/
theorem Ext.done {F1 H1 F2 H2 : Hp} {p : Addr} {o : HO} (e : Ext F1 H1 F2 H2) (h1 : H1 p = none) (h2 : F2 p = none) (h3 : H2 p = some o) : Ext F1 H1 (upd F2 p o) H2 := by
  refine ⟨e.hh, e.ff.trans (same_upd2 h2), fun b u q => ?_, fun b q1 q2 => ?_⟩
  · by_cases hb : b = p
    · subst hb
      rw [upd_same] at q
      cases q
      exact h3
    · rw [upd_ne hb] at q
      exact e.fh b u q
  · have : b ≠ p := fun z => by
      subst z
      exact q1 h1
    rw [upd_ne this]
    exact e.nw b q1 q2
theorem comp_inX {gt : TG} {vs : List Nat} {fe : D → Env → Rs D} (hcl : ∀ d env, Cl (fe d env))
    (key : ∀ (d y : D) (env : Env) (F H : Hp) (σ0 : L2.St) (v : V) (Qe : VK), Sta P F H σ0 env → Dp P.K F v d → fe d env = .ok y → (∀ F4 H4 w', Ext F H F4 H4 → Dp P.K F4 w' y → Qe w' H4) → gt v (wipe σ0 vs) H fun σ2 H2 => wipe σ2 vs = wipe σ0 vs ∧ rd P Wno f σ2 H2 Qe)
    {σ : L2.St} {H : Hp} {Q : VK} (h : rd P W (fun env => (fl env).bind fun ds => if ds.length ≤ szl then (mapR (fun d => fe d env) ds).bind fun ys => .ok (.list ys) else .bad) σ H Q) :
    tLc (rdI P W fl) gt tYes (rd P Wno f) vs σ H Q := by
  obtain ⟨F, env, st, q⟩ := h
  refine ⟨F, env, st, ?_⟩
  have q : post (Dp P.K) W σ F H ((fl env).bind fun ds => if ds.length ≤ szl then (mapR (fun d => fe d env) ds).bind fun ys => .ok (.list ys) else .bad) Q := q
  cases el : fl env with
  | exc k => rw [el] at q; exact q
  | bad => rw [el] at q; exact q.elim
  | ok ds =>
    rw [el] at q
    simp only [Rs.bind] at q
    split at q
    case isFalse => exact q.elim
    rename_i hz
    refine fun F1 H1 J x1 y1 D hD => ?_
    cases em : mapR (fun d => fe d env) ds with
    | exc k => exact absurd em (cl_map (fun _ => hcl _ _) ds k)
    | bad => rw [em] at q; exact q.elim
    | ok ys =>
      rw [em] at q
      have q : ∀ F' H' v, Ext F H F' H' → Dp P.K F' v (.list ys) → Q v H' := q
      obtain ⟨hlen, hget⟩ := mapR_get em
      have st1 := st.mono x1
      have hF1D : F1 D = none := by
        cases e : F1 D with
        | none => rfl
        | some o =>
          have := x1.fh D o e
          rw [hD] at this
          cases this
      refine ⟨fun j m H => m = ds.length - j ∧ j ≤ ds.length ∧ ∃ F2 acc, Ext F1 H1 F2 H ∧ F2 D = none ∧ H D = some (.lst acc) ∧ DpAll P.K F2 acc (ys.take j), ⟨ds.length, by simp, Nat.zero_le _, F1, [], Ext.newO x1.fh hD, hF1D, upd_same, .nil⟩, ?_⟩
      rintro j m H3 ⟨rfl, hj, F2, acc, x2, hF2, hH, ha⟩
      by_cases hlt : j < ds.length
      · obtain ⟨d, hd⟩ : ∃ d, ds[j]? = some d := ⟨ds[j], List.getElem?_eq_getElem hlt⟩
        obtain ⟨go, yld⟩ := y1.step j d F2 H3 hd x2.ff x2.fh
        refine .inr ⟨go, fun H' => ∃ F2 acc, Ext F1 H1 F2 H' ∧ F2 D = none ∧ H' D = some (.lst acc) ∧ DpAll P.K F2 acc (ys.take (j + 1)), fun H' ⟨F2', acc', a1, a2, a3, a4⟩ => ⟨ds.length - (j + 1), by omega, rfl, hlt, F2', acc', a1, a2, a3, a4⟩, fun v H' hy => ?_⟩
        obtain ⟨F3, x3, rv⟩ := yld v H' hy
        have x23 := x2.trans x3
        obtain ⟨y, hy1, hy2⟩ := hget j d hd
        refine key d y env F3 H' σ v _ (st1.mono x23) rv hy2 ?_
        refine fun F4 H4 w' x4 rw' => ?_
        have x34 := x3.trans x4
        have hH4 : H4 D = some (.lst acc) := x34.hh.lst hH
        have hF4 : F4 D = none := x34.nw D (by rw [hH]; exact fun z => nomatch z) hF2
        refine ⟨acc, hH4, ?_, F4, acc ++ [w'], (x2.trans x34).grow hD hF4, hF4, upd_same, ?_⟩
        · have e1 := dps_len ha
          rw [List.length_take] at e1
          have : szl = sizeLine := rfl
          omega
        · rw [List.take_add_one, hy1]
          exact dps_app (dps_mono x34.ff ha) (.cons rw' .nil)
      · have e : j = ds.length := by omega
        subst e
        refine .inl ⟨y1.stop F2 H3 x2.ff x2.fh, q _ H3 (.ref D) (x1.trans (x2.done hD hF2 hH)) (.lst (.inl (.inl upd_same)) ?_)⟩
        have et : ys.take ds.length = ys := List.take_of_length_le (by omega)
        rw [et] at ha
        exact dps_mono (same_upd2 hF2) ha
theorem comp_in {i : Nat} {σ : L2.St} {H : Hp} {Q : VK} (h : rd P W (fun env => (fl env).bind fun ds => if ds.length ≤ szl then (mapR (fun d => (f (env.set i (some (.fr d)))).cold) ds).bind fun ys => .ok (.list ys) else .bad) σ H Q) :
    tLc (rdI P W fl) (gName i) tYes (rd P Wno f) [i] σ H Q := by
  refine comp_inX (fe := fun d env => (f (env.set i (some (.fr d)))).cold) (fun _ _ => cl_cold) (fun d y env F H σ0 v Qe st rv hy q => ?_) h
  have hset2 : ((wipe σ0 [i]).set i (some v)) = σ0.set i (some v) := by
    show (σ0.set i none).set i (some v) = σ0.set i (some v)
    rw [List.set_set]
  refine ⟨by
    show (((wipe σ0 [i]).set i (some v)).set i none) = wipe σ0 [i]
    show (((σ0.set i none).set i (some v)).set i none) = σ0.set i none
    rw [List.set_set, List.set_set], ?_⟩
  rw [hset2]
  refine ⟨F, env.set i (some (.fr d)), st.putD rv, ?_⟩
  rw [cold_ok hy]
  exact q
theorem s_comp (c : Ct P g X W Φ) {i : Nat} {x : Str} {itr el : Expr} {scope : Scope} {px : Pos} (hh : g.cmp = false) (hb : blkC g.N X.env.scope scope [(x, i)] = true) (hl : locB (relS scope X.env.scope) x = true)
    (hi : PI X (.Name x px) itr (rdI P W fl)) (hset : ∀ y, foldedSetIterable itr X.env y = pure y) (he : ∀ X', Ct P g X' Wno Φ → X'.env.scope = relS scope X.env.scope → PE X' el (rd P Wno f)) :
    PE X (.ListComp el [⟨.Name x px, itr, [], 0⟩] scope pos) (rd P W fun env => (fl env).bind fun ds => if ds.length ≤ szl then (mapR (fun d => (f (env.set i (some (.fr d)))).cold) ds).bind fun ys => .ok (.list ys) else .bad) := by
  obtain ⟨hh, hge⟩ := cmp_of hh
  have ok : BlkOk X.N X.env.scope scope [(x, i)] := blkOk_by (by rw [c.n]; exact hb)
  have hx : (relS scope X.env.scope).names.lookup x = some .local := loc_of hl
  have hN : X.N.Nodup := by rw [c.n]; exact c.nd
  exact (pe_lc (own := [(x, i)]) (g := gName i) (tt := tYes) (te := rd P Wno f) (c.calm hh) hN hi ok (fun s H C cl fp => pg_name hN (ok.ix (x, i) (List.mem_cons_self)) (.inl hx) (.inr hx)) (fun _ _ _ _ _ => pts_nil)
    (fun s H C cl fp => he _ (c.blk hh hge s H scope _ fp) rfl) hset).imp fun σ H Q h => comp_in h
theorem wipe2 {σ : L2.St} {i j : Nat} {x y : V} (h : i ≠ j) : ((wipe σ [i, j]).set i (some x)).set j (some y) = (σ.set i (some x)).set j (some y) ∧ wipe ((σ.set i (some x)).set j (some y)) [i, j] = wipe σ [i, j] := by
  constructor
  · show ((((σ.set j none).set i none).set i (some x)).set j (some y)) = _
    rw [List.set_set, List.set_comm none (some x) (Ne.symm h), List.set_set]
  · show ((((σ.set i (some x)).set j (some y)).set j none).set i none) = (σ.set j none).set i none
    rw [List.set_set, List.set_comm (some x) none h, List.set_set]
theorem comp_in2 {i j : Nat} (hij : i ≠ j) {σ : L2.St} {H : Hp} {Q : VK} (h : rd P W (fun env => (fl env).bind fun ds => if ds.length ≤ szl then (mapR (pairR fun x y => (f ((env.set i (some (.fr x))).set j (some (.fr y)))).cold) ds).bind fun ys => .ok (.list ys) else .bad) σ H Q) :
    tLc (rdI P W fl) (gTup P.K 2 (gCons (gName i) (gCons (gName j) gNil))) tYes (rd P Wno f) [i, j] σ H Q := by
  refine comp_inX (fe := fun d env => pairR (fun x y => (f ((env.set i (some (.fr x))).set j (some (.fr y)))).cold) d) (fun d env => by unfold pairR; split <;> first | exact cl_cold | exact cl_bad) (fun d y env F H σ0 v Qe st rv hy q => ?_) h
  unfold pairR at hy
  split at hy
  case h_2 => cases hy
  rename_i dx dy
  obtain ⟨a, vs, rfl, qa, da⟩ := dp_tup rv
  cases da with
  | cons r1 da =>
    cases da with
    | cons r2 da =>
      cases da
      obtain ⟨w1, w2⟩ := wipe2 (σ := σ0) (x := _) (y := _) hij
      refine ⟨a, _, rfl, same_seqT st.same qa, rfl, _, _, rfl, _, _, rfl, rfl, ?_⟩
      rw [w1]
      refine ⟨w2, F, (env.set i (some (.fr dx))).set j (some (.fr dy)), (st.putD r1).putD r2, ?_⟩
      rw [cold_ok hy]
      exact q
theorem s_comp2 (c : Ct P g X W Φ) {i j : Nat} {x z : Str} {itr el : Expr} {scope : Scope} {px pz tp : Pos} {k : Nat} (hh : g.cmp = false) (hij : i ≠ j) (hb : blkC g.N X.env.scope scope [(x, i), (z, j)] = true) (hl : locB (relS scope X.env.scope) x = true) (hl2 : locB (relS scope X.env.scope) z = true)
    (hi : PI X (.Tuple [.Name x px, .Name z pz] k tp) itr (rdI P W fl)) (hset : ∀ y, foldedSetIterable itr X.env y = pure y) (he : ∀ X', Ct P g X' Wno Φ → X'.env.scope = relS scope X.env.scope → PE X' el (rd P Wno f)) :
    PE X (.ListComp el [⟨.Tuple [.Name x px, .Name z pz] k tp, itr, [], 0⟩] scope pos) (rd P W fun env => (fl env).bind fun ds => if ds.length ≤ szl then (mapR (pairR fun x y => (f ((env.set i (some (.fr x))).set j (some (.fr y)))).cold) ds).bind fun ys => .ok (.list ys) else .bad) := by
  obtain ⟨hh, hge⟩ := cmp_of hh
  have ok : BlkOk X.N X.env.scope scope [(x, i), (z, j)] := blkOk_by (by rw [c.n]; exact hb)
  have hx : (relS scope X.env.scope).names.lookup x = some .local := loc_of hl
  have hz : (relS scope X.env.scope).names.lookup z = some .local := loc_of hl2
  have hN : X.N.Nodup := by rw [c.n]; exact c.nd
  exact (pe_lc (own := [(x, i), (z, j)]) (g := gTup P.K 2 (gCons (gName i) (gCons (gName j) gNil))) (tt := tYes) (te := rd P Wno f) (c.calm hh) hN hi ok (fun s H C cl fp => by
      rw [← c.k]
      exact pg_tup (n := 2) (c.calm hh) (pgs_cons (pg_name hN (ok.ix (x, i) (List.mem_cons_self)) (.inl hx) (.inr hx)) (pgs_cons (pg_name hN (ok.ix (z, j) (List.mem_cons_of_mem _ List.mem_cons_self)) (.inl hz) (.inr hz)) pgs_nil))) (fun _ _ _ _ _ => pts_nil)
    (fun s H C cl fp => he _ (c.blk hh hge s H scope _ fp) rfl) hset).imp fun σ H Q h => comp_in2 hij h
end
end Q

set_option Elab.async false
set_option linter.all false
set_option maxRecDepth 100000
set_option autoImplicit false
set_option maxHeartbeats 4000000
namespace RT
open PySem
section
variable {prog : Program} {w : World} {A : Around} {E : Value → Shared → Prop} {s : Shared} {R : Result → Shared → Prop}
theorem q_extend_rev {it l : Addr} {items : Array Value} (hh : A.in1.handled = none) (hit : s.heap.IsRevIter it l ((items.size : Int) - 1)) (hl : s.heap.IsList l items) (hne : l ≠ it) (hn : items.size ≤ sizeLine)
    (S : Addr) (res : Value) (c₀ : Nat) (hSf : S ∉ [it, l]) (hS : s.heap.get? S = some { cls := .type "list", data := .seq #[] c₀ })
    (hR : ∀ s' acc' c', Moved (S :: [it]) (fun a b => b = a) s s' → s'.heap.get? S = some { cls := .type "list", dict := none, data := .seq acc' c', slots := #[] } → ItemsOf (fun i v => items[items.size - 1 - i]? = some v) acc' items.size → R (.ok (.ret res)) s') :
    wpAny (model prog w) A.in1 (Builtin.List.listExtendWith (.ref S) (.ref it) res)
      (fun fin s' => match fin with | .done f => R (.ok f) s' | .again c' => c'.quiet = true ∧ codeAny (model prog w) A c' R s') (fun e s' => R (.error e) s') s := by
  have W := (Walks.listRev (prog := prog) (w := w) (A := A.in1) hh it l hne items).toS
  have hSi : S ≠ it := fun e => hSf (by simp [e])
  have hT : s.TypeIs (.ref it) "list_reverseiterator" := hit.typeIs
  have h1 : Builtin.List.listSameRef (.ref S) (.ref it) = false := by simp [Builtin.List.listSameRef, hSi]
  unfold Builtin.List.listExtendWith
  refine wpAny_bind (wpAny_typeOf hT ?_)
  rw [if_neg (by rw [h1]; decide)]
  refine wpAny_bind (wpAny_pyIter_revIter hit ?_)
  refine wpAny_bind (wpAny_holding ?_)
  unfold Builtin.List.listLengthHint
  refine wpAny_bind (wpAny_specialOf hT nolen_lri ?_)
  show wpAny _ A.in1 (specialOf (Value.ref it) (Str.ofString "__length_hint__") >>= _) _ _ _
  refine wpAny_bind (wpAny_specialOf hT hint_lri ?_)
  generalize hid : ("list_reverseiterator.__length_hint__" : String) = id0
  wp_delta
  rw [show splitId id0 = some ("list_reverseiterator", "__length_hint__") from by subst hid; decide +kernel]
  subst hid
  refine wpAny_bind (wpAny_isInstance (b := true) hT (by rw [isSubtype_type]; kernel_rfl) ?_)
  refine wpAny_pure ?_
  rw [if_neg (by decide)]
  have e0 : ((items.size : Nat) : Int) - 1 - ((0 : Nat) : Int) = (items.size : Int) - 1 := by omega
  refine wpAny_pure ⟨plainId_quiet F.plain_extend_loop _, codeAny_extend_loopS W hn _ hSf _ items.size 0 _ _ _ rfl (Nat.zero_le _) ⟨Nat.zero_le _, by rw [e0]; exact hit, hl⟩ hS (ItemsOf.nil _) fun s' acc' c' hm hS' hacc => ?_⟩
  exact hR s' acc' c' hm hS' hacc
theorem q_call_list_rev {it l : Addr} {items : Array Value} {Q : Value → Shared → Prop} (hh : A.handled = none) (hit : s.heap.IsRevIter it l ((items.size : Int) - 1)) (hl : s.heap.IsList l items) (hne : l ≠ it) (hn : items.size ≤ sizeLine)
    (hQ : ∀ (h' : Heap) (tk : Nat) (acc : Array Value) (c : Nat), (∀ b o, b ≠ it → s.heap.get? b = some o → h'.get? b = some o) → h'.get? s.heap.objs.size = some { cls := .type "list", dict := none, data := .seq acc c, slots := #[] } →
      ItemsOf (fun i v => items[items.size - 1 - i]? = some v) acc items.size → Q (.ref s.heap.objs.size) { s with heap := h', toks := tk }) :
    wpAny (model prog w) A (call (.type "list") [.ref it]) Q E s := by
  obtain ⟨oi, hoi, _⟩ := id hit
  obtain ⟨ol, hol, _⟩ := id hl
  have hSi : s.heap.objs.size ≠ it := Nat.ne_of_gt (Heap.lt_size hoi)
  have hSl : s.heap.objs.size ≠ l := Nat.ne_of_gt (Heap.lt_size hol)
  have hSf : s.heap.objs.size ∉ [it, l] := by simp only [List.mem_cons, List.not_mem_nil, or_false, not_or]; exact ⟨hSi, hSl⟩
  refine callType_codes (Q₁ := fun obj s₁ => obj = .ref s.heap.objs.size ∧ s₁ = { s with heap := s.heap.push { cls := .type "list", data := .seq #[] } }) F.called_list (F.typeCall_list_1 _) F.entry_list_init
    (code_list_new _ ⟨rfl, rfl⟩) fun obj s₁ h₁ => ?_
  obtain ⟨rfl, rfl⟩ := h₁
  have hS : (s.heap.push { cls := .type "list", data := .seq #[] }).get? s.heap.objs.size = some { cls := .type "list", data := .seq #[] } := Heap.get?_push_size _ rfl
  refine ⟨⟨_, hS, rfl⟩, F.args_list_init_2 _ _, ?_⟩
  show wpAny _ A.in1.in1 (do let old ← Builtin.List.listItems (.ref s.heap.objs.size); Builtin.List.listUpdate (.ref s.heap.objs.size) (fun _ => #[]); letGo old.toList.reverse; Builtin.List.listExtendWith (.ref s.heap.objs.size) (.ref it) .none) _ _ _
  refine wpAny_bind ?_
  unfold Builtin.List.listItems
  refine wpAny_bind (wpAny_seqItems hS rfl (wpAny_pure ?_))
  show wpAny _ A.in1.in1 (updateSeq s.heap.objs.size (fun _ => #[]) >>= fun _ => letGo (#[] : Array Value).toList.reverse >>= fun _ => Builtin.List.listExtendWith (.ref s.heap.objs.size) (.ref it) .none) _ _ _
  refine wpAny_bind (wpAny_updateSeq hS rfl ?_)
  have hS₂ := Heap.get?_update_self (Obj.mapSeq (fun _ => (#[] : Array Value))) hS rfl
  have oth : ∀ b o, b ≠ s.heap.objs.size → (s.heap.push { cls := .type "list", data := .seq #[] }).get? b = some o → ((s.heap.push { cls := .type "list", data := .seq #[] }).update s.heap.objs.size (Obj.mapSeq (fun _ => (#[] : Array Value)))).get? b = some o :=
    fun b o hb e => (Heap.get?_update_other _ _ (Ne.symm hb)).trans e
  refine wpAny_bind (wpAny_letGo ?_)
  have hit2 : ((s.heap.push { cls := .type "list", data := .seq #[] }).update s.heap.objs.size (Obj.mapSeq (fun _ => (#[] : Array Value)))).IsRevIter it l ((items.size : Int) - 1) := hit.at fun o e => oth it o (Ne.symm hSi) (Heap.get?_push_of_some _ e)
  have hl2 : ((s.heap.push { cls := .type "list", data := .seq #[] }).update s.heap.objs.size (Obj.mapSeq (fun _ => (#[] : Array Value)))).IsList l items := hl.at fun o e => oth l o (Ne.symm hSl) (Heap.get?_push_of_some _ e)
  refine q_extend_rev (A := A.in1) (R := fun r s' => match r with | .ok (.ret v) => v = Value.none ∧ Q (.ref s.heap.objs.size) s' | .ok _ => False | .error e => E e s') hh hit2 hl2 hne hn s.heap.objs.size .none _ hSf hS₂ fun s' acc' c' hm hS' hacc => ?_
  refine ⟨rfl, ?_⟩
  rw [Moved.eq_with hm]
  refine hQ s'.heap s'.toks acc' c' (fun b o hb e => hm.heap b o (fun hmem => ?_) (oth b o (Nat.ne_of_lt (Heap.lt_size e)) (Heap.get?_push_of_some _ e))) hS' hacc
  rcases List.mem_cons.mp hmem with e' | hmem
  · exact absurd (Heap.lt_size e) (by rw [e']; exact Nat.lt_irrefl _)
  · exact hb (List.mem_singleton.mp hmem)
end
end RT

set_option Elab.async false
set_option linter.all false
set_option maxRecDepth 100000
set_option autoImplicit false
set_option maxHeartbeats 8000000
namespace Q
open PySem PySem.Spec PyProof.Rows L2
section
variable {P : Par} {g : Cfg} {X : Cx} {W : Wsh} {Φ : Fns} {e l r z : Expr} {es : List Expr} {pos : Pos} {f f1 f2 f3 : Env → Rs D} {fl : Env → Rs (List D)}
theorem pe_listRev {x y : Str} {te : TE} {p p2 pos2 : Pos} (hc : X.calm = true) (hg : Gl X x) (ex : x = "list") (hm : X.mg x = none) (hg2 : Gl X y) (ey : y = "reversed") (hm2 : X.mg y = none) (he : PE X e te) (hs : starEach [e] X.env = (false, eval e X.env) :: starEach [] X.env) :
    PE X (.Call (.Name x p) [.Call (.Name y p2) [e] [] pos2] [] pos) (fun σ H Q => te σ H fun v H1 => ∃ (a : Addr) (xs : List V), v = .ref a ∧ SqL X.K H1 a xs ∧ ∀ q, H1 q = none → Q (.ref q) (upd H1 q (.lst xs.reverse))) := by
  subst ex ey
  refine ⟨fun pins s σ H Q I h => ?_⟩
  refine Call_ (ld_blt I hg hm boot_list (PyProof.Rows.callWith_type1 (args_cons (Call_ (ld_blt I hg2 hm2 PyProof.Rows.boot_reversed (PyProof.Rows.callWith_type1 (args_cons (thn (he.run pins s σ H _ I h) fun u s1 ⟨v, H1, I1, r1, q1⟩ => args_nil ?_) hs) hs rfl))) rfl) rfl rfl))
  obtain ⟨a, xs, ev, hq, q⟩ := q1
  subst ev
  obtain rfl : u = Value.ref a := r1
  obtain ⟨its, rv, p', hz⟩ := I1.list hq
  refine call_reversed_list p'.isList (args_nil ?_)
  have k0 : ∀ b o, s1.heap.get? b = some o → (s1.heap.push (revObj a ((its.toArray.size : Int) - 1))).get? b = some o := fun b o e => Heap.get?_push_of_some _ e
  have I2 : Inv X pins σ H1 { s1 with heap := s1.heap.push (revObj a ((its.toArray.size : Int) - 1)) } := I1.kept (t' := s1.toks) k0
  have hl := p'.isList
  obtain ⟨ol, hol, _⟩ := id hl
  have hne : a ≠ s1.heap.objs.size := Nat.ne_of_lt (Heap.lt_size hol)
  have hn : its.toArray.size ≤ sizeLine := by rw [List.size_toArray, ← rv.length]; exact hz
  refine RT.q_call_list_rev (s := { s1 with heap := s1.heap.push (revObj a ((its.toArray.size : Int) - 1)) }) (I1.ok.hd hc) ⟨_, Heap.get?_push_size _ rfl, rfl, rfl⟩ (hl.push _) hne hn fun h' tk acc cnt hk hS hi => ?_
  have sz : (s1.heap.push (revObj a ((its.toArray.size : Int) - 1))).objs.size = s1.heap.objs.size + 1 := Heap.size_push ..
  rw [sz] at hS ⊢
  have hfree : H1 (s1.heap.objs.size + 1) = none := I1.hok.fresh (Nat.le_succ _)
  have new : ObjOk X.prog X.w (upd H1 (s1.heap.objs.size + 1) (.lst xs.reverse)) h' (s1.heap.objs.size + 1) (.lst xs.reverse) := ⟨by rw [List.length_reverse]; exact hz, acc.toList, cnt, RT.vals_rev rv hi, by rw [Array.toArray_toList]; exact hS⟩
  have I3 := I1.turnedNew (t' := tk) (ch := [s1.heap.objs.size]) (fun b o hb e => hk b o (fun z => hb (by simp [z])) (k0 b o e)) (fun b hb => by
    have : b = s1.heap.objs.size := by simpa using hb
    subst this
    exact I1.fpOk (Nat.le_refl _) (I1.hok.fresh (Nat.le_refl _))) (Nat.le_succ _) new
  exact ⟨.ref (s1.heap.objs.size + 1), _, I3, rfl, q _ hfree⟩
theorem s_lrev (c : Ct P g X W Φ) {x y : Str} {p p2 pos2 : Pos} (hh : g.hot = false) (hx : glB X.env.scope x = true) (ex : x = "list") (hy : glB X.env.scope y = true) (ey : y = "reversed") (hs : nst l = true) (ha : PE X l (rd P W f1)) :
    PE X (.Call (.Name x p) [.Call (.Name y p2) [l] [] pos2] [] pos) (rd P W fun env => (f1 env).bind fun d => (match d with | .list ds => .ok (.list ds.reverse) | _ => .bad)) := by
  obtain ⟨gx, dx, nx⟩ := gl_of hx
  obtain ⟨gy, dy, ny⟩ := gl_of hy
  refine (pe_listRev (c.calm hh) gx ex (c.bl x (by subst ex; decide)) gy ey (c.bl y (by subst ey; decide)) ha (star_of hs)).imp fun σ H Q ⟨F, env, st, q⟩ => ⟨F, env, st, post_seq q fun d F1 H1 v e1 x1 rx q1 => ?_⟩
  cases d with
  | list ds =>
    obtain ⟨a, vs, rfl, qa, da⟩ := dp_lst rx
    rw [c.k]
    exact ⟨a, vs, rfl, x1.fh.seq qa, fun p hp => q1 _ _ _ (Ext.new x1.fh hp) (.lst (.inl (.inl upd_same)) (dps_mono (Ext.new (o := HO.lst vs.reverse) x1.fh hp).ff (dps_rev da)))⟩
  | _ => exact q1.elim

theorem call_isX {a C : Addr} {oe : Obj} (hp : (a, oe) ∈ X.pn) (E : ExcC X.K C) (hz : Zc (.ref C) none oe) (hf : ∃ vs, oe.data = .fields vs) : CallR X (.builtin "isinstance") (fun xs H Q => ∃ (c : V) (cv : Value) (b : Bool), xs = [.ref a, c] ∧ (∀ u, RelV c u → u = cv) ∧ PySem.W.kitOne X.K (.ref C) cv = some b ∧ Q (.bl b) H) := by
  intro pins s σ H xs us Q I r h
  obtain ⟨c, cv, b, rfl, hcv, e, q⟩ := h
  cases r with
  | cons rx rr =>
    cases rr with
    | cons rt rr =>
      cases rr
      obtain rfl : _ = Value.ref a := rx
      obtain rfl := hcv _ rt
      have hget := (I.pin (a, oe) (List.mem_append_left _ hp)).1
      obtain ⟨vs, hv⟩ := hf
      exact PySem.W.kia_one (PySem.W.handS_kitx_exc (ox := oe) E.hg E.hk E.hs E.hd E.ha E.hn E.ht E.hm) I.kIn (by
        obtain ⟨oc, od, oda, osl⟩ := oe
        obtain ⟨h1, h2⟩ := hz
        dsimp only at h1 h2 hv
        subst h1 h2 hv
        exact ⟨hget, rfl, rfl, trivial⟩) e (fun z => nomatch z) fun tk => ⟨.bl b, H, I.kept (t' := tk) fun _ _ z => z, rfl, q⟩
theorem call_isY {a C : Addr} {oe : Obj} (hp : (a, oe) ∈ X.pn) (E : ExcC X.K C) (hz : Zc (.ref C) none oe) (hf : ∃ vs, oe.data = .fields vs) : CallR X (.builtin "isinstance") (fun xs H Q => ∃ (p : Addr) (vs : List V) (cvs : List Value) (b : Bool), xs = [.ref a, .ref p] ∧ H p = some (.tup vs) ∧ (∀ us, Vals vs us → us = cvs) ∧ PySem.W.kitAny X.K (.ref C) cvs = some b ∧ Q (.bl b) H) := by
  intro pins s σ H xs us Q I r h
  obtain ⟨p, ws, cvs, b, rfl, hp2, hcv, e, q⟩ := h
  cases r with
  | cons rx rr =>
    cases rr with
    | cons rt rr =>
      cases rr
      obtain rfl : _ = Value.ref a := rx
      obtain rfl : _ = Value.ref p := rt
      have hget := (I.pin (a, oe) (List.mem_append_left _ hp)).1
      obtain ⟨vs, hv⟩ := hf
      obtain ⟨_, its, rv, ob, eo, ec, n, ed⟩ := I.hok p _ hp2
      obtain rfl := hcv _ rv
      obtain ⟨oc', od', oda', osl'⟩ := ob
      dsimp only at ec ed
      subst ec ed
      exact PySem.W.kia_tup (PySem.W.handS_kitx_exc (ox := oe) E.hg E.hk E.hs E.hd E.ha E.hn E.ht E.hm) I.kIn (by
        obtain ⟨oc, od, oda, osl⟩ := oe
        obtain ⟨h1, h2⟩ := hz
        dsimp only at h1 h2 hv
        subst h1 h2 hv
        exact ⟨hget, rfl, rfl, trivial⟩) eo e (fun z => nomatch z) fun tk => ⟨.bl b, H, I.kept (t' := tk) fun _ _ z => z, rfl, q⟩
theorem pe_isC {y : Str} {v : V} {cv : Value} {p : Pos} (hy : glB X.env.scope y = true) (hm : X.mg y = some cv ∨ (X.mg y = none ∧ bootBuiltins y = some cv)) (r : RelV v cv) : PE X (.Name y p) (tC v) := by
  obtain ⟨gy, dy, ny⟩ := gl_of hy
  rcases hm with hm | ⟨hm, hb⟩
  · exact pe_glob gy hm r dy
  · exact pe_bltn gy hm hb r ny dy
theorem er_var {P : Par} {F H : Hp} {σ : L2.St} {env : Env} (st : Sta P F H σ env) {i k : Nat} (e : erR env i = .ok k) : ∃ a, σ[i]? = some (some (.ref a)) ∧ P.ER a k := by
  unfold erR at e
  split at e
  · rename_i k' e1
    cases e
    exact st.sl i _ e1
  · cases e
theorem cl_er (env : Env) (i : Nat) : Cl (erR env i) := by
  unfold erR
  split <;> first | exact cl_ok | exact cl_bad
theorem s_isE (c : Ct P g X W Φ) {i : Nat} {tb : List (Nat × Bool)} {x y z : Str} {p p2 p3 : Pos} (hh : g.hot = true) (hx : glB X.env.scope x = true) (ex : x = "isinstance") (hz : chkV g X.env.scope i z = true) (hy : glB X.env.scope y = true) (ht : g.ist.lookup y = some tb) :
    PE X (.Call (.Name x p) [.Name z p3, .Name y p2] [] pos) (rd P W fun env => (erR env i).bind fun k => isK k tb) := by
  obtain ⟨gx, dx, nx⟩ := gl_of hx
  unfold chkV at hz
  rw [Bool.and_eq_true, Bool.and_eq_true, decide_eq_true_eq] at hz
  obtain ⟨za, zb, _⟩ := okN_of hz.2
  obtain ⟨v, cv, hm, hr, hu, hk⟩ := c.is y tb ht
  refine ⟨fun pins s σ H Q I ⟨F, env, st, q⟩ => ?_⟩
  cases e : erR env i with
  | exc k => exact absurd e (cl_er env i k)
  | bad => simp only [e] at q; exact q.elim
  | ok k =>
    simp only [e, Rs.bind] at q
    obtain ⟨a, ea, hE⟩ := er_var st e
    obtain ⟨oe, C, hp, ec, eC, hzc, hf⟩ := c.er hh a k hE
    unfold isK at q
    cases et : tb.lookup k with
    | none => rw [et] at q; exact q.elim
    | some b =>
      rw [et] at q
      refine (pe_callB (call_isX hp eC hzc hf) gx (c.bl x (by subst ex; decide)) (by subst ex; exact boot_isinstance) (pa_cons (pe_var (i := i) (by rw [c.n]; exact hz.1.1) (vis_of hz.1.2) za zb) (pa_cons (pe_isC hy hm hr) pa_nil)) nx dx).run pins s σ H Q I ?_
      exact ⟨_, ea, _, cv, b, rfl, hu, by rw [← ec]; exact hk k b et, q F H _ (Ext.refl st.same) (.bl b)⟩
theorem s_clsE (c : Ct P g X W Φ) {i : Nat} {tb : List (Nat × List Str)} {x z : Str} {p p3 : Pos} (hh : g.hot = true) (hx : glB X.env.scope x = true) (ht : g.es.lookup x = some tb) (hz : chkV g X.env.scope i z = true) :
    PE X (.Call (.Name x p) [.Name z p3] [] pos) (rd P W fun env => (erR env i).bind fun k => clsR k tb) := by
  obtain ⟨gx, dx, nx⟩ := gl_of hx
  unfold chkV at hz
  rw [Bool.and_eq_true, Bool.and_eq_true, decide_eq_true_eq] at hz
  obtain ⟨za, zb, _⟩ := okN_of hz.2
  obtain ⟨f, fd, ps, k0, hm, kp, hb, hr, FE⟩ := c.es x tb ht
  refine ⟨fun pins s σ H Q I ⟨F, env, st, q⟩ => ?_⟩
  cases e : erR env i with
  | exc k => exact absurd e (cl_er env i k)
  | bad => simp only [e] at q; exact q.elim
  | ok k =>
    simp only [e, Rs.bind] at q
    obtain ⟨a, ea, hE⟩ := er_var st e
    obtain ⟨oe, C, hp, ec, eC, hzc, hf⟩ := c.er hh a k hE
    unfold clsR at q
    cases et : tb.lookup k with
    | none => rw [et] at q; exact q.elim
    | some ss =>
      rw [et] at q
      have ha : PA X [.Name z p3] (tCons (tVar i) tNil) := pa_cons (pe_var (i := i) (by rw [c.n]; exact hz.1.1) (vis_of hz.1.2) za zb) pa_nil
      refine wpAny_Call_Name_kw (ld_glob I gx hm ?_ dx)
      refine PySem.W.callWith_K (h₀ := X.base) I.ok.mod.kin kp (thn (ha.run pos pins s σ H (fun vs H1 => vs = [.ref a] ∧ H1 = H) I ⟨_, ea, rfl, rfl⟩) fun us s1 ⟨vs, H1, I1, r, e1, e2⟩ => ⟨I1.kIn, ?_⟩) rfl rfl
      subst e1 e2
      cases r with
      | cons r1 r2 =>
        cases r2
        obtain rfl : _ = Value.ref a := r1
        have P1 := I1.pin (a, oe) (List.mem_append_left _ hp)
        have pinOk : L2H.PinOk X.stack H1 s1 (a, oe) := ⟨P1.1, P1.2.1, fun hm => (List.mem_cons.mp (I1.stkSub a hm)).elim P1.2.2.1 P1.2.2.2.1, P1.2.2.2.2⟩
        have b := hb s1 [.ref a] I1.kIn (by rw [List.append_nil]; exact FE.one.symm)
        rw [List.append_nil] at b
        have q' : post (Dp P.K) W σ F H1 (Rs.bind (Rs.ok (Sl.ow (ss.map .str))) Sl.toD) Q := q
        have o := toD_seq q'
        have runs := FE.run X.A X.stack s1 F H1 Q (fun _ _ _ => False) (a, oe) k C ss hr pinOk I1.env0 b ec eC hzc hf et st.same (by rw [c.k]; exact o)
        refine wpAny_call (codeAny_mono runs fun res s' hq => ?_)
        cases res with
        | error e' =>
          obtain ⟨_, _, _, _, _, _, _, _, _, _, _, _, _, _, _, _, z⟩ := hq
        | ok fl =>
          cases fl with
          | ret u => exact I1.after hq
          | next => exact hq.elim
          | brk => exact hq.elim
          | cont => exact hq.elim
theorem s_gI (c : Ct P g X W Φ) {i : Int} {x : Str} {p : Pos} (hx : glB X.env.scope x = true) (hi : g.gi.lookup x = some i) : PE X (.Name x p) (rd P W fun _ => .ok (.int i)) := by
  obtain ⟨gx, dx, nx⟩ := gl_of hx
  obtain ⟨t, ht⟩ := c.gi x i hi
  exact s_const (pe_glob (v := .int i) gx ht ⟨t, rfl⟩ dx) fun F => .int i
theorem s_ixO (c : Ct P g X W Φ) {i : Nat} {x : Str} {p : Pos} (hs : nsl r = true) (hz : chkV g X.env.scope i x = true) (hb : PE X r (rd P W f2)) : PE X (.Subscript (.Name x p) r pos) (rd P W fun env => (match env[i]? with
      | some (some (.ow ds)) => (f2 env).bind fun y => ixR (.list ds) y
      | _ => .bad)) := by
  unfold chkV at hz
  rw [Bool.and_eq_true, Bool.and_eq_true, decide_eq_true_eq] at hz
  obtain ⟨za, zb, _⟩ := okN_of hz.2
  refine (pe_ix ix_list (pe_var (i := i) (by rw [c.n]; exact hz.1.1) (vis_of hz.1.2) za zb) hb (plain_of hs)).imp fun σ H Q ⟨F, env, st, q⟩ => ?_
  dsimp only at q
  split at q
  case h_2 => exact q.elim
  rename_i ds e1
  obtain ⟨p, vs, e2, h0, h1, h2, h3⟩ := st.sl i _ e1
  refine ⟨_, e2, F, env, st, post_seq q fun d F1 H1 w ed x1 rd1 q1 => ?_⟩
  cases d with
  | int k =>
    rw [dp_int rd1]
    have h4 : H1 p = some (.lst vs) := x1.hh.lst h2
    have da := dps_mono x1.ff h3
    have q1 : post (Dp P.K) W σ F1 H1 (ixD k ds) Q := q1
    have hl := dps_len da
    have key : ∀ j y, ixN vs.length k = some j → ds[j]? = some y → ixD k ds = .ok y → rIxL X.K (.ref p) (.int k) H1 Q := fun j y hj hy he => by
      rw [he] at q1
      obtain ⟨w, hw, rw1⟩ := dps_get da hy
      refine ⟨p, vs, k, w, rfl, rfl, .inl (.inl h4), ?_, q1 F1 H1 w (Ext.refl x1.fh) rw1⟩
      unfold atI
      rw [hj]
      exact hw
    unfold ixD at q1
    split at q1
    · rename_i h0
      split at q1
      · rename_i y hy
        have hlt : k.toNat < ds.length := (List.getElem?_eq_some_iff.mp hy).1
        refine key k.toNat y (by unfold ixN; rw [if_pos h0, if_pos (by omega)]) hy (by unfold ixD; rw [if_pos h0, hy])
      · exact q1.elim
    · rename_i h0
      split at q1
      · rename_i hlo
        split at q1
        · rename_i y hy
          refine key (k + ds.length).toNat y (by unfold ixN; rw [if_neg h0, if_pos (by omega), hl]) hy (by unfold ixD; rw [if_neg h0, if_pos hlo, hy])
        · exact q1.elim
      · exact q1.elim
  | _ => exact q1.elim
theorem chkT_pa (c : Ct P g X W Φ) : ∀ {tbs : List (List (Nat × Bool))} {ls : List Expr}, chkT g tbs X.env.scope ls = true → ∃ (vs : List V) (cvs : List Value), PA X ls (fun σ H Q => Q vs H) ∧ vs.length = tbs.length ∧ (∀ us, Vals vs us → us = cvs) ∧ ∀ k b, isA k tbs = .ok (.bool b) → PySem.W.kitAny X.K (P.cls k) cvs = some b
  | [], [], _ => ⟨[], [], pa_nil.imp fun _ _ _ h => h, rfl, fun us r => by cases r; rfl, fun k b e => by cases e; rfl⟩
  | [], _ :: _, h => absurd (show false = true from h) Bool.false_ne_true
  | tb :: tbs, [], h => absurd (show false = true from h) Bool.false_ne_true
  | tb :: tbs, e :: r, h => by
    cases e with
    | Name y p =>
      have h : (glB X.env.scope y && decide (g.ist.lookup y = some tb) && chkT g tbs X.env.scope r) = true := h
      rw [Bool.and_eq_true, Bool.and_eq_true, decide_eq_true_eq] at h
      obtain ⟨v, cv, hm, hr, hu, hk⟩ := c.is y tb h.1.2
      obtain ⟨vs, cvs, h1, h2, h3, h4⟩ := chkT_pa c (tbs := tbs) (ls := r) h.2
      refine ⟨v :: vs, cv :: cvs, (pa_cons (pe_isC h.1.1 hm hr) h1).imp fun σ H Q q => q, by simp [h2], fun us r => ?_, fun k b eb => ?_⟩
      · cases r with
        | cons r1 r2 => rw [hu _ r1, h3 _ r2]
      · unfold isA at eb
        unfold PySem.W.kitAny
        cases et : tb.lookup k with
        | none => rw [et] at eb; cases eb
        | some d =>
          rw [et] at eb
          rw [hk k d et]
          cases d with
          | true => cases eb; rfl
          | false => exact h4 k b eb
    | _ => exact absurd (show false = true from h) Bool.false_ne_true
theorem isA_bl (k : Nat) : ∀ (tbs : List (List (Nat × Bool))), (∃ b, isA k tbs = .ok (.bool b)) ∨ isA k tbs = .bad
  | [] => .inl ⟨false, rfl⟩
  | tb :: r => by
    unfold isA
    cases tb.lookup k with
    | none => exact .inr rfl
    | some b => cases b <;> first | exact .inl ⟨true, rfl⟩ | exact isA_bl k r
theorem s_isT (c : Ct P g X W Φ) {i kk : Nat} {tbs : List (List (Nat × Bool))} {ls : List Expr} {x z : Str} {p p2 p3 : Pos} (hh : g.hot = true) (hx : glB X.env.scope x = true) (ex : x = "isinstance") (hz : chkV g X.env.scope i z = true) (ht : chkT g tbs X.env.scope ls = true) (hl : tbs.length ≤ szl) :
    PE X (.Call (.Name x p) [.Name z p3, .Tuple ls kk p2] [] pos) (rd P W fun env => (erR env i).bind fun k => isA k tbs) := by
  obtain ⟨gx, dx, nx⟩ := gl_of hx
  unfold chkV at hz
  rw [Bool.and_eq_true, Bool.and_eq_true, decide_eq_true_eq] at hz
  obtain ⟨za, zb, _⟩ := okN_of hz.2
  obtain ⟨vs, cvs, h1, h2, h3, h4⟩ := chkT_pa c ht
  refine ⟨fun pins s σ H Q I ⟨F, env, st, q⟩ => ?_⟩
  cases e : erR env i with
  | exc k => exact absurd e (cl_er env i k)
  | bad => simp only [e] at q; exact q.elim
  | ok k =>
    simp only [e, Rs.bind] at q
    obtain ⟨a, ea, hE⟩ := er_var st e
    obtain ⟨oe, C, hp, ec, eC, hzc, hf⟩ := c.er hh a k hE
    rcases isA_bl k tbs with ⟨b, eb⟩ | eb
    · rw [eb] at q
      refine (pe_callB (call_isY hp eC hzc hf) gx (c.bl x (by subst ex; decide)) (by subst ex; exact boot_isinstance) (pa_cons (pe_var (i := i) (by rw [c.n]; exact hz.1.1) (vis_of hz.1.2) za zb) (pa_cons (pe_tup h1) pa_nil)) nx dx).run pins s σ H Q I ?_
      refine ⟨_, ea, by rw [h2]; exact hl, fun q1 hq1 => ⟨q1, vs, cvs, b, rfl, upd_same, h3, by rw [← ec]; exact h4 k b eb, ?_⟩⟩
      exact q _ _ _ (Ext.newO st.same hq1) (.bl b)
    · rw [eb] at q
      exact q.elim
theorem evs_len (shp : D → Bool) (Φ : Fns) (g : Cfg) (sc : Scope) : ∀ (ts : Exs) (es : List Expr), chks g ts sc es = true → ∀ env ds, evs shp Φ ts env = .ok ds → ds.length = es.length
  | .nil, [], _, env, ds, h => by
    cases h
    rfl
  | .nil, _ :: _, h, _, _, _ => absurd (show false = true from h) Bool.false_ne_true
  | .cons _ _, [], h, _, _, _ => absurd (show false = true from h) Bool.false_ne_true
  | .cons t ts, e :: es, h, env, ds, he => by
    have h : (nst e && chk g t sc e && chks g ts sc es) = true := h
    rw [Bool.and_eq_true] at h
    have he : ((ev shp Φ t env).bind fun x => (evs shp Φ ts env).bind fun xs => .ok (x :: xs)) = .ok ds := he
    cases e1 : ev shp Φ t env with
    | ok a =>
      rw [e1] at he
      cases e2 : evs shp Φ ts env with
      | ok b =>
        have he : ((evs shp Φ ts env).bind fun xs => Rs.ok (a :: xs)) = .ok ds := he
        rw [e2] at he
        cases he
        rw [List.length_cons, List.length_cons, evs_len shp Φ g sc ts es h.2 env b e2]
      | exc k =>
        have he : ((evs shp Φ ts env).bind fun xs => Rs.ok (a :: xs)) = .ok ds := he
        rw [e2] at he
        cases he
      | bad =>
        have he : ((evs shp Φ ts env).bind fun xs => Rs.ok (a :: xs)) = .ok ds := he
        rw [e2] at he
        cases he
    | exc k => rw [e1] at he; cases he
    | bad => rw [e1] at he; cases he
theorem set_of {e : Expr} {env : PySem.Env} (h : nset e = true) : ∀ y, foldedSetIterable e env y = pure y := by
  cases e <;> first | exact fun _ => rfl | exact absurd h Bool.false_ne_true
theorem no_of {p : Prop} (h : false = true) : p := absurd h Bool.false_ne_true

end
section
variable {P : Par} {g : Cfg} {Φ : Fns}
structure Snd (P : Par) (g : Cfg) (Φ : Fns) (t : Ex) : Prop where
  v : ∀ {X : Cx} {W : Wsh} (c : Ct P g X W Φ) (e : Expr), chk g t X.env.scope e = true → PE X e (rd P W (ev SS Φ t))
  b : tst t = true → ∀ {X : Cx} {W : Wsh} (c : Ct P g X W Φ) (e : Expr), chk g t X.env.scope e = true → PT X e (rdB P W (ev SS Φ t))
structure Snds (P : Par) (g : Cfg) (Φ : Fns) (ts : Exs) : Prop where
  v : ∀ {X : Cx} {W : Wsh} (c : Ct P g X W Φ) (es : List Expr), chks g ts X.env.scope es = true → PA X es (rds P W (evs SS Φ ts))
  cj : ∀ {X : Cx} {W : Wsh} (c : Ct P g X W Φ) (e : Expr) (es : List Expr) (pos : Pos), chks g ts X.env.scope (e :: es) = true → PE X (.BoolOp .And (e :: es) pos) (rd P W (evC SS Φ ts))
  dj : ∀ {X : Cx} {W : Wsh} (c : Ct P g X W Φ) (e : Expr) (es : List Expr) (pos : Pos), chks g ts X.env.scope (e :: es) = true → PE X (.BoolOp .Or (e :: es) pos) (rd P W (evJ SS Φ ts))
  cb : tsts ts = true → ∀ {X : Cx} {W : Wsh} (c : Ct P g X W Φ) (e : Expr) (es : List Expr) (pos : Pos), chks g ts X.env.scope (e :: es) = true → PW X (.BoolOp .And (e :: es) pos) (rdB P W (evC SS Φ ts))
  db : tsts ts = true → ∀ {X : Cx} {W : Wsh} (c : Ct P g X W Φ) (e : Expr) (es : List Expr) (pos : Pos), chks g ts X.env.scope (e :: es) = true → PW X (.BoolOp .Or (e :: es) pos) (rdB P W (evJ SS Φ ts))
  fs : ∀ {X : Cx} {W : Wsh} (c : Ct P g X W Φ) (es : List Expr), chks g ts X.env.scope es = true → ∃ tl, PJ X es tl ∧ ∀ acc σ H Q, (∃ F env, Sta P F H σ env ∧ post (fun _ (v : Str) x => v = x) W σ F H (evF SS Φ ts acc env) Q) → tJs tl acc σ H Q
structure SndI (P : Par) (g : Cfg) (Φ : Fns) (t : Itr) : Prop where
  v : ∀ {X : Cx} {W : Wsh} (c : Ct P g X W Φ) (tg e : Expr) (pr : Bool), (pr = true → ∃ es k p, tg = .Tuple es k p) → chkI g t pr X.env.scope e = true → PI X tg e (rdI P W (evI SS Φ t)) ∧ ∀ y, foldedSetIterable e X.env y = pure y
theorem Snd.val {t : Ex} (h : ∀ {X : Cx} {W : Wsh} (c : Ct P g X W Φ) (e : Expr), chk g t X.env.scope e = true → PE X e (rd P W (ev SS Φ t)) ∧ ∀ whole, isTrue e X.env whole = (do let v ← whole; standAt e.pos; holding [v] (truthy v))) : Snd P g Φ t :=
  ⟨fun c e q => (h c e q).1, fun _ {X W} c e q => T_val (h c e q).1 (h c e q).2⟩
end
end Q

set_option Elab.async false
set_option linter.all false
set_option maxRecDepth 100000
set_option autoImplicit false
set_option maxHeartbeats 8000000
namespace Q
open PySem PySem.Spec PyProof.Rows L2
/-! ### max, min of a list with a default -/
section
variable {prog : Program} {w : World} {A : Around} {R : Result → Shared → Prop} {I : Addr} {fp wr : List Addr} {n : Nat} {P : Nat → Value → Prop} {St : Nat → Heap → Prop}
theorem fn_treeK {s : Shared} {E : Value → Shared → Prop} {id : String} {b : Builtin} {args : List Value} {kw : List (Str × Value)} {Q : Value → Shared → Prop} (hk : builtinKind id = none) (hp : plainId id = true) (hb : entryFor table id = some b) (ha : argsOk id ⟨args, kw⟩)
    (hc : wpAny (model prog w) A.in1 (b ⟨args, kw⟩) (fun fin s2 => match fin with
      | .done f => (match (Except.ok f : Result) with | .ok (.ret v) => Q v s2 | .ok _ => False | .error e => E e s2)
      | .again c => c.quiet = true ∧ codeAny (model prog w) A c (fun r s2 => match r with | .ok (.ret v) => Q v s2 | .ok _ => False | .error e => E e s2) s2) E s) : wpAny (model prog w) A (call (.builtin id) args kw) Q E s := by
  refine wpAny_call (codeAny_call_builtin hp hb ?_)
  simp only [checkBuiltinCall, hk]
  cases hsig : Manifest.signature? id with
  | none => exact wpAny_pure hc
  | some sig =>
    simp only [argsOk, hsig] at ha
    have h2 : Bind.checkArgs id sig ⟨args, kw⟩ = pure () := ha
    show wpAny _ A.in1 (Bind.checkArgs id sig ⟨args, kw⟩) _ _ s
    rw [h2]
    exact wpAny_pure hc
theorem max_bind (d : Value) : Builtin.Builtins.bindParams "max" ["key", "default"] 0 ⟨[], [(Str.ofString "default", d)]⟩ = pure [none, some d] := by kernel_rfl
theorem min_bind (d : Value) : Builtin.Builtins.bindParams "min" ["key", "default"] 0 ⟨[], [(Str.ofString "default", d)]⟩ = pure [none, some d] := by kernel_rfl

theorem max_lp (W : Walks prog w A.in1 I fp wr n P St) (bt : Nat → Nat → Bool) (hcmp : CmpOf prog w A.in1 .Gt P bt) (S : Addr) (kw : List (Str × Value)) (nS : S ∉ fp) :
    ∀ (k j : Nat) (s : Shared) (vb : Value) (c : Nat), n - (j + 1) = k → j + 1 ≤ n → St (j + 1) s.heap → P (argBest bt j) vb → s.heap.get? S = some { cls := .type "list", dict := none, data := .seq #[vb, vb] c, slots := #[] } →
    (∀ v h2 tk, P (argBest bt (n - 1)) v → (∀ b o, b ∉ wr → b ≠ S → s.heap.get? b = some o → h2.get? b = some o) → R (.ok (.ret v)) { s with heap := h2, toks := tk }) → codeAny (model prog w) A (.builtin "max.loop" ⟨[.ref I, .none, .ref S], kw⟩) R s := by
  have nW : S ∉ wr := fun z => nS (W.sub _ z)
  have nm : (toString "max" ++ toString ".loop" : String) = "max.loop" := by decide
  intro k
  induction k with
  | zero =>
    intro j s vb c hk hj st hb eS kR
    have hin : j + 1 = n := by omega
    refine codeAny_builtin F.entry_max_loop ?_
    rw [Around.under_plainId F.plain_max_loop _]
    show wpAny _ A.in1 (seqItems? (.ref S) >>= _) _ _ s
    refine wpAny_bind (wpAny_seqItems eS rfl ?_)
    show wpAny _ A.in1 (tryCatch (pyNext (.ref I)) _ >>= _) _ _ s
    refine wpAny_bind (wpAny_tryCatch (W.done s _ _ (hin ▸ st) fun h2 tk kp => ?_))
    have eS2 := kp S _ nW eS
    show wpAny _ A.in1 (updateSeq S (fun _ => #[]) >>= _) _ _ _
    refine wpAny_bind (wpAny_updateSeq eS2 rfl (wpAny_bind (wpAny_letGo (wpAny_pure ?_))))
    exact kR vb _ tk (by rw [← hin]; exact hb) fun b o b1 b2 eo => (Heap.get?_update_other _ _ (Ne.symm b2)).trans (kp b o b1 eo)
  | succ k ih =>
    intro j s vb c hk hj st hb eS kR
    have lt : j + 1 < n := by omega
    refine codeAny_builtin F.entry_max_loop ?_
    rw [Around.under_plainId F.plain_max_loop _]
    show wpAny _ A.in1 (seqItems? (.ref S) >>= _) _ _ s
    refine wpAny_bind (wpAny_seqItems eS rfl ?_)
    show wpAny _ A.in1 (tryCatch (pyNext (.ref I)) _ >>= _) _ _ s
    refine wpAny_bind (wpAny_tryCatch (W.item (j + 1) s _ _ lt st fun v h2 tk hv st2 kp => ?_))
    have eS2 := kp S _ nW eS
    show wpAny _ A.in1 (tryCatch (holding [v, v] (richCompare .Gt v vb >>= _)) _ >>= _) _ _ _
    refine wpAny_bind (wpAny_tryCatch (wpAny_holding (wpAny_bind (hcmp (j + 1) (argBest bt j) v vb _ _ _ hv hb ?_))))
    refine wpAny_bind (wpAny_holding (wpAny_truthy_bool (wpAny_bind (wpAny_letGo (wpAny_pure ?_)))))
    cases hw : bt (j + 1) (argBest bt j) with
    | true =>
      simp only [if_true]
      refine wpAny_bind (wpAny_updateSeq eS2 rfl (wpAny_bind (wpAny_letGo ?_)))
      rw [nm]
      refine wpAny_pure ⟨plainId_quiet F.plain_max_loop _, ih (j + 1) _ v _ (by omega) lt (W.frame _ _ _ st2 fun b hbf o eo => ?_) (by simp only [argBest, hw, if_true]; exact hv) (Heap.get?_update_self _ eS2 rfl) fun v2 h3 tk3 hv3 kp3 => ?_⟩
      · exact (Heap.get?_update_other _ _ (fun z : S = b => nS (by rw [z]; exact hbf))).trans eo
      · exact kR v2 h3 tk3 hv3 fun b o b1 b2 eo => kp3 b o b1 b2 ((Heap.get?_update_other _ _ (Ne.symm b2)).trans (kp b o b1 eo))
    | false =>
      simp only [Bool.false_eq_true, if_false]
      refine wpAny_bind (wpAny_letGo ?_)
      rw [nm]
      exact wpAny_pure ⟨plainId_quiet F.plain_max_loop _, ih (j + 1) _ vb c (by omega) lt st2 (by simp only [argBest, hw, Bool.false_eq_true, if_false]; exact hb) eS2 fun v2 h3 tk3 hv3 kp3 => kR v2 h3 tk3 hv3 fun b o b1 b2 eo => kp3 b o b1 b2 (kp b o b1 eo)⟩
theorem max_fst (W : Walks prog w A.in1 I fp wr n P St) (bt : Nat → Nat → Bool) (hcmp : CmpOf prog w A.in1 .Gt P bt) (S : Addr) (nm1 : Str) (d : Value) (nS : S ∉ fp) {s : Shared} {c : Nat} (st : St 0 s.heap)
    (eS : s.heap.get? S = some { cls := .type "list", dict := none, data := .seq #[] c, slots := #[] })
    (kR : ∀ v h2 tk, (0 < n → P (argBest bt (n - 1)) v) → (n = 0 → v = d) → (∀ b o, b ∉ wr → b ≠ S → s.heap.get? b = some o → h2.get? b = some o) → R (.ok (.ret v)) { s with heap := h2, toks := tk }) :
    codeAny (model prog w) A (.builtin "max.loop" ⟨[.ref I, .none, .ref S], [(nm1, d)]⟩) R s := by
  have nW : S ∉ wr := fun z => nS (W.sub _ z)
  have nm : (toString "max" ++ toString ".loop" : String) = "max.loop" := by decide
  refine codeAny_builtin F.entry_max_loop ?_
  rw [Around.under_plainId F.plain_max_loop _]
  show wpAny _ A.in1 (seqItems? (.ref S) >>= _) _ _ s
  refine wpAny_bind (wpAny_seqItems eS rfl ?_)
  show wpAny _ A.in1 (tryCatch (pyNext (.ref I)) _ >>= _) _ _ s
  by_cases hn : 0 < n
  · refine wpAny_bind (wpAny_tryCatch (W.item 0 s _ _ hn st fun v h2 tk hv st2 kp => ?_))
    have eS2 := kp S _ nW eS
    show wpAny _ A.in1 (updateSeq S (fun _ => #[v, v]) >>= _) _ _ _
    refine wpAny_bind (wpAny_updateSeq eS2 rfl ?_)
    rw [nm]
    refine wpAny_pure ⟨plainId_quiet F.plain_max_loop _, max_lp W bt hcmp S _ nS _ 0 _ v _ rfl hn (W.frame _ _ _ st2 fun b hbf o eo => ?_) hv (Heap.get?_update_self _ eS2 rfl) fun v2 h3 tk3 hv3 kp3 => ?_⟩
    · exact (Heap.get?_update_other _ _ (fun z : S = b => nS (by rw [z]; exact hbf))).trans eo
    · exact kR v2 h3 tk3 (fun _ => hv3) (fun z => absurd hn (by omega)) fun b o b1 b2 eo => kp3 b o b1 b2 ((Heap.get?_update_other _ _ (Ne.symm b2)).trans (kp b o b1 eo))
  · have h0 : n = 0 := by omega
    refine wpAny_bind (wpAny_tryCatch (W.done s _ _ (h0 ▸ st) fun h2 tk kp => ?_))
    refine wpAny_bind (wpAny_rule ?_)
    exact wpAny_pure (kR d h2 tk (fun z => absurd z hn) (fun _ => rfl) fun b o b1 _ eo => kp b o b1 eo)
theorem max_args (a d : Value) : argsOk "max" ⟨[a], [(Str.ofString "default", d)]⟩ := by unfold argsOk; kernel_rfl
theorem max_call {s : Shared} {E : Value → Shared → Prop} {x d : Value} {Q : Value → Shared → Prop}
    (h : wpAny (model prog w) A.in1 (pyIter x) (fun it s2 => ∃ I fp wr n P St bt, it = .ref I ∧ Walks prog w A.in1 I fp wr n P St ∧ St 0 s2.heap ∧ (∀ b ∈ fp, b < s2.heap.objs.size) ∧ CmpOf prog w A.in1 .Gt P bt ∧
      ∀ v h2 tk, (0 < n → P (argBest bt (n - 1)) v) → (n = 0 → v = d) → (∀ b o, b ∉ wr → s2.heap.get? b = some o → h2.get? b = some o) → Q v { s2 with heap := h2, toks := tk }) E s) :
    wpAny (model prog w) A (call (.builtin "max") [x] [(Str.ofString "default", d)]) Q E s := by
  have nm : (toString "max" ++ toString ".loop" : String) = "max.loop" := by decide
  refine fn_treeK F.kind_max F.plain_max F.entry_max (max_args x d) ?_
  show wpAny _ A.in1 (Builtin.Builtins.bindParams "max" ["key", "default"] 0 ⟨[], [(Str.ofString "default", d)]⟩ >>= _) _ _ s
  refine wpAny_bind (wpAny_of_eq (max_bind d) ?_)
  refine wpAny_bind (wpAny_pure ?_)
  refine wpAny_bind (wpAny_mono h (fun it s2 h2 => ?_) fun _ _ e => e)
  obtain ⟨I, fp, wr, n, P, St, bt, rfl, W, st, hfp, hcmp, hQ⟩ := h2
  refine wpAny_bind (wpAny_newObj_type ?_)
  have nS : s2.heap.objs.size ∉ fp := fun hm => Nat.lt_irrefl _ (hfp _ hm)
  rw [nm]
  refine wpAny_pure ⟨plainId_quiet F.plain_max_loop _, max_fst W bt hcmp s2.heap.objs.size _ d nS (W.frame _ _ _ st fun b _ o e => Heap.get?_push_of_some _ e) (Heap.get?_push_size _ rfl) fun v h3 tk hv h0 hk => ?_⟩
  exact hQ v h3 tk hv h0 fun b o b1 e => hk b o b1 (Nat.ne_of_lt (Heap.lt_size e)) (Heap.get?_push_of_some _ e)

theorem min_lp (W : Walks prog w A.in1 I fp wr n P St) (bt : Nat → Nat → Bool) (hcmp : CmpOf prog w A.in1 .Lt P bt) (S : Addr) (kw : List (Str × Value)) (nS : S ∉ fp) :
    ∀ (k j : Nat) (s : Shared) (vb : Value) (c : Nat), n - (j + 1) = k → j + 1 ≤ n → St (j + 1) s.heap → P (argBest bt j) vb → s.heap.get? S = some { cls := .type "list", dict := none, data := .seq #[vb, vb] c, slots := #[] } →
    (∀ v h2 tk, P (argBest bt (n - 1)) v → (∀ b o, b ∉ wr → b ≠ S → s.heap.get? b = some o → h2.get? b = some o) → R (.ok (.ret v)) { s with heap := h2, toks := tk }) → codeAny (model prog w) A (.builtin "min.loop" ⟨[.ref I, .none, .ref S], kw⟩) R s := by
  have nW : S ∉ wr := fun z => nS (W.sub _ z)
  have nm : (toString "min" ++ toString ".loop" : String) = "min.loop" := by decide
  intro k
  induction k with
  | zero =>
    intro j s vb c hk hj st hb eS kR
    have hin : j + 1 = n := by omega
    refine codeAny_builtin F.entry_min_loop ?_
    rw [Around.under_plainId F.plain_min_loop _]
    show wpAny _ A.in1 (seqItems? (.ref S) >>= _) _ _ s
    refine wpAny_bind (wpAny_seqItems eS rfl ?_)
    show wpAny _ A.in1 (tryCatch (pyNext (.ref I)) _ >>= _) _ _ s
    refine wpAny_bind (wpAny_tryCatch (W.done s _ _ (hin ▸ st) fun h2 tk kp => ?_))
    have eS2 := kp S _ nW eS
    show wpAny _ A.in1 (updateSeq S (fun _ => #[]) >>= _) _ _ _
    refine wpAny_bind (wpAny_updateSeq eS2 rfl (wpAny_bind (wpAny_letGo (wpAny_pure ?_))))
    exact kR vb _ tk (by rw [← hin]; exact hb) fun b o b1 b2 eo => (Heap.get?_update_other _ _ (Ne.symm b2)).trans (kp b o b1 eo)
  | succ k ih =>
    intro j s vb c hk hj st hb eS kR
    have lt : j + 1 < n := by omega
    refine codeAny_builtin F.entry_min_loop ?_
    rw [Around.under_plainId F.plain_min_loop _]
    show wpAny _ A.in1 (seqItems? (.ref S) >>= _) _ _ s
    refine wpAny_bind (wpAny_seqItems eS rfl ?_)
    show wpAny _ A.in1 (tryCatch (pyNext (.ref I)) _ >>= _) _ _ s
    refine wpAny_bind (wpAny_tryCatch (W.item (j + 1) s _ _ lt st fun v h2 tk hv st2 kp => ?_))
    have eS2 := kp S _ nW eS
    show wpAny _ A.in1 (tryCatch (holding [v, v] (richCompare .Lt v vb >>= _)) _ >>= _) _ _ _
    refine wpAny_bind (wpAny_tryCatch (wpAny_holding (wpAny_bind (hcmp (j + 1) (argBest bt j) v vb _ _ _ hv hb ?_))))
    refine wpAny_bind (wpAny_holding (wpAny_truthy_bool (wpAny_bind (wpAny_letGo (wpAny_pure ?_)))))
    cases hw : bt (j + 1) (argBest bt j) with
    | true =>
      simp only [if_true]
      refine wpAny_bind (wpAny_updateSeq eS2 rfl (wpAny_bind (wpAny_letGo ?_)))
      rw [nm]
      refine wpAny_pure ⟨plainId_quiet F.plain_min_loop _, ih (j + 1) _ v _ (by omega) lt (W.frame _ _ _ st2 fun b hbf o eo => ?_) (by simp only [argBest, hw, if_true]; exact hv) (Heap.get?_update_self _ eS2 rfl) fun v2 h3 tk3 hv3 kp3 => ?_⟩
      · exact (Heap.get?_update_other _ _ (fun z : S = b => nS (by rw [z]; exact hbf))).trans eo
      · exact kR v2 h3 tk3 hv3 fun b o b1 b2 eo => kp3 b o b1 b2 ((Heap.get?_update_other _ _ (Ne.symm b2)).trans (kp b o b1 eo))
    | false =>
      simp only [Bool.false_eq_true, if_false]
      refine wpAny_bind (wpAny_letGo ?_)
      rw [nm]
      exact wpAny_pure ⟨plainId_quiet F.plain_min_loop _, ih (j + 1) _ vb c (by omega) lt st2 (by simp only [argBest, hw, Bool.false_eq_true, if_false]; exact hb) eS2 fun v2 h3 tk3 hv3 kp3 => kR v2 h3 tk3 hv3 fun b o b1 b2 eo => kp3 b o b1 b2 (kp b o b1 eo)⟩
theorem min_fst (W : Walks prog w A.in1 I fp wr n P St) (bt : Nat → Nat → Bool) (hcmp : CmpOf prog w A.in1 .Lt P bt) (S : Addr) (nm1 : Str) (d : Value) (nS : S ∉ fp) {s : Shared} {c : Nat} (st : St 0 s.heap)
    (eS : s.heap.get? S = some { cls := .type "list", dict := none, data := .seq #[] c, slots := #[] })
    (kR : ∀ v h2 tk, (0 < n → P (argBest bt (n - 1)) v) → (n = 0 → v = d) → (∀ b o, b ∉ wr → b ≠ S → s.heap.get? b = some o → h2.get? b = some o) → R (.ok (.ret v)) { s with heap := h2, toks := tk }) :
    codeAny (model prog w) A (.builtin "min.loop" ⟨[.ref I, .none, .ref S], [(nm1, d)]⟩) R s := by
  have nW : S ∉ wr := fun z => nS (W.sub _ z)
  have nm : (toString "min" ++ toString ".loop" : String) = "min.loop" := by decide
  refine codeAny_builtin F.entry_min_loop ?_
  rw [Around.under_plainId F.plain_min_loop _]
  show wpAny _ A.in1 (seqItems? (.ref S) >>= _) _ _ s
  refine wpAny_bind (wpAny_seqItems eS rfl ?_)
  show wpAny _ A.in1 (tryCatch (pyNext (.ref I)) _ >>= _) _ _ s
  by_cases hn : 0 < n
  · refine wpAny_bind (wpAny_tryCatch (W.item 0 s _ _ hn st fun v h2 tk hv st2 kp => ?_))
    have eS2 := kp S _ nW eS
    show wpAny _ A.in1 (updateSeq S (fun _ => #[v, v]) >>= _) _ _ _
    refine wpAny_bind (wpAny_updateSeq eS2 rfl ?_)
    rw [nm]
    refine wpAny_pure ⟨plainId_quiet F.plain_min_loop _, min_lp W bt hcmp S _ nS _ 0 _ v _ rfl hn (W.frame _ _ _ st2 fun b hbf o eo => ?_) hv (Heap.get?_update_self _ eS2 rfl) fun v2 h3 tk3 hv3 kp3 => ?_⟩
    · exact (Heap.get?_update_other _ _ (fun z : S = b => nS (by rw [z]; exact hbf))).trans eo
    · exact kR v2 h3 tk3 (fun _ => hv3) (fun z => absurd hn (by omega)) fun b o b1 b2 eo => kp3 b o b1 b2 ((Heap.get?_update_other _ _ (Ne.symm b2)).trans (kp b o b1 eo))
  · have h0 : n = 0 := by omega
    refine wpAny_bind (wpAny_tryCatch (W.done s _ _ (h0 ▸ st) fun h2 tk kp => ?_))
    refine wpAny_bind (wpAny_rule ?_)
    exact wpAny_pure (kR d h2 tk (fun z => absurd z hn) (fun _ => rfl) fun b o b1 _ eo => kp b o b1 eo)
theorem min_args (a d : Value) : argsOk "min" ⟨[a], [(Str.ofString "default", d)]⟩ := by unfold argsOk; kernel_rfl
theorem min_call {s : Shared} {E : Value → Shared → Prop} {x d : Value} {Q : Value → Shared → Prop}
    (h : wpAny (model prog w) A.in1 (pyIter x) (fun it s2 => ∃ I fp wr n P St bt, it = .ref I ∧ Walks prog w A.in1 I fp wr n P St ∧ St 0 s2.heap ∧ (∀ b ∈ fp, b < s2.heap.objs.size) ∧ CmpOf prog w A.in1 .Lt P bt ∧
      ∀ v h2 tk, (0 < n → P (argBest bt (n - 1)) v) → (n = 0 → v = d) → (∀ b o, b ∉ wr → s2.heap.get? b = some o → h2.get? b = some o) → Q v { s2 with heap := h2, toks := tk }) E s) :
    wpAny (model prog w) A (call (.builtin "min") [x] [(Str.ofString "default", d)]) Q E s := by
  have nm : (toString "min" ++ toString ".loop" : String) = "min.loop" := by decide
  refine fn_treeK F.kind_min F.plain_min F.entry_min (min_args x d) ?_
  show wpAny _ A.in1 (Builtin.Builtins.bindParams "min" ["key", "default"] 0 ⟨[], [(Str.ofString "default", d)]⟩ >>= _) _ _ s
  refine wpAny_bind (wpAny_of_eq (min_bind d) ?_)
  refine wpAny_bind (wpAny_pure ?_)
  refine wpAny_bind (wpAny_mono h (fun it s2 h2 => ?_) fun _ _ e => e)
  obtain ⟨I, fp, wr, n, P, St, bt, rfl, W, st, hfp, hcmp, hQ⟩ := h2
  refine wpAny_bind (wpAny_newObj_type ?_)
  have nS : s2.heap.objs.size ∉ fp := fun hm => Nat.lt_irrefl _ (hfp _ hm)
  rw [nm]
  refine wpAny_pure ⟨plainId_quiet F.plain_min_loop _, min_fst W bt hcmp s2.heap.objs.size _ d nS (W.frame _ _ _ st fun b _ o e => Heap.get?_push_of_some _ e) (Heap.get?_push_size _ rfl) fun v h3 tk hv h0 hk => ?_⟩
  exact hQ v h3 tk hv h0 fun b o b1 e => hk b o b1 (Nat.ne_of_lt (Heap.lt_size e)) (Heap.get?_push_of_some _ e)

theorem max_rawD {s : Shared} {E : Value → Shared → Prop} {l : Addr} {its : List Value} {ns : List Int} {d : Value} {Q : Value → Shared → Prop} (hh : A.handled = none) (hl : s.heap.IsList l its.toArray) (hi : IntsAre its ns)
    (h : ∀ h2 tk v, (∀ b o, s.heap.get? b = some o → h2.get? b = some o) → (ns = [] → v = d) → (ns ≠ [] → ∃ M t, v = .int M t ∧ M ∈ ns ∧ ∀ a, a ∈ ns → a ≤ M) → Q v { s with heap := h2, toks := tk }) : wpAny (model prog w) A (call (.builtin "max") [.ref l] [(Str.ofString "default", d)]) Q E s := by
  obtain ⟨xs, e⟩ := hi.allInts.items
  have hn : numsOf (intItems xs).toList = ns := by rw [← e]; exact hi.numsOf
  rw [nums_intItems] at hn
  subst hn
  rw [e] at hl
  refine max_call (iter_intList hl fun s2 e2 st hfp hlI => ?_)
  subst e2
  refine ⟨_, _, _, _, _, _, _, rfl, Walks.list (A := A.in1) hh _ l hlI (intItems xs), st, hfp, CmpOf.ints_gt (numAt xs) (fun _ _ => intItems_at), fun v h2 tk hv h0 hk => ?_⟩
  have hz : (intItems xs).size = xs.size := by simp [intItems]
  refine h h2 tk v (old_kept hk) (fun z => h0 ?_) fun z => ?_
  · have := congrArg List.length z
    simp at this
    rw [hz]
    simpa using this
  · have hsz : 0 < xs.size := by
      rcases Nat.eq_zero_or_pos xs.size with y | y
      · exact absurd (by simp [Array.size_eq_zero_iff.mp y]) z
      · exact y
    obtain ⟨t, rfl⟩ := intItems_at (by simpa [intItems] using hv (by rw [hz]; exact hsz))
    obtain ⟨h1, h3⟩ := argBest_gt (numAt xs) (xs.size - 1)
    refine ⟨_, t, rfl, ?_, fun a ha => ?_⟩
    · rw [numAt_eq]; exact PySem.getD_mem (by rw [List.length_map, Array.length_toList]; (try simp only [gt_iff_lt] at h1 ⊢); omega)
    · obtain ⟨j, hj, rfl⟩ := mem_getD ha
      rw [List.length_map, Array.length_toList] at hj
      rw [← numAt_eq]; exact h3 j (by omega)

theorem min_rawD {s : Shared} {E : Value → Shared → Prop} {l : Addr} {its : List Value} {ns : List Int} {d : Value} {Q : Value → Shared → Prop} (hh : A.handled = none) (hl : s.heap.IsList l its.toArray) (hi : IntsAre its ns)
    (h : ∀ h2 tk v, (∀ b o, s.heap.get? b = some o → h2.get? b = some o) → (ns = [] → v = d) → (ns ≠ [] → ∃ M t, v = .int M t ∧ M ∈ ns ∧ ∀ a, a ∈ ns → M ≤ a) → Q v { s with heap := h2, toks := tk }) : wpAny (model prog w) A (call (.builtin "min") [.ref l] [(Str.ofString "default", d)]) Q E s := by
  obtain ⟨xs, e⟩ := hi.allInts.items
  have hn : numsOf (intItems xs).toList = ns := by rw [← e]; exact hi.numsOf
  rw [nums_intItems] at hn
  subst hn
  rw [e] at hl
  refine min_call (iter_intList hl fun s2 e2 st hfp hlI => ?_)
  subst e2
  refine ⟨_, _, _, _, _, _, _, rfl, Walks.list (A := A.in1) hh _ l hlI (intItems xs), st, hfp, CmpOf.ints_lt (numAt xs) (fun _ _ => intItems_at), fun v h2 tk hv h0 hk => ?_⟩
  have hz : (intItems xs).size = xs.size := by simp [intItems]
  refine h h2 tk v (old_kept hk) (fun z => h0 ?_) fun z => ?_
  · have := congrArg List.length z
    simp at this
    rw [hz]
    simpa using this
  · have hsz : 0 < xs.size := by
      rcases Nat.eq_zero_or_pos xs.size with y | y
      · exact absurd (by simp [Array.size_eq_zero_iff.mp y]) z
      · exact y
    obtain ⟨t, rfl⟩ := intItems_at (by simpa [intItems] using hv (by rw [hz]; exact hsz))
    obtain ⟨h1, h3⟩ := argBest_lt (numAt xs) (xs.size - 1)
    refine ⟨_, t, rfl, ?_, fun a ha => ?_⟩
    · rw [numAt_eq]; exact PySem.getD_mem (by rw [List.length_map, Array.length_toList]; (try simp only [gt_iff_lt] at h1 ⊢); omega)
    · obtain ⟨j, hj, rfl⟩ := mem_getD ha
      rw [List.length_map, Array.length_toList] at hj
      rw [← numAt_eq]; exact h3 j (by omega)

end
/-- max, min with a default -/
def rMxD (K : Fg) (mn : Bool) : List V → List V → Hp → VK → Prop := fun xs zs H Q => ∃ F x z dx dz, xs = [x] ∧ zs = [z] ∧ Same F H ∧ Dp K F x dx ∧ Dp K F z dz ∧ fin (Dp K) F H (mxR mn dx dz) Q
section
variable {X : Cx}

theorem k_maxD (hc : X.calm = true) : CallRK X (.builtin "max") [Str.ofString "default"] (rMxD X.K false) := by
  intro pins s σ H xs zs us ws Q I r r2 h
  obtain ⟨F, x, z, dx, dz, rfl, rfl, sf, hx, hz, q⟩ := h
  cases r2 with
  | cons rz rr =>
    cases rr
    cases dx with
    | list zs =>
      obtain ⟨a, vs, rfl, qa, da⟩ := dp_lst hx
      cases e : intsOf zs with
      | none => simp only [mxR, e] at q; exact q.elim
      | some ns =>
        rw [ints_v da e] at qa
        obtain ⟨its, rv, hl, _⟩ := I.list (sf.seq qa)
        rw [Vals.ref1 r]
        refine max_rawD (I.ok.hd hc) hl.isList rv.ints fun h2 tk v hk h0 h1 => ?_
        cases ns with
        | nil =>
          simp only [mxR, e] at q
          rw [h0 rfl]
          exact ⟨z, H, I.kept hk, rz, fin_here sf q hz⟩
        | cons n ns =>
          simp only [mxR, e] at q
          obtain ⟨M, t, rfl, hM, hy⟩ := h1 (by simp)
          obtain ⟨g1, g2, g3⟩ := lstMax_spec ns n
          have eM : M = lstMax n ns := by
            have a1 := hy (lstMax n ns) (by rcases g1 with g1 | g1 <;> simp [g1])
            rcases List.mem_cons.mp hM with rfl | hM
            · omega
            · have := g3 M hM
              omega
          subst eM
          exact ⟨.int _, H, I.kept hk, ⟨_, rfl⟩, fin_here sf q (.int _)⟩
    | _ => exact q.elim

theorem k_minD (hc : X.calm = true) : CallRK X (.builtin "min") [Str.ofString "default"] (rMxD X.K true) := by
  intro pins s σ H xs zs us ws Q I r r2 h
  obtain ⟨F, x, z, dx, dz, rfl, rfl, sf, hx, hz, q⟩ := h
  cases r2 with
  | cons rz rr =>
    cases rr
    cases dx with
    | list zs =>
      obtain ⟨a, vs, rfl, qa, da⟩ := dp_lst hx
      cases e : intsOf zs with
      | none => simp only [mxR, e] at q; exact q.elim
      | some ns =>
        rw [ints_v da e] at qa
        obtain ⟨its, rv, hl, _⟩ := I.list (sf.seq qa)
        rw [Vals.ref1 r]
        refine min_rawD (I.ok.hd hc) hl.isList rv.ints fun h2 tk v hk h0 h1 => ?_
        cases ns with
        | nil =>
          simp only [mxR, e] at q
          rw [h0 rfl]
          exact ⟨z, H, I.kept hk, rz, fin_here sf q hz⟩
        | cons n ns =>
          simp only [mxR, e] at q
          obtain ⟨M, t, rfl, hM, hy⟩ := h1 (by simp)
          obtain ⟨g1, g2, g3⟩ := lstMin_spec ns n
          have eM : M = lstMin n ns := by
            have a1 := hy (lstMin n ns) (by rcases g1 with g1 | g1 <;> simp [g1])
            rcases List.mem_cons.mp hM with rfl | hM
            · omega
            · have := g3 M hM
              omega
          subst eM
          exact ⟨.int _, H, I.kept hk, ⟨_, rfl⟩, fin_here sf q (.int _)⟩
    | _ => exact q.elim

end
theorem cl_mxR (mn : Bool) (a b : PyData) : Cl (mxR mn a b) := by
  unfold mxR
  split
  · split <;> first | exact cl_ok | exact cl_bad
  · exact cl_bad
section
variable {P : Par} {g : Cfg} {X : Cx} {W : Wsh} {Φ : Fns} {l r : Expr} {pos : Pos} {f1 f2 : Env → Rs D}
theorem s_mxD (c : Ct P g X W Φ) {mn : Bool} {x : Str} {p kp : Pos} (hh : g.hot = false) (hx : glB X.env.scope x = true) (ex : x = (if mn = true then "min" else "max")) (hs : nst l = true) (h1 : PE X l (rd P W f1)) (h2 : PE X r (rd P W f2)) :
    PE X (.Call (.Name x p) [l] [⟨some "default", r, kp⟩] pos) (rd P W fun env => (f1 env).bind fun x => (f2 env).bind fun y => mxR mn x y) := by
  obtain ⟨gx, dx, nx⟩ := gl_of hx
  have go : ∀ {id : String} (hb : bootBuiltins x = some (.builtin id)) (hm : X.mg x = none) (k : CallRK X (.builtin id) [Str.ofString "default"] (rMxD X.K mn)), PE X (.Call (.Name x p) [l] [⟨some "default", r, kp⟩] pos) (rd P W fun env => (f1 env).bind fun x => (f2 env).bind fun y => mxR mn x y) := fun {id} hb hm k =>
    (pe_callBK k gx hm hb (pa_cons h1 pa_nil (star_of hs)) (pk_cons h2 pk_nil) nx dx (by rw [star_of hs]; rfl) (by rw [star_of hs]; rfl)).imp fun σ H Q ⟨F, env, st, q⟩ => ⟨F, env, st, post_seq q fun d F1 H1 v e1 x1 rx q1 => ⟨F1, env, st.mono x1, post_seq q1 fun d2 F2 H2 v2 e2 x2 ry q2 =>
      ⟨F2, v, v2, d, d2, rfl, rfl, x2.fh, by rw [c.k]; exact dp_mono x2.ff rx, by rw [c.k]; exact ry, by rw [c.k]; exact post_fin (cl_mxR mn d d2) q2⟩⟩⟩
  cases mn with
  | false =>
    subst ex
    exact go boot_max (c.bl _ (by decide)) (k_maxD (c.calm hh))
  | true =>
    subst ex
    exact go boot_min (c.bl _ (by decide)) (k_minD (c.calm hh))
theorem same_b {F : Hp} {x : V} {v : Value} {d : PyData} (b : Bool) (h : Dp P.K F x d) (r : RelV x v) : plainIs v (.bool b) = true ∧ (v == Value.bool b) = isBd b d := by
  cases h with
  | non => obtain rfl : v = Value.none := r; exact ⟨rfl, rfl⟩
  | bl c =>
    obtain rfl : v = Value.bool c := r
    exact ⟨rfl, by cases c <;> cases b <;> decide⟩
  | int i => obtain ⟨t, rfl⟩ := r; exact ⟨rfl, rfl⟩
  | str i => obtain ⟨t, rfl⟩ := r; exact ⟨rfl, rfl⟩
  | lst _ _ =>
    obtain rfl : v = Value.ref _ := r
    exact ⟨rfl, rfl⟩
  | tup _ _ =>
    obtain rfl : v = Value.ref _ := r
    exact ⟨rfl, rfl⟩
theorem pc_isB {b : Bool} {j : Nat} {p2 : Pos} (ha : PE X l (rd P W f1)) : PC X .Is l (.Constant (.bool b) j p2) (rd P W fun env => (f1 env).bind fun x => .ok (.bool (isBd b x))) := by
  refine ⟨fun pins s σ H Q I ⟨F, env, st, q⟩ => ?_⟩
  refine thn (ha.run pins s σ H (fun x H1 => ∃ F1 d, Same F1 H1 ∧ Dp P.K F1 x d ∧ Q (.bl (isBd b d)) H1) I ⟨F, env, st, post_seq q fun d F1 H1 x e1 x1 rx q1 => ⟨F1, d, x1.fh, rx, q1 F1 H1 _ (Ext.refl x1.fh) (.bl _)⟩⟩) fun v s1 ⟨x, H1, I1, r1, F1, d, sf, hd, q1⟩ => ?_
  obtain ⟨e1, e2⟩ := same_b b hd r1
  exact Constant_bool (wpAny_is_plain e1 ⟨.bl _, H1, I1, by rw [e2]; rfl, q1⟩)
theorem pc_notB {b : Bool} {j : Nat} {p2 : Pos} (ha : PE X l (rd P W f1)) : PC X .IsNot l (.Constant (.bool b) j p2) (rd P W fun env => (f1 env).bind fun x => .ok (.bool (!isBd b x))) := by
  refine ⟨fun pins s σ H Q I ⟨F, env, st, q⟩ => ?_⟩
  refine thn (ha.run pins s σ H (fun x H1 => ∃ F1 d, Same F1 H1 ∧ Dp P.K F1 x d ∧ Q (.bl (!isBd b d)) H1) I ⟨F, env, st, post_seq q fun d F1 H1 x e1 x1 rx q1 => ⟨F1, d, x1.fh, rx, q1 F1 H1 _ (Ext.refl x1.fh) (.bl _)⟩⟩) fun v s1 ⟨x, H1, I1, r1, F1, d, sf, hd, q1⟩ => ?_
  obtain ⟨e1, e2⟩ := same_b b hd r1
  exact Constant_bool (wpAny_isNot_plain e1 ⟨.bl _, H1, I1, by rw [e2]; rfl, q1⟩)
theorem s_isB {b : Bool} {j : Nat} {p2 : Pos} (ha : PE X l (rd P W f1)) : PE X (.Compare l [.Is] [.Constant (.bool b) j p2] pos) (rd P W fun env => (f1 env).bind fun x => .ok (.bool (false ^^ isBd b x))) ∧
    PT X (.Compare l [.Is] [.Constant (.bool b) j p2] pos) (rdB P W fun env => (f1 env).bind fun x => .ok (.bool (false ^^ isBd b x))) := by
  simp only [Bool.false_xor]
  exact ⟨pe_cmp (pc_isB ha) rfl, T_of (pt_cmp (pc_isB ha) rfl) fun σ H Q h => h⟩
theorem s_notB {b : Bool} {j : Nat} {p2 : Pos} (ha : PE X l (rd P W f1)) : PE X (.Compare l [.IsNot] [.Constant (.bool b) j p2] pos) (rd P W fun env => (f1 env).bind fun x => .ok (.bool (true ^^ isBd b x))) ∧
    PT X (.Compare l [.IsNot] [.Constant (.bool b) j p2] pos) (rdB P W fun env => (f1 env).bind fun x => .ok (.bool (true ^^ isBd b x))) := by
  simp only [Bool.true_xor]
  exact ⟨pe_cmp (pc_notB ha) rfl, T_of (pt_cmp (pc_notB ha) rfl) fun σ H Q h => h⟩
end
end Q

set_option Elab.async false
set_option linter.all false
set_option maxRecDepth 100000
set_option autoImplicit false
set_option maxHeartbeats 8000000
namespace Q
open PySem PySem.Spec PyProof.Rows L2
/-! ### enumerate(xs, start=k) -/
/-- the items in pairs with k, k + 1, .. -/
def ItS (K : Fg) (a : Addr) (k : Int) : L2.It :=
  ⟨fun i H => ∃ (xs : List V) (x : V), SqL K H a xs ∧ xs[i]? = some x, fun i H v H2 => ∃ T x, v = .ref T ∧ H T = none ∧ H2 = upd H T (.tup [.int (k + (i : Int)), x]) ∧ ∀ xs, SqL K H a xs → xs[i]? = some x, fun i H => ∃ xs : List V, SqL K H a xs ∧ xs.length = i⟩
theorem two_mem {b e it : Addr} (hb : b ∈ [e, it]) : b = e ∨ b = it := by simpa using hb
theorem turn_enS {P : Program} {w : World} {K : Fg} {elts : List Expr} {kk : Nat} {tpos : Pos} (k : Int) (a e it : Addr) :
    Turn P w K (.Tuple elts kk tpos) (ItS K a k) [e, it] e (fun i h => (∃ old, IsEnum h e it (k + (i : Int)) old) ∧ h.IsListIter it a i ∧ e ≠ it) where
  mem := List.mem_cons_self
  obj := fun i h ⟨⟨old, hE⟩, ⟨o, h1, h2, h3⟩, _⟩ b hb => by
    rcases two_mem hb with rfl | rfl
    · exact ⟨_, hE, fun v q => nomatch q⟩
    · exact ⟨o, h1, fun v q => by rw [h3] at q; cases q⟩
  keep := fun i h h2 ⟨⟨old, hE⟩, hI, hN⟩ kp => ⟨⟨old, kp e (by simp) _ hE⟩, hI.at fun o q => kp it (by simp) o q, hN⟩
  item := by
    intro X eP ew eK hc i pins s σ H E I hf st hg
    subst eP ew eK
    obtain ⟨⟨old, hE⟩, hI, hN⟩ := st
    obtain ⟨xs, x, qs, hx⟩ := hg
    obtain ⟨its, rv, p, hz⟩ := I.list qs
    obtain ⟨u, hu, ru⟩ := rv.get hx
    have lE : e < s.heap.objs.size := Heap.lt_size hE
    have lI : it < s.heap.objs.size := by obtain ⟨_, q, _⟩ := hI; exact Heap.lt_size q
    have hL := p.isList
    have nL : e ≠ a := fun z => by
      subst z
      obtain ⟨ol, q1, q2, _⟩ := id hL
      rw [hE] at q1
      cases q1
      exact absurd (Value.type.inj q2) (by decide)
    have nI : a ≠ it := fun z => by
      subst z
      obtain ⟨ol, q1, q2, _⟩ := id hL
      obtain ⟨oi, r1, r2, _⟩ := id hI
      rw [q1] at r1
      cases r1
      rw [q2] at r2
      exact absurd (Value.type.inj r2) (by decide)
    have hlt : i < its.toArray.size := by
      rw [List.size_toArray, ← rv.length]
      exact (List.getElem?_eq_some_iff.mp hx).1
    refine wpAny_pyNext_enum_itemC (Draws.list (A := X.A.in1) (I.ok.hd hc) it a nI its.toArray) hE ⟨hI, hL⟩ hlt hN (by simp [hN, nL]) fun y h1 tk hy ho hI2 hT hsz hk => ?_
    have ey : y = u := by
      rw [show its.toArray[i]? = some u from by simpa using hu] at hy
      cases hy
      rfl
    subst ey
    refine ⟨_, rfl, wpAny_letOwnedTupleGo_enum (s := { s with heap := h1, toks := tk + 1 }) ho fun h2 hE2 sb => ?_⟩
    have hT2 : h2.get? s.heap.objs.size = some { cls := .type "tuple", data := .seq #[.int (k + (i : Int)) tk, y] } := (sb.2 _ (Nat.ne_of_gt lE)).trans hT
    have new : ObjOk X.prog X.w (upd H s.heap.objs.size (.tup [.int (k + (i : Int)), x])) h2 s.heap.objs.size (.tup [.int (k + (i : Int)), x]) :=
      ⟨by show 2 ≤ sizeLine; decide, [.int (k + (i : Int)) tk, y], .cons ⟨_, rfl⟩ (.cons ru .nil), ⟨_, hT2, rfl, _, rfl⟩⟩
    have I1 : Inv X pins σ (upd H s.heap.objs.size (.tup [.int (k + (i : Int)), x])) { s with heap := h2, toks := tk + 1 } :=
      I.turnedNew (ch := [e, it]) (fun b ob hb q => by
        have n1 : b ≠ e := fun z => hb (by simp [z])
        have n2 : b ≠ it := fun z => hb (by simp [z])
        exact (sb.2 b n1).trans (hk b ob n1 n2 q)) hf (Nat.le_refl _) new
    refine ⟨.ref s.heap.objs.size, _, I1, rfl, ⟨_, x, rfl, I.hok.fresh (Nat.le_refl _), rfl, fun ys hy => by rw [I.list_inj hy qs]; exact hx⟩, ⟨⟨y, ?_⟩, hI2.1.at fun o q => (sb.2 it (Ne.symm hN)).trans q, hN⟩, fun b hb => ?_⟩
    · rw [show k + ((i + 1 : Nat) : Int) = k + (i : Int) + 1 by omega]
      exact hE2
    · have lt : b < s.heap.objs.size := by rcases two_mem hb with rfl | rfl <;> assumption
      rw [upd_ne (Nat.ne_of_lt lt)]
      exact (hf b hb).1
  done := by
    intro X eP ew eK hc i pins s σ H E I hf st hg
    subst eP ew eK
    obtain ⟨⟨old, hE⟩, hI, hN⟩ := st
    obtain ⟨xs, qs, hx⟩ := hg
    obtain ⟨its, rv, p, hz⟩ := I.list qs
    obtain ⟨f0, f1, f2, f3, f4, f5⟩ := hf it (by simp)
    have hl := rv.length
    have hL := p.isList
    have nI : a ≠ it := fun z => by
      subst z
      obtain ⟨ol, q1, q2, _⟩ := id hL
      obtain ⟨oi, r1, r2, _⟩ := id hI
      rw [q1] at r1
      cases r1
      rw [q2] at r2
      exact absurd (Value.type.inj r2) (by decide)
    have en : its.toArray.size = i := by rw [List.size_toArray, ← hl]; exact hx
    exact wpAny_pyNext_enum_endD (Draws.list (A := X.A.in1) (I.ok.hd hc) it a nI its.toArray) hE ⟨by rw [en]; exact hI, hL⟩ fun h1 eb => ⟨rfl, I.turned (t' := s.toks) (fun b o hb q => eb b o hb q) f0 f1 f3 f4 f5⟩
  self := fun A i s Q E ⟨⟨_, hE⟩, _⟩ h => wpAny_pyIter_enum hE h
theorem cw_tyK {M : Model} {A : Around} {E : Value → Shared → Prop} {s : Shared} {pos : Pos} {T : String} {x : Sem Value} {rest : List (Bool × Sem Value)} {kws : List (Option Str × Sem Value)} {Q : Value → Shared → Prop} (h1 : rest.any (·.1) = false) (h2 : kws.any (·.1.isNone) = false) (h3 : kws.all (·.1.isSome) = true)
    (h : wpAny M A (spliced ((false, x) :: rest)) (fun vs s1 => wpAny M A (evalAll (kws.map (·.2))) (fun zs s2 => wpAny M A (call (.type T) vs ((kws.filterMap (·.1)).zip zs)) Q E s2) E s1) E s) : wpAny M A (callWith pos (.type T) [] ((false, x) :: rest) kws) Q E s := by
  have h := evalArgs_kwB (f := .type T) (Q := fun a s2 => wpAny M A (call (.type T) a.pos a.kw) Q E s2) h3 h
  have hp : ((false, x) :: rest).any (·.1) = false := by show (false || rest.any (·.1)) = false; rw [h1]; rfl
  unfold callWith
  refine wpAny_bind (wpAny_holding (wpAny_mono h (fun a s1 q => wpAny_bind (wpAny_standAt ?_)) fun _ _ z => z))
  simp only [hp, h2, Bool.or_false]
  exact wpAny_bind (wpAny_pure (wpAny_bind (wpAny_mono q (fun r s2 hr => wpAny_bind (wpAny_holding (wpAny_point (wpAny_pure hr)))) fun _ _ z => z)))
def iEnS (K : Fg) (ta tb : TE) : TI := fun σ H R => ta σ H fun v H1 => tb σ H1 fun z H2 => ∃ a xs k, v = .ref a ∧ z = .int k ∧ SqL K H2 a xs ∧ -(2 ^ 62) ≤ k ∧ k < 2 ^ 62 ∧ R (ItS K a k) H2
theorem pi_enS {X : Cx} {e e2 : Expr} {ta tb : TE} {p pos tpos kp : Pos} {elts : List Expr} {kk : Nat} {x : Str} (hg : Gl X x) (ex : x = "enumerate") (hm : X.mg x = none) (ha : PE X e ta) (hb : PE X e2 tb) (hs : starEach [e] X.env = [(false, eval e X.env)]) :
    PI X (.Tuple elts kk tpos) (.Call (.Name x p) [e] [⟨some "start", e2, kp⟩] pos) (iEnS X.K ta tb) := by
  subst ex
  refine ⟨fun pins s σ H R I h => ?_⟩
  refine wpAny_Call_Name_kw (ld_blt I hg hm boot_enumerate ?_)
  rw [hs]
  refine cw_tyK (x := eval e X.env) (rest := []) rfl rfl rfl (Calls.spliced_cons (thn (ha.run pins s σ H _ I h) fun u s1 ⟨v, H1, I1, r1, q1⟩ => Calls.spliced_nil ?_))
  refine kws_cons (thn (hb.run pins s1 σ H1 _ I1 q1) fun u2 s2 ⟨z, H2, I2, r2, q2⟩ => kws_nil ?_)
  obtain ⟨a, xs, k, ev, ez, hq, k0, k1, q⟩ := q2
  subst ev ez
  obtain rfl : u = Value.ref a := r1
  obtain ⟨t, rfl⟩ := r2
  obtain ⟨its, rv, p', hz⟩ := I2.list hq
  refine enum_begins_start (begins_list a its.toArray) p'.isList (by omega) (by omega) fun h1 he hit hsz hk => wpAny_pyIter_enum he ?_
  have I3 : Inv X pins σ H2 { s2 with heap := h1 } := I2.kept (t' := s2.toks) hk
  refine ⟨s2.heap.objs.size + 1, [s2.heap.objs.size + 1, s2.heap.objs.size], _, _, H2, rfl, I3, turn_enS k a (s2.heap.objs.size + 1) s2.heap.objs.size, ⟨⟨.none, by rw [show k + ((0 : Nat) : Int) = k by omega]; exact he⟩, ⟨_, hit, rfl, rfl⟩, Nat.succ_ne_self _⟩, fun b hb => ?_, q⟩
  have hle : s2.heap.objs.size ≤ b := by rcases two_mem hb with rfl | rfl <;> omega
  exact I2.fpOk hle (I2.hok.fresh hle)
theorem enS_get : ∀ {k : Int} {ds : List PyData} {j : Nat} {d : PyData}, (enumD k ds)[j]? = some d → ∃ y, ds[j]? = some y ∧ d = .tuple [.int (k + (j : Int)), y]
  | k, [], j, d, h => by simp [enumD] at h
  | k, x :: r, 0, d, h => by
    simp [enumD] at h
    exact ⟨x, rfl, by rw [← h]; simp⟩
  | k, x :: r, j + 1, d, h => by
    simp only [enumD, List.getElem?_cons_succ] at h
    obtain ⟨y, h1, h2⟩ := enS_get h
    exact ⟨y, by simpa using h1, by rw [h2, show k + 1 + (j : Int) = k + ((j + 1 : Nat) : Int) by omega]⟩
theorem yl_enS {K : Fg} {F1 : Hp} {a : Addr} {k : Int} {vs : List V} {ds : List PyData} (q : SqL K F1 a vs) (da : DpAll K F1 vs ds) : Yl K F1 (ItS K a k) (enumD k ds) where
  stop := fun F2 H h1 h2 => ⟨vs, (h1.trans h2).seq q, by rw [enumD_len, dps_len da]⟩
  step := fun j d F2 H e h1 h2 => by
    obtain ⟨e0, he, rfl⟩ := enS_get e
    obtain ⟨x, h3, h4, h5⟩ := itemL_of q da h1 h2 he
    refine ⟨⟨vs, x, h3, h4⟩, fun y H2 ⟨T, x2, ey, hT, eH, hy⟩ => ?_⟩
    subst ey eH
    have := hy vs h3
    rw [h4] at this
    cases this
    have ex := Ext.new (o := HO.tup [.int (k + (j : Int)), x]) h2 hT
    exact ⟨_, ex, .tup (.inl (.inl upd_same)) (.cons (.int _) (.cons (dp_mono ex.ff h5) .nil))⟩
section
variable {P : Par} {g : Cfg} {X : Cx} {W : Wsh} {Φ : Fns} {l r : Expr} {es : List Expr} {pos : Pos} {f1 f2 : Env → Rs D}
theorem i_enS (c : Ct P g X W Φ) {x : Str} {p tp kp : Pos} {kk : Nat} (hx : glB X.env.scope x = true) (ex : x = "enumerate") (hs : nst l = true) (h : PE X l (rd P W f1)) (h2 : PE X r (rd P W f2)) :
    PI X (.Tuple es kk tp) (.Call (.Name x p) [l] [⟨some "start", r, kp⟩] pos) (rdI P W fun env => (f1 env).bind fun x => (f2 env).bind fun y => (lstR x).bind fun xs => (numR y).bind fun n => .ok (enumD n xs)) := by
  obtain ⟨gx, dx, nx⟩ := gl_of hx
  refine (pi_enS gx ex (c.bl _ (by subst ex; decide)) h h2 (star_of hs)).imp fun σ H R ⟨F, env, st, q⟩ => ⟨F, env, st, postI_seq q fun d F1 H1 v e1 x1 rx q1 => ⟨F1, env, st.mono x1, postI_seq q1 fun d2 F2 H2 v2 e2 x2 ry q2 => ?_⟩⟩
  cases d with
  | list ds =>
    cases d2 with
    | int k =>
      obtain ⟨a, vs, rfl, qa, da⟩ := dp_lst rx
      by_cases hk : -(2 ^ 62) ≤ k ∧ k < 2 ^ 62
      · have hn : numR (.int k) = .ok k := if_pos hk
        have q2 : postI P.K W σ F2 H2 ((numR (.int k)).bind fun n => .ok (enumD n ds)) R := q2
        rw [hn] at q2
        rw [dp_int ry, c.k]
        exact ⟨a, vs, k, rfl, rfl, x2.fh.seq (x2.ff.seq qa), hk.1, hk.2, q2 F2 H2 _ (Ext.refl x2.fh) (yl_enS (x2.ff.seq qa) (dps_mono x2.ff da))⟩
      · have hn : numR (.int k) = .bad := if_neg hk
        have q2 : postI P.K W σ F2 H2 ((numR (.int k)).bind fun n => .ok (enumD n ds)) R := q2
        rw [hn] at q2
        exact q2.elim
    | _ => exact q2.elim
  | _ => exact q2.elim
end
section
variable {P : Par} {g : Cfg} {X : Cx} {W : Wsh} {Φ : Fns} {l : Expr} {pos : Pos} {f1 : Env → Rs D}
theorem dps_emp {K : Fg} {F : Hp} {vs : List V} {ds : List D} (h : DpAll K F vs ds) : vs.isEmpty = ds.isEmpty := by cases h <;> rfl
theorem s_ntL (c : Ct P g X W Φ) (ha : PE X l (rd P W f1)) : PE X (.UnaryOp .Not l pos) (rd P W fun env => (f1 env).bind truN) := by
  refine (pe_notT ha).imp fun σ H Q ⟨F, env, st, q⟩ => ⟨F, env, st, post_seq q fun dx F1 H1 x e1 x1 rx q1 => ?_⟩
  cases dx with
  | list ds =>
    obtain ⟨a, vs, rfl, qa, da⟩ := dp_lst rx
    refine ⟨!vs.isEmpty, .inl ⟨vs, by rw [c.k]; exact x1.fh.seq qa, rfl⟩, ?_⟩
    rw [Bool.not_not, dps_emp da]
    exact q1 F1 H1 _ (Ext.refl x1.fh) (.bl _)
  | tuple ds =>
    obtain ⟨a, vs, rfl, qa, da⟩ := dp_tup rx
    refine ⟨!vs.isEmpty, .inr (.inl ⟨vs, by rw [c.k]; exact same_seqT x1.fh qa, rfl⟩), ?_⟩
    rw [Bool.not_not, dps_emp da]
    exact q1 F1 H1 _ (Ext.refl x1.fh) (.bl _)
  | bool b =>
    rw [dp_bl rx]
    exact ⟨b, rfl, q1 F1 H1 _ (Ext.refl x1.fh) (.bl _)⟩
  | _ => exact q1.elim
theorem t_ntL (c : Ct P g X W Φ) (ha : PE X l (rd P W f1)) (he : ∀ whole, isTrue l X.env whole = (do let v ← whole; standAt l.pos; holding [v] (truthy v))) : PT X (.UnaryOp .Not l pos) (rdB P W fun env => (f1 env).bind truN) := by
  refine (pt_not (pt_truth ha he)).imp fun σ H Q ⟨F, env, st, q⟩ => ?_
  refine ⟨F, env, st, ?_⟩
  cases e : f1 env with
  | ok d =>
    simp only [e, Rs.bind] at q
    cases d with
    | list ds =>
      refine fun F' H' v x r => ?_
      obtain ⟨a, vs, rfl, qa, da⟩ := dp_lst r
      refine ⟨!vs.isEmpty, .inl ⟨vs, by rw [c.k]; exact x.fh.seq qa, rfl⟩, ?_⟩
      show Q (!!vs.isEmpty) H'
      rw [Bool.not_not, dps_emp da]
      exact q F' H' _ x rfl
    | tuple ds =>
      refine fun F' H' v x r => ?_
      obtain ⟨a, vs, rfl, qa, da⟩ := dp_tup r
      refine ⟨!vs.isEmpty, .inr (.inl ⟨vs, by rw [c.k]; exact same_seqT x.fh qa, rfl⟩), ?_⟩
      show Q (!!vs.isEmpty) H'
      rw [Bool.not_not, dps_emp da]
      exact q F' H' _ x rfl
    | bool b => exact fun F' H' v x r => by rw [dp_bl r]; exact ⟨b, rfl, q F' H' _ x rfl⟩
    | _ => exact q.elim
  | exc j => simp only [e, Rs.bind] at q; exact q
  | bad => simp only [e, Rs.bind] at q; exact q.elim
end
end Q

set_option Elab.async false
set_option linter.all false
set_option maxRecDepth 100000
set_option autoImplicit false
set_option maxHeartbeats 4000000
namespace GA
open PySem PySem.Spec PyProof.Rows L2

/-- while a generator sleeps, the rest keeps what there is -/
structure Zz (s s' : Shared) : Prop where
  os : s'.os = s.os
  bare : AllBare s'.gens
  keep : ∀ b o, s.heap.get? b = some o → s'.heap.get? b = some o
/-- the context of a generator expression's code -/
abbrev gx (X : Cx) (A : Around) (s : Shared) (H : Hp) (cenv : PySem.Env) (fp : List Addr) (pn : List (Addr × Obj)) : Cx :=
  { X with A := A, s_0 := s, H_0 := H, env := cenv, outer := X.stack, stack := cenv :: X.stack, ex := fp, fn := fun _ => false, pn := pn, xe := fun _ _ => False }
/-- its frame -/
structure GenV (X : Cx) (s : Shared) (scope : Scope) (cenv : PySem.Env) : Prop where
  sc : cenv.scope = scope
  lo : cenv.locals = s.heap.objs.size
  gl : cenv.globals = X.env.globals
  bi : cenv.builtins = builtinsNs
  ce : cenv.cells = cloFrom X.env.cells scope.names []
  fr : cenv.frame = some cenv.locals
section
variable {X : Cx} {pins : List (Addr × Obj)} {σ : L2.St} {H : Hp} {s : Shared}
theorem zz_inv {ps : List (Addr × Obj)} {s' : Shared} (I : Inv X ps σ H s) (z : Zz s s') : Inv X ps σ H s' :=
  I.call' (ch := []) z.os (Un.kept z.keep) (I.hok.kept z.keep) z.bare fun b h => absurd h (by simp)
theorem clo_cell {scope : Scope} (hf : ∀ y ∈ scope.names, y.2 = .free → ∃ c, X.env.cells.lookup y.1 = some c) {y : Str} {c : Addr} (e : (cloFrom X.env.cells scope.names []).lookup y = some c) : (y, NameKind.free) ∈ scope.names ∧ X.env.cells.lookup y = some c := by
  rcases cloFrom_mem (PySem.mem_of_lookup e) with h | ⟨h, rfl⟩
  · cases h
  · obtain ⟨c, hc⟩ := hf _ h rfl
    rw [hc]
    exact ⟨h, rfl⟩
theorem clo_look {scope : Scope} (hf : ∀ y ∈ scope.names, y.2 = .free → ∃ c, X.env.cells.lookup y.1 = some c) {y : Str} (h : (y, NameKind.free) ∈ scope.names) : ∃ c, (cloFrom X.env.cells scope.names []).lookup y = some c ∧ X.env.cells.lookup y = some c := by
  obtain ⟨c, e⟩ := mem_lookup (cloFrom_has (cells := X.env.cells) (acc := []) h)
  exact ⟨c, e, (clo_cell hf e).2⟩
theorem gen_start {A : Around} {scope : Scope} {own : List (Str × Nat)} {fp : List Addr} {pn : List (Addr × Obj)} {cenv : PySem.Env} {s' : Shared} {m : Str → Option Value} (I : Inv X pins σ H s) (ok : BlkOk X.N X.env.scope scope own) (hN : X.N.Nodup) (hc : ∀ y ∈ scope.names, y.2 ≠ .cell)
    (V : GenV X s scope cenv) (hA : A.handled = X.A.handled) (hF : A.frames = some (cenv :: X.stack)) (hfp : ∀ b ∈ fp, FpOk X pins H b ∧ b < s.heap.objs.size) (hm : s'.heap.Ns cenv.locals m) (z : Zz s s')
    (hpn : ∀ p ∈ pn, s'.heap.get? p.1 = some p.2 ∧ s.heap.objs.size < p.1 ∧ ∀ v, p.2.data ≠ .cell v) : Inv (gx X A s H cenv fp pn) [] (wipe σ (own.map (·.2))) H s' := by
  have hf : ∀ y ∈ scope.names, y.2 = .free → ∃ c, X.env.cells.lookup y.1 = some c := fun y hy e => I.ok.has _ (ok.free y hy e)
  obtain ⟨v1, v2, v3, v4, v5, v6⟩ := V
  have cl : ∀ {y : Str} {c : Addr}, cenv.cells.lookup y = some c → (y, NameKind.free) ∈ scope.names ∧ X.env.cells.lookup y = some c := fun {y c} e => clo_cell hf (by rw [← v5]; exact e)
  have lk : ∀ {y : Str} {k : NameKind}, cenv.kindOf y = some k → scope.names.lookup y = some k := fun {y k} e => by rw [← v1]; exact e
  have fr : ∀ {y : Str}, scope.names.lookup y = some .free → ∃ c, cenv.cells.lookup y = some c ∧ X.env.cells.lookup y = some c := fun {y} e => by
    rw [v5]
    exact clo_look hf (PySem.mem_of_lookup e)
  have out : ∀ b ∈ frs X.stack, b < s.heap.objs.size := fun b hb => by
    obtain ⟨_, o, ho, _⟩ := I.stack.mem hb
    exact Heap.lt_size ho
  have okG : (gx X A s H cenv fp pn).Ok := by
    constructor
    case mod => exact I.ok.mod
    case kind => show cenv.scope.kind = _; rw [v1]; exact ok.kind
    case glob => exact v3.trans I.ok.glob
    case blt => exact v4
    case above => exact Nat.le_of_eq v2.symm
    case inj => exact fun y z c e1 e2 => I.ok.inj y z c (cl e1).2 (cl e2).2
    case has =>
      intro y hy
      rcases hy with hy | hy
      · exact absurd rfl (hc _ (PySem.mem_of_lookup (lk hy)))
      · obtain ⟨c, e, _⟩ := fr (lk hy)
        exact ⟨c, e⟩
    case cab => exact fun y c e => absurd e Bool.false_ne_true
    case hd => exact fun e => hA.trans (I.ok.hd e)
    case frames => exact hF
    case stk => exact .inr ⟨rfl, v6⟩
    case exf =>
      intro b hb
      obtain ⟨f, lt⟩ := hfp b hb
      exact ⟨fun e => Nat.ne_of_lt lt (e.trans v2), fun y c e => f.2.2.2.2.1 y c (cl e).2⟩
    case bs => exact I.bs
    case bsz => exact Nat.le_trans I.ok.bsz I.sz
    case noex =>
      intro b o e hb
      rcases (hfp b hb).1.2.2.2.1 with h | h
      · exact I.ok.noex b o e h
      · exact absurd (Nat.lt_of_lt_of_le (Heap.lt_size e) (Nat.le_trans I.ok.bsz h)) (Nat.lt_irrefl _)
    case exfs =>
      intro b hb h
      rcases List.mem_cons.mp (I.stkSub b h) with h | h
      · exact (hfp b hb).1.2.1 h
      · exact (hfp b hb).1.2.2.1 h
    case funs => exact I.stack
    case frf => exact I.stkFree
  refine ⟨okG, z.os, z.bare, Un.kept z.keep, ⟨m, hm, fun i y av e1 e2 e3 => ?_⟩, fun y c e => ?_, ?_, fun y c e => ?_, fun p hp => ?_, I.hok.kept z.keep, by rw [wipe_length]; exact I.len⟩
  · obtain ⟨e2, hne⟩ := wipe_some e2
    have notown : ∀ k, scope.names.lookup y = some k → k = .local ∨ k = .cell → False := fun k e hk => by
      rcases ok.own _ (PySem.mem_of_lookup e) hk with q | q
      · obtain ⟨p, hp, hpy⟩ := List.mem_map.mp q
        have e5 := ok.ix p hp
        rw [show p.1 = y from hpy] at e5
        exact hne (List.mem_map.mpr ⟨p, hp, nodup_ix hN e5 e1⟩)
      · exact q (List.mem_of_getElem? e1)
    have hfree : scope.names.lookup y = some .free := by
      rcases e3 with e3 | e3 | e3
      · exact (notown _ (lk e3) (.inl rfl)).elim
      · exact (notown _ (lk e3) (.inr rfl)).elim
      · exact lk e3
    obtain ⟨c, h1, h2⟩ := fr hfree
    have hk := ok.free _ (PySem.mem_of_lookup hfree) rfl
    obtain ⟨m0, _, hl⟩ := I.loc
    obtain ⟨u, r, q⟩ := hl i y av e1 e2 (hk.elim (fun k => .inr (.inl k)) fun k => .inr (.inr k))
    refine ⟨u, r, .inr ⟨.inr (by show cenv.scope.names.lookup y = _; rw [v1]; exact hfree), c, h1, ?_⟩⟩
    rcases q with ⟨k, _⟩ | ⟨_, c', e', w⟩
    · have k : X.env.scope.names.lookup y = some .local := k
      rcases hk with hk | hk <;> (rw [show X.env.scope.names.lookup y = _ from hk] at k; cases k)
    · rw [h2] at e'
      cases e'
      exact w.keeps z.keep
  · obtain ⟨v, w⟩ := I.cell y c (cl e).2
    exact ⟨v, w.keeps z.keep⟩
  · show H cenv.locals = none
    exact I.hok.fresh (Nat.le_of_eq v2.symm)
  · exact I.freeC y c (cl e).2
  · have hp : p ∈ pn := by simpa using hp
    obtain ⟨h1, h2, h3⟩ := hpn p hp
    exact ⟨h1, I.hok.fresh (Nat.le_of_lt h2), fun e => Nat.ne_of_gt h2 (e.trans v2), fun hb => Nat.lt_asymm h2 (out p.1 hb), h3⟩
end
end GA

set_option Elab.async false
set_option linter.all false
set_option maxRecDepth 100000
set_option autoImplicit false
set_option maxHeartbeats 4000000
namespace GA
open PySem PySem.Spec PyProof.Rows L2
/-- the code of its loop -/
abbrev cdL (elt tg iter : Expr) (scope : Scope) (pos : Pos) (it : Addr) (cenv : PySem.Env) : Code := .compLoop (.GeneratorExp elt [⟨tg, iter, [], 0⟩] scope pos) 0 (.ref it) .none cenv
def EndA (G : Cx) (Qf : Bool → Hp → Prop) : Nat → Shared → Shared → Prop := fun _ _ s => ∃ ps σ H, Inv G ps σ H s ∧ Qf true H
/-- a truth is handed out: behind a yes it goes on -/
def YA (G : Cx) (Qf : Bool → Hp → Prop) : Protocol := fun _ _ v s kap =>
  ∃ b, v = .bool b ∧ (∃ ps σ H, Inv G ps σ H s ∧ (b = false → Qf false H)) ∧ (b = true → ∀ s2, Zz s s2 → kap (.send .none) s2)
/-- what each turn is to do -/
def Steps (J : It) (g : TG) (te : TE) (vs : List Nat) (σ : L2.St) (W : Nat → Nat → Hp → Prop) (Qf : Bool → Hp → Prop) : Prop := ∀ i m H, W i m H →
  (J.stop i H ∧ Qf true H) ∨ (J.go i H ∧ ∀ x H1, J.yld i H x H1 → g x (wipe σ vs) H1 fun σ2 H2 => wipe σ2 vs = wipe σ vs ∧ te σ2 H2 fun y H4 => ∃ b, y = .bl b ∧ if b = true then ∃ m2, m2 < m ∧ W (i + 1) m2 H4 else Qf false H4)
theorem keepFp {G : Cx} {σ : L2.St} {H H2 : Hp} {s : Shared} {fp : List Addr} (hex : ∀ b ∈ fp, b ∈ G.ex) (hpn : ∀ p ∈ G.pn, p.1 ∉ fp) (I : Inv G [] σ H s) (n : ∀ b ∈ fp, H2 b = none) : ∀ b ∈ fp, FpOk G [] H2 b := fun b hb =>
  ⟨n b hb, (I.ok.exf b (hex b hb)).1, I.ok.exfs b (hex b hb), .inl (hex b hb), fun x c e => (I.ok.exf b (hex b hb)).2 x c e, fun p hp z => hpn p (by simpa using hp) (by rw [z]; exact hb)⟩
section
variable {P : Program} {w : World} {A : Around} {elt tg iter : Expr} {scope : Scope} {pos : Pos} {it : Addr} {cenv : PySem.Env} {K : PySem.W.Frag} {J : It} {fp : List Addr} {tn : Nat → Heap → Prop} {g : TG} {te : TE} {vs : List Nat} {σ : L2.St} {W : Nat → Nat → Hp → Prop} {Qf : Bool → Hp → Prop}
theorem loopA (G : Cx) (hP : G.prog = P) (hw : G.w = w) (hK : G.K = K) (hcalm : G.calm = true) (hA : G.A = A.over (cdL elt tg iter scope pos it cenv) []) (hE : G.env = cenv) (hx : G.xe = fun _ _ => False) (hex : ∀ b ∈ fp, b ∈ G.ex) (hpn : ∀ p ∈ G.pn, p.1 ∉ fp)
    (T : Turn P w K tg J fp it tn) (pg : PG G tg g) (pe : PE G elt te) (hco : cenv.scope.isCoroutine = false) (hS : Steps J g te vs σ W Qf) :
    ∀ (k i m : Nat) (H : Hp) (s0 s : Shared), m ≤ k → Inv G [] (wipe σ vs) H s → tn i s.heap → (∀ b ∈ fp, H b = none) → W i m H →
      Seg (model P w) A (fun n s₀ r s1 => r = .ok .next ∧ EndA G Qf n s₀ s1) (YA G Qf) (k + 1) s0 (cdL elt tg iter scope pos it cenv) ((model P w).den (cdL elt tg iter scope pos it cenv)) [] s := by
  subst hP hw hK hE
  have at_ : ∀ {α : Type} {t : Sem α} {Q : α → Shared → Prop} {E : Value → Shared → Prop} {s : Shared}, wpAny (model G.prog G.w) G.A t Q E s → wpAny (model G.prog G.w) (A.over (cdL elt tg iter scope pos it G.env) []) t Q E s := fun h => by
    rw [← hA]
    exact h
  have out : ∀ v, yieldOut G.env v = yieldValue v := fun v => by simp only [yieldOut, hco, Bool.false_eq_true, if_false]
  intro k
  induction k using Nat.strongRecOn with
  | _ k ih =>
    intro i m H s0 s hm I st nf hW
    show Seg _ A _ _ _ s0 _ (Sem.onRaise (compTurn (.GeneratorExp elt [⟨tg, iter, [], 0⟩] scope pos) 0 (.ref it) .none G.env) (leaving G.env)) [] s
    rw [compTurn_gen, Sem.onRaise_eq_wrap]
    refine seg_bind_wrap (wpAny_standAt ?_)
    have ok0 := keepFp hex hpn I nf
    rcases hS i m H hW with ⟨stop, q⟩ | ⟨go, step⟩
    · refine seg_bind_wrap (at_ (thnF (T.done G rfl rfl rfl hcalm i [] s _ H (fun _ _ => False) I ok0 st stop) fun r s1 ⟨hr, I1⟩ => ?_))
      subst hr
      exact seg_end (.ok .next) ⟨rfl, _, _, _, I1, q⟩
    · refine seg_bind_wrap (at_ (thnF (T.item G rfl rfl rfl hcalm i [] s _ H (fun _ _ => False) I ok0 st go) fun r s1 ⟨u, hr, h1⟩ => ?_))
      subst hr
      refine seg_bind_wrap (at_ (thnF h1 fun _ s2 ⟨x, H1, I1, rv, y1, st1, n1⟩ => ?_))
      have I1' := I1.pinned (keepFp hex hpn I1 n1) (T.obj _ _ st1)
      have r1 := pg.run _ s2 _ H1 x u _ I1' rv (step x H1 y1)
      rw [hx] at r1
      refine seg_bind_wrap (at_ (thnF r1 fun _ s3 ⟨σ3, H3, I3, w3, q3⟩ => ?_))
      simp only [List.forIn_nil]
      refine seg_bind_wrap (wpAny_pure ?_)
      simp only [if_true, out]
      rw [Sem.bind_eq_wrap', Sem.bind_eq_wrap', Sem.wrap_wrap, Sem.wrap_wrap]
      have r2 := pe.run _ s3 σ3 H3 _ I3 q3
      rw [hx] at r2
      refine seg_wrap (at_ (thnF r2 fun v s4 ⟨y, H4, I4, ry, b, ey, q4⟩ => ?_))
      subst ey
      have ev : v = .bool b := ry
      subst ev
      refine seg_at (seg_yield rfl rfl rfl ⟨b, rfl, ⟨_, σ3, H4, I4, fun e => ?_⟩, fun e s5 z => ?_⟩)
      · subst e
        exact q4
      · subst e
        obtain ⟨m2, hm2, w4⟩ := q4
        have I5 := zz_inv I4 z
        cases k with
        | zero => exact absurd (Nat.lt_of_lt_of_le hm2 hm) (Nat.not_lt_zero _)
        | succ k =>
          have kept : ∀ b ∈ fp, ∀ o, s2.heap.get? b = some o → s5.heap.get? b = some o ∧ H4 b = none := fun b hb o e =>
            let q := I5.pin (b, o) (List.mem_append_right _ (List.mem_append_right _ (mem_pinsAt hb e)))
            ⟨q.1, q.2.1⟩
          have hl : (wipe σ vs).length = σ3.length := by rw [← w3, wipe_length]
          refine seg_again rfl (ih k (Nat.lt_succ_self k) (i + 1) m2 H4 s5 s5 (Nat.le_of_lt_succ (Nat.lt_of_lt_of_le hm2 hm)) ((I5.unpinned (pins := [])).weak hl fun j v e => ?_) (T.keep _ _ _ st1 fun b hb o e => (kept b hb o e).1) (fun b hb => ?_) w4)
          · rw [← w3] at e
            exact (wipe_some e).1
          · obtain ⟨o, e, _⟩ := T.obj _ _ st1 b hb
            exact (kept b hb o e).2
end
end GA

set_option Elab.async false
set_option linter.all false
set_option maxRecDepth 100000
set_option autoImplicit false
set_option maxHeartbeats 4000000
namespace GA
open PySem PySem.Spec PyProof.Rows L2
section
variable {P : Program} {w : World} {A : Around} {elt tg iter : Expr} {scope : Scope} {pos : Pos} {it : Addr} {cenv : PySem.Env} {R : GenEnd} {Y : Protocol} {n : Nat} {s0 s : Shared}
theorem startA (self : ∀ {A : Around} {Q : Value → Shared → Prop} {E : Value → Shared → Prop}, Q (.ref it) s → wpAny (model P w) A (pyIter (.ref it)) Q E s)
    (h : Seg (model P w) A R Y n s0 (cdL elt tg iter scope pos it cenv) ((model P w).den (cdL elt tg iter scope pos it cenv)) [] s) :
    Seg (model P w) A R Y n s0 (.compStart (.GeneratorExp elt [⟨tg, iter, [], 0⟩] scope pos) 0 (.ref it) .none cenv) ((model P w).den (.compStart (.GeneratorExp elt [⟨tg, iter, [], 0⟩] scope pos) 0 (.ref it) .none cenv)) [] s := by
  show Seg _ A _ _ _ s0 _ (Sem.onRaise (compStart (.GeneratorExp elt [⟨tg, iter, [], 0⟩] scope pos) 0 (.ref it) .none cenv) (leaving cenv)) [] s
  unfold compStart
  rw [Sem.onRaise_eq_wrap]
  show Seg _ A _ _ _ s0 _ (Sem.wrap _ _ _ _ (ask >>= _)) [] s
  refine seg_bind_wrap (wpAny_askSetting ?_)
  split
  · exact seg_again rfl h
  · refine seg_bind_wrap (wpAny_rule ?_)
    show Seg _ A _ _ _ s0 _ (Sem.wrap _ _ _ _ (standAt iter.pos >>= _)) [] s
    exact seg_bind_wrap (wpAny_standAt (seg_bind_wrap (self (seg_again rfl h))))
end
/-- a generator that sleeps -/
def Slp (P : Program) (w : World) (A : Around) (G : Cx) (Qf : Bool → Hp → Prop) (a : Addr) (gi k : Nat) (s : Shared) : Prop :=
  ∃ gs, s.gens[gi]? = some gs ∧ s.heap.IsGen a gi ∧ s.heap.NoLimit ∧ AllBare s.gens ∧ ∀ s2, Zz s s2 → gs.Goes (model P w) A.in1.in1 (fun n s₀ r s1 => r = .ok .next ∧ EndA G Qf n s₀ s1) (YA G Qf) k (.send .none) s2
/-- how all of it ends -/
def Fin (G : Cx) (Qf : Bool → Hp → Prop) (r : Result) (s : Shared) : Prop := ∃ b ps σ H, r = .ok (.ret (.bool b)) ∧ Inv G ps σ H s ∧ Qf b H
theorem zz_set {s : Shared} {g : Nat} {x : GenState} (h : AllBare s.gens) (hx : x.bare = true) : Zz s (s.setGen g x) := ⟨rfl, allBare_setGen h hx, fun _ _ e => e⟩
theorem Zz.trans {a b c : Shared} (x : Zz a b) (y : Zz b c) : Zz a c := ⟨y.os.trans x.os, y.bare, fun d o e => y.keep d o (x.keep d o e)⟩
theorem all_loopA {G : Cx} {A : Around} {Qf : Bool → Hp → Prop} {a : Addr} {gi : Nat} {go : Obj} (hh : A.handled = none) (hd : A.depth < recursionLimit) (hgo : ∀ h : Heap, h.get? a = some go → h.IsGen a gi) (hpn : (a, go) ∈ G.pn) :
    ∀ (k : Nat) (s : Shared), Slp G.prog G.w A G Qf a gi k s → codeAny (model G.prog G.w) A (.builtin "all.loop" ⟨[.ref a], []⟩) (Fin G Qf) s := by
  intro k
  induction k using Nat.strongRecOn with
  | _ k ih =>
    intro s hs
    obtain ⟨gs, hg, hG, hl, hb, hgo2⟩ := hs
    refine codeAny_builtin F.entry_all_loop ?_
    rw [Around.under_plainId F.plain_all_loop _]
    show wpAny _ A.in1 (pyNext (.ref a) >>= _) _ _ s
    have hlt : gi < s.gens.size := (Array.getElem?_eq_some_iff.mp hg).1
    refine wpAny_bind (GenW.wpAny_gsz (n := gi + 1) hlt ?_)
    refine wpAny_pyNext_genexpQ (A := A.in1) (P := EndA G Qf) hh hl hd hG hg (hgo2 _ (zz_set hb rfl)) (fun v s1 gs2 hb2 hv => ?_) (fun s1 hp h2 hk => ?_)
    · intro hsz
      obtain ⟨b, ev, ⟨ps, σ, H, I, q⟩, nxt⟩ := hv
      subst ev
      have z : Zz s1 (s1.setGen gi gs2) := zz_set I.bare hb2
      have I2 := zz_inv I z
      refine wpAny_bind (wpAny_holding (wpAny_truthy_bool ?_))
      refine wpAny_bind (wpAny_letGo ?_)
      cases b with
      | false =>
        simp only [Bool.false_eq_true, if_false]
        exact wpAny_bind (wpAny_rule (wpAny_pure ⟨false, ps, σ, H, rfl, I2, q rfl⟩))
      | true =>
        simp only [if_true]
        cases k with
        | zero => exact (nxt rfl s1 ⟨rfl, I.bare, fun _ _ e => e⟩).elim
        | succ k =>
          refine wpAny_pure ⟨plainId_quiet F.plain_all_loop _, ih k (Nat.lt_succ_self k) _ ⟨gs2, setGen_at ?_, hgo _ (I2.pin (a, go) (List.mem_append_left _ hpn)).1, I2.nolimit, I2.bare, fun s2 z2 => nxt rfl s2 (z.trans z2)⟩⟩
          have : gi + 1 ≤ (s1.setGen gi gs2).gens.size := hsz
          rw [GenW.setGen_size] at this
          exact this
    · intro _
      obtain ⟨ps, σ, H, I, q⟩ := hp
      refine wpAny_bind (wpAny_rule (wpAny_pure ⟨true, ps, σ, H, rfl, zz_inv I ⟨rfl, allBare_setGen I.bare rfl, hk⟩, q⟩))
end GA

set_option Elab.async false
set_option linter.all false
set_option maxRecDepth 100000
set_option autoImplicit false
set_option maxHeartbeats 4000000
namespace GA
open PySem PySem.Spec PyProof.Rows L2 GxR
/-- all(.. for .. in ..): the table may have grown first -/
def tAllG (P : Addr) (wi : TI) (g : TG) (te : TE) (vs : List Nat) : TE := fun σ H Q => wi σ H fun J H1 => TabG H1 P ∧ ∀ H2, Tabbed P H1 H2 → ∃ W : Nat → Nat → Hp → Prop, (∃ m, W 0 m H2) ∧ Steps J g te vs σ W fun b H3 => Q (.bl b) H3
section
variable {X : Cx} {pins : List (Addr × Obj)} {σ : L2.St} {H : Hp} {s : Shared}
/-- what is known of the around of its code -/
structure GenR (X : Cx) (A : Around) : Prop where
  hd : A.handled = X.A.handled
  dp : A.depth ≤ X.A.depth + 1
  un : A.units ≤ X.A.units + 8
theorem over_cd {A : Around} {elt tg iter : Expr} {scope : Scope} {pos : Pos} {it : Addr} {cenv : PySem.Env} : (A.over (cdL elt tg iter scope pos it cenv) []).frames = pushEnvs [cenv] A.frames := by
  first
  | rfl
  | (obtain ⟨hd, d, fr, gs, u⟩ := A; simp [Around.over, envsOf, pushEnvs, Code.envs, Code.env?, Code.isFrame])
theorem push1 {A : Around} {l : List PySem.Env} {e : PySem.Env} (h : A.frames = some l) : pushEnvs [e] A.frames = some (e :: l) := by
  rw [h]
  rfl
/-- the generator is made, then walked -/
theorem gen_all {P c : Addr} {elt iter : Expr} {x : Str} {px gpos : Pos} {scope : Scope} {own : List (Str × Nat)} {wi : TI} {k : Nat} {Q' : Value → Shared → Prop} {R : It → Hp → Prop}
    (hcalm : X.calm = true) (hr : Room k X.A) (hN : X.N.Nodup) (TB : TabB X.base X.mg c P) (hcode : X.env.code = .ref c) (ok : BlkOk X.N X.env.scope scope own) (hc : ∀ y ∈ scope.names, y.2 ≠ .cell) (hco : scope.isCoroutine = false) (h0 : scope.names.lookup (".0" : Str) = some NameKind.local)
    (hi : PI X (.Name x px) iter wi) (hs : ∀ v, genFold iter X.env v = pure v) (I : Inv X pins σ H s) (h : wi σ H fun J H1 => TabG H1 P ∧ R J H1)
    (hQ : ∀ (J : It) (H1 H2 : Hp) (it a : Addr) (fp : List Addr) (tn : Nat → Heap → Prop) (cenv : PySem.Env) (go : Obj) (s4 s5 : Shared), R J H1 → Tabbed P H1 H2 → Inv X pins σ H2 s4 → (∀ b ∈ fp, FpOk X pins H2 b ∧ b < s4.heap.objs.size) → GenV X s4 scope cenv → cenv.scope.isCoroutine = false → Zz s4 s5 →
      Turn X.prog X.w X.K (.Name x px) J fp it tn → tn 0 s5.heap → s5.heap.Ns cenv.locals (fun y => if y = ".0" then some (.ref it) else none) → s5.heap.get? a = some go → s4.heap.objs.size < a → (∀ v, go.data ≠ .cell v) → (∀ h : Heap, h.get? a = some go → h.IsGen a s4.gens.size) →
      s5.gens[s4.gens.size]? = some (.fresh (.compStart (.GeneratorExp elt [⟨.Name x px, iter, [], 0⟩] scope gpos) 0 (.ref it) .none cenv)) → Q' (.ref a) s5) :
    wpAny (model X.prog X.w) X.A (eval (.GeneratorExp elt [⟨.Name x px, iter, [], 0⟩] scope gpos) X.env) Q' X.xe s := by
  have hf : ∀ y ∈ scope.names, y.2 = .free → ∃ c, X.env.cells.lookup y.1 = some c := fun y hy e => I.ok.has _ (ok.free y hy e)
  refine wpAny_GeneratorExp_make hco (closure_ok hf) hc h0 ok.kind (by have := hr.dp; omega) ?_ hs
  refine thn (hi.run pins s σ H _ I h) fun xv s1 hx => thn hx fun itv s2 h2 => ?_
  obtain ⟨it, fp, tn, J, H2, e, I2, T, st2, f2, ⟨ps, hP, ht⟩, r⟩ := h2
  subst e
  refine ⟨I2.nolimit, ?_⟩
  have gP : s2.heap.get? P = some { cls := .none, data := .fields ps } := I2.hok P _ hP
  have lt2 : ∀ b ∈ fp, b < s2.heap.objs.size := fun b hb => by
    obtain ⟨o, e, _⟩ := T.obj _ _ st2 b hb
    exact Heap.lt_size e
  have neP : ∀ b ∈ fp, b ≠ P := fun b hb e => by
    have := (f2 b hb).1
    rw [e, hP] at this
    cases this
  have code : PySem.W.CodeHd s2.heap c P := TB.code.keeps fun b o e => I2.bk b o e
  have go_on : ∀ (cd : Value) (h3 : Heap) (tk : Nat) (ps2 : Array Value), Heap.ExtBut P s2.heap h3 → s2.heap.objs.size ≤ h3.objs.size → h3.get? P = some { cls := .none, data := .fields ps2 } → (∃ more, ps2 = ps ++ more) → TriplesOk ps2.toList →
      wpAny (model X.prog X.w) X.A (builtinsFor X.env.globals X.env.builtins) (fun bi s₄ => ∀ h', h'.Ns s₄.heap.objs.size (fun y => if y = ".0" then some (Value.ref it) else none) → Heap.SameBut s₄.heap.objs.size (s₄.heap.push { cls := .type "frame", data := .dict #[] }) h' →
          Q' (.ref h'.objs.size) { s₄ with
            gens := s₄.gens.push (.fresh (.compStart (.GeneratorExp elt [⟨.Name x px, iter, [], 0⟩] scope gpos) 0 (.ref it) .none (genEnv scope (cloFrom X.env.cells scope.names []) s₄.heap.objs.size cd bi X.env))),
            toks := s₄.toks + 1 + 1 + 1,
            heap := h'.push { cls := .type "generator", data := .fields #[.int s₄.gens.size 0, .str "<genexpr>" (s₄.toks + 1), .str (X.env.qual ++ "<genexpr>") (s₄.toks + 1 + 1)] } }) X.xe { s2 with heap := h3, toks := tk } := by
    intro cd h3 tk ps2 hx hsz hP3 hmore ht3
    obtain ⟨bm, ob, e1, e2, e3, e4, e5, e6, e7, e8⟩ := TB.bm
    refine wpAny_builtinsFor (m := X.mg) (by rw [I2.ok.glob]; exact (I2.mod.glob.keeps I2.bk).extBut hx TB.gP) e1 e2 (hx _ _ e4 (I2.bk _ _ e5)) e6 e7 e8 ?_
    intro h4 hn4 sb4
    obtain ⟨more, em⟩ := hmore
    have I3 : Inv X pins σ (upd H2 P (.tbl (ps ++ more))) { s2 with heap := h3, toks := tk } := inv_tab (g' := s2.gens) (d' := s2.drawn) I2 hP (fun b u hb e => hx b u hb e) (by rw [← em]; exact hP3) I2.bare
    have k4 : ∀ b u, h3.get? b = some u → h4.get? b = some u := fun b u e => sb4.extBut b u (Nat.ne_of_lt (Heap.lt_size e)) (Heap.get?_push_of_some _ e)
    have sz4 : h4.objs.size = h3.objs.size + 1 := by rw [sb4.1, Heap.size_push]
    refine hQ J H2 _ it _ fp tn (genEnv scope (cloFrom X.env.cells scope.names []) h3.objs.size cd builtinsNs X.env) _ _ _ r ⟨⟨ps ++ more, upd_same, by rw [← em]; exact ht3⟩, fun b hb => upd_ne hb⟩ I3 (fun b hb => ⟨⟨by rw [upd_ne (neP b hb)]; exact (f2 b hb).1, (f2 b hb).2⟩, Nat.lt_of_lt_of_le (lt2 b hb) hsz⟩)
      ⟨rfl, rfl, rfl, rfl, rfl, rfl⟩ hco ⟨rfl, AllBare.push I2.bare rfl, fun b u e => Heap.get?_push_of_some _ (k4 b u e)⟩ T (T.keep _ _ _ st2 fun b hb o e => Heap.get?_push_of_some _ (k4 b o (hx b o (neP b hb) e))) (hn4.push _) (Heap.get?_push_size _ rfl) (by rw [sz4]; exact Nat.lt_succ_self _)
      (fun v e => by cases e) (fun hh e => ⟨_, _, _, e, rfl, rfl, rfl⟩) (Array.getElem?_push_size ..)
  cases hf2 : codeAmong gpos ps.toList with
  | some cv => exact wpAny_genexprCode_hit hcode (code.code gP ht) hf2 (go_on cv s2.heap s2.toks ps (Heap.ExtBut.refl _ _) (Nat.le_refl _) gP ⟨#[], by simp⟩ ht)
  | none =>
    refine wpAny_genexprCodeX hcode (code.code gP ht) (code.tab gP) hf2 fun c2 h2 tk hx hge hlt hco2 _ htab2 _ => ?_
    obtain ⟨_, _, _, _, _, _, _, _, _, _, _, _, _, _, _, _, _, _, _, htr, _⟩ := hco2
    exact go_on _ h2 tk _ hx (Nat.le_trans hge (Nat.le_of_lt hlt)) htab2.2 ⟨_, rfl⟩ htr
theorem pe_allA {P c : Addr} {elt iter : Expr} {x y : Str} {px p pos gpos : Pos} {scope : Scope} {own : List (Str × Nat)} {wi : TI} {g : TG} {te : TE} {k : Nat}
    (hcalm : X.calm = true) (hr : Room k X.A) (hN : X.N.Nodup) (hg : Gl X y) (hm : X.mg y = none) (hb : bootBuiltins y = some (.builtin "all")) (TB : TabB X.base X.mg c P) (hcode : X.env.code = .ref c) (ok : BlkOk X.N X.env.scope scope own) (hc : ∀ y ∈ scope.names, y.2 ≠ .cell) (hco : scope.isCoroutine = false)
    (h0 : scope.names.lookup (".0" : Str) = some NameKind.local) (hi : PI X (.Name x px) iter wi) (hs : ∀ v, genFold iter X.env v = pure v) (hy : (y == ("__debug__" : Str)) = false) (hy2 : y ≠ "__name__")
    (hpg : ∀ (A : Around) (s : Shared) (H : Hp) (cenv : PySem.Env) (fp : List Addr) (pn : List (Addr × Obj)), GenR X A → GenV X s scope cenv → PG (gx X A s H cenv fp pn) (.Name x px) g)
    (hpe : ∀ (A : Around) (s : Shared) (H : Hp) (cenv : PySem.Env) (fp : List Addr) (pn : List (Addr × Obj)), GenR X A → GenV X s scope cenv → PE (gx X A s H cenv fp pn) elt te)
    (he : starEach [.GeneratorExp elt [⟨.Name x px, iter, [], 0⟩] scope gpos] X.env = (false, eval (.GeneratorExp elt [⟨.Name x px, iter, [], 0⟩] scope gpos) X.env) :: starEach [] X.env := by rfl) :
    PE X (.Call (.Name y p) [.GeneratorExp elt [⟨.Name x px, iter, [], 0⟩] scope gpos] [] pos) (tAllG P wi g te (own.map (·.2))) := by
  refine ⟨fun pins s σ H Q I h => ?_⟩
  refine wpAny_Call_Name_kw (ld_blt I hg hm hb ?_ hy2 hy)
  refine PyProof.Rows.callWith_builtin1 ?_ he (by rfl)
  rw [he]
  show wpAny _ _ (spliced ((false, _) :: backTo pos (starEach [] X.env))) _ _ s
  refine Calls.spliced_cons (gen_all (k := k) hcalm hr hN TB hcode ok hc hco h0 hi hs I h fun J H1 H2 it a fp tn cenv go s4 s5 r tb I4 f4 V hco2 z T st hns ha lt nc isg hgen => ?_)
  refine Calls.spliced_nil ?_
  obtain ⟨W, ⟨m0, w0⟩, steps⟩ := r H2 tb
  refine call_function_tree F.kind_all F.plain_all F.entry_all (F.args_all1 _) ?_
  unfold Builtin.«all»
  refine wpAny_bind (m := oneArg "all" _) (wpAny_pure ?_)
  refine wpAny_bind (wpAny_pyIter_gen (isg _ ha) ?_)
  have fr : X.A.in1.in1.frames = some X.stack := I4.ok.frames
  have hh : X.A.handled = none := I4.ok.hd hcalm
  generalize hA : X.A.in1.in1.over (cdL elt (.Name x px) iter scope gpos it cenv) [] = A2
  have R2 : GenR X A2 := by
    subst hA
    exact ⟨rfl, Nat.le_refl _, by show X.A.units + 1 + 1 + 0 + 3 ≤ X.A.units + 8; omega⟩
  have start : ∀ s2, Zz s5 s2 → Inv (gx X A2 s4 H2 cenv fp [(a, go)]) [] (wipe σ (own.map (·.2))) H2 s2 := fun s2 z2 => by
    refine gen_start I4 ok hN hc V R2.hd (by subst hA; rw [over_cd]; exact push1 fr) f4 (m := fun y => if y = ".0" then some (.ref it) else none) (hns.keeps fun b o e => z2.keep b o e) (z.trans z2) fun q hq => ?_
    rw [List.mem_singleton.mp hq]
    exact ⟨z2.keep _ _ ha, lt, nc⟩
  have slp : Slp X.prog X.w X.A (gx X A2 s4 H2 cenv fp [(a, go)]) (fun b H3 => Q (.bl b) H3) a s4.gens.size (m0 + 1) s5 := by
    refine ⟨_, hgen, isg _ ha, I4.nolimit.keeps fun b o e => z.keep b o e, z.bare, fun s2 z2 => ⟨rfl, ?_⟩⟩
    have tn2 := T.keep 0 _ s2.heap st fun b hb o e => z2.keep b o e
    refine startA (fun q => T.self _ 0 s2 _ _ tn2 q) (loopA (gx X A2 s4 H2 cenv fp [(a, go)]) rfl rfl rfl hcalm hA.symm rfl rfl (fun b hb => hb) (fun q hq hf => ?_) T (hpg _ _ _ _ _ _ R2 V) (hpe _ _ _ _ _ _ R2 V) hco2 steps m0 0 m0 H2 s2 s2 (Nat.le_refl _) (start s2 z2) tn2 (fun b hb => (f4 b hb).1.1) w0)
    rw [List.mem_singleton.mp hq] at hf
    exact Nat.lt_asymm lt (f4 a hf).2
  refine wpAny_pure ⟨plainId_quiet F.plain_all_loop _, codeAny_mono (all_loopA (G := gx X A2 s4 H2 cenv fp [(a, go)]) hh hr.depth isg List.mem_cons_self (m0 + 1) s5 slp) fun rr s6 fin => ?_⟩
  obtain ⟨b, ps, σ6, H6, e, I6, q⟩ := fin
  subst e
  exact ⟨.bl b, H6, I4.call' (ch := fp) I6.os I6.base I6.hok I6.bare fun b hb => ⟨(f4 b hb).1.2.2.2.1, (f4 b hb).1.2.1, (f4 b hb).1.2.2.2.2.1, (f4 b hb).1.2.2.2.2.2⟩, rfl, q⟩
end
end GA

set_option Elab.async false
set_option linter.all false
set_option maxRecDepth 100000
set_option autoImplicit false
set_option maxHeartbeats 4000000
namespace Q
open PySem PySem.Spec PyProof.Rows L2
section
variable {P : Par} {g : Cfg} {X : Cx} {W : Wsh} {Φ : Fns} {f : Env → Rs D} {fl : Env → Rs (List D)}
theorem pl0_no {scope : Scope} (h : genC scope = true) (h2 : pl0 scope = true) : False := by
  unfold genC at h
  unfold pl0 at h2
  simp only [Bool.and_eq_true] at h
  have h := h.2
  split at h
  · rename_i e
    have m := PySem.mem_of_lookup e
    have q := List.all_eq_true.mp h2 _ m
    simp at q
  · cases h
/-- only the table has grown -/
theorem Ext.tab {F H H' : Hp} {t : Addr} (s : Same F H) (hF : F t = none) (hT : GxR.TabG H t) (tb : GxR.Tabbed t H H') : Ext F H F H' := by
  obtain ⟨⟨ps2, e2, t2⟩, ne⟩ := tb
  obtain ⟨ps, e, t1⟩ := hT
  refine ⟨fun b u q => ?_, Same.refl F, fun b u q => ?_, fun _ _ n => n⟩
  · by_cases hb : b = t
    · subst hb
      rw [e] at q
      cases q
      exact .inr ⟨⟨ps, rfl, t1⟩, _, e2, ps2, rfl, t2⟩
    · exact .inl (by rw [ne b hb]; exact q)
  · have hb : b ≠ t := fun z => by
      subst z
      rw [hF] at q
      cases q
    rw [ne b hb]
    exact s b u q
theorem Ct.genx (c : Ct P g X W Φ) (hh : g.hot = false) {scope : Scope} (hc : genC scope = true) {A : Around} {s : Shared} {H : Hp} {cenv : PySem.Env} {fp : List Addr} {pn : List (Addr × Obj)} (R : GA.GenR X A) (V : GA.GenV X s scope cenv)
    (G : X.A.units + 72 < cLine ∧ ∀ A : Around, A.handled = X.A.handled → A.depth ≤ X.A.depth + 1 → A.units ≤ X.A.units + 8 →
    (∀ (j : Nat) (x : Str) (n : Nat), g.fs[j]? = some (x, n) → ∃ f fd ps k, X.mg x = some (.ref f) ∧ PySem.W.keepIn X.K (.ref f) = true ∧ Binds X.K fd ps [] ∧ Room k A ∧ FnOk X.prog X.w X.K X.mg X.base (L2.CX X.prog X.w) k f fd ps (spF P.K P.T P.cls n (Φ j))) ∧
    ∀ y tb, g.es.lookup y = some tb → ∃ f fd ps k, X.mg y = some (.ref f) ∧ PySem.W.keepIn X.K (.ref f) = true ∧ Binds X.K fd ps [] ∧ L2H.RoomH k A ∧ FnE X.prog X.w X.K X.mg X.base P.cls k f fd ps tb) : Ct P g (GA.gx X A s H cenv fp pn) Wno Φ := by
  obtain ⟨a, b⟩ := G.2 A R.hd R.dp R.un
  refine ⟨c.n, c.nd, c.k, c.bl, c.calm, ?_, fun _ => a, fun z => absurd (hh.symm.trans z) Bool.false_ne_true, c.gi, c.is, b, fun σ pins H s e s' I h => ?_, c.tb, fun _ _ z => ?_⟩
  · show A.units + 64 < cLine
    have := R.un
    have := G.1
    omega
  · obtain ⟨_, _, _, _, _, _, _, _, _, _, _, _, _, _, _, z⟩ := h
    exact z.elim
  · have z : pl0 cenv.scope = true := z
    rw [V.sc] at z
    exact (pl0_no hc z).elim
theorem allR_cons {f : D → Rs D} {d : D} {ds : List D} : allR f (d :: ds) = (match f d with
    | .ok (.bool true) => allR f ds
    | .ok (.bool false) => .ok (.bool false)
    | _ => .bad) := rfl
theorem all_inG {t : Addr} (c : ∀ t ∈ P.T, GxR.TabG P.H0 t ∧ P.F0 t = none) (ht : t ∈ P.T) {i : Nat} {σ : L2.St} {H : Hp} {Q : VK} (h : rd P W (fun env => (fl env).bind fun ds => allR (fun d => f (env.set i (some (.fr d)))) ds) σ H Q) :
    GA.tAllG t (rdI P W fl) (gName i) (rd P Wno f) [i] σ H Q := by
  obtain ⟨F, env, st, q⟩ := h
  refine ⟨F, env, st, ?_⟩
  dsimp only at q
  cases el : fl env with
  | exc k => rw [el] at q; exact q
  | bad => rw [el] at q; exact q.elim
  | ok ds =>
    rw [el] at q
    refine fun F1 H1 J x1 y1 => ?_
    have st1 := st.mono x1
    obtain ⟨tH, tF⟩ := tabs_at c st1
    refine ⟨tH t ht, fun H2 tb => ?_⟩
    have x2 : Ext F1 H1 F1 H2 := Ext.tab x1.fh (tF t ht) (tH t ht) tb
    have q : post (Dp P.K) W σ F H (allR (fun d => f (env.set i (some (.fr d)))) ds) Q := q
    refine ⟨fun j m H3 => m = ds.length - j ∧ j ≤ ds.length ∧ (∃ F3, Ext F1 H1 F3 H3) ∧ allR (fun d => f (env.set i (some (.fr d)))) (ds.drop j) = allR (fun d => f (env.set i (some (.fr d)))) ds, ⟨ds.length, by simp, Nat.zero_le _, ⟨F1, x2⟩, rfl⟩, ?_⟩
    rintro j m H3 ⟨rfl, hj, ⟨F3, x3⟩, er⟩
    by_cases hlt : j < ds.length
    · obtain ⟨d, hd⟩ : ∃ d, ds[j]? = some d := ⟨ds[j], List.getElem?_eq_getElem hlt⟩
      obtain ⟨go, yld⟩ := y1.step j d F3 H3 hd x3.ff x3.fh
      refine .inr ⟨go, fun v H' hy => ?_⟩
      obtain ⟨F4, x4, rv⟩ := yld v H' hy
      have hset2 : ((wipe σ [i]).set i (some v)) = σ.set i (some v) := by
        show (σ.set i none).set i (some v) = σ.set i (some v)
        rw [List.set_set]
      refine ⟨by
        show (((wipe σ [i]).set i (some v)).set i none) = wipe σ [i]
        show (((σ.set i none).set i (some v)).set i none) = σ.set i none
        rw [List.set_set, List.set_set], ?_⟩
      rw [hset2]
      refine ⟨F4, env.set i (some (.fr d)), (st1.mono (x3.trans x4)).putD rv, ?_⟩
      have dr : ds.drop j = d :: ds.drop (j + 1) := by
        rw [List.drop_eq_getElem_cons hlt]
        rw [List.getElem?_eq_getElem hlt] at hd
        cases hd
        rfl
      rw [dr, allR_cons] at er
      cases ef : f (env.set i (some (.fr d))) with
      | bad => rw [ef] at er; rw [← er] at q; exact q.elim
      | exc k => rw [ef] at er; rw [← er] at q; exact q.elim
      | ok b =>
        rw [ef] at er
        cases b with
        | bool b =>
          intro F5 H5 w x5 rw5
          refine ⟨b, dp_bl rw5, ?_⟩
          cases b with
          | false =>
            rw [← er] at q
            exact q F5 H5 (.bl false) (x1.trans ((x3.trans x4).trans x5)) (.bl false)
          | true => exact ⟨ds.length - (j + 1), by omega, rfl, hlt, ⟨F5, (x3.trans x4).trans x5⟩, er⟩
        | _ => rw [← er] at q; exact q.elim
    · have e : j = ds.length := by omega
      subst e
      rw [List.drop_length] at er
      rw [← er] at q
      exact .inl ⟨y1.stop F3 H3 x3.ff x3.fh, q F3 H3 (.bl true) (x1.trans x3) (.bl true)⟩
theorem s_allG (c : Ct P g X W Φ) {i : Nat} {x y z : Str} {el : Expr} {scope : Scope} {p px pz pos gpos : Pos} (hh : g.hot = false) (hg : g.gen = true) (hp : pl0 X.env.scope = true) (hy : glB X.env.scope y = true) (ey : y = "all") (hb : blkC g.N X.env.scope scope [(x, i)] = true) (hgc : genC scope = true) (hl : locB scope x = true)
    (hi : PI X (.Name x px) (.Name z pz) (rdI P W fl)) (he : ∀ X', Ct P g X' Wno Φ → X'.env.scope = scope → PE X' el (rd P Wno f)) :
    PE X (.Call (.Name y p) [.GeneratorExp el [⟨.Name x px, .Name z pz, [], 0⟩] scope gpos] [] pos) (rd P W fun env => (fl env).bind fun ds => allR (fun d => f (env.set i (some (.fr d)))) ds) := by
  obtain ⟨cc, t, h1, h2, h3, hr, hG⟩ := c.gc hh hg hp
  obtain ⟨gy, dy, ny⟩ := gl_of hy
  have ok : BlkOk X.N X.env.scope scope [(x, i)] := blkOk_by (by rw [c.n]; exact hb)
  have hN : X.N.Nodup := by rw [c.n]; exact c.nd
  have hx : scope.names.lookup x = some .local := loc_of hl
  have hgc2 := hgc
  unfold genC at hgc2
  simp only [Bool.and_eq_true, List.all_eq_true, Bool.not_eq_true'] at hgc2
  obtain ⟨⟨g1, g2⟩, g3⟩ := hgc2
  have h0 : scope.names.lookup (".0" : Str) = some .local := by
    split at g3
    · assumption
    · cases g3
  refine (GA.pe_allA (own := [(x, i)]) (g := gName i) (te := rd P Wno f) (c.calm hh) hr hN gy (c.bl y (by subst ey; decide)) (by subst ey; rfl) h3 h1 ok (fun y hy => by simpa using g1 y hy) g2 h0 hi (fun _ => rfl) dy ny ?_ ?_).imp fun σ H Q h => all_inG c.tb h2 h
  · intro A s H cenv fp pn R V
    have hx2 : cenv.scope.names.lookup x = some .local := by rw [V.sc]; exact hx
    exact pg_name (X := GA.gx X A s H cenv fp pn) hN (ok.ix (x, i) (List.mem_cons_self)) (.inl hx2) (.inr hx2)
  · intro A s H cenv fp pn R V
    exact he _ (c.genx hh hgc R V hG) V.sc
end
end Q

set_option Elab.async false
set_option linter.all false
set_option maxRecDepth 100000
set_option autoImplicit false
set_option maxHeartbeats 8000000
namespace Q
open PySem PySem.Spec PyProof.Rows L2
variable {P : Par} {g : Cfg} {Φ : Fns}
theorem and2 {a b : Bool} (h : (a && b) = true) : a = true ∧ b = true := by rwa [Bool.and_eq_true] at h
theorem dec1 {p : Prop} [Decidable p] (h : decide p = true) : p := of_decide_eq_true h
theorem not1 {a : Bool} (h : (!a) = true) : a = false := by simpa using h

mutual
theorem snd : ∀ t : Ex, Snd P g Φ t
  | .var i => .val fun c e h => by
    cases e with
    | Name x p => exact ⟨s_var c h, fun _ => rfl⟩
    | _ => exact no_of h
  | .clsE i tb => .val fun c e h => by
    unfold chk at h
    split at h
    · obtain ⟨h1, h4⟩ := and2 h
      obtain ⟨h1, h3⟩ := and2 h1
      obtain ⟨h1, h2⟩ := and2 h1
      exact ⟨s_clsE c h1 h2 (dec1 h3) h4, fun _ => rfl⟩
    · exact no_of h
  | .ntL i => by
    have key : ∀ {X : Cx} {W : Wsh} (c : Ct P g X W Φ) (e : Expr), chk g (.ntL i) X.env.scope e = true → ∃ x q p, e = .UnaryOp .Not (.Name x q) p ∧ chkV g X.env.scope i x = true := fun {X W} c e h => by
      unfold chk at h
      split at h
      · exact ⟨_, _, _, rfl, h⟩
      · exact no_of h
    exact ⟨fun c e h => by
      obtain ⟨x, q, p, rfl, h2⟩ := key c e h
      exact s_ntL c (s_var c h2), fun _ {X W} c e h => by
      obtain ⟨x, q, p, rfl, h2⟩ := key c e h
      exact t_ntL c (s_var c h2) fun _ => rfl⟩
  | .cI i => .val fun c e h => by
    cases e with
    | Constant k j p =>
      cases k with
      | int n =>
        have q : i = n := dec1 h
        subst q
        exact ⟨s_const pe_int fun F => .int _, fun _ => rfl⟩
      | _ => exact no_of h
    | _ => exact no_of h
  | .cS i => .val fun c e h => by
    cases e with
    | Constant k j p =>
      cases k with
      | str n =>
        have q : i = n := dec1 h
        subst q
        exact ⟨s_const pe_str fun F => .str _, fun _ => rfl⟩
      | _ => exact no_of h
    | _ => exact no_of h
  | .cB i => .val fun c e h => by
    cases e with
    | Constant k j p =>
      cases k with
      | bool n =>
        have q : i = n := dec1 h
        subst q
        exact ⟨s_const pe_bl fun F => .bl _, fun _ => rfl⟩
      | _ => exact no_of h
    | _ => exact no_of h
  | .cN => .val fun c e h => by
    cases e with
    | Constant k j p =>
      cases k with
      | none => exact ⟨s_const pe_non fun F => .non, fun _ => rfl⟩
      | _ => exact no_of h
    | _ => exact no_of h
  | .bin o a b => .val fun c e h => by
    cases e with
    | BinOp l op r p =>
      have h : (decide (op = opOf o) && chk g a _ l && chk g b _ r) = true := h
      obtain ⟨h1, h3⟩ := and2 h
      obtain ⟨h1, h2⟩ := and2 h1
      have q := dec1 h1
      subst q
      exact ⟨s_bin c ((snd a).v c l h2) ((snd b).v c r h3), fun _ => rfl⟩
    | _ => exact no_of h
  | .neg a => .val fun c e h => by
    cases e with
    | UnaryOp op l p =>
      cases op with
      | USub => exact ⟨s_neg c ((snd a).v c l h), fun _ => rfl⟩
      | _ => exact no_of h
    | _ => exact no_of h
  | .cmp o a b => by
    have key : ∀ {X : Cx} {W : Wsh} (c : Ct P g X W Φ) (e : Expr), chk g (.cmp o a b) X.env.scope e = true → ∃ l r p, e = .Compare l [copOf o] [r] p ∧ chk g a X.env.scope l = true ∧ chk g b X.env.scope r = true ∧ behindInMarks (copOf o) r = false := fun {X W} c e h => by
      cases e with
      | Compare l ops rs p =>
        rcases ops with _ | ⟨op, _ | ⟨_, _⟩⟩
        · exact no_of h
        · rcases rs with _ | ⟨r, _ | ⟨_, _⟩⟩
          · exact no_of h
          · have h : (decide (op = copOf o) && chk g a _ l && chk g b _ r && !(behindInMarks op r)) = true := h
            obtain ⟨h1, h4⟩ := and2 h
            obtain ⟨h1, h3⟩ := and2 h1
            obtain ⟨h1, h2⟩ := and2 h1
            have q := dec1 h1
            subst q
            exact ⟨l, r, p, rfl, h2, h3, not1 h4⟩
          · exact no_of h
        · exact no_of h
      | _ => exact no_of h
    exact ⟨fun c e h => by
      obtain ⟨l, r, p, rfl, h2, h3, h4⟩ := key c e h
      exact s_cmp c ((snd a).v c l h2) ((snd b).v c r h3) h4, fun _ {X W} c e h => by
      obtain ⟨l, r, p, rfl, h2, h3, h4⟩ := key c e h
      exact t_cmp c ((snd a).v c l h2) ((snd b).v c r h3) h4⟩
  | .chn o o' a b d => by
    have key : ∀ {X : Cx} {W : Wsh} (c : Ct P g X W Φ) (e : Expr), chk g (.chn o o' a b d) X.env.scope e = true → ∃ l r z p, e = .Compare l [copOf o, copOf o'] [r, z] p ∧ chk g a X.env.scope l = true ∧ chk g b X.env.scope r = true ∧ chk g d X.env.scope z = true ∧ lastMarks [copOf o, copOf o'] [r, z] = false := fun {X W} c e h => by
      cases e with
      | Compare l ops rs p =>
        rcases ops with _ | ⟨op, _ | ⟨op', _ | ⟨_, _⟩⟩⟩
        · exact no_of h
        · exact no_of h
        · rcases rs with _ | ⟨r, _ | ⟨z, _ | ⟨_, _⟩⟩⟩
          · exact no_of h
          · exact no_of h
          · have h : (decide (op = copOf o) && decide (op' = copOf o') && chk g a _ l && chk g b _ r && chk g d _ z && !(lastMarks [op, op'] [r, z])) = true := h
            obtain ⟨h1, h6⟩ := and2 h
            obtain ⟨h1, h5⟩ := and2 h1
            obtain ⟨h1, h4⟩ := and2 h1
            obtain ⟨h1, h3⟩ := and2 h1
            obtain ⟨h1, h2⟩ := and2 h1
            have q := dec1 h1
            have q' := dec1 h2
            subst q q'
            exact ⟨l, r, z, p, rfl, h3, h4, h5, not1 h6⟩
          · exact no_of h
        · exact no_of h
      | _ => exact no_of h
    exact ⟨fun c e h => by
      obtain ⟨l, r, z, p, rfl, h2, h3, h4, h5⟩ := key c e h
      exact s_chn c ((snd a).v c l h2) ((snd b).v c r h3) ((snd d).v c z h4) h5, fun _ {X W} c e h => by
      obtain ⟨l, r, z, p, rfl, h2, h3, h4, h5⟩ := key c e h
      exact t_chn c ((snd a).v c l h2) ((snd b).v c r h3) ((snd d).v c z h4) h5⟩
  | .isN a => by
    have key : ∀ {X : Cx} {W : Wsh} (c : Ct P g X W Φ) (e : Expr), chk g (.isN a) X.env.scope e = true → ∃ l j q p, e = .Compare l [.Is] [.Constant .none j q] p ∧ chk g a X.env.scope l = true := fun {X W} c e h => by
      unfold chk at h
      split at h
      · exact ⟨_, _, _, _, rfl, h⟩
      · exact no_of h
    exact ⟨fun c e h => by
      obtain ⟨l, j, q, p, rfl, h2⟩ := key c e h
      exact s_isN ((snd a).v c l h2), fun _ {X W} c e h => by
      obtain ⟨l, j, q, p, rfl, h2⟩ := key c e h
      exact t_isN ((snd a).v c l h2)⟩
  | .notN a => by
    have key : ∀ {X : Cx} {W : Wsh} (c : Ct P g X W Φ) (e : Expr), chk g (.notN a) X.env.scope e = true → ∃ l j q p, e = .Compare l [.IsNot] [.Constant .none j q] p ∧ chk g a X.env.scope l = true := fun {X W} c e h => by
      unfold chk at h
      split at h
      · exact ⟨_, _, _, _, rfl, h⟩
      · exact no_of h
    exact ⟨fun c e h => by
      obtain ⟨l, j, q, p, rfl, h2⟩ := key c e h
      exact s_notN ((snd a).v c l h2), fun _ {X W} c e h => by
      obtain ⟨l, j, q, p, rfl, h2⟩ := key c e h
      exact t_notN ((snd a).v c l h2)⟩
  | .conj a as => by
    have key : ∀ {X : Cx} {W : Wsh} (c : Ct P g X W Φ) (e : Expr), chk g (.conj a as) X.env.scope e = true → ∃ l r rs p, e = .BoolOp .And (l :: r :: rs) p ∧ chk g a X.env.scope l = true ∧ chks g as X.env.scope (r :: rs) = true := fun {X W} c e h => by
      cases e with
      | BoolOp op vs p =>
        cases op with
        | And =>
          rcases vs with _ | ⟨l, _ | ⟨r, rs⟩⟩
          · exact no_of h
          · exact no_of h
          · exact ⟨l, r, rs, p, rfl, (and2 h).1, (and2 h).2⟩
        | Or => exact no_of h
      | _ => exact no_of h
    exact ⟨fun c e h => by
      obtain ⟨l, r, rs, p, rfl, h2, h3⟩ := key c e h
      exact s_and ((snd a).v c l h2) ((snds as).cj c r rs p h3), fun ht {X W} c e h => by
      obtain ⟨l, r, rs, p, rfl, h2, h3⟩ := key c e h
      have ht := and2 (show (tst a && tsts as) = true from ht)
      exact (T_and ((snd a).b ht.1 c l h2) ((snds as).cb ht.2 c r rs p h3)).pt⟩
  | .disj a as => by
    have key : ∀ {X : Cx} {W : Wsh} (c : Ct P g X W Φ) (e : Expr), chk g (.disj a as) X.env.scope e = true → ∃ l r rs p, e = .BoolOp .Or (l :: r :: rs) p ∧ chk g a X.env.scope l = true ∧ chks g as X.env.scope (r :: rs) = true := fun {X W} c e h => by
      cases e with
      | BoolOp op vs p =>
        cases op with
        | Or =>
          rcases vs with _ | ⟨l, _ | ⟨r, rs⟩⟩
          · exact no_of h
          · exact no_of h
          · exact ⟨l, r, rs, p, rfl, (and2 h).1, (and2 h).2⟩
        | And => exact no_of h
      | _ => exact no_of h
    exact ⟨fun c e h => by
      obtain ⟨l, r, rs, p, rfl, h2, h3⟩ := key c e h
      exact s_or ((snd a).v c l h2) ((snds as).dj c r rs p h3), fun ht {X W} c e h => by
      obtain ⟨l, r, rs, p, rfl, h2, h3⟩ := key c e h
      have ht := and2 (show (tst a && tsts as) = true from ht)
      exact (T_or ((snd a).b ht.1 c l h2) ((snds as).db ht.2 c r rs p h3)).pt⟩
  | .nt a => by
    have key : ∀ {X : Cx} {W : Wsh} (c : Ct P g X W Φ) (e : Expr), chk g (.nt a) X.env.scope e = true → ∃ l p, e = .UnaryOp .Not l p ∧ chk g a X.env.scope l = true := fun {X W} c e h => by
      cases e with
      | UnaryOp op l p =>
        cases op with
        | Not => exact ⟨l, p, rfl, h⟩
        | _ => exact no_of h
      | _ => exact no_of h
    exact ⟨fun c e h => by
      obtain ⟨l, p, rfl, h2⟩ := key c e h
      exact s_not ((snd a).v c l h2), fun ht {X W} c e h => by
      obtain ⟨l, p, rfl, h2⟩ := key c e h
      exact t_not ((snd a).b ht c l h2)⟩
  | .ite d a b => ⟨fun c e h => by
    cases e with
    | IfExp z l r p =>
      have h : (tst d && chk g d _ z && chk g a _ l && chk g b _ r) = true := h
      obtain ⟨h1, h4⟩ := and2 h
      obtain ⟨h1, h3⟩ := and2 h1
      obtain ⟨h1, h2⟩ := and2 h1
      exact s_ite ((snd d).b h1 c z h2) ((snd a).v c l h3) ((snd b).v c r h4)
    | _ => exact no_of h, fun ht => no_of ht⟩
  | .ix a b => .val fun c e h => by
    cases e with
    | Subscript l r p =>
      have h : (nsl r && chk g a _ l && chk g b _ r) = true := h
      obtain ⟨h1, h3⟩ := and2 h
      obtain ⟨h1, h2⟩ := and2 h1
      exact ⟨s_ix c ((snd a).v c l h2) ((snd b).v c r h3) h1, fun _ => rfl⟩
    | _ => exact no_of h
  | .slc a lo hi => .val fun {X W} c e h => by
    cases e with
    | Subscript l r p =>
      cases r with
      | Slice x y z p2 =>
        cases z with
        | some _ => cases x <;> cases y <;> exact no_of h
        | none =>
          have lov : ∀ {t : Ex}, isCN t = true → PO X none (rdO P W fun env => if isCN t = true then .ok none else (ev SS Φ t env).bind intR) := fun {t} ht => by
            simp only [ht, if_true]
            exact o_none
          have hiv : ∀ {t : Ex} {e : Expr}, (!(isCN t)) = true → PE X e (rd P W (ev SS Φ t)) → PO X (some e) (rdO P W fun env => if isCN t = true then .ok none else (ev SS Φ t env).bind intR) := fun {t e} ht hp => by
            simp only [not1 ht, Bool.false_eq_true, if_false]
            exact o_some hp
          refine ⟨?_, fun _ => rfl⟩
          cases x with
          | none =>
            cases y with
            | none =>
              have h : (chk g a _ l && isCN lo && isCN hi) = true := h
              obtain ⟨h1, h3⟩ := and2 h
              obtain ⟨h1, h2⟩ := and2 h1
              exact s_slc c ((snd a).v c l h1) (lov h2) (lov h3)
            | some y =>
              have h : (chk g a _ l && isCN lo && chk g hi _ y && !(isCN hi)) = true := h
              obtain ⟨h1, h4⟩ := and2 h
              obtain ⟨h1, h3⟩ := and2 h1
              obtain ⟨h1, h2⟩ := and2 h1
              exact s_slc c ((snd a).v c l h1) (lov h2) (hiv h4 ((snd hi).v c y h3))
          | some x =>
            cases y with
            | none =>
              have h : (chk g a _ l && chk g lo _ x && !(isCN lo) && isCN hi) = true := h
              obtain ⟨h1, h4⟩ := and2 h
              obtain ⟨h1, h3⟩ := and2 h1
              obtain ⟨h1, h2⟩ := and2 h1
              exact s_slc c ((snd a).v c l h1) (hiv h3 ((snd lo).v c x h2)) (lov h4)
            | some y =>
              have h : (chk g a _ l && chk g lo _ x && !(isCN lo) && chk g hi _ y && !(isCN hi)) = true := h
              obtain ⟨h1, h5⟩ := and2 h
              obtain ⟨h1, h4⟩ := and2 h1
              obtain ⟨h1, h3⟩ := and2 h1
              obtain ⟨h1, h2⟩ := and2 h1
              exact s_slc c ((snd a).v c l h1) (hiv h3 ((snd lo).v c x h2)) (hiv h5 ((snd hi).v c y h4))
      | _ => exact no_of h
    | _ => exact no_of h
  | .call f a as => .val fun c e h => by
    cases e with
    | Call fn args kw p =>
      cases fn with
      | Name x px =>
        rcases args with _ | ⟨l, ls⟩
        · exact no_of h
        · cases kw with
          | cons _ _ => exact no_of h
          | nil =>
            have h : (!g.hot && glB _ x && decide (g.fs[f]? = some (x, ls.length + 1)) && nst l && chk g a _ l && chks g as _ ls) = true := h
            obtain ⟨h1, h6⟩ := and2 h
            obtain ⟨h1, h5⟩ := and2 h1
            obtain ⟨h1, h4⟩ := and2 h1
            obtain ⟨h1, h3⟩ := and2 h1
            obtain ⟨h1, h2⟩ := and2 h1
            exact ⟨s_call c (not1 h1) h2 (dec1 h3) h4 (nostars h6) ((snd a).v c l h5) ((snds as).v c ls h6) (evs_len SS Φ g _ as ls h6), fun _ => rfl⟩
      | _ => exact no_of h
    | _ => exact no_of h
  | .blt b a as => .val fun c e h => by
    cases e with
    | Call fn args kw p =>
      cases fn with
      | Name x px =>
        rcases args with _ | ⟨l, ls⟩
        · exact no_of h
        · cases kw with
          | cons _ _ => exact no_of h
          | nil =>
            have h : ((!g.hot || bltCold b) && glB _ x && decide (x = bltN b) && nst l && chk g a _ l && chks g as _ ls) = true := h
            obtain ⟨h1, h6⟩ := and2 h
            obtain ⟨h1, h5⟩ := and2 h1
            obtain ⟨h1, h4⟩ := and2 h1
            obtain ⟨h1, h3⟩ := and2 h1
            obtain ⟨h1, h2⟩ := and2 h1
            exact ⟨s_blt c h1 h2 (dec1 h3) h4 (nostars h6) ((snd a).v c l h5) ((snds as).v c ls h6), fun _ => rfl⟩
      | _ => exact no_of h
    | _ => exact no_of h
  | .tup as => .val fun c e h => by
    cases e with
    | Tuple ls k p => exact ⟨s_tup ((snds as).v c ls h), fun _ => rfl⟩
    | _ => exact no_of h
  | .lst as => .val fun c e h => by
    cases e with
    | List ls p => exact ⟨s_lst ((snds as).v c ls h), fun _ => rfl⟩
    | _ => exact no_of h
  | .isi a t => .val fun c e h => by
    cases e with
    | Call fn args kw p =>
      cases fn with
      | Name x px =>
        rcases args with _ | ⟨l, _ | ⟨m, _ | ⟨_, _⟩⟩⟩
        · exact no_of h
        · exact no_of h
        · cases m with
          | Name y py =>
            cases kw with
            | cons _ _ => exact no_of h
            | nil =>
              have h : (glB _ x && decide (x = "isinstance") && glB _ y && decide (y = tySt t) && nst l && chk g a _ l) = true := h
              obtain ⟨h1, h6⟩ := and2 h
              obtain ⟨h1, h5⟩ := and2 h1
              obtain ⟨h1, h4⟩ := and2 h1
              obtain ⟨h1, h3⟩ := and2 h1
              obtain ⟨h1, h2⟩ := and2 h1
              exact ⟨s_isi c h1 (dec1 h2) h3 (dec1 h4) h5 ((snd a).v c l h6), fun _ => rfl⟩
          | _ => exact no_of h
        · cases m <;> exact no_of h
      | _ => exact no_of h
    | _ => exact no_of h
  | .comp i t it => .val fun {X W} c e h => by
    cases e with
    | ListComp el gs scope p =>
      rcases gs with _ | ⟨⟨tg, itr, ifs, as⟩, _ | ⟨_, _⟩⟩
      · exact no_of h
      · cases tg with
        | Name x px =>
          cases ifs with
          | cons _ _ => exact no_of h
          | nil =>
            match as, h with
            | 0, h =>
              have h : (!g.cmp && blkC g.N _ scope [(x, i)] && locB (relS scope _) x && chkI g it false _ itr && chk g t (relS scope _) el) = true := h
              obtain ⟨h1, h5⟩ := and2 h
              obtain ⟨h1, h4⟩ := and2 h1
              obtain ⟨h1, h3⟩ := and2 h1
              obtain ⟨h1, h2⟩ := and2 h1
              obtain ⟨hi, hset⟩ := (sndI it).v c (.Name x px) itr false (fun z => nomatch z) h4
              exact ⟨s_comp c (not1 h1) h2 h3 hi hset fun X' c' es => (snd t).v c' el (by rw [es]; exact h5), fun _ => rfl⟩
            | .ofNat (_ + 1), h => exact no_of h
            | .negSucc _, h => exact no_of h
        | _ => exact no_of h
      · cases tg with
        | Name x px =>
          cases ifs with
          | cons _ _ => exact no_of h
          | nil =>
            match as, h with
            | 0, h => exact no_of h
            | .ofNat (_ + 1), h => exact no_of h
            | .negSucc _, h => exact no_of h
        | _ => exact no_of h
    | _ => exact no_of h
  | .comp2 i j t it => .val fun {X W} c e h => by
    unfold chk at h
    split at h
    · obtain ⟨h1, h7⟩ := and2 h
      obtain ⟨h1, h6⟩ := and2 h1
      obtain ⟨h1, h5⟩ := and2 h1
      obtain ⟨h1, h4⟩ := and2 h1
      obtain ⟨h1, h3⟩ := and2 h1
      obtain ⟨h1, h2⟩ := and2 h1
      obtain ⟨hi, hset⟩ := (sndI it).v c (.Tuple [.Name _ _, .Name _ _] _ _) _ true (fun _ => ⟨_, _, _, rfl⟩) h6
      exact ⟨s_comp2 c (not1 h1) (dec1 h2) h3 h4 h5 hi hset fun X' c' es => (snd t).v c' _ (by rw [es]; exact h7), fun _ => rfl⟩
    · exact no_of h
  | .lrev a => .val fun c e h => by
    cases e with
    | Call fn args kw p =>
      cases fn with
      | Name x px =>
        rcases args with _ | ⟨m, _ | ⟨_, _⟩⟩
        · exact no_of h
        · cases m with
          | Call fn2 args2 kw2 p2 =>
            cases fn2 with
            | Name y py =>
              rcases args2 with _ | ⟨l, _ | ⟨_, _⟩⟩
              · exact no_of h
              · cases kw2 with
                | cons _ _ => exact no_of h
                | nil =>
                  cases kw with
                  | cons _ _ => exact no_of h
                  | nil =>
                    have h : (!g.hot && glB _ x && decide (x = "list") && glB _ y && decide (y = "reversed") && nst l && chk g a _ l) = true := h
                    obtain ⟨h1, h7⟩ := and2 h
                    obtain ⟨h1, h6⟩ := and2 h1
                    obtain ⟨h1, h5⟩ := and2 h1
                    obtain ⟨h1, h4⟩ := and2 h1
                    obtain ⟨h1, h3⟩ := and2 h1
                    obtain ⟨h1, h2⟩ := and2 h1
                    exact ⟨s_lrev c (not1 h1) h2 (dec1 h3) h4 (dec1 h5) h6 ((snd a).v c l h7), fun _ => rfl⟩
              · cases kw2 <;> exact no_of h
            | _ => exact no_of h
          | _ => exact no_of h
        · cases m with
          | Call fn2 args2 kw2 p2 =>
            cases fn2 with
            | Name y py => rcases args2 with _ | ⟨l, _ | ⟨_, _⟩⟩ <;> cases kw2 <;> exact no_of h
            | _ => exact no_of h
          | _ => exact no_of h
      | _ => exact no_of h
    | _ => exact no_of h
  | .allG i t a => .val fun {X W} c e h => by
    unfold chk at h
    split at h
    · obtain ⟨u, h11⟩ := and2 h
      obtain ⟨u, h10⟩ := and2 u
      obtain ⟨u, h9⟩ := and2 u
      obtain ⟨u, h8⟩ := and2 u
      obtain ⟨u, h7⟩ := and2 u
      obtain ⟨u, h6⟩ := and2 u
      obtain ⟨u, h5⟩ := and2 u
      obtain ⟨u, h4⟩ := and2 u
      obtain ⟨u, h3⟩ := and2 u
      obtain ⟨h1, h2⟩ := and2 u
      cases a with
      | var k => exact ⟨s_allG c (not1 h1) h2 h3 h4 (dec1 h5) h6 h7 h8 (i_lst c (s_var c h9)) fun X' c' es => (snd t).v c' _ (by rw [es]; exact h11), fun _ => rfl⟩
      | _ => exact no_of h10
    · exact no_of h
  | .lenO i => .val fun c e h => by
    cases e with
    | Call fn args kw p =>
      cases fn with
      | Name x px =>
        rcases args with _ | ⟨m, _ | ⟨_, _⟩⟩
        · exact no_of h
        · cases m with
          | Name y py =>
            cases kw with
            | cons _ _ => exact no_of h
            | nil =>
              have h : (glB _ x && decide (x = "len") && chkV g _ i y) = true := h
              obtain ⟨h1, h3⟩ := and2 h
              obtain ⟨h1, h2⟩ := and2 h1
              exact ⟨s_lenO c h1 (dec1 h2) h3, fun _ => rfl⟩
          | _ => exact no_of h
        · cases m <;> exact no_of h
      | _ => exact no_of h
    | _ => exact no_of h
  | .fmt a => .val fun c e h => by
    unfold chk at h
    split at h
    · refine ⟨(pe_fmt ((snd a).v c _ h)).imp fun σ H Q ⟨F, env, st, q⟩ => ⟨F, env, st, post_seq q fun d F1 H1 x e1 x1 rx q1 => ?_⟩, fun _ => rfl⟩
      cases d with
      | int i =>
        simp only [fmtR] at q1
        split at q1
        · rw [dp_int rx]
          exact .inr ⟨i, rfl, ‹_›, q1 F1 H1 _ (Ext.refl x1.fh) (.str _)⟩
        · exact q1.elim
      | str y =>
        simp only [fmtR] at q1
        split at q1
        · rw [dp_str rx]
          exact .inl ⟨y, rfl, ‹_›, q1 F1 H1 _ (Ext.refl x1.fh) (.str _)⟩
        · exact q1.elim
      | _ => exact q1.elim
    · exact no_of h
  | .fstr as => .val fun {X W} c e h => by
    unfold chk at h
    split at h
    · obtain ⟨ts, hp, hq⟩ := (snds as).fs c _ h
      refine ⟨(pe_joined hp).imp fun σ H Q ⟨F, env, st, q⟩ => hq Str.empty σ H _ ⟨F, env, st, post_seq q fun x F1 H1 v e1 x1 rx q1 => ?_⟩, fun _ => rfl⟩
      rw [show v = x from rx]
      exact q1 F1 H1 _ (Ext.refl x1.fh) (.str _)
    · exact no_of h
  | .isB ng b a => by
    have key : ∀ {X : Cx} {W : Wsh} (c : Ct P g X W Φ) (e : Expr), chk g (.isB ng b a) X.env.scope e = true → PE X e (rd P W (ev SS Φ (.isB ng b a))) ∧ PT X e (rdB P W (ev SS Φ (.isB ng b a))) := fun {X W} c e h => by
      unfold chk at h
      split at h
      · obtain ⟨u1, h3⟩ := and2 h
        obtain ⟨h1, h2⟩ := and2 u1
        obtain rfl := not1 h1
        obtain rfl := dec1 h2
        exact s_isB ((snd a).v c _ h3)
      · obtain ⟨u1, h3⟩ := and2 h
        obtain ⟨h1, h2⟩ := and2 u1
        subst h1
        obtain rfl := dec1 h2
        exact s_notB ((snd a).v c _ h3)
      · exact no_of h
    exact ⟨fun c e h => (key c e h).1, fun _ {X W} c e h => (key c e h).2⟩
  | .mxD mn a d => .val fun c e h => by
    unfold chk at h
    split at h
    · obtain ⟨u6, h7⟩ := and2 h
      obtain ⟨u5, h6⟩ := and2 u6
      obtain ⟨u4, h5⟩ := and2 u5
      obtain ⟨u3, h4⟩ := and2 u4
      obtain ⟨u2, h3⟩ := and2 u3
      obtain ⟨h1, h2⟩ := and2 u2
      obtain rfl := dec1 h4
      exact ⟨s_mxD c (not1 h1) h2 (dec1 h3) h5 ((snd a).v c _ h6) ((snd d).v c _ h7), fun _ => rfl⟩
    · exact no_of h
  | .gI i => .val fun c e h => by
    unfold chk at h
    split at h
    · exact ⟨s_gI c (and2 h).1 (dec1 (and2 h).2), fun _ => rfl⟩
    · exact no_of h
  | .ixO i b => .val fun c e h => by
    unfold chk at h
    split at h
    · obtain ⟨h1, h3⟩ := and2 h
      obtain ⟨h1, h2⟩ := and2 h1
      exact ⟨s_ixO c h1 h2 ((snd b).v c _ h3), fun _ => rfl⟩
    · exact no_of h
  | .isE i tb => .val fun c e h => by
    unfold chk at h
    split at h
    · obtain ⟨h1, h6⟩ := and2 h
      obtain ⟨h1, h5⟩ := and2 h1
      obtain ⟨h1, h4⟩ := and2 h1
      obtain ⟨h1, h3⟩ := and2 h1
      obtain ⟨h1, h2⟩ := and2 h1
      exact ⟨s_isE c h1 h2 (dec1 h3) h4 h5 (dec1 h6), fun _ => rfl⟩
    · exact no_of h
  | .isT i tbs => .val fun c e h => by
    unfold chk at h
    split at h
    · obtain ⟨h1, h5⟩ := and2 h
      obtain ⟨h1, h6⟩ := and2 h1
      obtain ⟨h1, h4⟩ := and2 h1
      obtain ⟨h1, h3⟩ := and2 h1
      obtain ⟨h1, h2⟩ := and2 h1
      exact ⟨s_isT c h1 h2 (dec1 h3) h4 h5 (dec1 h6), fun _ => rfl⟩
    · exact no_of h
theorem snds : ∀ ts : Exs, Snds P g Φ ts
  | .nil => ⟨fun c es h => by
      cases es with
      | nil => exact a_nil
      | cons _ _ => exact no_of h, fun c e es p h => no_of h, fun c e es p h => no_of h, fun _ {X W} c e es p h => no_of h, fun _ {X W} c e es p h => no_of h, fun c es h => by
      cases es with
      | nil => exact ⟨[], .nil, fun acc σ H Q ⟨F, env, st, q⟩ => q F H acc (Ext.refl st.same) rfl⟩
      | cons _ _ => exact no_of h⟩
  | .cons t ts => by
    have key : ∀ {sc : Scope} (e : Expr) (es : List Expr), chks g (.cons t ts) sc (e :: es) = true → nst e = true ∧ chk g t sc e = true ∧ chks g ts sc es = true := fun {sc} e es h => by
      have h : (nst e && chk g t sc e && chks g ts sc es) = true := h
      exact ⟨(and2 (and2 h).1).1, (and2 (and2 h).1).2, (and2 h).2⟩
    refine ⟨fun c es h => ?_, fun c e es p h => ?_, fun c e es p h => ?_, fun ht {X W} c e es p h => ?_, fun ht {X W} c e es p h => ?_, fun {X W} c es h => ?_⟩
    · cases es with
      | nil => exact no_of h
      | cons e es =>
        obtain ⟨h1, h2, h3⟩ := key e es h
        exact a_cons h1 ((snd t).v c e h2) ((snds ts).v c es h3)
    · obtain ⟨h1, h2, h3⟩ := key e es h
      cases ts with
      | nil =>
        cases es with
        | nil => exact s_and1 ((snd t).v c e h2)
        | cons _ _ => exact no_of h3
      | cons t2 ts =>
        cases es with
        | nil => exact no_of h3
        | cons e2 es => exact s_and ((snd t).v c e h2) ((snds (.cons t2 ts)).cj c e2 es p h3)
    · obtain ⟨h1, h2, h3⟩ := key e es h
      cases ts with
      | nil =>
        cases es with
        | nil => exact s_or1 ((snd t).v c e h2)
        | cons _ _ => exact no_of h3
      | cons t2 ts =>
        cases es with
        | nil => exact no_of h3
        | cons e2 es => exact s_or ((snd t).v c e h2) ((snds (.cons t2 ts)).dj c e2 es p h3)
    · obtain ⟨h1, h2, h3⟩ := key e es h
      have ht := and2 (show (tst t && tsts ts) = true from ht)
      cases ts with
      | nil =>
        cases es with
        | nil => exact T_and1 ((snd t).b ht.1 c e h2)
        | cons _ _ => exact no_of h3
      | cons t2 ts =>
        cases es with
        | nil => exact no_of h3
        | cons e2 es => exact T_and ((snd t).b ht.1 c e h2) ((snds (.cons t2 ts)).cb ht.2 c e2 es p h3)
    · obtain ⟨h1, h2, h3⟩ := key e es h
      have ht := and2 (show (tst t && tsts ts) = true from ht)
      cases ts with
      | nil =>
        cases es with
        | nil => exact T_or1 ((snd t).b ht.1 c e h2)
        | cons _ _ => exact no_of h3
      | cons t2 ts =>
        cases es with
        | nil => exact no_of h3
        | cons e2 es => exact T_or ((snd t).b ht.1 c e h2) ((snds (.cons t2 ts)).db ht.2 c e2 es p h3)
    · cases es with
      | nil => exact no_of h
      | cons e es =>
        obtain ⟨h1, h2, h3⟩ := key e es h
        obtain ⟨tl, hp, hq⟩ := (snds ts).fs c es h3
        refine ⟨_ :: tl, .cons ((snd t).v c e h2) hp, fun acc σ H Q ⟨F, env, st, q⟩ => ⟨F, env, st, post_seq q fun d F1 H1 x e1 x1 rx q1 => ?_⟩⟩
        cases d with
        | str y =>
          simp only at q1
          split at q1
          · rw [dp_str rx]
            exact ⟨y, rfl, ‹_›, hq _ _ _ _ ⟨F1, env, st.mono x1, q1⟩⟩
          · exact q1.elim
        | _ => exact q1.elim
theorem sndI : ∀ t : Itr, SndI P g Φ t
  | .lst a => ⟨fun c tg e pr hp h => ⟨i_lst c ((snd a).v c e (and2 h).2), set_of (and2 h).1⟩⟩
  | .tup a => ⟨fun c tg e pr hp h => ⟨i_tup c ((snd a).v c e (and2 h).2), set_of (and2 h).1⟩⟩
  | .rng a => ⟨fun c tg e pr hp h => by
    cases e with
    | Call fn args kw p =>
      cases fn with
      | Name x px =>
        rcases args with _ | ⟨l, _ | ⟨_, _⟩⟩
        · exact no_of h
        · cases kw with
          | cons _ _ => exact no_of h
          | nil =>
            have h : (glB _ x && decide (x = "range") && nst l && chk g a _ l) = true := h
            obtain ⟨h1, h4⟩ := and2 h
            obtain ⟨h1, h3⟩ := and2 h1
            obtain ⟨h1, h2⟩ := and2 h1
            exact ⟨i_rng c h1 (dec1 h2) h3 ((snd a).v c l h4), fun _ => rfl⟩
        · exact no_of h
      | _ => exact no_of h
    | _ => exact no_of h⟩
  | .rng2 a b => ⟨fun c tg e pr hp h => by
    cases e with
    | Call fn args kw p =>
      cases fn with
      | Name x px =>
        rcases args with _ | ⟨l, _ | ⟨r, _ | ⟨_, _⟩⟩⟩
        · exact no_of h
        · exact no_of h
        · cases kw with
          | cons _ _ => exact no_of h
          | nil =>
            have h : (glB _ x && decide (x = "range") && nst l && nst r && chk g a _ l && chk g b _ r) = true := h
            obtain ⟨h1, h6⟩ := and2 h
            obtain ⟨h1, h5⟩ := and2 h1
            obtain ⟨h1, h4⟩ := and2 h1
            obtain ⟨h1, h3⟩ := and2 h1
            obtain ⟨h1, h2⟩ := and2 h1
            exact ⟨i_rng2 c h1 (dec1 h2) h3 h4 ((snd a).v c l h5) ((snd b).v c r h6), fun _ => rfl⟩
        · exact no_of h
      | _ => exact no_of h
    | _ => exact no_of h⟩
  | .rrng a => ⟨fun c tg e pr hp h => by
    cases e with
    | Call fn args kw p =>
      cases fn with
      | Name x px =>
        rcases args with _ | ⟨m, _ | ⟨_, _⟩⟩
        · exact no_of h
        · cases m with
          | Call fn2 args2 kw2 p2 =>
            cases fn2 with
            | Name y py =>
              rcases args2 with _ | ⟨l, _ | ⟨_, _⟩⟩
              · exact no_of h
              · cases kw2 with
                | cons _ _ => exact no_of h
                | nil =>
                  cases kw with
                  | cons _ _ => exact no_of h
                  | nil =>
                    have h : (glB _ x && decide (x = "reversed") && glB _ y && decide (y = "range") && nst l && chk g a _ l) = true := h
                    obtain ⟨h1, h6⟩ := and2 h
                    obtain ⟨h1, h5⟩ := and2 h1
                    obtain ⟨h1, h4⟩ := and2 h1
                    obtain ⟨h1, h3⟩ := and2 h1
                    obtain ⟨h1, h2⟩ := and2 h1
                    exact ⟨i_rrng c h1 (dec1 h2) h3 (dec1 h4) h5 ((snd a).v c l h6), fun _ => rfl⟩
              · cases kw2 <;> exact no_of h
            | _ => exact no_of h
          | _ => exact no_of h
        · cases m with
          | Call fn2 args2 kw2 p2 =>
            cases fn2 with
            | Name y py => rcases args2 with _ | ⟨l, _ | ⟨_, _⟩⟩ <;> cases kw2 <;> exact no_of h
            | _ => exact no_of h
          | _ => exact no_of h
      | _ => exact no_of h
    | _ => exact no_of h⟩
  | .rev a => ⟨fun c tg e pr hp h => by
    cases e with
    | Call fn args kw p =>
      cases fn with
      | Name x px =>
        rcases args with _ | ⟨l, _ | ⟨_, _⟩⟩
        · exact no_of h
        · cases kw with
          | cons _ _ => exact no_of h
          | nil =>
            have h : (glB _ x && decide (x = "reversed") && nst l && chk g a _ l) = true := h
            obtain ⟨h1, h4⟩ := and2 h
            obtain ⟨h1, h3⟩ := and2 h1
            obtain ⟨h1, h2⟩ := and2 h1
            exact ⟨i_rev c h1 (dec1 h2) h3 ((snd a).v c l h4), fun _ => rfl⟩
        · exact no_of h
      | _ => exact no_of h
    | _ => exact no_of h⟩
  | .zip a b => ⟨fun c tg e pr hp h => by
    cases e with
    | Call fn args kw p =>
      cases fn with
      | Name x px =>
        rcases args with _ | ⟨l, _ | ⟨r, _ | ⟨_, _⟩⟩⟩
        · exact no_of h
        · exact no_of h
        · cases kw with
          | cons _ _ => exact no_of h
          | nil =>
            have h : (pr && glB _ x && decide (x = "zip") && nst l && nst r && chk g a _ l && chk g b _ r) = true := h
            obtain ⟨h1, h7⟩ := and2 h
            obtain ⟨h1, h6⟩ := and2 h1
            obtain ⟨h1, h5⟩ := and2 h1
            obtain ⟨h1, h4⟩ := and2 h1
            obtain ⟨h1, h3⟩ := and2 h1
            obtain ⟨h1, h2⟩ := and2 h1
            obtain ⟨es, k, p, rfl⟩ := hp h1
            exact ⟨i_zip c h2 (dec1 h3) h4 h5 ((snd a).v c l h6) ((snd b).v c r h7), fun _ => rfl⟩
        · exact no_of h
      | _ => exact no_of h
    | _ => exact no_of h⟩
  | .enm a => ⟨fun c tg e pr hp h => by
    cases e with
    | Call fn args kw p =>
      cases fn with
      | Name x px =>
        rcases args with _ | ⟨l, _ | ⟨_, _⟩⟩
        · exact no_of h
        · cases kw with
          | cons _ _ => exact no_of h
          | nil =>
            have h : (pr && glB _ x && decide (x = "enumerate") && nst l && chk g a _ l) = true := h
            obtain ⟨h1, h5⟩ := and2 h
            obtain ⟨h1, h4⟩ := and2 h1
            obtain ⟨h1, h3⟩ := and2 h1
            obtain ⟨h1, h2⟩ := and2 h1
            obtain ⟨es, k, p, rfl⟩ := hp h1
            exact ⟨i_enm c h2 (dec1 h3) h4 ((snd a).v c l h5), fun _ => rfl⟩
        · exact no_of h
      | _ => exact no_of h
    | _ => exact no_of h⟩
  | .enS a b => ⟨fun c tg e pr hp h => by
    unfold chkI at h
    split at h
    · obtain ⟨h1, h8⟩ := and2 h
      obtain ⟨h1, h7⟩ := and2 h1
      obtain ⟨h1, h6⟩ := and2 h1
      obtain ⟨h1, h5⟩ := and2 h1
      obtain ⟨h1, h4⟩ := and2 h1
      obtain ⟨h1, h3⟩ := and2 h1
      obtain ⟨h1, h2⟩ := and2 h1
      obtain ⟨es, k, p, rfl⟩ := hp h1
      obtain rfl := dec1 h4
      exact ⟨i_enS c h2 (dec1 h3) h5 ((snd a).v c _ h7) ((snd b).v c _ h8), fun _ => rfl⟩
    · exact no_of h⟩
end
end Q

set_option Elab.async false
set_option linter.all false
set_option maxRecDepth 100000
set_option autoImplicit false
set_option maxHeartbeats 8000000
namespace Q
open PySem PySem.Spec PyProof.Rows L2

/-! ### the text of statements -/
def locN (g : Cfg) (sc : Scope) (i : Nat) (x : Str) : Bool := decide (g.N[i]? = some x) && locB sc x
/-- a name that may be set: a local, or one that a comprehension reads -/
def stoB (sc : Scope) (x : Str) : Bool := match sc.names.lookup x with
  | some .local => true
  | some .cell => true
  | _ => false
def stoN (g : Cfg) (sc : Scope) (i : Nat) (x : Str) : Bool := decide (g.N[i]? = some x) && stoB sc x
def nlc : Expr → Bool
  | .ListComp _ _ _ _ => false
  | .SetComp _ _ _ _ => false
  | .DictComp _ _ _ _ _ => false
  | _ => true
def isOwn : Ex → Bool
  | .lst _ => true
  | .blt .list _ .nil => true
  | _ => false
def handB (g : Cfg) (k : Nat) (sc : Scope) (x : Str) : Bool := !g.hot && glB sc x && decide (g.cs[k]? = some x)
def chkP1 (g : Cfg) : P1 → Scope → Pattern → Bool
  | .s x, _, p => (match p with | .MatchValue (.Constant (.str y) _ _) _ => decide (x = y) | _ => false)
  | .v i, sc, p => (match p with | .MatchAs none (some x) _ => locN g sc i x | _ => false)
  | .w, _, p => (match p with | .MatchAs none none _ => true | _ => false)
def chkNs (g : Cfg) (sc : Scope) : List Nat → List Expr → Bool
  | [], l => (match l with | [] => true | _ => false)
  | i :: is, l => (match l with | .Name x _ :: r => locN g sc i x && chkNs g sc is r | _ => false)
def notTup : Expr → Bool
  | .Tuple _ _ _ => false
  | _ => true
def chkPs (g : Cfg) : List P1 → Scope → List Pattern → Bool
  | [], _, l => (match l with | [] => true | _ => false)
  | q :: qs, sc, l => (match l with | p :: r => chkP1 g q sc p && chkPs g qs sc r | [] => false)
def wildAll (ps : List Pattern) : Bool := ps.all fun p => p.isWildcard || (p.isStar && p.names.isEmpty)
def chkPt (g : Cfg) : Pt → Scope → Pattern → Bool
  | .one q, sc, p => chkP1 g q sc p
  | .seq qs, sc, p => (match p with | .MatchSequence ps _ => chkPs g qs sc ps && !(wildAll ps) && decide (qs.length ≤ 1000) | _ => false)
mutual
def chkS (g : Cfg) : St → Scope → Stmt → Bool
  | .set i e, sc, s => (match s with | .Assign [.Name x _] v _ => stoN g sc i x && nlc v && chk g e sc v | _ => false)
  | .setC i e, sc, s => (match s with
      | .Assign [.Name x px] (.ListComp el [⟨.Name y py, itr, [], 0⟩] scope pc) _ => (match e with
        | .comp j t it => locN g sc i x && (px.line == pc.line) && !(scope.names.any fun (n, k) => n == x && (k == .local || k == .cell)) && !g.cmp && blkC g.N sc scope [(y, j)] && locB (relS scope sc) y && chkI g it false sc itr && chk g t (relS scope sc) el
        | _ => false)
      | _ => false)
  | .own i e, sc, s => (match s with | .Assign [.Name x _] v _ => locN g sc i x && nlc v && isOwn e && chk g e sc v | _ => false)
  | .frz _, _, _ => false
  | .app i e, sc, s => (match s with
      | .Expr (.Call (.Attribute (.Name x _) n ap) [a] [] cp) _ => chkV g sc i x && decide (n = "append") && (ap.endLine == cp.line) && nst a && chk g e sc a
      | _ => false)
  | .ext i e, sc, s => (match s with
      | .Expr (.Call (.Attribute (.Name x _) n ap) [a] [] cp) _ => chkV g sc i x && decide (n = "extend") && (ap.endLine == cp.line) && nst a && chk g e sc a
      | _ => false)
  | .put i j e, sc, s => (match s with
      | .Assign [.Subscript (.Name x _) k _] v _ => chkV g sc i x && nsl k && nlc v && chk g j sc k && chk g e sc v
      | _ => false)
  | .ret e, sc, s => (match s with
      | .Return (some v) _ => chk g e sc v
      | .Return none _ => isCN e
      | _ => false)
  | .retO i, sc, s => (match s with | .Return (some (.Name x _)) _ => chkV g sc i x | _ => false)
  | .exp e, sc, s => (match s with | .Expr v _ => nlc v && chk g e sc v | _ => false)
  | .doc, sc, s => (match s with | .Expr (.Constant (.str _) _ _) _ => true | _ => false)
  | .pas, sc, s => (match s with | .Pass _ => true | _ => false)
  | .brk, sc, s => (match s with | .Break _ => true | _ => false)
  | .cnt, sc, s => (match s with | .Continue _ => true | _ => false)
  | .ifs c a b, sc, s => (match s with | .If t x y _ => tst c && chk g c sc t && chkSs g a sc x && chkSs g b sc y | _ => false)
  | .forI i it b, sc, s => (match s with | .For (.Name x _) l y [] _ => !g.hot && locN g sc i x && chkI g it false sc l && chkSs g b sc y | _ => false)
  | .for2 i j it b, sc, s => (match s with | .For (.Tuple [.Name x _, .Name z _] _ _) l y [] _ => !g.hot && locN g sc i x && locN g sc j z && chkI g it true sc l && chkSs g b sc y | _ => false)
  | .whl c b, sc, s => (match s with | .While t y [] _ => tst c && chk g c sc t && chkSs g b sc y | _ => false)
  | .rse k e, sc, s => (match s with
      | .Raise (some (.Call (.Name x _) [a] [] _)) none _ => !g.hot && glB sc x && decide (g.rs[k]? = some x) && nst a && chk g e sc a
      | _ => false)
  | .tryO b k h, sc, s => (match s with
      | .Try y [.ExceptHandler (some (.Name x _)) none (z :: zs) _] [] [] _ => handB g k sc x && chkSs g b sc y && chkSs { g with hot := true } h sc (z :: zs)
      | _ => false)
  | .tryA b k i h, sc, s => (match s with
      | .Try y [.ExceptHandler (some (.Name x _)) (some n) (z :: zs) _] [] [] _ => handB g k sc x && locN g sc i n && chkSs g b sc y && chkSs { g with hot := true } h sc (z :: zs)
      | _ => false)
  | .mat e cs, sc, s => (match s with | .Match v l _ => !g.hot && chk g e sc v && chkMs g cs sc l | _ => false)
  | .aug ng i e, sc, s => (match s with
      | .AugAssign (.Name x _) .Add v _ => !ng && locN g sc i x && chk g e sc v
      | .AugAssign (.Name x _) .Sub v _ => ng && locN g sc i x && chk g e sc v
      | _ => false)
  | .unp is e, sc, s => (match s with | .Assign [.Tuple ns _ _] v _ => !g.hot && chkNs g sc is ns && notTup v && nlc v && chk g e sc v | _ => false)
  | .ownC i f a as, sc, s => (match s with
      | .Assign [.Name x _] (.Call (.Name y _) (l :: ls) [] _) _ => locN g sc i x && !g.hot && glB sc y && decide (g.fs[f]? = some (y, ls.length + 1)) && nst l && chk g a sc l && chks g as sc ls
      | _ => false)
  | .tryM b hs, sc, s => (match s with | .Try y (z :: zs) [] [] _ => !g.hot && chkSs g b sc y && chkHs g hs sc (z :: zs) | _ => false)
def chkHs (g : Cfg) : Hds → Scope → List ExceptHandler → Bool
  | .nil, _, l => (match l with | [] => true | _ => false)
  | .cons k o h r, sc, l => (match l with
      | .ExceptHandler (some (.Name x _)) n (z :: zs) _ :: rest => handB g k sc x && (match o, n with
          | none, none => true
          | some i, some n => locN g sc i n
          | _, _ => false) && chkSs { g with hot := true } h sc (z :: zs) && chkHs g r sc rest
      | _ => false)
def chkMs (g : Cfg) : Mcs → Scope → List MatchCase → Bool
  | .nil, _, l => (match l with | [] => true | _ => false)
  | .cons q b r, sc, l => (match l with | ⟨p, none, body⟩ :: rest => chkPt g q sc p && chkSs g b sc body && chkMs g r sc rest | _ => false)
def chkSs (g : Cfg) : Sts → Scope → List Stmt → Bool
  | .nil, _, l => (match l with | [] => true | _ => false)
  | .cons s ss, sc, l => (match s with
      | .frz _ => chkSs g ss sc l
      | _ => (match l with | x :: r => chkS g s sc x && chkSs g ss sc r | [] => false))
end

/-! ### what is wanted behind a statement -/
def goal (P : Par) (W : Wsh) (D : Ends) (B : Hp) : Fl → Prop
  | .nx env => ∀ σ F H, Sta P F H σ env → Same B F → D.nx σ H
  | .bk env => ∀ σ F H, Sta P F H σ env → Same B F → D.bk σ H
  | .ct env => ∀ σ F H, Sta P F H σ env → Same B F → D.ct σ H
  | .rt (.fr d) => ∀ F H v, Ext P.F0 P.H0 F H → Same B F → Dp P.K F v d → D.rt v H
  | .rt (.ow ds) => ∀ F H p vs, Ext P.F0 P.H0 F H → Same B F → P.H0 p = none → F p = none → H p = some (.lst vs) → DpAll P.K F vs ds → D.rt (.ref p) H
  | .rt (.er _) => False
  | .xc k env => ∀ σ F H, Sta P F H σ env → Same B F → W k σ H
  | .bad => False
def rdS (P : Par) (W : Wsh) (f : Env → Fl) : TS := fun D σ H => ∃ B F env, Sta P F H σ env ∧ Same B F ∧ goal P W D B (f env)
theorem goal_up {P : Par} {W : Wsh} {D : Ends} {B B' : Hp} (s : Same B B') : ∀ {r : Fl}, goal P W D B r → goal P W D B' r
  | .nx _, h => fun σ F H st sb => h σ F H st (s.trans sb)
  | .bk _, h => fun σ F H st sb => h σ F H st (s.trans sb)
  | .ct _, h => fun σ F H st sb => h σ F H st (s.trans sb)
  | .xc _ _, h => fun σ F H st sb => h σ F H st (s.trans sb)
  | .rt (.fr _), h => fun F H v x sb => h F H v x (s.trans sb)
  | .rt (.ow _), h => fun F H p vs x sb => h F H p vs x (s.trans sb)
  | .rt (.er _), h => h
  | .bad, h => h
/-- a context that differs in its ends: what goes on, goes on -/
theorem goal_imp {P : Par} {W : Wsh} {D D' : Ends} {B : Hp} {r r' : Fl} (h : goal P W D B r') (hrt : ∀ v H, D.rt v H → D'.rt v H)
    (hr : match r with
      | .nx e => ∀ σ F H, Sta P F H σ e → Same B F → goal P W D B r' → D'.nx σ H
      | .bk e => ∀ σ F H, Sta P F H σ e → Same B F → goal P W D B r' → D'.bk σ H
      | .ct e => ∀ σ F H, Sta P F H σ e → Same B F → goal P W D B r' → D'.ct σ H
      | r => r' = r) : goal P W D' B r := by
  cases r with
  | nx e => exact fun σ F H st sb => hr σ F H st sb h
  | bk e => exact fun σ F H st sb => hr σ F H st sb h
  | ct e => exact fun σ F H st sb => hr σ F H st sb h
  | xc k e =>
    have hr : r' = .xc k e := hr
    subst hr
    exact h
  | bad =>
    have hr : r' = .bad := hr
    subst hr
    exact h
  | rt s =>
    have hr : r' = .rt s := hr
    subst hr
    cases s with
    | fr d => exact fun F H v x sb r => hrt _ _ (h F H v x sb r)
    | ow d => exact fun F H p vs x sb a b c d => hrt _ _ (h F H p vs x sb a b c d)
    | er k => exact h
section
variable {P : Par} {W : Wsh} {D : Ends} {B F H : Hp} {σ : L2.St} {env : Env}
theorem post_exR {α β : Type} {Rl : Hp → β → α → Prop} {r : Rs α} {f : α → Fl} {Q : β → Hp → Prop} (st : Sta P F H σ env) (sb : Same B F) (q : goal P W D B (exR r env f))
    (k : ∀ d F' H' v, r = .ok d → Ext F H F' H' → Rl F' v d → goal P W D B (f d) → Q v H') : post Rl W σ F H r Q := by
  cases r with
  | ok d => exact fun F' H' v e r => k d F' H' v rfl e r q
  | exc j => exact fun F' H' e => q σ F' H' (st.mono e) (sb.trans e.ff)
  | bad => exact q
theorem none_of {H H' : Hp} (s : Same H H') {p : Addr} (h : H' p = none) : H p = none := by
  cases e : H p with
  | none => rfl
  | some o =>
    have := s p o e
    rw [h] at this
    cases this
theorem Sta.ownNew (st : Sta P F H σ env) {i : Nat} {p : Addr} {vs : List V} {ds : List PyData} (hp : H p = none) (hd : DpAll P.K F vs ds) : Sta P F (upd H p (.lst vs)) (σ.set i (some (.ref p))) (env.set i (some (.ow ds))) := by
  refine (st.mono (Ext.newO st.same hp)).putO (st.ext.hh.non hp) (none_of st.same hp) upd_same hd fun j ne es e1 e2 => ?_
  obtain ⟨p', vs', e3, h0, h1, h2, h3⟩ := st.sl j _ e1
  rw [e2] at e3
  cases e3
  rw [hp] at h2
  cases h2
/-- the loop's body is done -/
theorem goal_loop {r : Fl} {lp : Env → Fl} {N : L2.St → Hp → Prop} (q : goal P W D B (match r with
      | .nx e => lp e
      | .ct e => lp e
      | .bk e => .nx e
      | .rt s => .rt s
      | .xc k e => .xc k e
      | .bad => .bad)) (hN : ∀ σ F H e, Sta P F H σ e → Same B F → goal P W D B (lp e) → N σ H) : goal P W { D with nx := N, ct := N, bk := D.nx } B r := by
  cases r with
  | nx e => exact fun σ F H st sb => hN σ F H e st sb q
  | ct e => exact fun σ F H st sb => hN σ F H e st sb q
  | bk e => exact q
  | rt s => cases s <;> exact q
  | xc k e => exact q
  | bad => exact q
end

/-! ### where statements stand -/
def wxOf (P : Par) (W : Wsh) : L2.WX := fun cls d σ H => ∃ k, cls = P.cls k ∧ d = none ∧ W k σ H
structure Sc (P : Par) (g : Cfg) (sub : Nat → Nat → Bool) (X : Cx) (W : Wsh) (Φ : Fns) : Prop where
  ct : Ct P g X W Φ
  po : PassesOwn (model X.prog X.w) X.A X.env X.xe
  tk : L2.Takes X (wxOf P W)
  stk : X.stack = X.env :: X.outer
  fr : X.env.frame = some X.env.locals
  fn : ∀ x, X.fn x = true
  nm : ∀ (k : Nat) (x : Str), g.cs[k]? = some x → (x == ("__debug__" : Str)) = false ∧ ∃ cv, (X.mg x = some cv ∨ (X.mg x = none ∧ bootBuiltins x = some cv ∧ x ≠ "__name__")) ∧ ∀ j, PySem.W.exmOne X.K (P.cls j) cv = some (sub j k)
  rz : ∀ (k : Nat) (x : Str), g.rs[k]? = some x → ∃ (C : Addr) (bmB : List Value) (Bs newId initId : String), P.cls k = .ref C ∧ X.mg x = some (.ref C) ∧ ExcBaseFacts Bs newId initId bmB ∧ PySem.W.excIn X.K C bmB newId = true ∧ PySem.W.keepIn X.K (.ref C) = true ∧ Raises X (.ref C)
  /-- an error's class, for isinstance -/
  ex : ∀ (k0 : Nat) (x : Str), g.cs[k0]? = some x → ∀ k, ∃ C, P.cls k = .ref C ∧ ExcC X.K C
/-- another wish about errors -/
theorem Sc.tr {P : Par} {g : Cfg} {sub : Nat → Nat → Bool} {X : Cx} {W : Wsh} {Φ : Fns} (c : Sc P g sub X W Φ) (hh : g.hot = false) {W' : Wsh} (pn : List (Addr × Obj)) {xe : Value → Shared → Prop} (tk : L2.Takes (X.tr pn xe) (wxOf P W')) (po : PassesOwn (model X.prog X.w) X.A X.env xe) : Sc P g sub (X.tr pn xe) W' Φ :=
  ⟨⟨c.ct.n, c.ct.nd, c.ct.k, c.ct.bl, c.ct.calm, c.ct.un, c.ct.fns, fun z => absurd (hh.symm.trans z) Bool.false_ne_true, c.ct.gi, c.ct.is, c.ct.es, fun σ => passAt tk σ, c.ct.tb, c.ct.gc⟩, po, tk, c.stk, c.fr, c.fn, c.nm, c.rz, c.ex⟩
/-- an except suite -/
theorem Sc.suite {P : Par} {g : Cfg} {sub : Nat → Nat → Bool} {X : Cx} {W : Wsh} {Φ : Fns} (c : Sc P g sub X W Φ) {a : Addr} {pn : List (Addr × Obj)} (ER : Addr → Nat → Prop) (hE : ∀ b k, ER b k → ∃ oe C, (b, oe) ∈ pn ∧ P.cls k = .ref C ∧ ExcC X.K C ∧ Zc (.ref C) none oe ∧ ∃ vs, oe.data = .fields vs)
    : Sc { P with ER := ER } { g with hot := true } sub (X.suite a pn) Wno Φ :=
  ⟨⟨c.ct.n, c.ct.nd, c.ct.k, c.ct.bl, fun z => absurd (show true = false from z) (fun z => nomatch z), c.ct.un, fun z => absurd (show true = false from z) (fun z => nomatch z), fun _ b k h => hE b k h, c.ct.gi, c.ct.is, fun y tb h => (by obtain ⟨f, fd, ps, k, a1, a2, a3, r, F⟩ := c.ct.es y tb h; exact ⟨f, fd, ps, k, a1, a2, a3, ⟨r.dp, r.un⟩, F⟩), fun σ pins H s e s' I h => by
    obtain ⟨_, _, _, _, _, _, _, _, _, _, _, _, _, _, _, z⟩ := h
    exact z.elim, c.ct.tb, fun z => absurd (show true = false from z) (fun z => nomatch z)⟩, PassesOwn.never, takes_none5.imp (fun _ _ _ _ ⟨_, _, _, w⟩ => w), c.stk, c.fr, c.fn, c.nm, c.rz, c.ex⟩
end Q

set_option Elab.async false
set_option linter.all false
set_option maxRecDepth 100000
set_option autoImplicit false
set_option maxHeartbeats 8000000
namespace Q
open PySem PySem.Spec PyProof.Rows L2
section
variable {P : Par} {g : Cfg} {sub : Nat → Nat → Bool} {X : Cx} {W : Wsh} {Φ : Fns} {L : Nat} {e l r z : Expr} {es : List Expr} {pos : Pos} {x : Str} {i : Nat}
theorem locN_of (c : Ct P g X W Φ) (h : locN g X.env.scope i x = true) : X.N[i]? = some x ∧ X.env.scope.names.lookup x = some .local := by
  unfold locN at h
  rw [Bool.and_eq_true, decide_eq_true_eq] at h
  exact ⟨by rw [c.n]; exact h.1, loc_of h.2⟩
theorem nd_of (c : Ct P g X W Φ) : X.N.Nodup := by rw [c.n]; exact c.nd
theorem sw_no {l : Nat} {env : PySem.Env} {t : Option Expr} (h : nlc e = true) : swapsWith e t l env = pure false := by
  cases e <;> first | rfl | exact absurd h Bool.false_ne_true
theorem v_of (c : Ct P g X W Φ) {p : Pos} (h : chkV g X.env.scope i x = true) : PE X (.Name x p) (tVar i) := by
  unfold chkV at h
  rw [Bool.and_eq_true, Bool.and_eq_true, decide_eq_true_eq] at h
  obtain ⟨a, b, _⟩ := okN_of h.2
  exact pe_var (by rw [c.n]; exact h.1.1) (vis_of h.1.2) a b
theorem stoN_of (c : Ct P g X W Φ) (h : stoN g X.env.scope i x = true) : X.N[i]? = some x ∧ Loc X.env.scope x := by
  unfold stoN at h
  rw [Bool.and_eq_true, decide_eq_true_eq] at h
  refine ⟨by rw [c.n]; exact h.1, ?_⟩
  have h2 := h.2
  unfold stoB at h2
  split at h2
  · exact .inl ‹_›
  · exact .inr ‹_›
  · cases h2
theorem S_set (c : Sc P g sub X W Φ) {f : Env → Rs D} {p : Pos} (hi : stoN g X.env.scope i x = true) (hn : nlc e = true) (he : PE X e (rd P W f)) :
    PS X (.Assign [.Name x p] e pos) (rdS P W fun env => exR (f env) env fun d => .nx (env.set i (some (.fr d)))) := by
  obtain ⟨h1, h2⟩ := stoN_of c.ct hi
  refine (ps_set (nd_of c.ct) h1 h2 he (sw_no hn) (.inl (c.fn x))).imp fun D σ H ⟨B, F, env, st, sb, q⟩ => ⟨F, env, st, post_exR st sb q fun d F' H' v e1 x1 rv q1 => ?_⟩
  exact q1 _ F' H' ((st.mono x1).putD rv) (sb.trans x1.ff)
theorem S_setC (c : Sc P g sub X W Φ) {j : Nat} {y : Str} {p py pc : Pos} {itr el : Expr} {scope : Scope} {fl : Env → Rs (List D)} {f : Env → Rs D} (hi : locN g X.env.scope i x = true) (hl : (p.line == pc.line) = true)
    (ha : (scope.names.any fun (n, k) => n == x && (k == .local || k == .cell)) = false) (hh : g.cmp = false) (hb : blkC g.N X.env.scope scope [(y, j)] = true) (hy : locB (relS scope X.env.scope) y = true)
    (hI : PI X (.Name y py) itr (rdI P W fl)) (hset : ∀ y, foldedSetIterable itr X.env y = pure y) (he : ∀ X', Ct P g X' Wno Φ → X'.env.scope = relS scope X.env.scope → PE X' el (rd P Wno f)) (hk : X.env.scope.kind = .function) :
    PS X (.Assign [.Name x p] (.ListComp el [⟨.Name y py, itr, [], 0⟩] scope pc) pos) (rdS P W fun env => exR ((fl env).bind fun ds => if ds.length ≤ szl then (mapR (fun d => (f (env.set j (some (.fr d)))).cold) ds).bind fun ys => .ok (.list ys) else .bad) env fun d => .nx (env.set i (some (.fr d)))) := by
  obtain ⟨h1, h2⟩ := locN_of c.ct hi
  obtain ⟨hh, hge⟩ := cmp_of hh
  have ok : BlkOk X.N X.env.scope scope [(y, j)] := blkOk_by (by rw [c.ct.n]; exact hb)
  have hx : (relS scope X.env.scope).names.lookup y = some .local := loc_of hy
  have hN := nd_of c.ct
  by_cases hpl : (p.line == pc.line) = true
  · have hsw : swapsWith (.ListComp el [⟨.Name y py, itr, [], 0⟩] scope pc) (some (.Name x p)) pos.line X.env = pure true := sw_true hk h2 hl ha
    refine (ps_setLc (own := [(y, j)]) (g := gName j) (tt := tYes) (te := rd P Wno f) (c.ct.calm hh) hN h1 h2 hsw hI ok (fun s H C cl fp => pg_name hN (ok.ix (y, j) (List.mem_cons_self)) (.inl hx) (.inr hx)) (fun _ _ _ _ _ => pts_nil)
      (fun s H C cl fp => he _ (c.ct.blk hh hge s H scope _ fp) rfl) hset).imp fun D σ H ⟨B, F, env, st, sb, q⟩ => comp_in ⟨F, env, st, post_exR st sb q fun d F' H' v e1 x1 rv q1 => ?_⟩
    exact q1 _ F' H' ((st.mono x1).putD rv) (sb.trans x1.ff)
  · exact absurd hl hpl
theorem S_own (c : Sc P g sub X W Φ) {p : Pos} {f : Env → Rs D} (hi : locN g X.env.scope i x = true) (hn : nlc e = true) (he : PE X e (fun σ H Q => ∃ F env, Sta P F H σ env ∧ post (fun F' (v : List V) d => ∃ ds, d = .list ds ∧ DpAll P.K F' v ds) W σ F H (f env) fun vs H' => ∀ p, H' p = none → Q (.ref p) (upd H' p (.lst vs)))) :
    PS X (.Assign [.Name x p] e pos) (rdS P W fun env => exR (f env) env fun d => (match d with | .list ds => .nx (env.set i (some (.ow ds))) | _ => .bad)) := by
  obtain ⟨h1, h2⟩ := locN_of c.ct hi
  refine (ps_set (nd_of c.ct) h1 (.inl h2) he (sw_no hn) (.inr h2)).imp fun D σ H ⟨B, F, env, st, sb, q⟩ => ⟨F, env, st, post_exR st sb q fun d F' H' v e1 x1 rv q1 p hp => ?_⟩
  obtain ⟨ds, rfl, hd⟩ := rv
  exact q1 _ F' _ ((st.mono x1).ownNew hp hd) (sb.trans x1.ff)
theorem own_lst {as : Exs} {p : Pos} (ha : PA X es (rds P W (evs SS Φ as))) : PE X (.List es p) (fun σ H Q => ∃ F env, Sta P F H σ env ∧ post (fun F' (v : List V) d => ∃ ds, d = .list ds ∧ DpAll P.K F' v ds) W σ F H (ev SS Φ (.lst as) env) fun vs H' => ∀ p, H' p = none → Q (.ref p) (upd H' p (.lst vs))) := by
  refine (pe_lst ha).imp fun σ H Q ⟨F, env, st, q⟩ => ⟨F, env, st, ?_⟩
  have q : post (fun F' (v : List V) d => ∃ ds, d = .list ds ∧ DpAll P.K F' v ds) W σ F H ((evs SS Φ as env).bind fun xs => if xs.length ≤ szl then .ok (PyData.list xs) else .bad) fun vs H' => ∀ p, H' p = none → Q (.ref p) (upd H' p (.lst vs)) := q
  refine post_seq q fun ds F1 H1 xs e1 x1 rx q1 => ?_
  split at q1
  · rename_i hz
    exact ⟨by rw [dps_len rx]; exact hz, q1 F1 H1 xs (Ext.refl x1.fh) ⟨ds, rfl, rx⟩⟩
  · exact q1.elim
theorem own_list (c : Ct P g X W Φ) {a : Ex} {p pf : Pos} (hx : glB X.env.scope x = true) (ex : x = "list") (hs : nst l = true) (ha : PE X l (rd P W (ev SS Φ a))) : PE X (.Call (.Name x pf) [l] [] p) (fun σ H Q => ∃ F env, Sta P F H σ env ∧ post (fun F' (v : List V) d => ∃ ds, d = .list ds ∧ DpAll P.K F' v ds) W σ F H (ev SS Φ (.blt .list a .nil) env) fun vs H' => ∀ p, H' p = none → Q (.ref p) (upd H' p (.lst vs))) := by
  obtain ⟨gx, dx, nx⟩ := gl_of hx
  refine (pe_callTy call_list_of gx (c.bl x (by subst ex; decide)) (by subst ex; exact boot_list) (pa_cons ha pa_nil (star_of hs)) nx dx (star_of hs) rfl).imp fun σ H Q ⟨F, env, st, q⟩ => ⟨F, env, st, ?_⟩
  have q : post (fun F' (v : List V) d => ∃ ds, d = .list ds ∧ DpAll P.K F' v ds) W σ F H ((ev SS Φ a env).bind fun x => bltR .list [x]) fun vs H' => ∀ p, H' p = none → Q (.ref p) (upd H' p (.lst vs)) := q
  refine post_seq q fun d F1 H1 v e1 x1 rx q1 => ?_
  cases d with
  | list ds =>
    obtain ⟨a, vs, rfl, qa, da⟩ := dp_lst rx
    rw [← c.k] at qa
    exact ⟨a, vs, rfl, .inl (x1.fh.seq qa), q1 F1 H1 vs (Ext.refl x1.fh) ⟨ds, rfl, da⟩⟩
  | tuple ds =>
    obtain ⟨a, vs, rfl, qa, da⟩ := dp_tup rx
    rw [← c.k] at qa
    exact ⟨a, vs, rfl, .inr (same_seqT x1.fh qa), q1 F1 H1 vs (Ext.refl x1.fh) ⟨ds, rfl, da⟩⟩
  | _ => exact q1.elim
theorem S_app (c : Sc P g sub X W Φ) {f : Env → Rs D} {n : Str} {p ap cp : Pos} (hv : chkV g X.env.scope i x = true) (en : n = "append") (hl : (ap.endLine == cp.line) = true) (hs : nst e = true) (he : PE X e (rd P W f)) :
    PS X (.Expr (.Call (.Attribute (.Name x p) n ap) [e] [] cp) pos) (rdS P W fun env => (match env[i]? with | some (some (.ow ds)) => exR (f env) env fun d => if ds.length < szl then .nx (env.set i (some (.ow (ds ++ [d])))) else .bad | _ => .bad)) := by
  subst en
  refine (ps_expr (pe_bm PySem.F.plainAttrs_list PySem.F.slot_list_append PySem.F.type_list_append mt_append (v_of c.ct hv) (pa_cons he pa_nil (star_of hs)) rfl (by rw [star_of hs]; rfl) hl (star_of hs) rfl)).imp fun D σ H ⟨B, F, env, st, sb, q⟩ => ?_
  dsimp only at q
  split at q
  case h_2 => exact q.elim
  rename_i ds e1
  obtain ⟨p, vs, e2, h0, h1, h2, h3⟩ := st.sl i _ e1
  refine ⟨_, e2, .inl ⟨rfl, vs, .of h2⟩, F, env, st, post_exR st sb q fun d F' H' v ef x1 rv q1 => ?_⟩
  split at q1
  case isFalse => exact q1.elim
  rename_i hz
  have st1 := st.mono x1
  obtain ⟨p', vs', e3, h4, h5, st2⟩ := st1.chg (es := ds ++ [d]) e1
  rw [e2] at e3
  cases e3
  exact ⟨p, vs', v, rfl, rfl, h4, by rw [dps_len h5]; exact hz, q1 _ _ _ (st2 _ (dps_app h5 (.cons rv .nil))) (sb.trans x1.ff)⟩
theorem list_extW (l : Addr) (items : Array Value) (n : Nat) (b : Addr) (items2 : Array Value) (n2 : Nat) (dd : Option Addr) (sl : Array (Option Value)) (hc0 : ¬(!items.isEmpty && Builtin.List.listTooLong (items.size + items2.size)) = true) (hc1 : items.size ≤ sizeLine) (hs2 : items.size + items2.size ≤ sizeLine + 1) :
    Meets (Builtin.«list.extend» ⟨[.ref l, .ref b], []⟩) (fun _ R s => s.heap.get? l = some { cls := .type "list", dict := none, data := .seq items n, slots := #[] } ∧ s.heap.get? b = some { cls := .type "list", dict := dd, data := .seq items2 n2, slots := sl } ∧ R (.ok (.ret Value.none)) { s with heap := s.heap.update l (Obj.mapSeq fun x => x ++ items2), toks := s.toks }) :=
  .of_wp fun prog w A R s h => by
    obtain ⟨hp, g, d, tk, os⟩ := s; obtain ⟨hl, hb, h⟩ := h; have f1 := AutoSeq1.idx_int; have f2 := AutoSeq1.sub_tuple_tuple; have f3 := AutoSeq1.sub_list_list; have f4 := AutoSeq1.sub_tuple_list; have f5 := AutoSeq1.sub_list_tuple
    have hz' : (items ++ items2).size ≤ sizeLine + 1 := by rw [Array.size_append]; exact hs2
    wp_walk using (wpAny_updateSeq hl rfl (hz := hc1) (_hz' := hz')), AutoSeq1.wpAny_loadPart' hl, AutoSeq1.wpAny_loadPart' hb; exact ⟨_, rfl, h⟩
def rExtA (K : PySem.W.Frag) : V → List V → Hp → VK → Prop := fun x vs H Q => ∃ l b xs zs, x = .ref l ∧ vs = [.ref b] ∧ H l = some (.lst xs) ∧ SqL K H b zs ∧ xs.length + zs.length ≤ sizeLine ∧ Q .non (upd H l (.lst (xs ++ zs)))
theorem mt_extA {X : Cx} : MtM X "list.extend" (rExtA X.K) := by
  intro pins s σ H x vs v us Q I rx rv h
  obtain ⟨l, b, xs, zs, rfl, rfl, hH, hB, hz, q⟩ := h
  cases rx
  obtain ⟨u, rfl, ru⟩ := rv.one
  cases ru
  obtain ⟨z, its, n, r, hl, e⟩ := I.lstM hH
  obtain ⟨its2, r2, ⟨o2, n2, e2, d1, d2, d3⟩, z2⟩ := I.list hB
  have hl2 := r2.length
  obtain ⟨oc2, od2, odt2, osl2⟩ := o2
  dsimp only at d1 d2 d3
  subst d1 d2 d3
  have hsz : its.toArray.size + its2.toArray.size ≤ sizeLine := by rw [List.size_toArray, List.size_toArray]; omega
  have hlong : ¬ (!its.toArray.isEmpty && Builtin.List.listTooLong (its.toArray.size + its2.toArray.size)) = true := by
    rw [notLongL hsz, Bool.and_false]
    exact Bool.false_ne_true
  refine call_meets F.slot_list_extend ⟨_, e, rfl⟩ F.entry_list_extend (F.args_list_extend_2 _ _)
    (list_extW l its.toArray n b its2.toArray n2 _ _ hlong (by rw [List.size_toArray]; omega) (by omega)) ⟨e, e2, ?_⟩
  refine ⟨.non, _, I.lset (its' := its ++ its2) hH e (by simp) (r.append r2) ?_, rfl, q⟩
  rw [List.length_append]
  omega
theorem S_ext (c : Sc P g sub X W Φ) {f : Env → Rs D} {n : Str} {p ap cp : Pos} (hv : chkV g X.env.scope i x = true) (en : n = "extend") (hl : (ap.endLine == cp.line) = true) (hs : nst e = true) (he : PE X e (rd P W f)) :
    PS X (.Expr (.Call (.Attribute (.Name x p) n ap) [e] [] cp) pos) (rdS P W fun env => (match env[i]? with | some (some (.ow ds)) => exR (f env) env fun d => (match d with | .list es => if ds.length + es.length ≤ szl then .nx (env.set i (some (.ow (ds ++ es)))) else .bad | _ => .bad) | _ => .bad)) := by
  subst en
  refine (ps_expr (pe_bm PySem.F.plainAttrs_list PySem.F.slot_list_extend PySem.F.type_list_extend mt_extA (v_of c.ct hv) (pa_cons he pa_nil (star_of hs)) rfl (by rw [star_of hs]; rfl) hl (star_of hs) rfl)).imp fun D σ H ⟨B, F, env, st, sb, q⟩ => ?_
  dsimp only at q
  split at q
  case h_2 => exact q.elim
  rename_i ds e1
  obtain ⟨p, vs, e2, h0, h1, h2, h3⟩ := st.sl i _ e1
  refine ⟨_, e2, .inl ⟨rfl, vs, .of h2⟩, F, env, st, post_exR st sb q fun d F' H' v ef x1 rv q1 => ?_⟩
  split at q1
  case h_2 => exact q1.elim
  rename_i es
  split at q1
  case isFalse => exact q1.elim
  rename_i hz
  have st1 := st.mono x1
  obtain ⟨a, ws, rfl, qa, da⟩ := dp_lst rv
  obtain ⟨p', vs', e3, h4, h5, st2⟩ := st1.chg (es := ds ++ es) e1
  rw [e2] at e3
  cases e3
  exact ⟨p, a, vs', ws, rfl, rfl, h4, by rw [c.ct.k]; exact x1.fh.seq qa, by rw [dps_len h5, dps_len da]; exact hz, q1 _ _ _ (st2 _ (dps_app h5 da)) (sb.trans x1.ff)⟩
theorem plcR_ix {n m : Nat} {d : PyData} (h : plcR n d = .ok m) : ∃ k, d = .int k ∧ ixN n k = some m := by
  cases d with
  | int k =>
    refine ⟨k, rfl, ?_⟩
    simp only [plcR] at h
    simp only [ixN]
    by_cases h0 : 0 ≤ k
    · rw [if_pos h0] at h ⊢
      by_cases h1 : k < n
      · rw [if_pos h1] at h ⊢
        injection h with h
        rw [h]
      · rw [if_neg h1] at h
        cases h
    · rw [if_neg h0] at h ⊢
      by_cases h1 : -(n : Int) ≤ k
      · rw [if_pos h1] at h ⊢
        injection h with h
        rw [h]
      · rw [if_neg h1] at h
        cases h
  | _ => cases h
theorem S_put (c : Sc P g sub X W Φ) {f fj : Env → Rs D} {p sp : Pos} (hv : chkV g X.env.scope i x = true) (hs : nsl l = true) (hn : nlc e = true) (hj : PE X l (rd P W fj)) (he : PE X e (rd P W f)) :
    PS X (.Assign [.Subscript (.Name x p) l sp] e pos) (rdS P W fun env => exR (f env) env fun d => (match env[i]? with | some (some (.ow ds)) => exR (fj env) env fun n => (match plcR ds.length n with | .ok m => .nx (env.set i (some (.ow (ds.set m d)))) | _ => .bad) | _ => .bad)) := by
  refine (ps_asg he (pg_sub (v_of c.ct hv) hj set_list (by cases l <;> first | exact fun _ => rfl | exact absurd hs Bool.false_ne_true)) (by show swapsWith e (some (.Subscript (.Name x p) l sp)) pos.line X.env = pure false; exact sw_no hn) rfl).imp fun D σ H ⟨B, F, env, st, sb, q⟩ => ⟨F, env, st, post_exR st sb q fun d F' H' v ef x1 rv q1 => ?_⟩
  split at q1
  case h_2 => exact q1.elim
  rename_i ds e1
  have st1 := st.mono x1
  obtain ⟨p, vs, e2, h0, h1, h2, h3⟩ := st1.sl i _ e1
  refine ⟨_, e2, F', env, st1, post_exR st1 (sb.trans x1.ff) q1 fun n F2 H2 w ej x2 rn q2 => ?_⟩
  cases em : plcR ds.length n with
  | bad => rw [em] at q2; exact q2.elim
  | exc k => rw [em] at q2; exact q2.elim
  | ok m =>
    rw [em] at q2
    have st2 := st1.mono x2
    obtain ⟨p', vs', e3, h4, h5, st3⟩ := st2.chg (es := ds.set m d) e1
    rw [e2] at e3
    cases e3
    obtain ⟨k, rfl, hk⟩ := plcR_ix em
    rw [dp_int rn]
    exact ⟨p, vs', k, m, rfl, rfl, h4, by rw [dps_len h5]; exact hk, q2 _ _ _ (st3 _ (dps_set (dp_mono x2.ff rv) m h5)) (sb.trans (x1.ff.trans x2.ff))⟩
theorem S_ret {f : Env → Rs D} (he : PE X e (rd P W f)) : PS X (.Return (some e) pos) (rdS P W fun env => exR (f env) env fun d => .rt (.fr d)) :=
  (ps_ret he).imp fun D σ H ⟨B, F, env, st, sb, q⟩ => ⟨F, env, st, post_exR st sb q fun d F' H' v e1 x1 rv q1 => q1 F' H' v (st.mono x1).ext (sb.trans x1.ff) rv⟩
theorem S_retN : PS X (.Return none pos) (rdS P W fun env => exR (.ok .none) env fun d => .rt (.fr d)) :=
  ps_retN.imp fun D σ H ⟨B, F, env, st, sb, q⟩ => q F H .non st.ext sb .non
theorem S_retO (c : Sc P g sub X W Φ) {p : Pos} (hv : chkV g X.env.scope i x = true) : PS X (.Return (some (.Name x p)) pos) (rdS P W fun env => (match env[i]? with | some (some (.ow ds)) => .rt (.ow ds) | some (some (.fr d)) => .rt (.fr d) | _ => .bad)) :=
  (ps_ret (v_of c.ct hv)).imp fun D σ H ⟨B, F, env, st, sb, q⟩ => by
    dsimp only at q
    split at q
    · rename_i ds e1
      obtain ⟨p, vs, e2, h0, h1, h2, h3⟩ := st.sl i _ e1
      exact ⟨_, e2, q F H p vs st.ext sb h0 h1 h2 h3⟩
    · rename_i d e1
      obtain ⟨v, e2, h1⟩ := st.sl i _ e1
      exact ⟨v, e2, q F H v st.ext sb h1⟩
    · exact q.elim
theorem S_exp {f : Env → Rs D} (hn : nlc e = true) (he : PE X e (rd P W f)) : PS X (.Expr e pos) (rdS P W fun env => exR (f env) env fun _ => .nx env) :=
  (ps_expr he (sw_no hn)).imp fun D σ H ⟨B, F, env, st, sb, q⟩ => ⟨F, env, st, post_exR st sb q fun d F' H' v e1 x1 rv q1 => q1 σ F' H' (st.mono x1) (sb.trans x1.ff)⟩
theorem S_nx {s : Stmt} (h : PS X s tNext) : PS X s (rdS P W fun env => .nx env) := h.imp fun D σ H ⟨B, F, env, st, sb, q⟩ => q σ F H st sb
theorem S_brk : PS X (.Break pos) (rdS P W fun env => .bk env) := ps_break.imp fun D σ H ⟨B, F, env, st, sb, q⟩ => q σ F H st sb
theorem S_cnt : PS X (.Continue pos) (rdS P W fun env => .ct env) := ps_continue.imp fun D σ H ⟨B, F, env, st, sb, q⟩ => q σ F H st sb
/-- a test -/
theorem post_tst {r : Rs PyData} {B F H : Hp} {σ : L2.St} {env : Env} {D : Ends} {fa fb : Fl} {Q : Bool → Hp → Prop} (st : Sta P F H σ env) (sb : Same B F) (q : goal P W D B (exR r env fun d => (match d with | .bool true => fa | .bool false => fb | _ => .bad)))
    (k : ∀ b F' H', r = .ok (.bool b) → Ext F H F' H' → goal P W D B (if b = true then fa else fb) → Q b H') : post RlB W σ F H (match (generalizing := false) r with | .ok (.bool b) => .ok (.bool b) | .exc k => .exc k | _ => .bad) Q := by
  cases r with
  | ok d =>
    cases d with
    | bool b =>
      refine fun F' H' v e r => ?_
      have ev : b = v := by
        have : PyData.bool b = .bool v := r
        cases this
        rfl
      subst ev
      refine k b F' H' rfl e ?_
      cases b <;> exact q
    | _ => exact q.elim
  | exc j => exact fun F' H' e => q σ F' H' (st.mono e) (sb.trans e.ff)
  | bad => exact q.elim
theorem S_if {fc : Env → Rs D} {fa fb : Env → Fl} {t : Expr} {a b : List Stmt} (hc : PT X t (rdB P W fc)) (ha : PSs X a (rdS P W fa)) (hb : PSs X b (rdS P W fb)) :
    PS X (.If t a b pos) (rdS P W fun env => exR (fc env) env fun d => (match d with | .bool true => fa env | .bool false => fb env | _ => .bad)) := by
  refine (ps_if hc ha hb).imp fun D σ H ⟨B, F, env, st, sb, q⟩ => ⟨F, env, st, post_tst st sb q fun b F' H' e1 x1 q1 => ?_⟩
  cases b with
  | true => exact ⟨B, F', env, st.mono x1, sb.trans x1.ff, q1⟩
  | false => exact ⟨B, F', env, st.mono x1, sb.trans x1.ff, q1⟩
theorem S_while (c : Sc P g sub X W Φ) {fc : Env → Rs D} {fb : Env → Fl} {t : Expr} {b : List Stmt} (hc : PT X t (rdB P W fc)) (hb : PSs X b (rdS P W fb)) : PS X (.While t b [] pos) (rdS P W fun env => wloop fc fb L env) := by
  refine (ps_while c.po hc hb).imp fun D σ H ⟨B, F, env, st, sb, q⟩ => ?_
  refine ⟨fun m σ H => ∃ F env, Sta P F H σ env ∧ Same B F ∧ goal P W D B (wloop fc fb m env), ⟨L, F, env, st, sb, q⟩, fun m σ H ⟨F, env, st, sb, q⟩ => ?_⟩
  cases m with
  | zero => exact q.elim
  | succ n =>
    have q : goal P W D B (exR (fc env) env fun d => (match d with
      | .bool true => (match fb env with
        | .nx e => wloop fc fb n e
        | .ct e => wloop fc fb n e
        | .bk e => .nx e
        | .rt s => .rt s
        | .xc k e => .xc k e
        | .bad => .bad)
      | .bool false => .nx env
      | _ => .bad)) := by
      unfold wloop at q
      cases e : fc env with
      | ok d =>
        rw [e] at q
        cases d with
        | bool b => cases b <;> exact q
        | _ => exact q
      | exc k => rw [e] at q; exact q
      | bad => rw [e] at q; exact q
    refine ⟨F, env, st, post_tst st sb q fun b F' H' e1 x1 q1 => ?_⟩
    cases b with
    | false => exact q1 σ F' H' (st.mono x1) (sb.trans x1.ff)
    | true =>
      rw [if_pos rfl] at q1 ⊢
      refine ⟨fun σ H => ∃ F env, Sta P F H σ env ∧ Same B F ∧ goal P W D B (wloop fc fb n env), fun σ' H' h => ⟨n, Nat.lt_succ_self n, h⟩, B, F', env, st.mono x1, sb.trans x1.ff, ?_⟩
      exact goal_loop (lp := wloop fc fb n) q1 fun σ F H e st sb q => ⟨F, e, st, sb, q⟩
theorem S_forX (c : Sc P g sub X W Φ) {tg : Expr} {gt : TG} {fi : Env → Rs (List D)} {fe : D → Env → Fl} {fb : Env → Fl} {b : List Stmt} (hh : g.hot = false) (hi : PI X tg l (rdI P W fi)) (hset : ∀ y, foldedSetIterable l X.env y = pure y) (hg : PG X tg gt) (hb : PSs X b (rdS P W fb))
    (key : ∀ d env F H σ v B D, Sta P F H σ env → Same B F → Dp P.K F v d → goal P W D B (fe d env) → gt v σ H fun σ' H' => rdS P W fb D σ' H') : PS X (.For tg l b [] pos) (rdS P W fun env => exR (fi env) env fun ds => floop fe ds env) := by
  refine (ps_for c.po (c.ct.calm hh) hi hg hb hset).imp fun D σ H ⟨B, F, env, st, sb, q⟩ => ⟨F, env, st, ?_⟩
  cases ei : fi env with
  | exc k => dsimp only at q; rw [ei] at q; exact fun F' H' e => q σ F' H' (st.mono e) (sb.trans e.ff)
  | bad => dsimp only at q; rw [ei] at q; exact q.elim
  | ok ds =>
    dsimp only at q
    rw [ei] at q
    have q : goal P W D B (floop fe ds env) := q
    refine fun F1 H1 J x1 y1 => ?_
    refine ⟨fun j m σ H => m + j = ds.length ∧ ∃ F2 env, Sta P F2 H σ env ∧ Same F1 F2 ∧ goal P W D F1 (floop fe (ds.drop j) env), ⟨ds.length, rfl, F1, env, st.mono x1, Same.refl F1, goal_up (sb.trans x1.ff) q⟩, fun j m σ H ⟨hm, F2, env, st, s2, q⟩ => ?_⟩
    by_cases hlt : j < ds.length
    · have hd : ds[j]? = some ds[j] := List.getElem?_eq_getElem hlt
      obtain ⟨go, yld⟩ := y1.step j ds[j] F2 H hd s2 st.same
      rw [List.drop_eq_getElem_cons hlt] at q
      refine .inr ⟨go, fun σ H => ∃ F2 env, Sta P F2 H σ env ∧ Same F1 F2 ∧ goal P W D F1 (floop fe (ds.drop (j + 1)) env), fun σ' H' h => ⟨m - 1, by omega, by omega, h⟩, fun v H' hy => ?_⟩
      obtain ⟨F3, x3, rv⟩ := yld v H' hy
      exact key ds[j] env F3 H' σ v F1 _ (st.mono x3) (s2.trans x3.ff) rv (goal_loop (lp := floop fe (ds.drop (j + 1))) q fun σ F H e st sb q => ⟨F, e, st, sb, q⟩)
    · have ej : j = ds.length := by omega
      subst ej
      rw [List.drop_of_length_le (Nat.le_refl _)] at q
      exact .inl ⟨y1.stop F2 H s2 st.same, q σ F2 H st s2⟩
theorem S_for (c : Sc P g sub X W Φ) {fi : Env → Rs (List D)} {fb : Env → Fl} {p : Pos} {b : List Stmt} (hh : g.hot = false) (hx : locN g X.env.scope i x = true) (hi : PI X (.Name x p) l (rdI P W fi)) (hset : ∀ y, foldedSetIterable l X.env y = pure y) (hb : PSs X b (rdS P W fb)) :
    PS X (.For (.Name x p) l b [] pos) (rdS P W fun env => exR (fi env) env fun ds => floop (fun d env => fb (env.set i (some (.fr d)))) ds env) := by
  obtain ⟨h1, h2⟩ := locN_of c.ct hx
  exact S_forX c hh hi hset (pg_name (i := i) (nd_of c.ct) h1 (.inl h2) (.inr h2)) hb fun d env F H σ v B D st sb rv q => ⟨B, F, _, st.putD rv, sb, q⟩
theorem S_for2 (c : Sc P g sub X W Φ) {fi : Env → Rs (List D)} {fb : Env → Fl} {p p2 tp : Pos} {k j : Nat} {z : Str} {b : List Stmt} (hh : g.hot = false) (hx : locN g X.env.scope i x = true) (hz : locN g X.env.scope j z = true) (hi : PI X (.Tuple [.Name x p, .Name z p2] k tp) l (rdI P W fi)) (hset : ∀ y, foldedSetIterable l X.env y = pure y) (hb : PSs X b (rdS P W fb)) :
    PS X (.For (.Tuple [.Name x p, .Name z p2] k tp) l b [] pos) (rdS P W fun env => exR (fi env) env fun ds => floop (fun d env => (match d with | .tuple [x, y] => fb ((env.set i (some (.fr x))).set j (some (.fr y))) | _ => .bad)) ds env) := by
  obtain ⟨h1, h2⟩ := locN_of c.ct hx
  obtain ⟨h3, h4⟩ := locN_of c.ct hz
  refine S_forX c hh hi hset (pg_tup (n := 2) (c.ct.calm hh) (pgs_cons (pg_name (i := i) (nd_of c.ct) h1 (.inl h2) (.inr h2)) (pgs_cons (pg_name (i := j) (nd_of c.ct) h3 (.inl h4) (.inr h4)) pgs_nil))) hb fun d env F H σ v B D st sb rv q => ?_
  split at q
  case h_2 => exact q.elim
  rename_i dx dy
  obtain ⟨a, vs, rfl, qa, da⟩ := dp_tup rv
  cases da with
  | cons r1 da =>
    cases da with
    | cons r2 da =>
      cases da
      refine ⟨a, _, rfl, by rw [c.ct.k]; exact same_seqT st.same qa, rfl, _, _, rfl, _, _, rfl, rfl, ?_⟩
      exact ⟨B, F, _, (st.putD r1).putD r2, sb, q⟩
theorem S_nil : PSs X [] (rdS P W fun env => .nx env) := pss_nil.imp fun D σ H ⟨B, F, env, st, sb, q⟩ => q σ F H st sb
theorem S_cons {s : Stmt} {ss : List Stmt} {f1 f2 : Env → Fl} (h1 : PS X s (rdS P W f1)) (h2 : PSs X ss (rdS P W f2)) : PSs X (s :: ss) (rdS P W fun env => (f1 env).seq f2) := by
  refine (pss_cons h1 h2).imp fun D σ H ⟨B, F, env, st, sb, q⟩ => ⟨B, F, env, st, sb, ?_⟩
  dsimp only at q
  cases e : f1 env with
  | nx env' => rw [e] at q; exact fun σ F H st sb => ⟨B, F, env', st, sb, q⟩
  | rt s => rw [e] at q; cases s <;> exact q
  | bk e' => rw [e] at q; exact q
  | ct e' => rw [e] at q; exact q
  | xc k e' => rw [e] at q; exact q
  | bad => rw [e] at q; exact q
theorem S_frz {ss : List Stmt} {f2 : Env → Fl} (h2 : PSs X ss (rdS P W f2)) : PSs X ss (rdS P W fun env => Fl.seq (match env[i]? with | some (some (.ow ds)) => .nx (env.set i (some (.fr (.list ds)))) | _ => .nx env) f2) := by
  refine h2.imp fun D σ H ⟨B, F, env, st, sb, q⟩ => ?_
  dsimp only at q
  split at q
  · rename_i ds e1
    obtain ⟨F', s', st'⟩ := st.freeze e1
    exact ⟨B, F', _, st', sb.trans s', q⟩
  · exact ⟨B, F, env, st, sb, q⟩
end
end Q

set_option Elab.async false
set_option linter.all false
set_option maxRecDepth 100000
set_option autoImplicit false
set_option maxHeartbeats 8000000
namespace Q
open PySem PySem.Spec PyProof.Rows L2
section
variable {P : Par} {g : Cfg} {sub : Nat → Nat → Bool} {X : Cx} {W : Wsh} {Φ : Fns} {L : Nat} {e l r z : Expr} {es : List Expr} {pos : Pos} {x : Str} {i : Nat}
theorem handB_of {k : Nat} {sc : Scope} (h : handB g k sc x = true) : g.hot = false ∧ glB sc x = true ∧ g.cs[k]? = some x := by
  unfold handB at h
  rw [Bool.and_eq_true, Bool.and_eq_true, decide_eq_true_eq] at h
  exact ⟨by simpa using h.1.1, h.1.2, h.2⟩
theorem S_rse (c : Sc P g sub X W Φ) {k : Nat} {f : Env → Rs D} {p pos' : Pos} (h1 : g.hot = false) (h2 : glB X.env.scope x = true) (h3 : g.rs[k]? = some x) (hs : nst e = true) (he : PE X e (rd P W f)) : PS X (.Raise (some (.Call (.Name x p) [e] [] pos)) none pos') (rdS P W fun env => exR (f env) env fun _ => .xc k env) := by
  obtain ⟨C, bmB, Bs, n1, n2, e1, e2, F, q1, q2, q3⟩ := c.rz k x h3
  obtain ⟨gx, dx, _⟩ := gl_of h2
  refine (ps_raise (c.ct.calm h1) c.tk (SkE.pmk_own1 F q1 e2 q2 q3 gx he (star_of hs) dx)).imp fun D σ H ⟨B, F, env, st, sb, q⟩ => ⟨F, env, st, post_exR st sb q fun d F' H' v e3 x1 rv q4 => ?_⟩
  exact ⟨k, e1.symm, rfl, q4 σ F' H' (st.mono x1) (sb.trans x1.ff)⟩
theorem names_of (c : Sc P g sub X W Φ) {k : Nat} (hb : handB g k X.env.scope x = true) : ∃ cv, Names X x cv ∧ ∀ j, PySem.W.exmOne X.K (P.cls j) cv = some (sub j k) := by
  obtain ⟨h1, h2, h3⟩ := handB_of hb
  obtain ⟨gx, _, _⟩ := gl_of h2
  obtain ⟨n1, cv, n2, n3⟩ := c.nm k x h3
  exact ⟨cv, ⟨gx, n1, n2⟩, n3⟩
theorem er_no {env : Env} (h : noEr env = true) {i k : Nat} (e : env[i]? = some (some (.er k))) : False := by
  have := List.all_eq_true.mp h _ (List.mem_of_getElem? e)
  cases this
/-- no caught error lies in the slots: which are there does not matter -/
theorem Sta.era {P : Par} {F H : Hp} {σ : L2.St} {env : Env} (s : Sta P F H σ env) (h : noEr env = true) (ER : Addr → Nat → Prop) : Sta { P with ER := ER } F H σ env :=
  ⟨s.len, s.ext, fun i z e => by
    have q := s.sl i z e
    cases z with
    | fr d => exact q
    | ow ds => exact q
    | er k => exact (er_no h e).elim, s.ds⟩
theorem Sta.unera {P : Par} {ER : Addr → Nat → Prop} {F H : Hp} {σ : L2.St} {env : Env} (s : Sta { P with ER := ER } F H σ env) (h : noEr env = true) : Sta P F H σ env :=
  ⟨s.len, s.ext, fun i z e => by
    have q := s.sl i z e
    cases z with
    | fr d => exact q
    | ow ds => exact q
    | er k => exact (er_no h e).elim, s.ds⟩
/-- the end of a suite -/
theorem goal_sfin {ER : Addr → Nat → Prop} {D D' : Ends} {B : Hp} {fe : Env → Env} {fs : L2.St → L2.St} (hS : ∀ {F H : Hp} {σ : L2.St} {env : Env}, Sta { P with ER := ER } F H σ env → Sta { P with ER := ER } F H (fs σ) (fe env))
    (h1 : ∀ σ H, D.nx (fs σ) H → D'.nx σ H) (h2 : ∀ v H, D.rt v H → D'.rt v H) (h3 : ∀ σ H, D.bk (fs σ) H → D'.bk σ H) (h4 : ∀ σ H, D.ct (fs σ) H → D'.ct σ H) {r : Fl} (q : goal P W D B (sfin fe r)) : goal { P with ER := ER } Wno D' B r := by
  cases r with
  | nx e =>
    intro σ F H st sb
    simp only [sfin] at q
    split at q
    · exact h1 _ _ (q _ F H ((hS st).unera ‹_›) sb)
    · exact q.elim
  | bk e =>
    intro σ F H st sb
    simp only [sfin] at q
    split at q
    · exact h3 _ _ (q _ F H ((hS st).unera ‹_›) sb)
    · exact q.elim
  | ct e =>
    intro σ F H st sb
    simp only [sfin] at q
    split at q
    · exact h4 _ _ (q _ F H ((hS st).unera ‹_›) sb)
    · exact q.elim
  | rt s =>
    cases s with
    | fr d => exact fun F H v a b c => h2 _ _ (q F H v a b c)
    | ow d => exact fun F H p vs a b c d e f => h2 _ _ (q F H p vs a b c d e f)
    | er k => exact q
  | xc k e => exact (show False from q).elim
  | bad => exact q
/-- the suite behind a catch -/
def suiteR (P : Par) (sa : Bool) (fh : Env → Fl) : Addr → Value → Option Addr → TS := fun a cls d D σ H => ∃ j, cls = P.cls j ∧ d = none ∧ rdS { P with ER := fun b k => b = a ∧ k = j } Wno fh D σ H
theorem suite_of (c : Sc P g sub X W Φ) {k0 : Nat} (hx : handB g k0 X.env.scope x = true) {h : List Stmt} {fh : Env → Fl} (hh : ∀ (P' : Par) (X' : Cx), Sc P' { g with hot := true } sub X' Wno Φ → X'.env = X.env → PSs X' h (rdS P' Wno fh)) (sa : Bool)
    (a : Addr) (oe : Obj) (cls : Value) (d : Option Addr) (pn : List (Addr × Obj)) (hz : Zc cls d oe) (hv : ∃ vs, oe.data = .fields vs) : PSs (X.suite a ((a, oe) :: pn)) h (suiteR P sa fh a cls d) := by
  refine ⟨fun pins s σ H D I ⟨j, e1, e2, q⟩ => ?_⟩
  subst e1 e2
  obtain ⟨C, e3, e4⟩ := c.ex k0 x (handB_of hx).2.2 j
  exact (hh _ _ (c.suite (fun b k => b = a ∧ k = j) fun b k ⟨h1, h2⟩ => by
    subst h1 h2
    exact ⟨oe, C, List.mem_cons_self, e3, e4, by rw [← e3]; exact hz, hv⟩) rfl).run pins s σ H D I q
abbrev unW (P : Par) (W' : L2.WX) : Wsh := fun k σ H => W' (P.cls k) none σ H
theorem wx_unW {W' : L2.WX} (c : Value) (d : Option Addr) (σ : L2.St) (H : Hp) (h : wxOf P (unW P W') c d σ H) : W' c d σ H := by
  obtain ⟨k, rfl, rfl, h⟩ := h
  exact h
theorem body_of (c : Sc P g sub X W Φ) (hh : g.hot = false) {b : List Stmt} {fb : Env → Fl} (hb : ∀ (X' : Cx) (W' : Wsh), Sc P g sub X' W' Φ → X'.env = X.env → PSs X' b (rdS P W' fb))
    (W' : L2.WX) (pn : List (Addr × Obj)) (xe : Value → Shared → Prop) (tk : L2.Takes (X.tr pn xe) W') (po : PassesOwn (model X.prog X.w) X.A X.env xe) : PSs (X.tr pn xe) b (rdS P (unW P W') fb) :=
  hb _ _ (c.tr hh pn (tk.imp wx_unW) po) rfl
theorem S_tryO (c : Sc P g sub X W Φ) {k : Nat} {b hs : List Stmt} {z : Stmt} {np p' : Pos} {fb fh : Env → Fl} (hn : handB g k X.env.scope x = true) (hb : ∀ (X' : Cx) (W' : Wsh), Sc P g sub X' W' Φ → X'.env = X.env → PSs X' b (rdS P W' fb))
    (hh : ∀ (P' : Par) (X' : Cx), Sc P' { g with hot := true } sub X' Wno Φ → X'.env = X.env → PSs X' (z :: hs) (rdS P' Wno fh)) :
    PS X (.Try b [.ExceptHandler (some (.Name x np)) none (z :: hs) p'] [] [] pos) (rdS P W fun env => catch1 sub (fb env) k fun _ e => if noEr e = true then sfin (fun e => e) (fh e) else .bad) := by
  obtain ⟨cv, hcv, hem⟩ := names_of c hn
  refine (ps_try_only (tb := fun W' => rdS P (unW P W') fb) c.stk c.fr hcv c.tk (body_of c (handB_of hn).1 hb) (suite_of c hn hh true)).imp fun D σ H ⟨B, F, env, st, sb, q⟩ => ⟨B, F, env, st, sb, ?_⟩
  dsimp only at q
  cases e : fb env with
  | nx _ => rw [e] at q; exact q
  | bk _ => rw [e] at q; exact q
  | ct _ => rw [e] at q; exact q
  | rt s => rw [e] at q; cases s <;> exact q
  | bad => rw [e] at q; exact q
  | xc j e' =>
    rw [e] at q
    have q : goal P W D B (if sub j k = true then (if noEr e' = true then sfin (fun e => e) (fh e') else .bad) else .xc j e') := q
    refine fun σ F H st sb => ⟨sub j k, hem j, fun hb a na => ⟨j, rfl, rfl, ?_⟩, fun hb => ⟨j, rfl, rfl, ?_⟩⟩
    · rw [if_pos hb] at q
      split at q
      · exact ⟨B, F, e', st.era ‹_› _, sb, goal_sfin (D := D) (fe := fun e => e) (fs := fun σ => σ) (fun s => s) (fun _ _ h => h) (fun _ _ h => h) (fun _ _ h => h) (fun _ _ h => h) q⟩
      · exact q.elim
    · rw [if_neg (by rw [hb]; exact Bool.false_ne_true)] at q
      exact q σ F H st sb
theorem S_tryA (c : Sc P g sub X W Φ) {k : Nat} {b hs : List Stmt} {z : Stmt} {n : Str} {np p' : Pos} {fb fh : Env → Fl} (hn : handB g k X.env.scope x = true) (hi : locN g X.env.scope i n = true) (hb : ∀ (X' : Cx) (W' : Wsh), Sc P g sub X' W' Φ → X'.env = X.env → PSs X' b (rdS P W' fb))
    (hh : ∀ (P' : Par) (X' : Cx), Sc P' { g with hot := true } sub X' Wno Φ → X'.env = X.env → PSs X' (z :: hs) (rdS P' Wno fh)) :
    PS X (.Try b [.ExceptHandler (some (.Name x np)) (some n) (z :: hs) p'] [] [] pos) (rdS P W fun env => catch1 sub (fb env) k fun j e => if noEr e = true then sfin (fun e => e.set i none) (fh (e.set i (some (.er j)))) else .bad) := by
  obtain ⟨cv, hcv, hem⟩ := names_of c hn
  obtain ⟨i1, i2⟩ := locN_of c.ct hi
  refine (ps_try_as (tb := fun W' => rdS P (unW P W') fb) c.stk c.fr (nd_of c.ct) i1 i2 hcv c.tk (body_of c (handB_of hn).1 hb) (suite_of c hn hh true)).imp fun D σ H ⟨B, F, env, st, sb, q⟩ => ⟨B, F, env, st, sb, ?_⟩
  dsimp only at q
  cases e : fb env with
  | nx _ => rw [e] at q; exact q
  | bk _ => rw [e] at q; exact q
  | ct _ => rw [e] at q; exact q
  | rt s => rw [e] at q; cases s <;> exact q
  | bad => rw [e] at q; exact q
  | xc j e' =>
    rw [e] at q
    have q : goal P W D B (if sub j k = true then (if noEr e' = true then sfin (fun e => e.set i none) (fh (e'.set i (some (.er j)))) else .bad) else .xc j e') := q
    refine fun σ F H st sb => ⟨sub j k, hem j, fun hb a na => ⟨j, rfl, rfl, ?_⟩, fun hb => ⟨j, rfl, rfl, ?_⟩⟩
    · rw [if_pos hb] at q
      split at q
      · rename_i hne
        refine ⟨B, F, _, (st.era hne (fun b k => b = a ∧ k = j)).put (z := .er j) (x := .ref a) (fun _ z => nomatch z) ⟨a, rfl, rfl, rfl⟩, sb, ?_⟩
        refine goal_sfin (D := D) (fe := fun e => e.set i none) (fs := fun σ => σ.set i none) (fun s => s.forget i none) ?_ ?_ ?_ ?_ q
        · exact fun _ _ h => h
        · exact fun _ _ h => h
        · exact fun _ _ h => h
        · exact fun _ _ h => h
      · exact q.elim
    · rw [if_neg (by rw [hb]; exact Bool.false_ne_true)] at q
      exact q σ F H st sb
end
end Q

set_option Elab.async false
set_option linter.all false
set_option maxRecDepth 100000
set_option autoImplicit false
set_option maxHeartbeats 8000000
namespace Q
open PySem PySem.Spec PyProof.Rows L2
/-! ### match -/
/-- cases, for a value in hand -/
abbrev TM := V → TS
structure PMs (X : Cx) (l : List MatchCase) (t : TM) : Prop where
  run : ∀ (first : Bool) (pins : List (Addr × Obj)) (s : Shared) (σ : L2.St) (H : Hp) (D : Ends) (v : V) (u : Value), Inv X pins σ H s → RelV v u → t v D σ H → wpAny (model X.prog X.w) X.A (matchCases l X.env u first) (SP X pins D) X.xe s
def rdM (P : Par) (W : Wsh) (f : PyData → Env → Fl) : TM := fun v D σ H => ∃ B F env d, Sta P F H σ env ∧ Same B F ∧ Dp P.K F v d ∧ goal P W D B (f d env)
/-- what a pattern has bound -/
inductive Bd (g : Cfg) (K : Fg) (F : Hp) (sc : Scope) : List (Nat × PyData) → List (Str × Value) → Prop
  | nil : Bd g K F sc [] []
  | cons {i : Nat} {d : PyData} {x : Str} {v : V} {u : Value} {bs : List (Nat × PyData)} {us : List (Str × Value)} (h : locN g sc i x = true) (r : RelV v u) (q : Dp K F v d) (t : Bd g K F sc bs us) : Bd g K F sc ((i, d) :: bs) ((x, u) :: us)
theorem Bd.app {g : Cfg} {K : Fg} {F : Hp} {sc : Scope} {b1 b2 : List (Nat × PyData)} {u1 u2 : List (Str × Value)} (h : Bd g K F sc b1 u1) (h2 : Bd g K F sc b2 u2) : Bd g K F sc (b1 ++ b2) (u1 ++ u2) := by
  induction h with
  | nil => exact h2
  | cons a b c _ ih => exact .cons a b c ih
section
variable {P : Par} {g : Cfg} {sub : Nat → Nat → Bool} {X : Cx} {W : Wsh} {Φ : Fns} {pos : Pos}
/-- a pattern's answer -/
def PtQ (g : Cfg) (X : Cx) (K : Fg) (F H : Hp) (pins : List (Addr × Obj)) (σ : L2.St) (r : Option (List (Nat × PyData))) (o : Option (List (Str × Value))) (s : Shared) : Prop :=
  Inv X pins σ H s ∧ match r, o with
    | none, none => True
    | some bs, some us => Bd g K F X.env.scope bs us
    | _, _ => False
theorem p1_ok (c : Sc P g sub X W Φ) {q : P1} {p : Pattern} (hp : chkP1 g q X.env.scope p = true) {pins : List (Addr × Obj)} {s : Shared} {σ : L2.St} {F H : Hp} {v : V} {u : Value} {d : PyData} {r : Option (List (Nat × PyData))} (I : Inv X pins σ H s) (sf : Same F H) (rv : RelV v u) (dv : Dp P.K F v d) (e : p1R SS q d = .ok r) :
    wpAny (model X.prog X.w) X.A (matchPattern p X.env u) (PtQ g X P.K F H pins σ r) X.xe s := by
  cases q with
  | w =>
    simp only [chkP1] at hp
    split at hp
    · cases e
      exact wpAny_matchPattern_Capture ⟨I, .nil⟩
    · exact no_of hp
  | v i =>
    simp only [chkP1] at hp
    split at hp
    · cases e
      exact wpAny_matchPattern_Capture ⟨I, .cons hp rv dv .nil⟩
    · exact no_of hp
  | s x =>
    simp only [chkP1] at hp
    split at hp
    · obtain rfl := dec1 hp
      have e : ((eqR SS d (.str x)).bind fun b => .ok (if b = true then some [] else none)) = .ok r := e
      cases eb : eqR SS d (.str x) with
      | exc k => rw [eb] at e; cases e
      | bad => rw [eb] at e; cases e
      | ok b =>
        rw [eb] at e
        have er : (if b = true then some [] else none) = r := Rs.ok.inj e
        refine wpAny_matchPattern_Value (Calls.Constant_str (thn (c_all c.ct.un .eq pins _ σ H v (.str x) u _ (fun z H2 => z = .bl b ∧ H2 = H) (I.tok _) rv ⟨_, rfl⟩ ⟨F, d, .str x, sf, by rw [c.ct.k]; exact dv, .str x, ?_⟩) fun w s2 ⟨z, H2, I2, rz, ez, eH⟩ => ?_))
        · show yB (eqR SS d (.str x)) _
          rw [eb]
          exact ⟨rfl, rfl⟩
        · subst ez eH
          obtain rfl : w = Value.bool b := rz
          refine wpAny_truthy_bool ?_
          cases b with
          | true => subst er; exact ⟨I2, .nil⟩
          | false => subst er; exact ⟨I2, trivial⟩
    · exact no_of hp
theorem notStar (c : Sc P g sub X W Φ) {q : P1} {p : Pattern} (hp : chkP1 g q X.env.scope p = true) : p.isStar = false := by
  cases q <;> (simp only [chkP1] at hp; split at hp) <;> first | rfl | exact no_of hp | cases hp
theorem ps_ok (c : Sc P g sub X W Φ) {pins : List (Addr × Obj)} {σ : L2.St} {F H : Hp} (sf : Same F H) (qs : List P1) : ∀ (ps : List Pattern) (hp : chkPs g qs X.env.scope ps = true) (s : Shared) (vs : List V) (us : List Value) (ds : List PyData) (r : Option (List (Nat × PyData))) (I : Inv X pins σ H s) (rv : Vals vs us) (dv : DpAll P.K F vs ds) (e : psR SS qs ds = .ok r),
    wpAny (model X.prog X.w) X.A (matchEach ps X.env us) (PtQ g X P.K F H pins σ r) X.xe s := by
  induction qs with
  | nil =>
    intro ps hp s vs us ds r I rv dv e
    cases ps with
    | cons _ _ => exact no_of hp
    | nil =>
      cases ds with
      | cons _ _ => cases e
      | nil =>
        cases e
        exact wpAny_matchEach_nil ⟨I, .nil⟩
  | cons q qs ih =>
    intro ps hp s vs us ds r I rv dv e
    cases ps with
    | nil => exact no_of hp
    | cons p ps =>
      have hp : (chkP1 g q X.env.scope p && chkPs g qs X.env.scope ps) = true := hp
      obtain ⟨h1, h2⟩ := and2 hp
      cases dv with
      | nil => cases e
      | cons dv dvs =>
        rename_i v vs d ds
        cases rv with
        | cons rv rvs =>
          have e : ((p1R SS q d).bind fun r => (match r with
            | none => .ok none
            | some bs => (psR SS qs ds).bind fun q => .ok (match q with
              | none => none
              | some more => some (bs ++ more)))) = .ok r := e
          cases e1 : p1R SS q d with
          | exc k => rw [e1] at e; cases e
          | bad => rw [e1] at e; cases e
          | ok r1 =>
            rw [e1] at e
            refine wpAny_matchEach_cons (thn (p1_ok c h1 I sf rv dv e1) fun o s1 ⟨I1, q1⟩ => ?_) (notStar c h1)
            cases r1 with
            | none =>
              cases o with
              | none =>
                have er : none = r := Rs.ok.inj e
                subst er
                exact ⟨I1, trivial⟩
              | some us1 => exact q1.elim
            | some bs =>
              cases o with
              | none => exact q1.elim
              | some us1 =>
                have q1 : Bd g P.K F X.env.scope bs us1 := q1
                have e : ((psR SS qs ds).bind fun q => .ok (match q with
                  | none => none
                  | some more => some (bs ++ more))) = .ok r := e
                cases e2 : psR SS qs ds with
                | exc k => rw [e2] at e; cases e
                | bad => rw [e2] at e; cases e
                | ok r2 =>
                  rw [e2] at e
                  have er := Rs.ok.inj e
                  refine thn (ih ps h2 s1 _ _ ds r2 I1 rvs dvs e2) fun o2 s2 ⟨I2, q2⟩ => ?_
                  cases r2 with
                  | none =>
                    cases o2 with
                    | none => subst er; exact ⟨I2, trivial⟩
                    | some _ => exact q2.elim
                  | some more =>
                    cases o2 with
                    | none => exact q2.elim
                    | some us2 =>
                      subst er
                      exact ⟨I2, q1.app q2⟩
theorem noStars (c : Sc P g sub X W Φ) : ∀ {qs : List P1} {ps : List Pattern}, chkPs g qs X.env.scope ps = true → ps.findIdx? (·.isStar) = none ∧ qs.length = ps.length
  | [], [], _ => ⟨rfl, rfl⟩
  | [], _ :: _, hp => no_of hp
  | _ :: _, [], hp => no_of hp
  | q :: qs, p :: ps, hp => by
    have hp : (chkP1 g q X.env.scope p && chkPs g qs X.env.scope ps) = true := hp
    obtain ⟨h1, h2⟩ := and2 hp
    obtain ⟨h3, h4⟩ := noStars c h2
    exact ⟨by rw [List.findIdx?_cons, notStar c h1, h3]; rfl, by rw [List.length_cons, List.length_cons, h4]⟩
theorem small63 {n : Nat} (h : n ≤ sizeLine) : (n : Int) < 2 ^ 63 := by
  rw [sizeLine_eq] at h
  omega
theorem pt_ok (c : Sc P g sub X W Φ) (hc : g.hot = false) {q : Pt} {p : Pattern} (hp : chkPt g q X.env.scope p = true) {pins : List (Addr × Obj)} {s : Shared} {σ : L2.St} {F H : Hp} {v : V} {u : Value} {d : PyData} {r : Option (List (Nat × PyData))} (I : Inv X pins σ H s) (sf : Same F H) (rv : RelV v u) (dv : Dp P.K F v d) (e : ptR SS q d = .ok r) :
    wpAny (model X.prog X.w) X.A (matchPattern p X.env u) (PtQ g X P.K F H pins σ r) X.xe s := by
  cases q with
  | one q => exact p1_ok c hp I sf rv dv e
  | seq qs =>
    simp only [chkPt] at hp
    split at hp
    case h_2 => exact no_of hp
    rename_i ps pos'
    obtain ⟨h1, h3⟩ := and2 hp
    obtain ⟨h1, h2⟩ := and2 h1
    obtain ⟨hs, hl⟩ := noStars c h1
    have hw : (ps.all fun p => p.isWildcard || (p.isStar && p.names.isEmpty)) = false := not1 h2
    have hd := I.ok.hd (c.ct.calm hc)
    have miss : ∀ {T : String}, s.TypeIs u T → flagOfType true (.type T) = pure false → r = none → wpAny (model X.prog X.w) X.A (matchPattern (.MatchSequence ps pos') X.env u) (PtQ g X P.K F H pins σ r) X.xe s := fun {T} hT hf er => by
      subst er
      exact wpAny_matchPattern_Sequence (wpAny_collectionFlag hT hf ⟨I, trivial⟩) hs hw
    cases dv with
    | non =>
      obtain rfl : u = Value.none := rv
      exact miss (T := "NoneType") (typeIs_none s) flag_seq_None (Rs.ok.inj e).symm
    | bl b =>
      obtain rfl : u = Value.bool b := rv
      exact miss (T := "bool") rfl flag_seq_bool (Rs.ok.inj e).symm
    | int i =>
      obtain ⟨t, rfl⟩ := rv
      exact miss (T := "int") rfl flag_seq_int (Rs.ok.inj e).symm
    | str x =>
      obtain ⟨t, rfl⟩ := rv
      exact miss (T := "str") rfl flag_seq_str (Rs.ok.inj e).symm
    | lst qa da =>
      rename_i a vs ds
      obtain rfl : u = Value.ref a := rv
      rw [← c.ct.k] at qa
      obtain ⟨its, rvs, pl, hz⟩ := I.list (sf.seq qa)
      have hL := pl.isList
      have en : its.toArray.size = ds.length := by rw [List.size_toArray, ← rvs.length, dps_len da]
      have hfit : (its.toArray.size : Int) < 2 ^ 63 := small63 (by rw [List.size_toArray, ← rvs.length]; exact hz)
      have e : (if ds.length = qs.length then psR SS qs ds else .ok none) = .ok r := e
      by_cases hn : ds.length = qs.length
      · rw [if_pos hn] at e
        refine matchSeq_list_hit hL hfit (by rw [en, hn, hl]) ?_ hs hw
        rw [show ps.length = its.toArray.size by rw [en, hn, hl]]
        refine PySem.W.kun_itemsOf hd (s := { s with toks := s.toks + 1 + 1 }) hL fun h2 hx => ?_
        have I2 : Inv X pins σ H { s with heap := h2, toks := s.toks + 1 + 1 } := I.kept (t' := s.toks + 1 + 1) fun b o eo => hx b o (Nat.ne_of_lt (Heap.lt_size eo)) eo
        exact ps_ok c sf _ _ h1 _ _ _ _ _ I2 (by simpa using rvs) da e
      · rw [if_neg hn] at e
        have er := Rs.ok.inj e
        subst er
        exact matchSeq_list_miss hL hfit (by rw [en, ← hl]; exact hn) ⟨I.kept (t' := s.toks + 1 + 1) (h' := s.heap) fun _ _ z => z, trivial⟩ hs hw
    | tup qa da =>
      rename_i a vs ds
      obtain rfl : u = Value.ref a := rv
      rw [← c.ct.k] at qa
      obtain ⟨its, rvs, pl, hz⟩ := I.tuple (same_seqT sf qa)
      have en : its.toArray.size = ds.length := by rw [List.size_toArray, ← rvs.length, dps_len da]
      have hfit : (its.toArray.size : Int) < 2 ^ 63 := small63 (by rw [List.size_toArray, ← rvs.length]; exact hz)
      have e : (if ds.length = qs.length then psR SS qs ds else .ok none) = .ok r := e
      by_cases hn : ds.length = qs.length
      · rw [if_pos hn] at e
        refine matchSeq_tuple_hit pl hfit (by rw [en, hn, hl]) ?_ hs hw
        rw [show ps.length = its.toArray.size by rw [en, hn, hl]]
        refine wpAny_unpackItems_tuple hd (s := { s with toks := s.toks + 1 + 1 }) (show s.heap.IsTuple a its.toArray from pl) fun h2 hx => ?_
        have I2 : Inv X pins σ H { s with heap := h2, toks := s.toks + 1 + 1 } := I.kept (t' := s.toks + 1 + 1) fun b o eo => hx b o (Nat.ne_of_lt (Heap.lt_size eo)) eo
        exact ps_ok c sf _ _ h1 _ _ _ _ _ I2 (by simpa using rvs) da e
      · rw [if_neg hn] at e
        have er := Rs.ok.inj e
        subst er
        exact matchSeq_tuple_miss pl hfit (by rw [en, ← hl]; exact hn) ⟨I.kept (t' := s.toks + 1 + 1) (h' := s.heap) fun _ _ z => z, trivial⟩ hs hw
/-- the names are stored -/
theorem bd_ok (c : Sc P g sub X W Φ) {F H : Hp} {pins : List (Addr × Obj)} {Q : Unit → Shared → Prop} : ∀ {bs : List (Nat × PyData)} {us : List (Str × Value)} {s : Shared} {σ : L2.St} {env : Env}, Bd g P.K F X.env.scope bs us → Inv X pins σ H s → Sta P F H σ env → (∀ s2 σ2, Inv X pins σ2 H s2 → Sta P F H σ2 (bindE bs env) → Q () s2) →
    wpAny (model X.prog X.w) X.A (assignInOrder (us.map fun (n, _) => bindName X.env n) (us.map (·.2))) Q X.xe s
  | _, _, s, σ, env, .nil, I, st, h => wpAny_assignInOrder_none (h s σ I st)
  | _, _, s, σ, env, .cons hx r q t, I, st, h => by
    obtain ⟨h1, h2⟩ := locN_of c.ct hx
    exact wpAny_assignInOrder_more (wpAny_bindName (store_ok I (nd_of c.ct) h1 (.inl h2) r (fun s2 I2 => bd_ok c t I2 (st.putD q) h) (.inr h2)))
theorem M_nil : PMs X [] (rdM P W fun _ env => .nx env) := ⟨fun first pins s σ H D v u I rv ⟨B, F, env, d, st, sb, dv, q⟩ => wpAny_matchCases_nil ⟨σ, H, I, q σ F H st sb⟩⟩
theorem M_cons (c : Sc P g sub X W Φ) (hh : g.hot = false) {q : Pt} {p : Pattern} {body : List Stmt} {rest : List MatchCase} {fb : Env → Fl} {fr : PyData → Env → Fl} (hp : chkPt g q X.env.scope p = true) (hb : PSs X body (rdS P W fb)) (hr : PMs X rest (rdM P W fr)) :
    PMs X (⟨p, none, body⟩ :: rest) (rdM P W fun d env => (match ptR SS q d with
      | .ok none => fr d env
      | .ok (some bs) => fb (bindE bs env)
      | _ => .bad)) := by
  refine ⟨fun first pins s σ H D v u I rv ⟨B, F, env, d, st, sb, dv, qg⟩ => ?_⟩
  cases e : ptR SS q d with
  | exc k => simp only [e] at qg; exact qg.elim
  | bad => simp only [e] at qg; exact qg.elim
  | ok r =>
    refine wpAny_matchCases_cons (thn (pt_ok c hh hp I st.same rv dv e) fun o s1 ⟨I1, q1⟩ => ?_)
    cases r with
    | none =>
      simp only [e] at qg
      cases o with
      | none => exact hr.run false pins s1 σ H D v u I1 rv ⟨B, F, env, d, st, sb, dv, qg⟩
      | some _ => exact q1.elim
    | some bs =>
      simp only [e] at qg
      cases o with
      | none => exact q1.elim
      | some us => exact bd_ok c q1 I1 st fun s2 σ2 I2 st2 => hb.run pins s2 σ2 H D I2 ⟨B, F, _, st2, sb, qg⟩
theorem S_mat {e : Expr} {l : List MatchCase} {f : Env → Rs D} {fm : PyData → Env → Fl} (he : PE X e (rd P W f)) (hm : PMs X l (rdM P W fm)) : PS X (.Match e l pos) (rdS P W fun env => exR (f env) env fun d => fm d env) := by
  refine ⟨fun pins s σ H D I ⟨B, F, env, st, sb, q⟩ => ?_⟩
  refine wpAny_Match (thn (he.run pins s σ H (fun v H1 => ∃ B F env d, Sta P F H1 σ env ∧ Same B F ∧ Dp P.K F v d ∧ goal P W D B (fm d env)) I ⟨F, env, st, post_exR st sb q fun d F1 H1 v e1 x1 rv q1 => ⟨B, F1, env, d, st.mono x1, sb.trans x1.ff, rv, q1⟩⟩) fun u s1 ⟨v, H1, I1, r1, q1⟩ => ?_)
  exact hm.run true pins s1 σ H1 D v u I1 r1 q1
end
end Q

set_option Elab.async false
set_option linter.all false
set_option maxRecDepth 100000
set_option autoImplicit false
set_option maxHeartbeats 8000000
namespace Q
open PySem PySem.Spec PyProof.Rows L2
/-! ### several except clauses, with and without names -/
abbrev Cla := Value × Option Nat × (Addr → Value → Option Addr → TS)
def cutE (i : Nat) (D : Ends) : Ends := { nx := fun σ H => D.nx (σ.set i none) H, rt := D.rt, bk := fun σ H => D.bk (σ.set i none) H, ct := fun σ H => D.ct (σ.set i none) H }
def wMix (K : Fg) (Wout : L2.WX) (D : Ends) : List Cla → L2.WX
  | [] => Wout
  | (c, none, ts) :: r => fun cls d σ H => ∃ b, PySem.W.exmOne K cls c = some b ∧ (b = true → ∀ a, H a = none → ts a cls d D σ H) ∧ (b = false → wMix K Wout D r cls d σ H)
  | (c, some i, ts) :: r => fun cls d σ H => ∃ b, PySem.W.exmOne K cls c = some b ∧ (b = true → ∀ a, H a = none → ts a cls d (cutE i D) (σ.set i (some (.ref a))) H) ∧ (b = false → wMix K Wout D r cls d σ H)
inductive Hx (X : Cx) : List ExceptHandler → List Cla → Prop
  | nil : Hx X [] []
  | only {x : Str} {c : Value} {ts : Addr → Value → Option Addr → TS} {z : Stmt} {zs : List Stmt} {np p2 : Pos} {hds : List ExceptHandler} {l : List Cla} (hc : Names X x c)
      (su : ∀ (a : Addr) (oe : Obj) (cls : Value) (d : Option Addr) (pn : List (Addr × Obj)), Zc cls d oe → (∃ vs, oe.data = .fields vs) → PSs (X.suite a ((a, oe) :: pn)) (z :: zs) (ts a cls d)) (r : Hx X hds l) :
      Hx X (.ExceptHandler (some (.Name x np)) none (z :: zs) p2 :: hds) ((c, none, ts) :: l)
  | named {x n : Str} {i : Nat} {c : Value} {ts : Addr → Value → Option Addr → TS} {z : Stmt} {zs : List Stmt} {np p2 : Pos} {hds : List ExceptHandler} {l : List Cla} (hc : Names X x c) (hi : X.N[i]? = some n) (hn : X.env.kindOf n = some .local)
      (su : ∀ (a : Addr) (oe : Obj) (cls : Value) (d : Option Addr) (pn : List (Addr × Obj)), Zc cls d oe → (∃ vs, oe.data = .fields vs) → PSs (X.suite a ((a, oe) :: pn)) (z :: zs) (ts a cls d)) (r : Hx X hds l) :
      Hx X (.ExceptHandler (some (.Name x np)) (some n) (z :: zs) p2 :: hds) ((c, some i, ts) :: l)
section
variable {X : Cx} {body : List Stmt} {h0 : ExceptHandler} {hds : List ExceptHandler} {l : List Cla} {pos : Pos} {tb : L2.WX → TS} {Wout : L2.WX}
theorem ps_mix (hs : X.stack = X.env :: X.outer) (hf : X.env.frame = some X.env.locals) (hN : X.N.Nodup) (tk : L2.Takes X Wout)
    (hb : ∀ (W : L2.WX) (pn : List (Addr × Obj)) (xe : Value → Shared → Prop), L2.Takes (X.tr pn xe) W → PassesOwn (model X.prog X.w) X.A X.env xe → PSs (X.tr pn xe) body (tb W)) (hh : Hx X (h0 :: hds) l) :
    PS X (.Try body (h0 :: hds) [] [] pos) (fun D σ H => tb (wMix X.K Wout D l) D σ H) := by
  refine ⟨fun pins s σ H D I h => ?_⟩
  have ok := I.ok
  have frE : X.A.frames = some (X.env :: X.outer) := by rw [ok.frames, hs]
  refine wpAny_Try_except ?_
  refine wpAny_mono ((hb (wMix X.K Wout D l) (X.pn ++ pins) (fun e s1 => wpAny (model X.prog X.w) X.A (noteFrame e X.env) (fun _ s2 => wpAny (model X.prog X.w) X.A (setFlight e none) (fun _ s3 =>
    wpAny (model X.prog X.w) X.A (handleBy e X.env (h0 :: hds)) (SP X pins D) X.xe s3) X.xe s2) X.xe s1) (fun u s2 xx => ?_) PassesOwn.looking).run [] s σ H D (I.toTry _) h) (fun f s1 q => ?_) (fun e s1 he => he)
  · obtain ⟨a, B, sI, ps2, σ2, H2, cls, d, rfl, J0, nb, up, sk, na, os, ag, w⟩ := xx
    have J : Inv X pins σ2 H2 sI := J0.ofTry ok
    have sk2 : Sky B (X.env :: X.outer) a (Zc cls d) X.env.locals s2.heap := by rw [← hs]; exact sk
    show wpAny (model X.prog X.w) X.A (noteFrame (.ref a) X.env) _ _ _
    refine Sky.land Zc.steady frE hf sk2 fun h3 fl3 up3 => ?_
    have J3 : Inv X pins σ2 H2 { s2 with heap := h3 } := J.landed nb fl3.1 (up.trans up3) os ag
    obtain ⟨oe3, vs3, he3, hz3, hd3⟩ := fl3.there
    have nfr : a ∉ frs (X.env :: X.outer) := fun hm => by
      obtain ⟨_, o2, e2, hnf⟩ := fl3.2.2.1.mem hm
      rw [he3] at e2
      cases e2
      exact hnf _ hd3
    have nL : a ≠ X.env.locals := fun z => nfr (List.mem_filterMap.mpr ⟨X.env, List.mem_cons_self, by rw [hf, z]⟩)
    have nF : a ∉ X.fs := fun hm => by
      obtain ⟨e, he, q⟩ := List.mem_filterMap.mp hm
      exact nfr (List.mem_filterMap.mpr ⟨e, List.mem_cons_of_mem _ he, q⟩)
    have S3 := J3.suite he3 hd3 na nL nF
    have LT : PySem.W.Looks (model X.prog X.w) h3 (typeOf (.ref a)) cls := fun A Q E s k q => wpAny_typeOf_ref (k _ _ he3) (by rw [hz3.1]; exact q)
    have test : ∀ {x : Str} {np : Pos} {c : Value} {Q : Value → Shared → Prop} {E : Value → Shared → Prop}, Names X x c → Q c { s2 with heap := h3 } → wpAny (model X.prog X.w) (X.A.mark (some (.ref a))) (eval (.Name x np) X.env) Q E { s2 with heap := h3 } := fun {x np c Q E} hc q => by
      obtain ⟨hg, hdb, hm | ⟨hm, hv, hnn⟩⟩ := hc
      · exact ld_glob (X := X.suite a ((a, oe3) :: (X.pn ++ pins))) S3 hg hm q hdb
      · exact ld_blt (X := X.suite a ((a, oe3) :: (X.pn ++ pins))) S3 hg hm hv q hnn hdb
    have go : ∀ {hs2 : List ExceptHandler} {l2 : List Cla}, Hx X hs2 l2 → wMix X.K Wout D l2 cls d σ2 H2 → wpAny (model X.prog X.w) X.A (handleBy (.ref a) X.env hs2) (SP X pins D) X.xe { s2 with heap := h3 } := by
      intro hs2 l2 hk
      induction hk with
      | nil =>
        intro w
        refine wpAny_handleBy_nil ?_
        obtain ⟨k1, k2, k3, oe, vs, T, oT, ts2, he, hz, hd, h1, hr⟩ := id fl3
        unfold PySem.passOn
        refine wpAny_bind (wpAny_field he hd h1 ?_)
        rw [if_neg (show ¬ ((Value.ref T == Value.none) = true) from by simp)]
        have out : wpAny (model X.prog X.w) X.A (setFlight (.ref a) X.env.frame) (fun _ s4 => wpAny (model X.prog X.w) X.A (throw (.ref a) : Sem Flow) (SP X pins D) X.xe s4) X.xe { s2 with heap := h3 } := by
          rw [hf]
          exact HandSPX.setFlight_upZ fl3 fun h4 hh4 up4 => wpAny_throw (tk _ _ ⟨a, B, sI, pins, σ2, H2, cls, d, rfl, J, nb, (up.trans up3).trans up4, .inr (.inr (by rw [hs]; exact hh4)), na, os, ag, w⟩)
        first
          | exact wpAny_bind (wpAny_pure (wpAny_bind out))
          | exact wpAny_bind out
      | @only x c ts z zs np p2 hd2 ls hc su r ih =>
        intro w
        obtain ⟨b, hb1, hy, hno⟩ := w
        refine wpAny_handleBy_cons (codeAny_handlers_test (test hc ((PySem.W.exm_one (M := model X.prog X.w) (J3.kIn) LT hb1).here ?_))) (by intro q; cases q)
        cases b with
        | false => exact ih (hno rfl)
        | true =>
          refine codeAny_handlers_suite (HandSPX.lands_againZ fl3 fun h4 fl4 up4 => ?_)
          have J4 : Inv X pins σ2 H2 { s2 with heap := h4 } := J.landed nb fl4.1 ((up.trans up3).trans up4) os ag
          obtain ⟨oe4, vs4, he4, hz4, hd4⟩ := fl4.there
          have S4 := J4.suite he4 hd4 na nL nF
          refine wpAny_mono ((su a oe4 cls d (X.pn ++ pins) hz4 ⟨_, hd4⟩).run [] _ _ H2 _ S4 (hy rfl a na)) (fun f s6 q => ?_) (fun _ _ z => False.elim z)
          cases f with
          | next => obtain ⟨σ6, H6, S6, q6⟩ := q; exact ⟨_, _, S6.unsuite ok, q6⟩
          | brk => obtain ⟨σ6, H6, S6, q6⟩ := q; exact ⟨_, _, S6.unsuite ok, q6⟩
          | cont => obtain ⟨σ6, H6, S6, q6⟩ := q; exact ⟨_, _, S6.unsuite ok, q6⟩
          | ret u => obtain ⟨v6, σ6, H6, S6, r6, q6⟩ := q; exact ⟨_, _, _, S6.unsuite ok, r6, q6⟩
      | @named x n i c ts z zs np p2 hd2 ls hc hi hn su r ih =>
        intro w
        obtain ⟨b, hb1, hy, hno⟩ := w
        refine wpAny_handleBy_cons (codeAny_handlers_test (test hc ((PySem.W.exm_one (M := model X.prog X.w) (J3.kIn) LT hb1).here ?_))) (by intro q; cases q)
        cases b with
        | false => exact ih (hno rfl)
        | true =>
          refine codeAny_handlers_suite_as (HandSPX.lands_againZ fl3 fun h4 fl4 up4 => ?_)
          have J4 : Inv X pins σ2 H2 { s2 with heap := h4 } := J.landed nb fl4.1 ((up.trans up3).trans up4) os ag
          obtain ⟨oe4, vs4, he4, hz4, hd4⟩ := fl4.there
          have S4 := J4.suite he4 hd4 na nL nF
          refine store_ok (X := X.suite a ((a, oe4) :: (X.pn ++ pins))) (v := .ref a) S4 hN hi (.inl hn) rfl (fun s5 S5 => ?_) (.inr hn)
          refine wpAny_mono ((su a oe4 cls d (X.pn ++ pins) hz4 ⟨_, hd4⟩).run [] s5 _ H2 _ S5 (hy rfl a na)) (fun f s6 q => ?_) (fun _ _ z => False.elim z)
          have fin2 : ∀ {σ6 : L2.St} {H6 : Hp} {Q : Shared → Prop}, Inv (X.suite a ((a, oe4) :: (X.pn ++ pins))) [] σ6 H6 s6 → (∀ s7, Inv X pins (σ6.set i none) H6 s7 → Q s7) →
              wpAny (model X.prog X.w) X.A (do bindName X.env n .none; unbindBehindTheSuite X.env n p2) (fun _ s7 => Q s7) X.xe s6 := fun {σ6 H6 Q} S6 hq => gone_ok (S6.unsuite ok) hN hi hn hq
          cases f with
          | next => obtain ⟨σ6, H6, S6, q6⟩ := q; exact fin2 S6 fun s7 J7 => ⟨_, _, J7, q6⟩
          | brk => obtain ⟨σ6, H6, S6, q6⟩ := q; exact fin2 S6 fun s7 J7 => ⟨_, _, J7, q6⟩
          | cont => obtain ⟨σ6, H6, S6, q6⟩ := q; exact fin2 S6 fun s7 J7 => ⟨_, _, J7, q6⟩
          | ret u => obtain ⟨v6, σ6, H6, S6, r6, q6⟩ := q; exact fin2 S6 fun s7 J7 => ⟨_, _, _, J7, r6, q6⟩
    exact go hh w
  · cases f with
    | next => obtain ⟨σ2, H2, J, q⟩ := q; exact wpAny_execs_nil ⟨σ2, H2, J.ofTry ok, q⟩
    | brk => obtain ⟨σ2, H2, J, q⟩ := q; exact ⟨σ2, H2, J.ofTry ok, q⟩
    | cont => obtain ⟨σ2, H2, J, q⟩ := q; exact ⟨σ2, H2, J.ofTry ok, q⟩
    | ret u => obtain ⟨v, σ2, H2, J, r, q⟩ := q; exact ⟨v, σ2, H2, J.ofTry ok, r, q⟩
end
section
variable {P : Par} {g : Cfg} {sub : Nat → Nat → Bool} {X : Cx} {W : Wsh} {Φ : Fns} {pos : Pos}
/-- what clauses must do -/
def ClOk (P : Par) (W : Wsh) (X : Cx) (hds : List ExceptHandler) (fh : Nat → Env → Fl) : Prop := ∃ ls : List Cla, Hx X hds ls ∧ ∀ D B j e, goal P W D B (fh j e) → ∀ σ F H, Sta P F H σ e → Same B F → wMix X.K (wxOf P W) D ls (P.cls j) none σ H
theorem cl_nil : ClOk P W X [] fun j e => .xc j e := ⟨[], .nil, fun D B j e q σ F H st sb => ⟨j, rfl, rfl, q σ F H st sb⟩⟩
theorem cl_only (c : Sc P g sub X W Φ) {x : Str} {k : Nat} {z : Stmt} {zs : List Stmt} {np p2 : Pos} {hds : List ExceptHandler} {fs : Env → Fl} {fh : Nat → Env → Fl} (hn : handB g k X.env.scope x = true)
    (hh : ∀ (P2 : Par) (X2 : Cx), Sc P2 { g with hot := true } sub X2 Wno Φ → X2.env = X.env → PSs X2 (z :: zs) (rdS P2 Wno fs)) (r : ClOk P W X hds fh) :
    ClOk P W X (.ExceptHandler (some (.Name x np)) none (z :: zs) p2 :: hds) fun j e => if sub j k = true then (if noEr e = true then sfin (fun e => e) (fs e) else .bad) else fh j e := by
  obtain ⟨cv, hcv, hem⟩ := names_of c hn
  obtain ⟨ls, hx, hw⟩ := r
  refine ⟨_, .only hcv (suite_of c hn hh true) hx, fun D B j e q σ F H st sb => ⟨sub j k, hem j, fun hb a na => ⟨j, rfl, rfl, ?_⟩, fun hb => ?_⟩⟩
  · dsimp only at q
    rw [if_pos hb] at q
    split at q
    · exact ⟨B, F, e, st.era ‹_› _, sb, goal_sfin (D := D) (fe := fun e => e) (fs := fun σ => σ) (fun s => s) (fun _ _ h => h) (fun _ _ h => h) (fun _ _ h => h) (fun _ _ h => h) q⟩
    · exact q.elim
  · dsimp only at q
    rw [if_neg (by rw [hb]; exact Bool.false_ne_true)] at q
    exact hw D B j e q σ F H st sb
theorem cl_named (c : Sc P g sub X W Φ) {x n : Str} {k i : Nat} {z : Stmt} {zs : List Stmt} {np p2 : Pos} {hds : List ExceptHandler} {fs : Env → Fl} {fh : Nat → Env → Fl} (hn : handB g k X.env.scope x = true) (hi : locN g X.env.scope i n = true)
    (hh : ∀ (P2 : Par) (X2 : Cx), Sc P2 { g with hot := true } sub X2 Wno Φ → X2.env = X.env → PSs X2 (z :: zs) (rdS P2 Wno fs)) (r : ClOk P W X hds fh) :
    ClOk P W X (.ExceptHandler (some (.Name x np)) (some n) (z :: zs) p2 :: hds) fun j e => if sub j k = true then (if noEr e = true then sfin (fun e => e.set i none) (fs (e.set i (some (.er j)))) else .bad) else fh j e := by
  obtain ⟨cv, hcv, hem⟩ := names_of c hn
  obtain ⟨i1, i2⟩ := locN_of c.ct hi
  obtain ⟨ls, hx, hw⟩ := r
  refine ⟨_, .named hcv i1 i2 (suite_of c hn hh true) hx, fun D B j e q σ F H st sb => ⟨sub j k, hem j, fun hb a na => ⟨j, rfl, rfl, ?_⟩, fun hb => ?_⟩⟩
  · dsimp only at q
    rw [if_pos hb] at q
    split at q
    · rename_i hne
      refine ⟨B, F, _, (st.era hne (fun b k => b = a ∧ k = j)).put (z := .er j) (x := .ref a) (fun _ z => nomatch z) ⟨a, rfl, rfl, rfl⟩, sb, ?_⟩
      refine goal_sfin (D := D) (fe := fun e => e.set i none) (fs := fun σ => σ.set i none) (fun s => s.forget i none) ?_ ?_ ?_ ?_ q
      · exact fun _ _ h => h
      · exact fun _ _ h => h
      · exact fun _ _ h => h
      · exact fun _ _ h => h
    · exact q.elim
  · dsimp only at q
    rw [if_neg (by rw [hb]; exact Bool.false_ne_true)] at q
    exact hw D B j e q σ F H st sb
theorem S_tryM (c : Sc P g sub X W Φ) (hh : g.hot = false) {b : List Stmt} {h0 : ExceptHandler} {hds : List ExceptHandler} {fb : Env → Fl} {fh : Nat → Env → Fl} (hb : ∀ (X2 : Cx) (W2 : Wsh), Sc P g sub X2 W2 Φ → X2.env = X.env → PSs X2 b (rdS P W2 fb)) (hc : ClOk P W X (h0 :: hds) fh) :
    PS X (.Try b (h0 :: hds) [] [] pos) (rdS P W fun env => (match fb env with
      | .xc j e => fh j e
      | r => r)) := by
  obtain ⟨ls, hx, hw⟩ := hc
  refine (ps_mix (tb := fun W2 => rdS P (unW P W2) fb) c.stk c.fr (nd_of c.ct) c.tk (body_of c hh hb) hx).imp fun D σ H ⟨B, F, env, st, sb, q⟩ => ⟨B, F, env, st, sb, ?_⟩
  dsimp only at q
  cases e : fb env with
  | nx _ => rw [e] at q; exact q
  | bk _ => rw [e] at q; exact q
  | ct _ => rw [e] at q; exact q
  | rt s => rw [e] at q; cases s <;> exact q
  | bad => rw [e] at q; exact q
  | xc j e2 =>
    rw [e] at q
    exact fun σ F H st sb => hw D B j e2 q σ F H st sb
theorem S_ownC (c : Sc P g sub X W Φ) {i j : Nat} {x y : Str} {l : Expr} {es : List Expr} {p px pc : Pos} {f1 : Env → Rs D} {fl : Env → Rs (List D)} (hi : locN g X.env.scope i x = true) (hh : g.hot = false) (hy : glB X.env.scope y = true) (hj : g.fs[j]? = some (y, es.length + 1)) (hs : nst l = true) (hns : (backTo pc (starEach es X.env)).any (·.1) = false)
    (ha : PE X l (rd P W f1)) (hl : PA X es (rds P W fl)) (hlen : ∀ env ds, fl env = .ok ds → ds.length = es.length) :
    PS X (.Assign [.Name x px] (.Call (.Name y p) (l :: es) [] pc) pos) (rdS P W fun env => exR ((f1 env).bind fun x => (fl env).bind fun xs => Φ j (x :: xs)) env fun z => (match z with | .ow ds => .nx (env.set i (some (.ow ds))) | _ => .bad)) := by
  obtain ⟨i1, i2⟩ := locN_of c.ct hi
  obtain ⟨gx, dx, nx⟩ := gl_of hy
  obtain ⟨fa, fd, ps, k, hm, kp, hb, hr, FO⟩ := c.ct.fns hh j y _ hj
  refine (ps_set (nd_of c.ct) i1 (.inl i2) (pe_callS FO hr gx hm kp hb (E := WE fun cls d σ H => ∃ k, cls = P.cls k ∧ d = none ∧ W k σ H) (fun σ => c.ct.pa σ) (a_cons hs ha hl) dx (star_of hs) hns) (sw_no rfl) (.inr i2)).imp fun D σ H ⟨B, F, env, st, sb, q⟩ => ⟨F, env, st, ?_⟩
  dsimp only at q
  have e : ((f1 env).bind fun x => (fl env).bind fun xs => Φ j (x :: xs)) = (((f1 env).bind fun x => (fl env).bind fun xs => .ok (x :: xs)).bind fun xs => Φ j xs) := by
    cases f1 env with
    | ok x => cases fl env <;> rfl
    | _ => rfl
  rw [e] at q
  have hn : ∀ ds, ((f1 env).bind fun x => (fl env).bind fun xs => .ok (x :: xs)) = .ok ds → ds.length = es.length + 1 := fun ds e1 => by
    cases e2 : f1 env with
    | ok a =>
      rw [e2] at e1
      cases e3 : fl env with
      | ok b =>
        have e1 : ((fl env).bind fun xs => Rs.ok (a :: xs)) = .ok ds := e1
        rw [e3] at e1
        cases e1
        rw [List.length_cons, hlen env b e3]
      | exc k => have e1 : ((fl env).bind fun xs => Rs.ok (a :: xs)) = .ok ds := e1; rw [e3] at e1; cases e1
      | bad => have e1 : ((fl env).bind fun xs => Rs.ok (a :: xs)) = .ok ds := e1; rw [e3] at e1; cases e1
    | exc k => rw [e2] at e1; cases e1
    | bad => rw [e2] at e1; cases e1
  show post (DpAll P.K) W σ F H ((f1 env).bind fun x => (fl env).bind fun xs => .ok (x :: xs)) _
  cases er : ((f1 env).bind fun x => (fl env).bind fun xs => .ok (x :: xs)) with
  | bad => rw [er] at q; exact q.elim
  | exc k =>
    rw [er] at q
    exact fun F1 H1 x1 => q σ F1 H1 (st.mono x1) (sb.trans x1.ff)
  | ok ds =>
    rw [er] at q
    refine fun F1 H1 vs x1 rx => ⟨by rw [dps_len rx]; exact hn ds er, (tabs_at c.ct.tb (st.mono x1)).1, F1, ds, (tabs_at c.ct.tb (st.mono x1)).2, x1.fh, rx, ?_⟩
    have q : goal P W D B (exR (Φ j ds) env fun z => (match z with | .ow ds => .nx (env.set i (some (.ow ds))) | _ => .bad)) := q
    have st1 := st.mono x1
    cases ez : Φ j ds with
    | bad => rw [ez] at q; exact q.elim
    | exc k => rw [ez] at q; exact fun F2 H2 x2 => ⟨k, rfl, rfl, q σ F2 H2 (st1.mono x2) (sb.trans (x1.ff.trans x2.ff))⟩
    | ok z =>
      rw [ez] at q
      cases z with
      | fr d => exact q.elim
      | er k => exact q.elim
      | ow os =>
        refine fun F2 H2 a ws x2 hp hf hH hd => q _ F2 H2 ((st1.mono x2).putO (st1.ext.hh.non hp) hf hH hd fun j2 ne es2 e1 e2 => ?_) (sb.trans (x1.ff.trans x2.ff))
        obtain ⟨a2, vs2, e3, _, _, h4, _⟩ := st1.sl j2 _ e1
        rw [e2] at e3
        cases e3
        rw [hp] at h4
        cases h4
theorem S_aug (c : Sc P g sub X W Φ) {i : Nat} {x : Str} {e : Expr} {op : Operator} {p : Pos} {f : Env → Rs D} {ng : Bool} (hi : locN g X.env.scope i x = true) (he : PE X e (rd P W f)) (ho : PIp X op (ipI fun a b => if ng = true then a - b else a + b)) :
    PS X (.AugAssign (.Name x p) op e pos) (rdS P W fun env => (match env[i]? with
      | some (some (.fr (.int x))) => exR (f env) env fun d => (match d with | .int y => .nx (env.set i (some (.fr (.int (if ng = true then x - y else x + y))))) | _ => .bad)
      | _ => .bad)) := by
  obtain ⟨i1, i2⟩ := locN_of c.ct hi
  refine (ps_aug (nd_of c.ct) i1 (.inl i2) he ho (.inr i2)).imp fun D σ H ⟨B, F, env, st, sb, q⟩ => ?_
  dsimp only at q
  split at q
  case h_2 => exact q.elim
  rename_i n e1
  obtain ⟨v, ev1, hv⟩ := st.sl i _ e1
  refine ⟨v, ev1, F, env, st, post_exR st sb q fun d F1 H1 w e2 x1 rw1 q1 => ?_⟩
  cases d with
  | int y =>
    rw [dp_int rw1, dp_int hv]
    exact ⟨n, y, rfl, rfl, q1 _ F1 H1 ((st.mono x1).putD (.int _)) (sb.trans x1.ff)⟩
  | _ => exact q1.elim
/-- several names -/
theorem G_names (c : Sc P g sub X W Φ) : ∀ (is : List Nat) (ns : List Expr), chkNs g X.env.scope is ns = true → ∃ t, PGs X ns t ∧ (assignEach ns X.env).length = is.length ∧ (assignEach ns X.env).findIdx? (·.1) = none ∧
    ∀ (ds : List PyData) (vs : List V) (σ : L2.St) (F H : Hp) (env : Env) (Q : L2.St → Hp → Prop), ds.length = is.length → DpAll P.K F vs ds → Sta P F H σ env → (∀ σ2, Sta P F H σ2 (bindE (is.zip ds) env) → Q σ2 H) → t vs σ H Q
  | [], [], _ => ⟨gNil, pgs_nil, rfl, rfl, fun ds vs σ F H env Q hl hd st h => by
    cases hd with
    | nil => exact ⟨rfl, h σ st⟩
    | cons _ _ => cases hl⟩
  | [], _ :: _, h => absurd (show false = true from h) Bool.false_ne_true
  | _ :: _, [], h => absurd (show false = true from h) Bool.false_ne_true
  | i :: is, n :: ns, h => by
    cases n with
    | Name x p =>
      have h : (locN g X.env.scope i x && chkNs g X.env.scope is ns) = true := h
      obtain ⟨h1, h2⟩ := and2 h
      obtain ⟨i1, i2⟩ := locN_of c.ct h1
      obtain ⟨t, p1, p2, p3, p4⟩ := G_names c is ns h2
      refine ⟨_, pgs_cons (pg_name (i := i) (nd_of c.ct) i1 (.inl i2) (.inr i2)) p1, ?_, ?_, fun ds vs σ F H env Q hl hd st h => ?_⟩
      · show (_ :: assignEach ns X.env).length = _
        rw [List.length_cons, p2]
        rfl
      · show List.findIdx? _ (_ :: assignEach ns X.env) = none
        rw [List.findIdx?_cons, p3]
        rfl
      · cases hd with
        | nil => cases hl
        | cons r hd =>
          exact ⟨_, _, rfl, p4 _ _ _ F H _ Q (Nat.succ.inj hl) hd (st.putD r) h⟩
    | _ => exact absurd (show false = true from h) Bool.false_ne_true
theorem S_unp (c : Sc P g sub X W Φ) (hh : g.hot = false) {is : List Nat} {ns : List Expr} {e : Expr} {k : Nat} {tp : Pos} {f : Env → Rs D} (hn : chkNs g X.env.scope is ns = true) (ht : notTup e = true) (hl : nlc e = true) (he : PE X e (rd P W f)) :
    PS X (.Assign [.Tuple ns k tp] e pos) (rdS P W fun env => exR (f env) env fun d => (match d with | .tuple ds => if ds.length = is.length then .nx (bindE (is.zip ds) env) else .bad | _ => .bad)) := by
  obtain ⟨t, p1, p2, p3, p4⟩ := G_names c is ns hn
  refine (ps_asg he (pg_tup (n := is.length) (c.ct.calm hh) p1 p2 p3) (by show swapsWith e (some (.Tuple ns k tp)) pos.line X.env = pure false; exact sw_no hl) (by cases e <;> first | rfl | exact absurd ht Bool.false_ne_true)).imp fun D σ H ⟨B, F, env, st, sb, q⟩ => ⟨F, env, st, post_exR st sb q fun d F1 H1 v e1 x1 rv q1 => ?_⟩
  cases d with
  | tuple ds =>
    dsimp only at q1
    split at q1
    · rename_i hz
      obtain ⟨a, vs, rfl, qa, da⟩ := dp_tup rv
      exact ⟨a, vs, rfl, by rw [c.ct.k]; exact same_seqT x1.fh qa, by rw [dps_len da]; exact hz, p4 ds vs σ F1 H1 env _ hz da (st.mono x1) fun σ2 st2 => q1 σ2 F1 H1 st2 (sb.trans x1.ff)⟩
    · exact q1.elim
  | _ => exact q1.elim
end
end Q

set_option Elab.async false
set_option linter.all false
set_option maxRecDepth 100000
set_option autoImplicit false
set_option maxHeartbeats 8000000
namespace Q
open PySem PySem.Spec PyProof.Rows L2
section
variable {sub : Nat → Nat → Bool} {Φ : Fns} {L : Nat}
structure SndT (sub : Nat → Nat → Bool) (Φ : Fns) (L : Nat) (t : St) : Prop where
  v : ∀ {P : Par} {g : Cfg} {X : Cx} {W : Wsh} (c : Sc P g sub X W Φ) (hk : X.env.scope.kind = .function) (s : Stmt), chkS g t X.env.scope s = true → PS X s (rdS P W (xs1 SS sub Φ L t))
structure SndTs (sub : Nat → Nat → Bool) (Φ : Fns) (L : Nat) (t : Sts) : Prop where
  v : ∀ {P : Par} {g : Cfg} {X : Cx} {W : Wsh} (c : Sc P g sub X W Φ) (hk : X.env.scope.kind = .function) (s : List Stmt), chkSs g t X.env.scope s = true → PSs X s (rdS P W (xs SS sub Φ L t))
structure SndHs (sub : Nat → Nat → Bool) (Φ : Fns) (L : Nat) (t : Hds) : Prop where
  v : ∀ {P : Par} {g : Cfg} {X : Cx} {W : Wsh} (c : Sc P g sub X W Φ) (hk : X.env.scope.kind = .function) (l : List ExceptHandler), chkHs g t X.env.scope l = true → ClOk P W X l (xsH SS sub Φ L t)
structure SndMs (sub : Nat → Nat → Bool) (Φ : Fns) (L : Nat) (t : Mcs) : Prop where
  v : ∀ {P : Par} {g : Cfg} {X : Cx} {W : Wsh} (c : Sc P g sub X W Φ) (hk : X.env.scope.kind = .function) (hh : g.hot = false) (l : List MatchCase), chkMs g t X.env.scope l = true → PMs X l (rdM P W (xsM SS sub Φ L t))
theorem _root_.Q.PS.cong {X : Cx} {s : Stmt} {P : Par} {W : Wsh} {f f' : Env → Fl} (h : PS X s (rdS P W f)) (e : ∀ env, f env = f' env) : PS X s (rdS P W f') := h.imp fun D σ H ⟨B, F, env, st, sb, q⟩ => ⟨B, F, env, st, sb, by rw [e env]; exact q⟩
mutual
theorem sndT : ∀ t : St, SndT sub Φ L t
  | .set i e => ⟨fun c hk s h => by
    unfold chkS at h
    split at h
    · obtain ⟨h1, h3⟩ := and2 h
      obtain ⟨h1, h2⟩ := and2 h1
      exact S_set c h1 h2 ((snd e).v c.ct _ h3)
    · exact no_of h⟩
  | .setC i e => ⟨fun {P g X W} c hk s h => by
    unfold chkS at h
    split at h
    · split at h
      · obtain ⟨h1, h8⟩ := and2 h
        obtain ⟨h1, h7⟩ := and2 h1
        obtain ⟨h1, h6⟩ := and2 h1
        obtain ⟨h1, h5⟩ := and2 h1
        obtain ⟨h1, h4⟩ := and2 h1
        obtain ⟨h1, h3⟩ := and2 h1
        obtain ⟨h1, h2⟩ := and2 h1
        obtain ⟨hi, hset⟩ := (sndI _).v c.ct (.Name _ _) _ false (fun z => nomatch z) h7
        exact S_setC c h1 h2 (not1 h3) (not1 h4) h5 h6 hi hset (fun X' c' es => (snd _).v c' _ (by rw [es]; exact h8)) hk
      · exact no_of h
    · exact no_of h⟩
  | .own i e => ⟨fun {P g X W} c hk s h => by
    unfold chkS at h
    split at h
    · obtain ⟨h1, h4⟩ := and2 h
      obtain ⟨h1, h3⟩ := and2 h1
      obtain ⟨h1, h2⟩ := and2 h1
      refine S_own c h1 h2 (f := ev SS Φ e) ?_
      unfold isOwn at h3
      split at h3
      · unfold chk at h4
        split at h4
        · exact own_lst ((snds _).v c.ct _ h4)
        · exact no_of h4
      · unfold chk at h4
        split at h4
        · rename_i xn _ l ls _ _
          obtain ⟨h5, h10⟩ := and2 h4
          obtain ⟨h5, h9⟩ := and2 h5
          obtain ⟨h5, h8⟩ := and2 h5
          obtain ⟨h5, h7⟩ := and2 h5
          obtain ⟨h5, h6⟩ := and2 h5
          cases ls with
          | nil => exact own_list c.ct h6 (dec1 h7) h8 ((snd _).v c.ct _ h9)
          | cons _ _ => exact no_of h10
        · exact no_of h4
      · exact no_of h3
    · exact no_of h⟩
  | .frz i => ⟨fun c hk s h => no_of (show false = true by unfold chkS at h; exact h)⟩
  | .app i e => ⟨fun c hk s h => by
    unfold chkS at h
    split at h
    · obtain ⟨h1, h5⟩ := and2 h
      obtain ⟨h1, h4⟩ := and2 h1
      obtain ⟨h1, h3⟩ := and2 h1
      obtain ⟨h1, h2⟩ := and2 h1
      exact S_app c h1 (dec1 h2) h3 h4 ((snd e).v c.ct _ h5)
    · exact no_of h⟩
  | .ext i e => ⟨fun c hk s h => by
    unfold chkS at h
    split at h
    · obtain ⟨h1, h5⟩ := and2 h
      obtain ⟨h1, h4⟩ := and2 h1
      obtain ⟨h1, h3⟩ := and2 h1
      obtain ⟨h1, h2⟩ := and2 h1
      exact S_ext c h1 (dec1 h2) h3 h4 ((snd e).v c.ct _ h5)
    · exact no_of h⟩
  | .put i j e => ⟨fun c hk s h => by
    unfold chkS at h
    split at h
    · obtain ⟨h1, h5⟩ := and2 h
      obtain ⟨h1, h4⟩ := and2 h1
      obtain ⟨h1, h3⟩ := and2 h1
      obtain ⟨h1, h2⟩ := and2 h1
      exact S_put c h1 h2 h3 ((snd j).v c.ct _ h4) ((snd e).v c.ct _ h5)
    · exact no_of h⟩
  | .ret e => ⟨fun c hk s h => by
    unfold chkS at h
    split at h
    · exact S_ret ((snd e).v c.ct _ h)
    · cases e <;> first | exact S_retN | exact no_of h
    · exact no_of h⟩
  | .retO i => ⟨fun c hk s h => by
    unfold chkS at h
    split at h
    · exact S_retO c h
    · exact no_of h⟩
  | .exp e => ⟨fun c hk s h => by
    unfold chkS at h
    split at h
    · obtain ⟨h1, h2⟩ := and2 h
      exact S_exp h1 ((snd e).v c.ct _ h2)
    · exact no_of h⟩
  | .doc => ⟨fun c hk s h => by
    unfold chkS at h
    split at h
    · exact S_nx ps_doc
    · exact no_of h⟩
  | .pas => ⟨fun c hk s h => by
    unfold chkS at h
    split at h
    · exact S_nx ps_pass
    · exact no_of h⟩
  | .brk => ⟨fun c hk s h => by
    unfold chkS at h
    split at h
    · exact S_brk
    · exact no_of h⟩
  | .cnt => ⟨fun c hk s h => by
    unfold chkS at h
    split at h
    · exact S_cnt
    · exact no_of h⟩
  | .ifs c0 a b => ⟨fun c hk s h => by
    unfold chkS at h
    split at h
    · obtain ⟨h1, h4⟩ := and2 h
      obtain ⟨h1, h3⟩ := and2 h1
      obtain ⟨h1, h2⟩ := and2 h1
      exact S_if ((snd c0).b h1 c.ct _ h2) ((sndTs a).v c hk _ h3) ((sndTs b).v c hk _ h4)
    · exact no_of h⟩
  | .forI i it b => ⟨fun c hk s h => by
    unfold chkS at h
    split at h
    · obtain ⟨h1, h4⟩ := and2 h
      obtain ⟨h1, h3⟩ := and2 h1
      obtain ⟨h1, h2⟩ := and2 h1
      obtain ⟨hi, hset⟩ := (sndI it).v c.ct (.Name _ _) _ false (fun z => nomatch z) h3
      exact S_for c (not1 h1) h2 hi hset ((sndTs b).v c hk _ h4)
    · exact no_of h⟩
  | .for2 i j it b => ⟨fun c hk s h => by
    unfold chkS at h
    split at h
    · obtain ⟨h1, h5⟩ := and2 h
      obtain ⟨h1, h4⟩ := and2 h1
      obtain ⟨h1, h3⟩ := and2 h1
      obtain ⟨h1, h2⟩ := and2 h1
      obtain ⟨hi, hset⟩ := (sndI it).v c.ct (.Tuple [.Name _ _, .Name _ _] _ _) _ true (fun _ => ⟨_, _, _, rfl⟩) h4
      exact S_for2 c (not1 h1) h2 h3 hi hset ((sndTs b).v c hk _ h5)
    · exact no_of h⟩
  | .whl c0 b => ⟨fun c hk s h => by
    unfold chkS at h
    split at h
    · obtain ⟨h1, h3⟩ := and2 h
      obtain ⟨h1, h2⟩ := and2 h1
      exact S_while c ((snd c0).b h1 c.ct _ h2) ((sndTs b).v c hk _ h3)
    · exact no_of h⟩
  | .rse k e => ⟨fun c hk s h => by
    unfold chkS at h
    split at h
    · obtain ⟨h1, h5⟩ := and2 h
      obtain ⟨h1, h4⟩ := and2 h1
      obtain ⟨h1, h3⟩ := and2 h1
      obtain ⟨h1, h2⟩ := and2 h1
      exact S_rse c (not1 h1) h2 (dec1 h3) h4 ((snd e).v c.ct _ h5)
    · exact no_of h⟩
  | .tryO b k hd => ⟨fun {P g X W} c hk s h => by
    unfold chkS at h
    split at h
    · obtain ⟨h1, h3⟩ := and2 h
      obtain ⟨h1, h2⟩ := and2 h1
      exact S_tryO c h1 (fun X' W' c' es => (sndTs b).v c' (by rw [es]; exact hk) _ (by rw [es]; exact h2)) (fun P' X' c' es => (sndTs hd).v c' (by rw [es]; exact hk) _ (by rw [es]; exact h3))
    · exact no_of h⟩
  | .tryA b k i hd => ⟨fun {P g X W} c hk s h => by
    unfold chkS at h
    split at h
    · obtain ⟨h1, h4⟩ := and2 h
      obtain ⟨h1, h3⟩ := and2 h1
      obtain ⟨h1, h2⟩ := and2 h1
      exact S_tryA c h1 h2 (fun X' W' c' es => (sndTs b).v c' (by rw [es]; exact hk) _ (by rw [es]; exact h3)) (fun P' X' c' es => (sndTs hd).v c' (by rw [es]; exact hk) _ (by rw [es]; exact h4))
    · exact no_of h⟩
  | .aug ng i e => ⟨fun {P g X W} c hk s h => by
    unfold chkS at h
    split at h
    · obtain ⟨u1, h3⟩ := and2 h
      obtain ⟨h1, h2⟩ := and2 u1
      obtain rfl := not1 h1
      exact S_aug c h2 ((snd e).v c.ct _ h3) ip_add
    · obtain ⟨u1, h3⟩ := and2 h
      obtain ⟨h1, h2⟩ := and2 u1
      subst h1
      exact S_aug c h2 ((snd e).v c.ct _ h3) ip_sub
    · exact no_of h⟩
  | .unp is e => ⟨fun {P g X W} c hk s h => by
    unfold chkS at h
    split at h
    · obtain ⟨u4, h5⟩ := and2 h
      obtain ⟨u3, h4⟩ := and2 u4
      obtain ⟨u2, h3⟩ := and2 u3
      obtain ⟨h1, h2⟩ := and2 u2
      exact S_unp c (not1 h1) h2 h3 h4 ((snd e).v c.ct _ h5)
    · exact no_of h⟩
  | .ownC i f a as => ⟨fun {P g X W} c hk s h => by
    unfold chkS at h
    split at h
    · obtain ⟨u6, h7⟩ := and2 h
      obtain ⟨u5, h6⟩ := and2 u6
      obtain ⟨u4, h5⟩ := and2 u5
      obtain ⟨u3, h4⟩ := and2 u4
      obtain ⟨u2, h3⟩ := and2 u3
      obtain ⟨h1, h2⟩ := and2 u2
      exact S_ownC c h1 (not1 h2) h3 (dec1 h4) h5 (nostars h7) ((snd a).v c.ct _ h6) ((snds as).v c.ct _ h7) (evs_len SS Φ g X.env.scope as _ h7)
    · exact no_of h⟩
  | .tryM b hs => ⟨fun {P g X W} c hk s h => by
    unfold chkS at h
    split at h
    · obtain ⟨u1, h3⟩ := and2 h
      obtain ⟨h1, h2⟩ := and2 u1
      exact S_tryM c (not1 h1) (fun X2 W2 c2 es => (sndTs b).v c2 (by rw [es]; exact hk) _ (by rw [es]; exact h2)) ((sndHs hs).v c hk _ h3)
    · exact no_of h⟩
  | .mat e cs => ⟨fun {P g X W} c hk s h => by
    unfold chkS at h
    split at h
    · obtain ⟨h1, h3⟩ := and2 h
      obtain ⟨h1, h2⟩ := and2 h1
      exact S_mat ((snd e).v c.ct _ h2) ((sndMs cs).v c hk (not1 h1) _ h3)
    · exact no_of h⟩
theorem sndTs : ∀ t : Sts, SndTs sub Φ L t
  | .nil => ⟨fun c hk s h => by
    unfold chkSs at h
    split at h
    · exact S_nil
    · exact no_of h⟩
  | .cons t ts => ⟨fun {P g X W} c hk s h => by
    unfold chkSs at h
    split at h
    · exact S_frz ((sndTs ts).v c hk _ h)
    · split at h
      · obtain ⟨h1, h2⟩ := and2 h
        exact S_cons ((sndT t).v c hk _ h1) ((sndTs ts).v c hk _ h2)
      · exact no_of h⟩
theorem sndHs : ∀ t : Hds, SndHs sub Φ L t
  | .nil => ⟨fun c hk l h => by
    unfold chkHs at h
    split at h
    · exact cl_nil
    · exact no_of h⟩
  | .cons k o hd r => ⟨fun {P g X W} c hk l h => by
    unfold chkHs at h
    split at h
    · obtain ⟨u2, h4⟩ := and2 h
      obtain ⟨u1, h3⟩ := and2 u2
      obtain ⟨h1, h2⟩ := and2 u1
      have su : ∀ (P2 : Par) (X2 : Cx), Sc P2 { g with hot := true } sub X2 Wno Φ → X2.env = X.env → PSs X2 _ (rdS P2 Wno (xs SS sub Φ L hd)) := fun P2 X2 c2 es => (sndTs hd).v c2 (by rw [es]; exact hk) _ (by rw [es]; exact h3)
      have re := (sndHs r).v c hk _ h4
      split at h2
      · exact cl_only c h1 su re
      · exact cl_named c h1 h2 su re
      · exact no_of h2
    · exact no_of h⟩
theorem sndMs : ∀ t : Mcs, SndMs sub Φ L t
  | .nil => ⟨fun c hk hh l h => by
    unfold chkMs at h
    split at h
    · exact M_nil
    · exact no_of h⟩
  | .cons q b r => ⟨fun {P g X W} c hk hh l h => by
    unfold chkMs at h
    split at h
    · obtain ⟨h1, h3⟩ := and2 h
      obtain ⟨h1, h2⟩ := and2 h1
      exact M_cons c hh h1 ((sndTs b).v c hk _ h2) ((sndMs r).v c hk hh _ h3)
    · exact no_of h⟩
end
end
end Q

set_option Elab.async false
set_option linter.all false
set_option maxRecDepth 100000
set_option autoImplicit false
set_option maxHeartbeats 8000000
namespace Q
open PySem PySem.Spec PyProof.Rows L2

def Md.cfg (m : Md) (N : List Str) : Cfg := ⟨N, m.ds.map fun d => (d.nm, d.ar), false, m.cs, m.rs, m.ist, m.gi, m.es, m.gs.contains N⟩
/-- a def of a caught error: its text, and what it answers -/
structure FdE (m : Md) (K : Fg) (mg : Str → Option Value) (y : Str) (tb : List (Nat × List Str)) (N : List Str) (b : Sts) (st : Stmt) (f : Addr) (fd : FuncData) : Prop where
  fn : Fun K y y st f fd
  mg : mg y = some (.ref f)
  bi : Binds K fd (N.take 1) []
  sc : FnScope N (N.take 1) (defScope st)
  le : 1 ≤ N.length
  ck : chkSs { m.cfg N with hot := true, es := [] } b (defScope st) (defBody st) = true
  tl : ∀ e ∈ tb, xs SS m.sub (fun _ _ => .bad) 0 b (some (.er e.1) :: List.replicate (N.length - 1) none) = .rt (.ow (e.2.map .str))
/-- the facts -/
structure Fx (m : Md) (K : Fg) (mg : Str → Option Value) (cls : Nat → Value) : Prop where
  bl : ∀ x ∈ bnames, mg x = none
  nm : ∀ (k : Nat) (x : Str), m.cs[k]? = some x → (x == ("__debug__" : Str)) = false ∧ ∃ cv, (mg x = some cv ∨ (mg x = none ∧ bootBuiltins x = some cv ∧ x ≠ "__name__")) ∧ ∀ j, PySem.W.exmOne K (cls j) cv = some (m.sub j k)
  rz : ∀ (k : Nat) (x : Str), m.rs[k]? = some x → ∃ (C : Addr) (bmB : List Value) (Bs newId initId : String), cls k = .ref C ∧ mg x = some (.ref C) ∧ ExcBaseFacts Bs newId initId bmB ∧ PySem.W.excIn K C bmB newId = true ∧ PySem.W.keepIn K (.ref C) = true ∧
    PySem.W.subIn K (.ref C) (.type "BaseException") = some true ∧ PySem.W.typeIn K (.ref C) = some (.type "type")
  ex : ∀ (k0 : Nat) (x : Str), m.cs[k0]? = some x → ∀ k, ∃ C, cls k = .ref C ∧ ExcC K C
  gi : ∀ x i, m.gi.lookup x = some i → ∃ t, mg x = some (.int i t)
  es : ∀ y tb, m.es.lookup y = some tb → ∃ N b st f fd, FdE m K mg y tb N b st f fd
  is : ∀ y tb, m.ist.lookup y = some tb → ∃ (v : V) (cv : Value), (mg y = some cv ∨ (mg y = none ∧ bootBuiltins y = some cv)) ∧ RelV v cv ∧ (∀ u, RelV v u → u = cv) ∧ ∀ k b, tb.lookup k = some b → PySem.W.kitOne K (cls k) cv = some b
/-- a def stands where its name says, as the text says -/
structure Fd (m : Md) (K : Fg) (mg : Str → Option Value) (cs : List (Addr × Addr)) (d : Df) (st : Stmt) (f : Addr) (fd : FuncData) : Prop where
  fn : Fun K d.nm d.nm st f fd
  mg : mg d.nm = some (.ref f)
  bi : Binds K fd (d.N.take d.ar) []
  sc : FnScope d.N (d.N.take d.ar) (defScope st)
  le : d.ar ≤ d.N.length
  ck : chkSs (m.cfg d.N) d.bd (defScope st) (defBody st) = true
  gc : (m.cfg d.N).gen = true → ∃ p ∈ cs, fd.code = .ref p.1
section
variable {P : Program} {w : World} {K : Fg} {mg : Str → Option Value} {base : Heap} {m : Md} {cls : Nat → Value}
theorem fn_bad {T : List Addr} {k : Nat} {f : Addr} {fd : FuncData} {ps : List Str} {n : Nat} {φ : List D → Rs Sl} (hn : ps.length = n) (hb : ∀ ds, φ ds = .bad) : FnOk P w K mg base (L2.CX P w) k f fd ps (spF K T cls n φ) :=
  ⟨fun vs H Q E h => by rw [hn]; exact h.1, fun A outer s H args us vs Q E _ _ _ _ h => by
    obtain ⟨_, _, F, ds, _, _, _, q⟩ := h
    rw [hb ds] at q
    exact q.elim⟩
theorem sta_start {T : List Addr} {F H : Hp} {N : List Str} {vs : List V} {ds : List PyData} (s : Same F H) (hd : DpAll K F vs ds) (hl : vs.length ≤ N.length) : Sta ⟨K, F, H, fun _ _ => False, cls, T⟩ F H (L2.start N vs) (ds.map (fun d => some (Sl.fr d)) ++ List.replicate (N.length - ds.length) none) := by
  have e := dps_len hd
  have e1 : ∀ (i : Nat) (z : Sl), (ds.map (fun d => some (Sl.fr d)) ++ List.replicate (N.length - ds.length) none)[i]? = some (some z) → ∃ d, ds[i]? = some d ∧ z = .fr d := fun i z h => by
    by_cases hi : i < ds.length
    · rw [List.getElem?_append_left (by simpa using hi), List.getElem?_map] at h
      rw [List.getElem?_eq_getElem hi] at h ⊢
      injection h with h
      injection h with h
      exact ⟨_, rfl, h.symm⟩
    · rw [List.getElem?_append_right (by simpa using Nat.le_of_not_lt hi), List.getElem?_replicate] at h
      split at h <;> cases h
  refine ⟨by simp [L2.start, e], Ext.refl s, fun i z h => ?_, fun i j p xs ys _ h => ?_⟩
  · obtain ⟨d, h1, rfl⟩ := e1 i z h
    obtain ⟨v, h2, h3⟩ := dps_get hd h1
    refine ⟨v, ?_, h3⟩
    have hi : i < vs.length := by
      rw [e]
      exact (List.getElem?_eq_some_iff.mp h1).1
    show (vs.map some ++ _)[i]? = _
    rw [List.getElem?_append_left (by simpa using hi), List.getElem?_map, h2]
    rfl
  · obtain ⟨d, _, h2⟩ := e1 i _ h
    cases h2
theorem look_mem {α : Type} {j : Nat} {b : α} : ∀ {l : List (Nat × α)}, l.lookup j = some b → (j, b) ∈ l
  | [], h => by cases h
  | (y, c) :: r, h => by
    unfold List.lookup at h
    split at h
    · rename_i e
      cases h
      rw [beq_iff_eq.mp e]
      exact List.mem_cons_self
    · exact List.mem_cons_of_mem _ (look_mem h)
/-- such a def keeps what it is told to -/
theorem fnE_of (FX : Fx m K mg cls) {y : Str} {tb : List (Nat × List Str)} {N : List Str} {b : Sts} {st : Stmt} {f : Addr} {fd : FuncData} (hd : FdE m K mg y tb N b st f fd) : FnE P w K mg base cls 0 f fd (N.take 1) tb := by
  have hl1 : (N.take 1).length = 1 := by rw [List.length_take]; have := hd.le; omega
  obtain ⟨oc, od, kV, doc, pm, an, cdv, ct, osl, rfl, lk, hcd⟩ := hd.fn.ex
  refine ⟨hl1, fun A outer s F H Q E p j C ss hr hpin e0 hb ec eC hz hf ht sf q => ?_⟩
  have KX : K.In s.heap :=
    e0.mod.kin.keeps fun b o e => (e0.bs b o e).1
  have lim : s.heap.NoLimit :=
    e0.mod.nolimit.keeps fun b o e => (e0.bs b o e).1
  have hkind : ∀ z ∈ (N.take 1).zip [Value.ref p.1], (defScope st).names.lookup z.1 = some .local ∨ ((defScope st).names.lookup z.1 = some .cell ∧ ((cellsFrom (s.heap.objs.size + 1) (defScope st).names []).lookup z.1).isSome = true) :=
    fun ⟨n, v⟩ hy => by
      rcases hd.sc.par n (List.of_mem_zip hy).1 with q | q
      · exact .inl q
      · refine .inr ⟨q, ?_⟩
        exact PySem.W.cellsFrom_some _ _ _ (.inl q)
  refine codeAny_call_function hr.depth (KX _ _ lk) rfl hd.sc.co hd.sc.gen rfl (PySem.W.codeRec_of KX hcd) (hb _ _ _ _ ?_)
  refine wpAny_newFunctionEnv_cells hd.sc.kind hkind fun env he s1 x => ?_
  subst he
  refine ⟨lim.keeps x.toInCall.keep, codeAny_func ?_⟩
  have I : Inv (L2H.cxH (L2.CX P w) P w K mg base N y (defScope st) f cdv A outer s H E p) [] (L2.start N [V.ref p.1]) H s1 :=
    L2H.inv_startH hd.sc hpin e0 (by rw [hl1]; rfl) (.cons (show RelV (V.ref p.1) (Value.ref p.1) from rfl) .nil) x
  have un := hr.un
  have sc : Sc ⟨K, F, H, fun b k => b = p.1 ∧ k = j, cls, []⟩ { m.cfg N with hot := true, es := [] } m.sub (L2H.cxH (L2.CX P w) P w K mg base N y (defScope st) f cdv A outer s H E p) Wno (fun _ _ => .bad) := by
    refine ⟨⟨rfl, hd.sc.nd, rfl, FX.bl, fun z => absurd (show true = false from z) (fun z => nomatch z), by show A.units + 3 + 64 < _; omega, fun z => absurd (show true = false from z) (fun z => nomatch z), fun _ b k h => ?_, FX.gi, FX.is, fun y tb h => (by cases h), fun σ pins H s e s' I h => ?_, fun t ht => (by cases ht), fun z => absurd (show true = false from z) (fun z => nomatch z)⟩, passes_of rfl, takes0.imp fun _ _ _ _ z => ?_, rfl, rfl, fun _ => rfl, FX.nm, fun k' x hx => ?_, FX.ex⟩
    · obtain ⟨rfl, rfl⟩ := h
      exact ⟨p.2, C, List.mem_cons_self, ec, eC, hz, hf⟩
    · obtain ⟨_, _, _, _, _, _, _, _, _, _, _, _, _, _, _, z⟩ := h
      exact z.elim
    · obtain ⟨_, _, _, z⟩ := z
      exact z
    · obtain ⟨C, bmB, Bs, n1, n2, e1, e2, e3, e4, e5, e6, e7⟩ := FX.rz k' x hx
      exact ⟨C, bmB, Bs, n1, n2, e1, e2, e3, e4, e5, raises_own e6 e7⟩
  have hs := (sndTs (sub := m.sub) (Φ := fun _ _ => .bad) (L := 0) b).v sc hd.sc.kind _ hd.ck
  have st0 : Sta ⟨K, F, H, fun b k => b = p.1 ∧ k = j, cls, []⟩ F H (L2.start N [V.ref p.1]) (some (.er j) :: List.replicate (N.length - 1) none) := by
    have e1 : ∀ (i : Nat) (z : Sl), (some (Sl.er j) :: List.replicate (N.length - 1) none)[i]? = some (some z) → i = 0 ∧ z = .er j := fun i z h => by
      cases i with
      | zero =>
        rw [List.getElem?_cons_zero] at h
        injection h with h
        injection h with h
        exact ⟨rfl, h.symm⟩
      | succ i =>
        rw [List.getElem?_cons_succ, List.getElem?_replicate] at h
        split at h <;> cases h
    refine ⟨by simp [L2.start], Ext.refl sf, fun i z h => ?_, fun i j' p' xs' ys _ h => ?_⟩
    · obtain ⟨rfl, rfl⟩ := e1 i z h
      exact ⟨p.1, rfl, rfl, rfl⟩
    · obtain ⟨_, h2⟩ := e1 i _ h
      cases h2
  have go := hs.run [] s1 (L2.start N [V.ref p.1]) H { nx := fun _ H' => Q .non H', rt := Q } I ⟨F, F, _, st0, Same.refl F, by
    rw [hd.tl _ (look_mem ht)]
    exact fun F' H' p vs x1 _ a b c d => q F' H' p vs x1 a b c d⟩
  refine wpAny_mono go (fun fl s' hs => ?_) fun e s' hs => hs
  cases fl with
  | ret u =>
    obtain ⟨v, σ', H', J, rv, q⟩ := hs
    exact ⟨v, H', J.os, J.bare, J.base, J.hok, rv, q⟩
  | next =>
    obtain ⟨σ', H', J, q⟩ := hs
    exact ⟨V.non, H', J.os, J.bare, J.base, J.hok, rfl, q⟩
  | brk =>
    obtain ⟨_, _, _, z⟩ := hs
    exact z.elim
  | cont =>
    obtain ⟨_, _, _, z⟩ := hs
    exact z.elim
theorem Md.ok (FX : Fx m K mg cls) {cs : List (Addr × Addr)} (TBs : ∀ p ∈ cs, GxR.TabB base mg p.1 p.2) (FD : ∀ (j : Nat) (d : Df), m.ds[j]? = some d → ∃ st f fd, Fd m K mg cs d st f fd) : ∀ (k j : Nat) (d : Df) (st : Stmt) (f : Addr) (fd : FuncData), m.ds[j]? = some d → Fd m K mg cs d st f fd →
    FnOk P w K mg base (L2.CX P w) (2 * k) f fd (d.N.take d.ar) (spF K (cs.map (·.2)) cls d.ar (m.Phi k j))
  | 0, j, d, st, f, fd, hj, hd => fn_bad (by rw [List.length_take]; exact Nat.min_eq_left hd.le) fun _ => rfl
  | k + 1, j, d, st, f, fd, hj, hd => by
    have gcd := hd.gc
    obtain ⟨oc, od, kV, doc, pm, an, cdv, ct, osl, efd, lk, hcd⟩ := hd.fn.ex
    subst efd
    show FnOk P w K mg base (L2.CX P w) ((2 * k + 1) + 1) f _ _ _
    refine fn_of lk hcd hd.sc (fun vs H Q E h => by rw [h.1, List.length_take]; exact (Nat.min_eq_left hd.le).symm) fun A outer s H vs Q E hr hsp => ?_
    obtain ⟨hl, hT, F, ds, hFT, sf, da, q⟩ := hsp
    have hr0 : Room (2 * k) (A.deeper (envOfC d.nm (defScope st) s.heap.objs.size f cdv)) := hr.mono (Nat.le_succ _)
    have ePhi : m.Phi (k + 1) j ds = run SS m.sub (m.Phi k) m.L d.N.length d.bd ds := by
      show (match m.ds[j]? with
        | some d => if ds.length = d.ar then run SS m.sub (Md.Phi m k) m.L d.N.length d.bd ds else .bad
        | none => .bad) = _
      rw [hj]
      exact if_pos (by rw [← dps_len da]; exact hl)
    rw [ePhi] at q
    have st0 : Sta ⟨K, F, H, fun _ _ => False, cls, cs.map (·.2)⟩ F H (L2.start d.N vs) (ds.map (fun d => some (Sl.fr d)) ++ List.replicate (d.N.length - ds.length) none) := sta_start sf da (by rw [hl]; exact hd.le)
    let W : Wsh := fun k σ H' => E (cls k) none H'
    have tk : L2.Takes (cxOf (L2.CX P w) P w K mg base d.N d.nm (defScope st) f cdv A outer s H E) (wxOf ⟨K, F, H, fun _ _ => False, cls, cs.map (·.2)⟩ W) :=
      (takes_of (X := cxOf (L2.CX P w) P w K mg base d.N d.nm (defScope st) f cdv A outer s H E) rfl rfl rfl rfl).imp fun c dd σ H' ⟨k', e1, e2, e3⟩ => by
        subst e1 e2
        exact e3
    have sc : Sc ⟨K, F, H, fun _ _ => False, cls, cs.map (·.2)⟩ (m.cfg d.N) m.sub (cxOf (L2.CX P w) P w K mg base d.N d.nm (defScope st) f cdv A outer s H E) W (m.Phi k) := by
      refine ⟨⟨rfl, hd.sc.nd, rfl, FX.bl, fun _ => rfl, hr.units, fun _ j' x n hx => ?_, fun z => absurd (show false = true from z) Bool.false_ne_true, FX.gi, FX.is, fun y tb h => ?_, fun σ => passAt tk σ, fun t ht => ⟨hT t ht, hFT t ht⟩, fun _ hg _ => ?_⟩, passes_of rfl, tk, rfl, rfl, fun _ => rfl, FX.nm, fun k' x hx => ?_, FX.ex⟩
      · have hx : (m.ds.map fun d => (d.nm, d.ar))[j']? = some (x, n) := hx
        rw [List.getElem?_map] at hx
        cases e : m.ds[j']? with
        | none => rw [e] at hx; cases hx
        | some d' =>
          rw [e] at hx
          cases hx
          obtain ⟨st', f', fd', hd'⟩ := FD j' d' e
          exact ⟨f', fd', _, 2 * k, hd'.mg, hd'.fn.kp, hd'.bi, hr0, Md.ok FX TBs FD k j' d' st' f' fd' e hd'⟩
      · obtain ⟨N', b', st', f', fd', hd'⟩ := FX.es y tb h
        have r0 : L2H.RoomH 0 (A.deeper (envOfC d.nm (defScope st) s.heap.objs.size f cdv)) := ⟨by have := hr.dp; omega, by have := hr.un; omega⟩
        exact ⟨f', fd', _, 0, hd'.mg, hd'.fn.kp, hd'.bi, r0, fnE_of FX hd'⟩
      · obtain ⟨p, hp, ep⟩ := gcd hg
        refine ⟨p.1, p.2, ep, List.mem_map.mpr ⟨p, hp, rfl⟩, TBs p hp, hr.mono (by omega), by show (A.deeper (envOfC d.nm (defScope st) s.heap.objs.size f cdv)).units + 72 < cLine; have := hr.un; omega, fun A2 (a1 : A2.handled = (A.deeper (envOfC d.nm (defScope st) s.heap.objs.size f cdv)).handled) (a2 : A2.depth ≤ (A.deeper (envOfC d.nm (defScope st) s.heap.objs.size f cdv)).depth + 1) (a3 : A2.units ≤ (A.deeper (envOfC d.nm (defScope st) s.heap.objs.size f cdv)).units + 8) => ⟨fun j' x n hx => ?_, fun y tb h => ?_⟩⟩
        · have hx : (m.ds.map fun d => (d.nm, d.ar))[j']? = some (x, n) := hx
          rw [List.getElem?_map] at hx
          cases e : m.ds[j']? with
          | none => rw [e] at hx; cases hx
          | some d' =>
            rw [e] at hx
            cases hx
            obtain ⟨st', f', fd', hd'⟩ := FD j' d' e
            exact ⟨f', fd', _, 2 * k, hd'.mg, hd'.fn.kp, hd'.bi, ⟨a1.trans hr.hd, by have := hr.dp; omega, by have := hr.un; omega⟩, Md.ok FX TBs FD k j' d' st' f' fd' e hd'⟩
        · obtain ⟨N', b', st', f', fd', hd'⟩ := FX.es y tb h
          exact ⟨f', fd', _, 0, hd'.mg, hd'.fn.kp, hd'.bi, ⟨by have := hr.dp; omega, by have := hr.un; omega⟩, fnE_of FX hd'⟩
      · obtain ⟨C, bmB, Bs, n1, n2, e1, e2, e3, e4, e5, e6, e7⟩ := FX.rz k' x hx
        exact ⟨C, bmB, Bs, n1, n2, e1, e2, e3, e4, e5, raises_own e6 e7⟩
    refine ⟨_, (sndTs (sub := m.sub) (Φ := m.Phi k) (L := m.L) d.bd).v sc hd.sc.kind _ hd.ck, F, F, _, st0, Same.refl F, ?_⟩
    unfold run at q
    cases er : xs SS m.sub (m.Phi k) m.L d.bd (ds.map (fun d => some (Sl.fr d)) ++ List.replicate (d.N.length - ds.length) none) with
    | nx e => rw [er] at q; exact fun σ F' H' st' sb => q F' H' .non st'.ext .non
    | rt z =>
      rw [er] at q
      cases z with
      | fr x => exact fun F' H' v x1 _ r => q F' H' v x1 r
      | ow x => exact fun F' H' p vs x1 _ a b c d => q F' H' p vs x1 a b c d
      | er k => exact q.elim
    | xc j' e => rw [er] at q; exact fun σ F' H' st' sb => q F' H' st'.ext
    | bk e => rw [er] at q; exact q.elim
    | ct e => rw [er] at q; exact q.elim
    | bad => rw [er] at q; exact q.elim
end
end Q

set_option Elab.async false
set_option linter.all false
set_option maxRecDepth 100000
set_option autoImplicit false
set_option maxHeartbeats 8000000
namespace Q
open PySem PySem.Spec PyProof.Rows L2
section
variable {K : Fg} {C c : Addr} {b : Bool}
theorem any_of {p : ClassData → Bool} {C : Addr} (h : (PySem.W.clsIn K C).any p = true) : (PySem.W.clsIn K C).isSome = true := by
  cases e : PySem.W.clsIn K C with
  | none => rw [e] at h; cases h
  | some _ => rfl
theorem kit_ref (d : PySem.W.hasDictIn K c = true) (t : PySem.W.typeIn K (.ref c) = some (.type "type")) (sc : PySem.W.subIn K (.ref c) (.ref c) = some true) (s : PySem.W.subIn K (.ref C) (.ref c) = some b) : PySem.W.kitOne K (.ref C) (.ref c) = some b := by
  unfold PySem.W.kitOne
  by_cases q : ((Value.ref C == Value.ref c) = true)
  · rw [if_pos q]
    have e : C = c := Value.ref.inj (beq_iff_eq.mp q)
    subst e
    rw [sc] at s
    exact s
  · rw [if_neg q]
    show (if ((PySem.W.clsIn K c).isSome && PySem.W.typeIn K (.ref c) == some (.type "type")) = true then PySem.W.subIn K (.ref C) (.ref c) else none) = some b
    rw [any_of d, t, if_pos (by rfl)]
    exact s
theorem kit_ty {T : String} (m : PySem.W.kitMeta T = true) (s : PySem.W.subIn K (.ref C) (.type T) = some b) : PySem.W.kitOne K (.ref C) (.type T) = some b := by
  unfold PySem.W.kitOne
  rw [if_neg (show ¬ ((Value.ref C == Value.type T) = true) from by simp)]
  show (if PySem.W.kitMeta T = true then PySem.W.subIn K (.ref C) (.type T) else none) = some b
  rw [if_pos m]
  exact s
end
def spLaw (K : Fg) (T : List Addr) : Sp := fun vs H Q _ => ∃ (a : Addr) (ns : List Int), vs = [.ref a] ∧ (∀ t ∈ T, GxR.TabG H t) ∧ SqL K H a (ns.map V.int) ∧ ns.length ≤ 63 ∧ ∀ H', Q (.bl true) H'
theorem ints_dp {K : Fg} {F : Hp} : ∀ ns : List Int, DpAll K F (ns.map V.int) (ns.map PyData.int)
  | [] => .nil
  | n :: r => .cons (.int n) (ints_dp r)
theorem law_ok {P : Program} {w : World} {K : Fg} {T : List Addr} {mg : Str → Option Value} {base : Heap} {k : Nat} {f : Addr} {fd : FuncData} {ps : List Str} {cls : Nat → Value} {φ : List D → Rs Sl} (hm : ∀ ns : List Int, ns.length ≤ 63 → φ [.list (ns.map .int)] = .ok (.fr (.bool true)))
    (h : FnOk P w K mg base (L2.CX P w) k f fd ps (spF K T cls 1 φ)) : FnOk P w K mg base (L2.CX P w) k f fd ps (spLaw K T) :=
  h.imp fun vs H Q E ⟨a, ns, e, hT, hs, hl, q⟩ => by
    subst e
    have nt : ∀ {b : Addr} {o : HO}, H b = some o → (∀ ps, o ≠ .tbl ps) → (if b ∈ T then none else H b) = some o := fun {b o} e no => by
      rw [if_neg]
      · exact e
      · intro hb
        obtain ⟨ps, e2, _⟩ := hT b hb
        rw [e] at e2
        cases e2
        exact no ps rfl
    refine ⟨rfl, hT, fun b => if b ∈ T then none else H b, [.list (ns.map .int)], fun t ht => if_pos ht, fun b u e => ?_, .cons (.lst ?_ (ints_dp ns)) .nil, ?_⟩
    · dsimp only at e
      split at e
      · cases e
      · exact e
    · rcases hs with (hs | ⟨o, hs⟩) | hs
      · exact .inl (.inl (nt hs fun _ z => nomatch z))
      · exact .inl (.inr ⟨o, nt hs fun _ z => nomatch z⟩)
      · exact .inr hs
    · rw [hm ns hl]
      exact fun F' H' v _ r => by rw [dp_bl r]; exact q H'
/-- what is known at the head's end -/
def LawT (P : Program) (w : World) (K : Fg) (mg : Str → Option Value) (k : Nat) (fa : Addr) (x : Str) (h : Heap) (φ : List D → Rs Sl) : Prop :=
  ∃ (cls : Nat → Value) (fd : FuncData) (cs : List (Addr × Addr)), (∀ p ∈ cs, h.get? p.2 = some { cls := .none, data := .fields #[] }) ∧ (∀ p ∈ cs, K.lookup p.2 = none) ∧ (∀ p ∈ cs, PySem.W.CodeHd h p.1 p.2) ∧ (∀ (s : Shared) (v : Value), BindsTo s fd ⟨[v], []⟩ [(x, v)]) ∧
    ∀ base : Heap, K.In base → base.Ns mainGlobals mg → (∀ p ∈ cs, GxR.TabB base mg p.1 p.2) → FnOk P w K mg base (L2.CX P w) k fa fd [x] (spF K (cs.map (·.2)) cls 1 φ)
theorem law_at {l : PySem.W.OpenLaw} {w : World} {K : Fg} {mg : Str → Option Value} {k : Nat} {f : Addr} {x : Str} {h : Heap} {φ : List D → Rs Sl} (hm : ∀ ns : List Int, ns.length ≤ 63 → φ [.list (ns.map .int)] = .ok (.fr (.bool true)))
    (hL : LawT l.prog w K mg k f x h φ) : LamX.LawAtS l w K (L2.CX l.prog w) k 63 x mg f h := by
  obtain ⟨cls, fd, cs, h1, h2, h3, h4, h5⟩ := hL
  refine ⟨fd, cs, spLaw K (cs.map (·.2)), h1, h2, h3, h4, fun H a ns hl _ hT hS => ⟨a, ns, rfl, fun t ht => ?_, hS, hl, fun _ => rfl⟩, fun base a b c => law_ok hm (h5 base a b fun p hp => ⟨(c p hp).code, (c p hp).bm, (c p hp).gP⟩)⟩
  obtain ⟨p, hp, rfl⟩ := List.mem_map.mp ht
  exact ⟨#[], hT p hp, by simp [TriplesOk]⟩
theorem lookup_mem {α : Type} {x : Str} {b : α} : ∀ {l : List (Str × α)}, l.lookup x = some b → (x, b) ∈ l
  | [], h => by cases h
  | (y, c) :: r, h => by
    unfold List.lookup at h
    split at h
    · rename_i e
      cases h
      rw [beq_iff_eq.mp e]
      exact List.mem_cons_self
    · exact List.mem_cons_of_mem _ (lookup_mem h)
theorem tab_in {p : Program} {h : Heap} {K : Fg} {x : Str} {c P : Addr} (X : K.In h) (hr : ((recsOf p).find? (fun e => e.name == x)).isSome = true) (ht : PySem.W.tabIn K x = some (c, P)) (T : ∀ d : DefRec, (recsOf p).find? (fun e => e.name == x) = some d → PySem.W.CodeHd h c P ∧ h.get? P = some (PySem.W.tabObj #[])) :
    PySem.W.CodeHd h c P ∧ h.get? P = some (PySem.W.tabObj #[]) := by
  obtain ⟨d, e⟩ := Option.isSome_iff_exists.mp hr
  exact T d e
theorem walk {l : PySem.W.OpenLaw} {q : Program} {loose : List Str} {XP : (Str → Option Value) → Heap → Prop} {YP : World → Heap → Prop} {d : DefRec} {K : Params → PySem.W.Frag} {k : Nat} {x : Str} (hn : l.most = some 63) (hdf : d.params.defaults = []) (hr : Room k callerA)
    (hY : ∀ (w : World) (h : Heap), YP w h → (K w.params).In h)
    (F : ∀ (w : World) (s₀ : Shared) (mg mb : Str → Option Value) (fa : Addr) (h : Heap), PySem.W.Ground q loose [] XP w s₀ mg mb h → (K w.params).In h → h.Ns mainGlobals mg → mg d.name = some (.ref fa) → LamX.LawAtS l w (K w.params) (L2.CX l.prog w) k 63 x mg fa h) :
    PySem.W.WalkO q loose XP YP l.row.toRowW d [] (fun f vs => PySem.call f vs) := by
  refine Att.attach_callB hn hdf fun w s₀ s₁ mg mb fa o pm cd doc a vs ns G Y ho hd hcd hmg hobj hints hlen hbits hg => ?_
  have KX := hY w _ Y
  obtain ⟨fd, cs, sp, hT, nT, C, hb, hsp, hF⟩ := F w s₀ mg mb fa _ G KX G.T.g hmg
  exact LamX.law_callTs KX G.T.g G.T.b G.T.builtins G.T.nolimit hg hT nT C G.T.bmain hobj hints (Nat.le_trans hlen (by decide)) hr hF hb (fun H hH hS => hsp H a ns hlen hbits hH hS) fun H e s' ⟨_, _, _, _, _, _, _, _, _, _, _, _, z⟩ => z
end Q

set_option maxRecDepth 100000
namespace QKk03
open PySem Q
def d0 : Df := ⟨"room_of", ["width"], 1, (.cons (.ret (.bin .shl (.cI 1) (.blt .max2 (.var 0) (.cons (.cI 0) .nil)))) .nil)⟩
def d1 : Df := ⟨"good_shape", ["thing"], 1, (.cons (.ret (.call 2 (.var 0) (.cons (.gI (8)) .nil))) .nil)⟩
def d2 : Df := ⟨"good_within", ["thing", "deep", "width", "least", "most", "part", "parts"], 2, (.cons (.ifs (.disj (.cmp .lt (.var 1) (.cI 1)) (.cons (.nt (.isi (.var 0) .tup)) .nil)) (.cons (.ret (.cB false)) .nil) .nil) (.cons (.mat (.var 0) (.cons (.seq [.s "num", .v 2, .v 3, .v 4]) (.cons (.ret (.call 3 (.var 2) (.cons (.var 3) (.cons (.var 4) .nil)))) .nil) (.cons (.seq [.s "pad", .v 2]) (.cons (.ret (.call 6 (.var 2) (.cons (.cI 0) (.cons (.gI (64)) .nil)))) .nil) (.cons (.seq [.s "maybe", .v 5]) (.cons (.ret (.call 2 (.var 5) (.cons (.bin .sub (.var 1) (.cI 1)) .nil))) .nil) (.cons (.seq [.s "rows", .v 2, .v 5]) (.cons (.ret (.conj (.call 6 (.var 2) (.cons (.cI 0) (.cons (.gI (8)) .nil))) (.cons (.call 2 (.var 5) (.cons (.bin .sub (.var 1) (.cI 1)) .nil)) .nil))) .nil) (.cons (.seq [.s "group", .v 6]) (.cons (.ret (.call 5 (.var 6) (.cons (.cI 0) (.cons (.gI (20)) (.cons (.bin .sub (.var 1) (.cI 1)) .nil))))) .nil) (.cons (.seq [.s "one", .v 2, .v 6]) (.cons (.ret (.call 4 (.var 2) (.cons (.var 6) (.cons (.bin .sub (.var 1) (.cI 1)) .nil)))) .nil) .nil))))))) (.cons (.ret (.cB false)) .nil)))⟩
def d3 : Df := ⟨"good_num", ["width", "least", "most"], 3, (.cons (.ret (.conj (.call 6 (.var 0) (.cons (.cI 0) (.cons (.gI (64)) .nil))) (.cons (.call 6 (.var 1) (.cons (.neg (.gI (100000000000000000000))) (.cons (.gI (100000000000000000000)) .nil))) (.cons (.call 6 (.var 2) (.cons (.var 1) (.cons (.gI (100000000000000000000)) .nil))) (.cons (.cmp .lt (.bin .sub (.var 2) (.var 1)) (.call 0 (.var 0) .nil)) .nil))))) .nil)⟩
def d4 : Df := ⟨"good_one", ["width", "parts", "deep"], 3, (.cons (.ret (.conj (.call 6 (.var 0) (.cons (.cI 0) (.cons (.gI (8)) .nil))) (.cons (.call 5 (.var 1) (.cons (.cI 1) (.cons (.blt .min2 (.gI (16)) (.cons (.call 0 (.var 0) .nil) .nil)) (.cons (.var 2) .nil)))) .nil))) .nil)⟩
def d5 : Df := ⟨"good_parts", ["parts", "fewest", "many", "deep", "part"], 4, (.cons (.ret (.conj (.isi (.var 0) .lst) (.cons (.chn .le .le (.var 1) (.blt .len (.var 0) .nil) (.var 2)) (.cons (.allG 4 (.call 2 (.var 4) (.cons (.var 3) .nil)) (.var 0)) .nil)))) .nil)⟩
def d6 : Df := ⟨"whole_within", ["thing", "least", "most"], 3, (.cons (.ret (.conj (.isi (.var 0) .int) (.cons (.nt (.isi (.var 0) .bool)) (.cons (.chn .le .le (.var 1) (.var 0) (.var 2)) .nil)))) .nil)⟩
def d7 : Df := ⟨"_law_cell_at", ["_law_script", "_law_k"], 2, (.cons (.ifs (.cmp .lt (.var 1) (.blt .len (.var 0) .nil)) (.cons (.ret (.ix (.var 0) (.var 1))) .nil) .nil) (.cons (.ret (.cI 0)) .nil))⟩
def d8 : Df := ⟨"_law_room", ["_law_width", "_law_size", "_law_step"], 1, (.cons (.set 1 (.cI 1)) (.cons (.forI 2 (.rng (.var 0)) (.cons (.set 1 (.bin .mul (.var 1) (.cI 2))) .nil)) (.cons (.ret (.var 1)) .nil)))⟩
def d9 : Df := ⟨"_law_leaf", ["_law_script", "_law_k", "_law_cell", "_law_bound_here", "_law_width", "_law_span", "_law_least"], 2, (.cons (.set 2 (.bin .fdiv (.call 7 (.var 0) (.cons (.bin .mul (.cI 2) (.var 1)) .nil)) (.cI 7))) (.cons (.set 3 (.call 7 (.var 0) (.cons (.bin .add (.bin .mul (.cI 2) (.var 1)) (.cI 1)) .nil))) (.cons (.set 4 (.bin .mod (.bin .fdiv (.var 2) (.cI 3)) (.cI 9))) (.cons (.ifs (.cmp .eq (.bin .mod (.var 3) (.cI 5)) (.cI 4)) (.cons (.set 4 (.bin .mod (.bin .add (.var 2) (.bin .mul (.cI 7) (.var 3))) (.cI 65))) .nil) .nil) (.cons (.ifs (.cmp .eq (.bin .mod (.var 2) (.cI 3)) (.cI 2)) (.cons (.ret (.tup (.cons (.cS "pad") (.cons (.var 4) .nil)))) .nil) .nil) (.cons (.set 5 (.bin .sub (.call 8 (.var 4) .nil) (.cI 1))) (.cons (.ifs (.cmp .eq (.bin .mod (.var 3) (.cI 3)) (.cI 1)) (.cons (.set 5 (.bin .mod (.bin .fdiv (.var 3) (.cI 12)) (.bin .add (.var 5) (.cI 1)))) .nil) .nil) (.cons (.ifs (.cmp .eq (.bin .mod (.var 3) (.cI 3)) (.cI 2)) (.cons (.set 5 (.bin .add (.bin .fdiv (.var 5) (.cI 2)) (.blt .min2 (.cI 1) (.cons (.bin .fdiv (.var 5) (.cI 2)) .nil)))) .nil) .nil) (.cons (.set 6 (.bin .sub (.bin .mod (.bin .fdiv (.var 3) (.cI 12)) (.cI 41)) (.cI 20))) (.cons (.ifs (.cmp .eq (.bin .mod (.bin .fdiv (.var 3) (.cI 3)) (.cI 4)) (.cI 1)) (.cons (.set 6 (.bin .sub (.bin .mod (.bin .fdiv (.var 3) (.cI 12)) (.bin .add (.bin .sub (.bin .mul (.cI 2) (.bin .pow (.cI 10) (.cI 20))) (.var 5)) (.cI 1))) (.bin .pow (.cI 10) (.cI 20)))) .nil) .nil) (.cons (.ifs (.cmp .eq (.bin .mod (.bin .fdiv (.var 3) (.cI 3)) (.cI 4)) (.cI 2)) (.cons (.set 6 (.ix (.lst (.cons (.neg (.bin .pow (.cI 10) (.cI 20))) (.cons (.bin .sub (.bin .pow (.cI 10) (.cI 20)) (.var 5)) .nil))) (.bin .mod (.bin .fdiv (.var 3) (.cI 12)) (.cI 2)))) .nil) .nil) (.cons (.ret (.tup (.cons (.cS "num") (.cons (.var 4) (.cons (.var 6) (.cons (.bin .add (.var 6) (.var 5)) .nil)))))) .nil))))))))))))⟩
def d10 : Df := ⟨"_law_one", ["_law_parts", "_law_more", "_law_count", "_law_width"], 2, (.cons (.ifs (.cmp .eq (.bin .mod (.var 1) (.cI 5)) (.cI 4)) (.cons (.set 2 (.bin .add (.cI 5) (.bin .mod (.bin .fdiv (.var 1) (.cI 5)) (.cI 12)))) (.cons (.set 3 (.bin .add (.bin .add (.cI 3) (.blt .int1 (.cmp .gt (.var 2) (.cI 8)) .nil)) (.bin .mod (.bin .fdiv (.var 1) (.cI 60)) (.cI 5)))) (.cons (.ret (.tup (.cons (.cS "one") (.cons (.var 3) (.cons (.slc (.bin .mul (.lst (.cons (.ix (.var 0) (.cI 0)) (.cons (.ix (.var 0) (.cI 2)) (.cons (.ix (.var 0) (.cI 1)) (.cons (.ix (.var 0) (.cI 3)) (.cons (.ix (.var 0) (.cI 2)) .nil)))))) (.cI 4)) .cN (.var 2)) .nil))))) .nil))) .nil) (.cons (.set 2 (.bin .add (.cI 1) (.bin .mod (.bin .mod (.var 1) (.cI 5)) (.cI 4)))) (.cons (.ret (.tup (.cons (.cS "one") (.cons (.bin .add (.ix (.lst (.cons (.cI 0) (.cons (.cI 1) (.cons (.cI 2) (.cons (.cI 2) .nil))))) (.bin .sub (.var 2) (.cI 1))) (.bin .mod (.bin .fdiv (.var 1) (.cI 5)) (.cI 3))) (.cons (.slc (.var 0) .cN (.var 2)) .nil))))) .nil)))⟩
def d11 : Df := ⟨"_law_group", ["_law_parts", "_law_more"], 2, (.cons (.ifs (.conj (.cmp .eq (.bin .mod (.var 1) (.cI 4)) (.cI 3)) (.cons (.cmp .inn (.ix (.ix (.var 0) (.cI 0)) (.cI 0)) (.tup (.cons (.cS "num") (.cons (.cS "pad") .nil)))) (.cons (.cmp .inn (.ix (.ix (.var 0) (.cI 1)) (.cI 0)) (.tup (.cons (.cS "num") (.cons (.cS "pad") .nil)))) .nil))) (.cons (.ret (.tup (.cons (.cS "group") (.cons (.slc (.bin .mul (.lst (.cons (.ix (.var 0) (.cI 0)) (.cons (.ix (.var 0) (.cI 2)) (.cons (.ix (.var 0) (.cI 1)) (.cons (.ix (.var 0) (.cI 3)) (.cons (.ix (.var 0) (.cI 0)) .nil)))))) (.cI 4)) .cN (.bin .add (.cI 4) (.bin .mod (.bin .fdiv (.var 1) (.cI 4)) (.cI 17)))) .nil)))) .nil) .nil) (.cons (.ifs (.cmp .eq (.bin .mod (.var 1) (.cI 12)) (.cI 5)) (.cons (.ret (.tup (.cons (.cS "group") (.cons (.slc (.lst (.cons (.ix (.var 0) (.cI 0)) (.cons (.ix (.var 0) (.cI 2)) (.cons (.ix (.var 0) (.cI 1)) (.cons (.ix (.var 0) (.cI 0)) (.cons (.ix (.var 0) (.cI 3)) .nil)))))) .cN (.bin .add (.cI 4) (.bin .mod (.bin .fdiv (.var 1) (.cI 12)) (.cI 2)))) .nil)))) .nil) .nil) (.cons (.ret (.tup (.cons (.cS "group") (.cons (.ix (.lst (.cons (.lst .nil) (.cons (.bin .mul (.lst (.cons (.ix (.var 0) (.cI 0)) .nil)) (.cI 3)) (.cons (.lst (.cons (.ix (.var 0) (.cI 2)) (.cons (.ix (.var 0) (.cI 0)) (.cons (.ix (.var 0) (.cI 1)) .nil)))) (.cons (.lst (.cons (.ix (.var 0) (.cI 1)) (.cons (.ix (.var 0) (.cI 1)) .nil))) .nil))))) (.bin .mod (.var 1) (.cI 4))) .nil)))) .nil)))⟩
def d12 : Df := ⟨"_law_shape", ["_law_script", "_law_k", "_law_cell", "_law_more", "_law_left", "_law_right", "_law_parts"], 2, (.cons (.set 2 (.call 7 (.var 0) (.cons (.bin .mul (.cI 2) (.var 1)) .nil))) (.cons (.set 3 (.bin .fdiv (.var 2) (.cI 7))) (.cons (.ifs (.disj (.cmp .gt (.var 1) (.cI 6)) (.cons (.cmp .lt (.bin .mod (.var 2) (.cI 7)) (.cI 2)) .nil)) (.cons (.ret (.call 9 (.var 0) (.cons (.var 1) .nil))) .nil) .nil) (.cons (.set 4 (.call 12 (.var 0) (.cons (.bin .add (.bin .mul (.cI 2) (.var 1)) (.cI 1)) .nil))) (.cons (.set 5 (.call 12 (.var 0) (.cons (.bin .add (.bin .mul (.cI 2) (.var 1)) (.cI 2)) .nil))) (.cons (.ifs (.cmp .eq (.bin .mod (.var 2) (.cI 7)) (.cI 2)) (.cons (.ret (.tup (.cons (.cS "maybe") (.cons (.var 4) .nil)))) .nil) .nil) (.cons (.ifs (.cmp .eq (.bin .mod (.var 2) (.cI 7)) (.cI 3)) (.cons (.ret (.tup (.cons (.cS "rows") (.cons (.ix (.lst (.cons (.cI 1) (.cons (.cI 2) (.cons (.cI 3) (.cons (.cI 4) (.cons (.cI 5) (.cons (.cI 6) (.cons (.cI 7) (.cons (.cI 8) (.cons (.cI 0) (.cons (.cI 2) (.cons (.cI 3) .nil)))))))))))) (.bin .mod (.var 3) (.cI 11))) (.cons (.var 4) .nil))))) .nil) .nil) (.cons (.ifs (.cmp .eq (.bin .mod (.var 2) (.cI 7)) (.cI 4)) (.cons (.ret (.tup (.cons (.cS "group") (.cons (.lst (.cons (.var 4) (.cons (.var 5) .nil))) .nil)))) .nil) .nil) (.cons (.set 6 (.lst (.cons (.var 4) (.cons (.var 5) (.cons (.call 9 (.var 0) (.cons (.bin .add (.cI 15) (.var 1)) .nil)) (.cons (.call 9 (.var 0) (.cons (.bin .add (.cI 22) (.var 1)) .nil)) .nil)))))) (.cons (.ifs (.cmp .eq (.bin .mod (.var 2) (.cI 7)) (.cI 5)) (.cons (.ret (.call 10 (.var 6) (.cons (.var 3) .nil))) .nil) .nil) (.cons (.ret (.call 11 (.var 6) (.cons (.var 3) .nil))) .nil)))))))))))⟩
def d13 : Df := ⟨"_law_odd", ["_law_cell", "_law_pad", "_law_some"], 1, (.cons (.set 1 (.tup (.cons (.cS "pad") (.cons (.cI 1) .nil)))) (.cons (.set 2 (.lst (.cons (.cI 0) (.cons (.cB true) (.cons .cN (.cons (.cS "") (.cons (.cS "pad") (.cons (.lst .nil) (.cons (.tup .nil) (.cons (.tup (.cons (.cS "num") .nil)) (.cons (.tup (.cons (.cS "num") (.cons (.cI 3) (.cons (.cI 0) .nil)))) (.cons (.tup (.cons (.cS "num") (.cons (.cI 3) (.cons (.cI 0) (.cons (.cI 8) .nil))))) .nil)))))))))))) (.cons (.set 2 (.bin .add (.var 2) (.lst (.cons (.tup (.cons (.cS "num") (.cons (.cI 3) (.cons (.cI 1) (.cons (.cI 0) .nil))))) (.cons (.tup (.cons (.cS "num") (.cons (.cI 65) (.cons (.cI 0) (.cons (.cI 1) .nil))))) (.cons (.tup (.cons (.cS "num") (.cons (.neg (.cI 1)) (.cons (.cI 0) (.cons (.cI 0) .nil))))) (.cons (.tup (.cons (.cS "num") (.cons (.cB true) (.cons (.cI 0) (.cons (.cI 1) .nil))))) .nil))))))) (.cons (.set 2 (.bin .add (.var 2) (.lst (.cons (.tup (.cons (.cS "num") (.cons (.cI 3) (.cons (.cB false) (.cons (.cI 1) .nil))))) (.cons (.tup (.cons (.cS "num") (.cons (.cI 3) (.cons (.cI 0) (.cons (.cB true) .nil))))) (.cons (.tup (.cons (.cS "num") (.cons (.cI 3) (.cons (.cI 0) (.cons (.cI 7) (.cons (.cI 0) .nil)))))) (.cons (.lst (.cons (.cS "num") (.cons (.cI 3) (.cons (.cI 0) (.cons (.cI 7) .nil))))) .nil))))))) (.cons (.set 2 (.bin .add (.var 2) (.lst (.cons (.tup (.cons (.cS "num") (.cons (.cI 64) (.cons (.cI 0) (.cons (.bin .pow (.cI 2) (.cI 64)) .nil))))) (.cons (.tup (.cons (.cS "num") (.cons (.cI 9) (.cons (.bin .pow (.cI 10) (.cI 20)) (.cons (.bin .add (.bin .pow (.cI 10) (.cI 20)) (.cI 1)) .nil))))) .nil))))) (.cons (.set 2 (.bin .add (.var 2) (.lst (.cons (.tup (.cons (.cS "num") (.cons (.cI 9) (.cons (.bin .sub (.neg (.bin .pow (.cI 10) (.cI 20))) (.cI 1)) (.cons (.neg (.bin .pow (.cI 10) (.cI 20))) .nil))))) (.cons (.tup (.cons (.cS "num") (.cons (.cI 3) (.cons (.cS "0") (.cons (.cI 7) .nil))))) (.cons (.tup (.cons (.cS "num") (.cons (.cI 0) (.cons (.cI 0) (.cons (.cI 1) .nil))))) (.cons (.tup (.cons (.cS "pad") .nil)) .nil))))))) (.cons (.set 2 (.bin .add (.var 2) (.lst (.cons (.tup (.cons (.cS "pad") (.cons (.cI 65) .nil))) (.cons (.tup (.cons (.cS "pad") (.cons (.neg (.cI 1)) .nil))) (.cons (.tup (.cons (.cS "pad") (.cons (.cI 2) (.cons (.cI 0) .nil)))) (.cons (.tup (.cons (.cS "pad") (.cons (.cS "2") .nil))) (.cons (.tup (.cons (.cS "pad") (.cons (.cB true) .nil))) (.cons (.tup (.cons (.cS "Pad") (.cons (.cI 2) .nil))) .nil))))))))) (.cons (.set 2 (.bin .add (.var 2) (.lst (.cons (.lst (.cons (.cS "pad") (.cons (.cI 2) .nil))) (.cons (.tup (.cons (.cS "maybe") .nil)) (.cons (.tup (.cons (.cS "maybe") (.cons (.var 1) (.cons (.cI 0) .nil)))) (.cons (.tup (.cons (.cS "maybe") (.cons (.lst (.cons (.var 1) .nil)) .nil))) (.cons (.tup (.cons (.cS "rows") (.cons (.cI 9) (.cons (.var 1) .nil)))) .nil)))))))) (.cons (.set 2 (.bin .add (.var 2) (.lst (.cons (.tup (.cons (.cS "rows") (.cons (.neg (.cI 1)) (.cons (.var 1) .nil)))) (.cons (.tup (.cons (.cS "rows") (.cons (.cI 2) .nil))) (.cons (.tup (.cons (.cS "rows") (.cons (.var 1) (.cons (.cI 2) .nil)))) (.cons (.tup (.cons (.cS "rows") (.cons (.cI 2) (.cons (.lst (.cons (.var 1) .nil)) .nil)))) (.cons (.tup (.cons (.cS "group") .nil)) .nil)))))))) (.cons (.set 2 (.bin .add (.var 2) (.lst (.cons (.tup (.cons (.cS "group") (.cons (.tup (.cons (.var 1) .nil)) .nil))) (.cons (.tup (.cons (.cS "group") (.cons (.bin .mul (.lst (.cons (.var 1) .nil)) (.cI 21)) .nil))) (.cons (.tup (.cons (.cS "group") (.cons (.lst (.cons (.var 1) .nil)) (.cons (.cI 0) .nil)))) (.cons (.tup (.cons (.cS "one") (.cons (.cI 0) (.cons (.lst .nil) .nil)))) .nil))))))) (.cons (.set 2 (.bin .add (.var 2) (.lst (.cons (.tup (.cons (.cS "one") (.cons (.cI 5) (.cons (.bin .mul (.lst (.cons (.var 1) .nil)) (.cI 17)) .nil)))) (.cons (.tup (.cons (.cS "one") (.cons (.cI 1) (.cons (.bin .mul (.lst (.cons (.var 1) .nil)) (.cI 3)) .nil)))) (.cons (.tup (.cons (.cS "one") (.cons (.cI 9) (.cons (.lst (.cons (.var 1) .nil)) .nil)))) (.cons (.tup (.cons (.cS "one") (.cons (.cI 2) (.cons (.tup (.cons (.var 1) .nil)) .nil)))) .nil))))))) (.cons (.set 2 (.bin .add (.var 2) (.lst (.cons (.tup (.cons (.cS "other") (.cons (.cI 1) .nil))) (.cons (.tup (.cons (.cI 1) (.cons (.cI 2) .nil))) .nil))))) (.cons (.set 2 (.bin .add (.var 2) (.lst (.cons (.tup (.cons (.cS "rows") (.cons (.cB true) (.cons (.var 1) .nil)))) (.cons (.tup (.cons (.cS "rows") (.cons (.cB false) (.cons (.var 1) .nil)))) (.cons (.tup (.cons (.cS "rows") (.cons .cN (.cons (.var 1) .nil)))) (.cons (.tup (.cons (.cS "rows") (.cons (.cS "2") (.cons (.var 1) .nil)))) .nil))))))) (.cons (.set 2 (.bin .add (.var 2) (.lst (.cons (.tup (.cons (.cS "one") (.cons (.cB true) (.cons (.lst (.cons (.var 1) .nil)) .nil)))) (.cons (.tup (.cons (.cS "one") (.cons (.cS "2") (.cons (.lst (.cons (.var 1) .nil)) .nil)))) (.cons (.tup (.cons (.cS "one") (.cons .cN (.cons (.lst (.cons (.var 1) .nil)) .nil)))) (.cons (.tup (.cons (.cS "num") (.cons (.cS "3") (.cons (.cI 0) (.cons (.cI 7) .nil))))) .nil))))))) (.cons (.set 2 (.bin .add (.var 2) (.lst (.cons (.tup (.cons (.cS "num") (.cons (.cI 3) (.cons (.cI 0) (.cons (.cS "7") .nil))))) (.cons (.tup (.cons (.cS "num") (.cons .cN (.cons (.cI 0) (.cons (.cI 0) .nil))))) (.cons (.tup (.cons (.cS "one") (.cons (.cI 0) (.cons (.bin .mul (.lst (.cons (.var 1) .nil)) (.cI 2)) .nil)))) (.cons (.tup (.cons (.cS "one") (.cons (.cI 2) (.cons (.bin .mul (.lst (.cons (.var 1) .nil)) (.cI 5)) .nil)))) .nil))))))) (.cons (.set 2 (.bin .add (.var 2) (.lst (.cons (.tup (.cons (.cS "row") (.cons (.cI 2) (.cons (.var 1) .nil)))) (.cons (.tup (.cons (.cS "rowss") (.cons (.cI 2) (.cons (.var 1) .nil)))) (.cons (.tup (.cons (.cS "number") (.cons (.cI 3) (.cons (.cI 0) (.cons (.cI 7) .nil))))) (.cons (.tup (.cons (.cS "nu") (.cons (.cI 3) (.cons (.cI 0) (.cons (.cI 7) .nil))))) (.cons (.tup (.cons (.cS "pads") (.cons (.cI 2) .nil))) (.cons (.tup (.cons (.cS "pa") (.cons (.cI 2) .nil))) .nil))))))))) (.cons (.set 2 (.bin .add (.var 2) (.lst (.cons (.tup (.cons (.cS "maybes") (.cons (.var 1) .nil))) (.cons (.tup (.cons (.cS "mayb") (.cons (.var 1) .nil))) (.cons (.tup (.cons (.cS "groups") (.cons (.lst (.cons (.var 1) .nil)) .nil))) (.cons (.tup (.cons (.cS "grou") (.cons (.lst (.cons (.var 1) .nil)) .nil))) (.cons (.tup (.cons (.cS "ones") (.cons (.cI 1) (.cons (.lst (.cons (.var 1) .nil)) .nil)))) .nil)))))))) (.cons (.set 2 (.bin .add (.var 2) (.lst (.cons (.tup (.cons (.cS "on") (.cons (.cI 1) (.cons (.lst (.cons (.var 1) .nil)) .nil)))) (.cons (.tup (.cons (.cS "NUM") (.cons (.cI 3) (.cons (.cI 0) (.cons (.cI 7) .nil))))) (.cons (.tup (.cons (.cS "n") (.cons (.cI 3) (.cons (.cI 0) (.cons (.cI 7) .nil))))) (.cons (.tup (.cons (.cS "") (.cons (.cI 2) .nil))) (.cons (.tup (.cons (.cS "num ") (.cons (.cI 3) (.cons (.cI 0) (.cons (.cI 7) .nil))))) .nil)))))))) (.cons (.set 2 (.bin .add (.var 2) (.lst (.cons (.tup (.cons (.cS "one") (.cons (.cI 3) (.cons (.bin .mul (.lst (.cons (.var 1) .nil)) (.cI 9)) .nil)))) (.cons (.tup (.cons (.cS "one") (.cons (.cI 4) (.cons (.bin .mul (.lst (.cons (.var 1) .nil)) (.cI 17)) .nil)))) (.cons (.tup (.cons (.cS "one") (.cons (.cI 3) (.cons (.bin .mul (.lst (.cons (.var 1) .nil)) (.cI 16)) .nil)))) .nil)))))) (.cons (.ret (.ix (.var 2) (.bin .mod (.var 0) (.blt .len (.var 2) .nil)))) .nil))))))))))))))))))))⟩
def d14 : Df := ⟨"_law_bound", ["_law_cell", "_law_pad", "_law_some"], 1, (.cons (.set 1 (.tup (.cons (.cS "pad") (.cons (.cI 64) .nil)))) (.cons (.set 2 (.lst (.cons (.tup (.cons (.cS "num") (.cons (.cI 64) (.cons (.cI 0) (.cons (.bin .sub (.bin .pow (.cI 2) (.cI 64)) (.cI 1)) .nil))))) (.cons (.tup (.cons (.cS "num") (.cons (.cI 0) (.cons (.neg (.cI 5)) (.cons (.neg (.cI 5)) .nil))))) (.cons (.tup (.cons (.cS "num") (.cons (.cI 64) (.cons (.bin .pow (.cI 10) (.cI 20)) (.cons (.bin .pow (.cI 10) (.cI 20)) .nil))))) .nil))))) (.cons (.set 2 (.bin .add (.var 2) (.lst (.cons (.tup (.cons (.cS "num") (.cons (.cI 64) (.cons (.neg (.bin .pow (.cI 10) (.cI 20))) (.cons (.neg (.bin .pow (.cI 10) (.cI 20))) .nil))))) (.cons (.tup (.cons (.cS "pad") (.cons (.cI 0) .nil))) (.cons (.var 1) (.cons (.tup (.cons (.cS "group") (.cons (.lst .nil) .nil))) .nil))))))) (.cons (.set 2 (.bin .add (.var 2) (.lst (.cons (.tup (.cons (.cS "group") (.cons (.bin .mul (.lst (.cons (.var 1) .nil)) (.cI 20)) .nil))) (.cons (.tup (.cons (.cS "one") (.cons (.cI 4) (.cons (.bin .mul (.lst (.cons (.var 1) .nil)) (.cI 16)) .nil)))) (.cons (.tup (.cons (.cS "one") (.cons (.cI 8) (.cons (.bin .mul (.lst (.cons (.var 1) .nil)) (.cI 16)) .nil)))) (.cons (.tup (.cons (.cS "one") (.cons (.cI 0) (.cons (.lst (.cons (.var 1) .nil)) .nil)))) .nil))))))) (.cons (.set 2 (.bin .add (.var 2) (.lst (.cons (.tup (.cons (.cS "rows") (.cons (.cI 8) (.cons (.var 1) .nil)))) (.cons (.tup (.cons (.cS "rows") (.cons (.cI 0) (.cons (.var 1) .nil)))) (.cons (.tup (.cons (.cS "num") (.cons (.cI 1) (.cons (.neg (.cI 1)) (.cons (.cI 0) .nil))))) .nil)))))) (.cons (.set 2 (.bin .add (.var 2) (.lst (.cons (.tup (.cons (.cS "one") (.cons (.cI 1) (.cons (.bin .mul (.lst (.cons (.var 1) .nil)) (.cI 2)) .nil)))) (.cons (.tup (.cons (.cS "one") (.cons (.cI 2) (.cons (.bin .mul (.lst (.cons (.var 1) .nil)) (.cI 4)) .nil)))) (.cons (.tup (.cons (.cS "one") (.cons (.cI 2) (.cons (.bin .mul (.lst (.cons (.var 1) .nil)) (.cI 3)) .nil)))) (.cons (.tup (.cons (.cS "one") (.cons (.cI 3) (.cons (.bin .mul (.lst (.cons (.var 1) .nil)) (.cI 8)) .nil)))) .nil))))))) (.cons (.set 2 (.bin .add (.var 2) (.lst (.cons (.tup (.cons (.cS "one") (.cons (.cI 3) (.cons (.bin .mul (.lst (.cons (.var 1) .nil)) (.cI 5)) .nil)))) .nil)))) (.cons (.ret (.ix (.var 2) (.bin .mod (.var 0) (.blt .len (.var 2) .nil)))) .nil))))))))⟩
def d15 : Df := ⟨"_law_put", ["_law_shape_here", "_law_steps", "_law_cell", "_law_thing", "_law_parts", "_law_at"], 4, (.cons (.ifs (.disj (.cmp .eq (.var 1) (.cI 0)) (.cons (.cmp .eq (.ix (.var 0) (.cI 0)) (.cS "num")) (.cons (.cmp .eq (.ix (.var 0) (.cI 0)) (.cS "pad")) .nil))) (.cons (.ret (.var 3)) .nil) .nil) (.cons (.ifs (.cmp .eq (.ix (.var 0) (.cI 0)) (.cS "maybe")) (.cons (.ret (.tup (.cons (.cS "maybe") (.cons (.call 15 (.ix (.var 0) (.cI 1)) (.cons (.bin .sub (.var 1) (.cI 1)) (.cons (.bin .fdiv (.var 2) (.cI 3)) (.cons (.var 3) .nil)))) .nil)))) .nil) .nil) (.cons (.ifs (.cmp .eq (.ix (.var 0) (.cI 0)) (.cS "rows")) (.cons (.ret (.tup (.cons (.cS "rows") (.cons (.ix (.var 0) (.cI 1)) (.cons (.call 15 (.ix (.var 0) (.cI 2)) (.cons (.bin .sub (.var 1) (.cI 1)) (.cons (.bin .fdiv (.var 2) (.cI 3)) (.cons (.var 3) .nil)))) .nil))))) .nil) .nil) (.cons (.own 4 (.blt .list (.ix (.var 0) (.bin .sub (.blt .len (.var 0) .nil) (.cI 1))) .nil)) (.cons (.ifs (.cmp .eq (.lenO 4) (.cI 0)) (.cons (.ret (.var 3)) .nil) .nil) (.cons (.set 5 (.bin .mod (.var 2) (.lenO 4))) (.cons (.put 4 (.var 5) (.call 15 (.ixO 4 (.var 5)) (.cons (.bin .sub (.var 1) (.cI 1)) (.cons (.bin .fdiv (.var 2) (.cI 3)) (.cons (.var 3) .nil))))) (.cons (.ifs (.cmp .eq (.ix (.var 0) (.cI 0)) (.cS "group")) (.cons (.frz 4) (.cons (.ret (.tup (.cons (.cS "group") (.cons (.var 4) .nil)))) .nil)) .nil) (.cons (.frz 4) (.cons (.ret (.tup (.cons (.cS "one") (.cons (.ix (.var 0) (.cI 1)) (.cons (.var 4) .nil))))) .nil))))))))))⟩
def d16 : Df := ⟨"_law_depth", ["_law_shape_here", "_law_part"], 1, (.cons (.ifs (.disj (.cmp .eq (.ix (.var 0) (.cI 0)) (.cS "num")) (.cons (.cmp .eq (.ix (.var 0) (.cI 0)) (.cS "pad")) .nil)) (.cons (.ret (.cI 1)) .nil) .nil) (.cons (.ifs (.disj (.cmp .eq (.ix (.var 0) (.cI 0)) (.cS "group")) (.cons (.cmp .eq (.ix (.var 0) (.cI 0)) (.cS "one")) .nil)) (.cons (.ret (.bin .add (.cI 1) (.mxD false (.comp 1 (.call 16 (.var 1) .nil) (.lst (.ix (.var 0) (.bin .sub (.blt .len (.var 0) .nil) (.cI 1))))) (.cI 0)))) .nil) .nil) (.cons (.ret (.bin .add (.cI 1) (.call 16 (.ix (.var 0) (.bin .sub (.blt .len (.var 0) .nil) (.cI 1))) .nil))) .nil)))⟩
def d17 : Df := ⟨"_law_round", ["_law_shape_here", "_law_cell", "_law_many", "_law_step", "_law_some"], 3, (.cons (.forI 3 (.rng (.var 2)) (.cons (.set 4 (.lst (.cons (.tup (.cons (.cS "group") (.cons (.lst (.cons (.tup (.cons (.cS "pad") (.cons (.cI 3) .nil))) (.cons (.var 0) .nil))) .nil))) (.cons (.tup (.cons (.cS "maybe") (.cons (.var 0) .nil))) (.cons (.tup (.cons (.cS "one") (.cons (.cI 1) (.cons (.lst (.cons (.var 0) .nil)) .nil)))) (.cons (.tup (.cons (.cS "rows") (.cons (.cI 3) (.cons (.var 0) .nil)))) .nil)))))) (.cons (.set 0 (.ix (.var 4) (.bin .mod (.bin .add (.var 1) (.var 3)) (.cI 4)))) .nil))) (.cons (.ret (.var 0)) .nil))⟩
def d18 : Df := ⟨"_law_told", ["_law_shape_here", "_law_due", "_law_found"], 2, (.cons (.set 2 (.call 1 (.var 0) .nil)) (.cons (.ret (.conj (.isi (.var 2) .bool) (.cons (.cmp .eq (.var 2) (.var 1)) .nil))) .nil))⟩
def d19 : Df := ⟨"law", ["_law_script", "_law_shape_here", "_law_cell", "_law_many", "_law_step", "_law_steps", "_law_which", "_law_made"], 1, (.cons (.set 1 (.call 12 (.var 0) (.cons (.cI 0) .nil))) (.cons (.set 2 (.call 7 (.var 0) (.cons (.cI 30) .nil))) (.cons (.set 3 (.bin .mod (.call 7 (.var 0) (.cons (.cI 31) .nil)) (.cI 10))) (.cons (.ifs (.nt (.call 18 (.call 17 (.var 1) (.cons (.var 2) (.cons (.var 3) .nil))) (.cons (.cmp .le (.bin .add (.call 16 (.var 1) .nil) (.var 3)) (.cI 8)) .nil))) (.cons (.ret (.cB false)) .nil) .nil) (.cons (.forI 4 (.rng (.cI 5)) (.cons (.set 5 (.bin .mod (.bin .add (.call 7 (.var 0) (.cons (.cI 32) .nil)) (.var 4)) (.cI 6))) (.cons (.set 6 (.bin .add (.call 7 (.var 0) (.cons (.cI 33) .nil)) (.bin .mul (.cI 11) (.var 4)))) (.cons (.ifs (.nt (.call 18 (.call 17 (.call 15 (.var 1) (.cons (.var 5) (.cons (.var 2) (.cons (.call 13 (.var 6) .nil) .nil)))) (.cons (.var 2) (.cons (.var 3) .nil))) (.cons (.cB false) .nil))) (.cons (.ret (.cB false)) .nil) .nil) (.cons (.set 7 (.call 15 (.var 1) (.cons (.var 5) (.cons (.var 2) (.cons (.call 14 (.var 6) .nil) .nil))))) (.cons (.ifs (.nt (.call 18 (.call 17 (.var 7) (.cons (.var 2) (.cons (.var 3) .nil))) (.cons (.cmp .le (.bin .add (.call 16 (.var 7) .nil) (.var 3)) (.cI 8)) .nil))) (.cons (.ret (.cB false)) .nil) .nil) .nil)))))) (.cons (.ret (.cmp .eq (.var 1) (.call 12 (.var 0) (.cons (.cI 0) .nil)))) .nil))))))⟩
def subT (j k : Nat) : Bool := false
def md : Md := ⟨[d0, d1, d2, d3, d4, d5, d6, d7, d8, d9, d10, d11, d12, d13, d14, d15, d16, d17, d18, d19], [], [], [], [("DEEPEST", 8), ("MOST_IN_GROUP", 20), ("WIDEST_COUNT", 8), ("WIDEST_NUMBER", 64), ("FARTHEST", 100000000000000000000), ("MOST_IN_ONE", 16)], subT, 100, [], [d5.N]⟩
end QKk03

set_option Elab.async false
set_option linter.all false
set_option maxRecDepth 100000
set_option autoImplicit false
namespace Q
open PySem (PyData Str)
theorem Phi_at {m : Md} {n j : Nat} {d : Df} {ds : List PyData} (h : m.ds[j]? = some d) (hl : ds.length = d.ar) : m.Phi (n + 1) j ds = run SS m.sub (m.Phi n) m.L d.N.length d.bd ds := by
  show (match m.ds[j]? with
    | some d => if ds.length = d.ar then run SS m.sub (Md.Phi m n) m.L d.N.length d.bd ds else .bad
    | none => .bad) = _
  rw [h]
  exact if_pos hl
theorem Phi_rt {m : Md} {n j : Nat} {d : Df} {ds : List PyData} {env : Env} {s : Sl} (h : m.ds[j]? = some d) (hl : ds.length = d.ar) (he : ds.map (fun d => some (Sl.fr d)) ++ List.replicate (d.N.length - ds.length) none = env)
    (hx : xs SS m.sub (m.Phi n) m.L d.bd env = .rt s) : m.Phi (n + 1) j ds = .ok s := by
  rw [Phi_at h hl]
  unfold run
  rw [he, hx]
theorem Phi_xc {m : Md} {n j k : Nat} {d : Df} {ds : List PyData} {env env' : Env} (h : m.ds[j]? = some d) (hl : ds.length = d.ar) (he : ds.map (fun d => some (Sl.fr d)) ++ List.replicate (d.N.length - ds.length) none = env)
    (hx : xs SS m.sub (m.Phi n) m.L d.bd env = .xc k env') : m.Phi (n + 1) j ds = .exc k := by
  rw [Phi_at h hl]
  unfold run
  rw [he, hx]
/-- a loop whose turns are told -/
theorem floop_go {f : PyData → Env → Fl} (E : Nat → Env) : ∀ (ds : List PyData) (i : Nat), (∀ (j : Nat) (d : PyData), ds[j]? = some d → f d (E (i + j)) = .nx (E (i + j + 1))) → floop f ds (E i) = .nx (E (i + ds.length))
  | [], i, _ => rfl
  | d :: ds, i, h => by
    have h0 : f d (E i) = .nx (E (i + 1)) := h 0 d rfl
    have h1 := floop_go E ds (i + 1) fun j d hd => by
      have := h (j + 1) d hd
      rw [show i + (j + 1) = i + 1 + j by omega] at this
      exact this
    show (match f d (E i) with
      | .nx e => floop f ds e
      | .ct e => floop f ds e
      | .bk e => .nx e
      | .rt s => .rt s
      | .xc k e => .xc k e
      | .bad => .bad) = _
    rw [h0, List.length_cons, show i + (ds.length + 1) = i + 1 + ds.length by omega]
    exact h1
section
variable {α β : Type} {a : α} {f : α → Rs β} {k : Nat} {i j : Int} {d x y : PyData} {env : Env} {b : Bool} {xs ys : List PyData}
theorem bind_ok : (Rs.ok a).bind f = f a := rfl
theorem bind_exc : (Rs.exc k : Rs α).bind f = .exc k := rfl
theorem exR_ok {g : α → Fl} : exR (.ok a) env g = g a := rfl
theorem exR_exc {g : α → Fl} : exR (.exc k : Rs α) env g = .xc k env := rfl
theorem seq_nx {g : Env → Fl} : (Fl.nx env).seq g = g env := rfl
theorem seq_rt {g : Env → Fl} {s : Sl} : (Fl.rt s).seq g = .rt s := rfl
theorem seq_xc {g : Env → Fl} : (Fl.xc k env).seq g = .xc k env := rfl
theorem varR_0 : varR (some (.fr d) :: env) 0 = .ok d := rfl
theorem varR_S {o : Option Sl} {n : Nat} : varR (o :: env) (n + 1) = varR env n := rfl
theorem bb_add : binD .add (.int i) (.int j) = .ok (.int (i + j)) := rfl
theorem bb_sub : binD .sub (.int i) (.int j) = .ok (.int (i - j)) := rfl
theorem bb_mul (h : (-(2 ^ 64) < i ∧ i < 2 ^ 64) ∨ (-(2 ^ 64) < j ∧ j < 2 ^ 64)) : binD .mul (.int i) (.int j) = .ok (.int (i * j)) := if_pos h
theorem bb_mul2 : binD .mul (.int i) (.int 2) = .ok (.int (i * 2)) := if_pos (.inr ⟨by decide, by decide⟩)
theorem bb_mod (h : 0 < j) : binD .mod (.int i) (.int j) = .ok (.int (i % j)) := by
  show (if j ≠ 0 then Rs.ok (PyData.int (i.fmod j)) else .bad) = _
  rw [if_pos (by omega), Int.fmod_eq_emod_of_nonneg _ (by omega)]
theorem bb_fdiv (h : 0 < j) (h2 : j < 1073741824) : binD .fdiv (.int i) (.int j) = .ok (.int (i / j)) := by
  show (if j ≠ 0 ∧ j.natAbs < 1073741824 then Rs.ok (PyData.int (i.fdiv j)) else .bad) = _
  rw [if_pos ⟨by omega, by omega⟩, Int.fdiv_eq_ediv_of_nonneg _ (by omega)]
theorem bb_pow (h : 0 ≤ j ∧ j ≤ 1000000 ∧ i.natAbs < 2 ^ 64) : binD .pow (.int i) (.int j) = .ok (.int (i ^ j.toNat)) := if_pos h
theorem bb_shl1 (h : 0 ≤ j ∧ j ≤ 1000000) : binD .shl (.int 1) (.int j) = .ok (.int (2 ^ j.toNat)) := by
  show (if 0 ≤ j ∧ j ≤ 1000000 ∧ Int.natAbs 1 < 2 ^ 64 then Rs.ok (PyData.int (1 * 2 ^ j.toNat)) else .bad) = _
  rw [if_pos ⟨h.1, h.2, by decide⟩, Int.one_mul]
theorem bb_shl (h : 0 ≤ j ∧ j ≤ 1000000 ∧ i.natAbs < 2 ^ 64) : binD .shl (.int i) (.int j) = .ok (.int (i * 2 ^ j.toNat)) := if_pos h
theorem bb_shr (h : 0 ≤ j) : binD .shr (.int i) (.int j) = .ok (.int (i / 2 ^ j.toNat)) := if_pos h
theorem bb_and : binD .band (.int i) (.int 1) = .ok (.int (i % 2)) := rfl
theorem cc_lt {S : PyData → Bool} : cmpR S .lt (.int i) (.int j) = .ok (decide (i < j)) := rfl
theorem cc_le {S : PyData → Bool} : cmpR S .le (.int i) (.int j) = .ok (decide (i ≤ j)) := rfl
theorem cc_gt {S : PyData → Bool} : cmpR S .gt (.int i) (.int j) = .ok (decide (j < i)) := rfl
theorem cc_ge {S : PyData → Bool} : cmpR S .ge (.int i) (.int j) = .ok (decide (j ≤ i)) := rfl
theorem cc_eq {S : PyData → Bool} : cmpR S .eq (.int i) (.int j) = .ok (decide (i = j)) := rfl
theorem cc_ne {S : PyData → Bool} : cmpR S .ne (.int i) (.int j) = .ok (!decide (i = j)) := rfl
theorem cc_eqb {S : PyData → Bool} {b c : Bool} : cmpR S .eq (.bool b) (.bool c) = .ok (decide (b = c)) := rfl
theorem cc_eqs {S : PyData → Bool} {b c : Str} : cmpR S .eq (.str b) (.str c) = .ok (decide (b = c)) := rfl
theorem ll_len : bltR .len [.list xs] = .ok (.int xs.length) := rfl
theorem ll_lent : bltR .len [.tuple xs] = .ok (.int xs.length) := rfl
theorem ll_list : bltR .list [.list xs] = .ok (.list xs) := rfl
theorem ll_listt : bltR .list [.tuple xs] = .ok (.list xs) := rfl
theorem ll_max2 : bltR .max2 [.int i, .int j] = .ok (.int (if j > i then j else i)) := rfl
theorem ll_min2 : bltR .min2 [.int i, .int j] = .ok (.int (if j < i then j else i)) := rfl
theorem toD_fr : Sl.toD (.fr d) = .ok d := rfl
theorem toD_ow : Sl.toD (.ow xs) = .ok (.list xs) := rfl
theorem numR_ok (h : -(2 ^ 62) ≤ i ∧ i < 2 ^ 62) : numR (.int i) = .ok i := if_pos h
theorem lstR_ok : lstR (.list xs) = .ok xs := rfl
theorem ix_l {n : Nat} (h : xs[n]? = some d) : ixR (.list xs) (.int (n : Int)) = .ok d := by
  show ixD _ _ = _
  unfold ixD
  rw [if_pos (by omega), Int.toNat_natCast, h]
theorem ix_t {n : Nat} (h : xs[n]? = some d) : ixR (.tuple xs) (.int (n : Int)) = .ok d := by
  show ixD _ _ = _
  unfold ixD
  rw [if_pos (by omega), Int.toNat_natCast, h]
theorem fmt_int (h : i.natAbs.log2 < 1920) : fmtR (.int i) = .ok (.str (Str.ofString (toString i))) := if_pos h
theorem str_app {a b : Str} : (a ++ b).length = a.length + b.length := Array.size_append
theorem ifs_1 {A B C : Fl} : (match PyData.bool true with | .bool true => A | .bool false => B | _ => C) = A := rfl
theorem erR_0 : erR (some (.er k) :: env) 0 = .ok k := rfl
theorem erR_S {o : Option Sl} {n : Nat} : erR (o :: env) (n + 1) = erR env n := rfl
theorem catch_nx {sub : Nat → Nat → Bool} {h : Nat → Env → Fl} : catch1 sub (.nx env) k h = .nx env := rfl
theorem catch_rt {sub : Nat → Nat → Bool} {h : Nat → Env → Fl} {s : Sl} : catch1 sub (.rt s) k h = .rt s := rfl
theorem catch_xc {sub : Nat → Nat → Bool} {h : Nat → Env → Fl} {j : Nat} : catch1 sub (.xc j env) k h = if sub j k = true then h j env else .xc j env := rfl
theorem sfin_rt {g : Env → Env} {s : Sl} : sfin g (.rt s) = .rt s := rfl
theorem sfin_nx {g : Env → Env} : sfin g (.nx env) = if noEr (g env) = true then .nx (g env) else .bad := rfl
theorem noEr_n : noEr (none :: env) = noEr env := by simp [noEr]
theorem noEr_f : noEr (some (.fr d) :: env) = noEr env := by simp [noEr]
theorem noEr_o : noEr (some (.ow xs) :: env) = noEr env := by simp [noEr]
theorem noEr_0 : noEr [] = true := rfl
theorem in_t {n : Nat} (h : flatD (.int i) = true ∧ xs.all flatD = true) {S : PyData → Bool} : cmpR S .inn (.int i) (.tuple xs) = .ok (xs.any fun y => PyData.eqv y (.int i)) := if_pos h
theorem neg_i : negD (.int i) = .ok (.int (-i)) := rfl
theorem nin_in {S : PyData → Bool} {b : Bool} (h : inR x y = .ok b) : cmpR S .nin x y = .ok (!b) := by
  have : cmpR S .nin x y = (inR x y).bind fun b => .ok (!b) := rfl
  rw [this, h]
  rfl
theorem in_tup (h : flatD x = true ∧ xs.all flatD = true) : inR x (.tuple xs) = .ok (xs.any fun y => PyData.eqv y x) := if_pos h
theorem no_int : isNo (.int i) = false := rfl
theorem no_list : isNo (.list xs) = false := rfl
theorem no_tuple : isNo (.tuple xs) = false := rfl
theorem no_none : isNo .none = true := rfl
theorem no_bool : isNo (.bool b) = false := rfl
theorem no_str {s : Str} : isNo (.str s) = false := rfl
end
end Q

set_option Elab.async false
set_option linter.all false
set_option maxRecDepth 100000
set_option autoImplicit false
namespace Q
open PySem (PyData Str)
def cellB : Sts := (.cons (.ifs (.cmp .lt (.var 1) (.blt .len (.var 0) .nil)) (.cons (.ret (.ix (.var 0) (.var 1))) .nil) .nil) (.cons (.ret (.cI 0)) .nil))
def wholeB : Sts := (.cons (.ret (.conj (.isi (.var 0) .int) (.cons (.nt (.isi (.var 0) .bool)) .nil))) .nil)
def roomL : Sts := (.cons (.set 1 (.bin .mul (.var 1) (.cI 2))) .nil)
def roomB : Sts := (.cons (.set 1 (.cI 1)) (.cons (.forI 2 (.rng (.var 0)) roomL) (.cons (.ret (.var 1)) .nil)))
def wrL : Sts := (.cons (.app 2 (.bin .mod (.var 0) (.cI 2))) (.cons (.set 0 (.bin .fdiv (.var 0) (.cI 2))) .nil))
def wrB : Sts := (.cons (.own 2 (.lst .nil)) (.cons (.forI 3 (.rng (.var 1)) wrL) (.cons (.frz 2) (.cons (.ret (.lrev (.var 2))) .nil))))
def alikeL (ja : Nat) : Sts := (.cons (.ifs (.nt (.call ja (.ix (.var 0) (.var 2)) (.cons (.ix (.var 1) (.var 2)) .nil))) (.cons (.ret (.cB false)) .nil) .nil) .nil)
def alikeB (jw ja : Nat) : Sts := (.cons (.ifs (.isN (.var 1)) (.cons (.ret (.isN (.var 0))) .nil) .nil) (.cons (.ifs (.isi (.var 1) .bool) (.cons (.ret (.conj (.isi (.var 0) .bool) (.cons (.cmp .eq (.var 0) (.var 1)) .nil))) .nil) .nil)
  (.cons (.ifs (.isi (.var 1) .int) (.cons (.ret (.conj (.call jw (.var 0) .nil) (.cons (.cmp .eq (.var 0) (.var 1)) .nil))) .nil) .nil) (.cons (.ifs (.isi (.var 1) .str) (.cons (.ret (.conj (.isi (.var 0) .str) (.cons (.cmp .eq (.var 0) (.var 1)) .nil))) .nil) .nil)
  (.cons (.ifs (.isi (.var 1) .tup) (.cons (.ifs (.nt (.isi (.var 0) .tup)) (.cons (.ret (.cB false)) .nil) .nil) .nil) (.cons (.ifs (.nt (.isi (.var 0) .lst)) (.cons (.ret (.cB false)) .nil) .nil) .nil)) (.cons (.ifs (.cmp .ne (.blt .len (.var 0) .nil) (.blt .len (.var 1) .nil)) (.cons (.ret (.cB false)) .nil) .nil)
  (.cons (.forI 2 (.rng (.blt .len (.var 1) .nil)) (alikeL ja)) (.cons (.ret (.cB true)) .nil))))))))
def cell (ns : List Int) (k : Nat) : Int := ns.getD k 0
section
variable {m : Md} {n j jw ja : Nat} {nm nm2 a b c e : Str}
theorem g_cell (h : m.ds[j]? = some ⟨nm, [a, b], 2, cellB⟩) (ns : List Int) (k : Nat) : m.Phi (n + 1) j [.list (ns.map .int), .int (k : Int)] = .ok (.fr (.int (cell ns k))) := by
  refine Phi_rt h (env := [some (.fr (.list (ns.map .int))), some (.fr (.int k))]) rfl rfl ?_
  by_cases h : k < ns.length
  · have e : decide ((k : Int) < ((ns.map PyData.int).length : Int)) = true := decide_eq_true (by rw [List.length_map]; omega)
    have e2 : ixR (.list (ns.map .int)) (.int (k : Int)) = .ok (.int (cell ns k)) := ix_l (by
      unfold cell
      rw [List.getElem?_map, List.getD_eq_getElem?_getD, List.getElem?_eq_getElem h]
      rfl)
    simp -implicitDefEqProofs only [Q.xs, Q.xs1, ev, evs, evI, evC, evJ, bind_ok, bind_exc, exR_ok, exR_exc, seq_nx, seq_rt, seq_xc, varR_0, varR_S, bb_add, bb_sub, bb_mul2, bb_and, cc_lt, cc_le, cc_gt, cc_ge, cc_eq, cc_ne, cc_eqb, cc_eqs, ll_len, ll_lent, ll_list, ll_listt, ll_max2, ll_min2, toD_fr, toD_ow, lstR_ok, neg_i, erR_0, erR_S, catch_nx, catch_rt, catch_xc, sfin_rt, sfin_nx, noEr_n, noEr_f, noEr_o, noEr_0, no_int, no_list, no_tuple, no_none, no_bool, no_str, isiD, List.set_cons_zero, List.set_cons_succ, decide_true, decide_false, Bool.not_true, Bool.not_false, if_true, if_false, Bool.false_eq_true, reduceIte, cellB, e, e2]
  · have e : decide ((k : Int) < ((ns.map PyData.int).length : Int)) = false := decide_eq_false (by rw [List.length_map]; omega)
    have e2 : cell ns k = 0 := by
      unfold cell
      rw [List.getD_eq_getElem?_getD, List.getElem?_eq_none (by omega)]
      rfl
    simp -implicitDefEqProofs only [Q.xs, Q.xs1, ev, evs, evI, evC, evJ, bind_ok, bind_exc, exR_ok, exR_exc, seq_nx, seq_rt, seq_xc, varR_0, varR_S, bb_add, bb_sub, bb_mul2, bb_and, cc_lt, cc_le, cc_gt, cc_ge, cc_eq, cc_ne, cc_eqb, cc_eqs, ll_len, ll_lent, ll_list, ll_listt, ll_max2, ll_min2, toD_fr, toD_ow, lstR_ok, neg_i, erR_0, erR_S, catch_nx, catch_rt, catch_xc, sfin_rt, sfin_nx, noEr_n, noEr_f, noEr_o, noEr_0, no_int, no_list, no_tuple, no_none, no_bool, no_str, isiD, List.set_cons_zero, List.set_cons_succ, decide_true, decide_false, Bool.not_true, Bool.not_false, if_true, if_false, Bool.false_eq_true, reduceIte, cellB, e, e2]
theorem g_whole (h : m.ds[j]? = some ⟨nm, [a], 1, wholeB⟩) (x : Int) : m.Phi (n + 1) j [.int x] = .ok (.fr (.bool true)) := by
  refine Phi_rt h (env := [some (.fr (.int x))]) rfl rfl ?_
  simp -implicitDefEqProofs only [Q.xs, Q.xs1, ev, evs, evI, evC, evJ, bind_ok, bind_exc, exR_ok, exR_exc, seq_nx, seq_rt, seq_xc, varR_0, varR_S, bb_add, bb_sub, bb_mul2, bb_and, cc_lt, cc_le, cc_gt, cc_ge, cc_eq, cc_ne, cc_eqb, cc_eqs, ll_len, ll_lent, ll_list, ll_listt, ll_max2, ll_min2, toD_fr, toD_ow, lstR_ok, neg_i, erR_0, erR_S, catch_nx, catch_rt, catch_xc, sfin_rt, sfin_nx, noEr_n, noEr_f, noEr_o, noEr_0, no_int, no_list, no_tuple, no_none, no_bool, no_str, isiD, List.set_cons_zero, List.set_cons_succ, decide_true, decide_false, Bool.not_true, Bool.not_false, if_true, if_false, Bool.false_eq_true, reduceIte, wholeB]
theorem room_loop (sub : Nat → Nat → Bool) (Φ : Fns) (L w : Nat) : floop (fun d env => xs SS sub Φ L roomL (env.set 2 (some (.fr d)))) (rangeD 0 w) [some (.fr (.int w)), some (.fr (.int 1)), none] = .nx [some (.fr (.int w)), some (.fr (.int (2 ^ w))), if w = 0 then none else some (.fr (.int ((w : Int) - 1)))] := by
  have e := floop_go (f := fun d env => xs SS sub Φ L roomL (env.set 2 (some (.fr d)))) (fun i => [some (.fr (.int w)), some (.fr (.int (2 ^ i))), if i = 0 then none else some (.fr (.int ((i : Int) - 1)))]) (rangeD 0 w) 0 (fun j d hd => by
    obtain ⟨_, rfl⟩ := rangeD_get hd
    simp -implicitDefEqProofs only [Q.xs, Q.xs1, ev, evs, evI, evC, evJ, bind_ok, bind_exc, exR_ok, exR_exc, seq_nx, seq_rt, seq_xc, varR_0, varR_S, bb_add, bb_sub, bb_mul2, bb_and, cc_lt, cc_le, cc_gt, cc_ge, cc_eq, cc_ne, cc_eqb, cc_eqs, ll_len, ll_lent, ll_list, ll_listt, ll_max2, ll_min2, toD_fr, toD_ow, lstR_ok, neg_i, erR_0, erR_S, catch_nx, catch_rt, catch_xc, sfin_rt, sfin_nx, noEr_n, noEr_f, noEr_o, noEr_0, no_int, no_list, no_tuple, no_none, no_bool, no_str, isiD, List.set_cons_zero, List.set_cons_succ, decide_true, decide_false, Bool.not_true, Bool.not_false, if_true, if_false, Bool.false_eq_true, reduceIte, roomL]
    rw [if_neg (by omega), Int.pow_succ, show ((0 + j + 1 : Nat) : Int) - 1 = 0 + (j : Int) by omega])
  rw [rangeD_len, Nat.zero_add, if_pos rfl] at e
  exact e
theorem g_room (h : m.ds[j]? = some ⟨nm, [a, b, c], 1, roomB⟩) (w : Nat) (h1 : (w : Int) ≤ 1000000) : m.Phi (n + 1) j [.int w] = .ok (.fr (.int (2 ^ w))) := by
  refine Phi_rt h (env := [some (.fr (.int w)), none, none]) rfl rfl ?_
  have hn : numR (.int (w : Int)) = .ok (w : Int) := numR_ok (by omega)
  have e := room_loop m.sub (m.Phi n) m.L w
  simp -implicitDefEqProofs only [Q.xs, Q.xs1, ev, evs, evI, evC, evJ, bind_ok, bind_exc, exR_ok, exR_exc, seq_nx, seq_rt, seq_xc, varR_0, varR_S, bb_add, bb_sub, bb_mul2, bb_and, cc_lt, cc_le, cc_gt, cc_ge, cc_eq, cc_ne, cc_eqb, cc_eqs, ll_len, ll_lent, ll_list, ll_listt, ll_max2, ll_min2, toD_fr, toD_ow, lstR_ok, neg_i, erR_0, erR_S, catch_nx, catch_rt, catch_xc, sfin_rt, sfin_nx, noEr_n, noEr_f, noEr_o, noEr_0, no_int, no_list, no_tuple, no_none, no_bool, no_str, isiD, List.set_cons_zero, List.set_cons_succ, decide_true, decide_false, Bool.not_true, Bool.not_false, if_true, if_false, Bool.false_eq_true, reduceIte, roomL] at e
  simp -implicitDefEqProofs only [Q.xs, Q.xs1, ev, evs, evI, evC, evJ, bind_ok, bind_exc, exR_ok, exR_exc, seq_nx, seq_rt, seq_xc, varR_0, varR_S, bb_add, bb_sub, bb_mul2, bb_and, cc_lt, cc_le, cc_gt, cc_ge, cc_eq, cc_ne, cc_eqb, cc_eqs, ll_len, ll_lent, ll_list, ll_listt, ll_max2, ll_min2, toD_fr, toD_ow, lstR_ok, neg_i, erR_0, erR_S, catch_nx, catch_rt, catch_xc, sfin_rt, sfin_nx, noEr_n, noEr_f, noEr_o, noEr_0, no_int, no_list, no_tuple, no_none, no_bool, no_str, isiD, List.set_cons_zero, List.set_cons_succ, decide_true, decide_false, Bool.not_true, Bool.not_false, if_true, if_false, Bool.false_eq_true, reduceIte, roomB, roomL, hn, Int.toNat_natCast, e]
/-- the bits of a number, the lowest first -/
def low (x : Int) : Nat → List PyData
  | 0 => []
  | n + 1 => .int (x % 2) :: low (x / 2) n
theorem low_snoc (x : Int) : ∀ n : Nat, low x (n + 1) = low x n ++ [.int (x / 2 ^ n % 2)]
  | 0 => by simp [low]
  | n + 1 => by
    have := low_snoc (x / 2) n
    show PyData.int (x % 2) :: low (x / 2) (n + 1) = (.int (x % 2) :: low (x / 2) n) ++ _
    rw [this, Int.ediv_ediv_of_nonneg (by decide), Int.mul_comm, ← Int.pow_succ]
    rfl
theorem low_len (x : Int) : ∀ n : Nat, (low x n).length = n
  | 0 => rfl
  | n + 1 => congrArg (· + 1) (low_len (x / 2) n)
def wr (x : Int) (n : Nat) : List PyData := (low x n).reverse
theorem wr_len (x : Int) (n : Nat) : (wr x n).length = n := by unfold wr; rw [List.length_reverse, low_len]
theorem wr_loop (sub : Nat → Nat → Bool) (Φ : Fns) (L : Nat) (x : Int) (w : Nat) (hw : w ≤ 8000000) : floop (fun d env => xs SS sub Φ L wrL (env.set 3 (some (.fr d)))) (rangeD 0 w) [some (.fr (.int x)), some (.fr (.int w)), some (.ow []), none] = .nx [some (.fr (.int (x / 2 ^ w))), some (.fr (.int w)), some (.ow (low x w)), if w = 0 then none else some (.fr (.int ((w : Int) - 1)))] := by
  have e := floop_go (f := fun d env => xs SS sub Φ L wrL (env.set 3 (some (.fr d)))) (fun i => [some (.fr (.int (x / 2 ^ i))), some (.fr (.int w)), some (.ow (low x i)), if i = 0 then none else some (.fr (.int ((i : Int) - 1)))]) (rangeD 0 w) 0 (fun j d hd => by
    obtain ⟨hj, rfl⟩ := rangeD_get hd
    have hm : binD .mod (.int (x / 2 ^ (0 + j))) (.int 2) = .ok (.int (x / 2 ^ (0 + j) % 2)) := bb_mod (by decide)
    have hd : binD .fdiv (.int (x / 2 ^ (0 + j))) (.int 2) = .ok (.int (x / 2 ^ (0 + j) / 2)) := bb_fdiv (by decide) (by decide)
    have hl : ((low x (0 + j)).length < szl) = True := eq_true (by rw [low_len]; show 0 + j < 16777216; omega)
    simp -implicitDefEqProofs only [Q.xs, Q.xs1, ev, evs, evI, evC, evJ, bind_ok, bind_exc, exR_ok, exR_exc, seq_nx, seq_rt, seq_xc, varR_0, varR_S, bb_add, bb_sub, bb_mul2, bb_and, cc_lt, cc_le, cc_gt, cc_ge, cc_eq, cc_ne, cc_eqb, cc_eqs, ll_len, ll_lent, ll_list, ll_listt, ll_max2, ll_min2, toD_fr, toD_ow, lstR_ok, neg_i, erR_0, erR_S, catch_nx, catch_rt, catch_xc, sfin_rt, sfin_nx, noEr_n, noEr_f, noEr_o, noEr_0, no_int, no_list, no_tuple, no_none, no_bool, no_str, isiD, List.set_cons_zero, List.set_cons_succ, decide_true, decide_false, Bool.not_true, Bool.not_false, if_true, if_false, Bool.false_eq_true, reduceIte, wrL, hm, hd, hl, List.getElem?_cons_zero, List.getElem?_cons_succ]
    rw [if_neg (by omega), Int.ediv_ediv_of_nonneg (Int.le_of_lt (Int.pow_pos (by decide))), ← Int.pow_succ, low_snoc, show ((0 + j + 1 : Nat) : Int) - 1 = 0 + (j : Int) by omega])
  rw [rangeD_len, Nat.zero_add, if_pos rfl] at e
  rw [show x / 2 ^ 0 = x by simp] at e
  exact e
theorem g_wr (h : m.ds[j]? = some ⟨nm, [a, b, c, e], 2, wrB⟩) (x : Int) (w : Nat) (hw : w ≤ 8000000) : m.Phi (n + 1) j [.int x, .int w] = .ok (.fr (.list (wr x w))) := by
  refine Phi_rt h (env := [some (.fr (.int x)), some (.fr (.int w)), none, none]) rfl rfl ?_
  have hn : numR (.int (w : Int)) = .ok (w : Int) := numR_ok (by omega)
  have e := wr_loop m.sub (m.Phi n) m.L x w hw
  simp -implicitDefEqProofs only [Q.xs, Q.xs1, ev, evs, evI, evC, evJ, bind_ok, bind_exc, exR_ok, exR_exc, seq_nx, seq_rt, seq_xc, varR_0, varR_S, bb_add, bb_sub, bb_mul2, bb_and, cc_lt, cc_le, cc_gt, cc_ge, cc_eq, cc_ne, cc_eqb, cc_eqs, ll_len, ll_lent, ll_list, ll_listt, ll_max2, ll_min2, toD_fr, toD_ow, lstR_ok, neg_i, erR_0, erR_S, catch_nx, catch_rt, catch_xc, sfin_rt, sfin_nx, noEr_n, noEr_f, noEr_o, noEr_0, no_int, no_list, no_tuple, no_none, no_bool, no_str, isiD, List.set_cons_zero, List.set_cons_succ, decide_true, decide_false, Bool.not_true, Bool.not_false, if_true, if_false, Bool.false_eq_true, reduceIte, wrL] at e
  have z : ([] : List PyData).length ≤ szl := by decide
  simp -implicitDefEqProofs only [Q.xs, Q.xs1, ev, evs, evI, evC, evJ, bind_ok, bind_exc, exR_ok, exR_exc, seq_nx, seq_rt, seq_xc, varR_0, varR_S, bb_add, bb_sub, bb_mul2, bb_and, cc_lt, cc_le, cc_gt, cc_ge, cc_eq, cc_ne, cc_eqb, cc_eqs, ll_len, ll_lent, ll_list, ll_listt, ll_max2, ll_min2, toD_fr, toD_ow, lstR_ok, neg_i, erR_0, erR_S, catch_nx, catch_rt, catch_xc, sfin_rt, sfin_nx, noEr_n, noEr_f, noEr_o, noEr_0, no_int, no_list, no_tuple, no_none, no_bool, no_str, isiD, List.set_cons_zero, List.set_cons_succ, decide_true, decide_false, Bool.not_true, Bool.not_false, if_true, if_false, Bool.false_eq_true, reduceIte, wrB, wrL, hn, Int.toNat_natCast, e, if_pos z, List.getElem?_cons_zero, List.getElem?_cons_succ]
  rfl
/-- data of that depth: numbers, truths, texts, none; lists and tuples of them -/
inductive Pl : Nat → PyData → Prop
  | i {n : Nat} (x : Int) : Pl n (.int x)
  | b {n : Nat} (x : Bool) : Pl n (.bool x)
  | s {n : Nat} (x : Str) : Pl n (.str x)
  | n {n : Nat} : Pl n .none
  | l {n : Nat} {xs : List PyData} (h : ∀ x ∈ xs, Pl n x) (hl : xs.length < 2 ^ 62) : Pl (n + 1) (.list xs)
  | t {n : Nat} {xs : List PyData} (h : ∀ x ∈ xs, Pl n x) (hl : xs.length < 2 ^ 62) : Pl (n + 1) (.tuple xs)
theorem alike_loop {Φ : Fns} {sub : Nat → Nat → Bool} {L : Nat} {v : PyData} {ys : List PyData} (hi : ∀ (i : Nat) (x : PyData), ys[i]? = some x → ixR v (.int (i : Int)) = .ok x) (hc : ∀ x ∈ ys, Φ ja [x, x] = .ok (.fr (.bool true))) :
    floop (fun d env => xs SS sub Φ L (alikeL ja) (env.set 2 (some (.fr d)))) (rangeD 0 ys.length) [some (.fr v), some (.fr v), none] = .nx [some (.fr v), some (.fr v), if ys.length = 0 then none else some (.fr (.int ((ys.length : Int) - 1)))] := by
  have lp := floop_go (f := fun d env => xs SS sub Φ L (alikeL ja) (env.set 2 (some (.fr d)))) (fun i => [some (.fr v), some (.fr v), if i = 0 then none else some (.fr (.int ((i : Int) - 1)))]) (rangeD 0 ys.length) 0 (fun j d hd => by
    obtain ⟨hj, rfl⟩ := rangeD_get hd
    have hx : ixR v (.int (0 + (j : Int))) = .ok ys[j] := by
      rw [Int.zero_add]
      exact hi j _ (List.getElem?_eq_getElem hj)
    have hy := hc _ (List.getElem_mem hj)
    simp -implicitDefEqProofs only [Q.xs, Q.xs1, ev, evs, evI, evC, evJ, bind_ok, bind_exc, exR_ok, exR_exc, seq_nx, seq_rt, seq_xc, varR_0, varR_S, bb_add, bb_sub, bb_mul2, bb_and, cc_lt, cc_le, cc_gt, cc_ge, cc_eq, cc_ne, cc_eqb, cc_eqs, ll_len, ll_lent, ll_list, ll_listt, ll_max2, ll_min2, toD_fr, toD_ow, lstR_ok, neg_i, erR_0, erR_S, catch_nx, catch_rt, catch_xc, sfin_rt, sfin_nx, noEr_n, noEr_f, noEr_o, noEr_0, no_int, no_list, no_tuple, no_none, no_bool, no_str, isiD, List.set_cons_zero, List.set_cons_succ, decide_true, decide_false, Bool.not_true, Bool.not_false, if_true, if_false, Bool.false_eq_true, reduceIte, alikeL, hx, hy]
    rw [if_neg (by omega), show ((0 + j + 1 : Nat) : Int) - 1 = 0 + (j : Int) by omega])
  rw [rangeD_len, Nat.zero_add, if_pos rfl] at lp
  exact lp
theorem g_alike (h : m.ds[ja]? = some ⟨nm, [a, b, c], 2, alikeB jw ja⟩) (hw : m.ds[jw]? = some ⟨nm2, [e], 1, wholeB⟩) : ∀ (k : Nat) (d : PyData), Pl k d → m.Phi (n + k + 2) ja [d, d] = .ok (.fr (.bool true))
  | k, _, .i x => by
    refine Phi_rt h (env := [some (.fr (.int x)), some (.fr (.int x)), none]) rfl rfl ?_
    have e : decide (x = x) = true := decide_eq_true rfl
    have ew : m.Phi (n + k + 1) jw [.int x] = .ok (.fr (.bool true)) := g_whole hw x
    simp -implicitDefEqProofs only [Q.xs, Q.xs1, ev, evs, evI, evC, evJ, bind_ok, bind_exc, exR_ok, exR_exc, seq_nx, seq_rt, seq_xc, varR_0, varR_S, bb_add, bb_sub, bb_mul2, bb_and, cc_lt, cc_le, cc_gt, cc_ge, cc_eq, cc_ne, cc_eqb, cc_eqs, ll_len, ll_lent, ll_list, ll_listt, ll_max2, ll_min2, toD_fr, toD_ow, lstR_ok, neg_i, erR_0, erR_S, catch_nx, catch_rt, catch_xc, sfin_rt, sfin_nx, noEr_n, noEr_f, noEr_o, noEr_0, no_int, no_list, no_tuple, no_none, no_bool, no_str, isiD, List.set_cons_zero, List.set_cons_succ, decide_true, decide_false, Bool.not_true, Bool.not_false, if_true, if_false, Bool.false_eq_true, reduceIte, alikeB, ew, e]
  | k, _, .b x => by
    refine Phi_rt h (env := [some (.fr (.bool x)), some (.fr (.bool x)), none]) rfl rfl ?_
    have e : decide (x = x) = true := decide_eq_true rfl
    simp -implicitDefEqProofs only [Q.xs, Q.xs1, ev, evs, evI, evC, evJ, bind_ok, bind_exc, exR_ok, exR_exc, seq_nx, seq_rt, seq_xc, varR_0, varR_S, bb_add, bb_sub, bb_mul2, bb_and, cc_lt, cc_le, cc_gt, cc_ge, cc_eq, cc_ne, cc_eqb, cc_eqs, ll_len, ll_lent, ll_list, ll_listt, ll_max2, ll_min2, toD_fr, toD_ow, lstR_ok, neg_i, erR_0, erR_S, catch_nx, catch_rt, catch_xc, sfin_rt, sfin_nx, noEr_n, noEr_f, noEr_o, noEr_0, no_int, no_list, no_tuple, no_none, no_bool, no_str, isiD, List.set_cons_zero, List.set_cons_succ, decide_true, decide_false, Bool.not_true, Bool.not_false, if_true, if_false, Bool.false_eq_true, reduceIte, alikeB, e]
  | k, _, .s x => by
    refine Phi_rt h (env := [some (.fr (.str x)), some (.fr (.str x)), none]) rfl rfl ?_
    have e : decide (x = x) = true := decide_eq_true rfl
    simp -implicitDefEqProofs only [Q.xs, Q.xs1, ev, evs, evI, evC, evJ, bind_ok, bind_exc, exR_ok, exR_exc, seq_nx, seq_rt, seq_xc, varR_0, varR_S, bb_add, bb_sub, bb_mul2, bb_and, cc_lt, cc_le, cc_gt, cc_ge, cc_eq, cc_ne, cc_eqb, cc_eqs, ll_len, ll_lent, ll_list, ll_listt, ll_max2, ll_min2, toD_fr, toD_ow, lstR_ok, neg_i, erR_0, erR_S, catch_nx, catch_rt, catch_xc, sfin_rt, sfin_nx, noEr_n, noEr_f, noEr_o, noEr_0, no_int, no_list, no_tuple, no_none, no_bool, no_str, isiD, List.set_cons_zero, List.set_cons_succ, decide_true, decide_false, Bool.not_true, Bool.not_false, if_true, if_false, Bool.false_eq_true, reduceIte, alikeB, e]
  | k, _, .n => by
    refine Phi_rt h (env := [some (.fr .none), some (.fr .none), none]) rfl rfl ?_
    simp -implicitDefEqProofs only [Q.xs, Q.xs1, ev, evs, evI, evC, evJ, bind_ok, bind_exc, exR_ok, exR_exc, seq_nx, seq_rt, seq_xc, varR_0, varR_S, bb_add, bb_sub, bb_mul2, bb_and, cc_lt, cc_le, cc_gt, cc_ge, cc_eq, cc_ne, cc_eqb, cc_eqs, ll_len, ll_lent, ll_list, ll_listt, ll_max2, ll_min2, toD_fr, toD_ow, lstR_ok, neg_i, erR_0, erR_S, catch_nx, catch_rt, catch_xc, sfin_rt, sfin_nx, noEr_n, noEr_f, noEr_o, noEr_0, no_int, no_list, no_tuple, no_none, no_bool, no_str, isiD, List.set_cons_zero, List.set_cons_succ, decide_true, decide_false, Bool.not_true, Bool.not_false, if_true, if_false, Bool.false_eq_true, reduceIte, alikeB]
  | k + 1, _, .l (xs := l) hl hz => by
    refine Phi_rt h (env := [some (.fr (.list l)), some (.fr (.list l)), none]) rfl rfl ?_
    have e : decide ((l.length : Int) = (l.length : Int)) = true := decide_eq_true rfl
    have hn : numR (.int (l.length : Int)) = .ok (l.length : Int) := numR_ok (by omega)
    have lp := alike_loop (Φ := m.Phi (n + (k + 1) + 1)) (sub := m.sub) (L := m.L) (ja := ja) (v := .list l) (fun i x hx => ix_l hx) (fun x hx => g_alike h hw k x (hl x hx))
    simp -implicitDefEqProofs only [Q.xs, Q.xs1, ev, evs, evI, evC, evJ, bind_ok, bind_exc, exR_ok, exR_exc, seq_nx, seq_rt, seq_xc, varR_0, varR_S, bb_add, bb_sub, bb_mul2, bb_and, cc_lt, cc_le, cc_gt, cc_ge, cc_eq, cc_ne, cc_eqb, cc_eqs, ll_len, ll_lent, ll_list, ll_listt, ll_max2, ll_min2, toD_fr, toD_ow, lstR_ok, neg_i, erR_0, erR_S, catch_nx, catch_rt, catch_xc, sfin_rt, sfin_nx, noEr_n, noEr_f, noEr_o, noEr_0, no_int, no_list, no_tuple, no_none, no_bool, no_str, isiD, List.set_cons_zero, List.set_cons_succ, decide_true, decide_false, Bool.not_true, Bool.not_false, if_true, if_false, Bool.false_eq_true, reduceIte, alikeL] at lp
    simp -implicitDefEqProofs only [Q.xs, Q.xs1, ev, evs, evI, evC, evJ, bind_ok, bind_exc, exR_ok, exR_exc, seq_nx, seq_rt, seq_xc, varR_0, varR_S, bb_add, bb_sub, bb_mul2, bb_and, cc_lt, cc_le, cc_gt, cc_ge, cc_eq, cc_ne, cc_eqb, cc_eqs, ll_len, ll_lent, ll_list, ll_listt, ll_max2, ll_min2, toD_fr, toD_ow, lstR_ok, neg_i, erR_0, erR_S, catch_nx, catch_rt, catch_xc, sfin_rt, sfin_nx, noEr_n, noEr_f, noEr_o, noEr_0, no_int, no_list, no_tuple, no_none, no_bool, no_str, isiD, List.set_cons_zero, List.set_cons_succ, decide_true, decide_false, Bool.not_true, Bool.not_false, if_true, if_false, Bool.false_eq_true, reduceIte, alikeB, alikeL, e, hn, Int.toNat_natCast, lp]
  | k + 1, _, .t (xs := l) hl hz => by
    refine Phi_rt h (env := [some (.fr (.tuple l)), some (.fr (.tuple l)), none]) rfl rfl ?_
    have e : decide ((l.length : Int) = (l.length : Int)) = true := decide_eq_true rfl
    have hn : numR (.int (l.length : Int)) = .ok (l.length : Int) := numR_ok (by omega)
    have lp := alike_loop (Φ := m.Phi (n + (k + 1) + 1)) (sub := m.sub) (L := m.L) (ja := ja) (v := .tuple l) (fun i x hx => ix_t hx) (fun x hx => g_alike h hw k x (hl x hx))
    simp -implicitDefEqProofs only [Q.xs, Q.xs1, ev, evs, evI, evC, evJ, bind_ok, bind_exc, exR_ok, exR_exc, seq_nx, seq_rt, seq_xc, varR_0, varR_S, bb_add, bb_sub, bb_mul2, bb_and, cc_lt, cc_le, cc_gt, cc_ge, cc_eq, cc_ne, cc_eqb, cc_eqs, ll_len, ll_lent, ll_list, ll_listt, ll_max2, ll_min2, toD_fr, toD_ow, lstR_ok, neg_i, erR_0, erR_S, catch_nx, catch_rt, catch_xc, sfin_rt, sfin_nx, noEr_n, noEr_f, noEr_o, noEr_0, no_int, no_list, no_tuple, no_none, no_bool, no_str, isiD, List.set_cons_zero, List.set_cons_succ, decide_true, decide_false, Bool.not_true, Bool.not_false, if_true, if_false, Bool.false_eq_true, reduceIte, alikeL] at lp
    simp -implicitDefEqProofs only [Q.xs, Q.xs1, ev, evs, evI, evC, evJ, bind_ok, bind_exc, exR_ok, exR_exc, seq_nx, seq_rt, seq_xc, varR_0, varR_S, bb_add, bb_sub, bb_mul2, bb_and, cc_lt, cc_le, cc_gt, cc_ge, cc_eq, cc_ne, cc_eqb, cc_eqs, ll_len, ll_lent, ll_list, ll_listt, ll_max2, ll_min2, toD_fr, toD_ow, lstR_ok, neg_i, erR_0, erR_S, catch_nx, catch_rt, catch_xc, sfin_rt, sfin_nx, noEr_n, noEr_f, noEr_o, noEr_0, no_int, no_list, no_tuple, no_none, no_bool, no_str, isiD, List.set_cons_zero, List.set_cons_succ, decide_true, decide_false, Bool.not_true, Bool.not_false, if_true, if_false, Bool.false_eq_true, reduceIte, alikeB, alikeL, e, hn, Int.toNat_natCast, lp]
end
end Q
namespace Q
open PySem (PyData Str)
def tk : Nat → Sts → Sts
  | 0, _ => .nil
  | _, .nil => .nil
  | n + 1, .cons s ss => .cons s (tk n ss)
def dr : Nat → Sts → Sts
  | 0, s => s
  | _, .nil => .nil
  | n + 1, .cons _ ss => dr n ss
theorem seq_assoc (a : Fl) (f g : Env → Fl) : (a.seq f).seq g = a.seq fun e => (f e).seq g := by cases a <;> rfl
theorem xs_split {S : PyData → Bool} {sub : Nat → Nat → Bool} {Φ : Fns} {L : Nat} : ∀ (n : Nat) (b : Sts) (env : Env), xs S sub Φ L b env = (xs S sub Φ L (tk n b) env).seq (xs S sub Φ L (dr n b))
  | 0, b, env => rfl
  | n + 1, .nil, env => rfl
  | n + 1, .cons s ss, env => by
    show (xs1 S sub Φ L s env).seq (xs S sub Φ L ss) = ((xs1 S sub Φ L s env).seq (xs S sub Φ L (tk n ss))).seq (xs S sub Φ L (dr n ss))
    rw [seq_assoc]
    exact congrArg _ (funext fun e => xs_split n ss e)
theorem xs_step {S : PyData → Bool} {sub : Nat → Nat → Bool} {Φ : Fns} {L : Nat} (n : Nat) {b : Sts} {env env' : Env} (h : xs S sub Φ L (tk n b) env = .nx env') : xs S sub Φ L b env = xs S sub Φ L (dr n b) env' := by
  rw [xs_split n, h]
  rfl
theorem xs_for2 {S : PyData → Bool} {sub : Nat → Nat → Bool} {Φ : Fns} {L i j : Nat} {it : Itr} {b t : Sts} {env : Env} : xs S sub Φ L (.cons (.for2 i j it b) t) env =
    (exR (evI S Φ it env) env fun ds => floop (fun d env => (match d with | .tuple [x, y] => xs S sub Φ L b ((env.set i (some (.fr x))).set j (some (.fr y))) | _ => .bad)) ds env).seq (xs S sub Φ L t) := rfl
theorem xs_for {S : PyData → Bool} {sub : Nat → Nat → Bool} {Φ : Fns} {L i : Nat} {it : Itr} {b t : Sts} {env : Env} : xs S sub Φ L (.cons (.forI i it b) t) env =
    (exR (evI S Φ it env) env fun ds => floop (fun d env => xs S sub Φ L b (env.set i (some (.fr d)))) ds env).seq (xs S sub Φ L t) := rfl
theorem low_bit (x : Int) : ∀ (n : Nat) (d : PyData), d ∈ low x n → d = .int 0 ∨ d = .int 1
  | 0, d, h => by cases h
  | n + 1, d, h => by
    rcases List.mem_cons.mp h with rfl | h
    · have : x % 2 = 0 ∨ x % 2 = 1 := by omega
      rcases this with e | e <;> rw [e] <;> simp
    · exact low_bit (x / 2) n d h
theorem wr_bit (x : Int) (n : Nat) (d : PyData) (h : d ∈ wr x n) : d = .int 0 ∨ d = .int 1 := low_bit x n d (List.mem_reverse.mp h)
/-- bits as numbers -/
theorem as_ints : ∀ (l : List PyData), (∀ d ∈ l, d = .int 0 ∨ d = .int 1) → ∃ ns : List Int, l = ns.map .int ∧ ∀ b ∈ ns, b = 0 ∨ b = 1
  | [], _ => ⟨[], rfl, fun b hb => by cases hb⟩
  | d :: l, h => by
    obtain ⟨ns, e, hb⟩ := as_ints l fun d hd => h d (List.mem_cons_of_mem _ hd)
    rcases h d List.mem_cons_self with rfl | rfl
    · exact ⟨0 :: ns, by rw [e]; rfl, fun b hm => by
        rcases List.mem_cons.mp hm with rfl | hm
        · exact .inl rfl
        · exact hb b hm⟩
    · exact ⟨1 :: ns, by rw [e]; rfl, fun b hm => by
        rcases List.mem_cons.mp hm with rfl | hm
        · exact .inr rfl
        · exact hb b hm⟩
theorem cut_to {α : Type} (l : List α) (c : Nat) (hc : c ≤ l.length) : cut l none (some (c : Int)) = l.take c := by
  unfold cut sIx
  dsimp only
  rw [if_neg (by omega), Int.toNat_natCast, Nat.min_eq_left hc]
  rfl
theorem cut_mid {α : Type} (l : List α) (p w : Nat) (hp : p ≤ l.length) : cut l (some (p : Int)) (some ((p : Int) + (w : Int))) = (l.drop p).take w := by
  unfold cut sIx
  dsimp only
  rw [if_neg (by omega), if_neg (by omega), Int.toNat_natCast, Nat.min_eq_left hp, show ((p : Int) + (w : Int)).toNat = p + w by omega]
  by_cases h : p + w ≤ l.length
  · rw [Nat.min_eq_left h, show p + w - p = w by omega]
  · rw [Nat.min_eq_right (by omega), List.take_of_length_le (by rw [List.length_drop]; omega), List.take_of_length_le (by rw [List.length_drop]; omega)]
/-- j, j + 1, .. -/
def rg : Nat → Nat → List PyData
  | _, 0 => []
  | j, k + 1 => .int (j : Int) :: rg (j + 1) k
theorem rg_len : ∀ j k : Nat, (rg j k).length = k
  | _, 0 => rfl
  | j, k + 1 => congrArg (· + 1) (rg_len (j + 1) k)
theorem rg_get : ∀ (j k i : Nat), i < k → (rg j k)[i]? = some (.int ((j + i : Nat) : Int))
  | j, 0, i, h => by omega
  | j, k + 1, 0, _ => rfl
  | j, k + 1, i + 1, h => by
    show (rg (j + 1) k)[i]? = _
    rw [rg_get (j + 1) k i (by omega), show j + 1 + i = j + (i + 1) by omega]
theorem rangeD_rg (n : Nat) : rangeD 0 n = rg 0 n := by
  apply List.ext_getElem?
  intro i
  by_cases h : i < n
  · rw [rg_get 0 n i h]
    unfold rangeD
    rw [List.getElem?_map, List.getElem?_range h]
    simp
  · rw [List.getElem?_eq_none (by rw [rangeD_len]; omega), List.getElem?_eq_none (by rw [rg_len]; omega)]
end Q

set_option Elab.async false
set_option linter.all false
set_option maxRecDepth 100000
set_option autoImplicit false
namespace Q
open PySem (PyData Str)
/-- a def of n names, of which a are told -/
def At (m : Md) (j n a : Nat) (b : Sts) : Prop := ∃ d, m.ds[j]? = some d ∧ d.N.length = n ∧ d.ar = a ∧ d.bd = b
/-- the places of the defs -/
structure Ix where
  c_BadRecord : Nat := 0
  c_Left : Nat := 0
  c_NoBits : Nat := 0
  c_PackError : Nat := 0
  c_Short : Nat := 0
  c_TooWide : Nat := 0
  c_Wrong : Nat := 0
  e_BadRecord : Nat := 0
  e_Left : Nat := 0
  e_NoBits : Nat := 0
  e_Short : Nat := 0
  e_TooWide : Nat := 0
  e_Wrong : Nat := 0
  l_alike : Nat := 0
  l_as_a_number : Nat := 0
  l_asked_again : Nat := 0
  l_begun : Nat := 0
  l_bit_list : Nat := 0
  l_bits : Nat := 0
  l_bound : Nat := 0
  l_cell_at : Nat := 0
  l_changed : Nat := 0
  l_code : Nat := 0
  l_count : Nat := 0
  l_counted : Nat := 0
  l_deeper : Nat := 0
  l_depth : Nat := 0
  l_due : Nat := 0
  l_fits : Nat := 0
  l_goes_on : Nat := 0
  l_group : Nat := 0
  l_handed : Nat := 0
  l_leaf : Nat := 0
  l_least : Nat := 0
  l_lengths : Nat := 0
  l_long : Nat := 0
  l_many : Nat := 0
  l_most : Nat := 0
  l_number : Nat := 0
  l_odd : Nat := 0
  l_odd_in : Nat := 0
  l_one : Nat := 0
  l_packed : Nat := 0
  l_packed_word : Nat := 0
  l_packs : Nat := 0
  l_pieces : Nat := 0
  l_put : Nat := 0
  l_read : Nat := 0
  l_read_back : Nat := 0
  l_read_word : Nat := 0
  l_record : Nat := 0
  l_refused : Nat := 0
  l_refused_by_any : Nat := 0
  l_room : Nat := 0
  l_round : Nat := 0
  l_row : Nat := 0
  l_row_packs : Nat := 0
  l_shape : Nat := 0
  l_spoilt : Nat := 0
  l_told : Nat := 0
  l_unpacked : Nat := 0
  l_walked : Nat := 0
  l_whole : Nat := 0
  l_wide : Nat := 0
  l_written : Nat := 0
  law_k01 : Nat := 0
  law_k02 : Nat := 0
  law_k03 : Nat := 0
  law_k04 : Nat := 0
  law_k05 : Nat := 0
  law_k06 : Nat := 0
  law_k07 : Nat := 0
  law_k08 : Nat := 0
  law_k09 : Nat := 0
  law_k10 : Nat := 0
  law_k11 : Nat := 0
  law_k12 : Nat := 0
  law_k14 : Nat := 0
  p_begun : Nat := 0
  p_bits_by : Nat := 0
  p_bits_of : Nat := 0
  p_bits_of_each : Nat := 0
  p_bits_of_rows : Nat := 0
  p_code_at : Nat := 0
  p_fits : Nat := 0
  p_fits_each : Nat := 0
  p_fits_one : Nat := 0
  p_fits_rows : Nat := 0
  p_good_num : Nat := 0
  p_good_one : Nat := 0
  p_good_parts : Nat := 0
  p_good_shape : Nat := 0
  p_good_within : Nat := 0
  p_least_bits : Nat := 0
  p_looked : Nat := 0
  p_most_bits : Nat := 0
  p_number_of : Nat := 0
  p_packed : Nat := 0
  p_packed_all : Nat := 0
  p_read_at : Nat := 0
  p_read_each : Nat := 0
  p_read_num : Nat := 0
  p_read_one : Nat := 0
  p_read_pad : Nat := 0
  p_read_rows : Nat := 0
  p_refuse_no_bits : Nat := 0
  p_room_of : Nat := 0
  p_unpacked : Nat := 0
  p_unpacked_all : Nat := 0
  p_whole_records : Nat := 0
  p_whole_within : Nat := 0
/-- k01 k03 k04 k05 k06 k07 k08 k09 k10 k11 k12 k13 k14 -/
def b_p_room_of (I : Ix) : Sts := (.cons (.ret (.bin .shl (.cI 1) (.blt .max2 (.var 0) (.cons (.cI 0) .nil)))) .nil)
abbrev At_p_room_of (m : Md) (I : Ix) : Prop := At m I.p_room_of 1 1 (b_p_room_of I)
/-- k01 k04 k05 k06 k08 k09 k11 k12 k14 -/
def b_p_bits_of (I : Ix) : Sts := (.cons (.ifs (.nt (.chn .le .lt (.cI 0) (.var 0) (.call I.p_room_of (.var 1) .nil))) (.cons (.rse I.e_TooWide (.fstr (.cons (.cS "the number does not go into ") (.cons (.fmt (.var 1)) (.cons (.cS " bits") .nil))))) .nil) .nil) (.cons (.ret (.comp 2 (.bin .band (.bin .shr (.var 0) (.var 2)) (.cI 1)) (.rrng (.var 1)))) .nil))
abbrev At_p_bits_of (m : Md) (I : Ix) : Prop := At m I.p_bits_of 3 2 (b_p_bits_of I)
/-- k01 -/
def b_p_number_of (I : Ix) : Sts := (.cons (.set 1 (.cI 0)) (.cons (.forI 2 (.lst (.var 0)) (.cons (.set 1 (.bin .add (.bin .mul (.var 1) (.cI 2)) (.var 2))) .nil)) (.cons (.ret (.var 1)) .nil)))
abbrev At_p_number_of (m : Md) (I : Ix) : Prop := At m I.p_number_of 3 1 (b_p_number_of I)
/-- k01 k02 k03 k04 k05 k06 k07 k08 k09 k10 k11 k12 k13 k14 -/
def b_l_cell_at (I : Ix) : Sts := (.cons (.ifs (.cmp .lt (.var 1) (.blt .len (.var 0) .nil)) (.cons (.ret (.ix (.var 0) (.var 1))) .nil) .nil) (.cons (.ret (.cI 0)) .nil))
abbrev At_l_cell_at (m : Md) (I : Ix) : Prop := At m I.l_cell_at 2 2 (b_l_cell_at I)
/-- k01 k02 k04 k05 k06 k07 k08 k09 k10 k11 k12 k13 k14 -/
def b_l_whole (I : Ix) : Sts := (.cons (.ret (.conj (.isi (.var 0) .int) (.cons (.nt (.isi (.var 0) .bool)) .nil))) .nil)
abbrev At_l_whole (m : Md) (I : Ix) : Prop := At m I.l_whole 1 1 (b_l_whole I)
/-- k01 k02 k03 k04 k05 k06 k07 k08 k09 k10 k11 k12 k13 k14 -/
def b_l_room (I : Ix) : Sts := (.cons (.set 1 (.cI 1)) (.cons (.forI 2 (.rng (.var 0)) (.cons (.set 1 (.bin .mul (.var 1) (.cI 2))) .nil)) (.cons (.ret (.var 1)) .nil)))
abbrev At_l_room (m : Md) (I : Ix) : Prop := At m I.l_room 3 1 (b_l_room I)
/-- k01 k02 k05 k07 k08 k10 k11 k12 k13 k14 -/
def b_l_written (I : Ix) : Sts := (.cons (.own 2 (.lst .nil)) (.cons (.forI 3 (.rng (.var 1)) (.cons (.app 2 (.bin .mod (.var 0) (.cI 2))) (.cons (.set 0 (.bin .fdiv (.var 0) (.cI 2))) .nil))) (.cons (.frz 2) (.cons (.ret (.lrev (.var 2))) .nil))))
abbrev At_l_written (m : Md) (I : Ix) : Prop := At m I.l_written 4 2 (b_l_written I)
/-- k01 k02 k04 k05 k07 k08 k09 k10 k11 k12 k13 k14 -/
def b_l_alike (I : Ix) : Sts := (.cons (.ifs (.isN (.var 1)) (.cons (.ret (.isN (.var 0))) .nil) .nil) (.cons (.ifs (.isi (.var 1) .bool) (.cons (.ret (.conj (.isi (.var 0) .bool) (.cons (.cmp .eq (.var 0) (.var 1)) .nil))) .nil) .nil) (.cons (.ifs (.isi (.var 1) .int) (.cons (.ret (.conj (.call I.l_whole (.var 0) .nil) (.cons (.cmp .eq (.var 0) (.var 1)) .nil))) .nil) .nil) (.cons (.ifs (.isi (.var 1) .str) (.cons (.ret (.conj (.isi (.var 0) .str) (.cons (.cmp .eq (.var 0) (.var 1)) .nil))) .nil) .nil) (.cons (.ifs (.isi (.var 1) .tup) (.cons (.ifs (.nt (.isi (.var 0) .tup)) (.cons (.ret (.cB false)) .nil) .nil) .nil) (.cons (.ifs (.nt (.isi (.var 0) .lst)) (.cons (.ret (.cB false)) .nil) .nil) .nil)) (.cons (.ifs (.cmp .ne (.blt .len (.var 0) .nil) (.blt .len (.var 1) .nil)) (.cons (.ret (.cB false)) .nil) .nil) (.cons (.forI 2 (.rng (.blt .len (.var 1) .nil)) (.cons (.ifs (.nt (.call I.l_alike (.ix (.var 0) (.var 2)) (.cons (.ix (.var 1) (.var 2)) .nil))) (.cons (.ret (.cB false)) .nil) .nil) .nil)) (.cons (.ret (.cB true)) .nil))))))))
abbrev At_l_alike (m : Md) (I : Ix) : Prop := At m I.l_alike 3 2 (b_l_alike I)
/-- k01 -/
def b_l_refused_by_any (I : Ix) : Sts := (.cons (.tryA (.cons (.exp (.call I.p_bits_of (.var 0) (.cons (.var 1) .nil))) .nil) I.c_PackError 2 (.cons (.ifs (.disj (.isE 2 [(0, false)]) (.cons (.isT 2 [[(0, false)], [(0, false)], [(0, false)], [(0, false)]]) .nil)) (.cons (.ret (.cB false)) .nil) .nil) (.cons (.ret (.isE 2 [(0, true)])) .nil))) (.cons (.ret (.cB false)) .nil))
abbrev At_l_refused_by_any (m : Md) (I : Ix) : Prop := At m I.l_refused_by_any 3 2 (b_l_refused_by_any I)
/-- k01 -/
def b_l_as_a_number (I : Ix) : Sts := (.cons (.set 1 (.bin .mod (.call I.l_cell_at (.var 0) (.cons (.cI 3) .nil)) (.cI 70))) (.cons (.ifs (.cmp .eq (.bin .mod (.call I.l_cell_at (.var 0) (.cons (.cI 5) .nil)) (.cI 4)) (.cI 3)) (.cons (.set 1 (.bin .add (.cI 70) (.bin .mod (.call I.l_cell_at (.var 0) (.cons (.cI 3) .nil)) (.cI 531)))) .nil) .nil) (.cons (.set 2 (.call I.l_room (.var 1) .nil)) (.cons (.set 3 (.bin .mod (.call I.l_cell_at (.var 0) (.cons (.cI 4) .nil)) (.var 2))) (.cons (.ifs (.cmp .eq (.bin .mod (.call I.l_cell_at (.var 0) (.cons (.cI 5) .nil)) (.cI 4)) (.cI 1)) (.cons (.set 3 (.bin .sub (.var 2) (.cI 1))) .nil) .nil) (.cons (.ifs (.cmp .eq (.bin .mod (.call I.l_cell_at (.var 0) (.cons (.cI 5) .nil)) (.cI 4)) (.cI 2)) (.cons (.set 3 (.bin .mod (.call I.l_cell_at (.var 0) (.cons (.cI 4) .nil)) (.bin .add (.cI 1) (.bin .fdiv (.var 2) (.cI 8))))) .nil) .nil) (.cons (.set 4 (.call I.l_written (.var 3) (.cons (.var 1) .nil))) (.cons (.set 5 (.call I.p_number_of (.var 4) .nil)) (.cons (.ret (.conj (.call I.l_whole (.var 5) .nil) (.cons (.cmp .eq (.var 5) (.var 3)) (.cons (.call I.l_alike (.var 4) (.cons (.call I.l_written (.var 3) (.cons (.var 1) .nil)) .nil)) .nil)))) .nil)))))))))
abbrev At_l_as_a_number (m : Md) (I : Ix) : Prop := At m I.l_as_a_number 6 1 (b_l_as_a_number I)
/-- k01 -/
def b_law_k01 (I : Ix) : Sts := (.cons (.ifs (.nt (.call I.l_as_a_number (.var 0) .nil)) (.cons (.ret (.cB false)) .nil) .nil) (.cons (.set 1 (.bin .mod (.call I.l_cell_at (.var 0) (.cons (.cI 0) .nil)) (.cI 65))) (.cons (.set 2 (.call I.l_room (.var 1) .nil)) (.cons (.set 3 (.bin .mod (.call I.l_cell_at (.var 0) (.cons (.cI 2) .nil)) (.bin .pow (.cI 10) (.cI 30)))) (.cons (.set 4 (.bin .mod (.call I.l_cell_at (.var 0) (.cons (.cI 1) .nil)) (.cI 7))) (.cons (.set 5 (.bin .mod (.call I.l_cell_at (.var 0) (.cons (.cI 2) .nil)) (.var 2))) (.cons (.ifs (.cmp .eq (.var 4) (.cI 1)) (.cons (.set 5 (.bin .sub (.var 2) (.cI 1))) .nil) .nil) (.cons (.ifs (.cmp .eq (.var 4) (.cI 2)) (.cons (.set 5 (.var 2)) .nil) .nil) (.cons (.ifs (.cmp .eq (.var 4) (.cI 3)) (.cons (.set 5 (.bin .add (.var 2) (.var 3))) .nil) .nil) (.cons (.ifs (.cmp .eq (.var 4) (.cI 4)) (.cons (.set 5 (.bin .sub (.neg (.cI 1)) (.var 3))) .nil) .nil) (.cons (.set 6 (.cmp .nin (.var 4) (.tup (.cons (.cI 2) (.cons (.cI 3) (.cons (.cI 4) .nil)))))) (.cons (.set 7 (.cB false)) (.cons (.set 8 .cN) (.cons (.tryO (.cons (.set 8 (.call I.p_bits_of (.var 5) (.cons (.var 1) .nil))) .nil) I.c_TooWide (.cons (.set 7 (.cB true)) .nil)) (.cons (.ifs (.nt (.var 6)) (.cons (.ret (.conj (.var 7) (.cons (.call I.l_refused_by_any (.var 5) (.cons (.var 1) .nil)) .nil))) .nil) .nil) (.cons (.ret (.conj (.nt (.var 7)) (.cons (.call I.l_alike (.var 8) (.cons (.call I.l_written (.var 5) (.cons (.var 1) .nil)) .nil)) .nil))) .nil))))))))))))))))
abbrev At_law_k01 (m : Md) (I : Ix) : Prop := At m I.law_k01 9 1 (b_law_k01 I)
/-- k02 k07 k08 k10 k11 k12 k13 k14 -/
def b_p_code_at (I : Ix) : Sts := (.cons (.set 4 (.bin .add (.var 1) (.blt .max2 (.var 2) (.cons (.cI 0) .nil)))) (.cons (.set 5 (.cI 0)) (.cons (.for2 6 7 (.enS (.slc (.var 0) (.var 1) (.var 4)) (.var 1)) (.cons (.set 5 (.bin .add (.bin .mul (.var 5) (.cI 2)) (.var 7))) (.cons (.ifs (.cmp .gt (.bin .shl (.var 5) (.bin .sub (.bin .sub (.var 4) (.var 6)) (.cI 1))) (.var 3)) (.cons (.ret (.tup (.cons (.cS "wrong") (.cons (.var 6) .nil)))) .nil) .nil) .nil))) (.cons (.ifs (.cmp .gt (.var 4) (.blt .len (.var 0) .nil)) (.cons (.ret (.tup (.cons (.cS "short") (.cons (.blt .len (.var 0) .nil) .nil)))) .nil) .nil) (.cons (.ret (.tup (.cons (.cS "read") (.cons (.var 5) (.cons (.var 4) .nil))))) .nil)))))
abbrev At_p_code_at (m : Md) (I : Ix) : Prop := At m I.p_code_at 8 4 (b_p_code_at I)
/-- k02 -/
def b_l_due (I : Ix) : Sts := (.cons (.set 4 (.cI 0)) (.cons (.forI 5 (.rng (.var 2)) (.cons (.ifs (.cmp .ge (.bin .add (.var 1) (.var 5)) (.blt .len (.var 0) .nil)) (.cons (.ret (.tup (.cons (.cS "short") (.cons (.blt .len (.var 0) .nil) .nil)))) .nil) .nil) (.cons (.set 4 (.bin .add (.bin .mul (.var 4) (.cI 2)) (.ix (.var 0) (.bin .add (.var 1) (.var 5))))) (.cons (.ifs (.cmp .gt (.bin .mul (.var 4) (.call I.l_room (.bin .sub (.bin .sub (.var 2) (.cI 1)) (.var 5)) .nil)) (.var 3)) (.cons (.ret (.tup (.cons (.cS "wrong") (.cons (.bin .add (.var 1) (.var 5)) .nil)))) .nil) .nil) .nil)))) (.cons (.ret (.tup (.cons (.cS "read") (.cons (.var 4) (.cons (.bin .add (.var 1) (.var 2)) .nil))))) .nil)))
abbrev At_l_due (m : Md) (I : Ix) : Prop := At m I.l_due 6 4 (b_l_due I)
/-- k12 -/
def b_l_due_1 (I : Ix) : Sts := (.cons (.own 2 (.lst .nil)) (.cons (.set 3 (.cI 0)) (.cons (.whl (.cmp .lt (.var 3) (.blt .len (.var 1) .nil)) (.cons (.set 4 (.call I.l_read (.var 0) (.cons (.var 1) (.cons (.var 3) .nil)))) (.cons (.ifs (.cmp .ne (.ix (.var 4) (.cI 0)) (.cS "read")) (.cons (.ret (.ix (.var 4) (.cI 0))) .nil) .nil) (.cons (.app 2 (.ix (.var 4) (.cI 1))) (.cons (.set 3 (.ix (.var 4) (.cI 2))) .nil))))) (.cons (.retO 2) .nil))))
abbrev At_l_due_1 (m : Md) (I : Ix) : Prop := At m I.l_due 5 2 (b_l_due_1 I)
/-- k13 -/
def b_l_due_2 (I : Ix) : Sts := (.cons (.own 2 (.lst .nil)) (.cons (.set 3 (.cI 0)) (.cons (.set 4 (.call I.l_read (.var 0) (.cons (.var 1) (.cons (.var 3) .nil)))) (.cons (.whl (.cmp .eq (.ix (.var 4) (.cI 0)) (.cS "read")) (.cons (.app 2 (.ix (.var 4) (.cI 1))) (.cons (.set 3 (.ix (.var 4) (.cI 2))) (.cons (.set 4 (.call I.l_read (.var 0) (.cons (.var 1) (.cons (.var 3) .nil)))) .nil)))) (.cons (.ifs (.cmp .eq (.ix (.var 4) (.cI 0)) (.cS "wrong")) (.cons (.ret (.tup (.cons (.cS "wrong") (.cons (.cI 0) .nil)))) .nil) .nil) (.cons (.frz 2) (.cons (.ret (.tup (.cons (.var 2) (.cons (.var 3) .nil)))) .nil)))))))
abbrev At_l_due_2 (m : Md) (I : Ix) : Prop := At m I.l_due 5 2 (b_l_due_2 I)
/-- k02 -/
def b_law_k02 (I : Ix) : Sts := (.cons (.set 1 (.call I.l_written (.bin .mod (.bin .fdiv (.call I.l_cell_at (.var 0) (.cons (.cI 0) .nil)) (.cI 9)) (.cI 256)) (.cons (.bin .mod (.call I.l_cell_at (.var 0) (.cons (.cI 0) .nil)) (.cI 9)) .nil))) (.cons (.ifs (.cmp .eq (.bin .mod (.call I.l_cell_at (.var 0) (.cons (.cI 4) .nil)) (.cI 4)) (.cI 2)) (.cons (.set 1 (.call I.l_written (.bin .mod (.call I.l_cell_at (.var 0) (.cons (.cI 0) .nil)) (.bin .pow (.cI 10) (.cI 60))) (.cons (.bin .add (.cI 9) (.bin .mod (.call I.l_cell_at (.var 0) (.cons (.cI 0) .nil)) (.cI 292))) .nil))) .nil) .nil) (.cons (.set 2 (.bin .mod (.call I.l_cell_at (.var 0) (.cons (.cI 1) .nil)) (.cI 9))) (.cons (.ifs (.cmp .eq (.bin .mod (.bin .fdiv (.call I.l_cell_at (.var 0) (.cons (.cI 1) .nil)) (.cI 9)) (.cI 3)) (.cI 1)) (.cons (.set 2 (.bin .mod (.bin .fdiv (.call I.l_cell_at (.var 0) (.cons (.cI 1) .nil)) (.cI 27)) (.cI 65))) .nil) .nil) (.cons (.set 3 (.call I.l_room (.var 2) .nil)) (.cons (.set 4 (.bin .mod (.bin .fdiv (.call I.l_cell_at (.var 0) (.cons (.cI 2) .nil)) (.cI 4)) (.var 3))) (.cons (.ifs (.cmp .eq (.bin .mod (.call I.l_cell_at (.var 0) (.cons (.cI 2) .nil)) (.cI 4)) (.cI 1)) (.cons (.set 4 (.bin .sub (.var 3) (.cI 1))) .nil) .nil) (.cons (.ifs (.cmp .eq (.bin .mod (.call I.l_cell_at (.var 0) (.cons (.cI 2) .nil)) (.cI 4)) (.cI 2)) (.cons (.set 4 (.cI 0)) .nil) .nil) (.cons (.set 5 (.bin .mod (.bin .fdiv (.call I.l_cell_at (.var 0) (.cons (.cI 3) .nil)) (.cI 3)) (.var 3))) (.cons (.ifs (.cmp .eq (.bin .mod (.call I.l_cell_at (.var 0) (.cons (.cI 3) .nil)) (.cI 3)) (.cI 1)) (.cons (.set 5 (.bin .mod (.bin .fdiv (.call I.l_cell_at (.var 0) (.cons (.cI 3) .nil)) (.cI 3)) (.bin .add (.var 4) (.cI 1)))) .nil) .nil) (.cons (.ifs (.cmp .eq (.bin .mod (.call I.l_cell_at (.var 0) (.cons (.cI 3) .nil)) (.cI 3)) (.cI 2)) (.cons (.set 5 (.ix (.lst (.cons (.var 4) (.cons (.blt .min2 (.bin .add (.var 4) (.cI 1)) (.cons (.bin .sub (.var 3) (.cI 1)) .nil)) .nil))) (.bin .mod (.bin .fdiv (.call I.l_cell_at (.var 0) (.cons (.cI 3) .nil)) (.cI 3)) (.cI 2)))) .nil) .nil) (.cons (.set 6 (.bin .add (.bin .add (.var 1) (.call I.l_written (.var 5) (.cons (.var 2) .nil))) (.call I.l_written (.bin .mod (.bin .fdiv (.call I.l_cell_at (.var 0) (.cons (.cI 4) .nil)) (.cI 3)) (.cI 64)) (.cons (.cI 6) .nil)))) (.cons (.set 7 (.lst (.cons (.blt .len (.var 6) .nil) (.cons (.bin .sub (.blt .len (.var 6) .nil) (.cI 6)) (.cons (.bin .add (.blt .len (.var 1) .nil) (.bin .mod (.bin .fdiv (.call I.l_cell_at (.var 0) (.cons (.cI 4) .nil)) (.cI 3)) (.bin .add (.var 2) (.cI 1)))) .nil))))) (.cons (.set 6 (.slc (.var 6) .cN (.ix (.var 7) (.bin .mod (.call I.l_cell_at (.var 0) (.cons (.cI 4) .nil)) (.cI 3))))) (.cons (.set 8 (.blt .list (.var 6) .nil)) (.cons (.set 9 (.call I.p_code_at (.var 8) (.cons (.blt .len (.var 1) .nil) (.cons (.var 2) (.cons (.var 4) .nil))))) (.cons (.ret (.conj (.call I.l_alike (.var 9) (.cons (.call I.l_due (.var 6) (.cons (.blt .len (.var 1) .nil) (.cons (.var 2) (.cons (.var 4) .nil)))) .nil)) (.cons (.call I.l_alike (.var 8) (.cons (.var 6) .nil)) .nil))) .nil)))))))))))))))))
abbrev At_law_k02 (m : Md) (I : Ix) : Prop := At m I.law_k02 10 1 (b_law_k02 I)
/-- k03 -/
def b_p_good_shape (I : Ix) : Sts := (.cons (.ret (.call I.p_good_within (.var 0) (.cons (.gI (8)) .nil))) .nil)
abbrev At_p_good_shape (m : Md) (I : Ix) : Prop := At m I.p_good_shape 1 1 (b_p_good_shape I)
/-- k03 -/
def b_p_good_within (I : Ix) : Sts := (.cons (.ifs (.disj (.cmp .lt (.var 1) (.cI 1)) (.cons (.nt (.isi (.var 0) .tup)) .nil)) (.cons (.ret (.cB false)) .nil) .nil) (.cons (.mat (.var 0) (.cons (.seq [.s "num", .v 2, .v 3, .v 4]) (.cons (.ret (.call I.p_good_num (.var 2) (.cons (.var 3) (.cons (.var 4) .nil)))) .nil) (.cons (.seq [.s "pad", .v 2]) (.cons (.ret (.call I.p_whole_within (.var 2) (.cons (.cI 0) (.cons (.gI (64)) .nil)))) .nil) (.cons (.seq [.s "maybe", .v 5]) (.cons (.ret (.call I.p_good_within (.var 5) (.cons (.bin .sub (.var 1) (.cI 1)) .nil))) .nil) (.cons (.seq [.s "rows", .v 2, .v 5]) (.cons (.ret (.conj (.call I.p_whole_within (.var 2) (.cons (.cI 0) (.cons (.gI (8)) .nil))) (.cons (.call I.p_good_within (.var 5) (.cons (.bin .sub (.var 1) (.cI 1)) .nil)) .nil))) .nil) (.cons (.seq [.s "group", .v 6]) (.cons (.ret (.call I.p_good_parts (.var 6) (.cons (.cI 0) (.cons (.gI (20)) (.cons (.bin .sub (.var 1) (.cI 1)) .nil))))) .nil) (.cons (.seq [.s "one", .v 2, .v 6]) (.cons (.ret (.call I.p_good_one (.var 2) (.cons (.var 6) (.cons (.bin .sub (.var 1) (.cI 1)) .nil)))) .nil) .nil))))))) (.cons (.ret (.cB false)) .nil)))
abbrev At_p_good_within (m : Md) (I : Ix) : Prop := At m I.p_good_within 7 2 (b_p_good_within I)
/-- k03 -/
def b_p_good_num (I : Ix) : Sts := (.cons (.ret (.conj (.call I.p_whole_within (.var 0) (.cons (.cI 0) (.cons (.gI (64)) .nil))) (.cons (.call I.p_whole_within (.var 1) (.cons (.neg (.gI (100000000000000000000))) (.cons (.gI (100000000000000000000)) .nil))) (.cons (.call I.p_whole_within (.var 2) (.cons (.var 1) (.cons (.gI (100000000000000000000)) .nil))) (.cons (.cmp .lt (.bin .sub (.var 2) (.var 1)) (.call I.p_room_of (.var 0) .nil)) .nil))))) .nil)
abbrev At_p_good_num (m : Md) (I : Ix) : Prop := At m I.p_good_num 3 3 (b_p_good_num I)
/-- k03 -/
def b_p_good_one (I : Ix) : Sts := (.cons (.ret (.conj (.call I.p_whole_within (.var 0) (.cons (.cI 0) (.cons (.gI (8)) .nil))) (.cons (.call I.p_good_parts (.var 1) (.cons (.cI 1) (.cons (.blt .min2 (.gI (16)) (.cons (.call I.p_room_of (.var 0) .nil) .nil)) (.cons (.var 2) .nil)))) .nil))) .nil)
abbrev At_p_good_one (m : Md) (I : Ix) : Prop := At m I.p_good_one 3 3 (b_p_good_one I)
/-- k03 -/
def b_p_good_parts (I : Ix) : Sts := (.cons (.ret (.conj (.isi (.var 0) .lst) (.cons (.chn .le .le (.var 1) (.blt .len (.var 0) .nil) (.var 2)) (.cons (.allG 4 (.call I.p_good_within (.var 4) (.cons (.var 3) .nil)) (.var 0)) .nil)))) .nil)
abbrev At_p_good_parts (m : Md) (I : Ix) : Prop := At m I.p_good_parts 5 4 (b_p_good_parts I)
/-- k03 k04 k05 k06 k08 k09 k11 k12 k14 -/
def b_p_whole_within (I : Ix) : Sts := (.cons (.ret (.conj (.isi (.var 0) .int) (.cons (.nt (.isi (.var 0) .bool)) (.cons (.chn .le .le (.var 1) (.var 0) (.var 2)) .nil)))) .nil)
abbrev At_p_whole_within (m : Md) (I : Ix) : Prop := At m I.p_whole_within 3 3 (b_p_whole_within I)
/-- k03 k04 k05 k06 k07 k08 k09 k10 k11 k12 k13 k14 -/
def b_l_leaf (I : Ix) : Sts := (.cons (.set 2 (.bin .fdiv (.call I.l_cell_at (.var 0) (.cons (.bin .mul (.cI 2) (.var 1)) .nil)) (.cI 7))) (.cons (.set 3 (.call I.l_cell_at (.var 0) (.cons (.bin .add (.bin .mul (.cI 2) (.var 1)) (.cI 1)) .nil))) (.cons (.set 4 (.bin .mod (.bin .fdiv (.var 2) (.cI 3)) (.cI 9))) (.cons (.ifs (.cmp .eq (.bin .mod (.var 3) (.cI 5)) (.cI 4)) (.cons (.set 4 (.bin .mod (.bin .add (.var 2) (.bin .mul (.cI 7) (.var 3))) (.cI 65))) .nil) .nil) (.cons (.ifs (.cmp .eq (.bin .mod (.var 2) (.cI 3)) (.cI 2)) (.cons (.ret (.tup (.cons (.cS "pad") (.cons (.var 4) .nil)))) .nil) .nil) (.cons (.set 5 (.bin .sub (.call I.l_room (.var 4) .nil) (.cI 1))) (.cons (.ifs (.cmp .eq (.bin .mod (.var 3) (.cI 3)) (.cI 1)) (.cons (.set 5 (.bin .mod (.bin .fdiv (.var 3) (.cI 12)) (.bin .add (.var 5) (.cI 1)))) .nil) .nil) (.cons (.ifs (.cmp .eq (.bin .mod (.var 3) (.cI 3)) (.cI 2)) (.cons (.set 5 (.bin .add (.bin .fdiv (.var 5) (.cI 2)) (.blt .min2 (.cI 1) (.cons (.bin .fdiv (.var 5) (.cI 2)) .nil)))) .nil) .nil) (.cons (.set 6 (.bin .sub (.bin .mod (.bin .fdiv (.var 3) (.cI 12)) (.cI 41)) (.cI 20))) (.cons (.ifs (.cmp .eq (.bin .mod (.bin .fdiv (.var 3) (.cI 3)) (.cI 4)) (.cI 1)) (.cons (.set 6 (.bin .sub (.bin .mod (.bin .fdiv (.var 3) (.cI 12)) (.bin .add (.bin .sub (.bin .mul (.cI 2) (.bin .pow (.cI 10) (.cI 20))) (.var 5)) (.cI 1))) (.bin .pow (.cI 10) (.cI 20)))) .nil) .nil) (.cons (.ifs (.cmp .eq (.bin .mod (.bin .fdiv (.var 3) (.cI 3)) (.cI 4)) (.cI 2)) (.cons (.set 6 (.ix (.lst (.cons (.neg (.bin .pow (.cI 10) (.cI 20))) (.cons (.bin .sub (.bin .pow (.cI 10) (.cI 20)) (.var 5)) .nil))) (.bin .mod (.bin .fdiv (.var 3) (.cI 12)) (.cI 2)))) .nil) .nil) (.cons (.ret (.tup (.cons (.cS "num") (.cons (.var 4) (.cons (.var 6) (.cons (.bin .add (.var 6) (.var 5)) .nil)))))) .nil))))))))))))
abbrev At_l_leaf (m : Md) (I : Ix) : Prop := At m I.l_leaf 7 2 (b_l_leaf I)
/-- k03 k04 k05 k06 k07 k08 k09 k10 k11 k12 k13 k14 -/
def b_l_one (I : Ix) : Sts := (.cons (.ifs (.cmp .eq (.bin .mod (.var 1) (.cI 5)) (.cI 4)) (.cons (.set 2 (.bin .add (.cI 5) (.bin .mod (.bin .fdiv (.var 1) (.cI 5)) (.cI 12)))) (.cons (.set 3 (.bin .add (.bin .add (.cI 3) (.blt .int1 (.cmp .gt (.var 2) (.cI 8)) .nil)) (.bin .mod (.bin .fdiv (.var 1) (.cI 60)) (.cI 5)))) (.cons (.ret (.tup (.cons (.cS "one") (.cons (.var 3) (.cons (.slc (.bin .mul (.lst (.cons (.ix (.var 0) (.cI 0)) (.cons (.ix (.var 0) (.cI 2)) (.cons (.ix (.var 0) (.cI 1)) (.cons (.ix (.var 0) (.cI 3)) (.cons (.ix (.var 0) (.cI 2)) .nil)))))) (.cI 4)) .cN (.var 2)) .nil))))) .nil))) .nil) (.cons (.set 2 (.bin .add (.cI 1) (.bin .mod (.bin .mod (.var 1) (.cI 5)) (.cI 4)))) (.cons (.ret (.tup (.cons (.cS "one") (.cons (.bin .add (.ix (.lst (.cons (.cI 0) (.cons (.cI 1) (.cons (.cI 2) (.cons (.cI 2) .nil))))) (.bin .sub (.var 2) (.cI 1))) (.bin .mod (.bin .fdiv (.var 1) (.cI 5)) (.cI 3))) (.cons (.slc (.var 0) .cN (.var 2)) .nil))))) .nil)))
abbrev At_l_one (m : Md) (I : Ix) : Prop := At m I.l_one 4 2 (b_l_one I)
/-- k03 k04 k05 k06 k07 k08 k09 k10 k11 k12 k13 k14 -/
def b_l_group (I : Ix) : Sts := (.cons (.ifs (.conj (.cmp .eq (.bin .mod (.var 1) (.cI 4)) (.cI 3)) (.cons (.cmp .inn (.ix (.ix (.var 0) (.cI 0)) (.cI 0)) (.tup (.cons (.cS "num") (.cons (.cS "pad") .nil)))) (.cons (.cmp .inn (.ix (.ix (.var 0) (.cI 1)) (.cI 0)) (.tup (.cons (.cS "num") (.cons (.cS "pad") .nil)))) .nil))) (.cons (.ret (.tup (.cons (.cS "group") (.cons (.slc (.bin .mul (.lst (.cons (.ix (.var 0) (.cI 0)) (.cons (.ix (.var 0) (.cI 2)) (.cons (.ix (.var 0) (.cI 1)) (.cons (.ix (.var 0) (.cI 3)) (.cons (.ix (.var 0) (.cI 0)) .nil)))))) (.cI 4)) .cN (.bin .add (.cI 4) (.bin .mod (.bin .fdiv (.var 1) (.cI 4)) (.cI 17)))) .nil)))) .nil) .nil) (.cons (.ifs (.cmp .eq (.bin .mod (.var 1) (.cI 12)) (.cI 5)) (.cons (.ret (.tup (.cons (.cS "group") (.cons (.slc (.lst (.cons (.ix (.var 0) (.cI 0)) (.cons (.ix (.var 0) (.cI 2)) (.cons (.ix (.var 0) (.cI 1)) (.cons (.ix (.var 0) (.cI 0)) (.cons (.ix (.var 0) (.cI 3)) .nil)))))) .cN (.bin .add (.cI 4) (.bin .mod (.bin .fdiv (.var 1) (.cI 12)) (.cI 2)))) .nil)))) .nil) .nil) (.cons (.ret (.tup (.cons (.cS "group") (.cons (.ix (.lst (.cons (.lst .nil) (.cons (.bin .mul (.lst (.cons (.ix (.var 0) (.cI 0)) .nil)) (.cI 3)) (.cons (.lst (.cons (.ix (.var 0) (.cI 2)) (.cons (.ix (.var 0) (.cI 0)) (.cons (.ix (.var 0) (.cI 1)) .nil)))) (.cons (.lst (.cons (.ix (.var 0) (.cI 1)) (.cons (.ix (.var 0) (.cI 1)) .nil))) .nil))))) (.bin .mod (.var 1) (.cI 4))) .nil)))) .nil)))
abbrev At_l_group (m : Md) (I : Ix) : Prop := At m I.l_group 2 2 (b_l_group I)
/-- k03 k04 k05 k06 k07 k08 k09 k10 k11 k12 k13 k14 -/
def b_l_shape (I : Ix) : Sts := (.cons (.set 2 (.call I.l_cell_at (.var 0) (.cons (.bin .mul (.cI 2) (.var 1)) .nil))) (.cons (.set 3 (.bin .fdiv (.var 2) (.cI 7))) (.cons (.ifs (.disj (.cmp .gt (.var 1) (.cI 6)) (.cons (.cmp .lt (.bin .mod (.var 2) (.cI 7)) (.cI 2)) .nil)) (.cons (.ret (.call I.l_leaf (.var 0) (.cons (.var 1) .nil))) .nil) .nil) (.cons (.set 4 (.call I.l_shape (.var 0) (.cons (.bin .add (.bin .mul (.cI 2) (.var 1)) (.cI 1)) .nil))) (.cons (.set 5 (.call I.l_shape (.var 0) (.cons (.bin .add (.bin .mul (.cI 2) (.var 1)) (.cI 2)) .nil))) (.cons (.ifs (.cmp .eq (.bin .mod (.var 2) (.cI 7)) (.cI 2)) (.cons (.ret (.tup (.cons (.cS "maybe") (.cons (.var 4) .nil)))) .nil) .nil) (.cons (.ifs (.cmp .eq (.bin .mod (.var 2) (.cI 7)) (.cI 3)) (.cons (.ret (.tup (.cons (.cS "rows") (.cons (.ix (.lst (.cons (.cI 1) (.cons (.cI 2) (.cons (.cI 3) (.cons (.cI 4) (.cons (.cI 5) (.cons (.cI 6) (.cons (.cI 7) (.cons (.cI 8) (.cons (.cI 0) (.cons (.cI 2) (.cons (.cI 3) .nil)))))))))))) (.bin .mod (.var 3) (.cI 11))) (.cons (.var 4) .nil))))) .nil) .nil) (.cons (.ifs (.cmp .eq (.bin .mod (.var 2) (.cI 7)) (.cI 4)) (.cons (.ret (.tup (.cons (.cS "group") (.cons (.lst (.cons (.var 4) (.cons (.var 5) .nil))) .nil)))) .nil) .nil) (.cons (.set 6 (.lst (.cons (.var 4) (.cons (.var 5) (.cons (.call I.l_leaf (.var 0) (.cons (.bin .add (.cI 15) (.var 1)) .nil)) (.cons (.call I.l_leaf (.var 0) (.cons (.bin .add (.cI 22) (.var 1)) .nil)) .nil)))))) (.cons (.ifs (.cmp .eq (.bin .mod (.var 2) (.cI 7)) (.cI 5)) (.cons (.ret (.call I.l_one (.var 6) (.cons (.var 3) .nil))) .nil) .nil) (.cons (.ret (.call I.l_group (.var 6) (.cons (.var 3) .nil))) .nil)))))))))))
abbrev At_l_shape (m : Md) (I : Ix) : Prop := At m I.l_shape 7 2 (b_l_shape I)
/-- k03 -/
def b_l_odd (I : Ix) : Sts := (.cons (.set 1 (.tup (.cons (.cS "pad") (.cons (.cI 1) .nil)))) (.cons (.set 2 (.lst (.cons (.cI 0) (.cons (.cB true) (.cons .cN (.cons (.cS "") (.cons (.cS "pad") (.cons (.lst .nil) (.cons (.tup .nil) (.cons (.tup (.cons (.cS "num") .nil)) (.cons (.tup (.cons (.cS "num") (.cons (.cI 3) (.cons (.cI 0) .nil)))) (.cons (.tup (.cons (.cS "num") (.cons (.cI 3) (.cons (.cI 0) (.cons (.cI 8) .nil))))) .nil)))))))))))) (.cons (.set 2 (.bin .add (.var 2) (.lst (.cons (.tup (.cons (.cS "num") (.cons (.cI 3) (.cons (.cI 1) (.cons (.cI 0) .nil))))) (.cons (.tup (.cons (.cS "num") (.cons (.cI 65) (.cons (.cI 0) (.cons (.cI 1) .nil))))) (.cons (.tup (.cons (.cS "num") (.cons (.neg (.cI 1)) (.cons (.cI 0) (.cons (.cI 0) .nil))))) (.cons (.tup (.cons (.cS "num") (.cons (.cB true) (.cons (.cI 0) (.cons (.cI 1) .nil))))) .nil))))))) (.cons (.set 2 (.bin .add (.var 2) (.lst (.cons (.tup (.cons (.cS "num") (.cons (.cI 3) (.cons (.cB false) (.cons (.cI 1) .nil))))) (.cons (.tup (.cons (.cS "num") (.cons (.cI 3) (.cons (.cI 0) (.cons (.cB true) .nil))))) (.cons (.tup (.cons (.cS "num") (.cons (.cI 3) (.cons (.cI 0) (.cons (.cI 7) (.cons (.cI 0) .nil)))))) (.cons (.lst (.cons (.cS "num") (.cons (.cI 3) (.cons (.cI 0) (.cons (.cI 7) .nil))))) .nil))))))) (.cons (.set 2 (.bin .add (.var 2) (.lst (.cons (.tup (.cons (.cS "num") (.cons (.cI 64) (.cons (.cI 0) (.cons (.bin .pow (.cI 2) (.cI 64)) .nil))))) (.cons (.tup (.cons (.cS "num") (.cons (.cI 9) (.cons (.bin .pow (.cI 10) (.cI 20)) (.cons (.bin .add (.bin .pow (.cI 10) (.cI 20)) (.cI 1)) .nil))))) .nil))))) (.cons (.set 2 (.bin .add (.var 2) (.lst (.cons (.tup (.cons (.cS "num") (.cons (.cI 9) (.cons (.bin .sub (.neg (.bin .pow (.cI 10) (.cI 20))) (.cI 1)) (.cons (.neg (.bin .pow (.cI 10) (.cI 20))) .nil))))) (.cons (.tup (.cons (.cS "num") (.cons (.cI 3) (.cons (.cS "0") (.cons (.cI 7) .nil))))) (.cons (.tup (.cons (.cS "num") (.cons (.cI 0) (.cons (.cI 0) (.cons (.cI 1) .nil))))) (.cons (.tup (.cons (.cS "pad") .nil)) .nil))))))) (.cons (.set 2 (.bin .add (.var 2) (.lst (.cons (.tup (.cons (.cS "pad") (.cons (.cI 65) .nil))) (.cons (.tup (.cons (.cS "pad") (.cons (.neg (.cI 1)) .nil))) (.cons (.tup (.cons (.cS "pad") (.cons (.cI 2) (.cons (.cI 0) .nil)))) (.cons (.tup (.cons (.cS "pad") (.cons (.cS "2") .nil))) (.cons (.tup (.cons (.cS "pad") (.cons (.cB true) .nil))) (.cons (.tup (.cons (.cS "Pad") (.cons (.cI 2) .nil))) .nil))))))))) (.cons (.set 2 (.bin .add (.var 2) (.lst (.cons (.lst (.cons (.cS "pad") (.cons (.cI 2) .nil))) (.cons (.tup (.cons (.cS "maybe") .nil)) (.cons (.tup (.cons (.cS "maybe") (.cons (.var 1) (.cons (.cI 0) .nil)))) (.cons (.tup (.cons (.cS "maybe") (.cons (.lst (.cons (.var 1) .nil)) .nil))) (.cons (.tup (.cons (.cS "rows") (.cons (.cI 9) (.cons (.var 1) .nil)))) .nil)))))))) (.cons (.set 2 (.bin .add (.var 2) (.lst (.cons (.tup (.cons (.cS "rows") (.cons (.neg (.cI 1)) (.cons (.var 1) .nil)))) (.cons (.tup (.cons (.cS "rows") (.cons (.cI 2) .nil))) (.cons (.tup (.cons (.cS "rows") (.cons (.var 1) (.cons (.cI 2) .nil)))) (.cons (.tup (.cons (.cS "rows") (.cons (.cI 2) (.cons (.lst (.cons (.var 1) .nil)) .nil)))) (.cons (.tup (.cons (.cS "group") .nil)) .nil)))))))) (.cons (.set 2 (.bin .add (.var 2) (.lst (.cons (.tup (.cons (.cS "group") (.cons (.tup (.cons (.var 1) .nil)) .nil))) (.cons (.tup (.cons (.cS "group") (.cons (.bin .mul (.lst (.cons (.var 1) .nil)) (.cI 21)) .nil))) (.cons (.tup (.cons (.cS "group") (.cons (.lst (.cons (.var 1) .nil)) (.cons (.cI 0) .nil)))) (.cons (.tup (.cons (.cS "one") (.cons (.cI 0) (.cons (.lst .nil) .nil)))) .nil))))))) (.cons (.set 2 (.bin .add (.var 2) (.lst (.cons (.tup (.cons (.cS "one") (.cons (.cI 5) (.cons (.bin .mul (.lst (.cons (.var 1) .nil)) (.cI 17)) .nil)))) (.cons (.tup (.cons (.cS "one") (.cons (.cI 1) (.cons (.bin .mul (.lst (.cons (.var 1) .nil)) (.cI 3)) .nil)))) (.cons (.tup (.cons (.cS "one") (.cons (.cI 9) (.cons (.lst (.cons (.var 1) .nil)) .nil)))) (.cons (.tup (.cons (.cS "one") (.cons (.cI 2) (.cons (.tup (.cons (.var 1) .nil)) .nil)))) .nil))))))) (.cons (.set 2 (.bin .add (.var 2) (.lst (.cons (.tup (.cons (.cS "other") (.cons (.cI 1) .nil))) (.cons (.tup (.cons (.cI 1) (.cons (.cI 2) .nil))) .nil))))) (.cons (.set 2 (.bin .add (.var 2) (.lst (.cons (.tup (.cons (.cS "rows") (.cons (.cB true) (.cons (.var 1) .nil)))) (.cons (.tup (.cons (.cS "rows") (.cons (.cB false) (.cons (.var 1) .nil)))) (.cons (.tup (.cons (.cS "rows") (.cons .cN (.cons (.var 1) .nil)))) (.cons (.tup (.cons (.cS "rows") (.cons (.cS "2") (.cons (.var 1) .nil)))) .nil))))))) (.cons (.set 2 (.bin .add (.var 2) (.lst (.cons (.tup (.cons (.cS "one") (.cons (.cB true) (.cons (.lst (.cons (.var 1) .nil)) .nil)))) (.cons (.tup (.cons (.cS "one") (.cons (.cS "2") (.cons (.lst (.cons (.var 1) .nil)) .nil)))) (.cons (.tup (.cons (.cS "one") (.cons .cN (.cons (.lst (.cons (.var 1) .nil)) .nil)))) (.cons (.tup (.cons (.cS "num") (.cons (.cS "3") (.cons (.cI 0) (.cons (.cI 7) .nil))))) .nil))))))) (.cons (.set 2 (.bin .add (.var 2) (.lst (.cons (.tup (.cons (.cS "num") (.cons (.cI 3) (.cons (.cI 0) (.cons (.cS "7") .nil))))) (.cons (.tup (.cons (.cS "num") (.cons .cN (.cons (.cI 0) (.cons (.cI 0) .nil))))) (.cons (.tup (.cons (.cS "one") (.cons (.cI 0) (.cons (.bin .mul (.lst (.cons (.var 1) .nil)) (.cI 2)) .nil)))) (.cons (.tup (.cons (.cS "one") (.cons (.cI 2) (.cons (.bin .mul (.lst (.cons (.var 1) .nil)) (.cI 5)) .nil)))) .nil))))))) (.cons (.set 2 (.bin .add (.var 2) (.lst (.cons (.tup (.cons (.cS "row") (.cons (.cI 2) (.cons (.var 1) .nil)))) (.cons (.tup (.cons (.cS "rowss") (.cons (.cI 2) (.cons (.var 1) .nil)))) (.cons (.tup (.cons (.cS "number") (.cons (.cI 3) (.cons (.cI 0) (.cons (.cI 7) .nil))))) (.cons (.tup (.cons (.cS "nu") (.cons (.cI 3) (.cons (.cI 0) (.cons (.cI 7) .nil))))) (.cons (.tup (.cons (.cS "pads") (.cons (.cI 2) .nil))) (.cons (.tup (.cons (.cS "pa") (.cons (.cI 2) .nil))) .nil))))))))) (.cons (.set 2 (.bin .add (.var 2) (.lst (.cons (.tup (.cons (.cS "maybes") (.cons (.var 1) .nil))) (.cons (.tup (.cons (.cS "mayb") (.cons (.var 1) .nil))) (.cons (.tup (.cons (.cS "groups") (.cons (.lst (.cons (.var 1) .nil)) .nil))) (.cons (.tup (.cons (.cS "grou") (.cons (.lst (.cons (.var 1) .nil)) .nil))) (.cons (.tup (.cons (.cS "ones") (.cons (.cI 1) (.cons (.lst (.cons (.var 1) .nil)) .nil)))) .nil)))))))) (.cons (.set 2 (.bin .add (.var 2) (.lst (.cons (.tup (.cons (.cS "on") (.cons (.cI 1) (.cons (.lst (.cons (.var 1) .nil)) .nil)))) (.cons (.tup (.cons (.cS "NUM") (.cons (.cI 3) (.cons (.cI 0) (.cons (.cI 7) .nil))))) (.cons (.tup (.cons (.cS "n") (.cons (.cI 3) (.cons (.cI 0) (.cons (.cI 7) .nil))))) (.cons (.tup (.cons (.cS "") (.cons (.cI 2) .nil))) (.cons (.tup (.cons (.cS "num ") (.cons (.cI 3) (.cons (.cI 0) (.cons (.cI 7) .nil))))) .nil)))))))) (.cons (.set 2 (.bin .add (.var 2) (.lst (.cons (.tup (.cons (.cS "one") (.cons (.cI 3) (.cons (.bin .mul (.lst (.cons (.var 1) .nil)) (.cI 9)) .nil)))) (.cons (.tup (.cons (.cS "one") (.cons (.cI 4) (.cons (.bin .mul (.lst (.cons (.var 1) .nil)) (.cI 17)) .nil)))) (.cons (.tup (.cons (.cS "one") (.cons (.cI 3) (.cons (.bin .mul (.lst (.cons (.var 1) .nil)) (.cI 16)) .nil)))) .nil)))))) (.cons (.ret (.ix (.var 2) (.bin .mod (.var 0) (.blt .len (.var 2) .nil)))) .nil))))))))))))))))))))
abbrev At_l_odd (m : Md) (I : Ix) : Prop := At m I.l_odd 3 1 (b_l_odd I)
/-- k04 -/
def b_l_odd_1 (I : Ix) : Sts := (.cons (.set 3 (.lst (.cons .cN (.cons (.cI 0) (.cons (.cS "") (.cons (.cS "0") (.cons (.lst .nil) (.cons (.lst (.cons .cN .nil)) (.cons (.tup .nil) (.cons (.tup (.cons (.cI 0) (.cons .cN .nil))) (.cons (.cB true) (.cons (.cB false) (.cons (.neg (.cI 1)) .nil))))))))))))) (.cons (.ifs (.cmp .eq (.ix (.var 0) (.cI 0)) (.cS "num")) (.cons (.set 3 (.bin .add (.var 3) (.bin .mul (.lst (.cons (.bin .sub (.ix (.var 0) (.cI 2)) (.cI 1)) (.cons (.bin .add (.ix (.var 0) (.cI 3)) (.cI 1)) (.cons (.ix (.var 0) (.cI 2)) (.cons (.ix (.var 0) (.cI 3)) (.cons (.blt .str1 (.var 1) .nil) (.cons (.lst (.cons (.var 1) .nil)) (.cons (.tup (.cons (.var 1) .nil)) .nil)))))))) (.cI 2)))) .nil) .nil) (.cons (.ifs (.cmp .eq (.ix (.var 0) (.cI 0)) (.cS "one")) (.cons (.set 4 (.ix (.var 1) (.cI 1))) (.cons (.set 3 (.bin .add (.var 3) (.bin .mul (.lst (.cons (.lst (.cons (.ix (.var 1) (.cI 0)) (.cons (.var 4) .nil))) (.cons (.tup (.cons (.blt .len (.ix (.var 0) (.cI 2)) .nil) (.cons (.var 4) .nil))) (.cons (.tup (.cons (.neg (.cI 1)) (.cons (.var 4) .nil))) .nil)))) (.cI 2)))) (.cons (.set 3 (.bin .add (.var 3) (.bin .mul (.lst (.cons (.tup (.cons (.ix (.var 1) (.cI 0)) .nil)) (.cons (.tup (.cons (.ix (.var 1) (.cI 0)) (.cons (.var 4) (.cons (.var 4) .nil)))) .nil))) (.cI 2)))) (.cons (.set 3 (.bin .add (.var 3) (.bin .mul (.lst (.cons (.tup (.cons (.cB true) (.cons (.var 4) .nil))) (.cons (.tup (.cons (.cB false) (.cons (.var 4) .nil))) (.cons (.tup (.cons (.ix (.var 1) (.cI 0)) (.cons (.lst (.cons (.var 4) .nil)) .nil))) (.cons (.tup (.cons (.blt .str1 (.ix (.var 1) (.cI 0)) .nil) (.cons (.var 4) .nil))) .nil))))) (.cI 2)))) .nil)))) .nil) (.cons (.ifs (.isi (.var 1) .lst) (.cons (.set 3 (.bin .add (.var 3) (.bin .mul (.lst (.cons (.blt .tuple (.var 1) .nil) (.cons (.bin .add (.var 1) (.slc (.var 1) .cN (.cI 1))) (.cons (.bin .add (.var 1) (.lst (.cons .cN .nil))) (.cons (.slc (.var 1) (.cI 1) .cN) (.cons (.slc (.var 1) .cN (.cI 1)) (.cons (.lst (.cons (.var 1) .nil)) .nil))))))) (.cI 2)))) .nil) .nil) (.cons (.ifs (.conj (.cmp .eq (.ix (.var 0) (.cI 0)) (.cS "rows")) (.cons (.cmp .gt (.blt .len (.var 1) .nil) (.cI 0)) .nil)) (.cons (.set 5 (.call I.l_room (.ix (.var 0) (.cI 1)) .nil)) (.cons (.ifs (.disj (.cmp .lt (.var 5) (.cI 9)) (.cons (.conj (.cmp .inn (.ix (.ix (.var 0) (.cI 2)) (.cI 0)) (.tup (.cons (.cS "num") (.cons (.cS "pad") .nil)))) (.cons (.cmp .lt (.ix (.ix (.var 0) (.cI 2)) (.cI 1)) (.cI 5)) .nil)) .nil)) (.cons (.set 3 (.bin .add (.var 3) (.bin .mul (.lst (.cons (.bin .mul (.slc (.var 1) .cN (.cI 1)) (.var 5)) (.cons (.bin .mul (.slc (.var 1) .cN (.cI 1)) (.bin .sub (.var 5) (.cI 1))) .nil))) (.cI 5)))) .nil) .nil) .nil)) .nil) (.cons (.ret (.ix (.var 3) (.bin .mod (.var 2) (.blt .len (.var 3) .nil)))) .nil))))))
abbrev At_l_odd_1 (m : Md) (I : Ix) : Prop := At m I.l_odd 6 3 (b_l_odd_1 I)
/-- k03 -/
def b_l_bound (I : Ix) : Sts := (.cons (.set 1 (.tup (.cons (.cS "pad") (.cons (.cI 64) .nil)))) (.cons (.set 2 (.lst (.cons (.tup (.cons (.cS "num") (.cons (.cI 64) (.cons (.cI 0) (.cons (.bin .sub (.bin .pow (.cI 2) (.cI 64)) (.cI 1)) .nil))))) (.cons (.tup (.cons (.cS "num") (.cons (.cI 0) (.cons (.neg (.cI 5)) (.cons (.neg (.cI 5)) .nil))))) (.cons (.tup (.cons (.cS "num") (.cons (.cI 64) (.cons (.bin .pow (.cI 10) (.cI 20)) (.cons (.bin .pow (.cI 10) (.cI 20)) .nil))))) .nil))))) (.cons (.set 2 (.bin .add (.var 2) (.lst (.cons (.tup (.cons (.cS "num") (.cons (.cI 64) (.cons (.neg (.bin .pow (.cI 10) (.cI 20))) (.cons (.neg (.bin .pow (.cI 10) (.cI 20))) .nil))))) (.cons (.tup (.cons (.cS "pad") (.cons (.cI 0) .nil))) (.cons (.var 1) (.cons (.tup (.cons (.cS "group") (.cons (.lst .nil) .nil))) .nil))))))) (.cons (.set 2 (.bin .add (.var 2) (.lst (.cons (.tup (.cons (.cS "group") (.cons (.bin .mul (.lst (.cons (.var 1) .nil)) (.cI 20)) .nil))) (.cons (.tup (.cons (.cS "one") (.cons (.cI 4) (.cons (.bin .mul (.lst (.cons (.var 1) .nil)) (.cI 16)) .nil)))) (.cons (.tup (.cons (.cS "one") (.cons (.cI 8) (.cons (.bin .mul (.lst (.cons (.var 1) .nil)) (.cI 16)) .nil)))) (.cons (.tup (.cons (.cS "one") (.cons (.cI 0) (.cons (.lst (.cons (.var 1) .nil)) .nil)))) .nil))))))) (.cons (.set 2 (.bin .add (.var 2) (.lst (.cons (.tup (.cons (.cS "rows") (.cons (.cI 8) (.cons (.var 1) .nil)))) (.cons (.tup (.cons (.cS "rows") (.cons (.cI 0) (.cons (.var 1) .nil)))) (.cons (.tup (.cons (.cS "num") (.cons (.cI 1) (.cons (.neg (.cI 1)) (.cons (.cI 0) .nil))))) .nil)))))) (.cons (.set 2 (.bin .add (.var 2) (.lst (.cons (.tup (.cons (.cS "one") (.cons (.cI 1) (.cons (.bin .mul (.lst (.cons (.var 1) .nil)) (.cI 2)) .nil)))) (.cons (.tup (.cons (.cS "one") (.cons (.cI 2) (.cons (.bin .mul (.lst (.cons (.var 1) .nil)) (.cI 4)) .nil)))) (.cons (.tup (.cons (.cS "one") (.cons (.cI 2) (.cons (.bin .mul (.lst (.cons (.var 1) .nil)) (.cI 3)) .nil)))) (.cons (.tup (.cons (.cS "one") (.cons (.cI 3) (.cons (.bin .mul (.lst (.cons (.var 1) .nil)) (.cI 8)) .nil)))) .nil))))))) (.cons (.set 2 (.bin .add (.var 2) (.lst (.cons (.tup (.cons (.cS "one") (.cons (.cI 3) (.cons (.bin .mul (.lst (.cons (.var 1) .nil)) (.cI 5)) .nil)))) .nil)))) (.cons (.ret (.ix (.var 2) (.bin .mod (.var 0) (.blt .len (.var 2) .nil)))) .nil))))))))
abbrev At_l_bound (m : Md) (I : Ix) : Prop := At m I.l_bound 3 1 (b_l_bound I)
/-- k03 -/
def b_l_put (I : Ix) : Sts := (.cons (.ifs (.disj (.cmp .eq (.var 1) (.cI 0)) (.cons (.cmp .eq (.ix (.var 0) (.cI 0)) (.cS "num")) (.cons (.cmp .eq (.ix (.var 0) (.cI 0)) (.cS "pad")) .nil))) (.cons (.ret (.var 3)) .nil) .nil) (.cons (.ifs (.cmp .eq (.ix (.var 0) (.cI 0)) (.cS "maybe")) (.cons (.ret (.tup (.cons (.cS "maybe") (.cons (.call I.l_put (.ix (.var 0) (.cI 1)) (.cons (.bin .sub (.var 1) (.cI 1)) (.cons (.bin .fdiv (.var 2) (.cI 3)) (.cons (.var 3) .nil)))) .nil)))) .nil) .nil) (.cons (.ifs (.cmp .eq (.ix (.var 0) (.cI 0)) (.cS "rows")) (.cons (.ret (.tup (.cons (.cS "rows") (.cons (.ix (.var 0) (.cI 1)) (.cons (.call I.l_put (.ix (.var 0) (.cI 2)) (.cons (.bin .sub (.var 1) (.cI 1)) (.cons (.bin .fdiv (.var 2) (.cI 3)) (.cons (.var 3) .nil)))) .nil))))) .nil) .nil) (.cons (.own 4 (.blt .list (.ix (.var 0) (.bin .sub (.blt .len (.var 0) .nil) (.cI 1))) .nil)) (.cons (.ifs (.cmp .eq (.lenO 4) (.cI 0)) (.cons (.ret (.var 3)) .nil) .nil) (.cons (.set 5 (.bin .mod (.var 2) (.lenO 4))) (.cons (.put 4 (.var 5) (.call I.l_put (.ixO 4 (.var 5)) (.cons (.bin .sub (.var 1) (.cI 1)) (.cons (.bin .fdiv (.var 2) (.cI 3)) (.cons (.var 3) .nil))))) (.cons (.ifs (.cmp .eq (.ix (.var 0) (.cI 0)) (.cS "group")) (.cons (.frz 4) (.cons (.ret (.tup (.cons (.cS "group") (.cons (.var 4) .nil)))) .nil)) .nil) (.cons (.frz 4) (.cons (.ret (.tup (.cons (.cS "one") (.cons (.ix (.var 0) (.cI 1)) (.cons (.var 4) .nil))))) .nil))))))))))
abbrev At_l_put (m : Md) (I : Ix) : Prop := At m I.l_put 6 4 (b_l_put I)
/-- k03 -/
def b_l_depth (I : Ix) : Sts := (.cons (.ifs (.disj (.cmp .eq (.ix (.var 0) (.cI 0)) (.cS "num")) (.cons (.cmp .eq (.ix (.var 0) (.cI 0)) (.cS "pad")) .nil)) (.cons (.ret (.cI 1)) .nil) .nil) (.cons (.ifs (.disj (.cmp .eq (.ix (.var 0) (.cI 0)) (.cS "group")) (.cons (.cmp .eq (.ix (.var 0) (.cI 0)) (.cS "one")) .nil)) (.cons (.ret (.bin .add (.cI 1) (.mxD false (.comp 1 (.call I.l_depth (.var 1) .nil) (.lst (.ix (.var 0) (.bin .sub (.blt .len (.var 0) .nil) (.cI 1))))) (.cI 0)))) .nil) .nil) (.cons (.ret (.bin .add (.cI 1) (.call I.l_depth (.ix (.var 0) (.bin .sub (.blt .len (.var 0) .nil) (.cI 1))) .nil))) .nil)))
abbrev At_l_depth (m : Md) (I : Ix) : Prop := At m I.l_depth 2 1 (b_l_depth I)
/-- k03 -/
def b_l_round (I : Ix) : Sts := (.cons (.forI 3 (.rng (.var 2)) (.cons (.set 4 (.lst (.cons (.tup (.cons (.cS "group") (.cons (.lst (.cons (.tup (.cons (.cS "pad") (.cons (.cI 3) .nil))) (.cons (.var 0) .nil))) .nil))) (.cons (.tup (.cons (.cS "maybe") (.cons (.var 0) .nil))) (.cons (.tup (.cons (.cS "one") (.cons (.cI 1) (.cons (.lst (.cons (.var 0) .nil)) .nil)))) (.cons (.tup (.cons (.cS "rows") (.cons (.cI 3) (.cons (.var 0) .nil)))) .nil)))))) (.cons (.set 0 (.ix (.var 4) (.bin .mod (.bin .add (.var 1) (.var 3)) (.cI 4)))) .nil))) (.cons (.ret (.var 0)) .nil))
abbrev At_l_round (m : Md) (I : Ix) : Prop := At m I.l_round 5 3 (b_l_round I)
/-- k03 -/
def b_l_told (I : Ix) : Sts := (.cons (.set 2 (.call I.p_good_shape (.var 0) .nil)) (.cons (.ret (.conj (.isi (.var 2) .bool) (.cons (.cmp .eq (.var 2) (.var 1)) .nil))) .nil))
abbrev At_l_told (m : Md) (I : Ix) : Prop := At m I.l_told 3 2 (b_l_told I)
/-- k03 -/
def b_law_k03 (I : Ix) : Sts := (.cons (.set 1 (.call I.l_shape (.var 0) (.cons (.cI 0) .nil))) (.cons (.set 2 (.call I.l_cell_at (.var 0) (.cons (.cI 30) .nil))) (.cons (.set 3 (.bin .mod (.call I.l_cell_at (.var 0) (.cons (.cI 31) .nil)) (.cI 10))) (.cons (.ifs (.nt (.call I.l_told (.call I.l_round (.var 1) (.cons (.var 2) (.cons (.var 3) .nil))) (.cons (.cmp .le (.bin .add (.call I.l_depth (.var 1) .nil) (.var 3)) (.cI 8)) .nil))) (.cons (.ret (.cB false)) .nil) .nil) (.cons (.forI 4 (.rng (.cI 5)) (.cons (.set 5 (.bin .mod (.bin .add (.call I.l_cell_at (.var 0) (.cons (.cI 32) .nil)) (.var 4)) (.cI 6))) (.cons (.set 6 (.bin .add (.call I.l_cell_at (.var 0) (.cons (.cI 33) .nil)) (.bin .mul (.cI 11) (.var 4)))) (.cons (.ifs (.nt (.call I.l_told (.call I.l_round (.call I.l_put (.var 1) (.cons (.var 5) (.cons (.var 2) (.cons (.call I.l_odd (.var 6) .nil) .nil)))) (.cons (.var 2) (.cons (.var 3) .nil))) (.cons (.cB false) .nil))) (.cons (.ret (.cB false)) .nil) .nil) (.cons (.set 7 (.call I.l_put (.var 1) (.cons (.var 5) (.cons (.var 2) (.cons (.call I.l_bound (.var 6) .nil) .nil))))) (.cons (.ifs (.nt (.call I.l_told (.call I.l_round (.var 7) (.cons (.var 2) (.cons (.var 3) .nil))) (.cons (.cmp .le (.bin .add (.call I.l_depth (.var 7) .nil) (.var 3)) (.cI 8)) .nil))) (.cons (.ret (.cB false)) .nil) .nil) .nil)))))) (.cons (.ret (.cmp .eq (.var 1) (.call I.l_shape (.var 0) (.cons (.cI 0) .nil)))) .nil))))))
abbrev At_law_k03 (m : Md) (I : Ix) : Prop := At m I.law_k03 8 1 (b_law_k03 I)
/-- k04 k06 k12 k13 -/
def b_p_least_bits (I : Ix) : Sts := (.cons (.mat (.var 0) (.cons (.seq [.s "num", .v 1, .w, .w]) (.cons (.ret (.var 1)) .nil) (.cons (.seq [.s "pad", .v 1]) (.cons (.ret (.var 1)) .nil) (.cons (.seq [.s "maybe", .w]) (.cons (.ret (.cI 1)) .nil) (.cons (.seq [.s "rows", .v 1, .w]) (.cons (.ret (.var 1)) .nil) (.cons (.seq [.s "group", .v 2]) (.cons (.ret (.blt .sum (.comp 3 (.call I.p_least_bits (.var 3) .nil) (.lst (.var 2))) .nil)) .nil) (.cons (.seq [.s "one", .v 1, .v 2]) (.cons (.ret (.bin .add (.var 1) (.mxD true (.comp 3 (.call I.p_least_bits (.var 3) .nil) (.lst (.var 2))) (.cI 0)))) .nil) .nil))))))) .nil)
abbrev At_p_least_bits (m : Md) (I : Ix) : Prop := At m I.p_least_bits 4 1 (b_p_least_bits I)
/-- k04 k05 k06 k08 k09 k11 k12 k14 -/
def b_p_fits (I : Ix) : Sts := (.cons (.mat (.var 0) (.cons (.seq [.s "num", .w, .v 2, .v 3]) (.cons (.ret (.call I.p_whole_within (.var 1) (.cons (.var 2) (.cons (.var 3) .nil)))) .nil) (.cons (.seq [.s "pad", .w]) (.cons (.ret (.isN (.var 1))) .nil) (.cons (.seq [.s "maybe", .v 4]) (.cons (.ret (.call I.p_fits_rows (.cI 1) (.cons (.var 4) (.cons (.var 1) .nil)))) .nil) (.cons (.seq [.s "rows", .v 5, .v 4]) (.cons (.ret (.call I.p_fits_rows (.var 5) (.cons (.var 4) (.cons (.var 1) .nil)))) .nil) (.cons (.seq [.s "group", .v 6]) (.cons (.ret (.call I.p_fits_each (.var 6) (.cons (.var 1) .nil))) .nil) (.cons (.seq [.s "one", .w, .v 6]) (.cons (.ret (.call I.p_fits_one (.var 6) (.cons (.var 1) .nil))) .nil) .nil))))))) .nil)
abbrev At_p_fits (m : Md) (I : Ix) : Prop := At m I.p_fits 7 2 (b_p_fits I)
/-- k04 k05 k06 k08 k09 k11 k12 k14 -/
def b_p_fits_rows (I : Ix) : Sts := (.cons (.ret (.conj (.isi (.var 2) .lst) (.cons (.cmp .lt (.blt .len (.var 2) .nil) (.call I.p_room_of (.var 0) .nil)) (.cons (.call I.p_fits_each (.bin .mul (.lst (.cons (.var 1) .nil)) (.blt .len (.var 2) .nil)) (.cons (.var 2) .nil)) .nil)))) .nil)
abbrev At_p_fits_rows (m : Md) (I : Ix) : Prop := At m I.p_fits_rows 3 3 (b_p_fits_rows I)
/-- k04 k05 k06 k08 k09 k11 k12 k14 -/
def b_p_fits_each (I : Ix) : Sts := (.cons (.ret (.conj (.isi (.var 1) .lst) (.cons (.cmp .eq (.blt .len (.var 1) .nil) (.blt .len (.var 0) .nil)) (.cons (.blt .all (.comp2 2 3 (.call I.p_fits (.var 2) (.cons (.var 3) .nil)) (.zip (.var 0) (.var 1))) .nil) .nil)))) .nil)
abbrev At_p_fits_each (m : Md) (I : Ix) : Prop := At m I.p_fits_each 4 2 (b_p_fits_each I)
/-- k04 k05 k06 k08 k09 k11 k12 k14 -/
def b_p_fits_one (I : Ix) : Sts := (.cons (.ifs (.disj (.nt (.isi (.var 1) .tup)) (.cons (.cmp .ne (.blt .len (.var 1) .nil) (.cI 2)) .nil)) (.cons (.ret (.cB false)) .nil) .nil) (.cons (.unp [2, 3] (.var 1)) (.cons (.ret (.conj (.call I.p_whole_within (.var 2) (.cons (.cI 0) (.cons (.bin .sub (.blt .len (.var 0) .nil) (.cI 1)) .nil))) (.cons (.call I.p_fits (.ix (.var 0) (.var 2)) (.cons (.var 3) .nil)) .nil))) .nil)))
abbrev At_p_fits_one (m : Md) (I : Ix) : Prop := At m I.p_fits_one 4 2 (b_p_fits_one I)
/-- k04 k05 k06 k08 k09 k11 k12 k14 -/
def b_p_packed (I : Ix) : Sts := (.cons (.ifs (.nt (.call I.p_fits (.var 0) (.cons (.var 1) .nil))) (.cons (.rse I.e_BadRecord (.cS "the record does not fit the shape")) .nil) .nil) (.cons (.ret (.call I.p_bits_by (.var 0) (.cons (.var 1) .nil))) .nil))
abbrev At_p_packed (m : Md) (I : Ix) : Prop := At m I.p_packed 2 2 (b_p_packed I)
/-- k04 k05 k06 k08 k09 k11 k12 k14 -/
def b_p_bits_by (I : Ix) : Sts := (.cons (.mat (.var 0) (.cons (.seq [.s "num", .v 2, .v 3, .w]) (.cons (.ret (.call I.p_bits_of (.bin .sub (.var 1) (.var 3)) (.cons (.var 2) .nil))) .nil) (.cons (.seq [.s "pad", .v 2]) (.cons (.ret (.bin .mul (.lst (.cons (.cI 0) .nil)) (.var 2))) .nil) (.cons (.seq [.s "maybe", .v 4]) (.cons (.ret (.call I.p_bits_of_rows (.cI 1) (.cons (.var 4) (.cons (.var 1) .nil)))) .nil) (.cons (.seq [.s "rows", .v 2, .v 4]) (.cons (.ret (.call I.p_bits_of_rows (.var 2) (.cons (.var 4) (.cons (.var 1) .nil)))) .nil) (.cons (.seq [.s "group", .v 5]) (.cons (.ret (.call I.p_bits_of_each (.var 5) (.cons (.var 1) .nil))) .nil) (.cons (.seq [.s "one", .v 2, .v 5]) (.cons (.unp [6, 7] (.var 1)) (.cons (.ret (.bin .add (.call I.p_bits_of (.var 6) (.cons (.var 2) .nil)) (.call I.p_bits_by (.ix (.var 5) (.var 6)) (.cons (.var 7) .nil)))) .nil)) .nil))))))) .nil)
abbrev At_p_bits_by (m : Md) (I : Ix) : Prop := At m I.p_bits_by 8 2 (b_p_bits_by I)
/-- k04 k05 k06 k08 k09 k11 k12 k14 -/
def b_p_bits_of_rows (I : Ix) : Sts := (.cons (.ret (.bin .add (.call I.p_bits_of (.blt .len (.var 2) .nil) (.cons (.var 0) .nil)) (.call I.p_bits_of_each (.bin .mul (.lst (.cons (.var 1) .nil)) (.blt .len (.var 2) .nil)) (.cons (.var 2) .nil)))) .nil)
abbrev At_p_bits_of_rows (m : Md) (I : Ix) : Prop := At m I.p_bits_of_rows 3 3 (b_p_bits_of_rows I)
/-- k04 k05 k06 k08 k09 k11 k12 k14 -/
def b_p_bits_of_each (I : Ix) : Sts := (.cons (.own 2 (.lst .nil)) (.cons (.for2 3 4 (.zip (.var 0) (.var 1)) (.cons (.ext 2 (.call I.p_bits_by (.var 3) (.cons (.var 4) .nil))) .nil)) (.cons (.retO 2) .nil)))
abbrev At_p_bits_of_each (m : Md) (I : Ix) : Prop := At m I.p_bits_of_each 5 2 (b_p_bits_of_each I)
/-- k04 k12 -/
def b_p_packed_all (I : Ix) : Sts := (.cons (.exp (.call I.p_refuse_no_bits (.var 0) .nil)) (.cons (.own 2 (.lst .nil)) (.cons (.forI 3 (.lst (.var 1)) (.cons (.ext 2 (.call I.p_packed (.var 0) (.cons (.var 3) .nil))) .nil)) (.cons (.retO 2) .nil))))
abbrev At_p_packed_all (m : Md) (I : Ix) : Prop := At m I.p_packed_all 4 2 (b_p_packed_all I)
/-- k04 k12 k13 -/
def b_p_refuse_no_bits (I : Ix) : Sts := (.cons (.ifs (.cmp .lt (.call I.p_least_bits (.var 0) .nil) (.cI 1)) (.cons (.rse I.e_NoBits (.cS "the shape has a record without bits")) .nil) .nil) .nil)
abbrev At_p_refuse_no_bits (m : Md) (I : Ix) : Prop := At m I.p_refuse_no_bits 1 1 (b_p_refuse_no_bits I)
/-- k04 k05 k06 k07 k08 k09 k10 k11 k12 k13 k14 -/
def b_l_deeper (I : Ix) : Sts := (.cons (.set 3 (.call I.l_cell_at (.var 0) (.cons (.var 1) .nil))) (.cons (.forI 4 (.rng (.bin .mod (.var 3) (.cI 5))) (.cons (.set 2 (.ix (.lst (.cons (.tup (.cons (.cS "group") (.cons (.lst (.cons (.var 2) .nil)) .nil))) (.cons (.tup (.cons (.cS "maybe") (.cons (.var 2) .nil))) (.cons (.tup (.cons (.cS "one") (.cons (.cI 0) (.cons (.lst (.cons (.var 2) .nil)) .nil)))) .nil)))) (.bin .mod (.bin .fdiv (.bin .fdiv (.var 3) (.cI 5)) (.bin .add (.var 4) (.cI 1))) (.cI 3)))) .nil)) (.cons (.ret (.var 2)) .nil)))
abbrev At_l_deeper (m : Md) (I : Ix) : Prop := At m I.l_deeper 5 3 (b_l_deeper I)
/-- k04 k05 k06 k07 k08 k09 k10 k11 k12 k13 k14 -/
def b_l_number (I : Ix) : Sts := (.cons (.ifs (.cmp .eq (.blt .len (.var 0) .nil) (.cI 0)) (.cons (.ret (.var 1)) .nil) .nil) (.cons (.ret (.bin .add (.ix (.var 0) (.bin .sub (.bin .sub (.blt .len (.var 0) .nil) (.cI 1)) (.bin .mod (.var 1) (.blt .len (.var 0) .nil)))) (.bin .fdiv (.var 1) (.blt .len (.var 0) .nil)))) .nil))
abbrev At_l_number (m : Md) (I : Ix) : Prop := At m I.l_number 2 2 (b_l_number I)
/-- k04 k05 k06 k07 k08 k09 k10 k11 k12 k13 k14 -/
def b_l_wide (I : Ix) : Sts := (.cons (.ifs (.disj (.cmp .eq (.ix (.var 0) (.cI 0)) (.cS "num")) (.cons (.cmp .eq (.ix (.var 0) (.cI 0)) (.cS "pad")) .nil)) (.cons (.ret (.blt .max2 (.cI 1) (.cons (.ix (.var 0) (.cI 1)) .nil))) .nil) .nil) (.cons (.ifs (.cmp .eq (.ix (.var 0) (.cI 0)) (.cS "maybe")) (.cons (.ret (.bin .add (.cI 1) (.call I.l_wide (.ix (.var 0) (.cI 1)) .nil))) .nil) .nil) (.cons (.ifs (.cmp .eq (.ix (.var 0) (.cI 0)) (.cS "rows")) (.cons (.ret (.bin .add (.ix (.var 0) (.cI 1)) (.bin .mul (.bin .sub (.call I.l_room (.ix (.var 0) (.cI 1)) .nil) (.cI 1)) (.blt .max2 (.cI 1) (.cons (.call I.l_wide (.ix (.var 0) (.cI 2)) .nil) .nil))))) .nil) .nil) (.cons (.setC 1 (.comp 2 (.call I.l_wide (.var 2) .nil) (.lst (.ix (.var 0) (.bin .sub (.blt .len (.var 0) .nil) (.cI 1)))))) (.cons (.ifs (.cmp .eq (.ix (.var 0) (.cI 0)) (.cS "one")) (.cons (.ret (.bin .add (.ix (.var 0) (.cI 1)) (.blt .maxl (.var 1) .nil))) .nil) .nil) (.cons (.ret (.blt .sum (.var 1) .nil)) .nil))))))
abbrev At_l_wide (m : Md) (I : Ix) : Prop := At m I.l_wide 3 1 (b_l_wide I)
/-- k04 k05 k06 k07 k08 k09 k10 k11 k12 k13 k14 -/
def b_l_many (I : Ix) : Sts := (.cons (.ifs (.cmp .eq (.ix (.var 0) (.cI 0)) (.cS "maybe")) (.cons (.ret (.blt .min2 (.cI 1) (.cons (.bin .mod (.var 1) (.cI 3)) .nil))) .nil) .nil) (.cons (.set 2 (.bin .sub (.call I.l_room (.ix (.var 0) (.cI 1)) .nil) (.cI 1))) (.cons (.set 3 (.blt .max2 (.cI 1) (.cons (.call I.l_wide (.ix (.var 0) (.cI 2)) .nil) .nil))) (.cons (.ifs (.cmp .gt (.bin .mul (.var 3) (.var 2)) (.cI 300)) (.cons (.set 2 (.blt .min2 (.var 2) (.cons (.blt .max2 (.cI 2) (.cons (.bin .fdiv (.ix (.lst (.cons (.cI 200) (.cons (.cI 520) .nil))) (.blt .int1 (.cmp .eq (.bin .mod (.var 1) (.cI 64)) (.cI 47)) .nil)) (.var 3)) .nil)) .nil))) .nil) .nil) (.cons (.ifs (.cmp .eq (.bin .mod (.var 1) (.cI 4)) (.cI 3)) (.cons (.ret (.bin .mod (.bin .fdiv (.var 1) (.cI 4)) (.bin .add (.var 2) (.cI 1)))) .nil) .nil) (.cons (.ret (.blt .min2 (.bin .mod (.var 1) (.cI 4)) (.cons (.var 2) .nil))) .nil))))))
abbrev At_l_many (m : Md) (I : Ix) : Prop := At m I.l_many 4 2 (b_l_many I)
/-- k04 k05 k06 k07 k08 k09 k10 k11 k12 k13 k14 -/
def b_l_record (I : Ix) : Sts := (.cons (.set 3 (.call I.l_number (.var 1) (.cons (.var 2) .nil))) (.cons (.set 4 (.ix (.var 0) (.cI 0))) (.cons (.ifs (.cmp .eq (.var 4) (.cS "num")) (.cons (.set 5 (.bin .add (.bin .sub (.ix (.var 0) (.cI 3)) (.ix (.var 0) (.cI 2))) (.cI 1))) (.cons (.set 6 (.bin .mod (.bin .fdiv (.var 3) (.cI 5)) (.var 5))) (.cons (.ifs (.cmp .eq (.bin .mod (.var 3) (.cI 5)) (.cI 1)) (.cons (.set 6 (.bin .sub (.var 5) (.cI 1))) .nil) .nil) (.cons (.ifs (.cmp .eq (.bin .mod (.var 3) (.cI 5)) (.cI 2)) (.cons (.set 6 (.cI 0)) .nil) .nil) (.cons (.ret (.tup (.cons (.bin .add (.ix (.var 0) (.cI 2)) (.var 6)) (.cons (.bin .add (.var 2) (.cI 1)) .nil)))) .nil))))) .nil) (.cons (.ifs (.cmp .eq (.var 4) (.cS "pad")) (.cons (.ret (.tup (.cons .cN (.cons (.var 2) .nil)))) .nil) .nil) (.cons (.ifs (.cmp .eq (.var 4) (.cS "one")) (.cons (.set 6 (.bin .mod (.var 3) (.blt .len (.ix (.var 0) (.cI 2)) .nil))) (.cons (.set 7 (.call I.l_record (.ix (.ix (.var 0) (.cI 2)) (.var 6)) (.cons (.var 1) (.cons (.bin .add (.var 2) (.cI 1)) .nil)))) (.cons (.ret (.tup (.cons (.tup (.cons (.var 6) (.cons (.ix (.var 7) (.cI 0)) .nil))) (.cons (.ix (.var 7) (.cI 1)) .nil)))) .nil))) .nil) (.cons (.ifs (.cmp .eq (.var 4) (.cS "group")) (.cons (.set 8 (.ix (.var 0) (.cI 1))) .nil) (.cons (.set 8 (.bin .mul (.lst (.cons (.ix (.var 0) (.bin .sub (.blt .len (.var 0) .nil) (.cI 1))) .nil)) (.call I.l_many (.var 0) (.cons (.var 3) .nil)))) (.cons (.set 2 (.bin .add (.var 2) (.cI 1))) .nil))) (.cons (.own 9 (.lst .nil)) (.cons (.forI 10 (.lst (.var 8)) (.cons (.set 7 (.call I.l_record (.var 10) (.cons (.var 1) (.cons (.var 2) .nil)))) (.cons (.app 9 (.ix (.var 7) (.cI 0))) (.cons (.set 2 (.ix (.var 7) (.cI 1))) .nil)))) (.cons (.frz 9) (.cons (.ret (.tup (.cons (.var 9) (.cons (.var 2) .nil)))) .nil))))))))))
abbrev At_l_record (m : Md) (I : Ix) : Prop := At m I.l_record 11 3 (b_l_record I)
/-- k04 k10 -/
def b_l_fits (I : Ix) : Sts := (.cons (.set 2 (.ix (.var 0) (.cI 0))) (.cons (.ifs (.cmp .eq (.var 2) (.cS "num")) (.cons (.ret (.conj (.call I.l_whole (.var 1) .nil) (.cons (.chn .le .le (.ix (.var 0) (.cI 2)) (.var 1) (.ix (.var 0) (.cI 3))) .nil))) .nil) .nil) (.cons (.ifs (.cmp .eq (.var 2) (.cS "pad")) (.cons (.ret (.isN (.var 1))) .nil) .nil) (.cons (.ifs (.cmp .eq (.var 2) (.cS "one")) (.cons (.ifs (.disj (.nt (.isi (.var 1) .tup)) (.cons (.cmp .ne (.blt .len (.var 1) .nil) (.cI 2)) (.cons (.nt (.call I.l_whole (.ix (.var 1) (.cI 0)) .nil)) .nil))) (.cons (.ret (.cB false)) .nil) .nil) (.cons (.ret (.conj (.chn .le .lt (.cI 0) (.ix (.var 1) (.cI 0)) (.blt .len (.ix (.var 0) (.cI 2)) .nil)) (.cons (.call I.l_fits (.ix (.ix (.var 0) (.cI 2)) (.ix (.var 1) (.cI 0))) (.cons (.ix (.var 1) (.cI 1)) .nil)) .nil))) .nil)) .nil) (.cons (.ifs (.nt (.isi (.var 1) .lst)) (.cons (.ret (.cB false)) .nil) .nil) (.cons (.set 3 (.ix (.var 0) (.cI 1))) (.cons (.ifs (.cmp .eq (.var 2) (.cS "maybe")) (.cons (.set 3 (.bin .mul (.lst (.cons (.ix (.var 0) (.cI 1)) .nil)) (.blt .min2 (.cI 1) (.cons (.blt .len (.var 1) .nil) .nil)))) .nil) .nil) (.cons (.ifs (.cmp .eq (.var 2) (.cS "rows")) (.cons (.set 3 (.bin .mul (.lst (.cons (.ix (.var 0) (.cI 2)) .nil)) (.blt .min2 (.bin .sub (.call I.l_room (.ix (.var 0) (.cI 1)) .nil) (.cI 1)) (.cons (.blt .len (.var 1) .nil) .nil)))) .nil) .nil) (.cons (.ifs (.cmp .ne (.blt .len (.var 3) .nil) (.blt .len (.var 1) .nil)) (.cons (.ret (.cB false)) .nil) .nil) (.cons (.for2 4 5 (.zip (.var 3) (.var 1)) (.cons (.ifs (.nt (.call I.l_fits (.var 4) (.cons (.var 5) .nil))) (.cons (.ret (.cB false)) .nil) .nil) .nil)) (.cons (.ret (.cB true)) .nil)))))))))))
abbrev At_l_fits (m : Md) (I : Ix) : Prop := At m I.l_fits 6 2 (b_l_fits I)
/-- k04 -/
def b_l_spoilt (I : Ix) : Sts := (.cons (.ifs (.disj (.cmp .eq (.var 2) (.cI 0)) (.cons (.cmp .eq (.ix (.var 0) (.cI 0)) (.cS "num")) (.cons (.cmp .eq (.ix (.var 0) (.cI 0)) (.cS "pad")) .nil))) (.cons (.ret (.call I.l_odd (.var 0) (.cons (.var 1) (.cons (.var 4) .nil)))) .nil) .nil) (.cons (.ifs (.cmp .eq (.ix (.var 0) (.cI 0)) (.cS "one")) (.cons (.ret (.tup (.cons (.ix (.var 1) (.cI 0)) (.cons (.call I.l_spoilt (.ix (.ix (.var 0) (.cI 2)) (.ix (.var 1) (.cI 0))) (.cons (.ix (.var 1) (.cI 1)) (.cons (.bin .sub (.var 2) (.cI 1)) (.cons (.var 3) (.cons (.var 4) .nil))))) .nil)))) .nil) .nil) (.cons (.ifs (.cmp .eq (.blt .len (.var 1) .nil) (.cI 0)) (.cons (.ret (.call I.l_odd (.var 0) (.cons (.var 1) (.cons (.var 4) .nil)))) .nil) .nil) (.cons (.set 5 (.bin .mod (.var 3) (.blt .len (.var 1) .nil))) (.cons (.set 6 (.ix (.var 0) (.bin .sub (.blt .len (.var 0) .nil) (.cI 1)))) (.cons (.ifs (.cmp .eq (.ix (.var 0) (.cI 0)) (.cS "group")) (.cons (.set 6 (.ix (.ix (.var 0) (.cI 1)) (.var 5))) .nil) .nil) (.cons (.ret (.bin .add (.bin .add (.slc (.var 1) .cN (.var 5)) (.lst (.cons (.call I.l_spoilt (.var 6) (.cons (.ix (.var 1) (.var 5)) (.cons (.bin .sub (.var 2) (.cI 1)) (.cons (.bin .fdiv (.var 3) (.cI 3)) (.cons (.var 4) .nil))))) .nil))) (.slc (.var 1) (.bin .add (.var 5) (.cI 1)) .cN))) .nil)))))))
abbrev At_l_spoilt (m : Md) (I : Ix) : Prop := At m I.l_spoilt 7 5 (b_l_spoilt I)
/-- k04 -/
def b_l_packs (I : Ix) : Sts := (.cons (.tryO (.cons (.ret (.isi (.call I.p_packed (.var 0) (.cons (.var 1) .nil)) .lst)) .nil) I.c_BadRecord (.cons (.ret (.cB false)) .nil)) .nil)
abbrev At_l_packs (m : Md) (I : Ix) : Prop := At m I.l_packs 2 2 (b_l_packs I)
/-- k04 k12 k13 -/
def b_l_least (I : Ix) : Sts := (.cons (.ifs (.cmp .eq (.ix (.var 0) (.cI 0)) (.cS "maybe")) (.cons (.ret (.cI 1)) .nil) .nil) (.cons (.ifs (.cmp .eq (.ix (.var 0) (.cI 0)) (.cS "one")) (.cons (.ret (.bin .add (.ix (.var 0) (.cI 1)) (.blt .minl (.comp 1 (.call I.l_least (.var 1) .nil) (.lst (.ix (.var 0) (.cI 2)))) .nil))) .nil) .nil) (.cons (.ifs (.cmp .eq (.ix (.var 0) (.cI 0)) (.cS "group")) (.cons (.ret (.blt .sum (.comp 1 (.call I.l_least (.var 1) .nil) (.lst (.ix (.var 0) (.cI 1)))) .nil)) .nil) .nil) (.cons (.ret (.ix (.var 0) (.cI 1))) .nil))))
abbrev At_l_least (m : Md) (I : Ix) : Prop := At m I.l_least 2 1 (b_l_least I)
/-- k04 -/
def b_l_row_packs (I : Ix) : Sts := (.cons (.tryM (.cons (.set 3 (.isi (.call I.p_packed_all (.var 0) (.cons (.var 1) .nil)) .lst)) .nil) (.cons I.c_BadRecord none (.cons (.set 3 (.cB false)) .nil) (.cons I.c_NoBits none (.cons (.ret (.cmp .eq (.call I.l_least (.var 0) .nil) (.cI 0))) .nil) .nil))) (.cons (.ret (.conj (.cmp .gt (.call I.l_least (.var 0) .nil) (.cI 0)) (.cons (.cmp .eq (.var 3) (.var 2)) .nil))) .nil))
abbrev At_l_row_packs (m : Md) (I : Ix) : Prop := At m I.l_row_packs 4 3 (b_l_row_packs I)
/-- k04 -/
def b_l_counted (I : Ix) : Sts := (.cons (.set 1 (.call I.l_leaf (.var 0) (.cons (.cI 5) .nil))) (.cons (.set 2 (.ix (.call I.l_record (.var 1) (.cons (.var 0) (.cons (.cI 0) .nil))) (.cI 0))) (.cons (.set 3 (.bin .mod (.call I.l_cell_at (.var 0) (.cons (.cI 34) .nil)) (.cI 7))) (.cons (.set 4 (.call I.l_room (.var 3) .nil)) (.cons (.forI 5 (.lst (.lst (.cons (.cI 0) (.cons (.cI 1) (.cons (.cI 2) (.cons (.cI 3) (.cons (.bin .sub (.var 4) (.cI 1)) (.cons (.var 4) (.cons (.bin .add (.var 4) (.cI 1)) .nil))))))))) (.cons (.for2 6 7 (.lst (.lst (.cons (.tup (.cons (.tup (.cons (.cS "maybe") (.cons (.var 1) .nil))) (.cons (.cI 1) .nil))) (.cons (.tup (.cons (.tup (.cons (.cS "rows") (.cons (.var 3) (.cons (.var 1) .nil)))) (.cons (.bin .sub (.var 4) (.cI 1)) .nil))) .nil)))) (.cons (.set 8 (.call I.p_fits (.var 6) (.cons (.bin .mul (.lst (.cons (.var 2) .nil)) (.var 5)) .nil))) (.cons (.ifs (.disj (.nt (.isi (.var 8) .bool)) (.cons (.cmp .ne (.var 8) (.cmp .le (.var 5) (.var 7))) .nil)) (.cons (.ret (.cB false)) .nil) .nil) (.cons (.ifs (.cmp .ne (.call I.l_packs (.var 6) (.cons (.bin .mul (.lst (.cons (.var 2) .nil)) (.var 5)) .nil)) (.var 8)) (.cons (.ret (.cB false)) .nil) .nil) .nil)))) .nil)) (.cons (.ret (.cB true)) .nil))))))
abbrev At_l_counted (m : Md) (I : Ix) : Prop := At m I.l_counted 9 1 (b_l_counted I)
/-- k04 -/
def b_law_k04 (I : Ix) : Sts := (.cons (.set 1 (.call I.l_deeper (.var 0) (.cons (.cI 30) (.cons (.call I.l_shape (.var 0) (.cons (.cI 0) .nil)) .nil)))) (.cons (.set 2 (.ix (.call I.l_record (.var 1) (.cons (.var 0) (.cons (.cI 0) .nil))) (.cI 0))) (.cons (.ifs (.disj (.isB true true (.call I.p_fits (.var 1) (.cons (.var 2) .nil))) (.cons (.nt (.call I.l_packs (.var 1) (.cons (.var 2) .nil))) .nil)) (.cons (.ret (.cB false)) .nil) .nil) (.cons (.ifs (.nt (.call I.l_alike (.lst (.cons (.var 2) .nil)) (.cons (.lst (.cons (.ix (.call I.l_record (.var 1) (.cons (.var 0) (.cons (.cI 0) .nil))) (.cI 0)) .nil)) .nil))) (.cons (.ret (.cB false)) .nil) .nil) (.cons (.forI 3 (.rng (.cI 5)) (.cons (.set 4 (.bin .mod (.bin .add (.call I.l_cell_at (.var 0) (.cons (.cI 31) .nil)) (.var 3)) (.cI 9))) (.cons (.set 5 (.bin .add (.call I.l_cell_at (.var 0) (.cons (.cI 33) .nil)) (.bin .mul (.cI 7) (.var 3)))) (.cons (.set 6 (.call I.l_spoilt (.var 1) (.cons (.var 2) (.cons (.var 4) (.cons (.bin .add (.call I.l_cell_at (.var 0) (.cons (.cI 32) .nil)) (.var 3)) (.cons (.var 5) .nil)))))) (.cons (.set 7 (.call I.l_spoilt (.var 1) (.cons (.var 2) (.cons (.var 4) (.cons (.bin .add (.call I.l_cell_at (.var 0) (.cons (.cI 32) .nil)) (.var 3)) (.cons (.var 5) .nil)))))) (.cons (.set 8 (.call I.p_fits (.var 1) (.cons (.var 6) .nil))) (.cons (.ifs (.disj (.nt (.call I.l_alike (.lst (.cons (.var 6) .nil)) (.cons (.lst (.cons (.var 7) .nil)) .nil))) (.cons (.nt (.isi (.var 8) .bool)) (.cons (.cmp .ne (.var 8) (.call I.l_fits (.var 1) (.cons (.var 6) .nil))) .nil))) (.cons (.ret (.cB false)) .nil) .nil) (.cons (.ifs (.cmp .ne (.call I.l_packs (.var 1) (.cons (.var 6) .nil)) (.var 8)) (.cons (.ret (.cB false)) .nil) .nil) (.cons (.ifs (.nt (.call I.l_row_packs (.var 1) (.cons (.lst (.cons (.var 2) (.cons (.var 6) (.cons (.var 2) .nil)))) (.cons (.var 8) .nil)))) (.cons (.ret (.cB false)) .nil) .nil) (.cons (.ifs (.nt (.call I.l_alike (.lst (.cons (.var 6) .nil)) (.cons (.lst (.cons (.var 7) .nil)) .nil))) (.cons (.ret (.cB false)) .nil) .nil) .nil)))))))))) (.cons (.ifs (.nt (.call I.l_counted (.var 0) .nil)) (.cons (.ret (.cB false)) .nil) .nil) (.cons (.ret (.call I.l_alike (.var 1) (.cons (.call I.l_deeper (.var 0) (.cons (.cI 30) (.cons (.call I.l_shape (.var 0) (.cons (.cI 0) .nil)) .nil))) .nil))) .nil)))))))
abbrev At_law_k04 (m : Md) (I : Ix) : Prop := At m I.law_k04 9 1 (b_law_k04 I)
/-- k05 k07 k10 k12 k13 k14 -/
def b_l_bits (I : Ix) : Sts := (.cons (.set 2 (.ix (.var 0) (.cI 0))) (.cons (.ifs (.cmp .eq (.var 2) (.cS "num")) (.cons (.ret (.call I.l_written (.bin .sub (.var 1) (.ix (.var 0) (.cI 2))) (.cons (.ix (.var 0) (.cI 1)) .nil))) .nil) .nil) (.cons (.ifs (.cmp .eq (.var 2) (.cS "pad")) (.cons (.ret (.bin .mul (.lst (.cons (.cI 0) .nil)) (.ix (.var 0) (.cI 1)))) .nil) .nil) (.cons (.ifs (.cmp .eq (.var 2) (.cS "one")) (.cons (.ret (.bin .add (.call I.l_written (.ix (.var 1) (.cI 0)) (.cons (.ix (.var 0) (.cI 1)) .nil)) (.call I.l_bits (.ix (.ix (.var 0) (.cI 2)) (.ix (.var 1) (.cI 0))) (.cons (.ix (.var 1) (.cI 1)) .nil)))) .nil) .nil) (.cons (.set 3 (.lst .nil)) (.cons (.set 4 (.ix (.var 0) (.cI 1))) (.cons (.ifs (.cmp .eq (.var 2) (.cS "maybe")) (.cons (.set 3 (.lst (.cons (.blt .len (.var 1) .nil) .nil))) (.cons (.set 4 (.bin .mul (.lst (.cons (.ix (.var 0) (.cI 1)) .nil)) (.blt .len (.var 1) .nil))) .nil)) .nil) (.cons (.ifs (.cmp .eq (.var 2) (.cS "rows")) (.cons (.set 3 (.call I.l_written (.blt .len (.var 1) .nil) (.cons (.ix (.var 0) (.cI 1)) .nil))) (.cons (.set 4 (.bin .mul (.lst (.cons (.ix (.var 0) (.cI 2)) .nil)) (.blt .len (.var 1) .nil))) .nil)) .nil) (.cons (.for2 5 6 (.zip (.var 4) (.var 1)) (.cons (.set 3 (.bin .add (.var 3) (.call I.l_bits (.var 5) (.cons (.var 6) .nil)))) .nil)) (.cons (.ret (.var 3)) .nil))))))))))
abbrev At_l_bits (m : Md) (I : Ix) : Prop := At m I.l_bits 7 2 (b_l_bits I)
/-- k05 -/
def b_law_k05 (I : Ix) : Sts := (.cons (.set 1 (.call I.l_deeper (.var 0) (.cons (.cI 30) (.cons (.call I.l_shape (.var 0) (.cons (.cI 0) .nil)) .nil)))) (.cons (.set 2 (.ix (.call I.l_record (.var 1) (.cons (.var 0) (.cons (.cI 0) .nil))) (.cI 0))) (.cons (.set 3 (.call I.p_packed (.var 1) (.cons (.var 2) .nil))) (.cons (.ifs (.nt (.call I.l_alike (.var 1) (.cons (.call I.l_deeper (.var 0) (.cons (.cI 30) (.cons (.call I.l_shape (.var 0) (.cons (.cI 0) .nil)) .nil))) .nil))) (.cons (.ret (.cB false)) .nil) .nil) (.cons (.set 4 (.ix (.call I.l_record (.var 1) (.cons (.var 0) (.cons (.cI 0) .nil))) (.cI 0))) (.cons (.ret (.conj (.call I.l_alike (.lst (.cons (.var 2) .nil)) (.cons (.lst (.cons (.var 4) .nil)) .nil)) (.cons (.call I.l_alike (.var 3) (.cons (.call I.l_bits (.var 1) (.cons (.var 4) .nil)) .nil)) .nil))) .nil))))))
abbrev At_law_k05 (m : Md) (I : Ix) : Prop := At m I.law_k05 5 1 (b_law_k05 I)
/-- k06 -/
def b_p_most_bits (I : Ix) : Sts := (.cons (.mat (.var 0) (.cons (.seq [.s "num", .v 1, .w, .w]) (.cons (.ret (.var 1)) .nil) (.cons (.seq [.s "pad", .v 1]) (.cons (.ret (.var 1)) .nil) (.cons (.seq [.s "maybe", .v 2]) (.cons (.ret (.bin .add (.cI 1) (.call I.p_most_bits (.var 2) .nil))) .nil) (.cons (.seq [.s "rows", .v 1, .v 2]) (.cons (.ret (.bin .add (.var 1) (.bin .mul (.bin .sub (.call I.p_room_of (.var 1) .nil) (.cI 1)) (.call I.p_most_bits (.var 2) .nil)))) .nil) (.cons (.seq [.s "group", .v 3]) (.cons (.ret (.blt .sum (.comp 4 (.call I.p_most_bits (.var 4) .nil) (.lst (.var 3))) .nil)) .nil) (.cons (.seq [.s "one", .v 1, .v 3]) (.cons (.ret (.bin .add (.var 1) (.mxD false (.comp 4 (.call I.p_most_bits (.var 4) .nil) (.lst (.var 3))) (.cI 0)))) .nil) .nil))))))) .nil)
abbrev At_p_most_bits (m : Md) (I : Ix) : Prop := At m I.p_most_bits 5 1 (b_p_most_bits I)
/-- k06 -/
def b_l_lengths (I : Ix) : Sts := (.cons (.ifs (.disj (.cmp .eq (.ix (.var 0) (.cI 0)) (.cS "num")) (.cons (.cmp .eq (.ix (.var 0) (.cI 0)) (.cS "pad")) .nil)) (.cons (.ret (.tup (.cons (.ix (.var 0) (.cI 1)) (.cons (.ix (.var 0) (.cI 1)) .nil)))) .nil) .nil) (.cons (.ifs (.cmp .eq (.ix (.var 0) (.cI 0)) (.cS "maybe")) (.cons (.ret (.tup (.cons (.cI 1) (.cons (.bin .add (.cI 1) (.ix (.call I.l_lengths (.ix (.var 0) (.cI 1)) .nil) (.cI 1))) .nil)))) .nil) .nil) (.cons (.ifs (.cmp .eq (.ix (.var 0) (.cI 0)) (.cS "rows")) (.cons (.ret (.tup (.cons (.ix (.var 0) (.cI 1)) (.cons (.bin .add (.ix (.var 0) (.cI 1)) (.bin .mul (.bin .sub (.call I.l_room (.ix (.var 0) (.cI 1)) .nil) (.cI 1)) (.ix (.call I.l_lengths (.ix (.var 0) (.cI 2)) .nil) (.cI 1)))) .nil)))) .nil) .nil) (.cons (.setC 1 (.comp 2 (.call I.l_lengths (.var 2) .nil) (.lst (.ix (.var 0) (.bin .sub (.blt .len (.var 0) .nil) (.cI 1)))))) (.cons (.ifs (.cmp .eq (.ix (.var 0) (.cI 0)) (.cS "one")) (.cons (.ret (.tup (.cons (.bin .add (.ix (.var 0) (.cI 1)) (.blt .minl (.comp 3 (.ix (.var 3) (.cI 0)) (.lst (.var 1))) .nil)) (.cons (.bin .add (.ix (.var 0) (.cI 1)) (.blt .maxl (.comp 3 (.ix (.var 3) (.cI 1)) (.lst (.var 1))) .nil)) .nil)))) .nil) .nil) (.cons (.ret (.tup (.cons (.blt .sum (.comp 3 (.ix (.var 3) (.cI 0)) (.lst (.var 1))) .nil) (.cons (.blt .sum (.comp 3 (.ix (.var 3) (.cI 1)) (.lst (.var 1))) .nil) .nil)))) .nil))))))
abbrev At_l_lengths (m : Md) (I : Ix) : Prop := At m I.l_lengths 4 1 (b_l_lengths I)
/-- k06 -/
def b_law_k06 (I : Ix) : Sts := (.cons (.set 1 (.call I.l_deeper (.var 0) (.cons (.cI 30) (.cons (.call I.l_shape (.var 0) (.cons (.cI 0) .nil)) .nil)))) (.cons (.set 2 (.call I.l_lengths (.var 1) .nil)) (.cons (.set 3 (.call I.p_least_bits (.var 1) .nil)) (.cons (.set 4 (.call I.p_most_bits (.var 1) .nil)) (.cons (.ifs (.disj (.nt (.call I.l_whole (.var 3) .nil)) (.cons (.nt (.call I.l_whole (.var 4) .nil)) (.cons (.cmp .ne (.tup (.cons (.var 3) (.cons (.var 4) .nil))) (.var 2)) .nil))) (.cons (.ret (.cB false)) .nil) .nil) (.cons (.ifs (.cmp .ne (.var 1) (.call I.l_deeper (.var 0) (.cons (.cI 30) (.cons (.call I.l_shape (.var 0) (.cons (.cI 0) .nil)) .nil)))) (.cons (.ret (.cB false)) .nil) .nil) (.cons (.set 5 (.call I.p_packed (.var 1) (.cons (.ix (.call I.l_record (.var 1) (.cons (.var 0) (.cons (.cI 0) .nil))) (.cI 0)) .nil))) (.cons (.ret (.conj (.isi (.var 5) .lst) (.cons (.chn .le .le (.var 3) (.blt .len (.var 5) .nil) (.var 4)) .nil))) .nil))))))))
abbrev At_law_k06 (m : Md) (I : Ix) : Prop := At m I.law_k06 6 1 (b_law_k06 I)
/-- k07 k08 k10 k11 k14 -/
def b_p_looked (I : Ix) : Sts := (.cons (.set 2 (.call I.p_read_at (.var 0) (.cons (.var 1) (.cons (.cI 0) .nil)))) (.cons (.ifs (.cmp .ne (.ix (.var 2) (.cI 0)) (.cS "read")) (.cons (.ret (.var 2)) .nil) .nil) (.cons (.unp [3, 4, 5] (.var 2)) (.cons (.ifs (.cmp .lt (.var 5) (.blt .len (.var 1) .nil)) (.cons (.ret (.tup (.cons (.cS "left") (.cons (.var 5) .nil)))) .nil) .nil) (.cons (.ret (.tup (.cons (.cS "read") (.cons (.var 4) .nil)))) .nil)))))
abbrev At_p_looked (m : Md) (I : Ix) : Prop := At m I.p_looked 6 2 (b_p_looked I)
/-- k07 k08 k10 k11 k12 k13 k14 -/
def b_p_read_at (I : Ix) : Sts := (.cons (.mat (.var 0) (.cons (.seq [.s "num", .v 3, .v 4, .v 5]) (.cons (.ret (.call I.p_read_num (.var 3) (.cons (.var 4) (.cons (.var 5) (.cons (.var 1) (.cons (.var 2) .nil)))))) .nil) (.cons (.seq [.s "pad", .v 3]) (.cons (.ret (.call I.p_read_pad (.var 3) (.cons (.var 1) (.cons (.var 2) .nil)))) .nil) (.cons (.seq [.s "maybe", .v 6]) (.cons (.ret (.call I.p_read_rows (.cI 1) (.cons (.var 6) (.cons (.var 1) (.cons (.var 2) .nil))))) .nil) (.cons (.seq [.s "rows", .v 3, .v 6]) (.cons (.ret (.call I.p_read_rows (.var 3) (.cons (.var 6) (.cons (.var 1) (.cons (.var 2) .nil))))) .nil) (.cons (.seq [.s "group", .v 7]) (.cons (.ret (.call I.p_read_each (.var 7) (.cons (.var 1) (.cons (.var 2) .nil)))) .nil) (.cons (.seq [.s "one", .v 3, .v 7]) (.cons (.ret (.call I.p_read_one (.var 3) (.cons (.var 7) (.cons (.var 1) (.cons (.var 2) .nil))))) .nil) .nil))))))) .nil)
abbrev At_p_read_at (m : Md) (I : Ix) : Prop := At m I.p_read_at 8 3 (b_p_read_at I)
/-- k07 k08 k10 k11 k12 k13 k14 -/
def b_p_read_num (I : Ix) : Sts := (.cons (.set 5 (.call I.p_code_at (.var 3) (.cons (.var 4) (.cons (.var 0) (.cons (.bin .sub (.var 2) (.var 1)) .nil))))) (.cons (.ifs (.cmp .ne (.ix (.var 5) (.cI 0)) (.cS "read")) (.cons (.ret (.var 5)) .nil) .nil) (.cons (.unp [6, 7, 8] (.var 5)) (.cons (.ret (.tup (.cons (.cS "read") (.cons (.bin .add (.var 7) (.var 1)) (.cons (.var 8) .nil))))) .nil))))
abbrev At_p_read_num (m : Md) (I : Ix) : Prop := At m I.p_read_num 9 5 (b_p_read_num I)
/-- k07 k08 k10 k11 k12 k13 k14 -/
def b_p_read_pad (I : Ix) : Sts := (.cons (.set 3 (.call I.p_code_at (.var 1) (.cons (.var 2) (.cons (.var 0) (.cons (.cI 0) .nil))))) (.cons (.ifs (.cmp .ne (.ix (.var 3) (.cI 0)) (.cS "read")) (.cons (.ret (.var 3)) .nil) .nil) (.cons (.ret (.tup (.cons (.cS "read") (.cons .cN (.cons (.ix (.var 3) (.cI 2)) .nil))))) .nil)))
abbrev At_p_read_pad (m : Md) (I : Ix) : Prop := At m I.p_read_pad 4 3 (b_p_read_pad I)
/-- k07 k08 k10 k11 k12 k13 k14 -/
def b_p_read_rows (I : Ix) : Sts := (.cons (.set 4 (.call I.p_code_at (.var 2) (.cons (.var 3) (.cons (.var 0) (.cons (.bin .sub (.call I.p_room_of (.var 0) .nil) (.cI 1)) .nil))))) (.cons (.ifs (.cmp .ne (.ix (.var 4) (.cI 0)) (.cS "read")) (.cons (.ret (.var 4)) .nil) .nil) (.cons (.unp [5, 6, 7] (.var 4)) (.cons (.ret (.call I.p_read_each (.bin .mul (.lst (.cons (.var 1) .nil)) (.var 6)) (.cons (.var 2) (.cons (.var 7) .nil)))) .nil))))
abbrev At_p_read_rows (m : Md) (I : Ix) : Prop := At m I.p_read_rows 8 4 (b_p_read_rows I)
/-- k07 k08 k10 k11 k12 k13 k14 -/
def b_p_read_each (I : Ix) : Sts := (.cons (.own 3 (.lst .nil)) (.cons (.set 4 (.var 2)) (.cons (.forI 5 (.lst (.var 0)) (.cons (.set 6 (.call I.p_read_at (.var 5) (.cons (.var 1) (.cons (.var 4) .nil)))) (.cons (.ifs (.cmp .ne (.ix (.var 6) (.cI 0)) (.cS "read")) (.cons (.ret (.var 6)) .nil) .nil) (.cons (.unp [7, 8, 4] (.var 6)) (.cons (.app 3 (.var 8)) .nil))))) (.cons (.frz 3) (.cons (.ret (.tup (.cons (.cS "read") (.cons (.var 3) (.cons (.var 4) .nil))))) .nil)))))
abbrev At_p_read_each (m : Md) (I : Ix) : Prop := At m I.p_read_each 9 3 (b_p_read_each I)
/-- k07 k08 k10 k11 k12 k13 k14 -/
def b_p_read_one (I : Ix) : Sts := (.cons (.ifs (.ntL 1) (.cons (.ret (.tup (.cons (.cS "wrong") (.cons (.var 3) .nil)))) .nil) .nil) (.cons (.set 4 (.call I.p_code_at (.var 2) (.cons (.var 3) (.cons (.var 0) (.cons (.bin .sub (.blt .len (.var 1) .nil) (.cI 1)) .nil))))) (.cons (.ifs (.cmp .ne (.ix (.var 4) (.cI 0)) (.cS "read")) (.cons (.ret (.var 4)) .nil) .nil) (.cons (.unp [5, 6, 7] (.var 4)) (.cons (.set 4 (.call I.p_read_at (.ix (.var 1) (.var 6)) (.cons (.var 2) (.cons (.var 7) .nil)))) (.cons (.ifs (.cmp .ne (.ix (.var 4) (.cI 0)) (.cS "read")) (.cons (.ret (.var 4)) .nil) .nil) (.cons (.unp [5, 8, 7] (.var 4)) (.cons (.ret (.tup (.cons (.cS "read") (.cons (.tup (.cons (.var 6) (.cons (.var 8) .nil))) (.cons (.var 7) .nil))))) .nil))))))))
abbrev At_p_read_one (m : Md) (I : Ix) : Prop := At m I.p_read_one 9 4 (b_p_read_one I)
/-- k07 k10 k11 k12 k13 k14 -/
def b_l_changed (I : Ix) : Sts := (.cons (.set 2 (.bin .mod (.var 1) (.cI 6))) (.cons (.set 3 (.bin .fdiv (.var 1) (.cI 6))) (.cons (.ifs (.cmp .eq (.var 2) (.cI 1)) (.cons (.ret (.slc (.var 0) .cN (.bin .mod (.var 3) (.bin .add (.blt .len (.var 0) .nil) (.cI 1))))) .nil) .nil) (.cons (.ifs (.cmp .eq (.var 2) (.cI 2)) (.cons (.ret (.bin .add (.var 0) (.call I.l_written (.bin .mod (.bin .fdiv (.var 3) (.cI 6)) (.cI 64)) (.cons (.bin .add (.cI 1) (.bin .mod (.var 3) (.cI 6))) .nil)))) .nil) .nil) (.cons (.ifs (.conj (.cmp .eq (.var 2) (.cI 3)) (.cons (.cmp .gt (.blt .len (.var 0) .nil) (.cI 0)) .nil)) (.cons (.set 4 (.bin .mod (.var 3) (.blt .len (.var 0) .nil))) (.cons (.ret (.bin .add (.bin .add (.slc (.var 0) .cN (.var 4)) (.lst (.cons (.bin .sub (.cI 1) (.ix (.var 0) (.var 4))) .nil))) (.slc (.var 0) (.bin .add (.var 4) (.cI 1)) .cN))) .nil)) .nil) (.cons (.ifs (.cmp .eq (.var 2) (.cI 4)) (.cons (.set 5 (.bin .mod (.var 3) (.cI 48))) (.cons (.ret (.call I.l_written (.bin .mul (.bin .mod (.bin .mul (.var 3) (.cI 48271)) (.cI 2147483647)) (.cI 40692)) (.cons (.var 5) .nil))) .nil)) .nil) (.cons (.ifs (.conj (.cmp .eq (.var 2) (.cI 5)) (.cons (.cmp .gt (.blt .len (.var 0) .nil) (.cI 0)) .nil)) (.cons (.set 4 (.bin .mod (.var 3) (.blt .len (.var 0) .nil))) (.cons (.ret (.bin .add (.slc (.var 0) .cN (.var 4)) (.call I.l_written (.bin .mod (.bin .mul (.var 3) (.cI 48271)) (.cI 2147483647)) (.cons (.bin .sub (.blt .len (.var 0) .nil) (.var 4)) .nil)))) .nil)) .nil) (.cons (.ret (.var 0)) .nil))))))))
abbrev At_l_changed (m : Md) (I : Ix) : Prop := At m I.l_changed 6 2 (b_l_changed I)
/-- k07 k10 k12 k13 k14 -/
def b_l_code (I : Ix) : Sts := (.cons (.set 4 (.cI 0)) (.cons (.forI 5 (.rng (.var 2)) (.cons (.ifs (.cmp .ge (.bin .add (.var 1) (.var 5)) (.blt .len (.var 0) .nil)) (.cons (.ret (.tup (.cons (.cS "short") (.cons (.blt .len (.var 0) .nil) .nil)))) .nil) .nil) (.cons (.set 4 (.bin .add (.bin .mul (.var 4) (.cI 2)) (.ix (.var 0) (.bin .add (.var 1) (.var 5))))) (.cons (.ifs (.cmp .gt (.bin .mul (.var 4) (.call I.l_room (.bin .sub (.bin .sub (.var 2) (.cI 1)) (.var 5)) .nil)) (.var 3)) (.cons (.ret (.tup (.cons (.cS "wrong") (.cons (.bin .add (.var 1) (.var 5)) .nil)))) .nil) .nil) .nil)))) (.cons (.ret (.tup (.cons (.cS "read") (.cons (.var 4) (.cons (.bin .add (.var 1) (.var 2)) .nil))))) .nil)))
abbrev At_l_code (m : Md) (I : Ix) : Prop := At m I.l_code 6 4 (b_l_code I)
/-- k07 k10 k12 k13 k14 -/
def b_l_most (I : Ix) : Sts := (.cons (.ifs (.cmp .eq (.ix (.var 0) (.cI 0)) (.cS "num")) (.cons (.ret (.bin .sub (.ix (.var 0) (.cI 3)) (.ix (.var 0) (.cI 2)))) .nil) .nil) (.cons (.ifs (.cmp .eq (.ix (.var 0) (.cI 0)) (.cS "rows")) (.cons (.ret (.bin .sub (.call I.l_room (.ix (.var 0) (.cI 1)) .nil) (.cI 1))) .nil) .nil) (.cons (.ifs (.cmp .eq (.ix (.var 0) (.cI 0)) (.cS "one")) (.cons (.ret (.bin .sub (.blt .len (.ix (.var 0) (.cI 2)) .nil) (.cI 1))) .nil) .nil) (.cons (.ret (.cI 0)) .nil))))
abbrev At_l_most (m : Md) (I : Ix) : Prop := At m I.l_most 1 1 (b_l_most I)
/-- k07 k10 k12 k13 k14 -/
def b_l_read (I : Ix) : Sts := (.cons (.set 3 (.ix (.var 0) (.cI 0))) (.cons (.set 4 (.lst .nil)) (.cons (.ifs (.cmp .eq (.var 3) (.cS "group")) (.cons (.set 5 (.tup (.cons (.cS "read") (.cons (.cI 0) (.cons (.var 2) .nil))))) (.cons (.set 4 (.ix (.var 0) (.cI 1))) .nil)) (.cons (.ifs (.cmp .eq (.var 3) (.cS "maybe")) (.cons (.set 5 (.call I.l_code (.var 1) (.cons (.var 2) (.cons (.cI 1) (.cons (.cI 1) .nil))))) .nil) (.cons (.set 5 (.call I.l_code (.var 1) (.cons (.var 2) (.cons (.ix (.var 0) (.cI 1)) (.cons (.call I.l_most (.var 0) .nil) .nil))))) .nil)) .nil)) (.cons (.ifs (.cmp .ne (.ix (.var 5) (.cI 0)) (.cS "read")) (.cons (.ret (.var 5)) .nil) .nil) (.cons (.ifs (.cmp .eq (.var 3) (.cS "num")) (.cons (.ret (.tup (.cons (.cS "read") (.cons (.bin .add (.ix (.var 0) (.cI 2)) (.ix (.var 5) (.cI 1))) (.cons (.ix (.var 5) (.cI 2)) .nil))))) .nil) .nil) (.cons (.ifs (.cmp .eq (.var 3) (.cS "pad")) (.cons (.ret (.tup (.cons (.cS "read") (.cons .cN (.cons (.ix (.var 5) (.cI 2)) .nil))))) .nil) .nil) (.cons (.ifs (.disj (.cmp .eq (.var 3) (.cS "maybe")) (.cons (.cmp .eq (.var 3) (.cS "rows")) .nil)) (.cons (.set 4 (.bin .mul (.lst (.cons (.ix (.var 0) (.bin .sub (.blt .len (.var 0) .nil) (.cI 1))) .nil)) (.ix (.var 5) (.cI 1)))) .nil) .nil) (.cons (.ifs (.cmp .eq (.var 3) (.cS "one")) (.cons (.set 4 (.lst (.cons (.ix (.ix (.var 0) (.cI 2)) (.ix (.var 5) (.cI 1))) .nil))) .nil) .nil) (.cons (.own 6 (.lst .nil)) (.cons (.set 2 (.ix (.var 5) (.cI 2))) (.cons (.forI 7 (.lst (.var 4)) (.cons (.set 8 (.call I.l_read (.var 7) (.cons (.var 1) (.cons (.var 2) .nil)))) (.cons (.ifs (.cmp .ne (.ix (.var 8) (.cI 0)) (.cS "read")) (.cons (.ret (.var 8)) .nil) .nil) (.cons (.app 6 (.ix (.var 8) (.cI 1))) (.cons (.set 2 (.ix (.var 8) (.cI 2))) .nil))))) (.cons (.ifs (.cmp .eq (.var 3) (.cS "one")) (.cons (.ret (.tup (.cons (.cS "read") (.cons (.tup (.cons (.ix (.var 5) (.cI 1)) (.cons (.ixO 6 (.cI 0)) .nil))) (.cons (.var 2) .nil))))) .nil) .nil) (.cons (.frz 6) (.cons (.ret (.tup (.cons (.cS "read") (.cons (.var 6) (.cons (.var 2) .nil))))) .nil))))))))))))))
abbrev At_l_read (m : Md) (I : Ix) : Prop := At m I.l_read 9 3 (b_l_read I)
/-- k07 -/
def b_law_k07 (I : Ix) : Sts := (.cons (.set 1 (.call I.l_deeper (.var 0) (.cons (.cI 30) (.cons (.call I.l_shape (.var 0) (.cons (.cI 0) .nil)) .nil)))) (.cons (.set 2 (.call I.l_bits (.var 1) (.cons (.ix (.call I.l_record (.var 1) (.cons (.var 0) (.cons (.cI 0) .nil))) (.cI 0)) .nil))) (.cons (.forI 3 (.rng (.cI 5)) (.cons (.set 4 (.call I.l_changed (.var 2) (.cons (.bin .add (.call I.l_cell_at (.var 0) (.cons (.bin .add (.cI 31) (.var 3)) .nil)) (.var 3)) .nil))) (.cons (.set 5 (.call I.l_read (.var 1) (.cons (.var 4) (.cons (.cI 0) .nil)))) (.cons (.ifs (.conj (.cmp .eq (.ix (.var 5) (.cI 0)) (.cS "read")) (.cons (.cmp .lt (.ix (.var 5) (.cI 2)) (.blt .len (.var 4) .nil)) .nil)) (.cons (.set 5 (.tup (.cons (.cS "left") (.cons (.ix (.var 5) (.cI 2)) .nil)))) .nil) .nil) (.cons (.set 6 (.blt .list (.var 4) .nil)) (.cons (.ifs (.disj (.nt (.call I.l_alike (.call I.p_looked (.var 1) (.cons (.var 6) .nil)) (.cons (.slc (.var 5) .cN (.cI 2)) .nil))) (.cons (.nt (.call I.l_alike (.var 6) (.cons (.var 4) .nil))) .nil)) (.cons (.ret (.cB false)) .nil) .nil) .nil)))))) (.cons (.ret (.call I.l_alike (.var 1) (.cons (.call I.l_deeper (.var 0) (.cons (.cI 30) (.cons (.call I.l_shape (.var 0) (.cons (.cI 0) .nil)) .nil))) .nil))) .nil))))
abbrev At_law_k07 (m : Md) (I : Ix) : Prop := At m I.law_k07 7 1 (b_law_k07 I)
/-- k08 k14 -/
def b_p_unpacked (I : Ix) : Sts := (.cons (.set 2 (.call I.p_looked (.var 0) (.cons (.var 1) .nil))) (.cons (.ifs (.cmp .eq (.ix (.var 2) (.cI 0)) (.cS "short")) (.cons (.rse I.e_Short (.fstr (.cons (.cS "the bits end at ") (.cons (.fmt (.ix (.var 2) (.cI 1))) (.cons (.cS ", where the record is not whole") .nil))))) .nil) .nil) (.cons (.ifs (.cmp .eq (.ix (.var 2) (.cI 0)) (.cS "left")) (.cons (.rse I.e_Left (.fstr (.cons (.cS "the record is whole at ") (.cons (.fmt (.ix (.var 2) (.cI 1))) (.cons (.cS ", where the bits do not end") .nil))))) .nil) .nil) (.cons (.ifs (.cmp .eq (.ix (.var 2) (.cI 0)) (.cS "wrong")) (.cons (.rse I.e_Wrong (.fstr (.cons (.cS "no record goes on with the bit at ") (.cons (.fmt (.ix (.var 2) (.cI 1))) .nil)))) .nil) .nil) (.cons (.ret (.ix (.var 2) (.cI 1))) .nil)))))
abbrev At_p_unpacked (m : Md) (I : Ix) : Prop := At m I.p_unpacked 3 2 (b_p_unpacked I)
/-- k08 k10 k11 -/
def b_p_begun (I : Ix) : Sts := (.cons (.set 2 (.call I.p_looked (.var 0) (.cons (.var 1) .nil))) (.cons (.set 3 (.var 1)) (.cons (.whl (.cmp .eq (.ix (.var 2) (.cI 0)) (.cS "short")) (.cons (.set 3 (.bin .add (.var 3) (.bin .mul (.lst (.cons (.cI 0) .nil)) (.bin .add (.blt .len (.var 3) .nil) (.cI 1))))) (.cons (.set 2 (.call I.p_read_at (.var 0) (.cons (.var 3) (.cons (.cI 0) .nil)))) .nil))) (.cons (.ifs (.cmp .eq (.ix (.var 2) (.cI 0)) (.cS "read")) (.cons (.ret (.lst (.cons (.ix (.var 2) (.cI 1)) .nil))) .nil) .nil) (.cons (.ret (.lst .nil)) .nil)))))
abbrev At_p_begun (m : Md) (I : Ix) : Prop := At m I.p_begun 4 2 (b_p_begun I)
/-- k08 k09 k11 -/
def b_l_bit_list (I : Ix) : Sts := (.cons (.ifs (.nt (.isi (.var 0) .lst)) (.cons (.ret (.cB false)) .nil) .nil) (.cons (.forI 1 (.lst (.var 0)) (.cons (.ifs (.disj (.nt (.call I.l_whole (.var 1) .nil)) (.cons (.cmp .nin (.var 1) (.tup (.cons (.cI 0) (.cons (.cI 1) .nil)))) .nil)) (.cons (.ret (.cB false)) .nil) .nil) .nil)) (.cons (.ret (.cB true)) .nil)))
abbrev At_l_bit_list (m : Md) (I : Ix) : Prop := At m I.l_bit_list 2 1 (b_l_bit_list I)
/-- k08 -/
def b_l_refused (I : Ix) : Sts := (.cons (.tryM (.cons (.exp (.call I.p_unpacked (.var 0) (.cons (.var 1) .nil))) .nil) (.cons I.c_Short none (.cons (.ret (.cS "short")) .nil) (.cons I.c_Left none (.cons (.ret (.cS "left")) .nil) .nil))) (.cons (.ret (.cS "read")) .nil))
abbrev At_l_refused (m : Md) (I : Ix) : Prop := At m I.l_refused 2 2 (b_l_refused I)
/-- k08 -/
def b_law_k08 (I : Ix) : Sts := (.cons (.set 1 (.call I.l_deeper (.var 0) (.cons (.cI 30) (.cons (.call I.l_shape (.var 0) (.cons (.cI 0) .nil)) .nil)))) (.cons (.set 2 (.ix (.call I.l_record (.var 1) (.cons (.var 0) (.cons (.cI 0) .nil))) (.cI 0))) (.cons (.set 3 (.call I.p_packed (.var 1) (.cons (.var 2) .nil))) (.cons (.ifs (.nt (.call I.l_bit_list (.var 3) .nil)) (.cons (.ret (.cB false)) .nil) .nil) (.cons (.set 4 (.ix (.call I.l_record (.var 1) (.cons (.var 0) (.cons (.cI 0) .nil))) (.cI 0))) (.cons (.ifs (.disj (.nt (.call I.l_alike (.lst (.cons (.call I.p_unpacked (.var 1) (.cons (.blt .list (.var 3) .nil) .nil)) .nil)) (.cons (.lst (.cons (.var 4) .nil)) .nil))) (.cons (.nt (.call I.l_alike (.call I.p_looked (.var 1) (.cons (.blt .list (.var 3) .nil) .nil)) (.cons (.tup (.cons (.cS "read") (.cons (.var 4) .nil))) .nil))) .nil)) (.cons (.ret (.cB false)) .nil) .nil) (.cons (.set 5 (.call I.l_cell_at (.var 0) (.cons (.cI 31) .nil))) (.cons (.ifs (.cmp .gt (.blt .len (.var 3) .nil) (.cI 0)) (.cons (.set 6 (.bin .mod (.var 5) (.blt .len (.var 3) .nil))) (.cons (.ifs (.disj (.nt (.call I.l_alike (.call I.p_looked (.var 1) (.cons (.slc (.var 3) .cN (.var 6)) .nil)) (.cons (.tup (.cons (.cS "short") (.cons (.var 6) .nil))) .nil))) (.cons (.cmp .ne (.call I.l_refused (.var 1) (.cons (.slc (.var 3) .cN (.var 6)) .nil)) (.cS "short")) .nil)) (.cons (.ret (.cB false)) .nil) .nil) .nil)) .nil) (.cons (.set 7 (.bin .add (.var 3) (.call I.l_written (.bin .mod (.bin .fdiv (.var 5) (.cI 6)) (.cI 64)) (.cons (.bin .add (.cI 1) (.bin .mod (.var 5) (.cI 6))) .nil)))) (.cons (.ifs (.disj (.nt (.call I.l_alike (.call I.p_looked (.var 1) (.cons (.blt .list (.var 7) .nil) .nil)) (.cons (.tup (.cons (.cS "left") (.cons (.blt .len (.var 3) .nil) .nil))) .nil))) (.cons (.cmp .ne (.call I.l_refused (.var 1) (.cons (.var 7) .nil)) (.cS "left")) .nil)) (.cons (.ret (.cB false)) .nil) .nil) (.cons (.ret (.call I.l_asked_again (.var 1) (.cons (.var 2) (.cons (.var 4) .nil)))) .nil)))))))))))
abbrev At_law_k08 (m : Md) (I : Ix) : Prop := At m I.law_k08 8 1 (b_law_k08 I)
/-- k09 -/
def b_law_k09 (I : Ix) : Sts := (.cons (.set 1 (.call I.l_deeper (.var 0) (.cons (.cI 30) (.cons (.call I.l_shape (.var 0) (.cons (.cI 0) .nil)) .nil)))) (.cons (.set 2 (.call I.l_cell_at (.var 0) (.cons (.cI 31) .nil))) (.cons (.own 3 (.blt .list (.var 0) .nil)) (.cons (.ifs (.cmp .gt (.lenO 3) (.cI 0)) (.cons (.set 4 (.bin .sub (.bin .sub (.lenO 3) (.cI 1)) (.bin .mod (.bin .fdiv (.var 2) (.cI 4)) (.lenO 3)))) (.cons (.put 3 (.var 4) (.ix (.lst (.cons (.bin .add (.ixO 3 (.var 4)) (.cI 5)) (.cons (.bin .sub (.ixO 3 (.var 4)) (.cI 5)) (.cons (.neg (.ixO 3 (.var 4))) (.cons (.ixO 3 (.var 4)) .nil))))) (.bin .mod (.var 2) (.cI 4)))) .nil)) .nil) (.cons (.set 5 (.ix (.call I.l_record (.var 1) (.cons (.var 0) (.cons (.cI 0) .nil))) (.cI 0))) (.cons (.frz 3) (.cons (.set 6 (.ix (.call I.l_record (.var 1) (.cons (.var 3) (.cons (.bin .mul (.blt .int1 (.cmp .eq (.bin .mod (.var 2) (.cI 4)) (.cI 3)) .nil) (.bin .mod (.bin .fdiv (.var 2) (.cI 4)) (.cI 5))) .nil))) (.cI 0))) (.cons (.set 7 (.call I.p_packed (.var 1) (.cons (.var 5) .nil))) (.cons (.set 8 (.call I.p_packed (.var 1) (.cons (.var 6) .nil))) (.cons (.ifs (.disj (.nt (.call I.l_bit_list (.var 7) .nil)) (.cons (.nt (.call I.l_bit_list (.var 8) .nil)) .nil)) (.cons (.ret (.cB false)) .nil) .nil) (.cons (.ifs (.call I.l_alike (.lst (.cons (.var 5) .nil)) (.cons (.lst (.cons (.var 6) .nil)) .nil)) (.cons (.ret (.cmp .eq (.var 7) (.var 8))) .nil) .nil) (.cons (.for2 9 10 (.zip (.var 7) (.var 8)) (.cons (.ifs (.cmp .ne (.var 9) (.var 10)) (.cons (.ret (.cB true)) .nil) .nil) .nil)) (.cons (.ret (.cB false)) .nil)))))))))))))
abbrev At_law_k09 (m : Md) (I : Ix) : Prop := At m I.law_k09 11 1 (b_law_k09 I)
/-- k10 -/
def b_l_begun (I : Ix) : Sts := (.cons (.set 2 (.call I.l_read (.var 0) (.cons (.var 1) (.cons (.cI 0) .nil)))) (.cons (.set 3 (.blt .list (.var 1) .nil)) (.cons (.set 4 (.call I.p_begun (.var 0) (.cons (.var 3) .nil))) (.cons (.ifs (.disj (.nt (.isi (.var 4) .lst)) (.cons (.nt (.call I.l_alike (.var 3) (.cons (.var 1) .nil))) .nil)) (.cons (.ret (.cB false)) .nil) .nil) (.cons (.ifs (.disj (.cmp .eq (.ix (.var 2) (.cI 0)) (.cS "wrong")) (.cons (.conj (.cmp .eq (.ix (.var 2) (.cI 0)) (.cS "read")) (.cons (.cmp .lt (.ix (.var 2) (.cI 2)) (.blt .len (.var 1) .nil)) .nil)) .nil)) (.cons (.ret (.cmp .eq (.blt .len (.var 4) .nil) (.cI 0))) .nil) .nil) (.cons (.ifs (.disj (.cmp .ne (.blt .len (.var 4) .nil) (.cI 1)) (.cons (.nt (.call I.l_fits (.var 0) (.cons (.ix (.var 4) (.cI 0)) .nil))) .nil)) (.cons (.ret (.cB false)) .nil) .nil) (.cons (.set 5 (.call I.l_bits (.var 0) (.cons (.ix (.var 4) (.cI 0)) .nil))) (.cons (.ret (.cmp .eq (.var 5) (.bin .add (.var 1) (.bin .mul (.lst (.cons (.cI 0) .nil)) (.bin .sub (.blt .len (.var 5) .nil) (.blt .len (.var 1) .nil)))))) .nil))))))))
abbrev At_l_begun (m : Md) (I : Ix) : Prop := At m I.l_begun 6 2 (b_l_begun I)
/-- k10 -/
def b_law_k10 (I : Ix) : Sts := (.cons (.set 1 (.call I.l_deeper (.var 0) (.cons (.cI 30) (.cons (.call I.l_shape (.var 0) (.cons (.cI 0) .nil)) .nil)))) (.cons (.set 2 (.call I.l_bits (.var 1) (.cons (.ix (.call I.l_record (.var 1) (.cons (.var 0) (.cons (.cI 0) .nil))) (.cI 0)) .nil))) (.cons (.forI 3 (.rng (.cI 5)) (.cons (.ifs (.nt (.call I.l_begun (.var 1) (.cons (.call I.l_changed (.var 2) (.cons (.bin .add (.call I.l_cell_at (.var 0) (.cons (.bin .add (.cI 31) (.var 3)) .nil)) (.var 3)) .nil)) .nil))) (.cons (.ret (.cB false)) .nil) .nil) .nil)) (.cons (.ret (.cB true)) .nil))))
abbrev At_law_k10 (m : Md) (I : Ix) : Prop := At m I.law_k10 4 1 (b_law_k10 I)
/-- k11 -/
def b_l_goes_on (I : Ix) : Sts := (.cons (.set 2 (.call I.p_begun (.var 0) (.cons (.blt .list (.var 1) .nil) .nil))) (.cons (.ifs (.disj (.nt (.isi (.var 2) .lst)) (.cons (.cmp .ne (.blt .len (.var 2) .nil) (.cI 1)) .nil)) (.cons (.ret (.cB false)) .nil) .nil) (.cons (.set 3 (.call I.p_packed (.var 0) (.cons (.ix (.var 2) (.cI 0)) .nil))) (.cons (.ifs (.disj (.nt (.call I.l_bit_list (.var 3) .nil)) (.cons (.cmp .le (.blt .len (.var 3) .nil) (.blt .len (.var 1) .nil)) .nil)) (.cons (.ret (.cB false)) .nil) .nil) (.cons (.ret (.cmp .eq (.var 3) (.bin .add (.var 1) (.bin .mul (.lst (.cons (.cI 0) .nil)) (.bin .sub (.blt .len (.var 3) .nil) (.blt .len (.var 1) .nil)))))) .nil)))))
abbrev At_l_goes_on (m : Md) (I : Ix) : Prop := At m I.l_goes_on 4 2 (b_l_goes_on I)
/-- k11 -/
def b_l_read_back (I : Ix) : Sts := (.cons (.set 2 (.call I.p_looked (.var 0) (.cons (.blt .list (.var 1) .nil) .nil))) (.cons (.ifs (.disj (.nt (.isi (.var 2) .tup)) (.cons (.cmp .ne (.blt .len (.var 2) .nil) (.cI 2)) (.cons (.nt (.call I.l_alike (.ix (.var 2) (.cI 0)) (.cons (.cS "read") .nil))) .nil))) (.cons (.ret (.cB false)) .nil) .nil) (.cons (.ret (.cmp .eq (.call I.p_packed (.var 0) (.cons (.ix (.var 2) (.cI 1)) .nil)) (.var 1))) .nil)))
abbrev At_l_read_back (m : Md) (I : Ix) : Prop := At m I.l_read_back 3 2 (b_l_read_back I)
/-- k11 -/
def b_l_walked (I : Ix) : Sts := (.cons (.set 3 (.call I.p_looked (.var 0) (.cons (.blt .list (.var 1) .nil) .nil))) (.cons (.ifs (.disj (.nt (.isi (.var 3) .tup)) (.cons (.cmp .ne (.blt .len (.var 3) .nil) (.cI 2)) (.cons (.nt (.isi (.ix (.var 3) (.cI 0)) .str)) .nil))) (.cons (.ret (.cB false)) .nil) .nil) (.cons (.ifs (.cmp .eq (.ix (.var 3) (.cI 0)) (.cS "read")) (.cons (.ret (.call I.l_read_back (.var 0) (.cons (.var 1) .nil))) .nil) .nil) (.cons (.set 4 (.ix (.var 3) (.cI 1))) (.cons (.ifs (.disj (.nt (.call I.l_whole (.var 4) .nil)) (.cons (.cmp .lt (.var 4) (.cI 0)) (.cons (.cmp .gt (.var 4) (.blt .len (.var 1) .nil)) .nil))) (.cons (.ret (.cB false)) .nil) .nil) (.cons (.ifs (.cmp .eq (.ix (.var 3) (.cI 0)) (.cS "short")) (.cons (.ret (.conj (.cmp .eq (.var 4) (.blt .len (.var 1) .nil)) (.cons (.call I.l_goes_on (.var 0) (.cons (.var 1) .nil)) .nil))) .nil) .nil) (.cons (.ifs (.cmp .eq (.var 4) (.blt .len (.var 1) .nil)) (.cons (.ret (.cB false)) .nil) .nil) (.cons (.ifs (.cmp .eq (.ix (.var 3) (.cI 0)) (.cS "left")) (.cons (.ret (.call I.l_read_back (.var 0) (.cons (.slc (.var 1) .cN (.var 4)) .nil))) .nil) .nil) (.cons (.ifs (.disj (.cmp .ne (.ix (.var 3) (.cI 0)) (.cS "wrong")) (.cons (.cmp .ne (.ix (.var 1) (.var 4)) (.cI 1)) (.cons (.nt (.call I.l_goes_on (.var 0) (.cons (.slc (.var 1) .cN (.var 4)) .nil))) .nil))) (.cons (.ret (.cB false)) .nil) .nil) (.cons (.ifs (.cmp .ne (.call I.p_begun (.var 0) (.cons (.slc (.var 1) .cN (.bin .add (.var 4) (.cI 1))) .nil)) (.lst .nil)) (.cons (.ret (.cB false)) .nil) .nil) (.cons (.ret (.call I.l_alike (.call I.p_looked (.var 0) (.cons (.bin .add (.slc (.var 1) .cN (.bin .add (.var 4) (.cI 1))) (.var 2)) .nil)) (.cons (.tup (.cons (.cS "wrong") (.cons (.var 4) .nil))) .nil))) .nil)))))))))))
abbrev At_l_walked (m : Md) (I : Ix) : Prop := At m I.l_walked 5 3 (b_l_walked I)
/-- k11 -/
def b_law_k11 (I : Ix) : Sts := (.cons (.set 1 (.call I.l_deeper (.var 0) (.cons (.cI 30) (.cons (.call I.l_shape (.var 0) (.cons (.cI 0) .nil)) .nil)))) (.cons (.set 2 (.call I.p_packed (.var 1) (.cons (.ix (.call I.l_record (.var 1) (.cons (.var 0) (.cons (.cI 0) .nil))) (.cI 0)) .nil))) (.cons (.ifs (.nt (.call I.l_bit_list (.var 2) .nil)) (.cons (.ret (.cB false)) .nil) .nil) (.cons (.set 3 (.call I.l_cell_at (.var 0) (.cons (.cI 36) .nil))) (.cons (.set 4 (.call I.l_written (.bin .mod (.bin .fdiv (.var 3) (.cI 10)) (.cI 512)) (.cons (.bin .mod (.var 3) (.cI 10)) .nil))) (.cons (.forI 5 (.rng (.cI 5)) (.cons (.ifs (.nt (.call I.l_walked (.var 1) (.cons (.call I.l_changed (.var 2) (.cons (.bin .add (.call I.l_cell_at (.var 0) (.cons (.bin .add (.cI 31) (.var 5)) .nil)) (.var 5)) .nil)) (.cons (.var 4) .nil)))) (.cons (.ret (.cB false)) .nil) .nil) .nil)) (.cons (.ret (.cB true)) .nil)))))))
abbrev At_law_k11 (m : Md) (I : Ix) : Prop := At m I.law_k11 6 1 (b_law_k11 I)
/-- k12 -/
def b_p_unpacked_all (I : Ix) : Sts := (.cons (.exp (.call I.p_refuse_no_bits (.var 0) .nil)) (.cons (.unp [2, 3] (.call I.p_whole_records (.var 0) (.cons (.var 1) .nil))) (.cons (.ifs (.cmp .lt (.var 3) (.blt .len (.var 1) .nil)) (.cons (.rse I.e_Short (.fstr (.cons (.cS "the record that begins at ") (.cons (.fmt (.var 3)) (.cons (.cS " is not whole") .nil))))) .nil) .nil) (.cons (.ret (.var 2)) .nil))))
abbrev At_p_unpacked_all (m : Md) (I : Ix) : Prop := At m I.p_unpacked_all 4 2 (b_p_unpacked_all I)
/-- k12 k13 -/
def b_p_whole_records (I : Ix) : Sts := (.cons (.own 2 (.lst .nil)) (.cons (.set 3 (.cI 0)) (.cons (.whl (.cmp .lt (.var 3) (.blt .len (.var 1) .nil)) (.cons (.set 4 (.call I.p_read_at (.var 0) (.cons (.var 1) (.cons (.var 3) .nil)))) (.cons (.ifs (.cmp .eq (.ix (.var 4) (.cI 0)) (.cS "wrong")) (.cons (.rse I.e_Wrong (.fstr (.cons (.cS "no record goes on with the bit at ") (.cons (.fmt (.ix (.var 4) (.cI 1))) .nil)))) .nil) .nil) (.cons (.ifs (.cmp .eq (.ix (.var 4) (.cI 0)) (.cS "short")) (.cons (.brk) .nil) .nil) (.cons (.unp [5, 6, 3] (.var 4)) (.cons (.app 2 (.var 6)) .nil)))))) (.cons (.frz 2) (.cons (.ret (.tup (.cons (.var 2) (.cons (.var 3) .nil)))) .nil)))))
abbrev At_p_whole_records (m : Md) (I : Ix) : Prop := At m I.p_whole_records 7 2 (b_p_whole_records I)
/-- k12 k13 -/
def b_l_row (I : Ix) : Sts := (.cons (.own 3 (.lst .nil)) (.cons (.set 4 (.cI 0)) (.cons (.forI 5 (.rng (.var 2)) (.cons (.set 6 (.call I.l_record (.var 0) (.cons (.var 1) (.cons (.var 4) .nil)))) (.cons (.app 3 (.ix (.var 6) (.cI 0))) (.cons (.set 4 (.ix (.var 6) (.cI 1))) .nil)))) (.cons (.retO 3) .nil))))
abbrev At_l_row (m : Md) (I : Ix) : Prop := At m I.l_row 7 3 (b_l_row I)
/-- k12 -/
def b_l_packed (I : Ix) : Sts := (.cons (.tryM (.cons (.ret (.call I.p_packed_all (.var 0) (.cons (.var 1) .nil))) .nil) (.cons I.c_NoBits none (.cons (.ret (.cS "no bits")) .nil) (.cons I.c_BadRecord (some 2) (.cons (.ret (.ix (.lst (.cons (.cS "other") (.cons (.cS "bad record") .nil))) (.blt .int1 (.conj (.isE 2 [(0, true), (1, true), (2, true), (3, true), (4, true)]) (.cons (.isE 2 [(0, true), (1, true), (2, true), (3, true), (4, true)]) .nil)) .nil))) .nil) .nil))) .nil)
abbrev At_l_packed (m : Md) (I : Ix) : Prop := At m I.l_packed 3 2 (b_l_packed I)
/-- k12 -/
def b_l_unpacked (I : Ix) : Sts := (.cons (.tryM (.cons (.ret (.call I.p_unpacked_all (.var 0) (.cons (.var 1) .nil))) .nil) (.cons I.c_NoBits none (.cons (.ret (.cS "no bits")) .nil) (.cons I.c_Wrong none (.cons (.ret (.cS "wrong")) .nil) (.cons I.c_Short (some 2) (.cons (.ret (.ix (.lst (.cons (.cS "other") (.cons (.cS "short") .nil))) (.blt .int1 (.conj (.isE 2 [(0, true), (1, true), (2, true), (3, true), (4, true)]) (.cons (.isE 2 [(0, true), (1, true), (2, true), (3, true), (4, true)]) .nil)) .nil))) .nil) .nil)))) .nil)
abbrev At_l_unpacked (m : Md) (I : Ix) : Prop := At m I.l_unpacked 3 2 (b_l_unpacked I)
/-- k12 k14 -/
def b_l_odd_in (I : Ix) : Sts := (.cons (.ifs (.conj (.cmp .gt (.var 1) (.cI 0)) (.cons (.isi (.var 0) .tup) .nil)) (.cons (.ret (.tup (.cons (.ix (.var 0) (.cI 0)) (.cons (.call I.l_odd_in (.ix (.var 0) (.cI 1)) (.cons (.bin .sub (.var 1) (.cI 1)) (.cons (.var 2) .nil))) .nil)))) .nil) .nil) (.cons (.ifs (.conj (.cmp .gt (.var 1) (.cI 0)) (.cons (.isi (.var 0) .lst) (.cons (.cmp .gt (.blt .len (.var 0) .nil) (.cI 0)) .nil))) (.cons (.set 3 (.bin .mod (.var 2) (.blt .len (.var 0) .nil))) (.cons (.ret (.bin .add (.bin .add (.slc (.var 0) .cN (.var 3)) (.lst (.cons (.call I.l_odd_in (.ix (.var 0) (.var 3)) (.cons (.bin .sub (.var 1) (.cI 1)) (.cons (.bin .fdiv (.var 2) (.cI 3)) .nil))) .nil))) (.slc (.var 0) (.bin .add (.var 3) (.cI 1)) .cN))) .nil)) .nil) (.cons (.ret (.ix (.lst (.cons (.cS "0") (.cons (.bin .pow (.cI 10) (.cI 21)) (.cons (.neg (.bin .pow (.cI 10) (.cI 21))) (.cons (.bin .mul (.lst (.cons .cN .nil)) (.cI 300)) (.cons (.tup (.cons (.cI 99) (.cons .cN .nil))) (.cons (.cB true) (.cons (.cB false) .nil)))))))) (.bin .mod (.var 2) (.cI 7)))) .nil)))
abbrev At_l_odd_in (m : Md) (I : Ix) : Prop := At m I.l_odd_in 4 3 (b_l_odd_in I)
/-- k12 -/
def b_l_count (I : Ix) : Sts := (.cons (.set 3 (.call I.l_cell_at (.var 1) (.cons (.cI 35) .nil))) (.cons (.ifs (.conj (.cmp .eq (.bin .mod (.var 3) (.cI 4)) (.cI 1)) (.cons (.cmp .lt (.call I.l_wide (.var 0) .nil) (.cI 16)) .nil)) (.cons (.ret (.bin .mod (.bin .fdiv (.var 3) (.cI 4)) (.cI 41))) .nil) .nil) (.cons (.ifs (.conj (.cmp .eq (.bin .mod (.var 3) (.cI 8)) (.cI 2)) (.cons (.cmp .lt (.call I.l_wide (.var 0) .nil) (.cI 8)) .nil)) (.cons (.ret (.bin .mod (.bin .fdiv (.var 3) (.cI 8)) (.cI 201))) .nil) .nil) (.cons (.ret (.bin .mod (.var 2) (.cI 5))) .nil))))
abbrev At_l_count (m : Md) (I : Ix) : Prop := At m I.l_count 4 3 (b_l_count I)
/-- k12 -/
def b_l_handed (I : Ix) : Sts := (.cons (.ownC 3 I.l_row (.var 0) (.cons (.var 1) (.cons (.call I.l_count (.var 0) (.cons (.var 1) (.cons (.var 2) .nil))) .nil))) (.cons (.ifs (.conj (.cmp .eq (.bin .mod (.bin .fdiv (.var 2) (.cI 5)) (.cI 5)) (.cI 1)) (.cons (.cmp .gt (.lenO 3) (.cI 0)) .nil)) (.cons (.set 4 (.bin .mod (.bin .fdiv (.var 2) (.cI 25)) (.lenO 3))) (.cons (.put 3 (.var 4) (.call I.l_odd_in (.ixO 3 (.var 4)) (.cons (.bin .mod (.call I.l_cell_at (.var 1) (.cons (.cI 36) .nil)) (.cI 9)) (.cons (.bin .fdiv (.var 2) (.cI 25)) .nil)))) .nil)) .nil) (.cons (.retO 3) .nil)))
abbrev At_l_handed (m : Md) (I : Ix) : Prop := At m I.l_handed 5 3 (b_l_handed I)
/-- k12 -/
def b_law_k12 (I : Ix) : Sts := (.cons (.set 1 (.call I.l_deeper (.var 0) (.cons (.cI 30) (.cons (.call I.l_shape (.var 0) (.cons (.cI 0) .nil)) .nil)))) (.cons (.set 2 (.call I.l_cell_at (.var 0) (.cons (.cI 32) .nil))) (.cons (.set 3 (.lst .nil)) (.cons (.forI 4 (.lst (.call I.l_row (.var 1) (.cons (.var 0) (.cons (.call I.l_count (.var 1) (.cons (.var 0) (.cons (.var 2) .nil))) .nil)))) (.cons (.set 3 (.bin .add (.var 3) (.call I.l_bits (.var 1) (.cons (.var 4) .nil)))) .nil)) (.cons (.set 5 (.var 3)) (.cons (.ifs (.conj (.cmp .eq (.bin .mod (.bin .fdiv (.var 2) (.cI 5)) (.cI 5)) (.cI 1)) (.cons (.cmp .gt (.call I.l_count (.var 1) (.cons (.var 0) (.cons (.var 2) .nil))) (.cI 0)) .nil)) (.cons (.set 5 (.cS "bad record")) .nil) .nil) (.cons (.ifs (.cmp .eq (.call I.l_least (.var 1) .nil) (.cI 0)) (.cons (.set 5 (.cS "no bits")) .nil) .nil) (.cons (.set 6 (.call I.l_handed (.var 1) (.cons (.var 0) (.cons (.var 2) .nil)))) (.cons (.ifs (.disj (.nt (.call I.l_alike (.call I.l_packed (.var 1) (.cons (.var 6) .nil)) (.cons (.var 5) .nil))) (.cons (.nt (.call I.l_alike (.var 6) (.cons (.call I.l_handed (.var 1) (.cons (.var 0) (.cons (.var 2) .nil))) .nil))) .nil)) (.cons (.ret (.cB false)) .nil) .nil) (.cons (.set 7 (.call I.l_changed (.var 3) (.cons (.call I.l_cell_at (.var 0) (.cons (.cI 31) .nil)) .nil))) (.cons (.ifs (.cmp .gt (.call I.l_least (.var 1) .nil) (.cI 0)) (.cons (.set 5 (.call I.l_due (.var 1) (.cons (.var 7) .nil))) .nil) .nil) (.cons (.set 8 (.blt .list (.var 7) .nil)) (.cons (.ifs (.disj (.nt (.call I.l_alike (.call I.l_unpacked (.var 1) (.cons (.var 8) .nil)) (.cons (.var 5) .nil))) (.cons (.nt (.call I.l_alike (.var 8) (.cons (.var 7) .nil))) .nil)) (.cons (.ret (.cB false)) .nil) .nil) (.cons (.ret (.call I.l_alike (.var 1) (.cons (.call I.l_deeper (.var 0) (.cons (.cI 30) (.cons (.call I.l_shape (.var 0) (.cons (.cI 0) .nil)) .nil))) .nil))) .nil))))))))))))))
abbrev At_law_k12 (m : Md) (I : Ix) : Prop := At m I.law_k12 9 1 (b_law_k12 I)
/-- k13 -/
def b_l_pieces (I : Ix) : Sts := (.cons (.own 2 (.lst .nil)) (.cons (.set 3 (.cI 0)) (.cons (.whl (.cmp .lt (.var 3) (.blt .len (.var 1) .nil)) (.cons (.set 4 (.lenO 2)) (.cons (.set 5 (.bin .add (.bin .mod (.call I.l_cell_at (.var 0) (.cons (.bin .mod (.bin .add (.cI 33) (.var 4)) (.cI 61)) .nil)) (.cI 13)) (.bin .fdiv (.bin .mul (.var 4) (.var 4)) (.cI 4)))) (.cons (.app 2 (.slc (.var 1) (.var 3) (.bin .add (.var 3) (.var 5)))) (.cons (.set 3 (.bin .add (.var 3) (.var 5))) .nil))))) (.cons (.retO 2) .nil))))
abbrev At_l_pieces (m : Md) (I : Ix) : Prop := At m I.l_pieces 6 2 (b_l_pieces I)
/-- k14 -/
def b_l_read_word (I : Ix) : Sts := (.cons (.tryA (.cons (.ret (.tup (.cons (.cS "read") (.cons (.call I.p_unpacked (.var 0) (.cons (.var 1) .nil)) .nil)))) .nil) I.c_PackError 2 (.cons (.ret (.clsE 2 [(0, ["other", "value"]), (1, ["short", "value"]), (2, ["left", "value"]), (3, ["wrong", "value"]), (4, ["bad record", "value"])])) .nil)) .nil)
abbrev At_l_read_word (m : Md) (I : Ix) : Prop := At m I.l_read_word 3 2 (b_l_read_word I)
/-- k14 -/
def b_l_packed_word (I : Ix) : Sts := (.cons (.tryA (.cons (.exp (.call I.p_packed (.var 0) (.cons (.var 1) .nil))) .nil) I.c_PackError 2 (.cons (.ret (.clsE 2 [(0, ["other", "value"]), (1, ["short", "value"]), (2, ["left", "value"]), (3, ["wrong", "value"]), (4, ["bad record", "value"])])) .nil)) (.cons (.ret (.lst .nil)) .nil))
abbrev At_l_packed_word (m : Md) (I : Ix) : Prop := At m I.l_packed_word 3 2 (b_l_packed_word I)
/-- k14 -/
def b_l_long (I : Ix) : Sts := (.cons (.set 1 (.call I.l_cell_at (.var 0) (.cons (.cI 38) .nil))) (.cons (.set 2 (.tup (.cons (.cS "rows") (.cons (.cI 4) (.cons (.tup (.cons (.cS "num") (.cons (.cI 4) (.cons (.neg (.cI 3)) (.cons (.cI 9) .nil))))) .nil))))) (.cons (.setC 3 (.comp 4 (.bin .sub (.bin .mod (.bin .add (.var 1) (.bin .mul (.cI 5) (.var 4))) (.cI 13)) (.cI 3)) (.rng (.bin .add (.cI 8) (.bin .mod (.var 1) (.cI 8)))))) (.cons (.ret (.call I.l_alike (.call I.l_read_word (.var 2) (.cons (.call I.l_bits (.var 2) (.cons (.var 3) .nil)) .nil)) (.cons (.tup (.cons (.cS "read") (.cons (.var 3) .nil))) .nil))) .nil))))
abbrev At_l_long (m : Md) (I : Ix) : Prop := At m I.l_long 5 1 (b_l_long I)
/-- k14 -/
def b_law_k14 (I : Ix) : Sts := (.cons (.set 1 (.call I.l_deeper (.var 0) (.cons (.cI 30) (.cons (.call I.l_shape (.var 0) (.cons (.cI 0) .nil)) .nil)))) (.cons (.set 2 (.ix (.call I.l_record (.var 1) (.cons (.var 0) (.cons (.cI 0) .nil))) (.cI 0))) (.cons (.forI 3 (.rng (.cI 5)) (.cons (.set 4 (.call I.l_changed (.call I.l_bits (.var 1) (.cons (.var 2) .nil)) (.cons (.bin .add (.call I.l_cell_at (.var 0) (.cons (.bin .add (.cI 31) (.var 3)) .nil)) (.var 3)) .nil))) (.cons (.set 5 (.call I.l_read (.var 1) (.cons (.var 4) (.cons (.cI 0) .nil)))) (.cons (.set 6 (.lst (.cons (.ix (.var 5) (.cI 0)) (.cons (.cS "value") .nil)))) (.cons (.ifs (.cmp .eq (.ix (.var 5) (.cI 0)) (.cS "read")) (.cons (.set 6 (.slc (.var 5) .cN (.cI 2))) (.cons (.ifs (.cmp .lt (.ix (.var 5) (.cI 2)) (.blt .len (.var 4) .nil)) (.cons (.set 6 (.lst (.cons (.cS "left") (.cons (.cS "value") .nil)))) .nil) .nil) .nil)) .nil) (.cons (.set 7 (.blt .list (.var 4) .nil)) (.cons (.ifs (.disj (.nt (.call I.l_alike (.call I.l_read_word (.var 1) (.cons (.var 7) .nil)) (.cons (.var 6) .nil))) (.cons (.nt (.call I.l_alike (.var 7) (.cons (.var 4) .nil))) .nil)) (.cons (.ret (.cB false)) .nil) .nil) .nil))))))) (.cons (.ifs (.cmp .ne (.call I.l_packed_word (.var 1) (.cons (.var 2) .nil)) (.lst .nil)) (.cons (.ret (.cB false)) .nil) .nil) (.cons (.forI 3 (.rng (.cI 5)) (.cons (.set 8 (.call I.l_odd_in (.var 2) (.cons (.bin .mod (.bin .add (.call I.l_cell_at (.var 0) (.cons (.cI 36) .nil)) (.var 3)) (.cI 9)) (.cons (.bin .add (.call I.l_cell_at (.var 0) (.cons (.cI 37) .nil)) (.var 3)) .nil)))) (.cons (.ifs (.cmp .ne (.call I.l_packed_word (.var 1) (.cons (.var 8) .nil)) (.lst (.cons (.cS "bad record") (.cons (.cS "value") .nil)))) (.cons (.ret (.cB false)) .nil) .nil) .nil))) (.cons (.ret (.call I.l_long (.var 0) .nil)) .nil))))))
abbrev At_law_k14 (m : Md) (I : Ix) : Prop := At m I.law_k14 9 1 (b_law_k14 I)
end Q

set_option maxRecDepth 100000
set_option linter.all false
namespace QKk03
open Q
def ix : Ix := { p_room_of := 0, p_good_shape := 1, p_good_within := 2, p_good_num := 3, p_good_one := 4, p_good_parts := 5, p_whole_within := 6, l_cell_at := 7, l_room := 8, l_leaf := 9, l_one := 10, l_group := 11, l_shape := 12, l_odd := 13, l_bound := 14, l_put := 15, l_depth := 16, l_round := 17, l_told := 18, law_k03 := 19 }
theorem at_p_room_of : At_p_room_of md ix := ⟨d0, rfl, rfl, rfl, rfl⟩
theorem at_p_good_shape : At_p_good_shape md ix := ⟨d1, rfl, rfl, rfl, rfl⟩
theorem at_p_good_within : At_p_good_within md ix := ⟨d2, rfl, rfl, rfl, rfl⟩
theorem at_p_good_num : At_p_good_num md ix := ⟨d3, rfl, rfl, rfl, rfl⟩
theorem at_p_good_one : At_p_good_one md ix := ⟨d4, rfl, rfl, rfl, rfl⟩
theorem at_p_good_parts : At_p_good_parts md ix := ⟨d5, rfl, rfl, rfl, rfl⟩
theorem at_p_whole_within : At_p_whole_within md ix := ⟨d6, rfl, rfl, rfl, rfl⟩
theorem at_l_cell_at : At_l_cell_at md ix := ⟨d7, rfl, rfl, rfl, rfl⟩
theorem at_l_room : At_l_room md ix := ⟨d8, rfl, rfl, rfl, rfl⟩
theorem at_l_leaf : At_l_leaf md ix := ⟨d9, rfl, rfl, rfl, rfl⟩
theorem at_l_one : At_l_one md ix := ⟨d10, rfl, rfl, rfl, rfl⟩
theorem at_l_group : At_l_group md ix := ⟨d11, rfl, rfl, rfl, rfl⟩
theorem at_l_shape : At_l_shape md ix := ⟨d12, rfl, rfl, rfl, rfl⟩
theorem at_l_odd : At_l_odd md ix := ⟨d13, rfl, rfl, rfl, rfl⟩
theorem at_l_bound : At_l_bound md ix := ⟨d14, rfl, rfl, rfl, rfl⟩
theorem at_l_put : At_l_put md ix := ⟨d15, rfl, rfl, rfl, rfl⟩
theorem at_l_depth : At_l_depth md ix := ⟨d16, rfl, rfl, rfl, rfl⟩
theorem at_l_round : At_l_round md ix := ⟨d17, rfl, rfl, rfl, rfl⟩
theorem at_l_told : At_l_told md ix := ⟨d18, rfl, rfl, rfl, rfl⟩
theorem at_law_k03 : At_law_k03 md ix := ⟨d19, rfl, rfl, rfl, rfl⟩
end QKk03

set_option Elab.async false
set_option linter.all false
set_option maxRecDepth 100000
set_option autoImplicit false
namespace Q
open PySem (PyData Str)
/-- with that many calls and more in each other, it answers z -/
def Ans (m : Md) (j : Nat) (ds : List PyData) (c : Nat) (z : Rs Sl) : Prop := ∀ n, c ≤ n → m.Phi n j ds = z
section
variable {m : Md} {I : Ix} {j n a N c : Nat} {b : Sts} {ds : List PyData} {z : Rs Sl}
theorem Ans.up {c' : Nat} (h : Ans m j ds c z) (hc : c ≤ c') : Ans m j ds c' z := fun n hn => h n (by omega)
theorem ans {env : Env} {s : Sl} (h : At m j N a b) (hl : ds.length = a) (he : ds.map (fun d => some (Sl.fr d)) ++ List.replicate (N - ds.length) none = env) (hx : ∀ n, c ≤ n → xs SS m.sub (m.Phi n) m.L b env = .rt s) : Ans m j ds (c + 1) (.ok s) := by
  obtain ⟨d, h1, rfl, rfl, rfl⟩ := h
  intro n hn
  obtain ⟨n, rfl⟩ : ∃ k, n = k + 1 := ⟨n - 1, by omega⟩
  exact Phi_rt h1 hl he (hx n (by omega))
theorem ansN {env env' : Env} (h : At m j N a b) (hl : ds.length = a) (he : ds.map (fun d => some (Sl.fr d)) ++ List.replicate (N - ds.length) none = env) (hx : ∀ n, c ≤ n → xs SS m.sub (m.Phi n) m.L b env = .nx env') : Ans m j ds (c + 1) (.ok (.fr .none)) := by
  obtain ⟨d, h1, rfl, rfl, rfl⟩ := h
  intro n hn
  obtain ⟨n, rfl⟩ : ∃ k, n = k + 1 := ⟨n - 1, by omega⟩
  rw [Phi_at h1 hl]
  unfold run
  rw [he, hx n (by omega)]
theorem ansX {env env' : Env} {k : Nat} (h : At m j N a b) (hl : ds.length = a) (he : ds.map (fun d => some (Sl.fr d)) ++ List.replicate (N - ds.length) none = env) (hx : ∀ n, c ≤ n → xs SS m.sub (m.Phi n) m.L b env = .xc k env') : Ans m j ds (c + 1) (.exc k) := by
  obtain ⟨d, h1, rfl, rfl, rfl⟩ := h
  intro n hn
  obtain ⟨n, rfl⟩ : ∃ k, n = k + 1 := ⟨n - 1, by omega⟩
  exact Phi_xc h1 hl he (hx n (by omega))
theorem len1 {l : List Str} (h : l.length = 1) : ∃ a, l = [a] := by
  match l, h with
  | [a], _ => exact ⟨a, rfl⟩
theorem len2 {l : List Str} (h : l.length = 2) : ∃ a b, l = [a, b] := by
  match l, h with
  | [a, b], _ => exact ⟨a, b, rfl⟩
theorem len3 {l : List Str} (h : l.length = 3) : ∃ a b c, l = [a, b, c] := by
  match l, h with
  | [a, b, c], _ => exact ⟨a, b, c, rfl⟩
theorem len4 {l : List Str} (h : l.length = 4) : ∃ a b c d, l = [a, b, c, d] := by
  match l, h with
  | [a, b, c, d], _ => exact ⟨a, b, c, d, rfl⟩
/-- the helpers -/
theorem a_cell (h : At_l_cell_at m I) (ns : List Int) (k : Nat) : Ans m I.l_cell_at [.list (ns.map .int), .int (k : Int)] 1 (.ok (.fr (.int (cell ns k)))) := by
  obtain ⟨⟨nm, N, ar, bd⟩, h1, h2, rfl, rfl⟩ := h
  obtain ⟨x, y, rfl⟩ := len2 h2
  intro n hn
  obtain ⟨n, rfl⟩ : ∃ k, n = k + 1 := ⟨n - 1, by omega⟩
  exact g_cell h1 ns k
theorem cellE (h : At_l_cell_at m I) (ns : List Int) (i : Int) (hi : 0 ≤ i) : ∃ x : Int, Ans m I.l_cell_at [.list (ns.map .int), .int i] 1 (.ok (.fr (.int x))) := by
  obtain ⟨k, rfl⟩ : ∃ k : Nat, i = k := ⟨i.toNat, by omega⟩
  exact ⟨_, a_cell h ns k⟩
theorem a_room (h : At_l_room m I) (w : Nat) (hw : w ≤ 1000000) : Ans m I.l_room [.int w] 1 (.ok (.fr (.int (2 ^ w)))) := by
  obtain ⟨⟨nm, N, ar, bd⟩, h1, h2, rfl, rfl⟩ := h
  obtain ⟨x, y, z, rfl⟩ := len3 h2
  intro n hn
  obtain ⟨n, rfl⟩ : ∃ k, n = k + 1 := ⟨n - 1, by omega⟩
  exact g_room h1 w (by omega)
theorem a_wr (h : At_l_written m I) (x : Int) (w : Nat) (hw : w ≤ 8000000) : Ans m I.l_written [.int x, .int w] 1 (.ok (.fr (.list (wr x w)))) := by
  obtain ⟨⟨nm, N, ar, bd⟩, h1, h2, rfl, rfl⟩ := h
  obtain ⟨p, y, z, q, rfl⟩ := len4 h2
  intro n hn
  obtain ⟨n, rfl⟩ : ∃ k, n = k + 1 := ⟨n - 1, by omega⟩
  exact g_wr h1 x w hw
theorem a_whole (h : At_l_whole m I) (x : Int) : Ans m I.l_whole [.int x] 1 (.ok (.fr (.bool true))) := by
  obtain ⟨⟨nm, N, ar, bd⟩, h1, h2, rfl, rfl⟩ := h
  obtain ⟨p, rfl⟩ := len1 h2
  intro n hn
  obtain ⟨n, rfl⟩ : ∃ k, n = k + 1 := ⟨n - 1, by omega⟩
  exact g_whole h1 x
theorem a_alike (h : At_l_alike m I) (hw : At_l_whole m I) (k : Nat) (d : PyData) (p : Pl k d) : Ans m I.l_alike [d, d] (k + 2) (.ok (.fr (.bool true))) := by
  obtain ⟨⟨nm, N, ar, bd⟩, h1, h2, rfl, rfl⟩ := h
  obtain ⟨⟨nm2, N2, ar2, bd2⟩, g1, g2, rfl, rfl⟩ := hw
  obtain ⟨x, y, z, rfl⟩ := len3 h2
  obtain ⟨u, rfl⟩ := len1 g2
  intro n hn
  obtain ⟨n, rfl⟩ : ∃ q, n = q + k + 2 := ⟨n - k - 2, by omega⟩
  exact g_alike h1 g1 k d p
end
end Q

set_option linter.all false
namespace Q
open PySem (PyData Str)
theorem kk_num_num : decide (("num" : Str) = "num") = true := by decide +kernel
theorem kk_num_pad : decide (("num" : Str) = "pad") = false := by decide +kernel
theorem kk_num_maybe : decide (("num" : Str) = "maybe") = false := by decide +kernel
theorem kk_num_rows : decide (("num" : Str) = "rows") = false := by decide +kernel
theorem kk_num_group : decide (("num" : Str) = "group") = false := by decide +kernel
theorem kk_num_one : decide (("num" : Str) = "one") = false := by decide +kernel
theorem kk_pad_num : decide (("pad" : Str) = "num") = false := by decide +kernel
theorem kk_pad_pad : decide (("pad" : Str) = "pad") = true := by decide +kernel
theorem kk_pad_maybe : decide (("pad" : Str) = "maybe") = false := by decide +kernel
theorem kk_pad_rows : decide (("pad" : Str) = "rows") = false := by decide +kernel
theorem kk_pad_group : decide (("pad" : Str) = "group") = false := by decide +kernel
theorem kk_pad_one : decide (("pad" : Str) = "one") = false := by decide +kernel
theorem kk_maybe_num : decide (("maybe" : Str) = "num") = false := by decide +kernel
theorem kk_maybe_pad : decide (("maybe" : Str) = "pad") = false := by decide +kernel
theorem kk_maybe_maybe : decide (("maybe" : Str) = "maybe") = true := by decide +kernel
theorem kk_maybe_rows : decide (("maybe" : Str) = "rows") = false := by decide +kernel
theorem kk_maybe_group : decide (("maybe" : Str) = "group") = false := by decide +kernel
theorem kk_maybe_one : decide (("maybe" : Str) = "one") = false := by decide +kernel
theorem kk_rows_num : decide (("rows" : Str) = "num") = false := by decide +kernel
theorem kk_rows_pad : decide (("rows" : Str) = "pad") = false := by decide +kernel
theorem kk_rows_maybe : decide (("rows" : Str) = "maybe") = false := by decide +kernel
theorem kk_rows_rows : decide (("rows" : Str) = "rows") = true := by decide +kernel
theorem kk_rows_group : decide (("rows" : Str) = "group") = false := by decide +kernel
theorem kk_rows_one : decide (("rows" : Str) = "one") = false := by decide +kernel
theorem kk_group_num : decide (("group" : Str) = "num") = false := by decide +kernel
theorem kk_group_pad : decide (("group" : Str) = "pad") = false := by decide +kernel
theorem kk_group_maybe : decide (("group" : Str) = "maybe") = false := by decide +kernel
theorem kk_group_rows : decide (("group" : Str) = "rows") = false := by decide +kernel
theorem kk_group_group : decide (("group" : Str) = "group") = true := by decide +kernel
theorem kk_group_one : decide (("group" : Str) = "one") = false := by decide +kernel
theorem kk_one_num : decide (("one" : Str) = "num") = false := by decide +kernel
theorem kk_one_pad : decide (("one" : Str) = "pad") = false := by decide +kernel
theorem kk_one_maybe : decide (("one" : Str) = "maybe") = false := by decide +kernel
theorem kk_one_rows : decide (("one" : Str) = "rows") = false := by decide +kernel
theorem kk_one_group : decide (("one" : Str) = "group") = false := by decide +kernel
theorem kk_one_one : decide (("one" : Str) = "one") = true := by decide +kernel
theorem kk_read_read : decide (("read" : Str) = "read") = true := by decide +kernel
theorem kk_read_short : decide (("read" : Str) = "short") = false := by decide +kernel
theorem kk_read_left : decide (("read" : Str) = "left") = false := by decide +kernel
theorem kk_read_wrong : decide (("read" : Str) = "wrong") = false := by decide +kernel
theorem kk_short_read : decide (("short" : Str) = "read") = false := by decide +kernel
theorem kk_short_short : decide (("short" : Str) = "short") = true := by decide +kernel
theorem kk_short_left : decide (("short" : Str) = "left") = false := by decide +kernel
theorem kk_short_wrong : decide (("short" : Str) = "wrong") = false := by decide +kernel
theorem kk_left_read : decide (("left" : Str) = "read") = false := by decide +kernel
theorem kk_left_short : decide (("left" : Str) = "short") = false := by decide +kernel
theorem kk_left_left : decide (("left" : Str) = "left") = true := by decide +kernel
theorem kk_left_wrong : decide (("left" : Str) = "wrong") = false := by decide +kernel
theorem kk_wrong_read : decide (("wrong" : Str) = "read") = false := by decide +kernel
theorem kk_wrong_short : decide (("wrong" : Str) = "short") = false := by decide +kernel
theorem kk_wrong_left : decide (("wrong" : Str) = "left") = false := by decide +kernel
theorem kk_wrong_wrong : decide (("wrong" : Str) = "wrong") = true := by decide +kernel
end Q

set_option Elab.async false
set_option linter.all false
set_option maxRecDepth 100000
set_option autoImplicit false
namespace Q
open PySem (PyData Str)
inductive Shp where
  | num (w : Nat) (lo hi : Int)
  | pad (w : Nat)
  | maybe (s : Shp)
  | rows (w : Nat) (s : Shp)
  | group (ss : List Shp)
  | one (w : Nat) (ss : List Shp)
theorem Shp.ind {P : Shp → Prop} (h1 : ∀ w lo hi, P (.num w lo hi)) (h2 : ∀ w, P (.pad w)) (h3 : ∀ s, P s → P (.maybe s)) (h4 : ∀ w s, P s → P (.rows w s)) (h5 : ∀ ss, (∀ s ∈ ss, P s) → P (.group ss)) (h6 : ∀ w ss, (∀ s ∈ ss, P s) → P (.one w ss)) : ∀ s, P s :=
  Shp.rec (motive_1 := P) (motive_2 := fun ss => ∀ s ∈ ss, P s) h1 h2 h3 h4 h5 h6 (fun s h => by cases h) (fun s ss hs hss t ht => by
    rcases List.mem_cons.mp ht with rfl | ht
    · exact hs
    · exact hss t ht)
mutual
def Shp.d : Shp → PyData
  | .num w lo hi => .tuple [.str "num", .int w, .int lo, .int hi]
  | .pad w => .tuple [.str "pad", .int w]
  | .maybe s => .tuple [.str "maybe", s.d]
  | .rows w s => .tuple [.str "rows", .int w, s.d]
  | .group ss => .tuple [.str "group", .list (Shp.ds ss)]
  | .one w ss => .tuple [.str "one", .int w, .list (Shp.ds ss)]
def Shp.ds : List Shp → List PyData
  | [] => []
  | s :: ss => s.d :: Shp.ds ss
end
theorem Shp.ds_map : ∀ ss : List Shp, Shp.ds ss = ss.map Shp.d
  | [] => by simp [Shp.ds]
  | s :: ss => by simp [Shp.ds, Shp.ds_map ss]
mutual
/-- how deep -/
def Shp.dep : Shp → Nat
  | .num .. => 1
  | .pad _ => 1
  | .maybe s => s.dep + 1
  | .rows _ s => s.dep + 1
  | .group ss => Shp.deps ss + 1
  | .one _ ss => Shp.deps ss + 1
def Shp.deps : List Shp → Nat
  | [] => 0
  | s :: ss => max s.dep (Shp.deps ss)
end
theorem Shp.dep_mem : ∀ {ss : List Shp} {s : Shp}, s ∈ ss → s.dep ≤ Shp.deps ss
  | t :: ss, s, h => by
    unfold Shp.deps
    rcases List.mem_cons.mp h with rfl | h
    · omega
    · have := Shp.dep_mem h
      omega
theorem Shp.deps_le {c : Nat} : ∀ {ss : List Shp}, (∀ s ∈ ss, s.dep ≤ c) → Shp.deps ss ≤ c
  | [], _ => by simp [Shp.deps]
  | t :: ss, h => by
    have h1 := h t List.mem_cons_self
    have h2 := Shp.deps_le fun s hs => h s (List.mem_cons_of_mem _ hs)
    unfold Shp.deps
    omega
/-- the bounds of point 2 -/
def Shp.leafy : Shp → Prop
  | .num w lo hi => w ≤ 64 ∧ lo ≤ hi ∧ hi - lo < 2 ^ w ∧ -(10 ^ 20) ≤ lo ∧ hi ≤ 10 ^ 20
  | .pad w => w ≤ 64
  | _ => False
mutual
def Shp.ok : Shp → Prop
  | .num w lo hi => w ≤ 64 ∧ lo ≤ hi ∧ hi - lo < 2 ^ w ∧ -(10 ^ 20) ≤ lo ∧ hi ≤ 10 ^ 20
  | .pad w => w ≤ 64
  | .maybe s => s.ok
  | .rows w s => w ≤ 8 ∧ s.dep ≤ 3 ∧ s.ok
  | .group ss => ss.length ≤ 20 ∧ Shp.oks ss
  | .one w ss => w ≤ 8 ∧ 1 ≤ ss.length ∧ ss.length ≤ 16 ∧ ss.length ≤ 2 ^ w ∧ Shp.oks ss
def Shp.oks : List Shp → Prop
  | [] => True
  | s :: ss => s.ok ∧ Shp.oks ss
end
theorem Shp.oks_iff : ∀ {ss : List Shp}, Shp.oks ss ↔ ∀ s ∈ ss, s.ok
  | [] => by simp [Shp.oks]
  | s :: ss => by simp [Shp.oks, Shp.oks_iff (ss := ss)]
theorem Shp.leafy.ok {s : Shp} (h : s.leafy) : s.ok := by
  cases s <;> first | exact h.elim | exact h
end Q

set_option Elab.async false
set_option linter.all false
set_option maxRecDepth 100000
set_option autoImplicit false
namespace Q
open PySem (PyData Str)
mutual
/-- how many bits a record of the given ones may have -/
def Shp.wb : Shp → Nat
  | .num w _ _ => w
  | .pad w => w
  | .maybe s => s.wb + 1
  | .rows w s => w + max (2 * s.wb) 520
  | .group ss => Shp.wbs ss
  | .one w ss => w + Shp.wbs ss
def Shp.wbs : List Shp → Nat
  | [] => 0
  | s :: ss => s.wb + Shp.wbs ss
end
theorem Shp.wbs_le {B : Nat} : ∀ {ss : List Shp}, (∀ s ∈ ss, s.wb ≤ B) → Shp.wbs ss ≤ ss.length * B
  | [], _ => by simp [Shp.wbs]
  | t :: ss, h => by
    have h1 := h t List.mem_cons_self
    have h2 := Shp.wbs_le fun s hs => h s (List.mem_cons_of_mem _ hs)
    unfold Shp.wbs
    rw [List.length_cons, Nat.add_mul, Nat.one_mul]
    omega
def Shp.P (D B : Nat) (s : Shp) : Prop := s.ok ∧ s.dep ≤ D ∧ s.wb ≤ B
theorem Shp.P.group {D B : Nat} {ss : List Shp} (h : ∀ s ∈ ss, s.P D B) (hl : ss.length ≤ 20) : (Shp.group ss).P (D + 1) (20 * B) := by
  have h1 := Shp.wbs_le (B := B) fun s hs => (h s hs).2.2
  have h2 : ss.length * B ≤ 20 * B := Nat.mul_le_mul_right B hl
  exact ⟨⟨hl, Shp.oks_iff.mpr fun s hs => (h s hs).1⟩, by unfold Shp.dep; have := Shp.deps_le fun s hs => (h s hs).2.1; omega, by unfold Shp.wb; omega⟩
theorem Shp.P.one {D B w : Nat} {ss : List Shp} (h : ∀ s ∈ ss, s.P D B) (hl : 1 ≤ ss.length ∧ ss.length ≤ 16) (hw : w ≤ 8) (h2 : ss.length ≤ 2 ^ w) (hB : 64 ≤ B) : (Shp.one w ss).P (D + 1) (20 * B) := by
  have h1 := Shp.wbs_le (B := B) fun s hs => (h s hs).2.2
  have h2 : ss.length * B ≤ 16 * B := Nat.mul_le_mul_right B hl.2
  refine ⟨⟨hw, hl.1, hl.2, by assumption, Shp.oks_iff.mpr fun s hs => (h s hs).1⟩, by unfold Shp.dep; have := Shp.deps_le fun s hs => (h s hs).2.1; omega, by unfold Shp.wb; omega⟩
theorem Shp.d_head (s : Shp) : ∃ (x : Str) (r : List PyData), s.d = .tuple (.str x :: r) := by
  cases s <;> exact ⟨_, _, rfl⟩
theorem l1 (x : PyData) : ([x].length ≤ szl) = True := eq_true (by show 1 ≤ 16777216; omega)
theorem l2 (x y : PyData) : ([x, y].length ≤ szl) = True := eq_true (by show 2 ≤ 16777216; omega)
theorem l3 (x y z : PyData) : ([x, y, z].length ≤ szl) = True := eq_true (by show 3 ≤ 16777216; omega)
theorem l4 (x y z u : PyData) : ([x, y, z, u].length ≤ szl) = True := eq_true (by show 4 ≤ 16777216; omega)
theorem l5 (x y z u v : PyData) : ([x, y, z, u, v].length ≤ szl) = True := eq_true (by show 5 ≤ 16777216; omega)
theorem l11 (a b c d e f g h i j k : PyData) : ([a, b, c, d, e, f, g, h, i, j, k].length ≤ szl) = True := eq_true (by show 11 ≤ 16777216; omega)
theorem l0 : (([] : List PyData).length ≤ szl) = True := eq_true (by show 0 ≤ 16777216; omega)
section
variable {m : Md} {I : Ix}
theorem ixl0 (x : PyData) (r : List PyData) : ixR (.list (x :: r)) (.int 0) = .ok x := rfl
theorem ixl1 (x y : PyData) (r : List PyData) : ixR (.list (x :: y :: r)) (.int 1) = .ok y := rfl
theorem ixl2 (x y z : PyData) (r : List PyData) : ixR (.list (x :: y :: z :: r)) (.int 2) = .ok z := rfl
theorem ixl3 (x y z u : PyData) (r : List PyData) : ixR (.list (x :: y :: z :: u :: r)) (.int 3) = .ok u := rfl
theorem ixt0 (x : PyData) (r : List PyData) : ixR (.tuple (x :: r)) (.int 0) = .ok x := rfl
theorem ixt1 (x y : PyData) (r : List PyData) : ixR (.tuple (x :: y :: r)) (.int 1) = .ok y := rfl
theorem ixt2 (x y z : PyData) (r : List PyData) : ixR (.tuple (x :: y :: z :: r)) (.int 2) = .ok z := rfl
theorem ixt3 (x y z u : PyData) (r : List PyData) : ixR (.tuple (x :: y :: z :: u :: r)) (.int 3) = .ok u := rfl
theorem mul5 (a b c d e : PyData) : binD .mul (.list [a, b, c, d, e]) (.int 4) = .ok (.list [a, b, c, d, e, a, b, c, d, e, a, b, c, d, e, a, b, c, d, e]) := by
  show (if -(2 ^ 63) ≤ (4 : Int) ∧ (4 : Int) < 2 ^ 63 ∧ [a, b, c, d, e].length * (4 : Int).toNat ≤ szl then Rs.ok (PyData.list (List.replicate (4 : Int).toNat [a, b, c, d, e]).flatten) else .bad) = _
  rw [if_pos ⟨by omega, by omega, by show 5 * 4 ≤ 16777216; omega⟩]
  rfl
theorem mul1_3 (a : PyData) : binD .mul (.list [a]) (.int 3) = .ok (.list [a, a, a]) := by
  show (if -(2 ^ 63) ≤ (3 : Int) ∧ (3 : Int) < 2 ^ 63 ∧ [a].length * (3 : Int).toNat ≤ szl then Rs.ok (PyData.list (List.replicate (3 : Int).toNat [a]).flatten) else .bad) = _
  rw [if_pos ⟨by omega, by omega, by show 1 * 3 ≤ 16777216; omega⟩]
  rfl
theorem slc_to (ss : List Shp) (c : Nat) (hc : c ≤ ss.length) (i : Int) (hi : i = c) : slcR (.list (ss.map Shp.d)) none (some i) = .ok (.list ((ss.take c).map Shp.d)) := by
  subst hi
  show Rs.ok (PyData.list (cut _ _ _)) = _
  rw [cut_to _ _ (by rw [List.length_map]; exact hc), List.map_take]
/-- one of a told list -/
theorem ix_any {xs : List PyData} {n : Nat} (i : Int) (h : 0 ≤ i) (hl : xs.length = n) (h2 : i < n) : ∃ x ∈ xs, ixR (.list xs) (.int i) = .ok x := by
  obtain ⟨k, rfl⟩ : ∃ k : Nat, i = k := ⟨i.toNat, by omega⟩
  have hk : k < xs.length := by omega
  exact ⟨xs[k], List.getElem_mem hk, ix_l (List.getElem?_eq_getElem hk)⟩
theorem s_one (h : At_l_one m I) {D B : Nat} (hB : 64 ≤ B) (a b c d : Shp) (ha : a.P D B) (hb : b.P D B) (hc : c.P D B) (hd : d.P D B) (x : Int) : ∃ s : Shp, s.P (D + 1) (20 * B) ∧ Ans m I.l_one [.list [a.d, b.d, c.d, d.d], .int x] 1 (.ok (.fr s.d)) := by
  have hm : binD .mod (.int x) (.int 5) = .ok (.int (x % 5)) := bb_mod (by decide)
  by_cases h1 : x % 5 = 4
  · have e1 : decide (x % 5 = 4) = true := decide_eq_true h1
    have f1 : binD .fdiv (.int x) (.int 5) = .ok (.int (x / 5)) := bb_fdiv (by decide) (by decide)
    have f2 : binD .mod (.int (x / 5)) (.int 12) = .ok (.int (x / 5 % 12)) := bb_mod (by decide)
    have f3 : binD .fdiv (.int x) (.int 60) = .ok (.int (x / 60)) := bb_fdiv (by decide) (by decide)
    have f4 : binD .mod (.int (x / 60)) (.int 5) = .ok (.int (x / 60 % 5)) := bb_mod (by decide)
    obtain ⟨k, hk⟩ : ∃ k : Nat, 5 + x / 5 % 12 = k := ⟨(5 + x / 5 % 12).toNat, by omega⟩
    obtain ⟨w, hw⟩ : ∃ w : Nat, 3 + (if decide ((8 : Int) < k) = true then (1 : Int) else 0) + x / 60 % 5 = w := ⟨(3 + (if decide ((8 : Int) < k) = true then (1 : Int) else 0) + x / 60 % 5).toNat, by split <;> omega⟩
    have hk1 : 5 ≤ k ∧ k ≤ 16 := by omega
    have hw1 : 3 ≤ w ∧ w ≤ 8 ∧ (8 < k → 4 ≤ w) := by
      by_cases q : (8 : Int) < k
      · rw [if_pos (decide_eq_true q)] at hw
        omega
      · rw [if_neg (by simpa using q)] at hw
        omega
    have hsl := slc_to [a, c, b, d, c, a, c, b, d, c, a, c, b, d, c, a, c, b, d, c] k (by show k ≤ 20; omega) k rfl
    have hbi : bltR .int1 [.bool (decide ((8 : Int) < k))] = .ok (.int (if decide ((8 : Int) < k) = true then (1 : Int) else 0)) := rfl
    refine ⟨.one w ([a, c, b, d, c, a, c, b, d, c, a, c, b, d, c, a, c, b, d, c].take k), ?_, ?_⟩
    · refine Shp.P.one (fun s hs => ?_) ?_ (by omega) ?_ hB
      · have := List.mem_of_mem_take hs
        simp only [List.mem_cons, List.not_mem_nil, or_false] at this
        rcases this with rfl | rfl | rfl | rfl | rfl | rfl | rfl | rfl | rfl | rfl | rfl | rfl | rfl | rfl | rfl | rfl | rfl | rfl | rfl | rfl <;> assumption
      · rw [List.length_take]
        show 1 ≤ min k 20 ∧ min k 20 ≤ 16
        omega
      · rw [List.length_take]
        show min k 20 ≤ 2 ^ w
        by_cases q : 8 < k
        · have : 2 ^ 4 ≤ 2 ^ w := Nat.pow_le_pow_right (by decide) (hw1.2.2 q)
          omega
        · have : 2 ^ 3 ≤ 2 ^ w := Nat.pow_le_pow_right (by decide) hw1.1
          omega
    · refine ans h (env := [(some (Sl.fr (.list [a.d, b.d, c.d, d.d]))), (some (Sl.fr (.int x))), none, none]) rfl rfl fun n hn => ?_
      simp only [List.map] at hsl
      simp -implicitDefEqProofs only [Q.xs, Q.xs1, ev, evs, evI, evC, evJ, bind_ok, bind_exc, exR_ok, exR_exc, seq_nx, seq_rt, seq_xc, varR_0, varR_S, bb_add, bb_sub, bb_mul2, bb_and, cc_lt, cc_le, cc_gt, cc_ge, cc_eq, cc_ne, cc_eqb, cc_eqs, ll_len, ll_lent, ll_list, ll_listt, ll_max2, ll_min2, toD_fr, toD_ow, lstR_ok, neg_i, erR_0, erR_S, catch_nx, catch_rt, catch_xc, sfin_rt, sfin_nx, noEr_n, noEr_f, noEr_o, noEr_0, no_int, no_list, no_tuple, no_none, no_bool, no_str, isiD, List.set_cons_zero, List.set_cons_succ, decide_true, decide_false, Bool.not_true, Bool.not_false, if_true, if_false, Bool.false_eq_true, reduceIte, b_l_one, hm, e1, f1, f2, f3, f4, hk, hbi, hw, ixl0, ixl1, ixl2, ixl3, mul5, isCN, intR, hsl, l5, l3]
      simp only [Shp.d, Shp.ds_map, List.map_take, List.map]
  · have e1 : decide (x % 5 = 4) = false := decide_eq_false h1
    have f1 : binD .mod (.int (x % 5)) (.int 4) = .ok (.int (x % 5 % 4)) := bb_mod (by decide)
    have f2 : binD .fdiv (.int x) (.int 5) = .ok (.int (x / 5)) := bb_fdiv (by decide) (by decide)
    have f3 : binD .mod (.int (x / 5)) (.int 3) = .ok (.int (x / 5 % 3)) := bb_mod (by decide)
    obtain ⟨k, hk⟩ : ∃ k : Nat, 1 + x % 5 % 4 = k := ⟨(1 + x % 5 % 4).toNat, by omega⟩
    have hk1 : 1 ≤ k ∧ k ≤ 4 := by omega
    have hsl := slc_to [a, b, c, d] k (by show k ≤ 4; omega) k rfl
    obtain ⟨u, hu, hu1⟩ : ∃ u : Nat, ixR (.list [.int 0, .int 1, .int 2, .int 2]) (.int ((k : Int) - 1)) = .ok (.int (u : Int)) ∧ u ≤ 2 ∧ k ≤ 2 ^ u := by
      have : k = 1 ∨ k = 2 ∨ k = 3 ∨ k = 4 := by omega
      rcases this with rfl | rfl | rfl | rfl
      · exact ⟨0, rfl, by decide⟩
      · exact ⟨1, rfl, by decide⟩
      · exact ⟨2, rfl, by decide⟩
      · exact ⟨2, rfl, by decide⟩
    obtain ⟨w, hw⟩ : ∃ w : Nat, (u : Int) + x / 5 % 3 = w := ⟨((u : Int) + x / 5 % 3).toNat, by omega⟩
    refine ⟨.one w ([a, b, c, d].take k), ?_, ?_⟩
    · refine Shp.P.one (fun s hs => ?_) ?_ (by omega) ?_ hB
      · have := List.mem_of_mem_take hs
        simp only [List.mem_cons, List.not_mem_nil, or_false] at this
        rcases this with rfl | rfl | rfl | rfl <;> assumption
      · rw [List.length_take]
        show 1 ≤ min k 4 ∧ min k 4 ≤ 16
        omega
      · rw [List.length_take]
        show min k 4 ≤ 2 ^ w
        have : 2 ^ u ≤ 2 ^ w := Nat.pow_le_pow_right (by decide) (by omega)
        omega
    · refine ans h (env := [(some (Sl.fr (.list [a.d, b.d, c.d, d.d]))), (some (Sl.fr (.int x))), none, none]) rfl rfl fun n hn => ?_
      simp only [List.map] at hsl
      simp -implicitDefEqProofs only [Q.xs, Q.xs1, ev, evs, evI, evC, evJ, bind_ok, bind_exc, exR_ok, exR_exc, seq_nx, seq_rt, seq_xc, varR_0, varR_S, bb_add, bb_sub, bb_mul2, bb_and, cc_lt, cc_le, cc_gt, cc_ge, cc_eq, cc_ne, cc_eqb, cc_eqs, ll_len, ll_lent, ll_list, ll_listt, ll_max2, ll_min2, toD_fr, toD_ow, lstR_ok, neg_i, erR_0, erR_S, catch_nx, catch_rt, catch_xc, sfin_rt, sfin_nx, noEr_n, noEr_f, noEr_o, noEr_0, no_int, no_list, no_tuple, no_none, no_bool, no_str, isiD, List.set_cons_zero, List.set_cons_succ, decide_true, decide_false, Bool.not_true, Bool.not_false, if_true, if_false, Bool.false_eq_true, reduceIte, b_l_one, hm, e1, f1, f2, f3, hk, hu, hw, isCN, intR, hsl, l4, l3]
      simp only [Shp.d, Shp.ds_map, List.map_take, List.map]
end
end Q

set_option Elab.async false
set_option linter.all false
set_option maxRecDepth 100000
set_option autoImplicit false
namespace Q
open PySem (PyData Str)
section
variable {m : Md} {I : Ix}
theorem ixh {x : Str} {r : List PyData} {d : PyData} (h : d = .tuple (.str x :: r)) : ixR d (.int 0) = .ok (.str x) := by
  subst h
  rfl
theorem inSt {S : PyData → Bool} (x : Str) (a b : Str) : ∃ v : Bool, cmpR S .inn (.str x) (.tuple [.str a, .str b]) = .ok v := ⟨[PyData.str a, PyData.str b].any fun y => PyData.eqv y (.str x), by
  show inR (.str x) (.tuple [.str a, .str b]) = _
  exact in_tup ⟨rfl, rfl⟩⟩
theorem s_group (h : At_l_group m I) {D B : Nat} (a b c d : Shp) (ha : a.P D B) (hb : b.P D B) (hc : c.P D B) (hd : d.P D B) (x : Int) : ∃ s : Shp, s.P (D + 1) (20 * B) ∧ Ans m I.l_group [.list [a.d, b.d, c.d, d.d], .int x] 1 (.ok (.fr s.d)) := by
  have hm : binD .mod (.int x) (.int 4) = .ok (.int (x % 4)) := bb_mod (by decide)
  have hm12 : binD .mod (.int x) (.int 12) = .ok (.int (x % 12)) := bb_mod (by decide)
  obtain ⟨xa, ra, ea⟩ := a.d_head
  obtain ⟨xb, rb, eb⟩ := b.d_head
  have ea := ixh ea
  have eb := ixh eb
  obtain ⟨va, iva⟩ := inSt (S := SS) xa "num" "pad"
  obtain ⟨vb, ivb⟩ := inSt (S := SS) xb "num" "pad"
  have sub : ∀ (P : List Shp), (∀ s ∈ P, s = a ∨ s = b ∨ s = c ∨ s = d) → P.length ≤ 20 → (Shp.group P).P (D + 1) (20 * B) := fun P hP hl => Shp.P.group (fun s hs => by
    rcases hP s hs with rfl | rfl | rfl | rfl <;> assumption) hl
  -- the rest of it, once the first test is false
  have rest : ∃ s : Shp, s.P (D + 1) (20 * B) ∧ ∀ n, xs SS m.sub (m.Phi n) m.L (dr 1 (b_l_group I)) [(some (Sl.fr (.list [a.d, b.d, c.d, d.d]))), (some (Sl.fr (.int x)))] = .rt (.fr s.d) := by
    by_cases h1 : x % 12 = 5
    · have e1 : decide (x % 12 = 5) = true := decide_eq_true h1
      have f1 : binD .fdiv (.int x) (.int 12) = .ok (.int (x / 12)) := bb_fdiv (by decide) (by decide)
      have f2 : binD .mod (.int (x / 12)) (.int 2) = .ok (.int (x / 12 % 2)) := bb_mod (by decide)
      obtain ⟨k, hk⟩ : ∃ k : Nat, 4 + x / 12 % 2 = k := ⟨(4 + x / 12 % 2).toNat, by omega⟩
      have hsl := slc_to [a, c, b, a, d] k (by show k ≤ 5; omega) k rfl
      refine ⟨.group ([a, c, b, a, d].take k), sub _ (fun s hs => ?_) ?_, fun n => ?_⟩
      · have := List.mem_of_mem_take hs
        simp only [List.mem_cons, List.not_mem_nil, or_false] at this
        rcases this with rfl | rfl | rfl | rfl | rfl <;> simp
      · rw [List.length_take]
        show min k 5 ≤ 20
        omega
      · simp only [List.map] at hsl
        simp -implicitDefEqProofs only [Q.xs, Q.xs1, ev, evs, evI, evC, evJ, bind_ok, bind_exc, exR_ok, exR_exc, seq_nx, seq_rt, seq_xc, varR_0, varR_S, bb_add, bb_sub, bb_mul2, bb_and, cc_lt, cc_le, cc_gt, cc_ge, cc_eq, cc_ne, cc_eqb, cc_eqs, ll_len, ll_lent, ll_list, ll_listt, ll_max2, ll_min2, toD_fr, toD_ow, lstR_ok, neg_i, erR_0, erR_S, catch_nx, catch_rt, catch_xc, sfin_rt, sfin_nx, noEr_n, noEr_f, noEr_o, noEr_0, no_int, no_list, no_tuple, no_none, no_bool, no_str, isiD, List.set_cons_zero, List.set_cons_succ, decide_true, decide_false, Bool.not_true, Bool.not_false, if_true, if_false, Bool.false_eq_true, reduceIte, b_l_group, dr, hm12, e1, f1, f2, hk, ixl0, ixl1, ixl2, ixl3, isCN, intR, hsl, l5, l2]
        simp only [Shp.d, Shp.ds_map, List.map_take, List.map]
    · have e1 : decide (x % 12 = 5) = false := decide_eq_false h1
      have key : ∃ P : List Shp, (∀ s ∈ P, s = a ∨ s = b ∨ s = c ∨ s = d) ∧ P.length ≤ 20 ∧ ixR (.list [.list [], .list [a.d, a.d, a.d], .list [c.d, a.d, b.d], .list [b.d, b.d]]) (.int (x % 4)) = .ok (.list (P.map Shp.d)) := by
        have : x % 4 = 0 ∨ x % 4 = 1 ∨ x % 4 = 2 ∨ x % 4 = 3 := by omega
        rcases this with e | e | e | e <;> rw [e]
        · exact ⟨[], by simp, by decide, rfl⟩
        · exact ⟨[a, a, a], by simp, by show 3 ≤ 20; omega, rfl⟩
        · exact ⟨[c, a, b], by simp, by show 3 ≤ 20; omega, rfl⟩
        · exact ⟨[b, b], by simp, by show 2 ≤ 20; omega, rfl⟩
      obtain ⟨P, hP, hl, e2⟩ := key
      refine ⟨.group P, sub P hP hl, fun n => ?_⟩
      simp -implicitDefEqProofs only [Q.xs, Q.xs1, ev, evs, evI, evC, evJ, bind_ok, bind_exc, exR_ok, exR_exc, seq_nx, seq_rt, seq_xc, varR_0, varR_S, bb_add, bb_sub, bb_mul2, bb_and, cc_lt, cc_le, cc_gt, cc_ge, cc_eq, cc_ne, cc_eqb, cc_eqs, ll_len, ll_lent, ll_list, ll_listt, ll_max2, ll_min2, toD_fr, toD_ow, lstR_ok, neg_i, erR_0, erR_S, catch_nx, catch_rt, catch_xc, sfin_rt, sfin_nx, noEr_n, noEr_f, noEr_o, noEr_0, no_int, no_list, no_tuple, no_none, no_bool, no_str, isiD, List.set_cons_zero, List.set_cons_succ, decide_true, decide_false, Bool.not_true, Bool.not_false, if_true, if_false, Bool.false_eq_true, reduceIte, b_l_group, dr, hm12, hm, e1, e2, ixl0, ixl1, ixl2, ixl3, mul1_3, l0, l1, l2, l3, l4]
      simp only [Shp.d, Shp.ds_map]
  obtain ⟨s, hs, hr⟩ := rest
  -- where the first test is false
  have no : ∀ n, xs SS m.sub (m.Phi n) m.L (tk 1 (b_l_group I)) [(some (Sl.fr (.list [a.d, b.d, c.d, d.d]))), (some (Sl.fr (.int x)))] = .nx [(some (Sl.fr (.list [a.d, b.d, c.d, d.d]))), (some (Sl.fr (.int x)))] → xs SS m.sub (m.Phi n) m.L (b_l_group I) [(some (Sl.fr (.list [a.d, b.d, c.d, d.d]))), (some (Sl.fr (.int x)))] = .rt (.fr s.d) := fun n hx => by
    rw [xs_step 1 hx]
    exact hr n
  by_cases h1 : x % 4 = 3
  · have e1 : decide (x % 4 = 3) = true := decide_eq_true h1
    cases va with
    | false =>
      refine ⟨s, hs, ans h (env := [(some (Sl.fr (.list [a.d, b.d, c.d, d.d]))), (some (Sl.fr (.int x)))]) rfl rfl fun n hn => no n ?_⟩
      simp -implicitDefEqProofs only [Q.xs, Q.xs1, ev, evs, evI, evC, evJ, bind_ok, bind_exc, exR_ok, exR_exc, seq_nx, seq_rt, seq_xc, varR_0, varR_S, bb_add, bb_sub, bb_mul2, bb_and, cc_lt, cc_le, cc_gt, cc_ge, cc_eq, cc_ne, cc_eqb, cc_eqs, ll_len, ll_lent, ll_list, ll_listt, ll_max2, ll_min2, toD_fr, toD_ow, lstR_ok, neg_i, erR_0, erR_S, catch_nx, catch_rt, catch_xc, sfin_rt, sfin_nx, noEr_n, noEr_f, noEr_o, noEr_0, no_int, no_list, no_tuple, no_none, no_bool, no_str, isiD, List.set_cons_zero, List.set_cons_succ, decide_true, decide_false, Bool.not_true, Bool.not_false, if_true, if_false, Bool.false_eq_true, reduceIte, b_l_group, tk, hm, e1, ixl0, ixl1, ea, eb, iva, l2]
    | true =>
      cases vb with
      | false =>
        refine ⟨s, hs, ans h (env := [(some (Sl.fr (.list [a.d, b.d, c.d, d.d]))), (some (Sl.fr (.int x)))]) rfl rfl fun n hn => no n ?_⟩
        simp -implicitDefEqProofs only [Q.xs, Q.xs1, ev, evs, evI, evC, evJ, bind_ok, bind_exc, exR_ok, exR_exc, seq_nx, seq_rt, seq_xc, varR_0, varR_S, bb_add, bb_sub, bb_mul2, bb_and, cc_lt, cc_le, cc_gt, cc_ge, cc_eq, cc_ne, cc_eqb, cc_eqs, ll_len, ll_lent, ll_list, ll_listt, ll_max2, ll_min2, toD_fr, toD_ow, lstR_ok, neg_i, erR_0, erR_S, catch_nx, catch_rt, catch_xc, sfin_rt, sfin_nx, noEr_n, noEr_f, noEr_o, noEr_0, no_int, no_list, no_tuple, no_none, no_bool, no_str, isiD, List.set_cons_zero, List.set_cons_succ, decide_true, decide_false, Bool.not_true, Bool.not_false, if_true, if_false, Bool.false_eq_true, reduceIte, b_l_group, tk, hm, e1, ixl0, ixl1, ea, eb, iva, ivb, l2]
      | true =>
        have f1 : binD .fdiv (.int x) (.int 4) = .ok (.int (x / 4)) := bb_fdiv (by decide) (by decide)
        have f2 : binD .mod (.int (x / 4)) (.int 17) = .ok (.int (x / 4 % 17)) := bb_mod (by decide)
        obtain ⟨k, hk⟩ : ∃ k : Nat, 4 + x / 4 % 17 = k := ⟨(4 + x / 4 % 17).toNat, by omega⟩
        have hsl := slc_to [a, c, b, d, a, a, c, b, d, a, a, c, b, d, a, a, c, b, d, a] k (by show k ≤ 20; omega) k rfl
        refine ⟨.group ([a, c, b, d, a, a, c, b, d, a, a, c, b, d, a, a, c, b, d, a].take k), sub _ (fun s hs => ?_) ?_, ans h (env := [(some (Sl.fr (.list [a.d, b.d, c.d, d.d]))), (some (Sl.fr (.int x)))]) rfl rfl fun n hn => ?_⟩
        · have := List.mem_of_mem_take hs
          simp only [List.mem_cons, List.not_mem_nil, or_false] at this
          rcases this with rfl | rfl | rfl | rfl | rfl | rfl | rfl | rfl | rfl | rfl | rfl | rfl | rfl | rfl | rfl | rfl | rfl | rfl | rfl | rfl <;> simp
        · rw [List.length_take]
          show min k 20 ≤ 20
          omega
        · simp only [List.map] at hsl
          simp -implicitDefEqProofs only [Q.xs, Q.xs1, ev, evs, evI, evC, evJ, bind_ok, bind_exc, exR_ok, exR_exc, seq_nx, seq_rt, seq_xc, varR_0, varR_S, bb_add, bb_sub, bb_mul2, bb_and, cc_lt, cc_le, cc_gt, cc_ge, cc_eq, cc_ne, cc_eqb, cc_eqs, ll_len, ll_lent, ll_list, ll_listt, ll_max2, ll_min2, toD_fr, toD_ow, lstR_ok, neg_i, erR_0, erR_S, catch_nx, catch_rt, catch_xc, sfin_rt, sfin_nx, noEr_n, noEr_f, noEr_o, noEr_0, no_int, no_list, no_tuple, no_none, no_bool, no_str, isiD, List.set_cons_zero, List.set_cons_succ, decide_true, decide_false, Bool.not_true, Bool.not_false, if_true, if_false, Bool.false_eq_true, reduceIte, b_l_group, hm, e1, ixl0, ixl1, ixl2, ixl3, ea, eb, iva, ivb, l2, l5, mul5, f1, f2, hk, isCN, intR, hsl]
          simp only [Shp.d, Shp.ds_map, List.map_take, List.map]
  · have e1 : decide (x % 4 = 3) = false := decide_eq_false h1
    refine ⟨s, hs, ans h (env := [(some (Sl.fr (.list [a.d, b.d, c.d, d.d]))), (some (Sl.fr (.int x)))]) rfl rfl fun n hn => no n ?_⟩
    simp -implicitDefEqProofs only [Q.xs, Q.xs1, ev, evs, evI, evC, evJ, bind_ok, bind_exc, exR_ok, exR_exc, seq_nx, seq_rt, seq_xc, varR_0, varR_S, bb_add, bb_sub, bb_mul2, bb_and, cc_lt, cc_le, cc_gt, cc_ge, cc_eq, cc_ne, cc_eqb, cc_eqs, ll_len, ll_lent, ll_list, ll_listt, ll_max2, ll_min2, toD_fr, toD_ow, lstR_ok, neg_i, erR_0, erR_S, catch_nx, catch_rt, catch_xc, sfin_rt, sfin_nx, noEr_n, noEr_f, noEr_o, noEr_0, no_int, no_list, no_tuple, no_none, no_bool, no_str, isiD, List.set_cons_zero, List.set_cons_succ, decide_true, decide_false, Bool.not_true, Bool.not_false, if_true, if_false, Bool.false_eq_true, reduceIte, b_l_group, tk, hm, e1]
theorem two64 : (2 : Int) ^ 64 = 18446744073709551616 := by decide
theorem pow_le64 {w : Nat} (h : w ≤ 64) : 0 < (2 : Int) ^ w ∧ (2 : Int) ^ w ≤ 18446744073709551616 := by
  refine ⟨Int.pow_pos (by decide), ?_⟩
  have : (2 : Nat) ^ w ≤ 2 ^ 64 := Nat.pow_le_pow_right (by decide) h
  have : ((2 : Int)) ^ w ≤ 2 ^ 64 := by exact_mod_cast this
  rw [two64] at this
  exact this
theorem s_leaf (h : At_l_leaf m I) (hc : At_l_cell_at m I) (hr : At_l_room m I) (ns : List Int) (k : Nat) : ∃ s : Shp, s.leafy ∧ s.P 1 64 ∧ Ans m I.l_leaf [.list (ns.map .int), .int (k : Int)] 2 (.ok (.fr s.d)) := by
  obtain ⟨c1, hc1⟩ := cellE hc ns (2 * (k : Int)) (by omega)
  obtain ⟨y, hc2⟩ := cellE hc ns (2 * (k : Int) + 1) (by omega)
  have m2 : binD .mul (.int 2) (.int (k : Int)) = .ok (.int (2 * (k : Int))) := bb_mul (.inl ⟨by decide, by decide⟩)
  have f7 : binD .fdiv (.int c1) (.int 7) = .ok (.int (c1 / 7)) := bb_fdiv (by decide) (by decide)
  obtain ⟨x, hx⟩ : ∃ x, c1 / 7 = x := ⟨_, rfl⟩
  have f3 : binD .fdiv (.int x) (.int 3) = .ok (.int (x / 3)) := bb_fdiv (by decide) (by decide)
  have f9 : binD .mod (.int (x / 3)) (.int 9) = .ok (.int (x / 3 % 9)) := bb_mod (by decide)
  have y5 : binD .mod (.int y) (.int 5) = .ok (.int (y % 5)) := bb_mod (by decide)
  have y3 : binD .mod (.int y) (.int 3) = .ok (.int (y % 3)) := bb_mod (by decide)
  have x3 : binD .mod (.int x) (.int 3) = .ok (.int (x % 3)) := bb_mod (by decide)
  have y12 : binD .fdiv (.int y) (.int 12) = .ok (.int (y / 12)) := bb_fdiv (by decide) (by decide)
  have y33 : binD .fdiv (.int y) (.int 3) = .ok (.int (y / 3)) := bb_fdiv (by decide) (by decide)
  have y34 : binD .mod (.int (y / 3)) (.int 4) = .ok (.int (y / 3 % 4)) := bb_mod (by decide)
  have y41 : binD .mod (.int (y / 12)) (.int 41) = .ok (.int (y / 12 % 41)) := bb_mod (by decide)
  have y122 : binD .mod (.int (y / 12)) (.int 2) = .ok (.int (y / 12 % 2)) := bb_mod (by decide)
  have m7 : binD .mul (.int 7) (.int y) = .ok (.int (7 * y)) := bb_mul (.inl ⟨by decide, by decide⟩)
  have m65 : binD .mod (.int (x + 7 * y)) (.int 65) = .ok (.int ((x + 7 * y) % 65)) := bb_mod (by decide)
  have p20 : binD .pow (.int 10) (.int 20) = .ok (.int 100000000000000000000) := (bb_pow ⟨by decide, by decide, by decide⟩).trans rfl
  have m20 : binD .mul (.int 2) (.int 100000000000000000000) = .ok (.int 200000000000000000000) := (bb_mul (.inl ⟨by decide, by decide⟩)).trans rfl
  have s1 : ∃ w : Nat, w ≤ 64 ∧ ∀ n, 1 ≤ n → xs SS m.sub (m.Phi n) m.L (tk 4 (b_l_leaf I)) [(some (Sl.fr (.list (ns.map .int)))), (some (Sl.fr (.int (k : Int)))), none, none, none, none, none] = .nx [(some (Sl.fr (.list (ns.map .int)))), (some (Sl.fr (.int (k : Int)))), (some (Sl.fr (.int x))), (some (Sl.fr (.int y))), (some (Sl.fr (.int (w : Int)))), none, none] := by
    by_cases q : y % 5 = 4
    · have e := decide_eq_true q
      obtain ⟨w, hw⟩ : ∃ w : Nat, (x + 7 * y) % 65 = w := ⟨((x + 7 * y) % 65).toNat, by omega⟩
      refine ⟨w, by omega, fun n hn => ?_⟩
      simp -implicitDefEqProofs only [Q.xs, Q.xs1, ev, evs, evI, evC, evJ, bind_ok, bind_exc, exR_ok, exR_exc, seq_nx, seq_rt, seq_xc, varR_0, varR_S, bb_add, bb_sub, bb_mul2, bb_and, cc_lt, cc_le, cc_gt, cc_ge, cc_eq, cc_ne, cc_eqb, cc_eqs, ll_len, ll_lent, ll_list, ll_listt, ll_max2, ll_min2, toD_fr, toD_ow, lstR_ok, neg_i, erR_0, erR_S, catch_nx, catch_rt, catch_xc, sfin_rt, sfin_nx, noEr_n, noEr_f, noEr_o, noEr_0, no_int, no_list, no_tuple, no_none, no_bool, no_str, isiD, List.set_cons_zero, List.set_cons_succ, decide_true, decide_false, Bool.not_true, Bool.not_false, if_true, if_false, Bool.false_eq_true, reduceIte, b_l_leaf, tk, m2, hc1 n hn, hc2 n hn, f7, hx, f3, f9, y5, e, m7, m65, hw]
    · have e := decide_eq_false q
      obtain ⟨w, hw⟩ : ∃ w : Nat, x / 3 % 9 = w := ⟨(x / 3 % 9).toNat, by omega⟩
      refine ⟨w, by omega, fun n hn => ?_⟩
      simp -implicitDefEqProofs only [Q.xs, Q.xs1, ev, evs, evI, evC, evJ, bind_ok, bind_exc, exR_ok, exR_exc, seq_nx, seq_rt, seq_xc, varR_0, varR_S, bb_add, bb_sub, bb_mul2, bb_and, cc_lt, cc_le, cc_gt, cc_ge, cc_eq, cc_ne, cc_eqb, cc_eqs, ll_len, ll_lent, ll_list, ll_listt, ll_max2, ll_min2, toD_fr, toD_ow, lstR_ok, neg_i, erR_0, erR_S, catch_nx, catch_rt, catch_xc, sfin_rt, sfin_nx, noEr_n, noEr_f, noEr_o, noEr_0, no_int, no_list, no_tuple, no_none, no_bool, no_str, isiD, List.set_cons_zero, List.set_cons_succ, decide_true, decide_false, Bool.not_true, Bool.not_false, if_true, if_false, Bool.false_eq_true, reduceIte, b_l_leaf, tk, m2, hc1 n hn, hc2 n hn, f7, hx, f3, f9, y5, e, hw]
  obtain ⟨w, hw, s1⟩ := s1
  by_cases q : x % 3 = 2
  · have e := decide_eq_true q
    refine ⟨.pad w, hw, ⟨hw, by simp [Shp.dep], hw⟩, ans h (env := [(some (Sl.fr (.list (ns.map .int)))), (some (Sl.fr (.int (k : Int)))), none, none, none, none, none]) rfl rfl fun n hn => ?_⟩
    rw [xs_step 4 (s1 n hn)]
    simp -implicitDefEqProofs only [Q.xs, Q.xs1, ev, evs, evI, evC, evJ, bind_ok, bind_exc, exR_ok, exR_exc, seq_nx, seq_rt, seq_xc, varR_0, varR_S, bb_add, bb_sub, bb_mul2, bb_and, cc_lt, cc_le, cc_gt, cc_ge, cc_eq, cc_ne, cc_eqb, cc_eqs, ll_len, ll_lent, ll_list, ll_listt, ll_max2, ll_min2, toD_fr, toD_ow, lstR_ok, neg_i, erR_0, erR_S, catch_nx, catch_rt, catch_xc, sfin_rt, sfin_nx, noEr_n, noEr_f, noEr_o, noEr_0, no_int, no_list, no_tuple, no_none, no_bool, no_str, isiD, List.set_cons_zero, List.set_cons_succ, decide_true, decide_false, Bool.not_true, Bool.not_false, if_true, if_false, Bool.false_eq_true, reduceIte, b_l_leaf, dr, x3, e, l2]
    simp only [Shp.d]
  have e := decide_eq_false q
  have hrm := a_room hr w (by omega)
  obtain ⟨p0, p1⟩ := pow_le64 hw
  have s2 : ∃ sp : Int, 0 ≤ sp ∧ sp < 2 ^ w ∧ ∀ n, 1 ≤ n → xs SS m.sub (m.Phi n) m.L (tk 4 (dr 4 (b_l_leaf I))) [(some (Sl.fr (.list (ns.map .int)))), (some (Sl.fr (.int (k : Int)))), (some (Sl.fr (.int x))), (some (Sl.fr (.int y))), (some (Sl.fr (.int (w : Int)))), none, none] = .nx [(some (Sl.fr (.list (ns.map .int)))), (some (Sl.fr (.int (k : Int)))), (some (Sl.fr (.int x))), (some (Sl.fr (.int y))), (some (Sl.fr (.int (w : Int)))), (some (Sl.fr (.int sp))), none] := by
    by_cases q1 : y % 3 = 1
    · have e1 := decide_eq_true q1
      have e2 : decide (y % 3 = 2) = false := decide_eq_false (by omega)
      have g1 : binD .mod (.int (y / 12)) (.int ((2 : Int) ^ w - 1 + 1)) = .ok (.int (y / 12 % (2 ^ w))) := by
        rw [show (2 : Int) ^ w - 1 + 1 = 2 ^ w by omega]
        exact bb_mod p0
      refine ⟨y / 12 % 2 ^ w, Int.emod_nonneg _ (by omega), Int.emod_lt_of_pos _ p0, fun n hn => ?_⟩
      simp -implicitDefEqProofs only [Q.xs, Q.xs1, ev, evs, evI, evC, evJ, bind_ok, bind_exc, exR_ok, exR_exc, seq_nx, seq_rt, seq_xc, varR_0, varR_S, bb_add, bb_sub, bb_mul2, bb_and, cc_lt, cc_le, cc_gt, cc_ge, cc_eq, cc_ne, cc_eqb, cc_eqs, ll_len, ll_lent, ll_list, ll_listt, ll_max2, ll_min2, toD_fr, toD_ow, lstR_ok, neg_i, erR_0, erR_S, catch_nx, catch_rt, catch_xc, sfin_rt, sfin_nx, noEr_n, noEr_f, noEr_o, noEr_0, no_int, no_list, no_tuple, no_none, no_bool, no_str, isiD, List.set_cons_zero, List.set_cons_succ, decide_true, decide_false, Bool.not_true, Bool.not_false, if_true, if_false, Bool.false_eq_true, reduceIte, b_l_leaf, tk, dr, x3, e, hrm n hn, y3, e1, e2, y12, g1]
    · have e1 := decide_eq_false q1
      by_cases q2 : y % 3 = 2
      · have e2 := decide_eq_true q2
        have g1 : binD .fdiv (.int ((2 : Int) ^ w - 1)) (.int 2) = .ok (.int (((2 : Int) ^ w - 1) / 2)) := bb_fdiv (by decide) (by decide)
        refine ⟨((2 : Int) ^ w - 1) / 2 + (if ((2 : Int) ^ w - 1) / 2 < 1 then ((2 : Int) ^ w - 1) / 2 else 1), ?_, ?_, fun n hn => ?_⟩
        · split <;> omega
        · split <;> omega
        · simp -implicitDefEqProofs only [Q.xs, Q.xs1, ev, evs, evI, evC, evJ, bind_ok, bind_exc, exR_ok, exR_exc, seq_nx, seq_rt, seq_xc, varR_0, varR_S, bb_add, bb_sub, bb_mul2, bb_and, cc_lt, cc_le, cc_gt, cc_ge, cc_eq, cc_ne, cc_eqb, cc_eqs, ll_len, ll_lent, ll_list, ll_listt, ll_max2, ll_min2, toD_fr, toD_ow, lstR_ok, neg_i, erR_0, erR_S, catch_nx, catch_rt, catch_xc, sfin_rt, sfin_nx, noEr_n, noEr_f, noEr_o, noEr_0, no_int, no_list, no_tuple, no_none, no_bool, no_str, isiD, List.set_cons_zero, List.set_cons_succ, decide_true, decide_false, Bool.not_true, Bool.not_false, if_true, if_false, Bool.false_eq_true, reduceIte, b_l_leaf, tk, dr, x3, e, hrm n hn, y3, e1, e2, y12, g1]
      · have e2 := decide_eq_false q2
        refine ⟨2 ^ w - 1, by omega, by omega, fun n hn => ?_⟩
        simp -implicitDefEqProofs only [Q.xs, Q.xs1, ev, evs, evI, evC, evJ, bind_ok, bind_exc, exR_ok, exR_exc, seq_nx, seq_rt, seq_xc, varR_0, varR_S, bb_add, bb_sub, bb_mul2, bb_and, cc_lt, cc_le, cc_gt, cc_ge, cc_eq, cc_ne, cc_eqb, cc_eqs, ll_len, ll_lent, ll_list, ll_listt, ll_max2, ll_min2, toD_fr, toD_ow, lstR_ok, neg_i, erR_0, erR_S, catch_nx, catch_rt, catch_xc, sfin_rt, sfin_nx, noEr_n, noEr_f, noEr_o, noEr_0, no_int, no_list, no_tuple, no_none, no_bool, no_str, isiD, List.set_cons_zero, List.set_cons_succ, decide_true, decide_false, Bool.not_true, Bool.not_false, if_true, if_false, Bool.false_eq_true, reduceIte, b_l_leaf, tk, dr, x3, e, hrm n hn, y3, e1, e2]
  obtain ⟨sp, h0, hsp, s2⟩ := s2
  have s3 : ∃ lo : Int, -100000000000000000000 ≤ lo ∧ lo + sp ≤ 100000000000000000000 ∧ ∀ n, 1 ≤ n → xs SS m.sub (m.Phi n) m.L (tk 3 (dr 4 (dr 4 (b_l_leaf I)))) [(some (Sl.fr (.list (ns.map .int)))), (some (Sl.fr (.int (k : Int)))), (some (Sl.fr (.int x))), (some (Sl.fr (.int y))), (some (Sl.fr (.int (w : Int)))), (some (Sl.fr (.int sp))), none] = .nx [(some (Sl.fr (.list (ns.map .int)))), (some (Sl.fr (.int (k : Int)))), (some (Sl.fr (.int x))), (some (Sl.fr (.int y))), (some (Sl.fr (.int (w : Int)))), (some (Sl.fr (.int sp))), (some (Sl.fr (.int lo)))] := by
    by_cases q1 : y / 3 % 4 = 1
    · have e1 := decide_eq_true q1
      have e2 : decide (y / 3 % 4 = 2) = false := decide_eq_false (by omega)
      have g1 : binD .mod (.int (y / 12)) (.int ((200000000000000000000 : Int) - sp + 1)) = .ok (.int (y / 12 % ((200000000000000000000 : Int) - sp + 1))) := bb_mod (by omega)
      have g2 := Int.emod_nonneg (y / 12) (show (200000000000000000000 : Int) - sp + 1 ≠ 0 by omega)
      have g3 := Int.emod_lt_of_pos (y / 12) (show (0 : Int) < (200000000000000000000 : Int) - sp + 1 by omega)
      refine ⟨y / 12 % ((200000000000000000000 : Int) - sp + 1) - 100000000000000000000, by omega, by omega, fun n hn => ?_⟩
      simp -implicitDefEqProofs only [Q.xs, Q.xs1, ev, evs, evI, evC, evJ, bind_ok, bind_exc, exR_ok, exR_exc, seq_nx, seq_rt, seq_xc, varR_0, varR_S, bb_add, bb_sub, bb_mul2, bb_and, cc_lt, cc_le, cc_gt, cc_ge, cc_eq, cc_ne, cc_eqb, cc_eqs, ll_len, ll_lent, ll_list, ll_listt, ll_max2, ll_min2, toD_fr, toD_ow, lstR_ok, neg_i, erR_0, erR_S, catch_nx, catch_rt, catch_xc, sfin_rt, sfin_nx, noEr_n, noEr_f, noEr_o, noEr_0, no_int, no_list, no_tuple, no_none, no_bool, no_str, isiD, List.set_cons_zero, List.set_cons_succ, decide_true, decide_false, Bool.not_true, Bool.not_false, if_true, if_false, Bool.false_eq_true, reduceIte, b_l_leaf, tk, dr, y12, y41, y33, y34, e1, e2, p20, m20, g1]
    · have e1 := decide_eq_false q1
      by_cases q2 : y / 3 % 4 = 2
      · have e2 := decide_eq_true q2
        have g1 : ∃ lo : Int, -100000000000000000000 ≤ lo ∧ lo + sp ≤ 100000000000000000000 ∧ ixR (.list [.int (-100000000000000000000), .int (100000000000000000000 - sp)]) (.int (y / 12 % 2)) = .ok (.int lo) := by
          have : y / 12 % 2 = 0 ∨ y / 12 % 2 = 1 := by omega
          rcases this with e | e <;> rw [e]
          · exact ⟨_, by omega, by omega, rfl⟩
          · exact ⟨_, by omega, by omega, rfl⟩
        obtain ⟨lo, g2, g3, g4⟩ := g1
        refine ⟨lo, g2, g3, fun n hn => ?_⟩
        simp -implicitDefEqProofs only [Q.xs, Q.xs1, ev, evs, evI, evC, evJ, bind_ok, bind_exc, exR_ok, exR_exc, seq_nx, seq_rt, seq_xc, varR_0, varR_S, bb_add, bb_sub, bb_mul2, bb_and, cc_lt, cc_le, cc_gt, cc_ge, cc_eq, cc_ne, cc_eqb, cc_eqs, ll_len, ll_lent, ll_list, ll_listt, ll_max2, ll_min2, toD_fr, toD_ow, lstR_ok, neg_i, erR_0, erR_S, catch_nx, catch_rt, catch_xc, sfin_rt, sfin_nx, noEr_n, noEr_f, noEr_o, noEr_0, no_int, no_list, no_tuple, no_none, no_bool, no_str, isiD, List.set_cons_zero, List.set_cons_succ, decide_true, decide_false, Bool.not_true, Bool.not_false, if_true, if_false, Bool.false_eq_true, reduceIte, b_l_leaf, tk, dr, y12, y41, y122, y33, y34, e1, e2, p20, m20, l2, g4]
      · have e2 := decide_eq_false q2
        refine ⟨y / 12 % 41 - 20, by omega, by omega, fun n hn => ?_⟩
        simp -implicitDefEqProofs only [Q.xs, Q.xs1, ev, evs, evI, evC, evJ, bind_ok, bind_exc, exR_ok, exR_exc, seq_nx, seq_rt, seq_xc, varR_0, varR_S, bb_add, bb_sub, bb_mul2, bb_and, cc_lt, cc_le, cc_gt, cc_ge, cc_eq, cc_ne, cc_eqb, cc_eqs, ll_len, ll_lent, ll_list, ll_listt, ll_max2, ll_min2, toD_fr, toD_ow, lstR_ok, neg_i, erR_0, erR_S, catch_nx, catch_rt, catch_xc, sfin_rt, sfin_nx, noEr_n, noEr_f, noEr_o, noEr_0, no_int, no_list, no_tuple, no_none, no_bool, no_str, isiD, List.set_cons_zero, List.set_cons_succ, decide_true, decide_false, Bool.not_true, Bool.not_false, if_true, if_false, Bool.false_eq_true, reduceIte, b_l_leaf, tk, dr, y12, y41, y33, y34, e1, e2]
  obtain ⟨lo, g2, g3, s3⟩ := s3
  have ok : (Shp.num w lo (lo + sp)).leafy := ⟨hw, by omega, by omega, by omega, by omega⟩
  refine ⟨.num w lo (lo + sp), ok, ⟨ok, by simp [Shp.dep], hw⟩, ans h (env := [(some (Sl.fr (.list (ns.map .int)))), (some (Sl.fr (.int (k : Int)))), none, none, none, none, none]) rfl rfl fun n hn => ?_⟩
  rw [xs_step 4 (s1 n hn), xs_step 4 (s2 n hn), xs_step 3 (s3 n hn)]
  simp -implicitDefEqProofs only [Q.xs, Q.xs1, ev, evs, evI, evC, evJ, bind_ok, bind_exc, exR_ok, exR_exc, seq_nx, seq_rt, seq_xc, varR_0, varR_S, bb_add, bb_sub, bb_mul2, bb_and, cc_lt, cc_le, cc_gt, cc_ge, cc_eq, cc_ne, cc_eqb, cc_eqs, ll_len, ll_lent, ll_list, ll_listt, ll_max2, ll_min2, toD_fr, toD_ow, lstR_ok, neg_i, erR_0, erR_S, catch_nx, catch_rt, catch_xc, sfin_rt, sfin_nx, noEr_n, noEr_f, noEr_o, noEr_0, no_int, no_list, no_tuple, no_none, no_bool, no_str, isiD, List.set_cons_zero, List.set_cons_succ, decide_true, decide_false, Bool.not_true, Bool.not_false, if_true, if_false, Bool.false_eq_true, reduceIte, b_l_leaf, dr, l4]
  simp only [Shp.d]
/-- the shape of a place; l levels of others stand below it -/
theorem s_shape (h : At_l_shape m I) (hl : At_l_leaf m I) (hc : At_l_cell_at m I) (hr : At_l_room m I) (ho : At_l_one m I) (hg : At_l_group m I) (ns : List Int) : ∀ (l k : Nat), 8 ≤ (k + 1) * 2 ^ l → l ≤ 3 → ∃ s : Shp, s.P (l + 1) (64 * 20 ^ l) ∧ Ans m I.l_shape [.list (ns.map .int), .int (k : Int)] (l + 3) (.ok (.fr s.d)) := by
  intro l
  induction l with
  | zero =>
    intro k hk _
    obtain ⟨c1, hc1⟩ := cellE hc ns (2 * (k : Int)) (by omega)
    obtain ⟨s, _, hs, hlf⟩ := s_leaf hl hc hr ns k
    have m2 : binD .mul (.int 2) (.int (k : Int)) = .ok (.int (2 * (k : Int))) := bb_mul (.inl ⟨by decide, by decide⟩)
    have f7 : binD .fdiv (.int c1) (.int 7) = .ok (.int (c1 / 7)) := bb_fdiv (by decide) (by decide)
    have e : decide ((6 : Int) < (k : Int)) = true := decide_eq_true (by omega)
    refine ⟨s, hs, ans h (env := [(some (Sl.fr (.list (ns.map .int)))), (some (Sl.fr (.int (k : Int)))), none, none, none, none, none]) rfl rfl fun n hn => ?_⟩
    simp -implicitDefEqProofs only [Q.xs, Q.xs1, ev, evs, evI, evC, evJ, bind_ok, bind_exc, exR_ok, exR_exc, seq_nx, seq_rt, seq_xc, varR_0, varR_S, bb_add, bb_sub, bb_mul2, bb_and, cc_lt, cc_le, cc_gt, cc_ge, cc_eq, cc_ne, cc_eqb, cc_eqs, ll_len, ll_lent, ll_list, ll_listt, ll_max2, ll_min2, toD_fr, toD_ow, lstR_ok, neg_i, erR_0, erR_S, catch_nx, catch_rt, catch_xc, sfin_rt, sfin_nx, noEr_n, noEr_f, noEr_o, noEr_0, no_int, no_list, no_tuple, no_none, no_bool, no_str, isiD, List.set_cons_zero, List.set_cons_succ, decide_true, decide_false, Bool.not_true, Bool.not_false, if_true, if_false, Bool.false_eq_true, reduceIte, b_l_shape, m2, hc1 n (by omega), f7, e, hlf n (by omega)]
  | succ l ih =>
    intro k hk hl3
    obtain ⟨c1, hc1⟩ := cellE hc ns (2 * (k : Int)) (by omega)
    obtain ⟨s, _, hs, hlf⟩ := s_leaf hl hc hr ns k
    have m2 : binD .mul (.int 2) (.int (k : Int)) = .ok (.int (2 * (k : Int))) := bb_mul (.inl ⟨by decide, by decide⟩)
    have f7 : binD .fdiv (.int c1) (.int 7) = .ok (.int (c1 / 7)) := bb_fdiv (by decide) (by decide)
    have m7 : binD .mod (.int c1) (.int 7) = .ok (.int (c1 % 7)) := bb_mod (by decide)
    have hB : 64 ≤ 64 * 20 ^ l := Nat.le_mul_of_pos_right 64 (Nat.pow_pos (by decide))
    have hB2 : 64 * 20 ^ (l + 1) = 20 * (64 * 20 ^ l) := by rw [Nat.pow_succ]; omega
    have up : ∀ {s : Shp}, s.P 1 64 → s.P (l + 1) (64 * 20 ^ l) := fun ⟨a, b, c⟩ => ⟨a, by omega, by omega⟩
    have fin : ∀ {s : Shp} {D B : Nat}, s.P D B → D ≤ l + 2 → B ≤ 20 * (64 * 20 ^ l) → s.P (l + 1 + 1) (64 * 20 ^ (l + 1)) := fun ⟨a, b, c⟩ hD hB => ⟨a, by omega, by omega⟩
    obtain ⟨a, ha, pa⟩ := ih (2 * k + 1) (by rw [Nat.pow_succ] at hk; rw [show (2 * k + 1 + 1) = (k + 1) * 2 by omega, Nat.mul_assoc, Nat.mul_comm 2]; omega) (by omega)
    obtain ⟨b, hb, pb⟩ := ih (2 * k + 2) (by
      rw [Nat.pow_succ] at hk
      have : (k + 1) * (2 ^ l * 2) ≤ (2 * k + 2 + 1) * 2 ^ l := by
        rw [Nat.mul_comm (2 ^ l) 2, ← Nat.mul_assoc]
        exact Nat.mul_le_mul_right _ (by omega)
      omega) (by omega)
    obtain ⟨c, _, hcc, pc⟩ := s_leaf hl hc hr ns (15 + k)
    obtain ⟨d, _, hd, pd⟩ := s_leaf hl hc hr ns (22 + k)
    obtain ⟨y, hy⟩ : ∃ y, c1 / 7 = y := ⟨_, rfl⟩
    obtain ⟨so, hso, po⟩ := s_one ho hB a b c d ha hb (up hcc) (up hd) y
    obtain ⟨sg, hsg, pg⟩ := s_group hg a b c d ha hb (up hcc) (up hd) y
    by_cases q0 : (6 : Int) < (k : Int)
    · have e := decide_eq_true q0
      refine ⟨s, fin hs (by omega) (by omega), ans h (env := [(some (Sl.fr (.list (ns.map .int)))), (some (Sl.fr (.int (k : Int)))), none, none, none, none, none]) rfl rfl fun n hn => ?_⟩
      simp -implicitDefEqProofs only [Q.xs, Q.xs1, ev, evs, evI, evC, evJ, bind_ok, bind_exc, exR_ok, exR_exc, seq_nx, seq_rt, seq_xc, varR_0, varR_S, bb_add, bb_sub, bb_mul2, bb_and, cc_lt, cc_le, cc_gt, cc_ge, cc_eq, cc_ne, cc_eqb, cc_eqs, ll_len, ll_lent, ll_list, ll_listt, ll_max2, ll_min2, toD_fr, toD_ow, lstR_ok, neg_i, erR_0, erR_S, catch_nx, catch_rt, catch_xc, sfin_rt, sfin_nx, noEr_n, noEr_f, noEr_o, noEr_0, no_int, no_list, no_tuple, no_none, no_bool, no_str, isiD, List.set_cons_zero, List.set_cons_succ, decide_true, decide_false, Bool.not_true, Bool.not_false, if_true, if_false, Bool.false_eq_true, reduceIte, b_l_shape, m2, hc1 n (by omega), f7, e, hlf n (by omega)]
    have e0 := decide_eq_false q0
    by_cases q1 : c1 % 7 < 2
    · have e := decide_eq_true q1
      refine ⟨s, fin hs (by omega) (by omega), ans h (env := [(some (Sl.fr (.list (ns.map .int)))), (some (Sl.fr (.int (k : Int)))), none, none, none, none, none]) rfl rfl fun n hn => ?_⟩
      simp -implicitDefEqProofs only [Q.xs, Q.xs1, ev, evs, evI, evC, evJ, bind_ok, bind_exc, exR_ok, exR_exc, seq_nx, seq_rt, seq_xc, varR_0, varR_S, bb_add, bb_sub, bb_mul2, bb_and, cc_lt, cc_le, cc_gt, cc_ge, cc_eq, cc_ne, cc_eqb, cc_eqs, ll_len, ll_lent, ll_list, ll_listt, ll_max2, ll_min2, toD_fr, toD_ow, lstR_ok, neg_i, erR_0, erR_S, catch_nx, catch_rt, catch_xc, sfin_rt, sfin_nx, noEr_n, noEr_f, noEr_o, noEr_0, no_int, no_list, no_tuple, no_none, no_bool, no_str, isiD, List.set_cons_zero, List.set_cons_succ, decide_true, decide_false, Bool.not_true, Bool.not_false, if_true, if_false, Bool.false_eq_true, reduceIte, b_l_shape, m2, hc1 n (by omega), f7, m7, e0, e, hlf n (by omega)]
    have e1 := decide_eq_false q1
    have st : ∀ n, l + 3 ≤ n → xs SS m.sub (m.Phi n) m.L (tk 5 (b_l_shape I)) [(some (Sl.fr (.list (ns.map .int)))), (some (Sl.fr (.int (k : Int)))), none, none, none, none, none] = .nx [(some (Sl.fr (.list (ns.map .int)))), (some (Sl.fr (.int (k : Int)))), (some (Sl.fr (.int c1))), (some (Sl.fr (.int y))), (some (Sl.fr (a.d))), (some (Sl.fr (b.d))), none] := fun n hn => by
      have pa := pa n (by omega)
      have pb := pb n (by omega)
      rw [show ((2 * k + 1 : Nat) : Int) = 2 * (k : Int) + 1 by omega] at pa
      rw [show ((2 * k + 2 : Nat) : Int) = 2 * (k : Int) + 2 by omega] at pb
      simp -implicitDefEqProofs only [Q.xs, Q.xs1, ev, evs, evI, evC, evJ, bind_ok, bind_exc, exR_ok, exR_exc, seq_nx, seq_rt, seq_xc, varR_0, varR_S, bb_add, bb_sub, bb_mul2, bb_and, cc_lt, cc_le, cc_gt, cc_ge, cc_eq, cc_ne, cc_eqb, cc_eqs, ll_len, ll_lent, ll_list, ll_listt, ll_max2, ll_min2, toD_fr, toD_ow, lstR_ok, neg_i, erR_0, erR_S, catch_nx, catch_rt, catch_xc, sfin_rt, sfin_nx, noEr_n, noEr_f, noEr_o, noEr_0, no_int, no_list, no_tuple, no_none, no_bool, no_str, isiD, List.set_cons_zero, List.set_cons_succ, decide_true, decide_false, Bool.not_true, Bool.not_false, if_true, if_false, Bool.false_eq_true, reduceIte, b_l_shape, tk, m2, hc1 n (by omega), f7, m7, e0, e1, hy, pa, pb]
    by_cases q2 : c1 % 7 = 2
    · have e := decide_eq_true q2
      refine ⟨.maybe a, fin (D := l + 2) (B := 64 * 20 ^ l + 1) ⟨ha.1, by unfold Shp.dep; have := ha.2.1; omega, by unfold Shp.wb; have := ha.2.2; omega⟩ (by omega) (by omega), ans h (env := [(some (Sl.fr (.list (ns.map .int)))), (some (Sl.fr (.int (k : Int)))), none, none, none, none, none]) rfl rfl fun n hn => ?_⟩
      rw [xs_step 5 (st n (by omega))]
      simp -implicitDefEqProofs only [Q.xs, Q.xs1, ev, evs, evI, evC, evJ, bind_ok, bind_exc, exR_ok, exR_exc, seq_nx, seq_rt, seq_xc, varR_0, varR_S, bb_add, bb_sub, bb_mul2, bb_and, cc_lt, cc_le, cc_gt, cc_ge, cc_eq, cc_ne, cc_eqb, cc_eqs, ll_len, ll_lent, ll_list, ll_listt, ll_max2, ll_min2, toD_fr, toD_ow, lstR_ok, neg_i, erR_0, erR_S, catch_nx, catch_rt, catch_xc, sfin_rt, sfin_nx, noEr_n, noEr_f, noEr_o, noEr_0, no_int, no_list, no_tuple, no_none, no_bool, no_str, isiD, List.set_cons_zero, List.set_cons_succ, decide_true, decide_false, Bool.not_true, Bool.not_false, if_true, if_false, Bool.false_eq_true, reduceIte, b_l_shape, dr, m7, e, l2]
      simp only [Shp.d]
    have e2 := decide_eq_false q2
    by_cases q3 : c1 % 7 = 3
    · have e := decide_eq_true q3
      have m11 : binD .mod (.int y) (.int 11) = .ok (.int (y % 11)) := bb_mod (by decide)
      have key : ∃ w : Nat, w ≤ 8 ∧ ixR (.list [.int 1, .int 2, .int 3, .int 4, .int 5, .int 6, .int 7, .int 8, .int 0, .int 2, .int 3]) (.int (y % 11)) = .ok (.int (w : Int)) := by
        obtain ⟨x, hx, e⟩ := ix_any (xs := [.int 1, .int 2, .int 3, .int 4, .int 5, .int 6, .int 7, .int 8, .int 0, .int 2, .int 3]) (n := 11) (y % 11) (by omega) rfl (by omega)
        simp only [List.mem_cons, List.not_mem_nil, or_false] at hx
        rcases hx with rfl | rfl | rfl | rfl | rfl | rfl | rfl | rfl | rfl | rfl | rfl
        · exact ⟨1, by decide, e⟩
        · exact ⟨2, by decide, e⟩
        · exact ⟨3, by decide, e⟩
        · exact ⟨4, by decide, e⟩
        · exact ⟨5, by decide, e⟩
        · exact ⟨6, by decide, e⟩
        · exact ⟨7, by decide, e⟩
        · exact ⟨8, by decide, e⟩
        · exact ⟨0, by decide, e⟩
        · exact ⟨2, by decide, e⟩
        · exact ⟨3, by decide, e⟩
      obtain ⟨w, hw, ew⟩ := key
      refine ⟨.rows w a, fin (D := l + 2) (B := 8 + max (2 * (64 * 20 ^ l)) 520) ⟨⟨hw, by have := ha.2.1; omega, ha.1⟩, by unfold Shp.dep; have := ha.2.1; omega, by unfold Shp.wb; have := ha.2.2; omega⟩ (by omega) (by omega), ans h (env := [(some (Sl.fr (.list (ns.map .int)))), (some (Sl.fr (.int (k : Int)))), none, none, none, none, none]) rfl rfl fun n hn => ?_⟩
      rw [xs_step 5 (st n (by omega))]
      simp -implicitDefEqProofs only [Q.xs, Q.xs1, ev, evs, evI, evC, evJ, bind_ok, bind_exc, exR_ok, exR_exc, seq_nx, seq_rt, seq_xc, varR_0, varR_S, bb_add, bb_sub, bb_mul2, bb_and, cc_lt, cc_le, cc_gt, cc_ge, cc_eq, cc_ne, cc_eqb, cc_eqs, ll_len, ll_lent, ll_list, ll_listt, ll_max2, ll_min2, toD_fr, toD_ow, lstR_ok, neg_i, erR_0, erR_S, catch_nx, catch_rt, catch_xc, sfin_rt, sfin_nx, noEr_n, noEr_f, noEr_o, noEr_0, no_int, no_list, no_tuple, no_none, no_bool, no_str, isiD, List.set_cons_zero, List.set_cons_succ, decide_true, decide_false, Bool.not_true, Bool.not_false, if_true, if_false, Bool.false_eq_true, reduceIte, b_l_shape, dr, m7, e2, e, m11, ew, l3, l11]
      simp only [Shp.d]
    have e3 := decide_eq_false q3
    by_cases q4 : c1 % 7 = 4
    · have e := decide_eq_true q4
      refine ⟨.group [a, b], fin (Shp.P.group (D := l + 1) (B := 64 * 20 ^ l) (fun s hs => by
          simp only [List.mem_cons, List.not_mem_nil, or_false] at hs
          rcases hs with rfl | rfl <;> assumption) (by show 2 ≤ 20; omega)) (by omega) (by omega), ans h (env := [(some (Sl.fr (.list (ns.map .int)))), (some (Sl.fr (.int (k : Int)))), none, none, none, none, none]) rfl rfl fun n hn => ?_⟩
      rw [xs_step 5 (st n (by omega))]
      simp -implicitDefEqProofs only [Q.xs, Q.xs1, ev, evs, evI, evC, evJ, bind_ok, bind_exc, exR_ok, exR_exc, seq_nx, seq_rt, seq_xc, varR_0, varR_S, bb_add, bb_sub, bb_mul2, bb_and, cc_lt, cc_le, cc_gt, cc_ge, cc_eq, cc_ne, cc_eqb, cc_eqs, ll_len, ll_lent, ll_list, ll_listt, ll_max2, ll_min2, toD_fr, toD_ow, lstR_ok, neg_i, erR_0, erR_S, catch_nx, catch_rt, catch_xc, sfin_rt, sfin_nx, noEr_n, noEr_f, noEr_o, noEr_0, no_int, no_list, no_tuple, no_none, no_bool, no_str, isiD, List.set_cons_zero, List.set_cons_succ, decide_true, decide_false, Bool.not_true, Bool.not_false, if_true, if_false, Bool.false_eq_true, reduceIte, b_l_shape, dr, m7, e2, e3, e, l2]
      simp only [Shp.d, Shp.ds]
    have e4 := decide_eq_false q4
    have pcn : ∀ n, l + 3 ≤ n → m.Phi n I.l_leaf [.list (ns.map .int), .int (15 + (k : Int))] = .ok (.fr c.d) := fun n hn => by
      rw [show (15 + (k : Int)) = ((15 + k : Nat) : Int) by omega]
      exact pc n (by omega)
    have pdn : ∀ n, l + 3 ≤ n → m.Phi n I.l_leaf [.list (ns.map .int), .int (22 + (k : Int))] = .ok (.fr d.d) := fun n hn => by
      rw [show (22 + (k : Int)) = ((22 + k : Nat) : Int) by omega]
      exact pd n (by omega)
    by_cases q5 : c1 % 7 = 5
    · have e := decide_eq_true q5
      refine ⟨so, fin hso (by omega) (by omega), ans h (env := [(some (Sl.fr (.list (ns.map .int)))), (some (Sl.fr (.int (k : Int)))), none, none, none, none, none]) rfl rfl fun n hn => ?_⟩
      rw [xs_step 5 (st n (by omega))]
      simp -implicitDefEqProofs only [Q.xs, Q.xs1, ev, evs, evI, evC, evJ, bind_ok, bind_exc, exR_ok, exR_exc, seq_nx, seq_rt, seq_xc, varR_0, varR_S, bb_add, bb_sub, bb_mul2, bb_and, cc_lt, cc_le, cc_gt, cc_ge, cc_eq, cc_ne, cc_eqb, cc_eqs, ll_len, ll_lent, ll_list, ll_listt, ll_max2, ll_min2, toD_fr, toD_ow, lstR_ok, neg_i, erR_0, erR_S, catch_nx, catch_rt, catch_xc, sfin_rt, sfin_nx, noEr_n, noEr_f, noEr_o, noEr_0, no_int, no_list, no_tuple, no_none, no_bool, no_str, isiD, List.set_cons_zero, List.set_cons_succ, decide_true, decide_false, Bool.not_true, Bool.not_false, if_true, if_false, Bool.false_eq_true, reduceIte, b_l_shape, dr, m7, e2, e3, e4, e, pcn n (by omega), pdn n (by omega), l4, po n (by omega)]
    · have e := decide_eq_false q5
      refine ⟨sg, fin hsg (by omega) (by omega), ans h (env := [(some (Sl.fr (.list (ns.map .int)))), (some (Sl.fr (.int (k : Int)))), none, none, none, none, none]) rfl rfl fun n hn => ?_⟩
      rw [xs_step 5 (st n (by omega))]
      simp -implicitDefEqProofs only [Q.xs, Q.xs1, ev, evs, evI, evC, evJ, bind_ok, bind_exc, exR_ok, exR_exc, seq_nx, seq_rt, seq_xc, varR_0, varR_S, bb_add, bb_sub, bb_mul2, bb_and, cc_lt, cc_le, cc_gt, cc_ge, cc_eq, cc_ne, cc_eqb, cc_eqs, ll_len, ll_lent, ll_list, ll_listt, ll_max2, ll_min2, toD_fr, toD_ow, lstR_ok, neg_i, erR_0, erR_S, catch_nx, catch_rt, catch_xc, sfin_rt, sfin_nx, noEr_n, noEr_f, noEr_o, noEr_0, no_int, no_list, no_tuple, no_none, no_bool, no_str, isiD, List.set_cons_zero, List.set_cons_succ, decide_true, decide_false, Bool.not_true, Bool.not_false, if_true, if_false, Bool.false_eq_true, reduceIte, b_l_shape, dr, m7, e2, e3, e4, e, pcn n (by omega), pdn n (by omega), l4, pg n (by omega)]
end
end Q

set_option Elab.async false
set_option linter.all false
set_option maxRecDepth 100000
set_option autoImplicit false
namespace Q
open PySem (PyData Str)
section
variable {m : Md} {I : Ix}
def deepL : Sts := (.cons (.set 2 (.ix (.lst (.cons (.tup (.cons (.cS "group") (.cons (.lst (.cons (.var 2) .nil)) .nil))) (.cons (.tup (.cons (.cS "maybe") (.cons (.var 2) .nil))) (.cons (.tup (.cons (.cS "one") (.cons (.cI 0) (.cons (.lst (.cons (.var 2) .nil)) .nil)))) .nil)))) (.bin .mod (.bin .fdiv (.bin .fdiv (.var 3) (.cI 5)) (.bin .add (.var 4) (.cI 1))) (.cI 3)))) .nil)
theorem floop_cons {f : PyData → Env → Fl} {d : PyData} {ds : List PyData} {env e : Env} (h : f d env = .nx e) : floop f (d :: ds) env = floop f ds e := by
  show (match f d env with
      | .nx e => floop f ds e
      | .ct e => floop f ds e
      | .bk e => .nx e
      | .rt s => .rt s
      | .xc k e => .xc k e
      | .bad => .bad) = _
  rw [h]
theorem floop_rt {f : PyData → Env → Fl} {d : PyData} {ds : List PyData} {env : Env} {s : Sl} (h : f d env = .rt s) : floop f (d :: ds) env = .rt s := by
  show (match f d env with
      | .nx e => floop f ds e
      | .ct e => floop f ds e
      | .bk e => .nx e
      | .rt s => .rt s
      | .xc k e => .xc k e
      | .bad => .bad) = _
  rw [h]
/-- what a shell more adds one to, at the most -/
def WrapM (μ : Shp → Nat) : Prop := (∀ t, μ (.group [t]) ≤ μ t + 1) ∧ (∀ t, μ (.maybe t) ≤ μ t + 1) ∧ ∀ t, μ (.one 0 [t]) ≤ μ t + 1
theorem deep_run (c : Int) (A B : Option Sl) : ∀ (q j : Nat) (s : Shp) (D W : Nat) (o : Option Sl), j + q ≤ 4 → s.P D W → ∃ s' : Shp, s'.P (D + q) (W + q) ∧ (∀ μ, WrapM μ → μ s' ≤ μ s + q) ∧ ∃ o', ∀ Φ, floop (fun d env => xs SS m.sub Φ m.L deepL (env.set 4 (some (Sl.fr (d))))) (rg j q) [A, B, (some (Sl.fr (s.d))), (some (Sl.fr (.int c))), o] = .nx [A, B, (some (Sl.fr (s'.d))), (some (Sl.fr (.int c))), o']
  | 0, j, s, D, W, o, hj, hs => ⟨s, hs, fun μ _ => Nat.le_refl _, o, fun Φ => rfl⟩
  | q + 1, j, s, D, W, o, hj, hs => by
    have f5 : binD .fdiv (.int c) (.int 5) = .ok (.int (c / 5)) := bb_fdiv (by decide) (by decide)
    have fj : binD .fdiv (.int (c / 5)) (.int ((j : Int) + 1)) = .ok (.int (c / 5 / ((j : Int) + 1))) := bb_fdiv (by omega) (by omega)
    have m3 : binD .mod (.int (c / 5 / ((j : Int) + 1))) (.int 3) = .ok (.int (c / 5 / ((j : Int) + 1) % 3)) := bb_mod (by decide)
    have key : ∃ t : Shp, t.P (D + 1) (W + 1) ∧ (∀ μ, WrapM μ → μ t ≤ μ s + 1) ∧ ixR (.list [.tuple [.str "group", .list [s.d]], .tuple [.str "maybe", s.d], .tuple [.str "one", .int 0, .list [s.d]]]) (.int (c / 5 / ((j : Int) + 1) % 3)) = .ok t.d := by
      obtain ⟨h1, h2, h3⟩ := hs
      have : c / 5 / ((j : Int) + 1) % 3 = 0 ∨ c / 5 / ((j : Int) + 1) % 3 = 1 ∨ c / 5 / ((j : Int) + 1) % 3 = 2 := by omega
      rcases this with e | e | e <;> rw [e]
      · exact ⟨.group [s], ⟨⟨by show 1 ≤ 20; omega, h1, trivial⟩, by simp only [Shp.dep, Shp.deps]; omega, by simp only [Shp.wb, Shp.wbs]; omega⟩, fun μ h => h.1 s, by simp only [Shp.d, Shp.ds]; rfl⟩
      · exact ⟨.maybe s, ⟨h1, by simp only [Shp.dep]; omega, by simp only [Shp.wb]; omega⟩, fun μ h => h.2.1 s, by simp only [Shp.d]; rfl⟩
      · exact ⟨.one 0 [s], ⟨⟨by omega, by show 1 ≤ 1; omega, by show 1 ≤ 16; omega, by show 1 ≤ 2 ^ 0; omega, h1, trivial⟩, by simp only [Shp.dep, Shp.deps]; omega, by simp only [Shp.wb, Shp.wbs]; omega⟩, fun μ h => h.2.2 s, by simp only [Shp.d, Shp.ds]; rfl⟩
    obtain ⟨t, ht, mt, et⟩ := key
    obtain ⟨s', hs', ms', o', hr⟩ := deep_run c A B q (j + 1) t (D + 1) (W + 1) (some (Sl.fr (.int (j : Int)))) (by omega) ht
    refine ⟨s', by rw [show D + (q + 1) = D + 1 + q by omega, show W + (q + 1) = W + 1 + q by omega]; exact hs', fun μ h => by have := ms' μ h; have := mt μ h; omega, o', fun Φ => ?_⟩
    show floop _ (.int (j : Int) :: rg (j + 1) q) _ = _
    rw [floop_cons (e := [A, B, (some (Sl.fr (t.d))), (some (Sl.fr (.int c))), (some (Sl.fr (.int (j : Int))))])]
    · exact hr Φ
    · simp -implicitDefEqProofs only [Q.xs, Q.xs1, ev, evs, evI, evC, evJ, bind_ok, bind_exc, exR_ok, exR_exc, seq_nx, seq_rt, seq_xc, varR_0, varR_S, bb_add, bb_sub, bb_mul2, bb_and, cc_lt, cc_le, cc_gt, cc_ge, cc_eq, cc_ne, cc_eqb, cc_eqs, ll_len, ll_lent, ll_list, ll_listt, ll_max2, ll_min2, toD_fr, toD_ow, lstR_ok, neg_i, erR_0, erR_S, catch_nx, catch_rt, catch_xc, sfin_rt, sfin_nx, noEr_n, noEr_f, noEr_o, noEr_0, no_int, no_list, no_tuple, no_none, no_bool, no_str, isiD, List.set_cons_zero, List.set_cons_succ, decide_true, decide_false, Bool.not_true, Bool.not_false, if_true, if_false, Bool.false_eq_true, reduceIte, deepL, f5, fj, m3, et, l1, l2, l3]
theorem s_deeperM (h : At_l_deeper m I) (hc : At_l_cell_at m I) (ns : List Int) (k : Nat) {D W : Nat} (s : Shp) (hs : s.P D W) : ∃ s' : Shp, s'.P (D + 4) (W + 4) ∧ (∀ μ, WrapM μ → μ s' ≤ μ s + 4) ∧ Ans m I.l_deeper [.list (ns.map .int), .int (k : Int), s.d] 2 (.ok (.fr s'.d)) := by
  obtain ⟨c, hcl⟩ := cellE hc ns k (by omega)
  have m5 : binD .mod (.int c) (.int 5) = .ok (.int (c % 5)) := bb_mod (by decide)
  obtain ⟨q, hq⟩ : ∃ q : Nat, c % 5 = q := ⟨(c % 5).toNat, by omega⟩
  have hn : numR (.int (q : Int)) = .ok (q : Int) := numR_ok (by omega)
  obtain ⟨s', hs', ms', o', hr⟩ := deep_run (m := m) c (some (Sl.fr (.list (ns.map .int)))) (some (Sl.fr (.int (k : Int)))) q 0 s D W none (by omega) hs
  refine ⟨s', ⟨hs'.1, by have := hs'.2.1; omega, by have := hs'.2.2; omega⟩, fun μ h => by have := ms' μ h; omega, ans h (env := [(some (Sl.fr (.list (ns.map .int)))), (some (Sl.fr (.int (k : Int)))), (some (Sl.fr (s.d))), none, none]) rfl rfl fun n hn1 => ?_⟩
  have st : xs SS m.sub (m.Phi n) m.L (tk 1 (b_l_deeper I)) [(some (Sl.fr (.list (ns.map .int)))), (some (Sl.fr (.int (k : Int)))), (some (Sl.fr (s.d))), none, none] = .nx [(some (Sl.fr (.list (ns.map .int)))), (some (Sl.fr (.int (k : Int)))), (some (Sl.fr (s.d))), (some (Sl.fr (.int c))), none] := by
    simp -implicitDefEqProofs only [Q.xs, Q.xs1, ev, evs, evI, evC, evJ, bind_ok, bind_exc, exR_ok, exR_exc, seq_nx, seq_rt, seq_xc, varR_0, varR_S, bb_add, bb_sub, bb_mul2, bb_and, cc_lt, cc_le, cc_gt, cc_ge, cc_eq, cc_ne, cc_eqb, cc_eqs, ll_len, ll_lent, ll_list, ll_listt, ll_max2, ll_min2, toD_fr, toD_ow, lstR_ok, neg_i, erR_0, erR_S, catch_nx, catch_rt, catch_xc, sfin_rt, sfin_nx, noEr_n, noEr_f, noEr_o, noEr_0, no_int, no_list, no_tuple, no_none, no_bool, no_str, isiD, List.set_cons_zero, List.set_cons_succ, decide_true, decide_false, Bool.not_true, Bool.not_false, if_true, if_false, Bool.false_eq_true, reduceIte, b_l_deeper, tk, hcl n (by omega)]
  rw [xs_step 1 st]
  have hi : evI SS (m.Phi n) (.rng (.bin .mod (.var 3) (.cI 5))) [(some (Sl.fr (.list (ns.map .int)))), (some (Sl.fr (.int (k : Int)))), (some (Sl.fr (s.d))), (some (Sl.fr (.int c))), none] = .ok (rg 0 q) := by
    simp -implicitDefEqProofs only [Q.xs, Q.xs1, ev, evs, evI, evC, evJ, bind_ok, bind_exc, exR_ok, exR_exc, seq_nx, seq_rt, seq_xc, varR_0, varR_S, bb_add, bb_sub, bb_mul2, bb_and, cc_lt, cc_le, cc_gt, cc_ge, cc_eq, cc_ne, cc_eqb, cc_eqs, ll_len, ll_lent, ll_list, ll_listt, ll_max2, ll_min2, toD_fr, toD_ow, lstR_ok, neg_i, erR_0, erR_S, catch_nx, catch_rt, catch_xc, sfin_rt, sfin_nx, noEr_n, noEr_f, noEr_o, noEr_0, no_int, no_list, no_tuple, no_none, no_bool, no_str, isiD, List.set_cons_zero, List.set_cons_succ, decide_true, decide_false, Bool.not_true, Bool.not_false, if_true, if_false, Bool.false_eq_true, reduceIte, m5, hq, hn, Int.toNat_natCast]
    rw [rangeD_rg]
  rw [show dr 1 (b_l_deeper I) = .cons (.forI 4 (.rng (.bin .mod (.var 3) (.cI 5))) deepL) (.cons (.ret (.var 2)) .nil) from rfl, xs_for, hi, exR_ok, hr]
  simp -implicitDefEqProofs only [Q.xs, Q.xs1, ev, evs, evI, evC, evJ, bind_ok, bind_exc, exR_ok, exR_exc, seq_nx, seq_rt, seq_xc, varR_0, varR_S, bb_add, bb_sub, bb_mul2, bb_and, cc_lt, cc_le, cc_gt, cc_ge, cc_eq, cc_ne, cc_eqb, cc_eqs, ll_len, ll_lent, ll_list, ll_listt, ll_max2, ll_min2, toD_fr, toD_ow, lstR_ok, neg_i, erR_0, erR_S, catch_nx, catch_rt, catch_xc, sfin_rt, sfin_nx, noEr_n, noEr_f, noEr_o, noEr_0, no_int, no_list, no_tuple, no_none, no_bool, no_str, isiD, List.set_cons_zero, List.set_cons_succ, decide_true, decide_false, Bool.not_true, Bool.not_false, if_true, if_false, Bool.false_eq_true, reduceIte]
/-- the shape that a script tells -/
theorem s_allM (hd : At_l_deeper m I) (h : At_l_shape m I) (hl : At_l_leaf m I) (hc : At_l_cell_at m I) (hr : At_l_room m I) (ho : At_l_one m I) (hg : At_l_group m I) (ns : List Int) : ∃ s0 s : Shp, s.ok ∧ s.dep ≤ 8 ∧ s.wb ≤ 512004 ∧ s0.ok ∧ s0.dep ≤ 4 ∧ (∀ μ, WrapM μ → μ s ≤ μ s0 + 4) ∧
    Ans m I.l_shape [.list (ns.map .int), .int 0] 6 (.ok (.fr s0.d)) ∧ Ans m I.l_deeper [.list (ns.map .int), .int 30, s0.d] 2 (.ok (.fr s.d)) := by
  obtain ⟨s0, h0, p0⟩ := s_shape h hl hc hr ho hg ns 3 0 (by decide) (by decide)
  obtain ⟨s, hs, hm, p⟩ := s_deeperM hd hc ns 30 s0 h0
  exact ⟨s0, s, hs.1, by have := hs.2.1; omega, by have := hs.2.2; omega, h0.1, h0.2.1, hm, p0, p⟩
theorem s_all (hd : At_l_deeper m I) (h : At_l_shape m I) (hl : At_l_leaf m I) (hc : At_l_cell_at m I) (hr : At_l_room m I) (ho : At_l_one m I) (hg : At_l_group m I) (ns : List Int) : ∃ s0 s : Shp, s.ok ∧ s.dep ≤ 8 ∧ s.wb ≤ 512004 ∧
    Ans m I.l_shape [.list (ns.map .int), .int 0] 6 (.ok (.fr s0.d)) ∧ Ans m I.l_deeper [.list (ns.map .int), .int 30, s0.d] 2 (.ok (.fr s.d)) := by
  obtain ⟨s0, s, a, b, c, _, _, _, d, e⟩ := s_allM hd h hl hc hr ho hg ns
  exact ⟨s0, s, a, b, c, d, e⟩
end
end Q

set_option Elab.async false
set_option linter.all false
set_option maxRecDepth 100000
set_option autoImplicit false
namespace Q
open PySem (PyData Str)
mutual
/-- a record that fits, and its bits -/
inductive Fit : Shp → PyData → List PyData → Prop
  | num {w : Nat} {lo hi x : Int} (h1 : lo ≤ x) (h2 : x ≤ hi) : Fit (.num w lo hi) (.int x) (wr (x - lo) w)
  | pad {w : Nat} : Fit (.pad w) .none (List.replicate w (.int 0))
  | maybe {s : Shp} {xs bs : List PyData} (h : xs.length ≤ 1) (hl : FitL (List.replicate xs.length s) xs bs) : Fit (.maybe s) (.list xs) (wr xs.length 1 ++ bs)
  | rows {w : Nat} {s : Shp} {xs bs : List PyData} (h : xs.length < 2 ^ w) (hl : FitL (List.replicate xs.length s) xs bs) : Fit (.rows w s) (.list xs) (wr xs.length w ++ bs)
  | group {ss : List Shp} {xs bs : List PyData} (hl : FitL ss xs bs) : Fit (.group ss) (.list xs) bs
  | one {w : Nat} {ss : List Shp} {p : Nat} {s : Shp} {x : PyData} {b : List PyData} (hp : ss[p]? = some s) (h : Fit s x b) : Fit (.one w ss) (.tuple [.int p, x]) (wr p w ++ b)
inductive FitL : List Shp → List PyData → List PyData → Prop
  | nil : FitL [] [] []
  | cons {s : Shp} {ss : List Shp} {x : PyData} {xs b bs : List PyData} (h : Fit s x b) (hl : FitL ss xs bs) : FitL (s :: ss) (x :: xs) (b ++ bs)
end
theorem Fit.ind {P : Shp → PyData → List PyData → Prop} {Q : List Shp → List PyData → List PyData → Prop} (h1 : ∀ w lo hi x, lo ≤ x → x ≤ hi → P (.num w lo hi) (.int x) (wr (x - lo) w)) (h2 : ∀ w, P (.pad w) .none (List.replicate w (.int 0)))
    (h3 : ∀ s (xs bs : List PyData), xs.length ≤ 1 → FitL (List.replicate xs.length s) xs bs → Q (List.replicate xs.length s) xs bs → P (.maybe s) (.list xs) (wr xs.length 1 ++ bs)) (h4 : ∀ w s (xs bs : List PyData), xs.length < 2 ^ w → FitL (List.replicate xs.length s) xs bs → Q (List.replicate xs.length s) xs bs → P (.rows w s) (.list xs) (wr xs.length w ++ bs))
    (h5 : ∀ ss xs bs, FitL ss xs bs → Q ss xs bs → P (.group ss) (.list xs) bs) (h6 : ∀ w ss (p : Nat) s x b, ss[p]? = some s → Fit s x b → P s x b → P (.one w ss) (.tuple [.int p, x]) (wr p w ++ b)) (h7 : Q [] [] []) (h8 : ∀ s ss x xs b bs, Fit s x b → FitL ss xs bs → P s x b → Q ss xs bs → Q (s :: ss) (x :: xs) (b ++ bs)) :
    (∀ s x b, Fit s x b → P s x b) ∧ (∀ ss xs bs, FitL ss xs bs → Q ss xs bs) :=
  ⟨fun s x b h => Fit.rec (motive_1 := fun s x b _ => P s x b) (motive_2 := fun ss xs bs _ => Q ss xs bs) (fun a b => h1 _ _ _ _ a b) (h2 _) (fun a b c => h3 _ _ _ a b c) (fun a b c => h4 _ _ _ _ a b c) (fun b c => h5 _ _ _ b c) (fun a b c => h6 _ _ _ _ _ _ a b c) h7 (fun a b c d => h8 _ _ _ _ _ _ a b c d) h,
    fun ss xs bs h => FitL.rec (motive_1 := fun s x b _ => P s x b) (motive_2 := fun ss xs bs _ => Q ss xs bs) (fun a b => h1 _ _ _ _ a b) (h2 _) (fun a b c => h3 _ _ _ a b c) (fun a b c => h4 _ _ _ _ a b c) (fun b c => h5 _ _ _ b c) (fun a b c => h6 _ _ _ _ _ _ a b c) h7 (fun a b c d => h8 _ _ _ _ _ _ a b c d) h⟩
theorem FitL.len {ss : List Shp} {xs bs : List PyData} (h : FitL ss xs bs) : xs.length = ss.length := by
  refine (Fit.ind (P := fun _ _ _ => True) (Q := fun ss xs _ => xs.length = ss.length) ?_ ?_ ?_ ?_ ?_ ?_ ?_ ?_).2 ss xs bs h <;> intros <;> first | trivial | rfl | (simp only [List.length_cons]; omega)
/-- the bits are bits -/
theorem Fit.bits : (∀ s r b, Fit s r b → ∀ d ∈ b, d = .int 0 ∨ d = .int 1) ∧ (∀ ss xs bs, FitL ss xs bs → ∀ d ∈ bs, d = .int 0 ∨ d = .int 1) := by
  refine Fit.ind (P := fun _ _ b => ∀ d ∈ b, d = .int 0 ∨ d = .int 1) (Q := fun _ _ b => ∀ d ∈ b, d = .int 0 ∨ d = .int 1) ?_ ?_ ?_ ?_ ?_ ?_ ?_ ?_
  · exact fun w lo hi x _ _ d hd => wr_bit _ _ d hd
  · exact fun w d hd => .inl (List.eq_of_mem_replicate hd)
  · intro s xs bs _ _ ih d hd
    rcases List.mem_append.mp hd with hd | hd
    · exact wr_bit _ _ d hd
    · exact ih d hd
  · intro w s xs bs _ _ ih d hd
    rcases List.mem_append.mp hd with hd | hd
    · exact wr_bit _ _ d hd
    · exact ih d hd
  · exact fun ss xs bs _ ih => ih
  · intro w ss p s x b _ _ ih d hd
    rcases List.mem_append.mp hd with hd | hd
    · exact wr_bit _ _ d hd
    · exact ih d hd
  · intro d hd
    cases hd
  · intro s ss x xs b bs _ _ ih ihl d hd
    rcases List.mem_append.mp hd with hd | hd
    · exact ih d hd
    · exact ihl d hd
/-- it is plain data, no deeper than the shape -/
theorem Fit.pl : (∀ s r b, Fit s r b → s.ok → ∀ k, s.dep ≤ k → Pl k r) ∧ (∀ ss xs bs, FitL ss xs bs → (∀ s ∈ ss, s.ok) → ∀ k, (∀ s ∈ ss, s.dep ≤ k) → ∀ x ∈ xs, Pl k x) := by
  have two : ∀ w : Nat, w ≤ 8 → (2 : Nat) ^ w ≤ 256 := fun w hw => Nat.pow_le_pow_right (n := 2) (by decide) hw
  refine Fit.ind (P := fun s r _ => s.ok → ∀ k, s.dep ≤ k → Pl k r) (Q := fun ss xs _ => (∀ s ∈ ss, s.ok) → ∀ k, (∀ s ∈ ss, s.dep ≤ k) → ∀ x ∈ xs, Pl k x) ?_ ?_ ?_ ?_ ?_ ?_ ?_ ?_
  · exact fun w lo hi x _ _ _ k _ => .i x
  · exact fun w _ k _ => .n
  · intro s xs bs hl _ ih ok k hk
    unfold Shp.dep at hk
    obtain ⟨k, rfl⟩ : ∃ q, k = q + 1 := ⟨k - 1, by omega⟩
    exact .l (ih (fun t ht => by rw [List.eq_of_mem_replicate ht]; exact ok) k (fun t ht => by rw [List.eq_of_mem_replicate ht]; omega)) (by omega)
  · intro w s xs bs hl _ ih ok k hk
    unfold Shp.dep at hk
    have := two w ok.1
    obtain ⟨k, rfl⟩ : ∃ q, k = q + 1 := ⟨k - 1, by omega⟩
    exact .l (ih (fun t ht => by rw [List.eq_of_mem_replicate ht]; exact ok.2.2) k (fun t ht => by rw [List.eq_of_mem_replicate ht]; omega)) (by omega)
  · intro ss xs bs hl ih ok k hk
    unfold Shp.dep at hk
    obtain ⟨k, rfl⟩ : ∃ q, k = q + 1 := ⟨k - 1, by omega⟩
    have := hl.len
    exact .l (ih (Shp.oks_iff.mp ok.2) k fun t ht => by have := Shp.dep_mem ht; omega) (by have := ok.1; omega)
  · intro w ss p s x b hp _ ih ok k hk
    unfold Shp.dep at hk
    obtain ⟨k, rfl⟩ : ∃ q, k = q + 1 := ⟨k - 1, by omega⟩
    have hm := List.mem_of_getElem? hp
    refine .t (fun y hy => ?_) (by show 2 < 2 ^ 62; decide)
    simp only [List.mem_cons, List.not_mem_nil, or_false] at hy
    rcases hy with rfl | rfl
    · exact .i _
    · exact ih (Shp.oks_iff.mp ok.2.2.2.2 s hm) k (by have := Shp.dep_mem hm; omega)
  · intro _ k _ x hx
    cases hx
  · intro s ss x xs b bs _ _ ih ihl ok k hk y hy
    rcases List.mem_cons.mp hy with rfl | hy
    · exact ih (ok s List.mem_cons_self) k (hk s List.mem_cons_self)
    · exact ihl (fun t ht => ok t (List.mem_cons_of_mem _ ht)) k (fun t ht => hk t (List.mem_cons_of_mem _ ht)) y hy
/-- the shape is plain data -/
theorem Shp.pl : ∀ s : Shp, s.ok → ∀ k, 2 * s.dep ≤ k → Pl k s.d := by
  refine Shp.ind ?_ ?_ ?_ ?_ ?_ ?_
  · intro w lo hi _ k hk
    unfold Shp.dep at hk
    obtain ⟨k, rfl⟩ : ∃ q, k = q + 1 := ⟨k - 1, by omega⟩
    unfold Shp.d
    refine .t (fun y hy => ?_) (by show 4 < 2 ^ 62; decide)
    simp only [List.mem_cons, List.not_mem_nil, or_false] at hy
    rcases hy with rfl | rfl | rfl | rfl
    · exact .s _
    · exact .i _
    · exact .i _
    · exact .i _
  · intro w _ k hk
    unfold Shp.dep at hk
    obtain ⟨k, rfl⟩ : ∃ q, k = q + 1 := ⟨k - 1, by omega⟩
    unfold Shp.d
    refine .t (fun y hy => ?_) (by show 2 < 2 ^ 62; decide)
    simp only [List.mem_cons, List.not_mem_nil, or_false] at hy
    rcases hy with rfl | rfl
    · exact .s _
    · exact .i _
  · intro s ih ok k hk
    unfold Shp.dep at hk
    obtain ⟨k, rfl⟩ : ∃ q, k = q + 1 := ⟨k - 1, by omega⟩
    unfold Shp.d
    refine .t (fun y hy => ?_) (by show 2 < 2 ^ 62; decide)
    simp only [List.mem_cons, List.not_mem_nil, or_false] at hy
    rcases hy with rfl | rfl
    · exact .s _
    · exact ih ok k (by omega)
  · intro w s ih ok k hk
    unfold Shp.dep at hk
    obtain ⟨k, rfl⟩ : ∃ q, k = q + 1 := ⟨k - 1, by omega⟩
    unfold Shp.d
    refine .t (fun y hy => ?_) (by show 3 < 2 ^ 62; decide)
    simp only [List.mem_cons, List.not_mem_nil, or_false] at hy
    rcases hy with rfl | rfl | rfl
    · exact .s _
    · exact .i _
    · exact ih ok.2.2 k (by omega)
  · intro ss ih ok k hk
    unfold Shp.dep at hk
    obtain ⟨k, rfl⟩ : ∃ q, k = q + 2 := ⟨k - 2, by omega⟩
    unfold Shp.d
    refine .t (fun y hy => ?_) (by show 2 < 2 ^ 62; decide)
    simp only [List.mem_cons, List.not_mem_nil, or_false] at hy
    rcases hy with rfl | rfl
    · exact .s _
    · rw [Shp.ds_map]
      refine .l (fun y hy => ?_) (by rw [List.length_map]; have := ok.1; omega)
      obtain ⟨t, ht, rfl⟩ := List.mem_map.mp hy
      exact ih t ht (Shp.oks_iff.mp ok.2 t ht) k (by have := Shp.dep_mem ht; omega)
  · intro w ss ih ok k hk
    unfold Shp.dep at hk
    obtain ⟨k, rfl⟩ : ∃ q, k = q + 2 := ⟨k - 2, by omega⟩
    unfold Shp.d
    refine .t (fun y hy => ?_) (by show 3 < 2 ^ 62; decide)
    simp only [List.mem_cons, List.not_mem_nil, or_false] at hy
    rcases hy with rfl | rfl | rfl
    · exact .s _
    · exact .i _
    · rw [Shp.ds_map]
      refine .l (fun y hy => ?_) (by rw [List.length_map]; have := ok.2.2.1; omega)
      obtain ⟨t, ht, rfl⟩ := List.mem_map.mp hy
      exact ih t ht (Shp.oks_iff.mp ok.2.2.2.2 t ht) k (by have := Shp.dep_mem ht; omega)
end Q

set_option Elab.async false
set_option linter.all false
set_option maxRecDepth 100000
set_option autoImplicit false
namespace Q
open PySem (PyData Str)
theorem mapR_map {α : Type} {f : PyData → Rs PyData} {g h : α → PyData} : ∀ l : List α, (∀ a ∈ l, f (g a) = .ok (h a)) → mapR f (l.map g) = .ok (l.map h)
  | [], _ => rfl
  | a :: l, H => by
    show (f (g a)).bind (fun y => (mapR f (l.map g)).bind fun ys => .ok (y :: ys)) = _
    rw [H a List.mem_cons_self, bind_ok, mapR_map l fun b hb => H b (List.mem_cons_of_mem _ hb), bind_ok]
    rfl
theorem intsOf_map {α : Type} {g : α → Int} : ∀ l : List α, intsOf (l.map fun a => PyData.int (g a)) = some (l.map g)
  | [] => rfl
  | a :: l => by
    show (intsOf (l.map fun a => PyData.int (g a))).map (g a :: ·) = _
    rw [intsOf_map l]
    rfl
theorem sum_cast {α : Type} {F : α → Nat} : ∀ l : List α, (l.map fun a => (F a : Int)).sum = ((l.map F).sum : Nat)
  | [] => rfl
  | a :: l => by
    rw [List.map_cons, List.map_cons, List.sum_cons, List.sum_cons, sum_cast l]
    omega
theorem sum_le {α : Type} {F : α → Nat} {B : Nat} : ∀ l : List α, (∀ a ∈ l, F a ≤ B) → (l.map F).sum ≤ l.length * B
  | [], _ => by simp
  | a :: l, h => by
    have h1 := h a List.mem_cons_self
    have h2 := sum_le l fun b hb => h b (List.mem_cons_of_mem _ hb)
    rw [List.map_cons, List.sum_cons, List.length_cons, Nat.add_mul, Nat.one_mul]
    omega
theorem lmax : ∀ (ns : List Int) (n : Int), (lstMax n ns = n ∨ lstMax n ns ∈ ns) ∧ n ≤ lstMax n ns ∧ ∀ x ∈ ns, x ≤ lstMax n ns
  | [], n => ⟨.inl rfl, Int.le_refl _, fun x h => by cases h⟩
  | y :: r, n => by
    show ((lstMax (if n < y then y else n) r = n ∨ lstMax (if n < y then y else n) r ∈ y :: r) ∧ n ≤ lstMax (if n < y then y else n) r ∧ ∀ x ∈ y :: r, x ≤ lstMax (if n < y then y else n) r)
    obtain ⟨h1, h2, h3⟩ := lmax r (if n < y then y else n)
    refine ⟨?_, ?_, ?_⟩
    · rcases h1 with h1 | h1
      · rw [h1]
        split
        · exact .inr List.mem_cons_self
        · exact .inl rfl
      · exact .inr (List.mem_cons_of_mem _ h1)
    · split at h2 <;> split <;> omega
    · intro x hx
      rcases List.mem_cons.mp hx with rfl | hx
      · split at h2 <;> split <;> omega
      · exact h3 x hx
theorem lmin : ∀ (ns : List Int) (n : Int), (lstMin n ns = n ∨ lstMin n ns ∈ ns) ∧ lstMin n ns ≤ n ∧ ∀ x ∈ ns, lstMin n ns ≤ x
  | [], n => ⟨.inl rfl, Int.le_refl _, fun x h => by cases h⟩
  | y :: r, n => by
    show ((lstMin (if y < n then y else n) r = n ∨ lstMin (if y < n then y else n) r ∈ y :: r) ∧ lstMin (if y < n then y else n) r ≤ n ∧ ∀ x ∈ y :: r, lstMin (if y < n then y else n) r ≤ x)
    obtain ⟨h1, h2, h3⟩ := lmin r (if y < n then y else n)
    refine ⟨?_, ?_, ?_⟩
    · rcases h1 with h1 | h1
      · rw [h1]
        split
        · exact .inr List.mem_cons_self
        · exact .inl rfl
      · exact .inr (List.mem_cons_of_mem _ h1)
    · split at h2 <;> split <;> omega
    · intro x hx
      rcases List.mem_cons.mp hx with rfl | hx
      · split at h2 <;> split <;> omega
      · exact h3 x hx
/-- all of them at once -/
theorem choose_on {α β : Type} [Inhabited β] {l : List α} {Q : α → β → Prop} (h : ∀ a ∈ l, ∃ b, Q a b) : ∃ F : α → β, ∀ a ∈ l, Q a (F a) := by
  classical
  exact ⟨fun a => if q : a ∈ l then (h a q).choose else default, fun a ha => by
    dsimp only
    rw [dif_pos ha]
    exact (h a ha).choose_spec⟩
theorem FitL.le {F : Shp → Nat} {ss : List Shp} {xs bs : List PyData} (h : FitL ss xs bs) (hF : ∀ s ∈ ss, ∀ r b, Fit s r b → b.length ≤ F s) : bs.length ≤ (ss.map F).sum := by
  refine (Fit.ind (P := fun _ _ _ => True) (Q := fun ss _ bs => (∀ s ∈ ss, ∀ r b, Fit s r b → b.length ≤ F s) → bs.length ≤ (ss.map F).sum) ?_ ?_ ?_ ?_ ?_ ?_ ?_ ?_).2 ss xs bs h hF <;> intros <;> first | trivial | skip
  · simp
  · rename_i s ss x xs b bs h1 h2 h3 h4 h5
    rw [List.map_cons, List.sum_cons, List.length_append]
    have a := h5 s List.mem_cons_self x b h1
    have c := h4 fun t ht => h5 t (List.mem_cons_of_mem _ ht)
    omega
theorem FitL.le_rep {s : Shp} {W n : Nat} {xs bs : List PyData} (h : FitL (List.replicate n s) xs bs) (hF : ∀ r b, Fit s r b → b.length ≤ W) : bs.length ≤ n * W := by
  have := h.le (F := fun _ => W) fun t ht r b hb => by rw [List.eq_of_mem_replicate ht] at hb; exact hF r b hb
  have h2 := sum_le (F := fun _ : Shp => W) (B := W) (List.replicate n s) fun _ _ => Nat.le_refl _
  rw [List.length_replicate] at h2
  omega
theorem two8 {w : Nat} (hw : w ≤ 8) : 1 ≤ (2 : Nat) ^ w ∧ (2 : Nat) ^ w ≤ 256 := ⟨Nat.pow_pos (by decide), Nat.pow_le_pow_right (n := 2) (by decide) hw⟩
section
variable {m : Md} {I : Ix}
theorem ixe2 (x y : PyData) : ixR (.tuple [x, y]) (.int (([x, y].length : Nat) - 1)) = .ok y := rfl
theorem ixe3 (x y z : PyData) : ixR (.tuple [x, y, z]) (.int (([x, y, z].length : Nat) - 1)) = .ok z := rfl
theorem ln2 (x y : PyData) : binD .sub (.int ([x, y].length : Nat)) (.int 1) = .ok (.int 1) := rfl
theorem ln3 (x y z : PyData) : binD .sub (.int ([x, y, z].length : Nat)) (.int 1) = .ok (.int 2) := rfl
theorem a_wide (h : At_l_wide m I) (hr : At_l_room m I) : ∀ s : Shp, s.ok → ∃ W : Nat, W * 300 ≤ 64 * 300 ^ s.dep ∧ (∀ r b, Fit s r b → b.length ≤ W) ∧ Ans m I.l_wide [s.d] (s.dep + 1) (.ok (.fr (.int W))) := by
  have up : ∀ {a b : Nat}, a ≤ b → 300 ^ a ≤ 300 ^ b := fun h => Nat.pow_le_pow_right (by decide) h
  refine Shp.ind ?_ ?_ ?_ ?_ ?_ ?_
  · intro w lo hi ok
    obtain ⟨W, hW⟩ : ∃ W : Nat, (if (w : Int) > 1 then (w : Int) else 1) = W := ⟨(if (w : Int) > 1 then (w : Int) else 1).toNat, by split <;> omega⟩
    have hw : w ≤ 64 := ok.1
    have hW2 : w ≤ W ∧ W ≤ 64 := by split at hW <;> omega
    refine ⟨W, by unfold Shp.dep; omega, fun r b hb => ?_, ans h (env := [(some (Sl.fr ((Shp.num w lo hi).d))), none, none]) rfl rfl fun n hn => ?_⟩
    · cases hb
      rw [wr_len]
      omega
    · simp only [Shp.d]
      simp -implicitDefEqProofs only [Q.xs, Q.xs1, ev, evs, evI, evC, evJ, bind_ok, bind_exc, exR_ok, exR_exc, seq_nx, seq_rt, seq_xc, varR_0, varR_S, bb_add, bb_sub, bb_mul2, bb_and, cc_lt, cc_le, cc_gt, cc_ge, cc_eq, cc_ne, cc_eqb, cc_eqs, ll_len, ll_lent, ll_list, ll_listt, ll_max2, ll_min2, toD_fr, toD_ow, lstR_ok, neg_i, erR_0, erR_S, catch_nx, catch_rt, catch_xc, sfin_rt, sfin_nx, noEr_n, noEr_f, noEr_o, noEr_0, no_int, no_list, no_tuple, no_none, no_bool, no_str, isiD, List.set_cons_zero, List.set_cons_succ, decide_true, decide_false, Bool.not_true, Bool.not_false, if_true, if_false, Bool.false_eq_true, reduceIte, b_l_wide, ixt0, ixt1, ixt2, kk_num_num, kk_num_pad, kk_num_maybe, kk_num_rows, kk_num_group, kk_num_one, kk_pad_num, kk_pad_pad, kk_pad_maybe, kk_pad_rows, kk_pad_group, kk_pad_one, kk_maybe_num, kk_maybe_pad, kk_maybe_maybe, kk_maybe_rows, kk_maybe_group, kk_maybe_one, kk_rows_num, kk_rows_pad, kk_rows_maybe, kk_rows_rows, kk_rows_group, kk_rows_one, kk_group_num, kk_group_pad, kk_group_maybe, kk_group_rows, kk_group_group, kk_group_one, kk_one_num, kk_one_pad, kk_one_maybe, kk_one_rows, kk_one_group, kk_one_one, kk_read_read, kk_read_short, kk_read_left, kk_read_wrong, kk_short_read, kk_short_short, kk_short_left, kk_short_wrong, kk_left_read, kk_left_short, kk_left_left, kk_left_wrong, kk_wrong_read, kk_wrong_short, kk_wrong_left, kk_wrong_wrong, hW]
  · intro w ok
    obtain ⟨W, hW⟩ : ∃ W : Nat, (if (w : Int) > 1 then (w : Int) else 1) = W := ⟨(if (w : Int) > 1 then (w : Int) else 1).toNat, by split <;> omega⟩
    have hw : w ≤ 64 := ok
    have hW2 : w ≤ W ∧ W ≤ 64 := by split at hW <;> omega
    refine ⟨W, by unfold Shp.dep; omega, fun r b hb => ?_, ans h (env := [(some (Sl.fr ((Shp.pad w).d))), none, none]) rfl rfl fun n hn => ?_⟩
    · cases hb
      rw [List.length_replicate]
      omega
    · simp only [Shp.d]
      simp -implicitDefEqProofs only [Q.xs, Q.xs1, ev, evs, evI, evC, evJ, bind_ok, bind_exc, exR_ok, exR_exc, seq_nx, seq_rt, seq_xc, varR_0, varR_S, bb_add, bb_sub, bb_mul2, bb_and, cc_lt, cc_le, cc_gt, cc_ge, cc_eq, cc_ne, cc_eqb, cc_eqs, ll_len, ll_lent, ll_list, ll_listt, ll_max2, ll_min2, toD_fr, toD_ow, lstR_ok, neg_i, erR_0, erR_S, catch_nx, catch_rt, catch_xc, sfin_rt, sfin_nx, noEr_n, noEr_f, noEr_o, noEr_0, no_int, no_list, no_tuple, no_none, no_bool, no_str, isiD, List.set_cons_zero, List.set_cons_succ, decide_true, decide_false, Bool.not_true, Bool.not_false, if_true, if_false, Bool.false_eq_true, reduceIte, b_l_wide, ixt0, ixt1, ixt2, kk_num_num, kk_num_pad, kk_num_maybe, kk_num_rows, kk_num_group, kk_num_one, kk_pad_num, kk_pad_pad, kk_pad_maybe, kk_pad_rows, kk_pad_group, kk_pad_one, kk_maybe_num, kk_maybe_pad, kk_maybe_maybe, kk_maybe_rows, kk_maybe_group, kk_maybe_one, kk_rows_num, kk_rows_pad, kk_rows_maybe, kk_rows_rows, kk_rows_group, kk_rows_one, kk_group_num, kk_group_pad, kk_group_maybe, kk_group_rows, kk_group_group, kk_group_one, kk_one_num, kk_one_pad, kk_one_maybe, kk_one_rows, kk_one_group, kk_one_one, kk_read_read, kk_read_short, kk_read_left, kk_read_wrong, kk_short_read, kk_short_short, kk_short_left, kk_short_wrong, kk_left_read, kk_left_short, kk_left_left, kk_left_wrong, kk_wrong_read, kk_wrong_short, kk_wrong_left, kk_wrong_wrong, hW]
  · intro s ih ok
    obtain ⟨W, h1, h2, h3⟩ := ih ok
    refine ⟨1 + W, by simp only [Shp.dep, Nat.pow_succ]; have := Nat.pow_pos (n := s.dep) (show 0 < 300 by decide); omega, fun r b hb => ?_, ans h (env := [(some (Sl.fr ((Shp.maybe s).d))), none, none]) rfl rfl fun n hn => ?_⟩
    · cases hb with
      | maybe hl hb =>
        have := hb.le_rep h2
        rw [List.length_append, wr_len]
        have : _ * W ≤ 1 * W := Nat.mul_le_mul_right W hl
        omega
    · simp only [Shp.dep] at hn
      simp only [Shp.d]
      simp -implicitDefEqProofs only [Q.xs, Q.xs1, ev, evs, evI, evC, evJ, bind_ok, bind_exc, exR_ok, exR_exc, seq_nx, seq_rt, seq_xc, varR_0, varR_S, bb_add, bb_sub, bb_mul2, bb_and, cc_lt, cc_le, cc_gt, cc_ge, cc_eq, cc_ne, cc_eqb, cc_eqs, ll_len, ll_lent, ll_list, ll_listt, ll_max2, ll_min2, toD_fr, toD_ow, lstR_ok, neg_i, erR_0, erR_S, catch_nx, catch_rt, catch_xc, sfin_rt, sfin_nx, noEr_n, noEr_f, noEr_o, noEr_0, no_int, no_list, no_tuple, no_none, no_bool, no_str, isiD, List.set_cons_zero, List.set_cons_succ, decide_true, decide_false, Bool.not_true, Bool.not_false, if_true, if_false, Bool.false_eq_true, reduceIte, b_l_wide, ixt0, ixt1, ixt2, kk_num_num, kk_num_pad, kk_num_maybe, kk_num_rows, kk_num_group, kk_num_one, kk_pad_num, kk_pad_pad, kk_pad_maybe, kk_pad_rows, kk_pad_group, kk_pad_one, kk_maybe_num, kk_maybe_pad, kk_maybe_maybe, kk_maybe_rows, kk_maybe_group, kk_maybe_one, kk_rows_num, kk_rows_pad, kk_rows_maybe, kk_rows_rows, kk_rows_group, kk_rows_one, kk_group_num, kk_group_pad, kk_group_maybe, kk_group_rows, kk_group_group, kk_group_one, kk_one_num, kk_one_pad, kk_one_maybe, kk_one_rows, kk_one_group, kk_one_one, kk_read_read, kk_read_short, kk_read_left, kk_read_wrong, kk_short_read, kk_short_short, kk_short_left, kk_short_wrong, kk_left_read, kk_left_short, kk_left_left, kk_left_wrong, kk_wrong_read, kk_wrong_short, kk_wrong_left, kk_wrong_wrong, h3 n (by omega)]
      rfl
  · intro w s ih ok
    obtain ⟨W, h1, h2, h3⟩ := ih ok.2.2
    obtain ⟨M, hM⟩ : ∃ M : Nat, (if (W : Int) > 1 then (W : Int) else 1) = M := ⟨(if (W : Int) > 1 then (W : Int) else 1).toNat, by split <;> omega⟩
    have hM2 : W ≤ M ∧ M ≤ W + 1 := by split at hM <;> omega
    obtain ⟨t1, t2⟩ := two8 ok.1
    have hrm := a_room hr w (by have := ok.1; omega)
    have e : binD .mul (.int ((2 : Int) ^ w - 1)) (.int (M : Int)) = .ok (.int (((2 ^ w - 1) * M : Nat) : Int)) := by
      have : (2 : Int) ^ w = ((2 ^ w : Nat) : Int) := by push_cast; rfl
      rw [bb_mul (.inl (by rw [this, two64]; omega)), this]
      congr 2
      rw [Int.natCast_mul, Int.natCast_sub t1]
      rfl
    refine ⟨w + (2 ^ w - 1) * M, ?_, fun r b hb => ?_, ans h (env := [(some (Sl.fr ((Shp.rows w s).d))), none, none]) rfl rfl fun n hn => ?_⟩
    · have a1 : (2 ^ w - 1) * M ≤ 255 * (W + 1) := Nat.mul_le_mul (by omega) hM2.2
      have := ok.1
      simp only [Shp.dep, Nat.pow_succ]
      have := Nat.pow_pos (n := s.dep) (show 0 < 300 by decide)
      have : 300 ≤ 300 ^ s.dep := by
        have : 1 ≤ s.dep := by cases s <;> simp only [Shp.dep] <;> omega
        exact up (a := 1) this
      omega
    · cases hb with
      | rows hl hb =>
        have := hb.le_rep h2
        rw [List.length_append, wr_len]
        have : _ * W ≤ (2 ^ w - 1) * M := Nat.mul_le_mul (Nat.le_sub_one_of_lt hl) hM2.1
        omega
    · simp only [Shp.dep] at hn
      simp only [Shp.d]
      simp -implicitDefEqProofs only [Q.xs, Q.xs1, ev, evs, evI, evC, evJ, bind_ok, bind_exc, exR_ok, exR_exc, seq_nx, seq_rt, seq_xc, varR_0, varR_S, bb_add, bb_sub, bb_mul2, bb_and, cc_lt, cc_le, cc_gt, cc_ge, cc_eq, cc_ne, cc_eqb, cc_eqs, ll_len, ll_lent, ll_list, ll_listt, ll_max2, ll_min2, toD_fr, toD_ow, lstR_ok, neg_i, erR_0, erR_S, catch_nx, catch_rt, catch_xc, sfin_rt, sfin_nx, noEr_n, noEr_f, noEr_o, noEr_0, no_int, no_list, no_tuple, no_none, no_bool, no_str, isiD, List.set_cons_zero, List.set_cons_succ, decide_true, decide_false, Bool.not_true, Bool.not_false, if_true, if_false, Bool.false_eq_true, reduceIte, b_l_wide, ixt0, ixt1, ixt2, kk_num_num, kk_num_pad, kk_num_maybe, kk_num_rows, kk_num_group, kk_num_one, kk_pad_num, kk_pad_pad, kk_pad_maybe, kk_pad_rows, kk_pad_group, kk_pad_one, kk_maybe_num, kk_maybe_pad, kk_maybe_maybe, kk_maybe_rows, kk_maybe_group, kk_maybe_one, kk_rows_num, kk_rows_pad, kk_rows_maybe, kk_rows_rows, kk_rows_group, kk_rows_one, kk_group_num, kk_group_pad, kk_group_maybe, kk_group_rows, kk_group_group, kk_group_one, kk_one_num, kk_one_pad, kk_one_maybe, kk_one_rows, kk_one_group, kk_one_one, kk_read_read, kk_read_short, kk_read_left, kk_read_wrong, kk_short_read, kk_short_short, kk_short_left, kk_short_wrong, kk_left_read, kk_left_short, kk_left_left, kk_left_wrong, kk_wrong_read, kk_wrong_short, kk_wrong_left, kk_wrong_wrong, h3 n (by omega), hrm n (by omega), hM, e]
      rw [Int.natCast_add]
  · intro ss ih ok
    obtain ⟨F, hF⟩ := choose_on (l := ss) (β := Nat) fun s hs => ih s hs (Shp.oks_iff.mp ok.2 s hs)
    refine ⟨(ss.map F).sum, ?_, fun r b hb => ?_, ans h (env := [(some (Sl.fr ((Shp.group ss).d))), none, none]) rfl rfl fun n hn => ?_⟩
    · have a1 : (ss.map F).sum ≤ ss.length * (64 * 300 ^ Shp.deps ss / 300) := sum_le ss fun s hs => by
        have := (hF s hs).1
        have := up (Shp.dep_mem hs)
        omega
      have a2 : ss.length * (64 * 300 ^ Shp.deps ss / 300) ≤ 20 * (64 * 300 ^ Shp.deps ss / 300) := Nat.mul_le_mul_right _ ok.1
      simp only [Shp.dep, Nat.pow_succ]
      omega
    · cases hb with
      | group hb => exact hb.le fun s hs => (hF s hs).2.1
    · simp only [Shp.dep] at hn
      have hm : mapR (fun d => ((m.Phi n I.l_wide [d]).bind Sl.toD).cold) (ss.map Shp.d) = .ok (ss.map fun s => .int (F s : Int)) := mapR_map ss fun s hs => by
        rw [(hF s hs).2.2 n (by have := Shp.dep_mem hs; omega)]
        rfl
      have hl : ((ss.map Shp.d).length ≤ szl) = True := eq_true (by rw [List.length_map]; have := ok.1; show ss.length ≤ 16777216; omega)
      have hs : bltR .sum [.list (ss.map fun s => .int (F s : Int))] = .ok (.int ((ss.map F).sum : Nat)) := by
        show (match intsOf (ss.map fun s => .int (F s : Int)) with | some ns => Rs.ok (PyData.int ns.sum) | none => .bad) = _
        rw [intsOf_map, ← sum_cast]
      simp only [Shp.d, Shp.ds_map]
      simp -implicitDefEqProofs only [Q.xs, Q.xs1, ev, evs, evI, evC, evJ, bind_ok, bind_exc, exR_ok, exR_exc, seq_nx, seq_rt, seq_xc, varR_0, varR_S, bb_add, bb_sub, bb_mul2, bb_and, cc_lt, cc_le, cc_gt, cc_ge, cc_eq, cc_ne, cc_eqb, cc_eqs, ll_len, ll_lent, ll_list, ll_listt, ll_max2, ll_min2, toD_fr, toD_ow, lstR_ok, neg_i, erR_0, erR_S, catch_nx, catch_rt, catch_xc, sfin_rt, sfin_nx, noEr_n, noEr_f, noEr_o, noEr_0, no_int, no_list, no_tuple, no_none, no_bool, no_str, isiD, List.set_cons_zero, List.set_cons_succ, decide_true, decide_false, Bool.not_true, Bool.not_false, if_true, if_false, Bool.false_eq_true, reduceIte, b_l_wide, ixt0, ixt1, ixt2, kk_num_num, kk_num_pad, kk_num_maybe, kk_num_rows, kk_num_group, kk_num_one, kk_pad_num, kk_pad_pad, kk_pad_maybe, kk_pad_rows, kk_pad_group, kk_pad_one, kk_maybe_num, kk_maybe_pad, kk_maybe_maybe, kk_maybe_rows, kk_maybe_group, kk_maybe_one, kk_rows_num, kk_rows_pad, kk_rows_maybe, kk_rows_rows, kk_rows_group, kk_rows_one, kk_group_num, kk_group_pad, kk_group_maybe, kk_group_rows, kk_group_group, kk_group_one, kk_one_num, kk_one_pad, kk_one_maybe, kk_one_rows, kk_one_group, kk_one_one, kk_read_read, kk_read_short, kk_read_left, kk_read_wrong, kk_short_read, kk_short_short, kk_short_left, kk_short_wrong, kk_left_read, kk_left_short, kk_left_left, kk_left_wrong, kk_wrong_read, kk_wrong_short, kk_wrong_left, kk_wrong_wrong, ixe2, hl, hm, hs]
  · intro w ss ih ok
    obtain ⟨F, hF⟩ := choose_on (l := ss) (β := Nat) fun s hs => ih s hs (Shp.oks_iff.mp ok.2.2.2.2 s hs)
    obtain ⟨s0, sr, rfl⟩ : ∃ s0 sr, ss = s0 :: sr := by
      cases ss with
      | nil => have := ok.2.1; simp at this
      | cons a b => exact ⟨a, b, rfl⟩
    obtain ⟨q1, q2, q3⟩ := lmax (sr.map fun s => (F s : Int)) (F s0 : Int)
    obtain ⟨M, hM⟩ : ∃ M : Nat, lstMax (F s0 : Int) (sr.map fun s => (F s : Int)) = M := ⟨(lstMax (F s0 : Int) (sr.map fun s => (F s : Int))).toNat, by omega⟩
    have up1 : ∀ s ∈ s0 :: sr, F s ≤ M := fun s hs => by
      rcases List.mem_cons.mp hs with rfl | hs
      · omega
      · have := q3 _ (List.mem_map.mpr ⟨s, hs, rfl⟩)
        omega
    have up2 : ∃ s ∈ s0 :: sr, F s = M := by
      rcases q1 with q | q
      · exact ⟨s0, List.mem_cons_self, by omega⟩
      · obtain ⟨s, hs, e⟩ := List.mem_map.mp q
        exact ⟨s, List.mem_cons_of_mem _ hs, by omega⟩
    refine ⟨w + M, ?_, fun r b hb => ?_, ans h (env := [(some (Sl.fr ((Shp.one w (s0 :: sr)).d))), none, none]) rfl rfl fun n hn => ?_⟩
    · obtain ⟨s, hs, e⟩ := up2
      have := (hF s hs).1
      have := up (Shp.dep_mem hs)
      have := Nat.pow_pos (n := Shp.deps (s0 :: sr)) (show 0 < 300 by decide)
      have : 300 ≤ 300 ^ Shp.deps (s0 :: sr) := by
        have h1 : 1 ≤ s.dep := by cases s <;> simp only [Shp.dep] <;> omega
        have h2 := Shp.dep_mem hs
        exact up (a := 1) (by omega)
      have := ok.1
      simp only [Shp.dep, Nat.pow_succ]
      omega
    · cases hb with
      | one hp hb =>
        have hm := List.mem_of_getElem? hp
        have := (hF _ hm).2.1 _ _ hb
        have := up1 _ hm
        rw [List.length_append, wr_len]
        omega
    · simp only [Shp.dep] at hn
      have hm : mapR (fun d => ((m.Phi n I.l_wide [d]).bind Sl.toD).cold) ((s0 :: sr).map Shp.d) = .ok ((s0 :: sr).map fun s => .int (F s : Int)) := mapR_map _ fun s hs => by
        rw [(hF s hs).2.2 n (by have := Shp.dep_mem hs; omega)]
        rfl
      have hl : (((s0 :: sr).map Shp.d).length ≤ szl) = True := eq_true (by rw [List.length_map]; have := ok.2.2.1; show (s0 :: sr).length ≤ 16777216; omega)
      have hs : bltR .maxl [.list ((s0 :: sr).map fun s => .int (F s : Int))] = .ok (.int (M : Nat)) := by
        show (match intsOf ((s0 :: sr).map fun s => .int (F s : Int)) with | some (n :: ns) => Rs.ok (PyData.int (lstMax n ns)) | _ => .bad) = _
        rw [intsOf_map, List.map_cons, ← hM]
      simp only [Shp.d, Shp.ds_map]
      simp -implicitDefEqProofs only [Q.xs, Q.xs1, ev, evs, evI, evC, evJ, bind_ok, bind_exc, exR_ok, exR_exc, seq_nx, seq_rt, seq_xc, varR_0, varR_S, bb_add, bb_sub, bb_mul2, bb_and, cc_lt, cc_le, cc_gt, cc_ge, cc_eq, cc_ne, cc_eqb, cc_eqs, ll_len, ll_lent, ll_list, ll_listt, ll_max2, ll_min2, toD_fr, toD_ow, lstR_ok, neg_i, erR_0, erR_S, catch_nx, catch_rt, catch_xc, sfin_rt, sfin_nx, noEr_n, noEr_f, noEr_o, noEr_0, no_int, no_list, no_tuple, no_none, no_bool, no_str, isiD, List.set_cons_zero, List.set_cons_succ, decide_true, decide_false, Bool.not_true, Bool.not_false, if_true, if_false, Bool.false_eq_true, reduceIte, b_l_wide, ixt0, ixt1, ixt2, kk_num_num, kk_num_pad, kk_num_maybe, kk_num_rows, kk_num_group, kk_num_one, kk_pad_num, kk_pad_pad, kk_pad_maybe, kk_pad_rows, kk_pad_group, kk_pad_one, kk_maybe_num, kk_maybe_pad, kk_maybe_maybe, kk_maybe_rows, kk_maybe_group, kk_maybe_one, kk_rows_num, kk_rows_pad, kk_rows_maybe, kk_rows_rows, kk_rows_group, kk_rows_one, kk_group_num, kk_group_pad, kk_group_maybe, kk_group_rows, kk_group_group, kk_group_one, kk_one_num, kk_one_pad, kk_one_maybe, kk_one_rows, kk_one_group, kk_one_one, kk_read_read, kk_read_short, kk_read_left, kk_read_wrong, kk_short_read, kk_short_short, kk_short_left, kk_short_wrong, kk_left_read, kk_left_short, kk_left_left, kk_left_wrong, kk_wrong_read, kk_wrong_short, kk_wrong_left, kk_wrong_wrong, ixe3, hl, hm, hs]
      rw [Int.natCast_add]
end
end Q

set_option Elab.async false
set_option linter.all false
set_option maxRecDepth 100000
set_option autoImplicit false
namespace Q
open PySem (PyData Str)
section
variable {m : Md} {I : Ix}
theorem numE (h : At_l_number m I) (ns : List Int) (hl : ns.length ≤ 63) (j : Nat) : ∃ x : Int, Ans m I.l_number [.list (ns.map .int), .int (j : Int)] 1 (.ok (.fr (.int x))) := by
  by_cases q : ((ns.map PyData.int).length : Int) = 0
  · have e := decide_eq_true q
    refine ⟨j, ans h (env := [(some (Sl.fr (.list (ns.map .int)))), (some (Sl.fr (.int (j : Int))))]) rfl rfl fun n hn => ?_⟩
    simp -implicitDefEqProofs only [Q.xs, Q.xs1, ev, evs, evI, evC, evJ, bind_ok, bind_exc, exR_ok, exR_exc, seq_nx, seq_rt, seq_xc, varR_0, varR_S, bb_add, bb_sub, bb_mul2, bb_and, cc_lt, cc_le, cc_gt, cc_ge, cc_eq, cc_ne, cc_eqb, cc_eqs, ll_len, ll_lent, ll_list, ll_listt, ll_max2, ll_min2, toD_fr, toD_ow, lstR_ok, neg_i, erR_0, erR_S, catch_nx, catch_rt, catch_xc, sfin_rt, sfin_nx, noEr_n, noEr_f, noEr_o, noEr_0, no_int, no_list, no_tuple, no_none, no_bool, no_str, isiD, List.set_cons_zero, List.set_cons_succ, decide_true, decide_false, Bool.not_true, Bool.not_false, if_true, if_false, Bool.false_eq_true, reduceIte, b_l_number, e]
  · have e := decide_eq_false q
    rw [List.length_map] at q
    obtain ⟨k, hk⟩ : ∃ k : Nat, ((ns.map PyData.int).length : Int) = k := ⟨_, rfl⟩
    have hk2 : k = ns.length := by rw [List.length_map] at hk; omega
    have f1 : binD .mod (.int (j : Int)) (.int (k : Int)) = .ok (.int ((j : Int) % k)) := bb_mod (by omega)
    have f2 : binD .fdiv (.int (j : Int)) (.int (k : Int)) = .ok (.int ((j : Int) / k)) := bb_fdiv (by omega) (by omega)
    have h0 := Int.emod_nonneg (j : Int) (show (k : Int) ≠ 0 by omega)
    have h1 := Int.emod_lt_of_pos (j : Int) (show (0 : Int) < k by omega)
    obtain ⟨d, hd, e2⟩ := ix_any (xs := ns.map PyData.int) (n := k) ((k : Int) - 1 - (j : Int) % k) (by omega) (by rw [List.length_map]; omega) (by omega)
    obtain ⟨v, _, rfl⟩ := List.mem_map.mp hd
    refine ⟨v + (j : Int) / k, ans h (env := [(some (Sl.fr (.list (ns.map .int)))), (some (Sl.fr (.int (j : Int))))]) rfl rfl fun n hn => ?_⟩
    rw [hk] at e
    simp -implicitDefEqProofs only [Q.xs, Q.xs1, ev, evs, evI, evC, evJ, bind_ok, bind_exc, exR_ok, exR_exc, seq_nx, seq_rt, seq_xc, varR_0, varR_S, bb_add, bb_sub, bb_mul2, bb_and, cc_lt, cc_le, cc_gt, cc_ge, cc_eq, cc_ne, cc_eqb, cc_eqs, ll_len, ll_lent, ll_list, ll_listt, ll_max2, ll_min2, toD_fr, toD_ow, lstR_ok, neg_i, erR_0, erR_S, catch_nx, catch_rt, catch_xc, sfin_rt, sfin_nx, noEr_n, noEr_f, noEr_o, noEr_0, no_int, no_list, no_tuple, no_none, no_bool, no_str, isiD, List.set_cons_zero, List.set_cons_succ, decide_true, decide_false, Bool.not_true, Bool.not_false, if_true, if_false, Bool.false_eq_true, reduceIte, b_l_number, hk, e, f1, f2, e2]
theorem a_many1 (h : At_l_many m I) (s : Shp) (x : Int) : ∃ q : Nat, q ≤ 1 ∧ Ans m I.l_many [(Shp.maybe s).d, .int x] 1 (.ok (.fr (.int q))) := by
  have f1 : binD .mod (.int x) (.int 3) = .ok (.int (x % 3)) := bb_mod (by decide)
  obtain ⟨q, hq⟩ : ∃ q : Nat, (if x % 3 < 1 then x % 3 else 1) = q := ⟨(if x % 3 < 1 then x % 3 else 1).toNat, by split <;> omega⟩
  refine ⟨q, by split at hq <;> omega, ans h (env := [(some (Sl.fr ((Shp.maybe s).d))), (some (Sl.fr (.int x))), none, none]) rfl rfl fun n hn => ?_⟩
  simp only [Shp.d]
  simp -implicitDefEqProofs only [Q.xs, Q.xs1, ev, evs, evI, evC, evJ, bind_ok, bind_exc, exR_ok, exR_exc, seq_nx, seq_rt, seq_xc, varR_0, varR_S, bb_add, bb_sub, bb_mul2, bb_and, cc_lt, cc_le, cc_gt, cc_ge, cc_eq, cc_ne, cc_eqb, cc_eqs, ll_len, ll_lent, ll_list, ll_listt, ll_max2, ll_min2, toD_fr, toD_ow, lstR_ok, neg_i, erR_0, erR_S, catch_nx, catch_rt, catch_xc, sfin_rt, sfin_nx, noEr_n, noEr_f, noEr_o, noEr_0, no_int, no_list, no_tuple, no_none, no_bool, no_str, isiD, List.set_cons_zero, List.set_cons_succ, decide_true, decide_false, Bool.not_true, Bool.not_false, if_true, if_false, Bool.false_eq_true, reduceIte, b_l_many, ixt0, kk_num_num, kk_num_pad, kk_num_maybe, kk_num_rows, kk_num_group, kk_num_one, kk_pad_num, kk_pad_pad, kk_pad_maybe, kk_pad_rows, kk_pad_group, kk_pad_one, kk_maybe_num, kk_maybe_pad, kk_maybe_maybe, kk_maybe_rows, kk_maybe_group, kk_maybe_one, kk_rows_num, kk_rows_pad, kk_rows_maybe, kk_rows_rows, kk_rows_group, kk_rows_one, kk_group_num, kk_group_pad, kk_group_maybe, kk_group_rows, kk_group_group, kk_group_one, kk_one_num, kk_one_pad, kk_one_maybe, kk_one_rows, kk_one_group, kk_one_one, kk_read_read, kk_read_short, kk_read_left, kk_read_wrong, kk_short_read, kk_short_short, kk_short_left, kk_short_wrong, kk_left_read, kk_left_short, kk_left_left, kk_left_wrong, kk_wrong_read, kk_wrong_short, kk_wrong_left, kk_wrong_wrong, f1, hq]
theorem a_many (h : At_l_many m I) (hr : At_l_room m I) (w : Nat) (hw : w ≤ 8) (s : Shp) (W c : Nat) (hc : 1 ≤ c) (hW : Ans m I.l_wide [s.d] c (.ok (.fr (.int W)))) (hb : W < 2 ^ 29) (x : Int) : ∃ q : Nat, q < 2 ^ w ∧ (q ≤ 2 ∨ q * W ≤ 520) ∧ Ans m I.l_many [(Shp.rows w s).d, .int x] (c + 1) (.ok (.fr (.int q))) := by
  obtain ⟨V, hV⟩ : ∃ V : Nat, (if (W : Int) > 1 then (W : Int) else 1) = V := ⟨(if (W : Int) > 1 then (W : Int) else 1).toNat, by split <;> omega⟩
  have hV2 : W ≤ V ∧ 1 ≤ V ∧ V < 2 ^ 30 := by split at hV <;> omega
  obtain ⟨t1, t2⟩ := two8 hw
  have hrm := a_room hr w (by omega)
  obtain ⟨M, hM⟩ : ∃ M : Nat, (2 : Int) ^ w - 1 = M := ⟨2 ^ w - 1, by
    have : (2 : Int) ^ w = ((2 ^ w : Nat) : Int) := by push_cast; rfl
    omega⟩
  have hM2 : M = 2 ^ w - 1 := by
    have : (2 : Int) ^ w = ((2 ^ w : Nat) : Int) := by push_cast; rfl
    omega
  have f1 : binD .mul (.int (V : Int)) (.int (M : Int)) = .ok (.int ((V : Int) * M)) := bb_mul (.inr (by omega))
  have f64 : binD .mod (.int x) (.int 64) = .ok (.int (x % 64)) := bb_mod (by decide)
  have f4 : binD .mod (.int x) (.int 4) = .ok (.int (x % 4)) := bb_mod (by decide)
  have d4 : binD .fdiv (.int x) (.int 4) = .ok (.int (x / 4)) := bb_fdiv (by decide) (by decide)
  have hbi : bltR .int1 [.bool (decide (x % 64 = 47))] = .ok (.int (if decide (x % 64 = 47) = true then (1 : Int) else 0)) := rfl
  obtain ⟨lim, hlim, e1⟩ : ∃ lim : Nat, lim ≤ 520 ∧ ixR (.list [.int 200, .int 520]) (.int (if decide (x % 64 = 47) = true then (1 : Int) else 0)) = .ok (.int (lim : Int)) := by
    split
    · exact ⟨520, by decide, rfl⟩
    · exact ⟨200, by decide, rfl⟩
  have e2 : binD .fdiv (.int (lim : Int)) (.int (V : Int)) = .ok (.int ((lim : Int) / V)) := bb_fdiv (by omega) (by omega)
  have st : ∃ k : Nat, k ≤ M ∧ (k ≤ 2 ∨ k * W ≤ 520) ∧ ∀ n, c ≤ n → xs SS m.sub (m.Phi n) m.L (tk 4 (b_l_many I)) [(some (Sl.fr ((Shp.rows w s).d))), (some (Sl.fr (.int x))), none, none] = .nx [(some (Sl.fr ((Shp.rows w s).d))), (some (Sl.fr (.int x))), (some (Sl.fr (.int (k : Int)))), (some (Sl.fr (.int (V : Int))))] := by
    by_cases q : (300 : Int) < (V : Int) * M
    · have e := decide_eq_true q
      obtain ⟨u, hu⟩ : ∃ u : Nat, (lim : Int) / V = u := ⟨lim / V, by rw [Int.natCast_ediv]⟩
      have hu2 : u * V ≤ 520 := by
        have : u = lim / V := by have := Int.natCast_ediv lim V; omega
        rw [this]
        exact Nat.le_trans (Nat.div_mul_le_self lim V) hlim
      obtain ⟨k, hk⟩ : ∃ k : Nat, (if (if (u : Int) > 2 then (u : Int) else 2) < (M : Int) then (if (u : Int) > 2 then (u : Int) else 2) else (M : Int)) = k := ⟨(if (if (u : Int) > 2 then (u : Int) else 2) < (M : Int) then (if (u : Int) > 2 then (u : Int) else 2) else (M : Int)).toNat, by split <;> (try split) <;> omega⟩
      have hk2 : k ≤ M ∧ (k ≤ 2 ∨ k ≤ u) := by split at hk <;> (try split at hk) <;> (try split at *) <;> omega
      refine ⟨k, hk2.1, ?_, fun n hn => ?_⟩
      · rcases hk2.2 with z | z
        · exact .inl z
        · exact .inr (Nat.le_trans (Nat.mul_le_mul z hV2.1) hu2)
      · simp only [Shp.d]
        simp -implicitDefEqProofs only [Q.xs, Q.xs1, ev, evs, evI, evC, evJ, bind_ok, bind_exc, exR_ok, exR_exc, seq_nx, seq_rt, seq_xc, varR_0, varR_S, bb_add, bb_sub, bb_mul2, bb_and, cc_lt, cc_le, cc_gt, cc_ge, cc_eq, cc_ne, cc_eqb, cc_eqs, ll_len, ll_lent, ll_list, ll_listt, ll_max2, ll_min2, toD_fr, toD_ow, lstR_ok, neg_i, erR_0, erR_S, catch_nx, catch_rt, catch_xc, sfin_rt, sfin_nx, noEr_n, noEr_f, noEr_o, noEr_0, no_int, no_list, no_tuple, no_none, no_bool, no_str, isiD, List.set_cons_zero, List.set_cons_succ, decide_true, decide_false, Bool.not_true, Bool.not_false, if_true, if_false, Bool.false_eq_true, reduceIte, b_l_many, tk, ixt0, ixt1, ixt2, kk_num_num, kk_num_pad, kk_num_maybe, kk_num_rows, kk_num_group, kk_num_one, kk_pad_num, kk_pad_pad, kk_pad_maybe, kk_pad_rows, kk_pad_group, kk_pad_one, kk_maybe_num, kk_maybe_pad, kk_maybe_maybe, kk_maybe_rows, kk_maybe_group, kk_maybe_one, kk_rows_num, kk_rows_pad, kk_rows_maybe, kk_rows_rows, kk_rows_group, kk_rows_one, kk_group_num, kk_group_pad, kk_group_maybe, kk_group_rows, kk_group_group, kk_group_one, kk_one_num, kk_one_pad, kk_one_maybe, kk_one_rows, kk_one_group, kk_one_one, kk_read_read, kk_read_short, kk_read_left, kk_read_wrong, kk_short_read, kk_short_short, kk_short_left, kk_short_wrong, kk_left_read, kk_left_short, kk_left_left, kk_left_wrong, kk_wrong_read, kk_wrong_short, kk_wrong_left, kk_wrong_wrong, hrm n (by omega), hM, hW n hn, hV, f1, e, l2, f64, hbi, e1, e2, hu, hk]
    · have e := decide_eq_false q
      refine ⟨M, Nat.le_refl _, .inr ?_, fun n hn => ?_⟩
      · have a1 : M * W ≤ M * V := Nat.mul_le_mul_left _ hV2.1
        have a2 : ((M * V : Nat) : Int) = (V : Int) * M := by rw [Int.natCast_mul, Int.mul_comm]
        omega
      · simp only [Shp.d]
        simp -implicitDefEqProofs only [Q.xs, Q.xs1, ev, evs, evI, evC, evJ, bind_ok, bind_exc, exR_ok, exR_exc, seq_nx, seq_rt, seq_xc, varR_0, varR_S, bb_add, bb_sub, bb_mul2, bb_and, cc_lt, cc_le, cc_gt, cc_ge, cc_eq, cc_ne, cc_eqb, cc_eqs, ll_len, ll_lent, ll_list, ll_listt, ll_max2, ll_min2, toD_fr, toD_ow, lstR_ok, neg_i, erR_0, erR_S, catch_nx, catch_rt, catch_xc, sfin_rt, sfin_nx, noEr_n, noEr_f, noEr_o, noEr_0, no_int, no_list, no_tuple, no_none, no_bool, no_str, isiD, List.set_cons_zero, List.set_cons_succ, decide_true, decide_false, Bool.not_true, Bool.not_false, if_true, if_false, Bool.false_eq_true, reduceIte, b_l_many, tk, ixt0, ixt1, ixt2, kk_num_num, kk_num_pad, kk_num_maybe, kk_num_rows, kk_num_group, kk_num_one, kk_pad_num, kk_pad_pad, kk_pad_maybe, kk_pad_rows, kk_pad_group, kk_pad_one, kk_maybe_num, kk_maybe_pad, kk_maybe_maybe, kk_maybe_rows, kk_maybe_group, kk_maybe_one, kk_rows_num, kk_rows_pad, kk_rows_maybe, kk_rows_rows, kk_rows_group, kk_rows_one, kk_group_num, kk_group_pad, kk_group_maybe, kk_group_rows, kk_group_group, kk_group_one, kk_one_num, kk_one_pad, kk_one_maybe, kk_one_rows, kk_one_group, kk_one_one, kk_read_read, kk_read_short, kk_read_left, kk_read_wrong, kk_short_read, kk_short_short, kk_short_left, kk_short_wrong, kk_left_read, kk_left_short, kk_left_left, kk_left_wrong, kk_wrong_read, kk_wrong_short, kk_wrong_left, kk_wrong_wrong, hrm n (by omega), hM, hW n hn, hV, f1, e]
  obtain ⟨k, hk1, hk2, st⟩ := st
  have fin : ∀ q : Nat, q ≤ k → q ≤ 2 ∨ q * W ≤ 520 := fun q hq => by
    rcases hk2 with z | z
    · exact .inl (by omega)
    · exact .inr (Nat.le_trans (Nat.mul_le_mul_right W hq) z)
  by_cases q3 : x % 4 = 3
  · have e := decide_eq_true q3
    have g1 : binD .mod (.int (x / 4)) (.int ((k : Int) + 1)) = .ok (.int (x / 4 % ((k : Int) + 1))) := bb_mod (by omega)
    have h0 := Int.emod_nonneg (x / 4) (show (k : Int) + 1 ≠ 0 by omega)
    have h1 := Int.emod_lt_of_pos (x / 4) (show (0 : Int) < (k : Int) + 1 by omega)
    obtain ⟨q, hq⟩ : ∃ q : Nat, x / 4 % ((k : Int) + 1) = q := ⟨(x / 4 % ((k : Int) + 1)).toNat, by omega⟩
    refine ⟨q, by omega, fin q (by omega), ans h (env := [(some (Sl.fr ((Shp.rows w s).d))), (some (Sl.fr (.int x))), none, none]) rfl rfl fun n hn => ?_⟩
    rw [xs_step 4 (st n (by omega))]
    simp -implicitDefEqProofs only [Q.xs, Q.xs1, ev, evs, evI, evC, evJ, bind_ok, bind_exc, exR_ok, exR_exc, seq_nx, seq_rt, seq_xc, varR_0, varR_S, bb_add, bb_sub, bb_mul2, bb_and, cc_lt, cc_le, cc_gt, cc_ge, cc_eq, cc_ne, cc_eqb, cc_eqs, ll_len, ll_lent, ll_list, ll_listt, ll_max2, ll_min2, toD_fr, toD_ow, lstR_ok, neg_i, erR_0, erR_S, catch_nx, catch_rt, catch_xc, sfin_rt, sfin_nx, noEr_n, noEr_f, noEr_o, noEr_0, no_int, no_list, no_tuple, no_none, no_bool, no_str, isiD, List.set_cons_zero, List.set_cons_succ, decide_true, decide_false, Bool.not_true, Bool.not_false, if_true, if_false, Bool.false_eq_true, reduceIte, b_l_many, dr, f4, e, d4, g1, hq]
  · have e := decide_eq_false q3
    obtain ⟨q, hq⟩ : ∃ q : Nat, (if (k : Int) < x % 4 then (k : Int) else x % 4) = q := ⟨(if (k : Int) < x % 4 then (k : Int) else x % 4).toNat, by split <;> omega⟩
    have hq2 : q ≤ k := by split at hq <;> omega
    refine ⟨q, by omega, fin q hq2, ans h (env := [(some (Sl.fr ((Shp.rows w s).d))), (some (Sl.fr (.int x))), none, none]) rfl rfl fun n hn => ?_⟩
    rw [xs_step 4 (st n (by omega))]
    simp -implicitDefEqProofs only [Q.xs, Q.xs1, ev, evs, evI, evC, evJ, bind_ok, bind_exc, exR_ok, exR_exc, seq_nx, seq_rt, seq_xc, varR_0, varR_S, bb_add, bb_sub, bb_mul2, bb_and, cc_lt, cc_le, cc_gt, cc_ge, cc_eq, cc_ne, cc_eqb, cc_eqs, ll_len, ll_lent, ll_list, ll_listt, ll_max2, ll_min2, toD_fr, toD_ow, lstR_ok, neg_i, erR_0, erR_S, catch_nx, catch_rt, catch_xc, sfin_rt, sfin_nx, noEr_n, noEr_f, noEr_o, noEr_0, no_int, no_list, no_tuple, no_none, no_bool, no_str, isiD, List.set_cons_zero, List.set_cons_succ, decide_true, decide_false, Bool.not_true, Bool.not_false, if_true, if_false, Bool.false_eq_true, reduceIte, b_l_many, dr, f4, e, hq]
end
end Q

set_option Elab.async false
set_option linter.all false
set_option maxRecDepth 100000
set_option autoImplicit false
namespace Q
open PySem (PyData Str)
theorem bb_lmul {xs : List PyData} {k : Int} (h : -(2 ^ 63) ≤ k ∧ k < 2 ^ 63 ∧ xs.length * k.toNat ≤ szl) : binD .mul (.list xs) (.int k) = .ok (.list (List.replicate k.toNat xs).flatten) := if_pos h
theorem flat_rep (d : PyData) : ∀ k : Nat, (List.replicate k [d]).flatten = List.replicate k d
  | 0 => rfl
  | k + 1 => by rw [List.replicate_succ, List.flatten_cons, flat_rep d k]; rfl
theorem rep1 (d : PyData) (q : Nat) (hq : q ≤ 16777216) : binD .mul (.list [d]) (.int (q : Int)) = .ok (.list (List.replicate q d)) := by
  have hz : szl = 16777216 := rfl
  rw [bb_lmul ⟨by omega, by omega, by rw [hz, Int.toNat_natCast, List.length_singleton]; omega⟩, Int.toNat_natCast, flat_rep]
def recL (I : Ix) : Sts := (.cons (.set 7 (.call I.l_record (.var 10) (.cons (.var 1) (.cons (.var 2) .nil)))) (.cons (.app 9 (.ix (.var 7) (.cI 0))) (.cons (.set 2 (.ix (.var 7) (.cI 1))) .nil)))
section
variable {m : Md} {I : Ix}
/-- what a shape's record is told by -/
def RecOk (m : Md) (I : Ix) (ns : List Int) (c : Nat) (s : Shp) : Prop := ∀ j : Nat, ∃ (r : PyData) (b : List PyData) (j' : Nat), Fit s r b ∧ b.length ≤ s.wb ∧ Ans m I.l_record [s.d, .list (ns.map .int), .int (j : Int)] c (.ok (.fr (.tuple [r, .int (j' : Int)])))
theorem rec_run (N e0 e3 e4 e5 e6 e8 : Option Sl) (ns : List Int) (c : Nat) (hN : N = (some (Sl.fr (.list (ns.map .int))))) : ∀ (ss : List Shp), (∀ s ∈ ss, RecOk m I ns c s) → ∀ (j : Nat) (acc : List PyData) (o7 o10 : Option Sl), acc.length + ss.length ≤ 1000 →
    ∃ (xs bs : List PyData) (j' : Nat) (o7' o10' : Option Sl), FitL ss xs bs ∧ bs.length ≤ Shp.wbs ss ∧ ∀ n, c ≤ n → floop (fun d env => Q.xs SS m.sub (m.Phi n) m.L (recL I) (env.set 10 (some (Sl.fr (d))))) (ss.map Shp.d) [e0, N, (some (Sl.fr (.int (j : Int)))), e3, e4, e5, e6, o7, e8, some (.ow acc), o10] = .nx [e0, N, (some (Sl.fr (.int (j' : Int)))), e3, e4, e5, e6, o7', e8, some (.ow (acc ++ xs)), o10']
  | [], _, j, acc, o7, o10, _ => ⟨[], [], j, o7, o10, .nil, by simp, fun n hn => by rw [List.append_nil]; rfl⟩
  | s :: ss, h, j, acc, o7, o10, hl => by
    subst hN
    obtain ⟨r, b, j1, hf, hb, hr⟩ := h s List.mem_cons_self j
    rw [List.length_cons] at hl
    obtain ⟨xs, bs, j', o7', o10', hfl, hbl, hrun⟩ := rec_run _ e0 e3 e4 e5 e6 e8 ns c rfl ss (fun t ht => h t (List.mem_cons_of_mem _ ht)) j1 (acc ++ [r]) (some (Sl.fr (.tuple [r, .int (j1 : Int)]))) (some (Sl.fr (s.d))) (by rw [List.length_append]; show acc.length + 1 + ss.length ≤ 1000; omega)
    refine ⟨r :: xs, b ++ bs, j', o7', o10', .cons hf hfl, by rw [List.length_append]; unfold Shp.wbs; omega, fun n hn => ?_⟩
    have hz : (acc.length < szl) = True := eq_true (by show acc.length < 16777216; omega)
    rw [List.map_cons, floop_cons (e := [e0, (some (Sl.fr (.list (ns.map .int)))), (some (Sl.fr (.int (j1 : Int)))), e3, e4, e5, e6, (some (Sl.fr (.tuple [r, .int (j1 : Int)]))), e8, some (.ow (acc ++ [r])), (some (Sl.fr (s.d)))]), hrun n hn, List.append_assoc]
    · rfl
    · simp -implicitDefEqProofs only [Q.xs, Q.xs1, ev, evs, evI, evC, evJ, bind_ok, bind_exc, exR_ok, exR_exc, seq_nx, seq_rt, seq_xc, varR_0, varR_S, bb_add, bb_sub, bb_mul2, bb_and, cc_lt, cc_le, cc_gt, cc_ge, cc_eq, cc_ne, cc_eqb, cc_eqs, ll_len, ll_lent, ll_list, ll_listt, ll_max2, ll_min2, toD_fr, toD_ow, lstR_ok, neg_i, erR_0, erR_S, catch_nx, catch_rt, catch_xc, sfin_rt, sfin_nx, noEr_n, noEr_f, noEr_o, noEr_0, no_int, no_list, no_tuple, no_none, no_bool, no_str, isiD, List.set_cons_zero, List.set_cons_succ, decide_true, decide_false, Bool.not_true, Bool.not_false, if_true, if_false, Bool.false_eq_true, reduceIte, recL, hr n hn, ixt0, ixt1, hz, List.getElem?_cons_zero, List.getElem?_cons_succ]
theorem a_record (h : At_l_record m I) (hn : At_l_number m I) (hm : At_l_many m I) (hw : At_l_wide m I) (hr : At_l_room m I) (ns : List Int) (hl : ns.length ≤ 63) : ∀ s : Shp, s.ok → RecOk m I ns (s.dep + 4) s := by
  refine Shp.ind ?_ ?_ ?_ ?_ ?_ ?_
  · intro w lo hi ok j
    obtain ⟨x, hx⟩ := numE hn ns hl j
    obtain ⟨hw, hlh, hsp, hlo, hhi⟩ := ok
    have f5 : binD .mod (.int x) (.int 5) = .ok (.int (x % 5)) := bb_mod (by decide)
    have d5 : binD .fdiv (.int x) (.int 5) = .ok (.int (x / 5)) := bb_fdiv (by decide) (by decide)
    have fm : binD .mod (.int (x / 5)) (.int (hi - lo + 1)) = .ok (.int (x / 5 % (hi - lo + 1))) := bb_mod (by omega)
    have st : ∃ p : Int, 0 ≤ p ∧ lo + p ≤ hi ∧ ∀ n, 1 ≤ n → xs SS m.sub (m.Phi n) m.L (b_l_record I) [(some (Sl.fr ((Shp.num w lo hi).d))), (some (Sl.fr (.list (ns.map .int)))), (some (Sl.fr (.int (j : Int)))), none, none, none, none, none, none, none, none] = .rt (.fr (.tuple [.int (lo + p), .int ((j : Int) + 1)])) := by
      by_cases q1 : x % 5 = 1
      · have e1 := decide_eq_true q1
        have e2 : decide (x % 5 = 2) = false := decide_eq_false (by omega)
        refine ⟨hi - lo + 1 - 1, by omega, by omega, fun n h1 => ?_⟩
        simp only [Shp.d]
        simp -implicitDefEqProofs only [Q.xs, Q.xs1, ev, evs, evI, evC, evJ, bind_ok, bind_exc, exR_ok, exR_exc, seq_nx, seq_rt, seq_xc, varR_0, varR_S, bb_add, bb_sub, bb_mul2, bb_and, cc_lt, cc_le, cc_gt, cc_ge, cc_eq, cc_ne, cc_eqb, cc_eqs, ll_len, ll_lent, ll_list, ll_listt, ll_max2, ll_min2, toD_fr, toD_ow, lstR_ok, neg_i, erR_0, erR_S, catch_nx, catch_rt, catch_xc, sfin_rt, sfin_nx, noEr_n, noEr_f, noEr_o, noEr_0, no_int, no_list, no_tuple, no_none, no_bool, no_str, isiD, List.set_cons_zero, List.set_cons_succ, decide_true, decide_false, Bool.not_true, Bool.not_false, if_true, if_false, Bool.false_eq_true, reduceIte, b_l_record, hx n h1, ixt0, ixt1, ixt2, ixt3, kk_num_num, kk_num_pad, kk_num_maybe, kk_num_rows, kk_num_group, kk_num_one, kk_pad_num, kk_pad_pad, kk_pad_maybe, kk_pad_rows, kk_pad_group, kk_pad_one, kk_maybe_num, kk_maybe_pad, kk_maybe_maybe, kk_maybe_rows, kk_maybe_group, kk_maybe_one, kk_rows_num, kk_rows_pad, kk_rows_maybe, kk_rows_rows, kk_rows_group, kk_rows_one, kk_group_num, kk_group_pad, kk_group_maybe, kk_group_rows, kk_group_group, kk_group_one, kk_one_num, kk_one_pad, kk_one_maybe, kk_one_rows, kk_one_group, kk_one_one, kk_read_read, kk_read_short, kk_read_left, kk_read_wrong, kk_short_read, kk_short_short, kk_short_left, kk_short_wrong, kk_left_read, kk_left_short, kk_left_left, kk_left_wrong, kk_wrong_read, kk_wrong_short, kk_wrong_left, kk_wrong_wrong, f5, d5, fm, e1, e2, l2]
      · have e1 := decide_eq_false q1
        by_cases q2 : x % 5 = 2
        · have e2 := decide_eq_true q2
          refine ⟨0, by omega, by omega, fun n h1 => ?_⟩
          simp only [Shp.d]
          simp -implicitDefEqProofs only [Q.xs, Q.xs1, ev, evs, evI, evC, evJ, bind_ok, bind_exc, exR_ok, exR_exc, seq_nx, seq_rt, seq_xc, varR_0, varR_S, bb_add, bb_sub, bb_mul2, bb_and, cc_lt, cc_le, cc_gt, cc_ge, cc_eq, cc_ne, cc_eqb, cc_eqs, ll_len, ll_lent, ll_list, ll_listt, ll_max2, ll_min2, toD_fr, toD_ow, lstR_ok, neg_i, erR_0, erR_S, catch_nx, catch_rt, catch_xc, sfin_rt, sfin_nx, noEr_n, noEr_f, noEr_o, noEr_0, no_int, no_list, no_tuple, no_none, no_bool, no_str, isiD, List.set_cons_zero, List.set_cons_succ, decide_true, decide_false, Bool.not_true, Bool.not_false, if_true, if_false, Bool.false_eq_true, reduceIte, b_l_record, hx n h1, ixt0, ixt1, ixt2, ixt3, kk_num_num, kk_num_pad, kk_num_maybe, kk_num_rows, kk_num_group, kk_num_one, kk_pad_num, kk_pad_pad, kk_pad_maybe, kk_pad_rows, kk_pad_group, kk_pad_one, kk_maybe_num, kk_maybe_pad, kk_maybe_maybe, kk_maybe_rows, kk_maybe_group, kk_maybe_one, kk_rows_num, kk_rows_pad, kk_rows_maybe, kk_rows_rows, kk_rows_group, kk_rows_one, kk_group_num, kk_group_pad, kk_group_maybe, kk_group_rows, kk_group_group, kk_group_one, kk_one_num, kk_one_pad, kk_one_maybe, kk_one_rows, kk_one_group, kk_one_one, kk_read_read, kk_read_short, kk_read_left, kk_read_wrong, kk_short_read, kk_short_short, kk_short_left, kk_short_wrong, kk_left_read, kk_left_short, kk_left_left, kk_left_wrong, kk_wrong_read, kk_wrong_short, kk_wrong_left, kk_wrong_wrong, f5, d5, fm, e1, e2, l2]
        · have e2 := decide_eq_false q2
          have h0 := Int.emod_nonneg (x / 5) (show hi - lo + 1 ≠ 0 by omega)
          have h1 := Int.emod_lt_of_pos (x / 5) (show (0 : Int) < hi - lo + 1 by omega)
          refine ⟨x / 5 % (hi - lo + 1), by omega, by omega, fun n h1 => ?_⟩
          simp only [Shp.d]
          simp -implicitDefEqProofs only [Q.xs, Q.xs1, ev, evs, evI, evC, evJ, bind_ok, bind_exc, exR_ok, exR_exc, seq_nx, seq_rt, seq_xc, varR_0, varR_S, bb_add, bb_sub, bb_mul2, bb_and, cc_lt, cc_le, cc_gt, cc_ge, cc_eq, cc_ne, cc_eqb, cc_eqs, ll_len, ll_lent, ll_list, ll_listt, ll_max2, ll_min2, toD_fr, toD_ow, lstR_ok, neg_i, erR_0, erR_S, catch_nx, catch_rt, catch_xc, sfin_rt, sfin_nx, noEr_n, noEr_f, noEr_o, noEr_0, no_int, no_list, no_tuple, no_none, no_bool, no_str, isiD, List.set_cons_zero, List.set_cons_succ, decide_true, decide_false, Bool.not_true, Bool.not_false, if_true, if_false, Bool.false_eq_true, reduceIte, b_l_record, hx n h1, ixt0, ixt1, ixt2, ixt3, kk_num_num, kk_num_pad, kk_num_maybe, kk_num_rows, kk_num_group, kk_num_one, kk_pad_num, kk_pad_pad, kk_pad_maybe, kk_pad_rows, kk_pad_group, kk_pad_one, kk_maybe_num, kk_maybe_pad, kk_maybe_maybe, kk_maybe_rows, kk_maybe_group, kk_maybe_one, kk_rows_num, kk_rows_pad, kk_rows_maybe, kk_rows_rows, kk_rows_group, kk_rows_one, kk_group_num, kk_group_pad, kk_group_maybe, kk_group_rows, kk_group_group, kk_group_one, kk_one_num, kk_one_pad, kk_one_maybe, kk_one_rows, kk_one_group, kk_one_one, kk_read_read, kk_read_short, kk_read_left, kk_read_wrong, kk_short_read, kk_short_short, kk_short_left, kk_short_wrong, kk_left_read, kk_left_short, kk_left_left, kk_left_wrong, kk_wrong_read, kk_wrong_short, kk_wrong_left, kk_wrong_wrong, f5, d5, fm, e1, e2, l2]
    obtain ⟨p, h0, h1, st⟩ := st
    refine ⟨.int (lo + p), _, j + 1, .num (by omega) h1, by rw [wr_len]; exact Nat.le_refl _, ans h (env := [(some (Sl.fr ((Shp.num w lo hi).d))), (some (Sl.fr (.list (ns.map .int)))), (some (Sl.fr (.int (j : Int)))), none, none, none, none, none, none, none, none]) rfl rfl fun n hn => ?_⟩
    rw [st n (by omega)]
    rfl
  · intro w ok j
    obtain ⟨x, hx⟩ := numE hn ns hl j
    refine ⟨.none, _, j, .pad, by rw [List.length_replicate]; exact Nat.le_refl _, ans h (env := [(some (Sl.fr ((Shp.pad w).d))), (some (Sl.fr (.list (ns.map .int)))), (some (Sl.fr (.int (j : Int)))), none, none, none, none, none, none, none, none]) rfl rfl fun n hn => ?_⟩
    simp only [Shp.d]
    simp -implicitDefEqProofs only [Q.xs, Q.xs1, ev, evs, evI, evC, evJ, bind_ok, bind_exc, exR_ok, exR_exc, seq_nx, seq_rt, seq_xc, varR_0, varR_S, bb_add, bb_sub, bb_mul2, bb_and, cc_lt, cc_le, cc_gt, cc_ge, cc_eq, cc_ne, cc_eqb, cc_eqs, ll_len, ll_lent, ll_list, ll_listt, ll_max2, ll_min2, toD_fr, toD_ow, lstR_ok, neg_i, erR_0, erR_S, catch_nx, catch_rt, catch_xc, sfin_rt, sfin_nx, noEr_n, noEr_f, noEr_o, noEr_0, no_int, no_list, no_tuple, no_none, no_bool, no_str, isiD, List.set_cons_zero, List.set_cons_succ, decide_true, decide_false, Bool.not_true, Bool.not_false, if_true, if_false, Bool.false_eq_true, reduceIte, b_l_record, hx n (by omega), ixt0, kk_num_num, kk_num_pad, kk_num_maybe, kk_num_rows, kk_num_group, kk_num_one, kk_pad_num, kk_pad_pad, kk_pad_maybe, kk_pad_rows, kk_pad_group, kk_pad_one, kk_maybe_num, kk_maybe_pad, kk_maybe_maybe, kk_maybe_rows, kk_maybe_group, kk_maybe_one, kk_rows_num, kk_rows_pad, kk_rows_maybe, kk_rows_rows, kk_rows_group, kk_rows_one, kk_group_num, kk_group_pad, kk_group_maybe, kk_group_rows, kk_group_group, kk_group_one, kk_one_num, kk_one_pad, kk_one_maybe, kk_one_rows, kk_one_group, kk_one_one, kk_read_read, kk_read_short, kk_read_left, kk_read_wrong, kk_short_read, kk_short_short, kk_short_left, kk_short_wrong, kk_left_read, kk_left_short, kk_left_left, kk_left_wrong, kk_wrong_read, kk_wrong_short, kk_wrong_left, kk_wrong_wrong, l2]
  · intro s ih ok j
    obtain ⟨x, hx⟩ := numE hn ns hl j
    obtain ⟨q, hq, hmq⟩ := a_many1 hm s x
    obtain ⟨xs, bs, j', o7, o10, hf, hb, run⟩ := rec_run (m := m) (I := I) _ (some (Sl.fr ((Shp.maybe s).d))) (some (Sl.fr (.int x))) (some (Sl.fr (.str "maybe"))) none none (some (Sl.fr (.list (List.replicate q s.d)))) ns (s.dep + 4) rfl (List.replicate q s) (fun t ht => by rw [List.eq_of_mem_replicate ht]; exact ih ok) (j + 1) [] none none (by rw [List.length_replicate]; simp; omega)
    have hlen := hf.len
    rw [List.length_replicate] at hlen
    subst hlen
    have hB := Shp.wbs_le (ss := List.replicate xs.length s) (B := s.wb) fun t ht => by rw [List.eq_of_mem_replicate ht]; exact Nat.le_refl _
    rw [List.length_replicate] at hB
    have hB2 : xs.length * s.wb ≤ 1 * s.wb := Nat.mul_le_mul_right _ hq
    refine ⟨.list xs, _, j', .maybe hq hf, by rw [List.length_append, wr_len]; unfold Shp.wb; omega, ans h (env := [(some (Sl.fr ((Shp.maybe s).d))), (some (Sl.fr (.list (ns.map .int)))), (some (Sl.fr (.int (j : Int)))), none, none, none, none, none, none, none, none]) rfl rfl fun n hn => ?_⟩
    simp only [Shp.dep] at hn
    have st : Q.xs SS m.sub (m.Phi n) m.L (tk 7 (b_l_record I)) [(some (Sl.fr ((Shp.maybe s).d))), (some (Sl.fr (.list (ns.map .int)))), (some (Sl.fr (.int (j : Int)))), none, none, none, none, none, none, none, none] = .nx [(some (Sl.fr ((Shp.maybe s).d))), (some (Sl.fr (.list (ns.map .int)))), (some (Sl.fr (.int ((j : Int) + 1)))), (some (Sl.fr (.int x))), (some (Sl.fr (.str "maybe"))), none, none, none, (some (Sl.fr (.list (List.replicate xs.length s.d)))), some (.ow []), none] := by
      have hm := hmq n (by omega)
      simp only [Shp.d] at hm ⊢
      simp -implicitDefEqProofs only [Q.xs, Q.xs1, ev, evs, evI, evC, evJ, bind_ok, bind_exc, exR_ok, exR_exc, seq_nx, seq_rt, seq_xc, varR_0, varR_S, bb_add, bb_sub, bb_mul2, bb_and, cc_lt, cc_le, cc_gt, cc_ge, cc_eq, cc_ne, cc_eqb, cc_eqs, ll_len, ll_lent, ll_list, ll_listt, ll_max2, ll_min2, toD_fr, toD_ow, lstR_ok, neg_i, erR_0, erR_S, catch_nx, catch_rt, catch_xc, sfin_rt, sfin_nx, noEr_n, noEr_f, noEr_o, noEr_0, no_int, no_list, no_tuple, no_none, no_bool, no_str, isiD, List.set_cons_zero, List.set_cons_succ, decide_true, decide_false, Bool.not_true, Bool.not_false, if_true, if_false, Bool.false_eq_true, reduceIte, b_l_record, tk, hx n (by omega), ixt0, ixe2, kk_num_num, kk_num_pad, kk_num_maybe, kk_num_rows, kk_num_group, kk_num_one, kk_pad_num, kk_pad_pad, kk_pad_maybe, kk_pad_rows, kk_pad_group, kk_pad_one, kk_maybe_num, kk_maybe_pad, kk_maybe_maybe, kk_maybe_rows, kk_maybe_group, kk_maybe_one, kk_rows_num, kk_rows_pad, kk_rows_maybe, kk_rows_rows, kk_rows_group, kk_rows_one, kk_group_num, kk_group_pad, kk_group_maybe, kk_group_rows, kk_group_group, kk_group_one, kk_one_num, kk_one_pad, kk_one_maybe, kk_one_rows, kk_one_group, kk_one_one, kk_read_read, kk_read_short, kk_read_left, kk_read_wrong, kk_short_read, kk_short_short, kk_short_left, kk_short_wrong, kk_left_read, kk_left_short, kk_left_left, kk_left_wrong, kk_wrong_read, kk_wrong_short, kk_wrong_left, kk_wrong_wrong, hm, rep1 s.d xs.length (by omega), l0, l1]
    rw [xs_step 7 st]
    have hi : evI SS (m.Phi n) (.lst (.var 8)) [(some (Sl.fr ((Shp.maybe s).d))), (some (Sl.fr (.list (ns.map .int)))), (some (Sl.fr (.int ((j : Int) + 1)))), (some (Sl.fr (.int x))), (some (Sl.fr (.str "maybe"))), none, none, none, (some (Sl.fr (.list (List.replicate xs.length s.d)))), some (.ow []), none] = .ok ((List.replicate xs.length s).map Shp.d) := by
      simp -implicitDefEqProofs only [Q.xs, Q.xs1, ev, evs, evI, evC, evJ, bind_ok, bind_exc, exR_ok, exR_exc, seq_nx, seq_rt, seq_xc, varR_0, varR_S, bb_add, bb_sub, bb_mul2, bb_and, cc_lt, cc_le, cc_gt, cc_ge, cc_eq, cc_ne, cc_eqb, cc_eqs, ll_len, ll_lent, ll_list, ll_listt, ll_max2, ll_min2, toD_fr, toD_ow, lstR_ok, neg_i, erR_0, erR_S, catch_nx, catch_rt, catch_xc, sfin_rt, sfin_nx, noEr_n, noEr_f, noEr_o, noEr_0, no_int, no_list, no_tuple, no_none, no_bool, no_str, isiD, List.set_cons_zero, List.set_cons_succ, decide_true, decide_false, Bool.not_true, Bool.not_false, if_true, if_false, Bool.false_eq_true, reduceIte]
      rw [List.map_replicate]
    rw [show dr 7 (b_l_record I) = .cons (.forI 10 (.lst (.var 8)) (recL I)) (.cons (.frz 9) (.cons (.ret (.tup (.cons (.var 9) (.cons (.var 2) .nil)))) .nil)) from rfl, xs_for, hi, exR_ok]
    have run := run n (by omega)
    rw [List.nil_append] at run
    rw [show ((j : Int) + 1) = ((j + 1 : Nat) : Int) by omega, run]
    simp -implicitDefEqProofs only [Q.xs, Q.xs1, ev, evs, evI, evC, evJ, bind_ok, bind_exc, exR_ok, exR_exc, seq_nx, seq_rt, seq_xc, varR_0, varR_S, bb_add, bb_sub, bb_mul2, bb_and, cc_lt, cc_le, cc_gt, cc_ge, cc_eq, cc_ne, cc_eqb, cc_eqs, ll_len, ll_lent, ll_list, ll_listt, ll_max2, ll_min2, toD_fr, toD_ow, lstR_ok, neg_i, erR_0, erR_S, catch_nx, catch_rt, catch_xc, sfin_rt, sfin_nx, noEr_n, noEr_f, noEr_o, noEr_0, no_int, no_list, no_tuple, no_none, no_bool, no_str, isiD, List.set_cons_zero, List.set_cons_succ, decide_true, decide_false, Bool.not_true, Bool.not_false, if_true, if_false, Bool.false_eq_true, reduceIte, l2, List.getElem?_cons_zero, List.getElem?_cons_succ]
  · intro w s ih ok j
    obtain ⟨x, hx⟩ := numE hn ns hl j
    obtain ⟨W, w1, w2, w3⟩ := a_wide hw hr s ok.2.2
    have hW : W < 2 ^ 29 := by
      have : 300 ^ s.dep ≤ 300 ^ 3 := Nat.pow_le_pow_right (n := 300) (by decide) ok.2.1
      omega
    obtain ⟨q, hq, hq2, hmq⟩ := a_many hm hr w ok.1 s W (s.dep + 1) (by omega) w3 hW x
    have t8 := two8 ok.1
    obtain ⟨rs, bs, j', o7, o10, hf, hb, run⟩ := rec_run (m := m) (I := I) _ (some (Sl.fr ((Shp.rows w s).d))) (some (Sl.fr (.int x))) (some (Sl.fr (.str "rows"))) none none (some (Sl.fr (.list (List.replicate q s.d)))) ns (s.dep + 4) rfl (List.replicate q s) (fun t ht => by rw [List.eq_of_mem_replicate ht]; exact ih ok.2.2) (j + 1) [] none none (by rw [List.length_replicate]; simp; omega)
    have hlen := hf.len
    rw [List.length_replicate] at hlen
    subst hlen
    have hB := Shp.wbs_le (ss := List.replicate rs.length s) (B := s.wb) fun t ht => by rw [List.eq_of_mem_replicate ht]; exact Nat.le_refl _
    rw [List.length_replicate] at hB
    have hB2 := hf.le_rep w2
    have hB3 : bs.length ≤ max (2 * s.wb) 520 := by
      rcases hq2 with z | z
      · have : rs.length * s.wb ≤ 2 * s.wb := Nat.mul_le_mul_right _ z
        omega
      · omega
    refine ⟨.list rs, _, j', .rows hq hf, by rw [List.length_append, wr_len]; unfold Shp.wb; omega, ans h (env := [(some (Sl.fr ((Shp.rows w s).d))), (some (Sl.fr (.list (ns.map .int)))), (some (Sl.fr (.int (j : Int)))), none, none, none, none, none, none, none, none]) rfl rfl fun n hn => ?_⟩
    simp only [Shp.dep] at hn
    have st : Q.xs SS m.sub (m.Phi n) m.L (tk 7 (b_l_record I)) [(some (Sl.fr ((Shp.rows w s).d))), (some (Sl.fr (.list (ns.map .int)))), (some (Sl.fr (.int (j : Int)))), none, none, none, none, none, none, none, none] = .nx [(some (Sl.fr ((Shp.rows w s).d))), (some (Sl.fr (.list (ns.map .int)))), (some (Sl.fr (.int ((j : Int) + 1)))), (some (Sl.fr (.int x))), (some (Sl.fr (.str "rows"))), none, none, none, (some (Sl.fr (.list (List.replicate rs.length s.d)))), some (.ow []), none] := by
      have hm := hmq n (by omega)
      simp only [Shp.d] at hm ⊢
      simp -implicitDefEqProofs only [Q.xs, Q.xs1, ev, evs, evI, evC, evJ, bind_ok, bind_exc, exR_ok, exR_exc, seq_nx, seq_rt, seq_xc, varR_0, varR_S, bb_add, bb_sub, bb_mul2, bb_and, cc_lt, cc_le, cc_gt, cc_ge, cc_eq, cc_ne, cc_eqb, cc_eqs, ll_len, ll_lent, ll_list, ll_listt, ll_max2, ll_min2, toD_fr, toD_ow, lstR_ok, neg_i, erR_0, erR_S, catch_nx, catch_rt, catch_xc, sfin_rt, sfin_nx, noEr_n, noEr_f, noEr_o, noEr_0, no_int, no_list, no_tuple, no_none, no_bool, no_str, isiD, List.set_cons_zero, List.set_cons_succ, decide_true, decide_false, Bool.not_true, Bool.not_false, if_true, if_false, Bool.false_eq_true, reduceIte, b_l_record, tk, hx n (by omega), ixt0, ixe3, kk_num_num, kk_num_pad, kk_num_maybe, kk_num_rows, kk_num_group, kk_num_one, kk_pad_num, kk_pad_pad, kk_pad_maybe, kk_pad_rows, kk_pad_group, kk_pad_one, kk_maybe_num, kk_maybe_pad, kk_maybe_maybe, kk_maybe_rows, kk_maybe_group, kk_maybe_one, kk_rows_num, kk_rows_pad, kk_rows_maybe, kk_rows_rows, kk_rows_group, kk_rows_one, kk_group_num, kk_group_pad, kk_group_maybe, kk_group_rows, kk_group_group, kk_group_one, kk_one_num, kk_one_pad, kk_one_maybe, kk_one_rows, kk_one_group, kk_one_one, kk_read_read, kk_read_short, kk_read_left, kk_read_wrong, kk_short_read, kk_short_short, kk_short_left, kk_short_wrong, kk_left_read, kk_left_short, kk_left_left, kk_left_wrong, kk_wrong_read, kk_wrong_short, kk_wrong_left, kk_wrong_wrong, hm, rep1 s.d rs.length (by omega), l0, l1]
    rw [xs_step 7 st]
    have hi : evI SS (m.Phi n) (.lst (.var 8)) [(some (Sl.fr ((Shp.rows w s).d))), (some (Sl.fr (.list (ns.map .int)))), (some (Sl.fr (.int ((j : Int) + 1)))), (some (Sl.fr (.int x))), (some (Sl.fr (.str "rows"))), none, none, none, (some (Sl.fr (.list (List.replicate rs.length s.d)))), some (.ow []), none] = .ok ((List.replicate rs.length s).map Shp.d) := by
      simp -implicitDefEqProofs only [Q.xs, Q.xs1, ev, evs, evI, evC, evJ, bind_ok, bind_exc, exR_ok, exR_exc, seq_nx, seq_rt, seq_xc, varR_0, varR_S, bb_add, bb_sub, bb_mul2, bb_and, cc_lt, cc_le, cc_gt, cc_ge, cc_eq, cc_ne, cc_eqb, cc_eqs, ll_len, ll_lent, ll_list, ll_listt, ll_max2, ll_min2, toD_fr, toD_ow, lstR_ok, neg_i, erR_0, erR_S, catch_nx, catch_rt, catch_xc, sfin_rt, sfin_nx, noEr_n, noEr_f, noEr_o, noEr_0, no_int, no_list, no_tuple, no_none, no_bool, no_str, isiD, List.set_cons_zero, List.set_cons_succ, decide_true, decide_false, Bool.not_true, Bool.not_false, if_true, if_false, Bool.false_eq_true, reduceIte]
      rw [List.map_replicate]
    rw [show dr 7 (b_l_record I) = .cons (.forI 10 (.lst (.var 8)) (recL I)) (.cons (.frz 9) (.cons (.ret (.tup (.cons (.var 9) (.cons (.var 2) .nil)))) .nil)) from rfl, xs_for, hi, exR_ok]
    have run := run n (by omega)
    rw [List.nil_append] at run
    rw [show ((j : Int) + 1) = ((j + 1 : Nat) : Int) by omega, run]
    simp -implicitDefEqProofs only [Q.xs, Q.xs1, ev, evs, evI, evC, evJ, bind_ok, bind_exc, exR_ok, exR_exc, seq_nx, seq_rt, seq_xc, varR_0, varR_S, bb_add, bb_sub, bb_mul2, bb_and, cc_lt, cc_le, cc_gt, cc_ge, cc_eq, cc_ne, cc_eqb, cc_eqs, ll_len, ll_lent, ll_list, ll_listt, ll_max2, ll_min2, toD_fr, toD_ow, lstR_ok, neg_i, erR_0, erR_S, catch_nx, catch_rt, catch_xc, sfin_rt, sfin_nx, noEr_n, noEr_f, noEr_o, noEr_0, no_int, no_list, no_tuple, no_none, no_bool, no_str, isiD, List.set_cons_zero, List.set_cons_succ, decide_true, decide_false, Bool.not_true, Bool.not_false, if_true, if_false, Bool.false_eq_true, reduceIte, l2, List.getElem?_cons_zero, List.getElem?_cons_succ]
  · intro ss ih ok j
    obtain ⟨x, hx⟩ := numE hn ns hl j
    have oks := Shp.oks_iff.mp ok.2
    obtain ⟨rs, bs, j', o7, o10, hf, hb, run⟩ := rec_run (m := m) (I := I) _ (some (Sl.fr ((Shp.group ss).d))) (some (Sl.fr (.int x))) (some (Sl.fr (.str "group"))) none none (some (Sl.fr (.list (ss.map Shp.d)))) ns (Shp.deps ss + 4) rfl ss (fun t ht j => by
      obtain ⟨r, b, j', p1, p2, p3⟩ := ih t ht (oks t ht) j
      exact ⟨r, b, j', p1, p2, p3.up (by have := Shp.dep_mem ht; omega)⟩) j [] none none (by have := ok.1; simp; omega)
    refine ⟨.list rs, bs, j', .group hf, by unfold Shp.wb; exact hb, ans h (env := [(some (Sl.fr ((Shp.group ss).d))), (some (Sl.fr (.list (ns.map .int)))), (some (Sl.fr (.int (j : Int)))), none, none, none, none, none, none, none, none]) rfl rfl fun n hn => ?_⟩
    simp only [Shp.dep] at hn
    have st : Q.xs SS m.sub (m.Phi n) m.L (tk 7 (b_l_record I)) [(some (Sl.fr ((Shp.group ss).d))), (some (Sl.fr (.list (ns.map .int)))), (some (Sl.fr (.int (j : Int)))), none, none, none, none, none, none, none, none] = .nx [(some (Sl.fr ((Shp.group ss).d))), (some (Sl.fr (.list (ns.map .int)))), (some (Sl.fr (.int (j : Int)))), (some (Sl.fr (.int x))), (some (Sl.fr (.str "group"))), none, none, none, (some (Sl.fr (.list (ss.map Shp.d)))), some (.ow []), none] := by
      simp only [Shp.d, Shp.ds_map]
      simp -implicitDefEqProofs only [Q.xs, Q.xs1, ev, evs, evI, evC, evJ, bind_ok, bind_exc, exR_ok, exR_exc, seq_nx, seq_rt, seq_xc, varR_0, varR_S, bb_add, bb_sub, bb_mul2, bb_and, cc_lt, cc_le, cc_gt, cc_ge, cc_eq, cc_ne, cc_eqb, cc_eqs, ll_len, ll_lent, ll_list, ll_listt, ll_max2, ll_min2, toD_fr, toD_ow, lstR_ok, neg_i, erR_0, erR_S, catch_nx, catch_rt, catch_xc, sfin_rt, sfin_nx, noEr_n, noEr_f, noEr_o, noEr_0, no_int, no_list, no_tuple, no_none, no_bool, no_str, isiD, List.set_cons_zero, List.set_cons_succ, decide_true, decide_false, Bool.not_true, Bool.not_false, if_true, if_false, Bool.false_eq_true, reduceIte, b_l_record, tk, hx n (by omega), ixt0, ixt1, kk_num_num, kk_num_pad, kk_num_maybe, kk_num_rows, kk_num_group, kk_num_one, kk_pad_num, kk_pad_pad, kk_pad_maybe, kk_pad_rows, kk_pad_group, kk_pad_one, kk_maybe_num, kk_maybe_pad, kk_maybe_maybe, kk_maybe_rows, kk_maybe_group, kk_maybe_one, kk_rows_num, kk_rows_pad, kk_rows_maybe, kk_rows_rows, kk_rows_group, kk_rows_one, kk_group_num, kk_group_pad, kk_group_maybe, kk_group_rows, kk_group_group, kk_group_one, kk_one_num, kk_one_pad, kk_one_maybe, kk_one_rows, kk_one_group, kk_one_one, kk_read_read, kk_read_short, kk_read_left, kk_read_wrong, kk_short_read, kk_short_short, kk_short_left, kk_short_wrong, kk_left_read, kk_left_short, kk_left_left, kk_left_wrong, kk_wrong_read, kk_wrong_short, kk_wrong_left, kk_wrong_wrong, l0, l1]
    rw [xs_step 7 st]
    have hi : evI SS (m.Phi n) (.lst (.var 8)) [(some (Sl.fr ((Shp.group ss).d))), (some (Sl.fr (.list (ns.map .int)))), (some (Sl.fr (.int (j : Int)))), (some (Sl.fr (.int x))), (some (Sl.fr (.str "group"))), none, none, none, (some (Sl.fr (.list (ss.map Shp.d)))), some (.ow []), none] = .ok (ss.map Shp.d) := by
      simp -implicitDefEqProofs only [Q.xs, Q.xs1, ev, evs, evI, evC, evJ, bind_ok, bind_exc, exR_ok, exR_exc, seq_nx, seq_rt, seq_xc, varR_0, varR_S, bb_add, bb_sub, bb_mul2, bb_and, cc_lt, cc_le, cc_gt, cc_ge, cc_eq, cc_ne, cc_eqb, cc_eqs, ll_len, ll_lent, ll_list, ll_listt, ll_max2, ll_min2, toD_fr, toD_ow, lstR_ok, neg_i, erR_0, erR_S, catch_nx, catch_rt, catch_xc, sfin_rt, sfin_nx, noEr_n, noEr_f, noEr_o, noEr_0, no_int, no_list, no_tuple, no_none, no_bool, no_str, isiD, List.set_cons_zero, List.set_cons_succ, decide_true, decide_false, Bool.not_true, Bool.not_false, if_true, if_false, Bool.false_eq_true, reduceIte]
    rw [show dr 7 (b_l_record I) = .cons (.forI 10 (.lst (.var 8)) (recL I)) (.cons (.frz 9) (.cons (.ret (.tup (.cons (.var 9) (.cons (.var 2) .nil)))) .nil)) from rfl, xs_for, hi, exR_ok]
    have run := run n (by omega)
    rw [List.nil_append] at run
    rw [run]
    simp -implicitDefEqProofs only [Q.xs, Q.xs1, ev, evs, evI, evC, evJ, bind_ok, bind_exc, exR_ok, exR_exc, seq_nx, seq_rt, seq_xc, varR_0, varR_S, bb_add, bb_sub, bb_mul2, bb_and, cc_lt, cc_le, cc_gt, cc_ge, cc_eq, cc_ne, cc_eqb, cc_eqs, ll_len, ll_lent, ll_list, ll_listt, ll_max2, ll_min2, toD_fr, toD_ow, lstR_ok, neg_i, erR_0, erR_S, catch_nx, catch_rt, catch_xc, sfin_rt, sfin_nx, noEr_n, noEr_f, noEr_o, noEr_0, no_int, no_list, no_tuple, no_none, no_bool, no_str, isiD, List.set_cons_zero, List.set_cons_succ, decide_true, decide_false, Bool.not_true, Bool.not_false, if_true, if_false, Bool.false_eq_true, reduceIte, l2, List.getElem?_cons_zero, List.getElem?_cons_succ]
  · intro w ss ih ok j
    obtain ⟨x, hx⟩ := numE hn ns hl j
    have oks := Shp.oks_iff.mp ok.2.2.2.2
    have h0 := Int.emod_nonneg x (show (ss.length : Int) ≠ 0 by have := ok.2.1; omega)
    have h1 := Int.emod_lt_of_pos x (show (0 : Int) < (ss.length : Int) by have := ok.2.1; omega)
    obtain ⟨p, hp⟩ : ∃ p : Nat, x % (ss.length : Int) = p := ⟨(x % (ss.length : Int)).toNat, by omega⟩
    have hpl : p < ss.length := by omega
    have hm := List.getElem_mem hpl
    obtain ⟨r, b, j', p1, p2, p3⟩ := ih ss[p] hm (oks _ hm) (j + 1)
    have ex : ixR (.list (ss.map Shp.d)) (.int (p : Int)) = .ok ss[p].d := ix_l (by rw [List.getElem?_map, List.getElem?_eq_getElem hpl]; rfl)
    have fm : binD .mod (.int x) (.int ((ss.map Shp.d).length : Int)) = .ok (.int (p : Int)) := by
      rw [List.length_map, bb_mod (by omega), hp]
    have hwb : ss[p].wb ≤ Shp.wbs ss := by
      have key : ∀ (l : List Shp) (t : Shp), t ∈ l → t.wb ≤ Shp.wbs l := fun l => by
        induction l with
        | nil => intro t ht; cases ht
        | cons a l ihl =>
          intro t ht
          unfold Shp.wbs
          rcases List.mem_cons.mp ht with rfl | ht
          · omega
          · have := ihl t ht
            omega
      exact key ss _ hm
    refine ⟨.tuple [.int p, r], _, j', .one (List.getElem?_eq_getElem hpl) p1, by rw [List.length_append, wr_len]; unfold Shp.wb; omega, ans h (env := [(some (Sl.fr ((Shp.one w ss).d))), (some (Sl.fr (.list (ns.map .int)))), (some (Sl.fr (.int (j : Int)))), none, none, none, none, none, none, none, none]) rfl rfl fun n hn => ?_⟩
    simp only [Shp.dep] at hn
    have hr := p3 n (by have := Shp.dep_mem hm; omega)
    rw [show ((j + 1 : Nat) : Int) = (j : Int) + 1 by omega] at hr
    simp only [Shp.d, Shp.ds_map]
    simp -implicitDefEqProofs only [Q.xs, Q.xs1, ev, evs, evI, evC, evJ, bind_ok, bind_exc, exR_ok, exR_exc, seq_nx, seq_rt, seq_xc, varR_0, varR_S, bb_add, bb_sub, bb_mul2, bb_and, cc_lt, cc_le, cc_gt, cc_ge, cc_eq, cc_ne, cc_eqb, cc_eqs, ll_len, ll_lent, ll_list, ll_listt, ll_max2, ll_min2, toD_fr, toD_ow, lstR_ok, neg_i, erR_0, erR_S, catch_nx, catch_rt, catch_xc, sfin_rt, sfin_nx, noEr_n, noEr_f, noEr_o, noEr_0, no_int, no_list, no_tuple, no_none, no_bool, no_str, isiD, List.set_cons_zero, List.set_cons_succ, decide_true, decide_false, Bool.not_true, Bool.not_false, if_true, if_false, Bool.false_eq_true, reduceIte, b_l_record, hx n (by omega), ixt0, ixt1, ixt2, kk_num_num, kk_num_pad, kk_num_maybe, kk_num_rows, kk_num_group, kk_num_one, kk_pad_num, kk_pad_pad, kk_pad_maybe, kk_pad_rows, kk_pad_group, kk_pad_one, kk_maybe_num, kk_maybe_pad, kk_maybe_maybe, kk_maybe_rows, kk_maybe_group, kk_maybe_one, kk_rows_num, kk_rows_pad, kk_rows_maybe, kk_rows_rows, kk_rows_group, kk_rows_one, kk_group_num, kk_group_pad, kk_group_maybe, kk_group_rows, kk_group_group, kk_group_one, kk_one_num, kk_one_pad, kk_one_maybe, kk_one_rows, kk_one_group, kk_one_one, kk_read_read, kk_read_short, kk_read_left, kk_read_wrong, kk_short_read, kk_short_short, kk_short_left, kk_short_wrong, kk_left_read, kk_left_short, kk_left_left, kk_left_wrong, kk_wrong_read, kk_wrong_short, kk_wrong_left, kk_wrong_wrong, fm, ex, hr, l2]
end
end Q

set_option Elab.async false
set_option linter.all false
set_option maxRecDepth 100000
set_option autoImplicit false
namespace Q
open PySem (PyData Str)
section
variable {S : PyData → Bool} {p q r t : P1} {x y z u : PyData}
theorem pt22 : ptR S (.seq [p, q]) (.tuple [x, y]) = psR S [p, q] [x, y] := rfl
theorem pt23 : ptR S (.seq [p, q]) (.tuple [x, y, z]) = .ok none := rfl
theorem pt24 : ptR S (.seq [p, q]) (.tuple [x, y, z, u]) = .ok none := rfl
theorem pt32 : ptR S (.seq [p, q, r]) (.tuple [x, y]) = .ok none := rfl
theorem pt33 : ptR S (.seq [p, q, r]) (.tuple [x, y, z]) = psR S [p, q, r] [x, y, z] := rfl
theorem pt34 : ptR S (.seq [p, q, r]) (.tuple [x, y, z, u]) = .ok none := rfl
theorem pt42 : ptR S (.seq [p, q, r, t]) (.tuple [x, y]) = .ok none := rfl
theorem pt43 : ptR S (.seq [p, q, r, t]) (.tuple [x, y, z]) = .ok none := rfl
theorem pt44 : ptR S (.seq [p, q, r, t]) (.tuple [x, y, z, u]) = psR S [p, q, r, t] [x, y, z, u] := rfl
theorem eqR_ss {a b : Str} : eqR S (.str a) (.str b) = .ok (decide (a = b)) := if_pos rfl
end
theorem bb_addl {xs ys : List PyData} (h : xs.length + ys.length ≤ 16777216) : binD .add (.list xs) (.list ys) = .ok (.list (xs ++ ys)) := if_pos h
theorem low_map (x : Int) : ∀ n : Nat, low x n = (List.range n).map fun k => PyData.int (x / 2 ^ k % 2)
  | 0 => rfl
  | n + 1 => by rw [low_snoc, low_map x n, List.range_succ, List.map_append]; rfl
theorem rev_map (x : Int) (w : Nat) : (List.range w).map (fun i => PyData.int (x / 2 ^ (w - 1 - i) % 2)) = wr x w := by
  unfold wr
  rw [low_map, ← List.map_reverse]
  apply List.ext_getElem
  · simp
  · intro i h1 h2
    have h1 : i < w := by simpa using h1
    simp only [List.getElem_map, List.getElem_range, List.getElem_reverse, List.length_range]
theorem wr_1 (x : Int) : wr x 1 = [.int (x % 2)] := rfl
section
variable {m : Md} {I : Ix}
theorem a_roomof (h : At_p_room_of m I) (w : Nat) (hw : w ≤ 1000000) : Ans m I.p_room_of [.int w] 1 (.ok (.fr (.int (2 ^ w)))) := by
  refine ans h (env := [(some (Sl.fr (.int w)))]) rfl rfl fun n hn => ?_
  have e : (if (0 : Int) > (w : Int) then (0 : Int) else (w : Int)) = w := if_neg (by omega)
  have f : binD .shl (.int 1) (.int (w : Int)) = .ok (.int (2 ^ w)) := by rw [bb_shl1 (by omega), Int.toNat_natCast]
  simp -implicitDefEqProofs only [Q.xs, Q.xs1, ev, evs, evI, evC, evJ, bind_ok, bind_exc, exR_ok, exR_exc, seq_nx, seq_rt, seq_xc, varR_0, varR_S, bb_add, bb_sub, bb_mul2, bb_and, cc_lt, cc_le, cc_gt, cc_ge, cc_eq, cc_ne, cc_eqb, cc_eqs, ll_len, ll_lent, ll_list, ll_listt, ll_max2, ll_min2, toD_fr, toD_ow, lstR_ok, neg_i, erR_0, erR_S, catch_nx, catch_rt, catch_xc, sfin_rt, sfin_nx, noEr_n, noEr_f, noEr_o, noEr_0, no_int, no_list, no_tuple, no_none, no_bool, no_str, isiD, List.set_cons_zero, List.set_cons_succ, decide_true, decide_false, Bool.not_true, Bool.not_false, if_true, if_false, Bool.false_eq_true, reduceIte, b_p_room_of, e, f]
theorem a_bitsof (h : At_p_bits_of m I) (hr : At_p_room_of m I) (x : Int) (w : Nat) (hw : w ≤ 1000000) (h0 : 0 ≤ x) (h1 : x < 2 ^ w) : Ans m I.p_bits_of [.int x, .int w] 2 (.ok (.fr (.list (wr x w)))) := by
  refine ans h (env := [(some (Sl.fr (.int x))), (some (Sl.fr (.int w))), none]) rfl rfl fun n hn => ?_
  have hn' : numR (.int (w : Int)) = .ok (w : Int) := numR_ok (by omega)
  have d1' : decide ((0 : Int) ≤ x) = true := decide_eq_true h0
  have d2 : decide (x < 2 ^ w) = true := decide_eq_true h1
  have hm : mapR (fun d => ((binD .shr (.int x) d).bind fun a => binD .band a (.int 1)).cold) (revD w) = .ok (wr x w) := by
    rw [← rev_map]
    unfold revD
    refine mapR_map _ fun i hi => ?_
    have hi : i < w := List.mem_range.mp hi
    simp -implicitDefEqProofs only [Q.xs, Q.xs1, ev, evs, evI, evC, evJ, bind_ok, bind_exc, exR_ok, exR_exc, seq_nx, seq_rt, seq_xc, varR_0, varR_S, bb_add, bb_sub, bb_mul2, bb_and, cc_lt, cc_le, cc_gt, cc_ge, cc_eq, cc_ne, cc_eqb, cc_eqs, ll_len, ll_lent, ll_list, ll_listt, ll_max2, ll_min2, toD_fr, toD_ow, lstR_ok, neg_i, erR_0, erR_S, catch_nx, catch_rt, catch_xc, sfin_rt, sfin_nx, noEr_n, noEr_f, noEr_o, noEr_0, no_int, no_list, no_tuple, no_none, no_bool, no_str, isiD, List.set_cons_zero, List.set_cons_succ, decide_true, decide_false, Bool.not_true, Bool.not_false, if_true, if_false, Bool.false_eq_true, reduceIte, bb_shr (show 0 ≤ (w : Int) - 1 - (i : Int) by omega)]
    rw [show ((w : Int) - 1 - (i : Int)).toNat = w - 1 - i by omega]
    rfl
  have hl : ((revD w).length ≤ szl) = True := eq_true (by unfold revD; rw [List.length_map, List.length_range]; show w ≤ 16777216; omega)
  simp -implicitDefEqProofs only [Q.xs, Q.xs1, ev, evs, evI, evC, evJ, bind_ok, bind_exc, exR_ok, exR_exc, seq_nx, seq_rt, seq_xc, varR_0, varR_S, bb_add, bb_sub, bb_mul2, bb_and, cc_lt, cc_le, cc_gt, cc_ge, cc_eq, cc_ne, cc_eqb, cc_eqs, ll_len, ll_lent, ll_list, ll_listt, ll_max2, ll_min2, toD_fr, toD_ow, lstR_ok, neg_i, erR_0, erR_S, catch_nx, catch_rt, catch_xc, sfin_rt, sfin_nx, noEr_n, noEr_f, noEr_o, noEr_0, no_int, no_list, no_tuple, no_none, no_bool, no_str, isiD, List.set_cons_zero, List.set_cons_succ, decide_true, decide_false, Bool.not_true, Bool.not_false, if_true, if_false, Bool.false_eq_true, reduceIte, b_p_bits_of, a_roomof hr w hw n (by omega), hn', Int.toNat_natCast, d1', d2, hl, hm]
def lbL (I : Ix) : Sts := (.cons (.set 3 (.bin .add (.var 3) (.call I.l_bits (.var 5) (.cons (.var 6) .nil)))) .nil)
def lbF (m : Md) (I : Ix) (n : Nat) : PyData → Env → Fl := fun d env => (match d with | .tuple [x, y] => Q.xs SS m.sub (m.Phi n) m.L (lbL I) ((env.set 5 (some (.fr x))).set 6 (some (.fr y))) | _ => .bad)
theorem a_lbits (h : At_l_bits m I) (hw : At_l_written m I) : (∀ s r b, Fit s r b → s.ok → b.length ≤ 16777216 → Ans m I.l_bits [s.d, r] (s.dep + 1) (.ok (.fr (.list b)))) ∧
    (∀ ss rs bs, FitL ss rs bs → (∀ s ∈ ss, s.ok) → ∀ (acc : List PyData), acc.length + bs.length ≤ 16777216 → ∀ c, (∀ s ∈ ss, s.dep + 1 ≤ c) → ∀ e0 e1 e2 e4 o5 o6, ∃ o5' o6', ∀ n, c ≤ n → floop (lbF m I n) (zipD (ss.map Shp.d) rs) [e0, e1, e2, (some (Sl.fr (.list acc))), e4, o5, o6] = .nx [e0, e1, e2, (some (Sl.fr (.list (acc ++ bs)))), e4, o5', o6']) := by
  refine Fit.ind (P := fun s r b => s.ok → b.length ≤ 16777216 → Ans m I.l_bits [s.d, r] (s.dep + 1) (.ok (.fr (.list b))))
    (Q := fun ss rs bs => (∀ s ∈ ss, s.ok) → ∀ (acc : List PyData), acc.length + bs.length ≤ 16777216 → ∀ c, (∀ s ∈ ss, s.dep + 1 ≤ c) → ∀ e0 e1 e2 e4 o5 o6, ∃ o5' o6', ∀ n, c ≤ n → floop (lbF m I n) (zipD (ss.map Shp.d) rs) [e0, e1, e2, (some (Sl.fr (.list acc))), e4, o5, o6] = .nx [e0, e1, e2, (some (Sl.fr (.list (acc ++ bs)))), e4, o5', o6']) ?_ ?_ ?_ ?_ ?_ ?_ ?_ ?_
  · intro w lo hi x h1 h2 ok hb
    refine ans h (env := [(some (Sl.fr ((Shp.num w lo hi).d))), (some (Sl.fr (.int x))), none, none, none, none, none]) rfl rfl fun n hn => ?_
    simp only [Shp.dep] at hn
    simp only [Shp.d]
    simp -implicitDefEqProofs only [Q.xs, Q.xs1, ev, evs, evI, evC, evJ, bind_ok, bind_exc, exR_ok, exR_exc, seq_nx, seq_rt, seq_xc, varR_0, varR_S, bb_add, bb_sub, bb_mul2, bb_and, cc_lt, cc_le, cc_gt, cc_ge, cc_eq, cc_ne, cc_eqb, cc_eqs, ll_len, ll_lent, ll_list, ll_listt, ll_max2, ll_min2, toD_fr, toD_ow, lstR_ok, neg_i, erR_0, erR_S, catch_nx, catch_rt, catch_xc, sfin_rt, sfin_nx, noEr_n, noEr_f, noEr_o, noEr_0, no_int, no_list, no_tuple, no_none, no_bool, no_str, isiD, List.set_cons_zero, List.set_cons_succ, decide_true, decide_false, Bool.not_true, Bool.not_false, if_true, if_false, Bool.false_eq_true, reduceIte, b_l_bits, ixt0, ixt1, ixt2, kk_num_num, kk_num_pad, kk_num_maybe, kk_num_rows, kk_num_group, kk_num_one, kk_pad_num, kk_pad_pad, kk_pad_maybe, kk_pad_rows, kk_pad_group, kk_pad_one, kk_maybe_num, kk_maybe_pad, kk_maybe_maybe, kk_maybe_rows, kk_maybe_group, kk_maybe_one, kk_rows_num, kk_rows_pad, kk_rows_maybe, kk_rows_rows, kk_rows_group, kk_rows_one, kk_group_num, kk_group_pad, kk_group_maybe, kk_group_rows, kk_group_group, kk_group_one, kk_one_num, kk_one_pad, kk_one_maybe, kk_one_rows, kk_one_group, kk_one_one, kk_read_read, kk_read_short, kk_read_left, kk_read_wrong, kk_short_read, kk_short_short, kk_short_left, kk_short_wrong, kk_left_read, kk_left_short, kk_left_left, kk_left_wrong, kk_wrong_read, kk_wrong_short, kk_wrong_left, kk_wrong_wrong, a_wr hw (x - lo) w (by have : w ≤ 64 := ok.1; omega) n (by omega)]
  · intro w ok hb
    refine ans h (env := [(some (Sl.fr ((Shp.pad w).d))), (some (Sl.fr (.none))), none, none, none, none, none]) rfl rfl fun n hn => ?_
    simp only [Shp.d]
    simp -implicitDefEqProofs only [Q.xs, Q.xs1, ev, evs, evI, evC, evJ, bind_ok, bind_exc, exR_ok, exR_exc, seq_nx, seq_rt, seq_xc, varR_0, varR_S, bb_add, bb_sub, bb_mul2, bb_and, cc_lt, cc_le, cc_gt, cc_ge, cc_eq, cc_ne, cc_eqb, cc_eqs, ll_len, ll_lent, ll_list, ll_listt, ll_max2, ll_min2, toD_fr, toD_ow, lstR_ok, neg_i, erR_0, erR_S, catch_nx, catch_rt, catch_xc, sfin_rt, sfin_nx, noEr_n, noEr_f, noEr_o, noEr_0, no_int, no_list, no_tuple, no_none, no_bool, no_str, isiD, List.set_cons_zero, List.set_cons_succ, decide_true, decide_false, Bool.not_true, Bool.not_false, if_true, if_false, Bool.false_eq_true, reduceIte, b_l_bits, ixt0, ixt1, ixt2, kk_num_num, kk_num_pad, kk_num_maybe, kk_num_rows, kk_num_group, kk_num_one, kk_pad_num, kk_pad_pad, kk_pad_maybe, kk_pad_rows, kk_pad_group, kk_pad_one, kk_maybe_num, kk_maybe_pad, kk_maybe_maybe, kk_maybe_rows, kk_maybe_group, kk_maybe_one, kk_rows_num, kk_rows_pad, kk_rows_maybe, kk_rows_rows, kk_rows_group, kk_rows_one, kk_group_num, kk_group_pad, kk_group_maybe, kk_group_rows, kk_group_group, kk_group_one, kk_one_num, kk_one_pad, kk_one_maybe, kk_one_rows, kk_one_group, kk_one_one, kk_read_read, kk_read_short, kk_read_left, kk_read_wrong, kk_short_read, kk_short_short, kk_short_left, kk_short_wrong, kk_left_read, kk_left_short, kk_left_left, kk_left_wrong, kk_wrong_read, kk_wrong_short, kk_wrong_left, kk_wrong_wrong, rep1 (.int 0) w (by have : w ≤ 64 := ok; omega), l1]
  · intro s rs bs hl hf ih ok hb
    have hb : bs.length ≤ 16777216 ∧ 1 + bs.length ≤ 16777216 := by rw [List.length_append, wr_len] at hb; omega
    have e1 : wr rs.length 1 = [.int rs.length] := by rw [wr_1, show (rs.length : Int) % 2 = rs.length by omega]
    obtain ⟨o5, o6, run⟩ := ih (fun t ht => by rw [List.eq_of_mem_replicate ht]; exact ok) [.int rs.length] hb.2 (s.dep + 1) (fun t ht => by rw [List.eq_of_mem_replicate ht]; exact Nat.le_refl _) (some (Sl.fr ((Shp.maybe s).d))) (some (Sl.fr (.list rs))) (some (Sl.fr (.str "maybe"))) (some (Sl.fr (.list (List.replicate rs.length s.d)))) none none
    refine ans h (env := [(some (Sl.fr ((Shp.maybe s).d))), (some (Sl.fr (.list rs))), none, none, none, none, none]) rfl rfl fun n hn => ?_
    simp only [Shp.dep] at hn
    have st : Q.xs SS m.sub (m.Phi n) m.L (tk 8 (b_l_bits I)) [(some (Sl.fr ((Shp.maybe s).d))), (some (Sl.fr (.list rs))), none, none, none, none, none] = .nx [(some (Sl.fr ((Shp.maybe s).d))), (some (Sl.fr (.list rs))), (some (Sl.fr (.str "maybe"))), (some (Sl.fr (.list [.int rs.length]))), (some (Sl.fr (.list (List.replicate rs.length s.d)))), none, none] := by
      simp only [Shp.d]
      simp -implicitDefEqProofs only [Q.xs, Q.xs1, ev, evs, evI, evC, evJ, bind_ok, bind_exc, exR_ok, exR_exc, seq_nx, seq_rt, seq_xc, varR_0, varR_S, bb_add, bb_sub, bb_mul2, bb_and, cc_lt, cc_le, cc_gt, cc_ge, cc_eq, cc_ne, cc_eqb, cc_eqs, ll_len, ll_lent, ll_list, ll_listt, ll_max2, ll_min2, toD_fr, toD_ow, lstR_ok, neg_i, erR_0, erR_S, catch_nx, catch_rt, catch_xc, sfin_rt, sfin_nx, noEr_n, noEr_f, noEr_o, noEr_0, no_int, no_list, no_tuple, no_none, no_bool, no_str, isiD, List.set_cons_zero, List.set_cons_succ, decide_true, decide_false, Bool.not_true, Bool.not_false, if_true, if_false, Bool.false_eq_true, reduceIte, b_l_bits, tk, ixt0, ixt1, kk_num_num, kk_num_pad, kk_num_maybe, kk_num_rows, kk_num_group, kk_num_one, kk_pad_num, kk_pad_pad, kk_pad_maybe, kk_pad_rows, kk_pad_group, kk_pad_one, kk_maybe_num, kk_maybe_pad, kk_maybe_maybe, kk_maybe_rows, kk_maybe_group, kk_maybe_one, kk_rows_num, kk_rows_pad, kk_rows_maybe, kk_rows_rows, kk_rows_group, kk_rows_one, kk_group_num, kk_group_pad, kk_group_maybe, kk_group_rows, kk_group_group, kk_group_one, kk_one_num, kk_one_pad, kk_one_maybe, kk_one_rows, kk_one_group, kk_one_one, kk_read_read, kk_read_short, kk_read_left, kk_read_wrong, kk_short_read, kk_short_short, kk_short_left, kk_short_wrong, kk_left_read, kk_left_short, kk_left_left, kk_left_wrong, kk_wrong_read, kk_wrong_short, kk_wrong_left, kk_wrong_wrong, rep1 s.d rs.length (by omega), l0, l1]
    have hi : evI SS (m.Phi n) (.zip (.var 4) (.var 1)) [(some (Sl.fr ((Shp.maybe s).d))), (some (Sl.fr (.list rs))), (some (Sl.fr (.str "maybe"))), (some (Sl.fr (.list [.int rs.length]))), (some (Sl.fr (.list (List.replicate rs.length s.d)))), none, none] = .ok (zipD ((List.replicate rs.length s).map Shp.d) rs) := by
      simp -implicitDefEqProofs only [Q.xs, Q.xs1, ev, evs, evI, evC, evJ, bind_ok, bind_exc, exR_ok, exR_exc, seq_nx, seq_rt, seq_xc, varR_0, varR_S, bb_add, bb_sub, bb_mul2, bb_and, cc_lt, cc_le, cc_gt, cc_ge, cc_eq, cc_ne, cc_eqb, cc_eqs, ll_len, ll_lent, ll_list, ll_listt, ll_max2, ll_min2, toD_fr, toD_ow, lstR_ok, neg_i, erR_0, erR_S, catch_nx, catch_rt, catch_xc, sfin_rt, sfin_nx, noEr_n, noEr_f, noEr_o, noEr_0, no_int, no_list, no_tuple, no_none, no_bool, no_str, isiD, List.set_cons_zero, List.set_cons_succ, decide_true, decide_false, Bool.not_true, Bool.not_false, if_true, if_false, Bool.false_eq_true, reduceIte]
      rw [List.map_replicate]
    rw [xs_step 8 st, show dr 8 (b_l_bits I) = .cons (.for2 5 6 (.zip (.var 4) (.var 1)) (lbL I)) (.cons (.ret (.var 3)) .nil) from rfl, xs_for2, hi, exR_ok]
    show (floop (lbF m I n) _ _).seq _ = _
    rw [run n (by omega), e1]
    simp -implicitDefEqProofs only [Q.xs, Q.xs1, ev, evs, evI, evC, evJ, bind_ok, bind_exc, exR_ok, exR_exc, seq_nx, seq_rt, seq_xc, varR_0, varR_S, bb_add, bb_sub, bb_mul2, bb_and, cc_lt, cc_le, cc_gt, cc_ge, cc_eq, cc_ne, cc_eqb, cc_eqs, ll_len, ll_lent, ll_list, ll_listt, ll_max2, ll_min2, toD_fr, toD_ow, lstR_ok, neg_i, erR_0, erR_S, catch_nx, catch_rt, catch_xc, sfin_rt, sfin_nx, noEr_n, noEr_f, noEr_o, noEr_0, no_int, no_list, no_tuple, no_none, no_bool, no_str, isiD, List.set_cons_zero, List.set_cons_succ, decide_true, decide_false, Bool.not_true, Bool.not_false, if_true, if_false, Bool.false_eq_true, reduceIte]
  · intro w s rs bs hl hf ih ok hb
    have hb : w + bs.length ≤ 16777216 := by rw [List.length_append, wr_len] at hb; exact hb
    have t8 := two8 ok.1
    obtain ⟨o5, o6, run⟩ := ih (fun t ht => by rw [List.eq_of_mem_replicate ht]; exact ok.2.2) (wr rs.length w) (by rw [wr_len]; exact hb) (s.dep + 1) (fun t ht => by rw [List.eq_of_mem_replicate ht]; exact Nat.le_refl _) (some (Sl.fr ((Shp.rows w s).d))) (some (Sl.fr (.list rs))) (some (Sl.fr (.str "rows"))) (some (Sl.fr (.list (List.replicate rs.length s.d)))) none none
    refine ans h (env := [(some (Sl.fr ((Shp.rows w s).d))), (some (Sl.fr (.list rs))), none, none, none, none, none]) rfl rfl fun n hn => ?_
    simp only [Shp.dep] at hn
    have st : Q.xs SS m.sub (m.Phi n) m.L (tk 8 (b_l_bits I)) [(some (Sl.fr ((Shp.rows w s).d))), (some (Sl.fr (.list rs))), none, none, none, none, none] = .nx [(some (Sl.fr ((Shp.rows w s).d))), (some (Sl.fr (.list rs))), (some (Sl.fr (.str "rows"))), (some (Sl.fr (.list (wr rs.length w)))), (some (Sl.fr (.list (List.replicate rs.length s.d)))), none, none] := by
      simp only [Shp.d]
      simp -implicitDefEqProofs only [Q.xs, Q.xs1, ev, evs, evI, evC, evJ, bind_ok, bind_exc, exR_ok, exR_exc, seq_nx, seq_rt, seq_xc, varR_0, varR_S, bb_add, bb_sub, bb_mul2, bb_and, cc_lt, cc_le, cc_gt, cc_ge, cc_eq, cc_ne, cc_eqb, cc_eqs, ll_len, ll_lent, ll_list, ll_listt, ll_max2, ll_min2, toD_fr, toD_ow, lstR_ok, neg_i, erR_0, erR_S, catch_nx, catch_rt, catch_xc, sfin_rt, sfin_nx, noEr_n, noEr_f, noEr_o, noEr_0, no_int, no_list, no_tuple, no_none, no_bool, no_str, isiD, List.set_cons_zero, List.set_cons_succ, decide_true, decide_false, Bool.not_true, Bool.not_false, if_true, if_false, Bool.false_eq_true, reduceIte, b_l_bits, tk, ixt0, ixt1, ixt2, kk_num_num, kk_num_pad, kk_num_maybe, kk_num_rows, kk_num_group, kk_num_one, kk_pad_num, kk_pad_pad, kk_pad_maybe, kk_pad_rows, kk_pad_group, kk_pad_one, kk_maybe_num, kk_maybe_pad, kk_maybe_maybe, kk_maybe_rows, kk_maybe_group, kk_maybe_one, kk_rows_num, kk_rows_pad, kk_rows_maybe, kk_rows_rows, kk_rows_group, kk_rows_one, kk_group_num, kk_group_pad, kk_group_maybe, kk_group_rows, kk_group_group, kk_group_one, kk_one_num, kk_one_pad, kk_one_maybe, kk_one_rows, kk_one_group, kk_one_one, kk_read_read, kk_read_short, kk_read_left, kk_read_wrong, kk_short_read, kk_short_short, kk_short_left, kk_short_wrong, kk_left_read, kk_left_short, kk_left_left, kk_left_wrong, kk_wrong_read, kk_wrong_short, kk_wrong_left, kk_wrong_wrong, rep1 s.d rs.length (by omega), l0, l1, a_wr hw rs.length w (by have := ok.1; omega) n (by omega)]
    have hi : evI SS (m.Phi n) (.zip (.var 4) (.var 1)) [(some (Sl.fr ((Shp.rows w s).d))), (some (Sl.fr (.list rs))), (some (Sl.fr (.str "rows"))), (some (Sl.fr (.list (wr rs.length w)))), (some (Sl.fr (.list (List.replicate rs.length s.d)))), none, none] = .ok (zipD ((List.replicate rs.length s).map Shp.d) rs) := by
      simp -implicitDefEqProofs only [Q.xs, Q.xs1, ev, evs, evI, evC, evJ, bind_ok, bind_exc, exR_ok, exR_exc, seq_nx, seq_rt, seq_xc, varR_0, varR_S, bb_add, bb_sub, bb_mul2, bb_and, cc_lt, cc_le, cc_gt, cc_ge, cc_eq, cc_ne, cc_eqb, cc_eqs, ll_len, ll_lent, ll_list, ll_listt, ll_max2, ll_min2, toD_fr, toD_ow, lstR_ok, neg_i, erR_0, erR_S, catch_nx, catch_rt, catch_xc, sfin_rt, sfin_nx, noEr_n, noEr_f, noEr_o, noEr_0, no_int, no_list, no_tuple, no_none, no_bool, no_str, isiD, List.set_cons_zero, List.set_cons_succ, decide_true, decide_false, Bool.not_true, Bool.not_false, if_true, if_false, Bool.false_eq_true, reduceIte]
      rw [List.map_replicate]
    rw [xs_step 8 st, show dr 8 (b_l_bits I) = .cons (.for2 5 6 (.zip (.var 4) (.var 1)) (lbL I)) (.cons (.ret (.var 3)) .nil) from rfl, xs_for2, hi, exR_ok]
    show (floop (lbF m I n) _ _).seq _ = _
    rw [run n (by omega)]
    simp -implicitDefEqProofs only [Q.xs, Q.xs1, ev, evs, evI, evC, evJ, bind_ok, bind_exc, exR_ok, exR_exc, seq_nx, seq_rt, seq_xc, varR_0, varR_S, bb_add, bb_sub, bb_mul2, bb_and, cc_lt, cc_le, cc_gt, cc_ge, cc_eq, cc_ne, cc_eqb, cc_eqs, ll_len, ll_lent, ll_list, ll_listt, ll_max2, ll_min2, toD_fr, toD_ow, lstR_ok, neg_i, erR_0, erR_S, catch_nx, catch_rt, catch_xc, sfin_rt, sfin_nx, noEr_n, noEr_f, noEr_o, noEr_0, no_int, no_list, no_tuple, no_none, no_bool, no_str, isiD, List.set_cons_zero, List.set_cons_succ, decide_true, decide_false, Bool.not_true, Bool.not_false, if_true, if_false, Bool.false_eq_true, reduceIte]
  · intro ss rs bs hf ih ok hb
    obtain ⟨o5, o6, run⟩ := ih (Shp.oks_iff.mp ok.2) [] (by simpa using hb) (Shp.deps ss + 1) (fun t ht => by have := Shp.dep_mem ht; omega) (some (Sl.fr ((Shp.group ss).d))) (some (Sl.fr (.list rs))) (some (Sl.fr (.str "group"))) (some (Sl.fr (.list (ss.map Shp.d)))) none none
    refine ans h (env := [(some (Sl.fr ((Shp.group ss).d))), (some (Sl.fr (.list rs))), none, none, none, none, none]) rfl rfl fun n hn => ?_
    simp only [Shp.dep] at hn
    have st : Q.xs SS m.sub (m.Phi n) m.L (tk 8 (b_l_bits I)) [(some (Sl.fr ((Shp.group ss).d))), (some (Sl.fr (.list rs))), none, none, none, none, none] = .nx [(some (Sl.fr ((Shp.group ss).d))), (some (Sl.fr (.list rs))), (some (Sl.fr (.str "group"))), (some (Sl.fr (.list []))), (some (Sl.fr (.list (ss.map Shp.d)))), none, none] := by
      simp only [Shp.d, Shp.ds_map]
      simp -implicitDefEqProofs only [Q.xs, Q.xs1, ev, evs, evI, evC, evJ, bind_ok, bind_exc, exR_ok, exR_exc, seq_nx, seq_rt, seq_xc, varR_0, varR_S, bb_add, bb_sub, bb_mul2, bb_and, cc_lt, cc_le, cc_gt, cc_ge, cc_eq, cc_ne, cc_eqb, cc_eqs, ll_len, ll_lent, ll_list, ll_listt, ll_max2, ll_min2, toD_fr, toD_ow, lstR_ok, neg_i, erR_0, erR_S, catch_nx, catch_rt, catch_xc, sfin_rt, sfin_nx, noEr_n, noEr_f, noEr_o, noEr_0, no_int, no_list, no_tuple, no_none, no_bool, no_str, isiD, List.set_cons_zero, List.set_cons_succ, decide_true, decide_false, Bool.not_true, Bool.not_false, if_true, if_false, Bool.false_eq_true, reduceIte, b_l_bits, tk, ixt0, ixt1, ixt2, kk_num_num, kk_num_pad, kk_num_maybe, kk_num_rows, kk_num_group, kk_num_one, kk_pad_num, kk_pad_pad, kk_pad_maybe, kk_pad_rows, kk_pad_group, kk_pad_one, kk_maybe_num, kk_maybe_pad, kk_maybe_maybe, kk_maybe_rows, kk_maybe_group, kk_maybe_one, kk_rows_num, kk_rows_pad, kk_rows_maybe, kk_rows_rows, kk_rows_group, kk_rows_one, kk_group_num, kk_group_pad, kk_group_maybe, kk_group_rows, kk_group_group, kk_group_one, kk_one_num, kk_one_pad, kk_one_maybe, kk_one_rows, kk_one_group, kk_one_one, kk_read_read, kk_read_short, kk_read_left, kk_read_wrong, kk_short_read, kk_short_short, kk_short_left, kk_short_wrong, kk_left_read, kk_left_short, kk_left_left, kk_left_wrong, kk_wrong_read, kk_wrong_short, kk_wrong_left, kk_wrong_wrong, l0, l1]
    have hi : evI SS (m.Phi n) (.zip (.var 4) (.var 1)) [(some (Sl.fr ((Shp.group ss).d))), (some (Sl.fr (.list rs))), (some (Sl.fr (.str "group"))), (some (Sl.fr (.list []))), (some (Sl.fr (.list (ss.map Shp.d)))), none, none] = .ok (zipD (ss.map Shp.d) rs) := by
      simp -implicitDefEqProofs only [Q.xs, Q.xs1, ev, evs, evI, evC, evJ, bind_ok, bind_exc, exR_ok, exR_exc, seq_nx, seq_rt, seq_xc, varR_0, varR_S, bb_add, bb_sub, bb_mul2, bb_and, cc_lt, cc_le, cc_gt, cc_ge, cc_eq, cc_ne, cc_eqb, cc_eqs, ll_len, ll_lent, ll_list, ll_listt, ll_max2, ll_min2, toD_fr, toD_ow, lstR_ok, neg_i, erR_0, erR_S, catch_nx, catch_rt, catch_xc, sfin_rt, sfin_nx, noEr_n, noEr_f, noEr_o, noEr_0, no_int, no_list, no_tuple, no_none, no_bool, no_str, isiD, List.set_cons_zero, List.set_cons_succ, decide_true, decide_false, Bool.not_true, Bool.not_false, if_true, if_false, Bool.false_eq_true, reduceIte]
    rw [xs_step 8 st, show dr 8 (b_l_bits I) = .cons (.for2 5 6 (.zip (.var 4) (.var 1)) (lbL I)) (.cons (.ret (.var 3)) .nil) from rfl, xs_for2, hi, exR_ok]
    show (floop (lbF m I n) _ _).seq _ = _
    rw [run n (by omega)]
    simp -implicitDefEqProofs only [Q.xs, Q.xs1, ev, evs, evI, evC, evJ, bind_ok, bind_exc, exR_ok, exR_exc, seq_nx, seq_rt, seq_xc, varR_0, varR_S, bb_add, bb_sub, bb_mul2, bb_and, cc_lt, cc_le, cc_gt, cc_ge, cc_eq, cc_ne, cc_eqb, cc_eqs, ll_len, ll_lent, ll_list, ll_listt, ll_max2, ll_min2, toD_fr, toD_ow, lstR_ok, neg_i, erR_0, erR_S, catch_nx, catch_rt, catch_xc, sfin_rt, sfin_nx, noEr_n, noEr_f, noEr_o, noEr_0, no_int, no_list, no_tuple, no_none, no_bool, no_str, isiD, List.set_cons_zero, List.set_cons_succ, decide_true, decide_false, Bool.not_true, Bool.not_false, if_true, if_false, Bool.false_eq_true, reduceIte]
    rfl
  · intro w ss p s x b hp hf ih ok hb
    have hm := List.mem_of_getElem? hp
    have hb : w + b.length ≤ 16777216 := by rw [List.length_append, wr_len] at hb; exact hb
    refine ans h (env := [(some (Sl.fr ((Shp.one w ss).d))), (some (Sl.fr (.tuple [.int p, x]))), none, none, none, none, none]) rfl rfl fun n hn => ?_
    simp only [Shp.dep] at hn
    have ex : ixR (.list (ss.map Shp.d)) (.int (p : Int)) = .ok s.d := ix_l (by rw [List.getElem?_map, hp]; rfl)
    simp only [Shp.d, Shp.ds_map]
    simp -implicitDefEqProofs only [Q.xs, Q.xs1, ev, evs, evI, evC, evJ, bind_ok, bind_exc, exR_ok, exR_exc, seq_nx, seq_rt, seq_xc, varR_0, varR_S, bb_add, bb_sub, bb_mul2, bb_and, cc_lt, cc_le, cc_gt, cc_ge, cc_eq, cc_ne, cc_eqb, cc_eqs, ll_len, ll_lent, ll_list, ll_listt, ll_max2, ll_min2, toD_fr, toD_ow, lstR_ok, neg_i, erR_0, erR_S, catch_nx, catch_rt, catch_xc, sfin_rt, sfin_nx, noEr_n, noEr_f, noEr_o, noEr_0, no_int, no_list, no_tuple, no_none, no_bool, no_str, isiD, List.set_cons_zero, List.set_cons_succ, decide_true, decide_false, Bool.not_true, Bool.not_false, if_true, if_false, Bool.false_eq_true, reduceIte, b_l_bits, ixt0, ixt1, ixt2, kk_num_num, kk_num_pad, kk_num_maybe, kk_num_rows, kk_num_group, kk_num_one, kk_pad_num, kk_pad_pad, kk_pad_maybe, kk_pad_rows, kk_pad_group, kk_pad_one, kk_maybe_num, kk_maybe_pad, kk_maybe_maybe, kk_maybe_rows, kk_maybe_group, kk_maybe_one, kk_rows_num, kk_rows_pad, kk_rows_maybe, kk_rows_rows, kk_rows_group, kk_rows_one, kk_group_num, kk_group_pad, kk_group_maybe, kk_group_rows, kk_group_group, kk_group_one, kk_one_num, kk_one_pad, kk_one_maybe, kk_one_rows, kk_one_group, kk_one_one, kk_read_read, kk_read_short, kk_read_left, kk_read_wrong, kk_short_read, kk_short_short, kk_short_left, kk_short_wrong, kk_left_read, kk_left_short, kk_left_left, kk_left_wrong, kk_wrong_read, kk_wrong_short, kk_wrong_left, kk_wrong_wrong, a_wr hw p w (by have := ok.1; omega) n (by omega), ex, ih (Shp.oks_iff.mp ok.2.2.2.2 s hm) (by omega) n (by have := Shp.dep_mem hm; omega), bb_addl (xs := wr p w) (ys := b) (by rw [wr_len]; exact hb)]
  · intro _ acc _ c _ e0 e1 e2 e4 o5 o6
    exact ⟨o5, o6, fun n hn => by rw [List.append_nil]; rfl⟩
  · intro s ss x rs b bs hf hfl ih ihl ok acc hb c hc e0 e1 e2 e4 o5 o6
    rw [List.length_append] at hb
    obtain ⟨o5', o6', run⟩ := ihl (fun t ht => ok t (List.mem_cons_of_mem _ ht)) (acc ++ b) (by rw [List.length_append]; omega) c (fun t ht => hc t (List.mem_cons_of_mem _ ht)) e0 e1 e2 e4 (some (Sl.fr (s.d))) (some (Sl.fr (x)))
    refine ⟨o5', o6', fun n hn => ?_⟩
    show floop (lbF m I n) (.tuple [s.d, x] :: zipD (ss.map Shp.d) rs) _ = _
    rw [floop_cons (e := [e0, e1, e2, (some (Sl.fr (.list (acc ++ b)))), e4, (some (Sl.fr (s.d))), (some (Sl.fr (x)))]), run n hn, List.append_assoc]
    have hr := ih (ok s List.mem_cons_self) (by omega) n (by have := hc s List.mem_cons_self; omega)
    show Q.xs SS m.sub (m.Phi n) m.L (lbL I) [e0, e1, e2, (some (Sl.fr (.list acc))), e4, (some (Sl.fr (s.d))), (some (Sl.fr (x)))] = _
    simp -implicitDefEqProofs only [Q.xs, Q.xs1, ev, evs, evI, evC, evJ, bind_ok, bind_exc, exR_ok, exR_exc, seq_nx, seq_rt, seq_xc, varR_0, varR_S, bb_add, bb_sub, bb_mul2, bb_and, cc_lt, cc_le, cc_gt, cc_ge, cc_eq, cc_ne, cc_eqb, cc_eqs, ll_len, ll_lent, ll_list, ll_listt, ll_max2, ll_min2, toD_fr, toD_ow, lstR_ok, neg_i, erR_0, erR_S, catch_nx, catch_rt, catch_xc, sfin_rt, sfin_nx, noEr_n, noEr_f, noEr_o, noEr_0, no_int, no_list, no_tuple, no_none, no_bool, no_str, isiD, List.set_cons_zero, List.set_cons_succ, decide_true, decide_false, Bool.not_true, Bool.not_false, if_true, if_false, Bool.false_eq_true, reduceIte, lbL, hr, bb_addl (xs := acc) (ys := b) (by omega)]
end
end Q

set_option Elab.async false
set_option linter.all false
set_option maxRecDepth 100000
set_option autoImplicit false
namespace Q
open PySem (PyData Str)
theorem boolsOf_map : ∀ vs : List Bool, boolsOf (vs.map .bool) = some vs
  | [] => rfl
  | v :: vs => by
    show (boolsOf (vs.map .bool)).map (v :: ·) = _
    rw [boolsOf_map vs]
    rfl
theorem all_bools (vs : List Bool) : bltR .all [.list (vs.map .bool)] = .ok (.bool (vs.all id)) := by
  show (match boolsOf (vs.map .bool) with | some bs => Rs.ok (PyData.bool (bs.all id)) | none => .bad) = _
  rw [boolsOf_map]
theorem zipL_len : ∀ xs ys : List PyData, (zipD xs ys).length ≤ xs.length
  | [], ys => by simp [zipD]
  | x :: xs, [] => by simp [zipD]
  | x :: xs, y :: ys => by
    simp only [zipD, List.length_cons]
    have := zipL_len xs ys
    omega
theorem zip2 {α β : Type} (i j : α) (x y : β) : List.zip [i, j] [x, y] = [(i, x), (j, y)] := rfl
theorem zip3 {α β : Type} (i j k : α) (x y z : β) : List.zip [i, j, k] [x, y, z] = [(i, x), (j, y), (k, z)] := rfl
theorem unp2 {α β γ : Type} (i j : α) (x y : β) (A B : γ) : (if [x, y].length = [i, j].length then A else B) = A := if_pos rfl
theorem unp3 {α β γ : Type} (i j k : α) (x y z : β) (A B : γ) : (if [x, y, z].length = [i, j, k].length then A else B) = A := if_pos rfl
section
variable {m : Md} {I : Ix}
theorem a_within (h : At_p_whole_within m I) (r : PyData) (lo hi : Int) : ∃ v : Bool, Ans m I.p_whole_within [r, .int lo, .int hi] 1 (.ok (.fr (.bool v))) ∧ (v = true ↔ ∃ x, r = .int x ∧ lo ≤ x ∧ x ≤ hi) := by
  cases r with
  | int x =>
    refine ⟨decide (lo ≤ x ∧ x ≤ hi), ans h (env := [(some (Sl.fr (.int x))), (some (Sl.fr (.int lo))), (some (Sl.fr (.int hi)))]) rfl rfl fun n hn => ?_, ?_⟩
    · by_cases h1 : lo ≤ x
      · by_cases h2 : x ≤ hi
        · simp -implicitDefEqProofs only [Q.xs, Q.xs1, ev, evs, evI, evC, evJ, bind_ok, bind_exc, exR_ok, exR_exc, seq_nx, seq_rt, seq_xc, varR_0, varR_S, bb_add, bb_sub, bb_mul2, bb_and, cc_lt, cc_le, cc_gt, cc_ge, cc_eq, cc_ne, cc_eqb, cc_eqs, ll_len, ll_lent, ll_list, ll_listt, ll_max2, ll_min2, toD_fr, toD_ow, lstR_ok, neg_i, erR_0, erR_S, catch_nx, catch_rt, catch_xc, sfin_rt, sfin_nx, noEr_n, noEr_f, noEr_o, noEr_0, no_int, no_list, no_tuple, no_none, no_bool, no_str, isiD, List.set_cons_zero, List.set_cons_succ, decide_true, decide_false, Bool.not_true, Bool.not_false, if_true, if_false, Bool.false_eq_true, reduceIte, b_p_whole_within, decide_eq_true h1, decide_eq_true h2, decide_eq_true (show lo ≤ x ∧ x ≤ hi from ⟨h1, h2⟩)]
        · simp -implicitDefEqProofs only [Q.xs, Q.xs1, ev, evs, evI, evC, evJ, bind_ok, bind_exc, exR_ok, exR_exc, seq_nx, seq_rt, seq_xc, varR_0, varR_S, bb_add, bb_sub, bb_mul2, bb_and, cc_lt, cc_le, cc_gt, cc_ge, cc_eq, cc_ne, cc_eqb, cc_eqs, ll_len, ll_lent, ll_list, ll_listt, ll_max2, ll_min2, toD_fr, toD_ow, lstR_ok, neg_i, erR_0, erR_S, catch_nx, catch_rt, catch_xc, sfin_rt, sfin_nx, noEr_n, noEr_f, noEr_o, noEr_0, no_int, no_list, no_tuple, no_none, no_bool, no_str, isiD, List.set_cons_zero, List.set_cons_succ, decide_true, decide_false, Bool.not_true, Bool.not_false, if_true, if_false, Bool.false_eq_true, reduceIte, b_p_whole_within, decide_eq_true h1, decide_eq_false h2, decide_eq_false (show ¬ (lo ≤ x ∧ x ≤ hi) from fun z => h2 z.2)]
      · simp -implicitDefEqProofs only [Q.xs, Q.xs1, ev, evs, evI, evC, evJ, bind_ok, bind_exc, exR_ok, exR_exc, seq_nx, seq_rt, seq_xc, varR_0, varR_S, bb_add, bb_sub, bb_mul2, bb_and, cc_lt, cc_le, cc_gt, cc_ge, cc_eq, cc_ne, cc_eqb, cc_eqs, ll_len, ll_lent, ll_list, ll_listt, ll_max2, ll_min2, toD_fr, toD_ow, lstR_ok, neg_i, erR_0, erR_S, catch_nx, catch_rt, catch_xc, sfin_rt, sfin_nx, noEr_n, noEr_f, noEr_o, noEr_0, no_int, no_list, no_tuple, no_none, no_bool, no_str, isiD, List.set_cons_zero, List.set_cons_succ, decide_true, decide_false, Bool.not_true, Bool.not_false, if_true, if_false, Bool.false_eq_true, reduceIte, b_p_whole_within, decide_eq_false h1, decide_eq_false (show ¬ (lo ≤ x ∧ x ≤ hi) from fun z => h1 z.1)]
    · rw [decide_eq_true_eq]
      exact ⟨fun z => ⟨x, rfl, z⟩, fun ⟨y, e, z⟩ => by cases e; exact z⟩
  | bool b =>
    refine ⟨false, ans h (env := [(some (Sl.fr (.bool b))), (some (Sl.fr (.int lo))), (some (Sl.fr (.int hi)))]) rfl rfl fun n hn => ?_, by simp⟩
    simp -implicitDefEqProofs only [Q.xs, Q.xs1, ev, evs, evI, evC, evJ, bind_ok, bind_exc, exR_ok, exR_exc, seq_nx, seq_rt, seq_xc, varR_0, varR_S, bb_add, bb_sub, bb_mul2, bb_and, cc_lt, cc_le, cc_gt, cc_ge, cc_eq, cc_ne, cc_eqb, cc_eqs, ll_len, ll_lent, ll_list, ll_listt, ll_max2, ll_min2, toD_fr, toD_ow, lstR_ok, neg_i, erR_0, erR_S, catch_nx, catch_rt, catch_xc, sfin_rt, sfin_nx, noEr_n, noEr_f, noEr_o, noEr_0, no_int, no_list, no_tuple, no_none, no_bool, no_str, isiD, List.set_cons_zero, List.set_cons_succ, decide_true, decide_false, Bool.not_true, Bool.not_false, if_true, if_false, Bool.false_eq_true, reduceIte, b_p_whole_within]
  | _ =>
    refine ⟨false, ans h (env := [(some (Sl.fr (_))), (some (Sl.fr (.int lo))), (some (Sl.fr (.int hi)))]) rfl rfl fun n hn => ?_, by simp⟩
    simp -implicitDefEqProofs only [Q.xs, Q.xs1, ev, evs, evI, evC, evJ, bind_ok, bind_exc, exR_ok, exR_exc, seq_nx, seq_rt, seq_xc, varR_0, varR_S, bb_add, bb_sub, bb_mul2, bb_and, cc_lt, cc_le, cc_gt, cc_ge, cc_eq, cc_ne, cc_eqb, cc_eqs, ll_len, ll_lent, ll_list, ll_listt, ll_max2, ll_min2, toD_fr, toD_ow, lstR_ok, neg_i, erR_0, erR_S, catch_nx, catch_rt, catch_xc, sfin_rt, sfin_nx, noEr_n, noEr_f, noEr_o, noEr_0, no_int, no_list, no_tuple, no_none, no_bool, no_str, isiD, List.set_cons_zero, List.set_cons_succ, decide_true, decide_false, Bool.not_true, Bool.not_false, if_true, if_false, Bool.false_eq_true, reduceIte, b_p_whole_within]
/-- whether a thing fits is told -/
def FitsOk (m : Md) (I : Ix) (s : Shp) (c : Nat) : Prop := ∀ r, ∃ v : Bool, Ans m I.p_fits [s.d, r] c (.ok (.fr (.bool v))) ∧ (v = true ↔ ∃ b, Fit s r b)
theorem fits_map (c : Nat) : ∀ (ss : List Shp) (rs : List PyData), (∀ s ∈ ss, FitsOk m I s c) → ∃ vs : List Bool, (∀ n, c ≤ n → mapR (pairR fun x y => ((m.Phi n I.p_fits [x, y]).bind Sl.toD).cold) (zipD (ss.map Shp.d) rs) = .ok (vs.map .bool)) ∧
    (ss.length = rs.length → (vs.all id = true ↔ ∃ bs, FitL ss rs bs))
  | [], rs, _ => ⟨[], fun n hn => by simp only [List.map_nil, zipD]; rfl, fun hl => by
      have : rs = [] := List.eq_nil_of_length_eq_zero hl.symm
      subst this
      exact ⟨fun _ => ⟨[], .nil⟩, fun _ => rfl⟩⟩
  | s :: ss, [], _ => ⟨[], fun n hn => by simp only [List.map_cons, zipD]; rfl, fun hl => by simp at hl⟩
  | s :: ss, x :: rs, h => by
    obtain ⟨v, hv, iv⟩ := h s List.mem_cons_self x
    obtain ⟨vs, hvs, ivs⟩ := fits_map c ss rs fun t ht => h t (List.mem_cons_of_mem _ ht)
    refine ⟨v :: vs, fun n hn => ?_, fun hl => ?_⟩
    · simp only [List.map_cons, zipD, mapR, pairR]
      rw [hv n hn, hvs n hn]
      rfl
    · have hl : ss.length = rs.length := by simpa using hl
      rw [List.all_cons, Bool.and_eq_true, ivs hl]
      constructor
      · rintro ⟨a, bs, hb⟩
        obtain ⟨b, hb1⟩ := iv.mp a
        exact ⟨_, .cons hb1 hb⟩
      · rintro ⟨bs, hb⟩
        cases hb with
        | cons h1 h2 => exact ⟨iv.mpr ⟨_, h1⟩, _, h2⟩
theorem fits_each (h : At_p_fits_each m I) (c : Nat) (ss : List Shp) (hss : ∀ s ∈ ss, FitsOk m I s c) (hz : ss.length ≤ 16777216) (r : PyData) : ∃ v : Bool, Ans m I.p_fits_each [.list (ss.map Shp.d), r] (c + 1) (.ok (.fr (.bool v))) ∧ (v = true ↔ ∃ rs bs, r = .list rs ∧ FitL ss rs bs) := by
  cases r with
  | list rs =>
    obtain ⟨vs, hvs, ivs⟩ := fits_map c ss rs hss
    by_cases hl : ss.length = rs.length
    · have e : decide ((rs.length : Int) = ((ss.map Shp.d).length : Int)) = true := decide_eq_true (by rw [List.length_map]; omega)
      have hz' : ((zipD (ss.map Shp.d) rs).length ≤ szl) = True := eq_true (by have := zipL_len (ss.map Shp.d) rs; rw [List.length_map] at this; show _ ≤ 16777216; omega)
      refine ⟨vs.all id, ans h (env := [(some (Sl.fr (.list (ss.map Shp.d)))), (some (Sl.fr (.list rs))), none, none]) rfl rfl fun n hn => ?_, ?_⟩
      · simp -implicitDefEqProofs only [Q.xs, Q.xs1, ev, evs, evI, evC, evJ, bind_ok, bind_exc, exR_ok, exR_exc, seq_nx, seq_rt, seq_xc, varR_0, varR_S, bb_add, bb_sub, bb_mul2, bb_and, cc_lt, cc_le, cc_gt, cc_ge, cc_eq, cc_ne, cc_eqb, cc_eqs, ll_len, ll_lent, ll_list, ll_listt, ll_max2, ll_min2, toD_fr, toD_ow, lstR_ok, neg_i, erR_0, erR_S, catch_nx, catch_rt, catch_xc, sfin_rt, sfin_nx, noEr_n, noEr_f, noEr_o, noEr_0, no_int, no_list, no_tuple, no_none, no_bool, no_str, isiD, List.set_cons_zero, List.set_cons_succ, decide_true, decide_false, Bool.not_true, Bool.not_false, if_true, if_false, Bool.false_eq_true, reduceIte, b_p_fits_each, e, hz', hvs n hn, all_bools]
      · rw [ivs hl]
        exact ⟨fun ⟨bs, z⟩ => ⟨rs, bs, rfl, z⟩, fun ⟨rs', bs, e, z⟩ => by cases e; exact ⟨bs, z⟩⟩
    · have e : decide ((rs.length : Int) = ((ss.map Shp.d).length : Int)) = false := decide_eq_false (by rw [List.length_map]; omega)
      refine ⟨false, ans h (env := [(some (Sl.fr (.list (ss.map Shp.d)))), (some (Sl.fr (.list rs))), none, none]) rfl rfl fun n hn => ?_, ?_⟩
      · simp -implicitDefEqProofs only [Q.xs, Q.xs1, ev, evs, evI, evC, evJ, bind_ok, bind_exc, exR_ok, exR_exc, seq_nx, seq_rt, seq_xc, varR_0, varR_S, bb_add, bb_sub, bb_mul2, bb_and, cc_lt, cc_le, cc_gt, cc_ge, cc_eq, cc_ne, cc_eqb, cc_eqs, ll_len, ll_lent, ll_list, ll_listt, ll_max2, ll_min2, toD_fr, toD_ow, lstR_ok, neg_i, erR_0, erR_S, catch_nx, catch_rt, catch_xc, sfin_rt, sfin_nx, noEr_n, noEr_f, noEr_o, noEr_0, no_int, no_list, no_tuple, no_none, no_bool, no_str, isiD, List.set_cons_zero, List.set_cons_succ, decide_true, decide_false, Bool.not_true, Bool.not_false, if_true, if_false, Bool.false_eq_true, reduceIte, b_p_fits_each, e]
      · exact ⟨(fun z => by cases z), fun ⟨rs', bs, e, z⟩ => by cases e; exact absurd z.len.symm hl⟩
  | _ =>
    refine ⟨false, ans h (env := [(some (Sl.fr (.list (ss.map Shp.d)))), (some (Sl.fr (_))), none, none]) rfl rfl fun n hn => ?_, by simp⟩
    simp -implicitDefEqProofs only [Q.xs, Q.xs1, ev, evs, evI, evC, evJ, bind_ok, bind_exc, exR_ok, exR_exc, seq_nx, seq_rt, seq_xc, varR_0, varR_S, bb_add, bb_sub, bb_mul2, bb_and, cc_lt, cc_le, cc_gt, cc_ge, cc_eq, cc_ne, cc_eqb, cc_eqs, ll_len, ll_lent, ll_list, ll_listt, ll_max2, ll_min2, toD_fr, toD_ow, lstR_ok, neg_i, erR_0, erR_S, catch_nx, catch_rt, catch_xc, sfin_rt, sfin_nx, noEr_n, noEr_f, noEr_o, noEr_0, no_int, no_list, no_tuple, no_none, no_bool, no_str, isiD, List.set_cons_zero, List.set_cons_succ, decide_true, decide_false, Bool.not_true, Bool.not_false, if_true, if_false, Bool.false_eq_true, reduceIte, b_p_fits_each]
theorem fits_rows (h : At_p_fits_rows m I) (he : At_p_fits_each m I) (hr : At_p_room_of m I) (c : Nat) (s : Shp) (hs : FitsOk m I s c) (w : Nat) (hw : w ≤ 8) (r : PyData) : ∃ v : Bool, Ans m I.p_fits_rows [.int w, s.d, r] (c + 2) (.ok (.fr (.bool v))) ∧ (v = true ↔ ∃ rs bs, r = .list rs ∧ rs.length < 2 ^ w ∧ FitL (List.replicate rs.length s) rs bs) := by
  have hp : (2 : Int) ^ w = ((2 ^ w : Nat) : Int) := by push_cast; rfl
  obtain ⟨t1, t2⟩ := two8 hw
  cases r with
  | list rs =>
    by_cases hl : rs.length < 2 ^ w
    · obtain ⟨v, hv, iv⟩ := fits_each he c (List.replicate rs.length s) (fun t ht => by rw [List.eq_of_mem_replicate ht]; exact hs) (by rw [List.length_replicate]; omega) (.list rs)
      rw [List.map_replicate] at hv
      have e : decide ((rs.length : Int) < 2 ^ w) = true := decide_eq_true (by omega)
      refine ⟨v, ans h (env := [(some (Sl.fr (.int w))), (some (Sl.fr (s.d))), (some (Sl.fr (.list rs)))]) rfl rfl fun n hn => ?_, ?_⟩
      · simp -implicitDefEqProofs only [Q.xs, Q.xs1, ev, evs, evI, evC, evJ, bind_ok, bind_exc, exR_ok, exR_exc, seq_nx, seq_rt, seq_xc, varR_0, varR_S, bb_add, bb_sub, bb_mul2, bb_and, cc_lt, cc_le, cc_gt, cc_ge, cc_eq, cc_ne, cc_eqb, cc_eqs, ll_len, ll_lent, ll_list, ll_listt, ll_max2, ll_min2, toD_fr, toD_ow, lstR_ok, neg_i, erR_0, erR_S, catch_nx, catch_rt, catch_xc, sfin_rt, sfin_nx, noEr_n, noEr_f, noEr_o, noEr_0, no_int, no_list, no_tuple, no_none, no_bool, no_str, isiD, List.set_cons_zero, List.set_cons_succ, decide_true, decide_false, Bool.not_true, Bool.not_false, if_true, if_false, Bool.false_eq_true, reduceIte, b_p_fits_rows, a_roomof hr w (by omega) n (by omega), e, rep1 s.d rs.length (by omega), l1, hv n (by omega)]
      · rw [iv]
        exact ⟨fun ⟨rs', bs, e, z⟩ => by cases e; exact ⟨rs, bs, rfl, hl, z⟩, fun ⟨rs', bs, e, _, z⟩ => by cases e; exact ⟨rs, bs, rfl, z⟩⟩
    · have e : decide ((rs.length : Int) < 2 ^ w) = false := decide_eq_false (by omega)
      refine ⟨false, ans h (env := [(some (Sl.fr (.int w))), (some (Sl.fr (s.d))), (some (Sl.fr (.list rs)))]) rfl rfl fun n hn => ?_, ?_⟩
      · simp -implicitDefEqProofs only [Q.xs, Q.xs1, ev, evs, evI, evC, evJ, bind_ok, bind_exc, exR_ok, exR_exc, seq_nx, seq_rt, seq_xc, varR_0, varR_S, bb_add, bb_sub, bb_mul2, bb_and, cc_lt, cc_le, cc_gt, cc_ge, cc_eq, cc_ne, cc_eqb, cc_eqs, ll_len, ll_lent, ll_list, ll_listt, ll_max2, ll_min2, toD_fr, toD_ow, lstR_ok, neg_i, erR_0, erR_S, catch_nx, catch_rt, catch_xc, sfin_rt, sfin_nx, noEr_n, noEr_f, noEr_o, noEr_0, no_int, no_list, no_tuple, no_none, no_bool, no_str, isiD, List.set_cons_zero, List.set_cons_succ, decide_true, decide_false, Bool.not_true, Bool.not_false, if_true, if_false, Bool.false_eq_true, reduceIte, b_p_fits_rows, a_roomof hr w (by omega) n (by omega), e]
      · exact ⟨(fun z => by cases z), fun ⟨rs', bs, e, z, _⟩ => by cases e; exact absurd z hl⟩
  | _ =>
    refine ⟨false, ans h (env := [(some (Sl.fr (.int w))), (some (Sl.fr (s.d))), (some (Sl.fr (_)))]) rfl rfl fun n hn => ?_, by simp⟩
    simp -implicitDefEqProofs only [Q.xs, Q.xs1, ev, evs, evI, evC, evJ, bind_ok, bind_exc, exR_ok, exR_exc, seq_nx, seq_rt, seq_xc, varR_0, varR_S, bb_add, bb_sub, bb_mul2, bb_and, cc_lt, cc_le, cc_gt, cc_ge, cc_eq, cc_ne, cc_eqb, cc_eqs, ll_len, ll_lent, ll_list, ll_listt, ll_max2, ll_min2, toD_fr, toD_ow, lstR_ok, neg_i, erR_0, erR_S, catch_nx, catch_rt, catch_xc, sfin_rt, sfin_nx, noEr_n, noEr_f, noEr_o, noEr_0, no_int, no_list, no_tuple, no_none, no_bool, no_str, isiD, List.set_cons_zero, List.set_cons_succ, decide_true, decide_false, Bool.not_true, Bool.not_false, if_true, if_false, Bool.false_eq_true, reduceIte, b_p_fits_rows]
theorem fits_one (h : At_p_fits_one m I) (hw : At_p_whole_within m I) (c : Nat) (hc : 1 ≤ c) (ss : List Shp) (hss : ∀ s ∈ ss, FitsOk m I s c) (r : PyData) : ∃ v : Bool, Ans m I.p_fits_one [.list (ss.map Shp.d), r] (c + 1) (.ok (.fr (.bool v))) ∧ (v = true ↔ ∃ (p : Nat) (s : Shp) (x : PyData) (b : List PyData), r = .tuple [.int p, x] ∧ ss[p]? = some s ∧ Fit s x b) := by
  cases r with
  | tuple xs =>
    by_cases hl : (xs.length : Int) = 2
    · obtain ⟨q, x, rfl⟩ : ∃ q x, xs = [q, x] := by
        match xs, hl with
        | [q, x], _ => exact ⟨q, x, rfl⟩
        | [], h => simp at h
        | [_], h => simp at h
        | _ :: _ :: _ :: _, h => simp only [List.length_cons] at h; omega
      have e : (!decide (((([q, x] : List PyData).length : Nat) : Int) = 2)) = false := by simp
      have st : ∀ n, Q.xs SS m.sub (m.Phi n) m.L (tk 2 (b_p_fits_one I)) [(some (Sl.fr (.list (ss.map Shp.d)))), (some (Sl.fr (.tuple [q, x]))), none, none] = .nx [(some (Sl.fr (.list (ss.map Shp.d)))), (some (Sl.fr (.tuple [q, x]))), (some (Sl.fr (q))), (some (Sl.fr (x)))] := fun n => by
        simp -implicitDefEqProofs only [Q.xs, Q.xs1, ev, evs, evI, evC, evJ, bind_ok, bind_exc, exR_ok, exR_exc, seq_nx, seq_rt, seq_xc, varR_0, varR_S, bb_add, bb_sub, bb_mul2, bb_and, cc_lt, cc_le, cc_gt, cc_ge, cc_eq, cc_ne, cc_eqb, cc_eqs, ll_len, ll_lent, ll_list, ll_listt, ll_max2, ll_min2, toD_fr, toD_ow, lstR_ok, neg_i, erR_0, erR_S, catch_nx, catch_rt, catch_xc, sfin_rt, sfin_nx, noEr_n, noEr_f, noEr_o, noEr_0, no_int, no_list, no_tuple, no_none, no_bool, no_str, isiD, List.set_cons_zero, List.set_cons_succ, decide_true, decide_false, Bool.not_true, Bool.not_false, if_true, if_false, Bool.false_eq_true, reduceIte, b_p_fits_one, tk, cc_ne, e, unp2, zip2, bindE]
      obtain ⟨v, hv, iv⟩ := a_within hw q 0 ((ss.length : Int) - 1)
      cases v with
      | false =>
        refine ⟨false, ans h (env := [(some (Sl.fr (.list (ss.map Shp.d)))), (some (Sl.fr (.tuple [q, x]))), none, none]) rfl rfl fun n hn => ?_, ?_⟩
        · rw [xs_step 2 (st n)]
          have hv := hv n (by omega)
          simp -implicitDefEqProofs only [Q.xs, Q.xs1, ev, evs, evI, evC, evJ, bind_ok, bind_exc, exR_ok, exR_exc, seq_nx, seq_rt, seq_xc, varR_0, varR_S, bb_add, bb_sub, bb_mul2, bb_and, cc_lt, cc_le, cc_gt, cc_ge, cc_eq, cc_ne, cc_eqb, cc_eqs, ll_len, ll_lent, ll_list, ll_listt, ll_max2, ll_min2, toD_fr, toD_ow, lstR_ok, neg_i, erR_0, erR_S, catch_nx, catch_rt, catch_xc, sfin_rt, sfin_nx, noEr_n, noEr_f, noEr_o, noEr_0, no_int, no_list, no_tuple, no_none, no_bool, no_str, isiD, List.set_cons_zero, List.set_cons_succ, decide_true, decide_false, Bool.not_true, Bool.not_false, if_true, if_false, Bool.false_eq_true, reduceIte, b_p_fits_one, dr, List.length_map, hv]
        · refine ⟨(fun z => by cases z), fun ⟨p, s, x', b, e, hp, hb⟩ => ?_⟩
          cases e
          have := (List.getElem?_eq_some_iff.mp hp).1
          exact absurd (iv.mpr ⟨p, rfl, by omega, by omega⟩) (by simp)
      | true =>
        obtain ⟨y, rfl, hy1, hy2⟩ := iv.mp rfl
        obtain ⟨p, rfl⟩ : ∃ p : Nat, y = p := ⟨y.toNat, by omega⟩
        have hpl : p < ss.length := by omega
        obtain ⟨u, hu, iu⟩ := hss ss[p] (List.getElem_mem hpl) x
        have ex : ixR (.list (ss.map Shp.d)) (.int (p : Int)) = .ok ss[p].d := ix_l (by rw [List.getElem?_map, List.getElem?_eq_getElem hpl]; rfl)
        refine ⟨u, ans h (env := [(some (Sl.fr (.list (ss.map Shp.d)))), (some (Sl.fr (.tuple [.int p, x]))), none, none]) rfl rfl fun n hn => ?_, ?_⟩
        · rw [xs_step 2 (st n)]
          have hv := hv n (by omega)
          simp -implicitDefEqProofs only [Q.xs, Q.xs1, ev, evs, evI, evC, evJ, bind_ok, bind_exc, exR_ok, exR_exc, seq_nx, seq_rt, seq_xc, varR_0, varR_S, bb_add, bb_sub, bb_mul2, bb_and, cc_lt, cc_le, cc_gt, cc_ge, cc_eq, cc_ne, cc_eqb, cc_eqs, ll_len, ll_lent, ll_list, ll_listt, ll_max2, ll_min2, toD_fr, toD_ow, lstR_ok, neg_i, erR_0, erR_S, catch_nx, catch_rt, catch_xc, sfin_rt, sfin_nx, noEr_n, noEr_f, noEr_o, noEr_0, no_int, no_list, no_tuple, no_none, no_bool, no_str, isiD, List.set_cons_zero, List.set_cons_succ, decide_true, decide_false, Bool.not_true, Bool.not_false, if_true, if_false, Bool.false_eq_true, reduceIte, b_p_fits_one, dr, List.length_map, hv, ex, hu n (by omega)]
        · rw [iu]
          refine ⟨fun ⟨b, hb⟩ => ⟨p, ss[p], x, b, rfl, List.getElem?_eq_getElem hpl, hb⟩, fun ⟨p', s, x', b, e, hp, hb⟩ => ?_⟩
          simp only [PyData.tuple.injEq, List.cons.injEq, PyData.int.injEq, and_true] at e
          obtain ⟨e1, e2⟩ := e
          have e1 : p = p' := by omega
          subst e1 e2
          rw [List.getElem?_eq_getElem hpl] at hp
          cases hp
          exact ⟨b, hb⟩
    · have e : (!decide ((xs.length : Int) = 2)) = true := by simp [hl]
      refine ⟨false, ans h (env := [(some (Sl.fr (.list (ss.map Shp.d)))), (some (Sl.fr (.tuple xs))), none, none]) rfl rfl fun n hn => ?_, ?_⟩
      · simp -implicitDefEqProofs only [Q.xs, Q.xs1, ev, evs, evI, evC, evJ, bind_ok, bind_exc, exR_ok, exR_exc, seq_nx, seq_rt, seq_xc, varR_0, varR_S, bb_add, bb_sub, bb_mul2, bb_and, cc_lt, cc_le, cc_gt, cc_ge, cc_eq, cc_ne, cc_eqb, cc_eqs, ll_len, ll_lent, ll_list, ll_listt, ll_max2, ll_min2, toD_fr, toD_ow, lstR_ok, neg_i, erR_0, erR_S, catch_nx, catch_rt, catch_xc, sfin_rt, sfin_nx, noEr_n, noEr_f, noEr_o, noEr_0, no_int, no_list, no_tuple, no_none, no_bool, no_str, isiD, List.set_cons_zero, List.set_cons_succ, decide_true, decide_false, Bool.not_true, Bool.not_false, if_true, if_false, Bool.false_eq_true, reduceIte, b_p_fits_one, cc_ne, e]
      · exact ⟨(fun z => by cases z), fun ⟨p, s, x', b, e, hp, hb⟩ => by cases e; exact absurd rfl hl⟩
  | _ =>
    refine ⟨false, ans h (env := [(some (Sl.fr (.list (ss.map Shp.d)))), (some (Sl.fr (_))), none, none]) rfl rfl fun n hn => ?_, by simp⟩
    simp -implicitDefEqProofs only [Q.xs, Q.xs1, ev, evs, evI, evC, evJ, bind_ok, bind_exc, exR_ok, exR_exc, seq_nx, seq_rt, seq_xc, varR_0, varR_S, bb_add, bb_sub, bb_mul2, bb_and, cc_lt, cc_le, cc_gt, cc_ge, cc_eq, cc_ne, cc_eqb, cc_eqs, ll_len, ll_lent, ll_list, ll_listt, ll_max2, ll_min2, toD_fr, toD_ow, lstR_ok, neg_i, erR_0, erR_S, catch_nx, catch_rt, catch_xc, sfin_rt, sfin_nx, noEr_n, noEr_f, noEr_o, noEr_0, no_int, no_list, no_tuple, no_none, no_bool, no_str, isiD, List.set_cons_zero, List.set_cons_succ, decide_true, decide_false, Bool.not_true, Bool.not_false, if_true, if_false, Bool.false_eq_true, reduceIte, b_p_fits_one]
theorem a_fits (h : At_p_fits m I) (hw : At_p_whole_within m I) (hrw : At_p_fits_rows m I) (he : At_p_fits_each m I) (ho : At_p_fits_one m I) (hr : At_p_room_of m I) : ∀ s : Shp, s.ok → FitsOk m I s (3 * s.dep) := by
  refine Shp.ind ?_ ?_ ?_ ?_ ?_ ?_
  · intro w lo hi ok r
    obtain ⟨v, hv, iv⟩ := a_within hw r lo hi
    refine ⟨v, ans (c := 2) h (env := [(some (Sl.fr ((Shp.num w lo hi).d))), (some (Sl.fr (r))), none, none, none, none, none]) rfl rfl fun n hn => ?_, iv.trans ⟨fun ⟨x, e, h1, h2⟩ => by subst e; exact ⟨_, .num h1 h2⟩, fun ⟨b, hb⟩ => by cases hb with | num h1 h2 => exact ⟨_, rfl, h1, h2⟩⟩⟩
    simp only [Shp.d]
    simp -implicitDefEqProofs only [Q.xs, Q.xs1, ev, evs, evI, evC, evJ, bind_ok, bind_exc, exR_ok, exR_exc, seq_nx, seq_rt, seq_xc, varR_0, varR_S, bb_add, bb_sub, bb_mul2, bb_and, cc_lt, cc_le, cc_gt, cc_ge, cc_eq, cc_ne, cc_eqb, cc_eqs, ll_len, ll_lent, ll_list, ll_listt, ll_max2, ll_min2, toD_fr, toD_ow, lstR_ok, neg_i, erR_0, erR_S, catch_nx, catch_rt, catch_xc, sfin_rt, sfin_nx, noEr_n, noEr_f, noEr_o, noEr_0, no_int, no_list, no_tuple, no_none, no_bool, no_str, isiD, List.set_cons_zero, List.set_cons_succ, decide_true, decide_false, Bool.not_true, Bool.not_false, if_true, if_false, Bool.false_eq_true, reduceIte, b_p_fits, xsM, pt22, pt23, pt24, pt32, pt33, pt34, pt42, pt43, pt44, psR, p1R, eqR_ss, bindE, List.nil_append, List.cons_append, kk_num_num, kk_num_pad, kk_num_maybe, kk_num_rows, kk_num_group, kk_num_one, kk_pad_num, kk_pad_pad, kk_pad_maybe, kk_pad_rows, kk_pad_group, kk_pad_one, kk_maybe_num, kk_maybe_pad, kk_maybe_maybe, kk_maybe_rows, kk_maybe_group, kk_maybe_one, kk_rows_num, kk_rows_pad, kk_rows_maybe, kk_rows_rows, kk_rows_group, kk_rows_one, kk_group_num, kk_group_pad, kk_group_maybe, kk_group_rows, kk_group_group, kk_group_one, kk_one_num, kk_one_pad, kk_one_maybe, kk_one_rows, kk_one_group, kk_one_one, kk_read_read, kk_read_short, kk_read_left, kk_read_wrong, kk_short_read, kk_short_short, kk_short_left, kk_short_wrong, kk_left_read, kk_left_short, kk_left_left, kk_left_wrong, kk_wrong_read, kk_wrong_short, kk_wrong_left, kk_wrong_wrong, hv n (by omega)]
  · intro w ok r
    refine ⟨isNo r, ans (c := 2) h (env := [(some (Sl.fr ((Shp.pad w).d))), (some (Sl.fr (r))), none, none, none, none, none]) rfl rfl fun n hn => ?_, ⟨fun z => ⟨_, by cases r <;> first | exact Bool.noConfusion z | exact .pad⟩, fun ⟨b, hb⟩ => by cases hb; rfl⟩⟩
    simp only [Shp.d]
    simp -implicitDefEqProofs only [Q.xs, Q.xs1, ev, evs, evI, evC, evJ, bind_ok, bind_exc, exR_ok, exR_exc, seq_nx, seq_rt, seq_xc, varR_0, varR_S, bb_add, bb_sub, bb_mul2, bb_and, cc_lt, cc_le, cc_gt, cc_ge, cc_eq, cc_ne, cc_eqb, cc_eqs, ll_len, ll_lent, ll_list, ll_listt, ll_max2, ll_min2, toD_fr, toD_ow, lstR_ok, neg_i, erR_0, erR_S, catch_nx, catch_rt, catch_xc, sfin_rt, sfin_nx, noEr_n, noEr_f, noEr_o, noEr_0, no_int, no_list, no_tuple, no_none, no_bool, no_str, isiD, List.set_cons_zero, List.set_cons_succ, decide_true, decide_false, Bool.not_true, Bool.not_false, if_true, if_false, Bool.false_eq_true, reduceIte, b_p_fits, xsM, pt22, pt23, pt24, pt32, pt33, pt34, pt42, pt43, pt44, psR, p1R, eqR_ss, bindE, List.nil_append, List.cons_append, kk_num_num, kk_num_pad, kk_num_maybe, kk_num_rows, kk_num_group, kk_num_one, kk_pad_num, kk_pad_pad, kk_pad_maybe, kk_pad_rows, kk_pad_group, kk_pad_one, kk_maybe_num, kk_maybe_pad, kk_maybe_maybe, kk_maybe_rows, kk_maybe_group, kk_maybe_one, kk_rows_num, kk_rows_pad, kk_rows_maybe, kk_rows_rows, kk_rows_group, kk_rows_one, kk_group_num, kk_group_pad, kk_group_maybe, kk_group_rows, kk_group_group, kk_group_one, kk_one_num, kk_one_pad, kk_one_maybe, kk_one_rows, kk_one_group, kk_one_one, kk_read_read, kk_read_short, kk_read_left, kk_read_wrong, kk_short_read, kk_short_short, kk_short_left, kk_short_wrong, kk_left_read, kk_left_short, kk_left_left, kk_left_wrong, kk_wrong_read, kk_wrong_short, kk_wrong_left, kk_wrong_wrong]
  · intro s ih ok r
    obtain ⟨v, hv, iv⟩ := fits_rows hrw he hr _ s (ih ok) 1 (by decide) r
    refine ⟨v, ans (c := 3 * s.dep + 2) h (env := [(some (Sl.fr ((Shp.maybe s).d))), (some (Sl.fr (r))), none, none, none, none, none]) rfl rfl fun n hn => ?_, iv.trans ⟨fun ⟨rs, bs, e, h1, h2⟩ => by subst e; exact ⟨_, .maybe (by omega) h2⟩, fun ⟨b, hb⟩ => by cases hb with | maybe h1 h2 => exact ⟨_, _, rfl, by omega, h2⟩⟩⟩
    have hv := hv n (by omega)
    simp only [Shp.d]
    simp -implicitDefEqProofs only [Q.xs, Q.xs1, ev, evs, evI, evC, evJ, bind_ok, bind_exc, exR_ok, exR_exc, seq_nx, seq_rt, seq_xc, varR_0, varR_S, bb_add, bb_sub, bb_mul2, bb_and, cc_lt, cc_le, cc_gt, cc_ge, cc_eq, cc_ne, cc_eqb, cc_eqs, ll_len, ll_lent, ll_list, ll_listt, ll_max2, ll_min2, toD_fr, toD_ow, lstR_ok, neg_i, erR_0, erR_S, catch_nx, catch_rt, catch_xc, sfin_rt, sfin_nx, noEr_n, noEr_f, noEr_o, noEr_0, no_int, no_list, no_tuple, no_none, no_bool, no_str, isiD, List.set_cons_zero, List.set_cons_succ, decide_true, decide_false, Bool.not_true, Bool.not_false, if_true, if_false, Bool.false_eq_true, reduceIte, b_p_fits, xsM, pt22, pt23, pt24, pt32, pt33, pt34, pt42, pt43, pt44, psR, p1R, eqR_ss, bindE, List.nil_append, List.cons_append, kk_num_num, kk_num_pad, kk_num_maybe, kk_num_rows, kk_num_group, kk_num_one, kk_pad_num, kk_pad_pad, kk_pad_maybe, kk_pad_rows, kk_pad_group, kk_pad_one, kk_maybe_num, kk_maybe_pad, kk_maybe_maybe, kk_maybe_rows, kk_maybe_group, kk_maybe_one, kk_rows_num, kk_rows_pad, kk_rows_maybe, kk_rows_rows, kk_rows_group, kk_rows_one, kk_group_num, kk_group_pad, kk_group_maybe, kk_group_rows, kk_group_group, kk_group_one, kk_one_num, kk_one_pad, kk_one_maybe, kk_one_rows, kk_one_group, kk_one_one, kk_read_read, kk_read_short, kk_read_left, kk_read_wrong, kk_short_read, kk_short_short, kk_short_left, kk_short_wrong, kk_left_read, kk_left_short, kk_left_left, kk_left_wrong, kk_wrong_read, kk_wrong_short, kk_wrong_left, kk_wrong_wrong]
    rw [show (1 : Int) = ((1 : Nat) : Int) from rfl, hv]
    simp -implicitDefEqProofs only [Q.xs, Q.xs1, ev, evs, evI, evC, evJ, bind_ok, bind_exc, exR_ok, exR_exc, seq_nx, seq_rt, seq_xc, varR_0, varR_S, bb_add, bb_sub, bb_mul2, bb_and, cc_lt, cc_le, cc_gt, cc_ge, cc_eq, cc_ne, cc_eqb, cc_eqs, ll_len, ll_lent, ll_list, ll_listt, ll_max2, ll_min2, toD_fr, toD_ow, lstR_ok, neg_i, erR_0, erR_S, catch_nx, catch_rt, catch_xc, sfin_rt, sfin_nx, noEr_n, noEr_f, noEr_o, noEr_0, no_int, no_list, no_tuple, no_none, no_bool, no_str, isiD, List.set_cons_zero, List.set_cons_succ, decide_true, decide_false, Bool.not_true, Bool.not_false, if_true, if_false, Bool.false_eq_true, reduceIte]
  · intro w s ih ok r
    obtain ⟨v, hv, iv⟩ := fits_rows hrw he hr _ s (ih ok.2.2) w ok.1 r
    refine ⟨v, ans (c := 3 * s.dep + 2) h (env := [(some (Sl.fr ((Shp.rows w s).d))), (some (Sl.fr (r))), none, none, none, none, none]) rfl rfl fun n hn => ?_, iv.trans ⟨fun ⟨rs, bs, e, h1, h2⟩ => by subst e; exact ⟨_, .rows h1 h2⟩, fun ⟨b, hb⟩ => by cases hb with | rows h1 h2 => exact ⟨_, _, rfl, h1, h2⟩⟩⟩
    simp only [Shp.d]
    simp -implicitDefEqProofs only [Q.xs, Q.xs1, ev, evs, evI, evC, evJ, bind_ok, bind_exc, exR_ok, exR_exc, seq_nx, seq_rt, seq_xc, varR_0, varR_S, bb_add, bb_sub, bb_mul2, bb_and, cc_lt, cc_le, cc_gt, cc_ge, cc_eq, cc_ne, cc_eqb, cc_eqs, ll_len, ll_lent, ll_list, ll_listt, ll_max2, ll_min2, toD_fr, toD_ow, lstR_ok, neg_i, erR_0, erR_S, catch_nx, catch_rt, catch_xc, sfin_rt, sfin_nx, noEr_n, noEr_f, noEr_o, noEr_0, no_int, no_list, no_tuple, no_none, no_bool, no_str, isiD, List.set_cons_zero, List.set_cons_succ, decide_true, decide_false, Bool.not_true, Bool.not_false, if_true, if_false, Bool.false_eq_true, reduceIte, b_p_fits, xsM, pt22, pt23, pt24, pt32, pt33, pt34, pt42, pt43, pt44, psR, p1R, eqR_ss, bindE, List.nil_append, List.cons_append, kk_num_num, kk_num_pad, kk_num_maybe, kk_num_rows, kk_num_group, kk_num_one, kk_pad_num, kk_pad_pad, kk_pad_maybe, kk_pad_rows, kk_pad_group, kk_pad_one, kk_maybe_num, kk_maybe_pad, kk_maybe_maybe, kk_maybe_rows, kk_maybe_group, kk_maybe_one, kk_rows_num, kk_rows_pad, kk_rows_maybe, kk_rows_rows, kk_rows_group, kk_rows_one, kk_group_num, kk_group_pad, kk_group_maybe, kk_group_rows, kk_group_group, kk_group_one, kk_one_num, kk_one_pad, kk_one_maybe, kk_one_rows, kk_one_group, kk_one_one, kk_read_read, kk_read_short, kk_read_left, kk_read_wrong, kk_short_read, kk_short_short, kk_short_left, kk_short_wrong, kk_left_read, kk_left_short, kk_left_left, kk_left_wrong, kk_wrong_read, kk_wrong_short, kk_wrong_left, kk_wrong_wrong, hv n (by omega)]
  · intro ss ih ok r
    have oks := Shp.oks_iff.mp ok.2
    obtain ⟨v, hv, iv⟩ := fits_each he (3 * Shp.deps ss) ss (fun s hs r => by
      obtain ⟨v, hv, iv⟩ := ih s hs (oks s hs) r
      exact ⟨v, hv.up (by have := Shp.dep_mem hs; omega), iv⟩) (by have := ok.1; omega) r
    refine ⟨v, (ans (c := 3 * Shp.deps ss + 1) h (env := [(some (Sl.fr ((Shp.group ss).d))), (some (Sl.fr (r))), none, none, none, none, none]) rfl rfl fun n hn => ?_).up (by simp only [Shp.dep]; omega), iv.trans ⟨fun ⟨rs, bs, e, h1⟩ => by subst e; exact ⟨_, .group h1⟩, fun ⟨b, hb⟩ => by cases hb with | group h1 => exact ⟨_, _, rfl, h1⟩⟩⟩
    simp only [Shp.d, Shp.ds_map]
    simp -implicitDefEqProofs only [Q.xs, Q.xs1, ev, evs, evI, evC, evJ, bind_ok, bind_exc, exR_ok, exR_exc, seq_nx, seq_rt, seq_xc, varR_0, varR_S, bb_add, bb_sub, bb_mul2, bb_and, cc_lt, cc_le, cc_gt, cc_ge, cc_eq, cc_ne, cc_eqb, cc_eqs, ll_len, ll_lent, ll_list, ll_listt, ll_max2, ll_min2, toD_fr, toD_ow, lstR_ok, neg_i, erR_0, erR_S, catch_nx, catch_rt, catch_xc, sfin_rt, sfin_nx, noEr_n, noEr_f, noEr_o, noEr_0, no_int, no_list, no_tuple, no_none, no_bool, no_str, isiD, List.set_cons_zero, List.set_cons_succ, decide_true, decide_false, Bool.not_true, Bool.not_false, if_true, if_false, Bool.false_eq_true, reduceIte, b_p_fits, xsM, pt22, pt23, pt24, pt32, pt33, pt34, pt42, pt43, pt44, psR, p1R, eqR_ss, bindE, List.nil_append, List.cons_append, kk_num_num, kk_num_pad, kk_num_maybe, kk_num_rows, kk_num_group, kk_num_one, kk_pad_num, kk_pad_pad, kk_pad_maybe, kk_pad_rows, kk_pad_group, kk_pad_one, kk_maybe_num, kk_maybe_pad, kk_maybe_maybe, kk_maybe_rows, kk_maybe_group, kk_maybe_one, kk_rows_num, kk_rows_pad, kk_rows_maybe, kk_rows_rows, kk_rows_group, kk_rows_one, kk_group_num, kk_group_pad, kk_group_maybe, kk_group_rows, kk_group_group, kk_group_one, kk_one_num, kk_one_pad, kk_one_maybe, kk_one_rows, kk_one_group, kk_one_one, kk_read_read, kk_read_short, kk_read_left, kk_read_wrong, kk_short_read, kk_short_short, kk_short_left, kk_short_wrong, kk_left_read, kk_left_short, kk_left_left, kk_left_wrong, kk_wrong_read, kk_wrong_short, kk_wrong_left, kk_wrong_wrong, hv n (by omega)]
  · intro w ss ih ok r
    have oks := Shp.oks_iff.mp ok.2.2.2.2
    obtain ⟨v, hv, iv⟩ := fits_one ho hw (3 * Shp.deps ss + 1) (by omega) ss (fun s hs r => by
      obtain ⟨v, hv, iv⟩ := ih s hs (oks s hs) r
      exact ⟨v, hv.up (by have := Shp.dep_mem hs; omega), iv⟩) r
    refine ⟨v, (ans (c := 3 * Shp.deps ss + 2) h (env := [(some (Sl.fr ((Shp.one w ss).d))), (some (Sl.fr (r))), none, none, none, none, none]) rfl rfl fun n hn => ?_).up (by simp only [Shp.dep]; omega), iv.trans ⟨fun ⟨p, s, x, b, e, h1, h2⟩ => by subst e; exact ⟨_, .one h1 h2⟩, fun ⟨b, hb⟩ => by cases hb with | one h1 h2 => exact ⟨_, _, _, _, rfl, h1, h2⟩⟩⟩
    simp only [Shp.d, Shp.ds_map]
    simp -implicitDefEqProofs only [Q.xs, Q.xs1, ev, evs, evI, evC, evJ, bind_ok, bind_exc, exR_ok, exR_exc, seq_nx, seq_rt, seq_xc, varR_0, varR_S, bb_add, bb_sub, bb_mul2, bb_and, cc_lt, cc_le, cc_gt, cc_ge, cc_eq, cc_ne, cc_eqb, cc_eqs, ll_len, ll_lent, ll_list, ll_listt, ll_max2, ll_min2, toD_fr, toD_ow, lstR_ok, neg_i, erR_0, erR_S, catch_nx, catch_rt, catch_xc, sfin_rt, sfin_nx, noEr_n, noEr_f, noEr_o, noEr_0, no_int, no_list, no_tuple, no_none, no_bool, no_str, isiD, List.set_cons_zero, List.set_cons_succ, decide_true, decide_false, Bool.not_true, Bool.not_false, if_true, if_false, Bool.false_eq_true, reduceIte, b_p_fits, xsM, pt22, pt23, pt24, pt32, pt33, pt34, pt42, pt43, pt44, psR, p1R, eqR_ss, bindE, List.nil_append, List.cons_append, kk_num_num, kk_num_pad, kk_num_maybe, kk_num_rows, kk_num_group, kk_num_one, kk_pad_num, kk_pad_pad, kk_pad_maybe, kk_pad_rows, kk_pad_group, kk_pad_one, kk_maybe_num, kk_maybe_pad, kk_maybe_maybe, kk_maybe_rows, kk_maybe_group, kk_maybe_one, kk_rows_num, kk_rows_pad, kk_rows_maybe, kk_rows_rows, kk_rows_group, kk_rows_one, kk_group_num, kk_group_pad, kk_group_maybe, kk_group_rows, kk_group_group, kk_group_one, kk_one_num, kk_one_pad, kk_one_maybe, kk_one_rows, kk_one_group, kk_one_one, kk_read_read, kk_read_short, kk_read_left, kk_read_wrong, kk_short_read, kk_short_short, kk_short_left, kk_short_wrong, kk_left_read, kk_left_short, kk_left_left, kk_left_wrong, kk_wrong_read, kk_wrong_short, kk_wrong_left, kk_wrong_wrong, hv n (by omega)]
end
end Q

set_option Elab.async false
set_option linter.all false
set_option maxRecDepth 100000
set_option autoImplicit false
namespace Q
open PySem (PyData Str)
section
variable {m : Md} {I : Ix}
def beL (I : Ix) : Sts := (.cons (.ext 2 (.call I.p_bits_by (.var 3) (.cons (.var 4) .nil))) .nil)
def beF (m : Md) (I : Ix) (n : Nat) : PyData → Env → Fl := fun d env => (match d with | .tuple [x, y] => Q.xs SS m.sub (m.Phi n) m.L (beL I) ((env.set 3 (some (.fr x))).set 4 (some (.fr y))) | _ => .bad)
theorem bits_each (h : At_p_bits_of_each m I) (c : Nat) (ss : List Shp) (rs bs : List PyData) (hb : bs.length ≤ 16777216) (run : ∀ e0 e1, ∃ o3' o4', ∀ n, c ≤ n → floop (beF m I n) (zipD (ss.map Shp.d) rs) [e0, e1, some (.ow []), none, none] = .nx [e0, e1, some (.ow bs), o3', o4']) :
    Ans m I.p_bits_of_each [.list (ss.map Shp.d), .list rs] (c + 1) (.ok (.ow bs)) := by
  obtain ⟨o3, o4, run⟩ := run (some (Sl.fr (.list (ss.map Shp.d)))) (some (Sl.fr (.list rs)))
  refine ans h (env := [(some (Sl.fr (.list (ss.map Shp.d)))), (some (Sl.fr (.list rs))), none, none, none]) rfl rfl fun n hn => ?_
  have st : Q.xs SS m.sub (m.Phi n) m.L (tk 1 (b_p_bits_of_each I)) [(some (Sl.fr (.list (ss.map Shp.d)))), (some (Sl.fr (.list rs))), none, none, none] = .nx [(some (Sl.fr (.list (ss.map Shp.d)))), (some (Sl.fr (.list rs))), some (.ow []), none, none] := by
    simp -implicitDefEqProofs only [Q.xs, Q.xs1, ev, evs, evI, evC, evJ, bind_ok, bind_exc, exR_ok, exR_exc, seq_nx, seq_rt, seq_xc, varR_0, varR_S, bb_add, bb_sub, bb_mul2, bb_and, cc_lt, cc_le, cc_gt, cc_ge, cc_eq, cc_ne, cc_eqb, cc_eqs, ll_len, ll_lent, ll_list, ll_listt, ll_max2, ll_min2, toD_fr, toD_ow, lstR_ok, neg_i, erR_0, erR_S, catch_nx, catch_rt, catch_xc, sfin_rt, sfin_nx, noEr_n, noEr_f, noEr_o, noEr_0, no_int, no_list, no_tuple, no_none, no_bool, no_str, isiD, List.set_cons_zero, List.set_cons_succ, decide_true, decide_false, Bool.not_true, Bool.not_false, if_true, if_false, Bool.false_eq_true, reduceIte, b_p_bits_of_each, tk, l0]
  have hi : evI SS (m.Phi n) (.zip (.var 0) (.var 1)) [(some (Sl.fr (.list (ss.map Shp.d)))), (some (Sl.fr (.list rs))), some (.ow []), none, none] = .ok (zipD (ss.map Shp.d) rs) := by
    simp -implicitDefEqProofs only [Q.xs, Q.xs1, ev, evs, evI, evC, evJ, bind_ok, bind_exc, exR_ok, exR_exc, seq_nx, seq_rt, seq_xc, varR_0, varR_S, bb_add, bb_sub, bb_mul2, bb_and, cc_lt, cc_le, cc_gt, cc_ge, cc_eq, cc_ne, cc_eqb, cc_eqs, ll_len, ll_lent, ll_list, ll_listt, ll_max2, ll_min2, toD_fr, toD_ow, lstR_ok, neg_i, erR_0, erR_S, catch_nx, catch_rt, catch_xc, sfin_rt, sfin_nx, noEr_n, noEr_f, noEr_o, noEr_0, no_int, no_list, no_tuple, no_none, no_bool, no_str, isiD, List.set_cons_zero, List.set_cons_succ, decide_true, decide_false, Bool.not_true, Bool.not_false, if_true, if_false, Bool.false_eq_true, reduceIte]
  rw [xs_step 1 st, show dr 1 (b_p_bits_of_each I) = .cons (.for2 3 4 (.zip (.var 0) (.var 1)) (beL I)) (.cons (.retO 2) .nil) from rfl, xs_for2, hi, exR_ok]
  show (floop (beF m I n) _ _).seq _ = _
  rw [run n hn]
  simp -implicitDefEqProofs only [Q.xs, Q.xs1, ev, evs, evI, evC, evJ, bind_ok, bind_exc, exR_ok, exR_exc, seq_nx, seq_rt, seq_xc, varR_0, varR_S, bb_add, bb_sub, bb_mul2, bb_and, cc_lt, cc_le, cc_gt, cc_ge, cc_eq, cc_ne, cc_eqb, cc_eqs, ll_len, ll_lent, ll_list, ll_listt, ll_max2, ll_min2, toD_fr, toD_ow, lstR_ok, neg_i, erR_0, erR_S, catch_nx, catch_rt, catch_xc, sfin_rt, sfin_nx, noEr_n, noEr_f, noEr_o, noEr_0, no_int, no_list, no_tuple, no_none, no_bool, no_str, isiD, List.set_cons_zero, List.set_cons_succ, decide_true, decide_false, Bool.not_true, Bool.not_false, if_true, if_false, Bool.false_eq_true, reduceIte, List.getElem?_cons_zero, List.getElem?_cons_succ]
theorem bits_rows (h : At_p_bits_of_rows m I) (hb : At_p_bits_of m I) (hr : At_p_room_of m I) (c : Nat) (hc : 2 ≤ c) (s : Shp) (rs bs : List PyData) (w : Nat) (hw : w ≤ 64) (hl : rs.length < 2 ^ w) (hl2 : rs.length ≤ 16777216) (hz : w + bs.length ≤ 16777216)
    (he : Ans m I.p_bits_of_each [.list (List.replicate rs.length s.d), .list rs] c (.ok (.ow bs))) : Ans m I.p_bits_of_rows [.int w, s.d, .list rs] (c + 1) (.ok (.fr (.list (wr rs.length w ++ bs)))) := by
  have hp : (2 : Int) ^ w = ((2 ^ w : Nat) : Int) := by push_cast; rfl
  refine ans h (env := [(some (Sl.fr (.int w))), (some (Sl.fr (s.d))), (some (Sl.fr (.list rs)))]) rfl rfl fun n hn => ?_
  simp -implicitDefEqProofs only [Q.xs, Q.xs1, ev, evs, evI, evC, evJ, bind_ok, bind_exc, exR_ok, exR_exc, seq_nx, seq_rt, seq_xc, varR_0, varR_S, bb_add, bb_sub, bb_mul2, bb_and, cc_lt, cc_le, cc_gt, cc_ge, cc_eq, cc_ne, cc_eqb, cc_eqs, ll_len, ll_lent, ll_list, ll_listt, ll_max2, ll_min2, toD_fr, toD_ow, lstR_ok, neg_i, erR_0, erR_S, catch_nx, catch_rt, catch_xc, sfin_rt, sfin_nx, noEr_n, noEr_f, noEr_o, noEr_0, no_int, no_list, no_tuple, no_none, no_bool, no_str, isiD, List.set_cons_zero, List.set_cons_succ, decide_true, decide_false, Bool.not_true, Bool.not_false, if_true, if_false, Bool.false_eq_true, reduceIte, b_p_bits_of_rows, a_bitsof hb hr rs.length w (by omega) (by omega) (by omega) n (by omega), rep1 s.d rs.length hl2, l1, he n hn, bb_addl (xs := wr rs.length w) (ys := bs) (by rw [wr_len]; exact hz)]
theorem a_bitsby (h : At_p_bits_by m I) (hbo : At_p_bits_of m I) (hr : At_p_room_of m I) (hrw : At_p_bits_of_rows m I) (he : At_p_bits_of_each m I) :
    (∀ s r b, Fit s r b → s.ok → b.length ≤ 16777216 → Ans m I.p_bits_by [s.d, r] (3 * s.dep) (.ok (.fr (.list b))) ∨ Ans m I.p_bits_by [s.d, r] (3 * s.dep) (.ok (.ow b))) ∧
    (∀ ss rs bs, FitL ss rs bs → (∀ s ∈ ss, s.ok) → ∀ (acc : List PyData), acc.length + bs.length ≤ 16777216 → ∀ c, (∀ s ∈ ss, 3 * s.dep ≤ c) → ∀ e0 e1 o3 o4, ∃ o3' o4', ∀ n, c ≤ n → floop (beF m I n) (zipD (ss.map Shp.d) rs) [e0, e1, some (.ow acc), o3, o4] = .nx [e0, e1, some (.ow (acc ++ bs)), o3', o4']) := by
  refine Fit.ind (P := fun s r b => s.ok → b.length ≤ 16777216 → Ans m I.p_bits_by [s.d, r] (3 * s.dep) (.ok (.fr (.list b))) ∨ Ans m I.p_bits_by [s.d, r] (3 * s.dep) (.ok (.ow b)))
    (Q := fun ss rs bs => (∀ s ∈ ss, s.ok) → ∀ (acc : List PyData), acc.length + bs.length ≤ 16777216 → ∀ c, (∀ s ∈ ss, 3 * s.dep ≤ c) → ∀ e0 e1 o3 o4, ∃ o3' o4', ∀ n, c ≤ n → floop (beF m I n) (zipD (ss.map Shp.d) rs) [e0, e1, some (.ow acc), o3, o4] = .nx [e0, e1, some (.ow (acc ++ bs)), o3', o4']) ?_ ?_ ?_ ?_ ?_ ?_ ?_ ?_
  · intro w lo hi x h1 h2 ok hb
    obtain ⟨hw, _, hs, _, _⟩ := ok
    refine .inl (ans (c := 2) h (env := [(some (Sl.fr ((Shp.num w lo hi).d))), (some (Sl.fr (.int x))), none, none, none, none, none, none]) rfl rfl fun n hn => ?_)
    simp only [Shp.d]
    simp -implicitDefEqProofs only [Q.xs, Q.xs1, ev, evs, evI, evC, evJ, bind_ok, bind_exc, exR_ok, exR_exc, seq_nx, seq_rt, seq_xc, varR_0, varR_S, bb_add, bb_sub, bb_mul2, bb_and, cc_lt, cc_le, cc_gt, cc_ge, cc_eq, cc_ne, cc_eqb, cc_eqs, ll_len, ll_lent, ll_list, ll_listt, ll_max2, ll_min2, toD_fr, toD_ow, lstR_ok, neg_i, erR_0, erR_S, catch_nx, catch_rt, catch_xc, sfin_rt, sfin_nx, noEr_n, noEr_f, noEr_o, noEr_0, no_int, no_list, no_tuple, no_none, no_bool, no_str, isiD, List.set_cons_zero, List.set_cons_succ, decide_true, decide_false, Bool.not_true, Bool.not_false, if_true, if_false, Bool.false_eq_true, reduceIte, b_p_bits_by, xsM, pt22, pt23, pt24, pt32, pt33, pt34, pt42, pt43, pt44, psR, p1R, eqR_ss, bindE, List.nil_append, List.cons_append, kk_num_num, kk_num_pad, kk_num_maybe, kk_num_rows, kk_num_group, kk_num_one, kk_pad_num, kk_pad_pad, kk_pad_maybe, kk_pad_rows, kk_pad_group, kk_pad_one, kk_maybe_num, kk_maybe_pad, kk_maybe_maybe, kk_maybe_rows, kk_maybe_group, kk_maybe_one, kk_rows_num, kk_rows_pad, kk_rows_maybe, kk_rows_rows, kk_rows_group, kk_rows_one, kk_group_num, kk_group_pad, kk_group_maybe, kk_group_rows, kk_group_group, kk_group_one, kk_one_num, kk_one_pad, kk_one_maybe, kk_one_rows, kk_one_group, kk_one_one, kk_read_read, kk_read_short, kk_read_left, kk_read_wrong, kk_short_read, kk_short_short, kk_short_left, kk_short_wrong, kk_left_read, kk_left_short, kk_left_left, kk_left_wrong, kk_wrong_read, kk_wrong_short, kk_wrong_left, kk_wrong_wrong, a_bitsof hbo hr (x - lo) w (by omega) (by omega) (by omega) n (by omega)]
  · intro w ok hb
    refine .inl (ans (c := 2) h (env := [(some (Sl.fr ((Shp.pad w).d))), (some (Sl.fr (.none))), none, none, none, none, none, none]) rfl rfl fun n hn => ?_)
    simp only [Shp.d]
    simp -implicitDefEqProofs only [Q.xs, Q.xs1, ev, evs, evI, evC, evJ, bind_ok, bind_exc, exR_ok, exR_exc, seq_nx, seq_rt, seq_xc, varR_0, varR_S, bb_add, bb_sub, bb_mul2, bb_and, cc_lt, cc_le, cc_gt, cc_ge, cc_eq, cc_ne, cc_eqb, cc_eqs, ll_len, ll_lent, ll_list, ll_listt, ll_max2, ll_min2, toD_fr, toD_ow, lstR_ok, neg_i, erR_0, erR_S, catch_nx, catch_rt, catch_xc, sfin_rt, sfin_nx, noEr_n, noEr_f, noEr_o, noEr_0, no_int, no_list, no_tuple, no_none, no_bool, no_str, isiD, List.set_cons_zero, List.set_cons_succ, decide_true, decide_false, Bool.not_true, Bool.not_false, if_true, if_false, Bool.false_eq_true, reduceIte, b_p_bits_by, xsM, pt22, pt23, pt24, pt32, pt33, pt34, pt42, pt43, pt44, psR, p1R, eqR_ss, bindE, List.nil_append, List.cons_append, kk_num_num, kk_num_pad, kk_num_maybe, kk_num_rows, kk_num_group, kk_num_one, kk_pad_num, kk_pad_pad, kk_pad_maybe, kk_pad_rows, kk_pad_group, kk_pad_one, kk_maybe_num, kk_maybe_pad, kk_maybe_maybe, kk_maybe_rows, kk_maybe_group, kk_maybe_one, kk_rows_num, kk_rows_pad, kk_rows_maybe, kk_rows_rows, kk_rows_group, kk_rows_one, kk_group_num, kk_group_pad, kk_group_maybe, kk_group_rows, kk_group_group, kk_group_one, kk_one_num, kk_one_pad, kk_one_maybe, kk_one_rows, kk_one_group, kk_one_one, kk_read_read, kk_read_short, kk_read_left, kk_read_wrong, kk_short_read, kk_short_short, kk_short_left, kk_short_wrong, kk_left_read, kk_left_short, kk_left_left, kk_left_wrong, kk_wrong_read, kk_wrong_short, kk_wrong_left, kk_wrong_wrong, rep1 (.int 0) w (by have : w ≤ 64 := ok; omega), l1]
  · intro s rs bs hl hf ih ok hb
    have hb : bs.length ≤ 16777216 ∧ 1 + bs.length ≤ 16777216 := by rw [List.length_append, wr_len] at hb; omega
    have each := bits_each he (3 * s.dep) (List.replicate rs.length s) rs bs hb.1 fun e0 e1 => ih (fun t ht => by rw [List.eq_of_mem_replicate ht]; exact ok) [] (by simpa using hb.1) (3 * s.dep) (fun t ht => by rw [List.eq_of_mem_replicate ht]; exact Nat.le_refl _) e0 e1 none none
    rw [List.map_replicate] at each
    have hd : 1 ≤ s.dep := by cases s <;> simp only [Shp.dep] <;> omega
    have rows := bits_rows hrw hbo hr _ (by omega) s rs bs 1 (by decide) (by omega) (by omega) hb.2 each
    refine .inl (ans (c := 3 * s.dep + 2) h (env := [(some (Sl.fr ((Shp.maybe s).d))), (some (Sl.fr (.list rs))), none, none, none, none, none, none]) rfl rfl fun n hn => ?_)
    have rows := rows n (by omega)
    simp only [Shp.d]
    simp -implicitDefEqProofs only [Q.xs, Q.xs1, ev, evs, evI, evC, evJ, bind_ok, bind_exc, exR_ok, exR_exc, seq_nx, seq_rt, seq_xc, varR_0, varR_S, bb_add, bb_sub, bb_mul2, bb_and, cc_lt, cc_le, cc_gt, cc_ge, cc_eq, cc_ne, cc_eqb, cc_eqs, ll_len, ll_lent, ll_list, ll_listt, ll_max2, ll_min2, toD_fr, toD_ow, lstR_ok, neg_i, erR_0, erR_S, catch_nx, catch_rt, catch_xc, sfin_rt, sfin_nx, noEr_n, noEr_f, noEr_o, noEr_0, no_int, no_list, no_tuple, no_none, no_bool, no_str, isiD, List.set_cons_zero, List.set_cons_succ, decide_true, decide_false, Bool.not_true, Bool.not_false, if_true, if_false, Bool.false_eq_true, reduceIte, b_p_bits_by, xsM, pt22, pt23, pt24, pt32, pt33, pt34, pt42, pt43, pt44, psR, p1R, eqR_ss, bindE, List.nil_append, List.cons_append, kk_num_num, kk_num_pad, kk_num_maybe, kk_num_rows, kk_num_group, kk_num_one, kk_pad_num, kk_pad_pad, kk_pad_maybe, kk_pad_rows, kk_pad_group, kk_pad_one, kk_maybe_num, kk_maybe_pad, kk_maybe_maybe, kk_maybe_rows, kk_maybe_group, kk_maybe_one, kk_rows_num, kk_rows_pad, kk_rows_maybe, kk_rows_rows, kk_rows_group, kk_rows_one, kk_group_num, kk_group_pad, kk_group_maybe, kk_group_rows, kk_group_group, kk_group_one, kk_one_num, kk_one_pad, kk_one_maybe, kk_one_rows, kk_one_group, kk_one_one, kk_read_read, kk_read_short, kk_read_left, kk_read_wrong, kk_short_read, kk_short_short, kk_short_left, kk_short_wrong, kk_left_read, kk_left_short, kk_left_left, kk_left_wrong, kk_wrong_read, kk_wrong_short, kk_wrong_left, kk_wrong_wrong]
    rw [show (1 : Int) = ((1 : Nat) : Int) from rfl, rows]
    simp -implicitDefEqProofs only [Q.xs, Q.xs1, ev, evs, evI, evC, evJ, bind_ok, bind_exc, exR_ok, exR_exc, seq_nx, seq_rt, seq_xc, varR_0, varR_S, bb_add, bb_sub, bb_mul2, bb_and, cc_lt, cc_le, cc_gt, cc_ge, cc_eq, cc_ne, cc_eqb, cc_eqs, ll_len, ll_lent, ll_list, ll_listt, ll_max2, ll_min2, toD_fr, toD_ow, lstR_ok, neg_i, erR_0, erR_S, catch_nx, catch_rt, catch_xc, sfin_rt, sfin_nx, noEr_n, noEr_f, noEr_o, noEr_0, no_int, no_list, no_tuple, no_none, no_bool, no_str, isiD, List.set_cons_zero, List.set_cons_succ, decide_true, decide_false, Bool.not_true, Bool.not_false, if_true, if_false, Bool.false_eq_true, reduceIte]
  · intro w s rs bs hl hf ih ok hb
    have hb : bs.length ≤ 16777216 ∧ w + bs.length ≤ 16777216 := by rw [List.length_append, wr_len] at hb; omega
    have t8 := two8 ok.1
    have each := bits_each he (3 * s.dep) (List.replicate rs.length s) rs bs hb.1 fun e0 e1 => ih (fun t ht => by rw [List.eq_of_mem_replicate ht]; exact ok.2.2) [] (by simpa using hb.1) (3 * s.dep) (fun t ht => by rw [List.eq_of_mem_replicate ht]; exact Nat.le_refl _) e0 e1 none none
    rw [List.map_replicate] at each
    have hd : 1 ≤ s.dep := by cases s <;> simp only [Shp.dep] <;> omega
    have rows := bits_rows hrw hbo hr _ (by omega) s rs bs w (by have := ok.1; omega) hl (by omega) hb.2 each
    refine .inl (ans (c := 3 * s.dep + 2) h (env := [(some (Sl.fr ((Shp.rows w s).d))), (some (Sl.fr (.list rs))), none, none, none, none, none, none]) rfl rfl fun n hn => ?_)
    simp only [Shp.d]
    simp -implicitDefEqProofs only [Q.xs, Q.xs1, ev, evs, evI, evC, evJ, bind_ok, bind_exc, exR_ok, exR_exc, seq_nx, seq_rt, seq_xc, varR_0, varR_S, bb_add, bb_sub, bb_mul2, bb_and, cc_lt, cc_le, cc_gt, cc_ge, cc_eq, cc_ne, cc_eqb, cc_eqs, ll_len, ll_lent, ll_list, ll_listt, ll_max2, ll_min2, toD_fr, toD_ow, lstR_ok, neg_i, erR_0, erR_S, catch_nx, catch_rt, catch_xc, sfin_rt, sfin_nx, noEr_n, noEr_f, noEr_o, noEr_0, no_int, no_list, no_tuple, no_none, no_bool, no_str, isiD, List.set_cons_zero, List.set_cons_succ, decide_true, decide_false, Bool.not_true, Bool.not_false, if_true, if_false, Bool.false_eq_true, reduceIte, b_p_bits_by, xsM, pt22, pt23, pt24, pt32, pt33, pt34, pt42, pt43, pt44, psR, p1R, eqR_ss, bindE, List.nil_append, List.cons_append, kk_num_num, kk_num_pad, kk_num_maybe, kk_num_rows, kk_num_group, kk_num_one, kk_pad_num, kk_pad_pad, kk_pad_maybe, kk_pad_rows, kk_pad_group, kk_pad_one, kk_maybe_num, kk_maybe_pad, kk_maybe_maybe, kk_maybe_rows, kk_maybe_group, kk_maybe_one, kk_rows_num, kk_rows_pad, kk_rows_maybe, kk_rows_rows, kk_rows_group, kk_rows_one, kk_group_num, kk_group_pad, kk_group_maybe, kk_group_rows, kk_group_group, kk_group_one, kk_one_num, kk_one_pad, kk_one_maybe, kk_one_rows, kk_one_group, kk_one_one, kk_read_read, kk_read_short, kk_read_left, kk_read_wrong, kk_short_read, kk_short_short, kk_short_left, kk_short_wrong, kk_left_read, kk_left_short, kk_left_left, kk_left_wrong, kk_wrong_read, kk_wrong_short, kk_wrong_left, kk_wrong_wrong, rows n (by omega)]
  · intro ss rs bs hf ih ok hb
    have each := bits_each he (3 * Shp.deps ss) ss rs bs hb fun e0 e1 => ih (Shp.oks_iff.mp ok.2) [] (by simpa using hb) (3 * Shp.deps ss) (fun t ht => by have := Shp.dep_mem ht; omega) e0 e1 none none
    refine .inl ((ans (c := 3 * Shp.deps ss + 1) h (env := [(some (Sl.fr ((Shp.group ss).d))), (some (Sl.fr (.list rs))), none, none, none, none, none, none]) rfl rfl fun n hn => ?_).up (by simp only [Shp.dep]; omega))
    simp only [Shp.d, Shp.ds_map]
    simp -implicitDefEqProofs only [Q.xs, Q.xs1, ev, evs, evI, evC, evJ, bind_ok, bind_exc, exR_ok, exR_exc, seq_nx, seq_rt, seq_xc, varR_0, varR_S, bb_add, bb_sub, bb_mul2, bb_and, cc_lt, cc_le, cc_gt, cc_ge, cc_eq, cc_ne, cc_eqb, cc_eqs, ll_len, ll_lent, ll_list, ll_listt, ll_max2, ll_min2, toD_fr, toD_ow, lstR_ok, neg_i, erR_0, erR_S, catch_nx, catch_rt, catch_xc, sfin_rt, sfin_nx, noEr_n, noEr_f, noEr_o, noEr_0, no_int, no_list, no_tuple, no_none, no_bool, no_str, isiD, List.set_cons_zero, List.set_cons_succ, decide_true, decide_false, Bool.not_true, Bool.not_false, if_true, if_false, Bool.false_eq_true, reduceIte, b_p_bits_by, xsM, pt22, pt23, pt24, pt32, pt33, pt34, pt42, pt43, pt44, psR, p1R, eqR_ss, bindE, List.nil_append, List.cons_append, kk_num_num, kk_num_pad, kk_num_maybe, kk_num_rows, kk_num_group, kk_num_one, kk_pad_num, kk_pad_pad, kk_pad_maybe, kk_pad_rows, kk_pad_group, kk_pad_one, kk_maybe_num, kk_maybe_pad, kk_maybe_maybe, kk_maybe_rows, kk_maybe_group, kk_maybe_one, kk_rows_num, kk_rows_pad, kk_rows_maybe, kk_rows_rows, kk_rows_group, kk_rows_one, kk_group_num, kk_group_pad, kk_group_maybe, kk_group_rows, kk_group_group, kk_group_one, kk_one_num, kk_one_pad, kk_one_maybe, kk_one_rows, kk_one_group, kk_one_one, kk_read_read, kk_read_short, kk_read_left, kk_read_wrong, kk_short_read, kk_short_short, kk_short_left, kk_short_wrong, kk_left_read, kk_left_short, kk_left_left, kk_left_wrong, kk_wrong_read, kk_wrong_short, kk_wrong_left, kk_wrong_wrong, each n (by omega)]
  · intro w ss p s x b hp hf ih ok hb
    have hm := List.mem_of_getElem? hp
    have hb : b.length ≤ 16777216 ∧ w + b.length ≤ 16777216 := by rw [List.length_append, wr_len] at hb; omega
    have hpw : (2 : Int) ^ w = ((2 ^ w : Nat) : Int) := by push_cast; rfl
    have hpl : p < 2 ^ w := by
      have := (List.getElem?_eq_some_iff.mp hp).1
      have := ok.2.2.2.1
      omega
    have hd : 1 ≤ Shp.deps ss := by
      have h1 : 1 ≤ s.dep := by cases s <;> simp only [Shp.dep] <;> omega
      have := Shp.dep_mem hm
      omega
    have ex : ixR (.list (ss.map Shp.d)) (.int (p : Int)) = .ok s.d := ix_l (by rw [List.getElem?_map, hp]; rfl)
    refine .inl ((ans (c := 3 * Shp.deps ss) h (env := [(some (Sl.fr ((Shp.one w ss).d))), (some (Sl.fr (.tuple [.int p, x]))), none, none, none, none, none, none]) rfl rfl fun n hn => ?_).up (by simp only [Shp.dep]; omega))
    have a := a_bitsof hbo hr p w (by have := ok.1; omega) (by omega) (by omega) n (by omega)
    have := Shp.dep_mem hm
    simp only [Shp.d, Shp.ds_map]
    rcases ih (Shp.oks_iff.mp ok.2.2.2.2 s hm) hb.1 with q | q <;>
    simp -implicitDefEqProofs only [Q.xs, Q.xs1, ev, evs, evI, evC, evJ, bind_ok, bind_exc, exR_ok, exR_exc, seq_nx, seq_rt, seq_xc, varR_0, varR_S, bb_add, bb_sub, bb_mul2, bb_and, cc_lt, cc_le, cc_gt, cc_ge, cc_eq, cc_ne, cc_eqb, cc_eqs, ll_len, ll_lent, ll_list, ll_listt, ll_max2, ll_min2, toD_fr, toD_ow, lstR_ok, neg_i, erR_0, erR_S, catch_nx, catch_rt, catch_xc, sfin_rt, sfin_nx, noEr_n, noEr_f, noEr_o, noEr_0, no_int, no_list, no_tuple, no_none, no_bool, no_str, isiD, List.set_cons_zero, List.set_cons_succ, decide_true, decide_false, Bool.not_true, Bool.not_false, if_true, if_false, Bool.false_eq_true, reduceIte, b_p_bits_by, xsM, pt22, pt23, pt24, pt32, pt33, pt34, pt42, pt43, pt44, psR, p1R, eqR_ss, bindE, List.nil_append, List.cons_append, kk_num_num, kk_num_pad, kk_num_maybe, kk_num_rows, kk_num_group, kk_num_one, kk_pad_num, kk_pad_pad, kk_pad_maybe, kk_pad_rows, kk_pad_group, kk_pad_one, kk_maybe_num, kk_maybe_pad, kk_maybe_maybe, kk_maybe_rows, kk_maybe_group, kk_maybe_one, kk_rows_num, kk_rows_pad, kk_rows_maybe, kk_rows_rows, kk_rows_group, kk_rows_one, kk_group_num, kk_group_pad, kk_group_maybe, kk_group_rows, kk_group_group, kk_group_one, kk_one_num, kk_one_pad, kk_one_maybe, kk_one_rows, kk_one_group, kk_one_one, kk_read_read, kk_read_short, kk_read_left, kk_read_wrong, kk_short_read, kk_short_short, kk_short_left, kk_short_wrong, kk_left_read, kk_left_short, kk_left_left, kk_left_wrong, kk_wrong_read, kk_wrong_short, kk_wrong_left, kk_wrong_wrong, unp2, zip2, a, ex, q n (by omega), bb_addl (xs := wr p w) (ys := b) (by rw [wr_len]; exact hb.2)]
  · intro _ acc _ c _ e0 e1 o3 o4
    exact ⟨o3, o4, fun n hn => by rw [List.append_nil]; rfl⟩
  · intro s ss x rs b bs hf hfl ih ihl ok acc hb c hc e0 e1 o3 o4
    rw [List.length_append] at hb
    obtain ⟨o3', o4', run⟩ := ihl (fun t ht => ok t (List.mem_cons_of_mem _ ht)) (acc ++ b) (by rw [List.length_append]; omega) c (fun t ht => hc t (List.mem_cons_of_mem _ ht)) e0 e1 (some (Sl.fr (s.d))) (some (Sl.fr (x)))
    refine ⟨o3', o4', fun n hn => ?_⟩
    show floop (beF m I n) (.tuple [s.d, x] :: zipD (ss.map Shp.d) rs) _ = _
    rw [floop_cons (e := [e0, e1, some (.ow (acc ++ b)), (some (Sl.fr (s.d))), (some (Sl.fr (x)))]), run n hn, List.append_assoc]
    have := hc s List.mem_cons_self
    have hz : (acc.length + b.length ≤ szl) = True := eq_true (by show _ ≤ 16777216; omega)
    show Q.xs SS m.sub (m.Phi n) m.L (beL I) [e0, e1, some (.ow acc), (some (Sl.fr (s.d))), (some (Sl.fr (x)))] = _
    rcases ih (ok s List.mem_cons_self) (by omega) with q | q <;>
    simp -implicitDefEqProofs only [Q.xs, Q.xs1, ev, evs, evI, evC, evJ, bind_ok, bind_exc, exR_ok, exR_exc, seq_nx, seq_rt, seq_xc, varR_0, varR_S, bb_add, bb_sub, bb_mul2, bb_and, cc_lt, cc_le, cc_gt, cc_ge, cc_eq, cc_ne, cc_eqb, cc_eqs, ll_len, ll_lent, ll_list, ll_listt, ll_max2, ll_min2, toD_fr, toD_ow, lstR_ok, neg_i, erR_0, erR_S, catch_nx, catch_rt, catch_xc, sfin_rt, sfin_nx, noEr_n, noEr_f, noEr_o, noEr_0, no_int, no_list, no_tuple, no_none, no_bool, no_str, isiD, List.set_cons_zero, List.set_cons_succ, decide_true, decide_false, Bool.not_true, Bool.not_false, if_true, if_false, Bool.false_eq_true, reduceIte, beL, q n (by omega), hz, List.getElem?_cons_zero, List.getElem?_cons_succ]
/-- a record that fits is packed -/
theorem a_packed (h : At_p_packed m I) (hf : ∀ s : Shp, s.ok → FitsOk m I s (3 * s.dep)) (hb : At_p_bits_by m I) (hbo : At_p_bits_of m I) (hr : At_p_room_of m I) (hrw : At_p_bits_of_rows m I) (he : At_p_bits_of_each m I) (s : Shp) (r : PyData) (b : List PyData) (f : Fit s r b) (ok : s.ok) (hz : b.length ≤ 16777216) :
    Ans m I.p_packed [s.d, r] (3 * s.dep + 1) (.ok (.fr (.list b))) := by
  obtain ⟨v, hv, iv⟩ := hf s ok r
  have := iv.mpr ⟨b, f⟩
  subst this
  refine ans h (env := [(some (Sl.fr (s.d))), (some (Sl.fr (r)))]) rfl rfl fun n hn => ?_
  rcases (a_bitsby hb hbo hr hrw he).1 s r b f ok hz with q | q <;>
  simp -implicitDefEqProofs only [Q.xs, Q.xs1, ev, evs, evI, evC, evJ, bind_ok, bind_exc, exR_ok, exR_exc, seq_nx, seq_rt, seq_xc, varR_0, varR_S, bb_add, bb_sub, bb_mul2, bb_and, cc_lt, cc_le, cc_gt, cc_ge, cc_eq, cc_ne, cc_eqb, cc_eqs, ll_len, ll_lent, ll_list, ll_listt, ll_max2, ll_min2, toD_fr, toD_ow, lstR_ok, neg_i, erR_0, erR_S, catch_nx, catch_rt, catch_xc, sfin_rt, sfin_nx, noEr_n, noEr_f, noEr_o, noEr_0, no_int, no_list, no_tuple, no_none, no_bool, no_str, isiD, List.set_cons_zero, List.set_cons_succ, decide_true, decide_false, Bool.not_true, Bool.not_false, if_true, if_false, Bool.false_eq_true, reduceIte, b_p_packed, hv n hn, q n hn]
end
end Q

set_option Elab.async false
set_option linter.all false
set_option maxRecDepth 100000
set_option autoImplicit false
namespace Q
open PySem (PyData Str)
/-- shapes and records are told by a script -/
structure HGen (m : Md) (I : Ix) : Prop where
  cell : At_l_cell_at m I
  room : At_l_room m I
  leaf : At_l_leaf m I
  one : At_l_one m I
  group : At_l_group m I
  shape : At_l_shape m I
  deeper : At_l_deeper m I
structure HRec (m : Md) (I : Ix) : Prop extends HGen m I where
  number : At_l_number m I
  wide : At_l_wide m I
  many : At_l_many m I
  record : At_l_record m I
structure HAl (m : Md) (I : Ix) : Prop where
  alike : At_l_alike m I
  whole : At_l_whole m I
/-- packing -/
structure HPk (m : Md) (I : Ix) : Prop where
  room : At_p_room_of m I
  bits : At_p_bits_of m I
  within : At_p_whole_within m I
  fits : At_p_fits m I
  frows : At_p_fits_rows m I
  feach : At_p_fits_each m I
  fone : At_p_fits_one m I
  packed : At_p_packed m I
  by' : At_p_bits_by m I
  brows : At_p_bits_of_rows m I
  beach : At_p_bits_of_each m I
section
variable {m : Md} {I : Ix}
theorem HPk.ok (H : HPk m I) (s : Shp) (ok : s.ok) : FitsOk m I s (3 * s.dep) := a_fits H.fits H.within H.frows H.feach H.fone H.room s ok
theorem HPk.pk (H : HPk m I) {s : Shp} {r : PyData} {b : List PyData} (f : Fit s r b) (ok : s.ok) (hz : b.length ≤ 16777216) : Ans m I.p_packed [s.d, r] (3 * s.dep + 1) (.ok (.fr (.list b))) :=
  a_packed H.packed H.ok H.by' H.bits H.room H.brows H.beach s r b f ok hz
theorem HGen.all (H : HGen m I) (ns : List Int) : ∃ s0 s : Shp, s.ok ∧ s.dep ≤ 8 ∧ s.wb ≤ 512004 ∧ Ans m I.l_shape [.list (ns.map .int), .int 0] 6 (.ok (.fr s0.d)) ∧ Ans m I.l_deeper [.list (ns.map .int), .int 30, s0.d] 2 (.ok (.fr s.d)) :=
  s_all H.deeper H.shape H.leaf H.cell H.room H.one H.group ns
theorem HRec.told (H : HRec m I) (ns : List Int) (hl : ns.length ≤ 63) (s : Shp) (ok : s.ok) : RecOk m I ns (s.dep + 4) s := a_record H.record H.number H.many H.wide H.room ns hl s ok
theorem HAl.al (H : HAl m I) {k : Nat} {d : PyData} (p : Pl k d) : Ans m I.l_alike [d, d] (k + 2) (.ok (.fr (.bool true))) := a_alike H.alike H.whole k d p
theorem Pl.up {k : Nat} {d : PyData} (p : Pl k d) : ∀ j, k ≤ j → Pl j d := by
  induction p with
  | i x => exact fun j _ => .i x
  | b x => exact fun j _ => .b x
  | s x => exact fun j _ => .s x
  | n => exact fun j _ => .n
  | l h hl ih =>
    intro j hj
    obtain ⟨j, rfl⟩ : ∃ q, j = q + 1 := ⟨j - 1, by omega⟩
    exact .l (fun x hx => ih x hx j (by omega)) hl
  | t h hl ih =>
    intro j hj
    obtain ⟨j, rfl⟩ : ∃ q, j = q + 1 := ⟨j - 1, by omega⟩
    exact .t (fun x hx => ih x hx j (by omega)) hl
theorem Pl.one {k : Nat} {d : PyData} (p : Pl k d) : Pl (k + 1) (.list [d]) := .l (fun x hx => by rw [List.mem_singleton.mp hx]; exact p) (by show 1 < 2 ^ 62; decide)
theorem Pl.bits {b : List PyData} (h : ∀ d ∈ b, d = .int 0 ∨ d = .int 1) (hl : b.length ≤ 16777216) : Pl 1 (.list b) := .l (fun x hx => by rcases h x hx with rfl | rfl <;> exact .i _) (by omega)
end
end Q

set_option Elab.async false
set_option linter.all false
set_option maxRecDepth 100000
set_option autoImplicit false
namespace Q
open PySem (PyData Str)
def nMin : Nat → List Nat → Nat
  | m, [] => m
  | m, x :: r => nMin (if x < m then x else m) r
def nMax : Nat → List Nat → Nat
  | m, [] => m
  | m, x :: r => nMax (if m < x then x else m) r
theorem nMin_int : ∀ (l : List Nat) (m : Nat), lstMin (m : Int) (l.map fun x : Nat => (x : Int)) = (nMin m l : Nat)
  | [], m => rfl
  | x :: r, m => by
    show lstMin (if (x : Int) < (m : Int) then (x : Int) else (m : Int)) (r.map fun x : Nat => (x : Int)) = (nMin (if x < m then x else m) r : Nat)
    rw [← nMin_int r]
    congr 1
    split <;> split <;> omega
theorem nMax_int : ∀ (l : List Nat) (m : Nat), lstMax (m : Int) (l.map fun x : Nat => (x : Int)) = (nMax m l : Nat)
  | [], m => rfl
  | x :: r, m => by
    show lstMax (if (m : Int) < (x : Int) then (x : Int) else (m : Int)) (r.map fun x : Nat => (x : Int)) = (nMax (if m < x then x else m) r : Nat)
    rw [← nMax_int r]
    congr 1
    split <;> split <;> omega
theorem nMin_le : ∀ (l : List Nat) (m : Nat), nMin m l ≤ m ∧ ∀ x ∈ l, nMin m l ≤ x
  | [], m => ⟨Nat.le_refl m, fun x h => by cases h⟩
  | y :: r, m => by
    show nMin (if y < m then y else m) r ≤ m ∧ ∀ x ∈ y :: r, nMin (if y < m then y else m) r ≤ x
    obtain ⟨q, hq⟩ : ∃ q, (if y < m then y else m) = q := ⟨_, rfl⟩
    have hq2 : q ≤ y ∧ q ≤ m := by split at hq <;> omega
    rw [hq]
    obtain ⟨h1, h2⟩ := nMin_le r q
    refine ⟨by omega, fun x hx => ?_⟩
    rcases List.mem_cons.mp hx with rfl | hx
    · omega
    · exact h2 x hx
theorem nMax_ge : ∀ (l : List Nat) (m : Nat), m ≤ nMax m l ∧ ∀ x ∈ l, x ≤ nMax m l
  | [], m => ⟨Nat.le_refl m, fun x h => by cases h⟩
  | y :: r, m => by
    show m ≤ nMax (if m < y then y else m) r ∧ ∀ x ∈ y :: r, x ≤ nMax (if m < y then y else m) r
    obtain ⟨q, hq⟩ : ∃ q, (if m < y then y else m) = q := ⟨_, rfl⟩
    have hq2 : y ≤ q ∧ m ≤ q := by split at hq <;> omega
    rw [hq]
    obtain ⟨h1, h2⟩ := nMax_ge r q
    refine ⟨by omega, fun x hx => ?_⟩
    rcases List.mem_cons.mp hx with rfl | hx
    · omega
    · exact h2 x hx
def lMin : List Nat → Nat
  | [] => 0
  | x :: r => nMin x r
def lMax : List Nat → Nat
  | [] => 0
  | x :: r => nMax x r
theorem lMin_le {l : List Nat} {x : Nat} (h : x ∈ l) : lMin l ≤ x := by
  cases l with
  | nil => cases h
  | cons y r =>
    rcases List.mem_cons.mp h with rfl | h
    · exact (nMin_le r _).1
    · exact (nMin_le r y).2 x h
theorem lMax_ge {l : List Nat} {x : Nat} (h : x ∈ l) : x ≤ lMax l := by
  cases l with
  | nil => cases h
  | cons y r =>
    rcases List.mem_cons.mp h with rfl | h
    · exact (nMax_ge r _).1
    · exact (nMax_ge r y).2 x h
mutual
/-- the least bits -/
def Shp.lo : Shp → Nat
  | .num w _ _ => w
  | .pad w => w
  | .maybe _ => 1
  | .rows w _ => w
  | .group ss => (Shp.los ss).sum
  | .one w ss => w + lMin (Shp.los ss)
def Shp.los : List Shp → List Nat
  | [] => []
  | s :: ss => s.lo :: Shp.los ss
end
mutual
/-- the most bits -/
def Shp.hi : Shp → Nat
  | .num w _ _ => w
  | .pad w => w
  | .maybe s => 1 + s.hi
  | .rows w s => w + (2 ^ w - 1) * s.hi
  | .group ss => (Shp.his ss).sum
  | .one w ss => w + lMax (Shp.his ss)
def Shp.his : List Shp → List Nat
  | [] => []
  | s :: ss => s.hi :: Shp.his ss
end
theorem Shp.los_map : ∀ ss : List Shp, Shp.los ss = ss.map Shp.lo
  | [] => by simp [Shp.los]
  | s :: ss => by simp [Shp.los, Shp.los_map ss]
theorem Shp.his_map : ∀ ss : List Shp, Shp.his ss = ss.map Shp.hi
  | [] => by simp [Shp.his]
  | s :: ss => by simp [Shp.his, Shp.his_map ss]
theorem FitL.ge_rep0 {ss : List Shp} {xs bs : List PyData} (h : FitL ss xs bs) (hF : ∀ s ∈ ss, ∀ r b, Fit s r b → s.lo ≤ b.length) : (ss.map Shp.lo).sum ≤ bs.length := by
  refine (Fit.ind (P := fun _ _ _ => True) (Q := fun ss _ bs => (∀ s ∈ ss, ∀ r b, Fit s r b → s.lo ≤ b.length) → (ss.map Shp.lo).sum ≤ bs.length) ?_ ?_ ?_ ?_ ?_ ?_ ?_ ?_).2 ss xs bs h hF <;> intros <;> first | trivial | skip
  · rename_i s ss x xs b bs h1 h2 h3 h4 h5
    rw [List.map_cons, List.sum_cons, List.length_append]
    have a := h5 s List.mem_cons_self x b h1
    have c := h4 fun t ht => h5 t (List.mem_cons_of_mem _ ht)
    omega
theorem Fit.between : ∀ s : Shp, ∀ r b, Fit s r b → s.lo ≤ b.length ∧ b.length ≤ s.hi := by
  refine Shp.ind ?_ ?_ ?_ ?_ ?_ ?_
  · intro w lo hi r b h
    cases h
    rw [wr_len]
    exact ⟨Nat.le_refl _, Nat.le_refl _⟩
  · intro w r b h
    cases h
    rw [List.length_replicate]
    exact ⟨Nat.le_refl _, Nat.le_refl _⟩
  · intro s ih r b h
    cases h with
    | maybe hl hb =>
      have := hb.le_rep fun r b h => (ih r b h).2
      have h2 := Nat.mul_le_mul_right s.hi hl
      rw [List.length_append, wr_len]
      unfold Shp.lo Shp.hi
      omega
  · intro w s ih r b h
    cases h with
    | rows hl hb =>
      have := hb.le_rep fun r b h => (ih r b h).2
      have h2 := Nat.mul_le_mul_right s.hi (Nat.le_sub_one_of_lt hl)
      rw [List.length_append, wr_len]
      unfold Shp.lo Shp.hi
      omega
  · intro ss ih r b h
    cases h with
    | group hb =>
      unfold Shp.lo Shp.hi
      rw [Shp.los_map, Shp.his_map]
      exact ⟨hb.ge_rep0 fun s hs r b h => (ih s hs r b h).1, hb.le fun s hs r b h => (ih s hs r b h).2⟩
  · intro w ss ih r b h
    cases h with
    | one hp hb =>
      have hm := List.mem_of_getElem? hp
      obtain ⟨h1, h2⟩ := ih _ hm _ _ hb
      have h3 := lMin_le (List.mem_map.mpr ⟨_, hm, rfl⟩ : _ ∈ ss.map Shp.lo)
      have h4 := lMax_ge (List.mem_map.mpr ⟨_, hm, rfl⟩ : _ ∈ ss.map Shp.hi)
      rw [List.length_append, wr_len]
      unfold Shp.lo Shp.hi
      rw [Shp.los_map, Shp.his_map]
      omega
theorem sum_ints (l : List Nat) : bltR .sum [.list (l.map fun x : Nat => PyData.int (x : Int))] = .ok (.int (l.sum : Nat)) := by
  show (match intsOf (l.map fun x : Nat => PyData.int (x : Int)) with | some ns => Rs.ok (PyData.int ns.sum) | none => .bad) = _
  rw [intsOf_map]
  have := sum_cast (F := fun x : Nat => x) l
  rw [List.map_id'] at this
  rw [← this]
theorem mn_ints (l : List Nat) (d : Int) (h : l ≠ [] ∨ d = 0) : mxR true (.list (l.map fun x : Nat => PyData.int (x : Int))) (.int d) = .ok (.int (lMin l : Nat)) := by
  show (match intsOf (l.map fun x : Nat => PyData.int (x : Int)) with | some [] => Rs.ok (PyData.int d) | some (n :: ns) => .ok (.int (if true = true then lstMin n ns else lstMax n ns)) | none => .bad) = _
  rw [intsOf_map]
  cases l with
  | nil =>
    rcases h with h | h
    · exact absurd rfl h
    · subst h
      rfl
  | cons x r =>
    rw [List.map_cons]
    show Rs.ok (PyData.int (if true = true then lstMin (x : Int) (r.map fun x : Nat => (x : Int)) else _)) = _
    rw [if_pos rfl, nMin_int]
    rfl
theorem mx_ints (l : List Nat) (d : Int) (h : l ≠ [] ∨ d = 0) : mxR false (.list (l.map fun x : Nat => PyData.int (x : Int))) (.int d) = .ok (.int (lMax l : Nat)) := by
  show (match intsOf (l.map fun x : Nat => PyData.int (x : Int)) with | some [] => Rs.ok (PyData.int d) | some (n :: ns) => .ok (.int (if false = true then lstMin n ns else lstMax n ns)) | none => .bad) = _
  rw [intsOf_map]
  cases l with
  | nil =>
    rcases h with h | h
    · exact absurd rfl h
    · subst h
      rfl
  | cons x r =>
    rw [List.map_cons]
    show Rs.ok (PyData.int (if false = true then _ else lstMax (x : Int) (r.map fun x : Nat => (x : Int)))) = _
    rw [if_neg (by decide), nMax_int]
    rfl
theorem minl_ints (l : List Nat) (h : l ≠ []) : bltR .minl [.list (l.map fun x : Nat => PyData.int (x : Int))] = .ok (.int (lMin l : Nat)) := by
  show (match intsOf (l.map fun x : Nat => PyData.int (x : Int)) with | some (n :: ns) => Rs.ok (PyData.int (lstMin n ns)) | _ => .bad) = _
  rw [intsOf_map]
  cases l with
  | nil => exact absurd rfl h
  | cons x r =>
    rw [List.map_cons]
    show Rs.ok (PyData.int (lstMin (x : Int) (r.map fun x : Nat => (x : Int)))) = _
    rw [nMin_int]
    rfl
theorem maxl_ints (l : List Nat) (h : l ≠ []) : bltR .maxl [.list (l.map fun x : Nat => PyData.int (x : Int))] = .ok (.int (lMax l : Nat)) := by
  show (match intsOf (l.map fun x : Nat => PyData.int (x : Int)) with | some (n :: ns) => Rs.ok (PyData.int (lstMax n ns)) | _ => .bad) = _
  rw [intsOf_map]
  cases l with
  | nil => exact absurd rfl h
  | cons x r =>
    rw [List.map_cons]
    show Rs.ok (PyData.int (lstMax (x : Int) (r.map fun x : Nat => (x : Int)))) = _
    rw [nMax_int]
    rfl
section
variable {m : Md} {I : Ix}
theorem Shp.dep_pos (s : Shp) : 1 ≤ s.dep := by cases s <;> simp only [Shp.dep] <;> omega
theorem a_least (h : At_p_least_bits m I) : ∀ s : Shp, s.ok → Ans m I.p_least_bits [s.d] s.dep (.ok (.fr (.int s.lo))) := by
  refine Shp.ind ?_ ?_ ?_ ?_ ?_ ?_
  · intro w lo hi ok
    refine ans (c := 0) h (env := [(some (Sl.fr ((Shp.num w lo hi).d))), none, none, none]) rfl rfl fun n hn => ?_
    simp only [Shp.d, Shp.lo]
    simp -implicitDefEqProofs only [Q.xs, Q.xs1, ev, evs, evI, evC, evJ, bind_ok, bind_exc, exR_ok, exR_exc, seq_nx, seq_rt, seq_xc, varR_0, varR_S, bb_add, bb_sub, bb_mul2, bb_and, cc_lt, cc_le, cc_gt, cc_ge, cc_eq, cc_ne, cc_eqb, cc_eqs, ll_len, ll_lent, ll_list, ll_listt, ll_max2, ll_min2, toD_fr, toD_ow, lstR_ok, neg_i, erR_0, erR_S, catch_nx, catch_rt, catch_xc, sfin_rt, sfin_nx, noEr_n, noEr_f, noEr_o, noEr_0, no_int, no_list, no_tuple, no_none, no_bool, no_str, isiD, List.set_cons_zero, List.set_cons_succ, decide_true, decide_false, Bool.not_true, Bool.not_false, if_true, if_false, Bool.false_eq_true, reduceIte, b_p_least_bits, xsM, pt22, pt23, pt24, pt32, pt33, pt34, pt42, pt43, pt44, psR, p1R, eqR_ss, bindE, List.nil_append, List.cons_append, kk_num_num, kk_num_pad, kk_num_maybe, kk_num_rows, kk_num_group, kk_num_one, kk_pad_num, kk_pad_pad, kk_pad_maybe, kk_pad_rows, kk_pad_group, kk_pad_one, kk_maybe_num, kk_maybe_pad, kk_maybe_maybe, kk_maybe_rows, kk_maybe_group, kk_maybe_one, kk_rows_num, kk_rows_pad, kk_rows_maybe, kk_rows_rows, kk_rows_group, kk_rows_one, kk_group_num, kk_group_pad, kk_group_maybe, kk_group_rows, kk_group_group, kk_group_one, kk_one_num, kk_one_pad, kk_one_maybe, kk_one_rows, kk_one_group, kk_one_one, kk_read_read, kk_read_short, kk_read_left, kk_read_wrong, kk_short_read, kk_short_short, kk_short_left, kk_short_wrong, kk_left_read, kk_left_short, kk_left_left, kk_left_wrong, kk_wrong_read, kk_wrong_short, kk_wrong_left, kk_wrong_wrong]
  · intro w ok
    refine ans (c := 0) h (env := [(some (Sl.fr ((Shp.pad w).d))), none, none, none]) rfl rfl fun n hn => ?_
    simp only [Shp.d, Shp.lo]
    simp -implicitDefEqProofs only [Q.xs, Q.xs1, ev, evs, evI, evC, evJ, bind_ok, bind_exc, exR_ok, exR_exc, seq_nx, seq_rt, seq_xc, varR_0, varR_S, bb_add, bb_sub, bb_mul2, bb_and, cc_lt, cc_le, cc_gt, cc_ge, cc_eq, cc_ne, cc_eqb, cc_eqs, ll_len, ll_lent, ll_list, ll_listt, ll_max2, ll_min2, toD_fr, toD_ow, lstR_ok, neg_i, erR_0, erR_S, catch_nx, catch_rt, catch_xc, sfin_rt, sfin_nx, noEr_n, noEr_f, noEr_o, noEr_0, no_int, no_list, no_tuple, no_none, no_bool, no_str, isiD, List.set_cons_zero, List.set_cons_succ, decide_true, decide_false, Bool.not_true, Bool.not_false, if_true, if_false, Bool.false_eq_true, reduceIte, b_p_least_bits, xsM, pt22, pt23, pt24, pt32, pt33, pt34, pt42, pt43, pt44, psR, p1R, eqR_ss, bindE, List.nil_append, List.cons_append, kk_num_num, kk_num_pad, kk_num_maybe, kk_num_rows, kk_num_group, kk_num_one, kk_pad_num, kk_pad_pad, kk_pad_maybe, kk_pad_rows, kk_pad_group, kk_pad_one, kk_maybe_num, kk_maybe_pad, kk_maybe_maybe, kk_maybe_rows, kk_maybe_group, kk_maybe_one, kk_rows_num, kk_rows_pad, kk_rows_maybe, kk_rows_rows, kk_rows_group, kk_rows_one, kk_group_num, kk_group_pad, kk_group_maybe, kk_group_rows, kk_group_group, kk_group_one, kk_one_num, kk_one_pad, kk_one_maybe, kk_one_rows, kk_one_group, kk_one_one, kk_read_read, kk_read_short, kk_read_left, kk_read_wrong, kk_short_read, kk_short_short, kk_short_left, kk_short_wrong, kk_left_read, kk_left_short, kk_left_left, kk_left_wrong, kk_wrong_read, kk_wrong_short, kk_wrong_left, kk_wrong_wrong]
  · intro s ih ok
    refine ans (c := s.dep) h (env := [(some (Sl.fr ((Shp.maybe s).d))), none, none, none]) rfl rfl fun n hn => ?_
    simp only [Shp.d, Shp.lo]
    simp -implicitDefEqProofs only [Q.xs, Q.xs1, ev, evs, evI, evC, evJ, bind_ok, bind_exc, exR_ok, exR_exc, seq_nx, seq_rt, seq_xc, varR_0, varR_S, bb_add, bb_sub, bb_mul2, bb_and, cc_lt, cc_le, cc_gt, cc_ge, cc_eq, cc_ne, cc_eqb, cc_eqs, ll_len, ll_lent, ll_list, ll_listt, ll_max2, ll_min2, toD_fr, toD_ow, lstR_ok, neg_i, erR_0, erR_S, catch_nx, catch_rt, catch_xc, sfin_rt, sfin_nx, noEr_n, noEr_f, noEr_o, noEr_0, no_int, no_list, no_tuple, no_none, no_bool, no_str, isiD, List.set_cons_zero, List.set_cons_succ, decide_true, decide_false, Bool.not_true, Bool.not_false, if_true, if_false, Bool.false_eq_true, reduceIte, b_p_least_bits, xsM, pt22, pt23, pt24, pt32, pt33, pt34, pt42, pt43, pt44, psR, p1R, eqR_ss, bindE, List.nil_append, List.cons_append, kk_num_num, kk_num_pad, kk_num_maybe, kk_num_rows, kk_num_group, kk_num_one, kk_pad_num, kk_pad_pad, kk_pad_maybe, kk_pad_rows, kk_pad_group, kk_pad_one, kk_maybe_num, kk_maybe_pad, kk_maybe_maybe, kk_maybe_rows, kk_maybe_group, kk_maybe_one, kk_rows_num, kk_rows_pad, kk_rows_maybe, kk_rows_rows, kk_rows_group, kk_rows_one, kk_group_num, kk_group_pad, kk_group_maybe, kk_group_rows, kk_group_group, kk_group_one, kk_one_num, kk_one_pad, kk_one_maybe, kk_one_rows, kk_one_group, kk_one_one, kk_read_read, kk_read_short, kk_read_left, kk_read_wrong, kk_short_read, kk_short_short, kk_short_left, kk_short_wrong, kk_left_read, kk_left_short, kk_left_left, kk_left_wrong, kk_wrong_read, kk_wrong_short, kk_wrong_left, kk_wrong_wrong]
    rfl
  · intro w s ih ok
    refine ans (c := s.dep) h (env := [(some (Sl.fr ((Shp.rows w s).d))), none, none, none]) rfl rfl fun n hn => ?_
    simp only [Shp.d, Shp.lo]
    simp -implicitDefEqProofs only [Q.xs, Q.xs1, ev, evs, evI, evC, evJ, bind_ok, bind_exc, exR_ok, exR_exc, seq_nx, seq_rt, seq_xc, varR_0, varR_S, bb_add, bb_sub, bb_mul2, bb_and, cc_lt, cc_le, cc_gt, cc_ge, cc_eq, cc_ne, cc_eqb, cc_eqs, ll_len, ll_lent, ll_list, ll_listt, ll_max2, ll_min2, toD_fr, toD_ow, lstR_ok, neg_i, erR_0, erR_S, catch_nx, catch_rt, catch_xc, sfin_rt, sfin_nx, noEr_n, noEr_f, noEr_o, noEr_0, no_int, no_list, no_tuple, no_none, no_bool, no_str, isiD, List.set_cons_zero, List.set_cons_succ, decide_true, decide_false, Bool.not_true, Bool.not_false, if_true, if_false, Bool.false_eq_true, reduceIte, b_p_least_bits, xsM, pt22, pt23, pt24, pt32, pt33, pt34, pt42, pt43, pt44, psR, p1R, eqR_ss, bindE, List.nil_append, List.cons_append, kk_num_num, kk_num_pad, kk_num_maybe, kk_num_rows, kk_num_group, kk_num_one, kk_pad_num, kk_pad_pad, kk_pad_maybe, kk_pad_rows, kk_pad_group, kk_pad_one, kk_maybe_num, kk_maybe_pad, kk_maybe_maybe, kk_maybe_rows, kk_maybe_group, kk_maybe_one, kk_rows_num, kk_rows_pad, kk_rows_maybe, kk_rows_rows, kk_rows_group, kk_rows_one, kk_group_num, kk_group_pad, kk_group_maybe, kk_group_rows, kk_group_group, kk_group_one, kk_one_num, kk_one_pad, kk_one_maybe, kk_one_rows, kk_one_group, kk_one_one, kk_read_read, kk_read_short, kk_read_left, kk_read_wrong, kk_short_read, kk_short_short, kk_short_left, kk_short_wrong, kk_left_read, kk_left_short, kk_left_left, kk_left_wrong, kk_wrong_read, kk_wrong_short, kk_wrong_left, kk_wrong_wrong]
  · intro ss ih ok
    refine ans (c := Shp.deps ss) h (env := [(some (Sl.fr ((Shp.group ss).d))), none, none, none]) rfl rfl fun n hn => ?_
    have hm : mapR (fun d => ((m.Phi n I.p_least_bits [d]).bind Sl.toD).cold) (ss.map Shp.d) = .ok ((ss.map Shp.lo).map fun x : Nat => PyData.int (x : Int)) := by
      rw [List.map_map]
      exact mapR_map ss fun s hs => by
        rw [ih s hs (Shp.oks_iff.mp ok.2 s hs) n (by have := Shp.dep_mem hs; omega)]
        rfl
    have hl : ((ss.map Shp.d).length ≤ szl) = True := eq_true (by rw [List.length_map]; have := ok.1; show ss.length ≤ 16777216; omega)
    simp only [Shp.d, Shp.ds_map, Shp.lo, Shp.los_map]
    simp -implicitDefEqProofs only [Q.xs, Q.xs1, ev, evs, evI, evC, evJ, bind_ok, bind_exc, exR_ok, exR_exc, seq_nx, seq_rt, seq_xc, varR_0, varR_S, bb_add, bb_sub, bb_mul2, bb_and, cc_lt, cc_le, cc_gt, cc_ge, cc_eq, cc_ne, cc_eqb, cc_eqs, ll_len, ll_lent, ll_list, ll_listt, ll_max2, ll_min2, toD_fr, toD_ow, lstR_ok, neg_i, erR_0, erR_S, catch_nx, catch_rt, catch_xc, sfin_rt, sfin_nx, noEr_n, noEr_f, noEr_o, noEr_0, no_int, no_list, no_tuple, no_none, no_bool, no_str, isiD, List.set_cons_zero, List.set_cons_succ, decide_true, decide_false, Bool.not_true, Bool.not_false, if_true, if_false, Bool.false_eq_true, reduceIte, b_p_least_bits, xsM, pt22, pt23, pt24, pt32, pt33, pt34, pt42, pt43, pt44, psR, p1R, eqR_ss, bindE, List.nil_append, List.cons_append, kk_num_num, kk_num_pad, kk_num_maybe, kk_num_rows, kk_num_group, kk_num_one, kk_pad_num, kk_pad_pad, kk_pad_maybe, kk_pad_rows, kk_pad_group, kk_pad_one, kk_maybe_num, kk_maybe_pad, kk_maybe_maybe, kk_maybe_rows, kk_maybe_group, kk_maybe_one, kk_rows_num, kk_rows_pad, kk_rows_maybe, kk_rows_rows, kk_rows_group, kk_rows_one, kk_group_num, kk_group_pad, kk_group_maybe, kk_group_rows, kk_group_group, kk_group_one, kk_one_num, kk_one_pad, kk_one_maybe, kk_one_rows, kk_one_group, kk_one_one, kk_read_read, kk_read_short, kk_read_left, kk_read_wrong, kk_short_read, kk_short_short, kk_short_left, kk_short_wrong, kk_left_read, kk_left_short, kk_left_left, kk_left_wrong, kk_wrong_read, kk_wrong_short, kk_wrong_left, kk_wrong_wrong, hl, hm, sum_ints]
  · intro w ss ih ok
    refine ans (c := Shp.deps ss) h (env := [(some (Sl.fr ((Shp.one w ss).d))), none, none, none]) rfl rfl fun n hn => ?_
    have hm : mapR (fun d => ((m.Phi n I.p_least_bits [d]).bind Sl.toD).cold) (ss.map Shp.d) = .ok ((ss.map Shp.lo).map fun x : Nat => PyData.int (x : Int)) := by
      rw [List.map_map]
      exact mapR_map ss fun s hs => by
        rw [ih s hs (Shp.oks_iff.mp ok.2.2.2.2 s hs) n (by have := Shp.dep_mem hs; omega)]
        rfl
    have hl : ((ss.map Shp.d).length ≤ szl) = True := eq_true (by rw [List.length_map]; have := ok.2.2.1; show ss.length ≤ 16777216; omega)
    simp only [Shp.d, Shp.ds_map, Shp.lo, Shp.los_map]
    simp -implicitDefEqProofs only [Q.xs, Q.xs1, ev, evs, evI, evC, evJ, bind_ok, bind_exc, exR_ok, exR_exc, seq_nx, seq_rt, seq_xc, varR_0, varR_S, bb_add, bb_sub, bb_mul2, bb_and, cc_lt, cc_le, cc_gt, cc_ge, cc_eq, cc_ne, cc_eqb, cc_eqs, ll_len, ll_lent, ll_list, ll_listt, ll_max2, ll_min2, toD_fr, toD_ow, lstR_ok, neg_i, erR_0, erR_S, catch_nx, catch_rt, catch_xc, sfin_rt, sfin_nx, noEr_n, noEr_f, noEr_o, noEr_0, no_int, no_list, no_tuple, no_none, no_bool, no_str, isiD, List.set_cons_zero, List.set_cons_succ, decide_true, decide_false, Bool.not_true, Bool.not_false, if_true, if_false, Bool.false_eq_true, reduceIte, b_p_least_bits, xsM, pt22, pt23, pt24, pt32, pt33, pt34, pt42, pt43, pt44, psR, p1R, eqR_ss, bindE, List.nil_append, List.cons_append, kk_num_num, kk_num_pad, kk_num_maybe, kk_num_rows, kk_num_group, kk_num_one, kk_pad_num, kk_pad_pad, kk_pad_maybe, kk_pad_rows, kk_pad_group, kk_pad_one, kk_maybe_num, kk_maybe_pad, kk_maybe_maybe, kk_maybe_rows, kk_maybe_group, kk_maybe_one, kk_rows_num, kk_rows_pad, kk_rows_maybe, kk_rows_rows, kk_rows_group, kk_rows_one, kk_group_num, kk_group_pad, kk_group_maybe, kk_group_rows, kk_group_group, kk_group_one, kk_one_num, kk_one_pad, kk_one_maybe, kk_one_rows, kk_one_group, kk_one_one, kk_read_read, kk_read_short, kk_read_left, kk_read_wrong, kk_short_read, kk_short_short, kk_short_left, kk_short_wrong, kk_left_read, kk_left_short, kk_left_left, kk_left_wrong, kk_wrong_read, kk_wrong_short, kk_wrong_left, kk_wrong_wrong, hl, hm, mn_ints (ss.map Shp.lo) 0 (.inr rfl), Int.natCast_add]
theorem a_most (h : At_p_most_bits m I) (hr : At_p_room_of m I) : ∀ s : Shp, s.ok → Ans m I.p_most_bits [s.d] (s.dep + 1) (.ok (.fr (.int s.hi))) := by
  refine Shp.ind ?_ ?_ ?_ ?_ ?_ ?_
  · intro w lo hi ok
    refine ans (c := 1) h (env := [(some (Sl.fr ((Shp.num w lo hi).d))), none, none, none, none]) rfl rfl fun n hn => ?_
    simp only [Shp.d, Shp.hi]
    simp -implicitDefEqProofs only [Q.xs, Q.xs1, ev, evs, evI, evC, evJ, bind_ok, bind_exc, exR_ok, exR_exc, seq_nx, seq_rt, seq_xc, varR_0, varR_S, bb_add, bb_sub, bb_mul2, bb_and, cc_lt, cc_le, cc_gt, cc_ge, cc_eq, cc_ne, cc_eqb, cc_eqs, ll_len, ll_lent, ll_list, ll_listt, ll_max2, ll_min2, toD_fr, toD_ow, lstR_ok, neg_i, erR_0, erR_S, catch_nx, catch_rt, catch_xc, sfin_rt, sfin_nx, noEr_n, noEr_f, noEr_o, noEr_0, no_int, no_list, no_tuple, no_none, no_bool, no_str, isiD, List.set_cons_zero, List.set_cons_succ, decide_true, decide_false, Bool.not_true, Bool.not_false, if_true, if_false, Bool.false_eq_true, reduceIte, b_p_most_bits, xsM, pt22, pt23, pt24, pt32, pt33, pt34, pt42, pt43, pt44, psR, p1R, eqR_ss, bindE, List.nil_append, List.cons_append, kk_num_num, kk_num_pad, kk_num_maybe, kk_num_rows, kk_num_group, kk_num_one, kk_pad_num, kk_pad_pad, kk_pad_maybe, kk_pad_rows, kk_pad_group, kk_pad_one, kk_maybe_num, kk_maybe_pad, kk_maybe_maybe, kk_maybe_rows, kk_maybe_group, kk_maybe_one, kk_rows_num, kk_rows_pad, kk_rows_maybe, kk_rows_rows, kk_rows_group, kk_rows_one, kk_group_num, kk_group_pad, kk_group_maybe, kk_group_rows, kk_group_group, kk_group_one, kk_one_num, kk_one_pad, kk_one_maybe, kk_one_rows, kk_one_group, kk_one_one, kk_read_read, kk_read_short, kk_read_left, kk_read_wrong, kk_short_read, kk_short_short, kk_short_left, kk_short_wrong, kk_left_read, kk_left_short, kk_left_left, kk_left_wrong, kk_wrong_read, kk_wrong_short, kk_wrong_left, kk_wrong_wrong]
  · intro w ok
    refine ans (c := 1) h (env := [(some (Sl.fr ((Shp.pad w).d))), none, none, none, none]) rfl rfl fun n hn => ?_
    simp only [Shp.d, Shp.hi]
    simp -implicitDefEqProofs only [Q.xs, Q.xs1, ev, evs, evI, evC, evJ, bind_ok, bind_exc, exR_ok, exR_exc, seq_nx, seq_rt, seq_xc, varR_0, varR_S, bb_add, bb_sub, bb_mul2, bb_and, cc_lt, cc_le, cc_gt, cc_ge, cc_eq, cc_ne, cc_eqb, cc_eqs, ll_len, ll_lent, ll_list, ll_listt, ll_max2, ll_min2, toD_fr, toD_ow, lstR_ok, neg_i, erR_0, erR_S, catch_nx, catch_rt, catch_xc, sfin_rt, sfin_nx, noEr_n, noEr_f, noEr_o, noEr_0, no_int, no_list, no_tuple, no_none, no_bool, no_str, isiD, List.set_cons_zero, List.set_cons_succ, decide_true, decide_false, Bool.not_true, Bool.not_false, if_true, if_false, Bool.false_eq_true, reduceIte, b_p_most_bits, xsM, pt22, pt23, pt24, pt32, pt33, pt34, pt42, pt43, pt44, psR, p1R, eqR_ss, bindE, List.nil_append, List.cons_append, kk_num_num, kk_num_pad, kk_num_maybe, kk_num_rows, kk_num_group, kk_num_one, kk_pad_num, kk_pad_pad, kk_pad_maybe, kk_pad_rows, kk_pad_group, kk_pad_one, kk_maybe_num, kk_maybe_pad, kk_maybe_maybe, kk_maybe_rows, kk_maybe_group, kk_maybe_one, kk_rows_num, kk_rows_pad, kk_rows_maybe, kk_rows_rows, kk_rows_group, kk_rows_one, kk_group_num, kk_group_pad, kk_group_maybe, kk_group_rows, kk_group_group, kk_group_one, kk_one_num, kk_one_pad, kk_one_maybe, kk_one_rows, kk_one_group, kk_one_one, kk_read_read, kk_read_short, kk_read_left, kk_read_wrong, kk_short_read, kk_short_short, kk_short_left, kk_short_wrong, kk_left_read, kk_left_short, kk_left_left, kk_left_wrong, kk_wrong_read, kk_wrong_short, kk_wrong_left, kk_wrong_wrong]
  · intro s ih ok
    refine ans (c := s.dep + 1) h (env := [(some (Sl.fr ((Shp.maybe s).d))), none, none, none, none]) rfl rfl fun n hn => ?_
    simp only [Shp.d, Shp.hi]
    simp -implicitDefEqProofs only [Q.xs, Q.xs1, ev, evs, evI, evC, evJ, bind_ok, bind_exc, exR_ok, exR_exc, seq_nx, seq_rt, seq_xc, varR_0, varR_S, bb_add, bb_sub, bb_mul2, bb_and, cc_lt, cc_le, cc_gt, cc_ge, cc_eq, cc_ne, cc_eqb, cc_eqs, ll_len, ll_lent, ll_list, ll_listt, ll_max2, ll_min2, toD_fr, toD_ow, lstR_ok, neg_i, erR_0, erR_S, catch_nx, catch_rt, catch_xc, sfin_rt, sfin_nx, noEr_n, noEr_f, noEr_o, noEr_0, no_int, no_list, no_tuple, no_none, no_bool, no_str, isiD, List.set_cons_zero, List.set_cons_succ, decide_true, decide_false, Bool.not_true, Bool.not_false, if_true, if_false, Bool.false_eq_true, reduceIte, b_p_most_bits, xsM, pt22, pt23, pt24, pt32, pt33, pt34, pt42, pt43, pt44, psR, p1R, eqR_ss, bindE, List.nil_append, List.cons_append, kk_num_num, kk_num_pad, kk_num_maybe, kk_num_rows, kk_num_group, kk_num_one, kk_pad_num, kk_pad_pad, kk_pad_maybe, kk_pad_rows, kk_pad_group, kk_pad_one, kk_maybe_num, kk_maybe_pad, kk_maybe_maybe, kk_maybe_rows, kk_maybe_group, kk_maybe_one, kk_rows_num, kk_rows_pad, kk_rows_maybe, kk_rows_rows, kk_rows_group, kk_rows_one, kk_group_num, kk_group_pad, kk_group_maybe, kk_group_rows, kk_group_group, kk_group_one, kk_one_num, kk_one_pad, kk_one_maybe, kk_one_rows, kk_one_group, kk_one_one, kk_read_read, kk_read_short, kk_read_left, kk_read_wrong, kk_short_read, kk_short_short, kk_short_left, kk_short_wrong, kk_left_read, kk_left_short, kk_left_left, kk_left_wrong, kk_wrong_read, kk_wrong_short, kk_wrong_left, kk_wrong_wrong, ih ok n (by omega), Int.natCast_add]
    rfl
  · intro w s ih ok
    refine ans (c := s.dep + 1) h (env := [(some (Sl.fr ((Shp.rows w s).d))), none, none, none, none]) rfl rfl fun n hn => ?_
    obtain ⟨t1, t2⟩ := two8 ok.1
    have e : binD .mul (.int ((2 : Int) ^ w - 1)) (.int (s.hi : Int)) = .ok (.int (((2 ^ w - 1) * s.hi : Nat) : Int)) := by
      have : (2 : Int) ^ w = ((2 ^ w : Nat) : Int) := by push_cast; rfl
      rw [bb_mul (.inl (by rw [this, two64]; omega)), this]
      congr 2
      rw [Int.natCast_mul, Int.natCast_sub t1]
      rfl
    have hd := s.dep_pos
    simp only [Shp.d, Shp.hi]
    simp -implicitDefEqProofs only [Q.xs, Q.xs1, ev, evs, evI, evC, evJ, bind_ok, bind_exc, exR_ok, exR_exc, seq_nx, seq_rt, seq_xc, varR_0, varR_S, bb_add, bb_sub, bb_mul2, bb_and, cc_lt, cc_le, cc_gt, cc_ge, cc_eq, cc_ne, cc_eqb, cc_eqs, ll_len, ll_lent, ll_list, ll_listt, ll_max2, ll_min2, toD_fr, toD_ow, lstR_ok, neg_i, erR_0, erR_S, catch_nx, catch_rt, catch_xc, sfin_rt, sfin_nx, noEr_n, noEr_f, noEr_o, noEr_0, no_int, no_list, no_tuple, no_none, no_bool, no_str, isiD, List.set_cons_zero, List.set_cons_succ, decide_true, decide_false, Bool.not_true, Bool.not_false, if_true, if_false, Bool.false_eq_true, reduceIte, b_p_most_bits, xsM, pt22, pt23, pt24, pt32, pt33, pt34, pt42, pt43, pt44, psR, p1R, eqR_ss, bindE, List.nil_append, List.cons_append, kk_num_num, kk_num_pad, kk_num_maybe, kk_num_rows, kk_num_group, kk_num_one, kk_pad_num, kk_pad_pad, kk_pad_maybe, kk_pad_rows, kk_pad_group, kk_pad_one, kk_maybe_num, kk_maybe_pad, kk_maybe_maybe, kk_maybe_rows, kk_maybe_group, kk_maybe_one, kk_rows_num, kk_rows_pad, kk_rows_maybe, kk_rows_rows, kk_rows_group, kk_rows_one, kk_group_num, kk_group_pad, kk_group_maybe, kk_group_rows, kk_group_group, kk_group_one, kk_one_num, kk_one_pad, kk_one_maybe, kk_one_rows, kk_one_group, kk_one_one, kk_read_read, kk_read_short, kk_read_left, kk_read_wrong, kk_short_read, kk_short_short, kk_short_left, kk_short_wrong, kk_left_read, kk_left_short, kk_left_left, kk_left_wrong, kk_wrong_read, kk_wrong_short, kk_wrong_left, kk_wrong_wrong, ih ok.2.2 n (by omega), a_roomof hr w (by have := ok.1; omega) n (by omega), e]
    rw [Int.natCast_add]
  · intro ss ih ok
    refine ans (c := Shp.deps ss + 1) h (env := [(some (Sl.fr ((Shp.group ss).d))), none, none, none, none]) rfl rfl fun n hn => ?_
    have hm : mapR (fun d => ((m.Phi n I.p_most_bits [d]).bind Sl.toD).cold) (ss.map Shp.d) = .ok ((ss.map Shp.hi).map fun x : Nat => PyData.int (x : Int)) := by
      rw [List.map_map]
      exact mapR_map ss fun s hs => by
        rw [ih s hs (Shp.oks_iff.mp ok.2 s hs) n (by have := Shp.dep_mem hs; omega)]
        rfl
    have hl : ((ss.map Shp.d).length ≤ szl) = True := eq_true (by rw [List.length_map]; have := ok.1; show ss.length ≤ 16777216; omega)
    simp only [Shp.d, Shp.ds_map, Shp.hi, Shp.his_map]
    simp -implicitDefEqProofs only [Q.xs, Q.xs1, ev, evs, evI, evC, evJ, bind_ok, bind_exc, exR_ok, exR_exc, seq_nx, seq_rt, seq_xc, varR_0, varR_S, bb_add, bb_sub, bb_mul2, bb_and, cc_lt, cc_le, cc_gt, cc_ge, cc_eq, cc_ne, cc_eqb, cc_eqs, ll_len, ll_lent, ll_list, ll_listt, ll_max2, ll_min2, toD_fr, toD_ow, lstR_ok, neg_i, erR_0, erR_S, catch_nx, catch_rt, catch_xc, sfin_rt, sfin_nx, noEr_n, noEr_f, noEr_o, noEr_0, no_int, no_list, no_tuple, no_none, no_bool, no_str, isiD, List.set_cons_zero, List.set_cons_succ, decide_true, decide_false, Bool.not_true, Bool.not_false, if_true, if_false, Bool.false_eq_true, reduceIte, b_p_most_bits, xsM, pt22, pt23, pt24, pt32, pt33, pt34, pt42, pt43, pt44, psR, p1R, eqR_ss, bindE, List.nil_append, List.cons_append, kk_num_num, kk_num_pad, kk_num_maybe, kk_num_rows, kk_num_group, kk_num_one, kk_pad_num, kk_pad_pad, kk_pad_maybe, kk_pad_rows, kk_pad_group, kk_pad_one, kk_maybe_num, kk_maybe_pad, kk_maybe_maybe, kk_maybe_rows, kk_maybe_group, kk_maybe_one, kk_rows_num, kk_rows_pad, kk_rows_maybe, kk_rows_rows, kk_rows_group, kk_rows_one, kk_group_num, kk_group_pad, kk_group_maybe, kk_group_rows, kk_group_group, kk_group_one, kk_one_num, kk_one_pad, kk_one_maybe, kk_one_rows, kk_one_group, kk_one_one, kk_read_read, kk_read_short, kk_read_left, kk_read_wrong, kk_short_read, kk_short_short, kk_short_left, kk_short_wrong, kk_left_read, kk_left_short, kk_left_left, kk_left_wrong, kk_wrong_read, kk_wrong_short, kk_wrong_left, kk_wrong_wrong, hl, hm, sum_ints]
  · intro w ss ih ok
    refine ans (c := Shp.deps ss + 1) h (env := [(some (Sl.fr ((Shp.one w ss).d))), none, none, none, none]) rfl rfl fun n hn => ?_
    have hm : mapR (fun d => ((m.Phi n I.p_most_bits [d]).bind Sl.toD).cold) (ss.map Shp.d) = .ok ((ss.map Shp.hi).map fun x : Nat => PyData.int (x : Int)) := by
      rw [List.map_map]
      exact mapR_map ss fun s hs => by
        rw [ih s hs (Shp.oks_iff.mp ok.2.2.2.2 s hs) n (by have := Shp.dep_mem hs; omega)]
        rfl
    have hl : ((ss.map Shp.d).length ≤ szl) = True := eq_true (by rw [List.length_map]; have := ok.2.2.1; show ss.length ≤ 16777216; omega)
    simp only [Shp.d, Shp.ds_map, Shp.hi, Shp.his_map]
    simp -implicitDefEqProofs only [Q.xs, Q.xs1, ev, evs, evI, evC, evJ, bind_ok, bind_exc, exR_ok, exR_exc, seq_nx, seq_rt, seq_xc, varR_0, varR_S, bb_add, bb_sub, bb_mul2, bb_and, cc_lt, cc_le, cc_gt, cc_ge, cc_eq, cc_ne, cc_eqb, cc_eqs, ll_len, ll_lent, ll_list, ll_listt, ll_max2, ll_min2, toD_fr, toD_ow, lstR_ok, neg_i, erR_0, erR_S, catch_nx, catch_rt, catch_xc, sfin_rt, sfin_nx, noEr_n, noEr_f, noEr_o, noEr_0, no_int, no_list, no_tuple, no_none, no_bool, no_str, isiD, List.set_cons_zero, List.set_cons_succ, decide_true, decide_false, Bool.not_true, Bool.not_false, if_true, if_false, Bool.false_eq_true, reduceIte, b_p_most_bits, xsM, pt22, pt23, pt24, pt32, pt33, pt34, pt42, pt43, pt44, psR, p1R, eqR_ss, bindE, List.nil_append, List.cons_append, kk_num_num, kk_num_pad, kk_num_maybe, kk_num_rows, kk_num_group, kk_num_one, kk_pad_num, kk_pad_pad, kk_pad_maybe, kk_pad_rows, kk_pad_group, kk_pad_one, kk_maybe_num, kk_maybe_pad, kk_maybe_maybe, kk_maybe_rows, kk_maybe_group, kk_maybe_one, kk_rows_num, kk_rows_pad, kk_rows_maybe, kk_rows_rows, kk_rows_group, kk_rows_one, kk_group_num, kk_group_pad, kk_group_maybe, kk_group_rows, kk_group_group, kk_group_one, kk_one_num, kk_one_pad, kk_one_maybe, kk_one_rows, kk_one_group, kk_one_one, kk_read_read, kk_read_short, kk_read_left, kk_read_wrong, kk_short_read, kk_short_short, kk_short_left, kk_short_wrong, kk_left_read, kk_left_short, kk_left_left, kk_left_wrong, kk_wrong_read, kk_wrong_short, kk_wrong_left, kk_wrong_wrong, hl, hm, mx_ints (ss.map Shp.hi) 0 (.inr rfl), Int.natCast_add]
theorem a_lengths (h : At_l_lengths m I) (hr : At_l_room m I) : ∀ s : Shp, s.ok → Ans m I.l_lengths [s.d] (s.dep + 1) (.ok (.fr (.tuple [.int s.lo, .int s.hi]))) := by
  refine Shp.ind ?_ ?_ ?_ ?_ ?_ ?_
  · intro w lo hi ok
    refine ans (c := 1) h (env := [(some (Sl.fr ((Shp.num w lo hi).d))), none, none, none]) rfl rfl fun n hn => ?_
    simp only [Shp.d, Shp.hi, Shp.lo]
    simp -implicitDefEqProofs only [Q.xs, Q.xs1, ev, evs, evI, evC, evJ, bind_ok, bind_exc, exR_ok, exR_exc, seq_nx, seq_rt, seq_xc, varR_0, varR_S, bb_add, bb_sub, bb_mul2, bb_and, cc_lt, cc_le, cc_gt, cc_ge, cc_eq, cc_ne, cc_eqb, cc_eqs, ll_len, ll_lent, ll_list, ll_listt, ll_max2, ll_min2, toD_fr, toD_ow, lstR_ok, neg_i, erR_0, erR_S, catch_nx, catch_rt, catch_xc, sfin_rt, sfin_nx, noEr_n, noEr_f, noEr_o, noEr_0, no_int, no_list, no_tuple, no_none, no_bool, no_str, isiD, List.set_cons_zero, List.set_cons_succ, decide_true, decide_false, Bool.not_true, Bool.not_false, if_true, if_false, Bool.false_eq_true, reduceIte, b_l_lengths, ixt0, ixt1, kk_num_num, kk_num_pad, kk_num_maybe, kk_num_rows, kk_num_group, kk_num_one, kk_pad_num, kk_pad_pad, kk_pad_maybe, kk_pad_rows, kk_pad_group, kk_pad_one, kk_maybe_num, kk_maybe_pad, kk_maybe_maybe, kk_maybe_rows, kk_maybe_group, kk_maybe_one, kk_rows_num, kk_rows_pad, kk_rows_maybe, kk_rows_rows, kk_rows_group, kk_rows_one, kk_group_num, kk_group_pad, kk_group_maybe, kk_group_rows, kk_group_group, kk_group_one, kk_one_num, kk_one_pad, kk_one_maybe, kk_one_rows, kk_one_group, kk_one_one, kk_read_read, kk_read_short, kk_read_left, kk_read_wrong, kk_short_read, kk_short_short, kk_short_left, kk_short_wrong, kk_left_read, kk_left_short, kk_left_left, kk_left_wrong, kk_wrong_read, kk_wrong_short, kk_wrong_left, kk_wrong_wrong, l2]
  · intro w ok
    refine ans (c := 1) h (env := [(some (Sl.fr ((Shp.pad w).d))), none, none, none]) rfl rfl fun n hn => ?_
    simp only [Shp.d, Shp.hi, Shp.lo]
    simp -implicitDefEqProofs only [Q.xs, Q.xs1, ev, evs, evI, evC, evJ, bind_ok, bind_exc, exR_ok, exR_exc, seq_nx, seq_rt, seq_xc, varR_0, varR_S, bb_add, bb_sub, bb_mul2, bb_and, cc_lt, cc_le, cc_gt, cc_ge, cc_eq, cc_ne, cc_eqb, cc_eqs, ll_len, ll_lent, ll_list, ll_listt, ll_max2, ll_min2, toD_fr, toD_ow, lstR_ok, neg_i, erR_0, erR_S, catch_nx, catch_rt, catch_xc, sfin_rt, sfin_nx, noEr_n, noEr_f, noEr_o, noEr_0, no_int, no_list, no_tuple, no_none, no_bool, no_str, isiD, List.set_cons_zero, List.set_cons_succ, decide_true, decide_false, Bool.not_true, Bool.not_false, if_true, if_false, Bool.false_eq_true, reduceIte, b_l_lengths, ixt0, ixt1, kk_num_num, kk_num_pad, kk_num_maybe, kk_num_rows, kk_num_group, kk_num_one, kk_pad_num, kk_pad_pad, kk_pad_maybe, kk_pad_rows, kk_pad_group, kk_pad_one, kk_maybe_num, kk_maybe_pad, kk_maybe_maybe, kk_maybe_rows, kk_maybe_group, kk_maybe_one, kk_rows_num, kk_rows_pad, kk_rows_maybe, kk_rows_rows, kk_rows_group, kk_rows_one, kk_group_num, kk_group_pad, kk_group_maybe, kk_group_rows, kk_group_group, kk_group_one, kk_one_num, kk_one_pad, kk_one_maybe, kk_one_rows, kk_one_group, kk_one_one, kk_read_read, kk_read_short, kk_read_left, kk_read_wrong, kk_short_read, kk_short_short, kk_short_left, kk_short_wrong, kk_left_read, kk_left_short, kk_left_left, kk_left_wrong, kk_wrong_read, kk_wrong_short, kk_wrong_left, kk_wrong_wrong, l2]
  · intro s ih ok
    refine ans (c := s.dep + 1) h (env := [(some (Sl.fr ((Shp.maybe s).d))), none, none, none]) rfl rfl fun n hn => ?_
    simp only [Shp.d, Shp.hi, Shp.lo]
    simp -implicitDefEqProofs only [Q.xs, Q.xs1, ev, evs, evI, evC, evJ, bind_ok, bind_exc, exR_ok, exR_exc, seq_nx, seq_rt, seq_xc, varR_0, varR_S, bb_add, bb_sub, bb_mul2, bb_and, cc_lt, cc_le, cc_gt, cc_ge, cc_eq, cc_ne, cc_eqb, cc_eqs, ll_len, ll_lent, ll_list, ll_listt, ll_max2, ll_min2, toD_fr, toD_ow, lstR_ok, neg_i, erR_0, erR_S, catch_nx, catch_rt, catch_xc, sfin_rt, sfin_nx, noEr_n, noEr_f, noEr_o, noEr_0, no_int, no_list, no_tuple, no_none, no_bool, no_str, isiD, List.set_cons_zero, List.set_cons_succ, decide_true, decide_false, Bool.not_true, Bool.not_false, if_true, if_false, Bool.false_eq_true, reduceIte, b_l_lengths, ixt0, ixt1, kk_num_num, kk_num_pad, kk_num_maybe, kk_num_rows, kk_num_group, kk_num_one, kk_pad_num, kk_pad_pad, kk_pad_maybe, kk_pad_rows, kk_pad_group, kk_pad_one, kk_maybe_num, kk_maybe_pad, kk_maybe_maybe, kk_maybe_rows, kk_maybe_group, kk_maybe_one, kk_rows_num, kk_rows_pad, kk_rows_maybe, kk_rows_rows, kk_rows_group, kk_rows_one, kk_group_num, kk_group_pad, kk_group_maybe, kk_group_rows, kk_group_group, kk_group_one, kk_one_num, kk_one_pad, kk_one_maybe, kk_one_rows, kk_one_group, kk_one_one, kk_read_read, kk_read_short, kk_read_left, kk_read_wrong, kk_short_read, kk_short_short, kk_short_left, kk_short_wrong, kk_left_read, kk_left_short, kk_left_left, kk_left_wrong, kk_wrong_read, kk_wrong_short, kk_wrong_left, kk_wrong_wrong, l2, ih ok n (by omega), Int.natCast_add]
    rfl
  · intro w s ih ok
    refine ans (c := s.dep + 1) h (env := [(some (Sl.fr ((Shp.rows w s).d))), none, none, none]) rfl rfl fun n hn => ?_
    obtain ⟨t1, t2⟩ := two8 ok.1
    have e : binD .mul (.int ((2 : Int) ^ w - 1)) (.int (s.hi : Int)) = .ok (.int (((2 ^ w - 1) * s.hi : Nat) : Int)) := by
      have : (2 : Int) ^ w = ((2 ^ w : Nat) : Int) := by push_cast; rfl
      rw [bb_mul (.inl (by rw [this, two64]; omega)), this]
      congr 2
      rw [Int.natCast_mul, Int.natCast_sub t1]
      rfl
    simp only [Shp.d, Shp.hi, Shp.lo]
    simp -implicitDefEqProofs only [Q.xs, Q.xs1, ev, evs, evI, evC, evJ, bind_ok, bind_exc, exR_ok, exR_exc, seq_nx, seq_rt, seq_xc, varR_0, varR_S, bb_add, bb_sub, bb_mul2, bb_and, cc_lt, cc_le, cc_gt, cc_ge, cc_eq, cc_ne, cc_eqb, cc_eqs, ll_len, ll_lent, ll_list, ll_listt, ll_max2, ll_min2, toD_fr, toD_ow, lstR_ok, neg_i, erR_0, erR_S, catch_nx, catch_rt, catch_xc, sfin_rt, sfin_nx, noEr_n, noEr_f, noEr_o, noEr_0, no_int, no_list, no_tuple, no_none, no_bool, no_str, isiD, List.set_cons_zero, List.set_cons_succ, decide_true, decide_false, Bool.not_true, Bool.not_false, if_true, if_false, Bool.false_eq_true, reduceIte, b_l_lengths, ixt0, ixt1, ixt2, kk_num_num, kk_num_pad, kk_num_maybe, kk_num_rows, kk_num_group, kk_num_one, kk_pad_num, kk_pad_pad, kk_pad_maybe, kk_pad_rows, kk_pad_group, kk_pad_one, kk_maybe_num, kk_maybe_pad, kk_maybe_maybe, kk_maybe_rows, kk_maybe_group, kk_maybe_one, kk_rows_num, kk_rows_pad, kk_rows_maybe, kk_rows_rows, kk_rows_group, kk_rows_one, kk_group_num, kk_group_pad, kk_group_maybe, kk_group_rows, kk_group_group, kk_group_one, kk_one_num, kk_one_pad, kk_one_maybe, kk_one_rows, kk_one_group, kk_one_one, kk_read_read, kk_read_short, kk_read_left, kk_read_wrong, kk_short_read, kk_short_short, kk_short_left, kk_short_wrong, kk_left_read, kk_left_short, kk_left_left, kk_left_wrong, kk_wrong_read, kk_wrong_short, kk_wrong_left, kk_wrong_wrong, l2, ih ok.2.2 n (by omega), a_room hr w (by have := ok.1; omega) n (by omega), e]
    rw [Int.natCast_add]
  · intro ss ih ok
    refine ans (c := Shp.deps ss + 1) h (env := [(some (Sl.fr ((Shp.group ss).d))), none, none, none]) rfl rfl fun n hn => ?_
    have hm : mapR (fun d => ((m.Phi n I.l_lengths [d]).bind Sl.toD).cold) (ss.map Shp.d) = .ok (ss.map fun s => .tuple [.int s.lo, .int s.hi]) := mapR_map ss fun s hs => by
        rw [ih s hs (Shp.oks_iff.mp ok.2 s hs) n (by have := Shp.dep_mem hs; omega)]
        rfl
    have m0 : mapR (fun d => (ixR d (.int 0)).cold) (ss.map fun s => .tuple [.int s.lo, .int s.hi]) = .ok ((ss.map Shp.lo).map fun x : Nat => PyData.int (x : Int)) := by
      rw [List.map_map]
      exact mapR_map ss fun s hs => rfl
    have m1 : mapR (fun d => (ixR d (.int 1)).cold) (ss.map fun s => .tuple [.int s.lo, .int s.hi]) = .ok ((ss.map Shp.hi).map fun x : Nat => PyData.int (x : Int)) := by
      rw [List.map_map]
      exact mapR_map ss fun s hs => rfl
    have hl : ((ss.map Shp.d).length ≤ szl) = True := eq_true (by rw [List.length_map]; have := ok.1; show ss.length ≤ 16777216; omega)
    have hl2 : ((ss.map fun s => PyData.tuple [.int s.lo, .int s.hi]).length ≤ szl) = True := eq_true (by rw [List.length_map]; have := ok.1; show ss.length ≤ 16777216; omega)
    simp only [Shp.d, Shp.ds_map, Shp.lo, Shp.los_map, Shp.hi, Shp.his_map]
    simp -implicitDefEqProofs only [Q.xs, Q.xs1, ev, evs, evI, evC, evJ, bind_ok, bind_exc, exR_ok, exR_exc, seq_nx, seq_rt, seq_xc, varR_0, varR_S, bb_add, bb_sub, bb_mul2, bb_and, cc_lt, cc_le, cc_gt, cc_ge, cc_eq, cc_ne, cc_eqb, cc_eqs, ll_len, ll_lent, ll_list, ll_listt, ll_max2, ll_min2, toD_fr, toD_ow, lstR_ok, neg_i, erR_0, erR_S, catch_nx, catch_rt, catch_xc, sfin_rt, sfin_nx, noEr_n, noEr_f, noEr_o, noEr_0, no_int, no_list, no_tuple, no_none, no_bool, no_str, isiD, List.set_cons_zero, List.set_cons_succ, decide_true, decide_false, Bool.not_true, Bool.not_false, if_true, if_false, Bool.false_eq_true, reduceIte, b_l_lengths, ixt0, ixt1, ixe2, kk_num_num, kk_num_pad, kk_num_maybe, kk_num_rows, kk_num_group, kk_num_one, kk_pad_num, kk_pad_pad, kk_pad_maybe, kk_pad_rows, kk_pad_group, kk_pad_one, kk_maybe_num, kk_maybe_pad, kk_maybe_maybe, kk_maybe_rows, kk_maybe_group, kk_maybe_one, kk_rows_num, kk_rows_pad, kk_rows_maybe, kk_rows_rows, kk_rows_group, kk_rows_one, kk_group_num, kk_group_pad, kk_group_maybe, kk_group_rows, kk_group_group, kk_group_one, kk_one_num, kk_one_pad, kk_one_maybe, kk_one_rows, kk_one_group, kk_one_one, kk_read_read, kk_read_short, kk_read_left, kk_read_wrong, kk_short_read, kk_short_short, kk_short_left, kk_short_wrong, kk_left_read, kk_left_short, kk_left_left, kk_left_wrong, kk_wrong_read, kk_wrong_short, kk_wrong_left, kk_wrong_wrong, hl, hl2, hm, m0, m1, sum_ints, l2]
  · intro w ss ih ok
    refine ans (c := Shp.deps ss + 1) h (env := [(some (Sl.fr ((Shp.one w ss).d))), none, none, none]) rfl rfl fun n hn => ?_
    have hm : mapR (fun d => ((m.Phi n I.l_lengths [d]).bind Sl.toD).cold) (ss.map Shp.d) = .ok (ss.map fun s => .tuple [.int s.lo, .int s.hi]) := mapR_map ss fun s hs => by
        rw [ih s hs (Shp.oks_iff.mp ok.2.2.2.2 s hs) n (by have := Shp.dep_mem hs; omega)]
        rfl
    have m0 : mapR (fun d => (ixR d (.int 0)).cold) (ss.map fun s => .tuple [.int s.lo, .int s.hi]) = .ok ((ss.map Shp.lo).map fun x : Nat => PyData.int (x : Int)) := by
      rw [List.map_map]
      exact mapR_map ss fun s hs => rfl
    have m1 : mapR (fun d => (ixR d (.int 1)).cold) (ss.map fun s => .tuple [.int s.lo, .int s.hi]) = .ok ((ss.map Shp.hi).map fun x : Nat => PyData.int (x : Int)) := by
      rw [List.map_map]
      exact mapR_map ss fun s hs => rfl
    have hl : ((ss.map Shp.d).length ≤ szl) = True := eq_true (by rw [List.length_map]; have := ok.2.2.1; show ss.length ≤ 16777216; omega)
    have hl2 : ((ss.map fun s => PyData.tuple [.int s.lo, .int s.hi]).length ≤ szl) = True := eq_true (by rw [List.length_map]; have := ok.2.2.1; show ss.length ≤ 16777216; omega)
    have ne : ss ≠ [] := fun e => by have := ok.2.1; rw [e] at this; simp at this
    simp only [Shp.d, Shp.ds_map, Shp.lo, Shp.los_map, Shp.hi, Shp.his_map]
    simp -implicitDefEqProofs only [Q.xs, Q.xs1, ev, evs, evI, evC, evJ, bind_ok, bind_exc, exR_ok, exR_exc, seq_nx, seq_rt, seq_xc, varR_0, varR_S, bb_add, bb_sub, bb_mul2, bb_and, cc_lt, cc_le, cc_gt, cc_ge, cc_eq, cc_ne, cc_eqb, cc_eqs, ll_len, ll_lent, ll_list, ll_listt, ll_max2, ll_min2, toD_fr, toD_ow, lstR_ok, neg_i, erR_0, erR_S, catch_nx, catch_rt, catch_xc, sfin_rt, sfin_nx, noEr_n, noEr_f, noEr_o, noEr_0, no_int, no_list, no_tuple, no_none, no_bool, no_str, isiD, List.set_cons_zero, List.set_cons_succ, decide_true, decide_false, Bool.not_true, Bool.not_false, if_true, if_false, Bool.false_eq_true, reduceIte, b_l_lengths, ixt0, ixt1, ixe3, kk_num_num, kk_num_pad, kk_num_maybe, kk_num_rows, kk_num_group, kk_num_one, kk_pad_num, kk_pad_pad, kk_pad_maybe, kk_pad_rows, kk_pad_group, kk_pad_one, kk_maybe_num, kk_maybe_pad, kk_maybe_maybe, kk_maybe_rows, kk_maybe_group, kk_maybe_one, kk_rows_num, kk_rows_pad, kk_rows_maybe, kk_rows_rows, kk_rows_group, kk_rows_one, kk_group_num, kk_group_pad, kk_group_maybe, kk_group_rows, kk_group_group, kk_group_one, kk_one_num, kk_one_pad, kk_one_maybe, kk_one_rows, kk_one_group, kk_one_one, kk_read_read, kk_read_short, kk_read_left, kk_read_wrong, kk_short_read, kk_short_short, kk_short_left, kk_short_wrong, kk_left_read, kk_left_short, kk_left_left, kk_left_wrong, kk_wrong_read, kk_wrong_short, kk_wrong_left, kk_wrong_wrong, hl, hl2, hm, m0, m1, minl_ints (ss.map Shp.lo) (by simpa using ne), maxl_ints (ss.map Shp.hi) (by simpa using ne), l2, Int.natCast_add]
theorem a_lleast (h : At_l_least m I) : ∀ s : Shp, s.ok → Ans m I.l_least [s.d] s.dep (.ok (.fr (.int s.lo))) := by
  refine Shp.ind ?_ ?_ ?_ ?_ ?_ ?_
  · intro w lo hi ok
    refine ans (c := 0) h (env := [(some (Sl.fr ((Shp.num w lo hi).d))), none]) rfl rfl fun n hn => ?_
    simp only [Shp.d, Shp.lo]
    simp -implicitDefEqProofs only [Q.xs, Q.xs1, ev, evs, evI, evC, evJ, bind_ok, bind_exc, exR_ok, exR_exc, seq_nx, seq_rt, seq_xc, varR_0, varR_S, bb_add, bb_sub, bb_mul2, bb_and, cc_lt, cc_le, cc_gt, cc_ge, cc_eq, cc_ne, cc_eqb, cc_eqs, ll_len, ll_lent, ll_list, ll_listt, ll_max2, ll_min2, toD_fr, toD_ow, lstR_ok, neg_i, erR_0, erR_S, catch_nx, catch_rt, catch_xc, sfin_rt, sfin_nx, noEr_n, noEr_f, noEr_o, noEr_0, no_int, no_list, no_tuple, no_none, no_bool, no_str, isiD, List.set_cons_zero, List.set_cons_succ, decide_true, decide_false, Bool.not_true, Bool.not_false, if_true, if_false, Bool.false_eq_true, reduceIte, b_l_least, ixt0, ixt1, kk_num_num, kk_num_pad, kk_num_maybe, kk_num_rows, kk_num_group, kk_num_one, kk_pad_num, kk_pad_pad, kk_pad_maybe, kk_pad_rows, kk_pad_group, kk_pad_one, kk_maybe_num, kk_maybe_pad, kk_maybe_maybe, kk_maybe_rows, kk_maybe_group, kk_maybe_one, kk_rows_num, kk_rows_pad, kk_rows_maybe, kk_rows_rows, kk_rows_group, kk_rows_one, kk_group_num, kk_group_pad, kk_group_maybe, kk_group_rows, kk_group_group, kk_group_one, kk_one_num, kk_one_pad, kk_one_maybe, kk_one_rows, kk_one_group, kk_one_one, kk_read_read, kk_read_short, kk_read_left, kk_read_wrong, kk_short_read, kk_short_short, kk_short_left, kk_short_wrong, kk_left_read, kk_left_short, kk_left_left, kk_left_wrong, kk_wrong_read, kk_wrong_short, kk_wrong_left, kk_wrong_wrong]
  · intro w ok
    refine ans (c := 0) h (env := [(some (Sl.fr ((Shp.pad w).d))), none]) rfl rfl fun n hn => ?_
    simp only [Shp.d, Shp.lo]
    simp -implicitDefEqProofs only [Q.xs, Q.xs1, ev, evs, evI, evC, evJ, bind_ok, bind_exc, exR_ok, exR_exc, seq_nx, seq_rt, seq_xc, varR_0, varR_S, bb_add, bb_sub, bb_mul2, bb_and, cc_lt, cc_le, cc_gt, cc_ge, cc_eq, cc_ne, cc_eqb, cc_eqs, ll_len, ll_lent, ll_list, ll_listt, ll_max2, ll_min2, toD_fr, toD_ow, lstR_ok, neg_i, erR_0, erR_S, catch_nx, catch_rt, catch_xc, sfin_rt, sfin_nx, noEr_n, noEr_f, noEr_o, noEr_0, no_int, no_list, no_tuple, no_none, no_bool, no_str, isiD, List.set_cons_zero, List.set_cons_succ, decide_true, decide_false, Bool.not_true, Bool.not_false, if_true, if_false, Bool.false_eq_true, reduceIte, b_l_least, ixt0, ixt1, kk_num_num, kk_num_pad, kk_num_maybe, kk_num_rows, kk_num_group, kk_num_one, kk_pad_num, kk_pad_pad, kk_pad_maybe, kk_pad_rows, kk_pad_group, kk_pad_one, kk_maybe_num, kk_maybe_pad, kk_maybe_maybe, kk_maybe_rows, kk_maybe_group, kk_maybe_one, kk_rows_num, kk_rows_pad, kk_rows_maybe, kk_rows_rows, kk_rows_group, kk_rows_one, kk_group_num, kk_group_pad, kk_group_maybe, kk_group_rows, kk_group_group, kk_group_one, kk_one_num, kk_one_pad, kk_one_maybe, kk_one_rows, kk_one_group, kk_one_one, kk_read_read, kk_read_short, kk_read_left, kk_read_wrong, kk_short_read, kk_short_short, kk_short_left, kk_short_wrong, kk_left_read, kk_left_short, kk_left_left, kk_left_wrong, kk_wrong_read, kk_wrong_short, kk_wrong_left, kk_wrong_wrong]
  · intro s ih ok
    refine ans (c := s.dep) h (env := [(some (Sl.fr ((Shp.maybe s).d))), none]) rfl rfl fun n hn => ?_
    simp only [Shp.d, Shp.lo]
    simp -implicitDefEqProofs only [Q.xs, Q.xs1, ev, evs, evI, evC, evJ, bind_ok, bind_exc, exR_ok, exR_exc, seq_nx, seq_rt, seq_xc, varR_0, varR_S, bb_add, bb_sub, bb_mul2, bb_and, cc_lt, cc_le, cc_gt, cc_ge, cc_eq, cc_ne, cc_eqb, cc_eqs, ll_len, ll_lent, ll_list, ll_listt, ll_max2, ll_min2, toD_fr, toD_ow, lstR_ok, neg_i, erR_0, erR_S, catch_nx, catch_rt, catch_xc, sfin_rt, sfin_nx, noEr_n, noEr_f, noEr_o, noEr_0, no_int, no_list, no_tuple, no_none, no_bool, no_str, isiD, List.set_cons_zero, List.set_cons_succ, decide_true, decide_false, Bool.not_true, Bool.not_false, if_true, if_false, Bool.false_eq_true, reduceIte, b_l_least, ixt0, ixt1, kk_num_num, kk_num_pad, kk_num_maybe, kk_num_rows, kk_num_group, kk_num_one, kk_pad_num, kk_pad_pad, kk_pad_maybe, kk_pad_rows, kk_pad_group, kk_pad_one, kk_maybe_num, kk_maybe_pad, kk_maybe_maybe, kk_maybe_rows, kk_maybe_group, kk_maybe_one, kk_rows_num, kk_rows_pad, kk_rows_maybe, kk_rows_rows, kk_rows_group, kk_rows_one, kk_group_num, kk_group_pad, kk_group_maybe, kk_group_rows, kk_group_group, kk_group_one, kk_one_num, kk_one_pad, kk_one_maybe, kk_one_rows, kk_one_group, kk_one_one, kk_read_read, kk_read_short, kk_read_left, kk_read_wrong, kk_short_read, kk_short_short, kk_short_left, kk_short_wrong, kk_left_read, kk_left_short, kk_left_left, kk_left_wrong, kk_wrong_read, kk_wrong_short, kk_wrong_left, kk_wrong_wrong]
    rfl
  · intro w s ih ok
    refine ans (c := s.dep) h (env := [(some (Sl.fr ((Shp.rows w s).d))), none]) rfl rfl fun n hn => ?_
    simp only [Shp.d, Shp.lo]
    simp -implicitDefEqProofs only [Q.xs, Q.xs1, ev, evs, evI, evC, evJ, bind_ok, bind_exc, exR_ok, exR_exc, seq_nx, seq_rt, seq_xc, varR_0, varR_S, bb_add, bb_sub, bb_mul2, bb_and, cc_lt, cc_le, cc_gt, cc_ge, cc_eq, cc_ne, cc_eqb, cc_eqs, ll_len, ll_lent, ll_list, ll_listt, ll_max2, ll_min2, toD_fr, toD_ow, lstR_ok, neg_i, erR_0, erR_S, catch_nx, catch_rt, catch_xc, sfin_rt, sfin_nx, noEr_n, noEr_f, noEr_o, noEr_0, no_int, no_list, no_tuple, no_none, no_bool, no_str, isiD, List.set_cons_zero, List.set_cons_succ, decide_true, decide_false, Bool.not_true, Bool.not_false, if_true, if_false, Bool.false_eq_true, reduceIte, b_l_least, ixt0, ixt1, kk_num_num, kk_num_pad, kk_num_maybe, kk_num_rows, kk_num_group, kk_num_one, kk_pad_num, kk_pad_pad, kk_pad_maybe, kk_pad_rows, kk_pad_group, kk_pad_one, kk_maybe_num, kk_maybe_pad, kk_maybe_maybe, kk_maybe_rows, kk_maybe_group, kk_maybe_one, kk_rows_num, kk_rows_pad, kk_rows_maybe, kk_rows_rows, kk_rows_group, kk_rows_one, kk_group_num, kk_group_pad, kk_group_maybe, kk_group_rows, kk_group_group, kk_group_one, kk_one_num, kk_one_pad, kk_one_maybe, kk_one_rows, kk_one_group, kk_one_one, kk_read_read, kk_read_short, kk_read_left, kk_read_wrong, kk_short_read, kk_short_short, kk_short_left, kk_short_wrong, kk_left_read, kk_left_short, kk_left_left, kk_left_wrong, kk_wrong_read, kk_wrong_short, kk_wrong_left, kk_wrong_wrong]
  · intro ss ih ok
    refine ans (c := Shp.deps ss) h (env := [(some (Sl.fr ((Shp.group ss).d))), none]) rfl rfl fun n hn => ?_
    have hm : mapR (fun d => ((m.Phi n I.l_least [d]).bind Sl.toD).cold) (ss.map Shp.d) = .ok ((ss.map Shp.lo).map fun x : Nat => PyData.int (x : Int)) := by
      rw [List.map_map]
      exact mapR_map ss fun s hs => by
        rw [ih s hs (Shp.oks_iff.mp ok.2 s hs) n (by have := Shp.dep_mem hs; omega)]
        rfl
    have hl : ((ss.map Shp.d).length ≤ szl) = True := eq_true (by rw [List.length_map]; have := ok.1; show ss.length ≤ 16777216; omega)
    simp only [Shp.d, Shp.ds_map, Shp.lo, Shp.los_map]
    simp -implicitDefEqProofs only [Q.xs, Q.xs1, ev, evs, evI, evC, evJ, bind_ok, bind_exc, exR_ok, exR_exc, seq_nx, seq_rt, seq_xc, varR_0, varR_S, bb_add, bb_sub, bb_mul2, bb_and, cc_lt, cc_le, cc_gt, cc_ge, cc_eq, cc_ne, cc_eqb, cc_eqs, ll_len, ll_lent, ll_list, ll_listt, ll_max2, ll_min2, toD_fr, toD_ow, lstR_ok, neg_i, erR_0, erR_S, catch_nx, catch_rt, catch_xc, sfin_rt, sfin_nx, noEr_n, noEr_f, noEr_o, noEr_0, no_int, no_list, no_tuple, no_none, no_bool, no_str, isiD, List.set_cons_zero, List.set_cons_succ, decide_true, decide_false, Bool.not_true, Bool.not_false, if_true, if_false, Bool.false_eq_true, reduceIte, b_l_least, ixt0, ixt1, kk_num_num, kk_num_pad, kk_num_maybe, kk_num_rows, kk_num_group, kk_num_one, kk_pad_num, kk_pad_pad, kk_pad_maybe, kk_pad_rows, kk_pad_group, kk_pad_one, kk_maybe_num, kk_maybe_pad, kk_maybe_maybe, kk_maybe_rows, kk_maybe_group, kk_maybe_one, kk_rows_num, kk_rows_pad, kk_rows_maybe, kk_rows_rows, kk_rows_group, kk_rows_one, kk_group_num, kk_group_pad, kk_group_maybe, kk_group_rows, kk_group_group, kk_group_one, kk_one_num, kk_one_pad, kk_one_maybe, kk_one_rows, kk_one_group, kk_one_one, kk_read_read, kk_read_short, kk_read_left, kk_read_wrong, kk_short_read, kk_short_short, kk_short_left, kk_short_wrong, kk_left_read, kk_left_short, kk_left_left, kk_left_wrong, kk_wrong_read, kk_wrong_short, kk_wrong_left, kk_wrong_wrong, hl, hm, sum_ints]
  · intro w ss ih ok
    refine ans (c := Shp.deps ss) h (env := [(some (Sl.fr ((Shp.one w ss).d))), none]) rfl rfl fun n hn => ?_
    have hm : mapR (fun d => ((m.Phi n I.l_least [d]).bind Sl.toD).cold) (ss.map Shp.d) = .ok ((ss.map Shp.lo).map fun x : Nat => PyData.int (x : Int)) := by
      rw [List.map_map]
      exact mapR_map ss fun s hs => by
        rw [ih s hs (Shp.oks_iff.mp ok.2.2.2.2 s hs) n (by have := Shp.dep_mem hs; omega)]
        rfl
    have hl : ((ss.map Shp.d).length ≤ szl) = True := eq_true (by rw [List.length_map]; have := ok.2.2.1; show ss.length ≤ 16777216; omega)
    have ne : ss ≠ [] := fun e => by have := ok.2.1; rw [e] at this; simp at this
    simp only [Shp.d, Shp.ds_map, Shp.lo, Shp.los_map]
    simp -implicitDefEqProofs only [Q.xs, Q.xs1, ev, evs, evI, evC, evJ, bind_ok, bind_exc, exR_ok, exR_exc, seq_nx, seq_rt, seq_xc, varR_0, varR_S, bb_add, bb_sub, bb_mul2, bb_and, cc_lt, cc_le, cc_gt, cc_ge, cc_eq, cc_ne, cc_eqb, cc_eqs, ll_len, ll_lent, ll_list, ll_listt, ll_max2, ll_min2, toD_fr, toD_ow, lstR_ok, neg_i, erR_0, erR_S, catch_nx, catch_rt, catch_xc, sfin_rt, sfin_nx, noEr_n, noEr_f, noEr_o, noEr_0, no_int, no_list, no_tuple, no_none, no_bool, no_str, isiD, List.set_cons_zero, List.set_cons_succ, decide_true, decide_false, Bool.not_true, Bool.not_false, if_true, if_false, Bool.false_eq_true, reduceIte, b_l_least, ixt0, ixt1, ixt2, kk_num_num, kk_num_pad, kk_num_maybe, kk_num_rows, kk_num_group, kk_num_one, kk_pad_num, kk_pad_pad, kk_pad_maybe, kk_pad_rows, kk_pad_group, kk_pad_one, kk_maybe_num, kk_maybe_pad, kk_maybe_maybe, kk_maybe_rows, kk_maybe_group, kk_maybe_one, kk_rows_num, kk_rows_pad, kk_rows_maybe, kk_rows_rows, kk_rows_group, kk_rows_one, kk_group_num, kk_group_pad, kk_group_maybe, kk_group_rows, kk_group_group, kk_group_one, kk_one_num, kk_one_pad, kk_one_maybe, kk_one_rows, kk_one_group, kk_one_one, kk_read_read, kk_read_short, kk_read_left, kk_read_wrong, kk_short_read, kk_short_short, kk_short_left, kk_short_wrong, kk_left_read, kk_left_short, kk_left_left, kk_left_wrong, kk_wrong_read, kk_wrong_short, kk_wrong_left, kk_wrong_wrong, hl, hm, minl_ints (ss.map Shp.lo) (by simpa using ne), Int.natCast_add]
end
/-- shapes can be compared -/
theorem Shp.lay : ∀ s : Shp, s.d.canLay0 = true ∧ s.d.depth ≤ 2 * s.dep := by
  have k1 : PyData.strOk "num" = true := by decide +kernel
  have k2 : PyData.strOk "pad" = true := by decide +kernel
  have k3 : PyData.strOk "maybe" = true := by decide +kernel
  have k4 : PyData.strOk "rows" = true := by decide +kernel
  have k5 : PyData.strOk "group" = true := by decide +kernel
  have k6 : PyData.strOk "one" = true := by decide +kernel
  have L : ∀ ss : List Shp, (∀ s ∈ ss, s.d.canLay0 = true ∧ s.d.depth ≤ 2 * s.dep) → PyData.canLayAll0 (ss.map Shp.d) = true ∧ PyData.depthAll (ss.map Shp.d) ≤ 2 * Shp.deps ss := fun ss => by
    induction ss with
    | nil => exact fun _ => ⟨rfl, Nat.le_refl _⟩
    | cons s ss ih =>
      intro h
      obtain ⟨a, b⟩ := h s List.mem_cons_self
      obtain ⟨c, d⟩ := ih fun t ht => h t (List.mem_cons_of_mem _ ht)
      simp only [List.map_cons, PyData.canLayAll0, PyData.depthAll, Shp.deps, a, c, Bool.and_true]
      exact ⟨trivial, by omega⟩
  refine Shp.ind ?_ ?_ ?_ ?_ ?_ ?_
  · intro w lo hi
    simp [Shp.d, Shp.dep, PyData.canLay0, PyData.canLayAll0, PyData.depth, PyData.depthAll, k1]
  · intro w
    simp [Shp.d, Shp.dep, PyData.canLay0, PyData.canLayAll0, PyData.depth, PyData.depthAll, k2]
  · intro s ih
    obtain ⟨a, b⟩ := ih
    simp only [Shp.d, Shp.dep, PyData.canLay0, PyData.canLayAll0, PyData.depth, PyData.depthAll, k3, a, Bool.and_true]
    exact ⟨trivial, by omega⟩
  · intro w s ih
    obtain ⟨a, b⟩ := ih
    simp only [Shp.d, Shp.dep, PyData.canLay0, PyData.canLayAll0, PyData.depth, PyData.depthAll, k4, a, Bool.and_true]
    exact ⟨trivial, by omega⟩
  · intro ss ih
    obtain ⟨a, b⟩ := L ss ih
    simp only [Shp.d, Shp.ds_map, Shp.dep, PyData.canLay0, PyData.canLayAll0, PyData.depth, PyData.depthAll, k5, a, Bool.and_true]
    exact ⟨trivial, by omega⟩
  · intro w ss ih
    obtain ⟨a, b⟩ := L ss ih
    simp only [Shp.d, Shp.ds_map, Shp.dep, PyData.canLay0, PyData.canLayAll0, PyData.depth, PyData.depthAll, k6, a, Bool.and_true]
    exact ⟨trivial, by omega⟩
theorem shaped_of {d : PyData} (h1 : d.canLay0 = true) (h2 : d.depth ≤ 64) : SS d = true := by
  show (d.canLay0 && decide (d.depth ≤ 64)) = true
  rw [h1, decide_eq_true h2]
  rfl
theorem eqR_self {d : PyData} (h1 : d.canLay0 = true) (h2 : d.depth ≤ 64) : eqR SS d d = .ok true := by
  unfold eqR
  split
  · rename_i h
    cases d <;> first | (exact Bool.noConfusion h) | simp [eqS]
  · rw [if_pos ⟨shaped_of h1 h2, shaped_of h1 h2⟩, PySem.SeqAt.eqv_refl d h1]
theorem ne_self {d : PyData} (h1 : d.canLay0 = true) (h2 : d.depth ≤ 64) : cmpR SS .ne d d = .ok false := by
  show (eqR SS d d).bind _ = _
  rw [eqR_self h1 h2]
  rfl
end Q

set_option Elab.async false
set_option linter.all false
set_option maxRecDepth 100000
set_option autoImplicit false
set_option maxHeartbeats 4000000
namespace Q
open PySem (PyData Str)
/-! ### what is a shape, for any data -/
def wwB (d : PyData) (lo hi : Int) : Bool := match d with
  | .int x => decide (lo ≤ x ∧ x ≤ hi)
  | _ => false
def numB (w lo hi : PyData) : Bool := wwB w 0 64 && (wwB lo (-100000000000000000000) 100000000000000000000 && (match lo with
  | .int l => wwB hi l 100000000000000000000 && (match w, hi with
    | .int w, .int h => decide (h - l < 2 ^ w.toNat)
    | _, _ => false)
  | _ => false))
def ptsB (g : PyData → Bool) (d : PyData) (lo hi : Int) : Bool := match d with
  | .list xs => decide (lo ≤ xs.length ∧ (xs.length : Int) ≤ hi) && xs.all g
  | _ => false
def oneB (g : PyData → Bool) (w d : PyData) : Bool := wwB w 0 8 && (match w with
  | .int w => ptsB g d 1 (if (2 : Int) ^ w.toNat < 16 then 2 ^ w.toNat else 16)
  | _ => false)
/-- no more than n deep -/
def GS : Nat → PyData → Bool
  | 0, _ => false
  | n + 1, .tuple xs => (match xs with
    | [.str x, a] => if x = "pad" then wwB a 0 64 else if x = "maybe" then GS n a else if x = "group" then ptsB (GS n) a 0 20 else false
    | [.str x, a, b] => if x = "rows" then wwB a 0 8 && GS n b else if x = "one" then oneB (GS n) a b else false
    | [.str x, a, b, c] => if x = "num" then numB a b c else false
    | _ => false)
  | _ + 1, _ => false
/-- what may stand at a tuple's head -/
def hdB (d : PyData) : Bool := flatD d || SS d
mutual
/-- heads of tuples are plain -/
def tmB : PyData → Bool
  | .tuple xs => (match xs with
    | x :: _ => hdB x
    | [] => true) && tmsB xs
  | .list xs => tmsB xs
  | _ => true
def tmsB : List PyData → Bool
  | [] => true
  | x :: xs => tmB x && tmsB xs
end
theorem tms_iff : ∀ {xs : List PyData}, tmsB xs = true ↔ ∀ x ∈ xs, tmB x = true
  | [] => by simp [tmsB]
  | x :: xs => by simp [tmsB, tms_iff (xs := xs)]
theorem tm_list {xs : List PyData} (h : ∀ x ∈ xs, tmB x = true) : tmB (.list xs) = true := by
  unfold tmB
  exact tms_iff.mpr h
theorem tm_of_list {xs : List PyData} (h : tmB (.list xs) = true) : ∀ x ∈ xs, tmB x = true := by
  unfold tmB at h
  exact tms_iff.mp h
theorem tm_tup {s : Str} {xs : List PyData} (h : ∀ x ∈ xs, tmB x = true) : tmB (.tuple (.str s :: xs)) = true := by
  unfold tmB
  rw [Bool.and_eq_true]
  exact ⟨rfl, tms_iff.mpr fun x hx => by
    rcases List.mem_cons.mp hx with rfl | hx
    · simp [tmB]
    · exact h x hx⟩
theorem tm_of_tup {x : PyData} {xs : List PyData} (h : tmB (.tuple (x :: xs)) = true) : hdB x = true ∧ ∀ x ∈ xs, tmB x = true := by
  unfold tmB at h
  rw [Bool.and_eq_true] at h
  exact ⟨h.1, fun y hy => tms_iff.mp h.2 y (List.mem_cons_of_mem _ hy)⟩
section
variable {m : Md} {I : Ix}
theorem ww_iff {d : PyData} {lo hi : Int} : wwB d lo hi = true ↔ ∃ x, d = .int x ∧ lo ≤ x ∧ x ≤ hi := by
  unfold wwB
  split
  · rename_i x
    rw [decide_eq_true_eq]
    exact ⟨fun h => ⟨x, rfl, h⟩, fun ⟨y, e, h⟩ => by cases e; exact h⟩
  · rename_i h
    exact ⟨fun z => absurd z Bool.false_ne_true, fun ⟨y, e, _⟩ => absurd e (h y)⟩
theorem a_ww (h : At_p_whole_within m I) (r : PyData) (lo hi : Int) : Ans m I.p_whole_within [r, .int lo, .int hi] 1 (.ok (.fr (.bool (wwB r lo hi)))) := by
  obtain ⟨v, hv, iv⟩ := a_within h r lo hi
  rw [← ww_iff] at iv
  rw [← Bool.eq_iff_iff.mpr iv]
  exact hv
theorem a_goodnum (h : At_p_good_num m I) (hw : At_p_whole_within m I) (hr : At_p_room_of m I) (w lo hi : PyData) : Ans m I.p_good_num [w, lo, hi] 2 (.ok (.fr (.bool (numB w lo hi)))) := by
  refine ans h (env := [(some (Sl.fr (w))), (some (Sl.fr (lo))), (some (Sl.fr (hi)))]) rfl rfl fun n hn => ?_
  have w1 := a_ww hw w 0 64 n (by omega)
  have w2 := a_ww hw lo (-100000000000000000000) 100000000000000000000 n (by omega)
  cases e1 : wwB w 0 64 with
  | false =>
    rw [e1] at w1
    have : numB w lo hi = false := by unfold numB; rw [e1]; rfl
    rw [this]
    simp -implicitDefEqProofs only [Q.xs, Q.xs1, ev, evs, evI, evC, evJ, bind_ok, bind_exc, exR_ok, exR_exc, seq_nx, seq_rt, seq_xc, varR_0, varR_S, bb_add, bb_sub, bb_mul2, bb_and, cc_lt, cc_le, cc_gt, cc_ge, cc_eq, cc_ne, cc_eqb, cc_eqs, ll_len, ll_lent, ll_list, ll_listt, ll_max2, ll_min2, toD_fr, toD_ow, lstR_ok, neg_i, erR_0, erR_S, catch_nx, catch_rt, catch_xc, sfin_rt, sfin_nx, noEr_n, noEr_f, noEr_o, noEr_0, no_int, no_list, no_tuple, no_none, no_bool, no_str, isiD, List.set_cons_zero, List.set_cons_succ, decide_true, decide_false, Bool.not_true, Bool.not_false, if_true, if_false, Bool.false_eq_true, reduceIte, b_p_good_num, w1]
  | true =>
    obtain ⟨x, rfl, x1, x2⟩ := ww_iff.mp e1
    rw [e1] at w1
    cases e2 : wwB lo (-100000000000000000000) 100000000000000000000 with
    | false =>
      rw [e2] at w2
      have : numB (.int x) lo hi = false := by unfold numB; rw [e2, Bool.false_and, Bool.and_false]
      rw [this]
      simp -implicitDefEqProofs only [Q.xs, Q.xs1, ev, evs, evI, evC, evJ, bind_ok, bind_exc, exR_ok, exR_exc, seq_nx, seq_rt, seq_xc, varR_0, varR_S, bb_add, bb_sub, bb_mul2, bb_and, cc_lt, cc_le, cc_gt, cc_ge, cc_eq, cc_ne, cc_eqb, cc_eqs, ll_len, ll_lent, ll_list, ll_listt, ll_max2, ll_min2, toD_fr, toD_ow, lstR_ok, neg_i, erR_0, erR_S, catch_nx, catch_rt, catch_xc, sfin_rt, sfin_nx, noEr_n, noEr_f, noEr_o, noEr_0, no_int, no_list, no_tuple, no_none, no_bool, no_str, isiD, List.set_cons_zero, List.set_cons_succ, decide_true, decide_false, Bool.not_true, Bool.not_false, if_true, if_false, Bool.false_eq_true, reduceIte, b_p_good_num, w1, w2]
    | true =>
      obtain ⟨y, rfl, y1, y2⟩ := ww_iff.mp e2
      rw [e2] at w2
      have w3 := a_ww hw hi y 100000000000000000000 n (by omega)
      cases e3 : wwB hi y 100000000000000000000 with
      | false =>
        rw [e3] at w3
        have : numB (.int x) (.int y) hi = false := by
          unfold numB
          dsimp only
          rw [e3, Bool.false_and, Bool.and_false, Bool.and_false]
        rw [this]
        simp -implicitDefEqProofs only [Q.xs, Q.xs1, ev, evs, evI, evC, evJ, bind_ok, bind_exc, exR_ok, exR_exc, seq_nx, seq_rt, seq_xc, varR_0, varR_S, bb_add, bb_sub, bb_mul2, bb_and, cc_lt, cc_le, cc_gt, cc_ge, cc_eq, cc_ne, cc_eqb, cc_eqs, ll_len, ll_lent, ll_list, ll_listt, ll_max2, ll_min2, toD_fr, toD_ow, lstR_ok, neg_i, erR_0, erR_S, catch_nx, catch_rt, catch_xc, sfin_rt, sfin_nx, noEr_n, noEr_f, noEr_o, noEr_0, no_int, no_list, no_tuple, no_none, no_bool, no_str, isiD, List.set_cons_zero, List.set_cons_succ, decide_true, decide_false, Bool.not_true, Bool.not_false, if_true, if_false, Bool.false_eq_true, reduceIte, b_p_good_num, w1, w2, w3]
      | true =>
        obtain ⟨z, rfl, z1, z2⟩ := ww_iff.mp e3
        rw [e3] at w3
        obtain ⟨k, rfl⟩ : ∃ k : Nat, x = k := ⟨x.toNat, by omega⟩
        have r1 := a_roomof hr k (by omega) n (by omega)
        have : numB (.int k) (.int y) (.int z) = decide (z - y < 2 ^ k) := by
          unfold numB
          dsimp only
          rw [e1, e2, e3, Int.toNat_natCast, Bool.true_and, Bool.true_and, Bool.true_and]
        rw [this]
        simp -implicitDefEqProofs only [Q.xs, Q.xs1, ev, evs, evI, evC, evJ, bind_ok, bind_exc, exR_ok, exR_exc, seq_nx, seq_rt, seq_xc, varR_0, varR_S, bb_add, bb_sub, bb_mul2, bb_and, cc_lt, cc_le, cc_gt, cc_ge, cc_eq, cc_ne, cc_eqb, cc_eqs, ll_len, ll_lent, ll_list, ll_listt, ll_max2, ll_min2, toD_fr, toD_ow, lstR_ok, neg_i, erR_0, erR_S, catch_nx, catch_rt, catch_xc, sfin_rt, sfin_nx, noEr_n, noEr_f, noEr_o, noEr_0, no_int, no_list, no_tuple, no_none, no_bool, no_str, isiD, List.set_cons_zero, List.set_cons_succ, decide_true, decide_false, Bool.not_true, Bool.not_false, if_true, if_false, Bool.false_eq_true, reduceIte, b_p_good_num, w1, w2, w3, r1]
theorem allR_all {f : PyData → Rs PyData} {g : PyData → Bool} : ∀ {xs : List PyData}, (∀ x ∈ xs, f x = .ok (.bool (g x))) → allR f xs = .ok (.bool (xs.all g))
  | [], _ => rfl
  | x :: xs, h => by
    have e := h x List.mem_cons_self
    have ih := allR_all fun y hy => h y (List.mem_cons_of_mem _ hy)
    unfold allR
    rw [List.all_cons, e]
    cases g x with
    | true =>
      rw [Bool.true_and]
      exact ih
    | false => rfl
theorem a_goodparts (h : At_p_good_parts m I) {c n0 : Nat} (d : PyData) (lo hi : Int) (hg : ∀ xs, d = .list xs → ∀ x ∈ xs, Ans m I.p_good_within [x, .int (n0 : Int)] c (.ok (.fr (.bool (GS n0 x))))) : Ans m I.p_good_parts [d, .int lo, .int hi, .int (n0 : Int)] (c + 1) (.ok (.fr (.bool (ptsB (GS n0) d lo hi)))) := by
  refine ans h (env := [(some (Sl.fr (d))), (some (Sl.fr (.int lo))), (some (Sl.fr (.int hi))), (some (Sl.fr (.int (n0 : Int)))), none]) rfl rfl fun n hn => ?_
  cases d with
  | list xs =>
    have ha : allR (fun d => (m.Phi n I.p_good_within [d, .int (n0 : Int)]).bind Sl.toD) xs = .ok (.bool (xs.all (GS n0))) := allR_all fun x hx => by rw [hg xs rfl x hx n hn]; rfl
    by_cases h1 : lo ≤ xs.length
    · by_cases h2 : (xs.length : Int) ≤ hi
      · have : ptsB (GS n0) (.list xs) lo hi = xs.all (GS n0) := by
          unfold ptsB
          dsimp only
          rw [decide_eq_true (show lo ≤ xs.length ∧ (xs.length : Int) ≤ hi from ⟨h1, h2⟩), Bool.true_and]
        rw [this]
        simp -implicitDefEqProofs only [Q.xs, Q.xs1, ev, evs, evI, evC, evJ, bind_ok, bind_exc, exR_ok, exR_exc, seq_nx, seq_rt, seq_xc, varR_0, varR_S, bb_add, bb_sub, bb_mul2, bb_and, cc_lt, cc_le, cc_gt, cc_ge, cc_eq, cc_ne, cc_eqb, cc_eqs, ll_len, ll_lent, ll_list, ll_listt, ll_max2, ll_min2, toD_fr, toD_ow, lstR_ok, neg_i, erR_0, erR_S, catch_nx, catch_rt, catch_xc, sfin_rt, sfin_nx, noEr_n, noEr_f, noEr_o, noEr_0, no_int, no_list, no_tuple, no_none, no_bool, no_str, isiD, List.set_cons_zero, List.set_cons_succ, decide_true, decide_false, Bool.not_true, Bool.not_false, if_true, if_false, Bool.false_eq_true, reduceIte, b_p_good_parts, decide_eq_true h1, decide_eq_true h2, ha]
      · have : ptsB (GS n0) (.list xs) lo hi = false := by
          unfold ptsB
          dsimp only
          rw [decide_eq_false (show ¬ (lo ≤ xs.length ∧ (xs.length : Int) ≤ hi) from fun z => h2 z.2), Bool.false_and]
        rw [this]
        simp -implicitDefEqProofs only [Q.xs, Q.xs1, ev, evs, evI, evC, evJ, bind_ok, bind_exc, exR_ok, exR_exc, seq_nx, seq_rt, seq_xc, varR_0, varR_S, bb_add, bb_sub, bb_mul2, bb_and, cc_lt, cc_le, cc_gt, cc_ge, cc_eq, cc_ne, cc_eqb, cc_eqs, ll_len, ll_lent, ll_list, ll_listt, ll_max2, ll_min2, toD_fr, toD_ow, lstR_ok, neg_i, erR_0, erR_S, catch_nx, catch_rt, catch_xc, sfin_rt, sfin_nx, noEr_n, noEr_f, noEr_o, noEr_0, no_int, no_list, no_tuple, no_none, no_bool, no_str, isiD, List.set_cons_zero, List.set_cons_succ, decide_true, decide_false, Bool.not_true, Bool.not_false, if_true, if_false, Bool.false_eq_true, reduceIte, b_p_good_parts, decide_eq_true h1, decide_eq_false h2]
    · have : ptsB (GS n0) (.list xs) lo hi = false := by
        unfold ptsB
        dsimp only
        rw [decide_eq_false (show ¬ (lo ≤ xs.length ∧ (xs.length : Int) ≤ hi) from fun z => h1 z.1), Bool.false_and]
      rw [this]
      simp -implicitDefEqProofs only [Q.xs, Q.xs1, ev, evs, evI, evC, evJ, bind_ok, bind_exc, exR_ok, exR_exc, seq_nx, seq_rt, seq_xc, varR_0, varR_S, bb_add, bb_sub, bb_mul2, bb_and, cc_lt, cc_le, cc_gt, cc_ge, cc_eq, cc_ne, cc_eqb, cc_eqs, ll_len, ll_lent, ll_list, ll_listt, ll_max2, ll_min2, toD_fr, toD_ow, lstR_ok, neg_i, erR_0, erR_S, catch_nx, catch_rt, catch_xc, sfin_rt, sfin_nx, noEr_n, noEr_f, noEr_o, noEr_0, no_int, no_list, no_tuple, no_none, no_bool, no_str, isiD, List.set_cons_zero, List.set_cons_succ, decide_true, decide_false, Bool.not_true, Bool.not_false, if_true, if_false, Bool.false_eq_true, reduceIte, b_p_good_parts, decide_eq_false h1]
  | _ =>
    show _ = Fl.rt (.fr (.bool false))
    simp -implicitDefEqProofs only [Q.xs, Q.xs1, ev, evs, evI, evC, evJ, bind_ok, bind_exc, exR_ok, exR_exc, seq_nx, seq_rt, seq_xc, varR_0, varR_S, bb_add, bb_sub, bb_mul2, bb_and, cc_lt, cc_le, cc_gt, cc_ge, cc_eq, cc_ne, cc_eqb, cc_eqs, ll_len, ll_lent, ll_list, ll_listt, ll_max2, ll_min2, toD_fr, toD_ow, lstR_ok, neg_i, erR_0, erR_S, catch_nx, catch_rt, catch_xc, sfin_rt, sfin_nx, noEr_n, noEr_f, noEr_o, noEr_0, no_int, no_list, no_tuple, no_none, no_bool, no_str, isiD, List.set_cons_zero, List.set_cons_succ, decide_true, decide_false, Bool.not_true, Bool.not_false, if_true, if_false, Bool.false_eq_true, reduceIte, b_p_good_parts]
theorem a_goodone (h : At_p_good_one m I) (hp : At_p_good_parts m I) (hw : At_p_whole_within m I) (hr : At_p_room_of m I) {c n0 : Nat} (hc : 1 ≤ c) (w d : PyData) (hg : ∀ xs, d = .list xs → ∀ x ∈ xs, Ans m I.p_good_within [x, .int (n0 : Int)] c (.ok (.fr (.bool (GS n0 x))))) :
    Ans m I.p_good_one [w, d, .int (n0 : Int)] (c + 2) (.ok (.fr (.bool (oneB (GS n0) w d)))) := by
  refine ans h (env := [(some (Sl.fr (w))), (some (Sl.fr (d))), (some (Sl.fr (.int (n0 : Int))))]) rfl rfl fun n hn => ?_
  have w1 := a_ww hw w 0 8 n (by omega)
  cases e1 : wwB w 0 8 with
  | false =>
    rw [e1] at w1
    have : oneB (GS n0) w d = false := by unfold oneB; rw [e1, Bool.false_and]
    rw [this]
    simp -implicitDefEqProofs only [Q.xs, Q.xs1, ev, evs, evI, evC, evJ, bind_ok, bind_exc, exR_ok, exR_exc, seq_nx, seq_rt, seq_xc, varR_0, varR_S, bb_add, bb_sub, bb_mul2, bb_and, cc_lt, cc_le, cc_gt, cc_ge, cc_eq, cc_ne, cc_eqb, cc_eqs, ll_len, ll_lent, ll_list, ll_listt, ll_max2, ll_min2, toD_fr, toD_ow, lstR_ok, neg_i, erR_0, erR_S, catch_nx, catch_rt, catch_xc, sfin_rt, sfin_nx, noEr_n, noEr_f, noEr_o, noEr_0, no_int, no_list, no_tuple, no_none, no_bool, no_str, isiD, List.set_cons_zero, List.set_cons_succ, decide_true, decide_false, Bool.not_true, Bool.not_false, if_true, if_false, Bool.false_eq_true, reduceIte, b_p_good_one, w1]
  | true =>
    obtain ⟨x, rfl, x1, x2⟩ := ww_iff.mp e1
    rw [e1] at w1
    obtain ⟨k, rfl⟩ : ∃ k : Nat, x = k := ⟨x.toNat, by omega⟩
    have r1 := a_roomof hr k (by omega) n (by omega)
    have p1 := a_goodparts hp d 1 (if (2 : Int) ^ k < 16 then 2 ^ k else 16) hg n (by omega)
    have : oneB (GS n0) (.int k) d = ptsB (GS n0) d 1 (if (2 : Int) ^ k < 16 then 2 ^ k else 16) := by
      unfold oneB
      dsimp only
      rw [e1, Bool.true_and, Int.toNat_natCast]
    rw [this]
    simp -implicitDefEqProofs only [Q.xs, Q.xs1, ev, evs, evI, evC, evJ, bind_ok, bind_exc, exR_ok, exR_exc, seq_nx, seq_rt, seq_xc, varR_0, varR_S, bb_add, bb_sub, bb_mul2, bb_and, cc_lt, cc_le, cc_gt, cc_ge, cc_eq, cc_ne, cc_eqb, cc_eqs, ll_len, ll_lent, ll_list, ll_listt, ll_max2, ll_min2, toD_fr, toD_ow, lstR_ok, neg_i, erR_0, erR_S, catch_nx, catch_rt, catch_xc, sfin_rt, sfin_nx, noEr_n, noEr_f, noEr_o, noEr_0, no_int, no_list, no_tuple, no_none, no_bool, no_str, isiD, List.set_cons_zero, List.set_cons_succ, decide_true, decide_false, Bool.not_true, Bool.not_false, if_true, if_false, Bool.false_eq_true, reduceIte, b_p_good_one, w1, r1, p1]
theorem pt_ne {S : PyData → Bool} {ps : List P1} {xs : List PyData} (h : xs.length ≠ ps.length) : ptR S (.seq ps) (.tuple xs) = .ok none := if_neg h
def strB (d : PyData) (s : Str) : Bool := match d with
  | .str x => decide (x = s)
  | _ => false
theorem GS_2 {n : Nat} {x : Str} {a : PyData} : GS (n + 1) (.tuple [.str x, a]) = if x = "pad" then wwB a 0 64 else if x = "maybe" then GS n a else if x = "group" then ptsB (GS n) a 0 20 else false := rfl
theorem GS_3 {n : Nat} {x : Str} {a b : PyData} : GS (n + 1) (.tuple [.str x, a, b]) = if x = "rows" then wwB a 0 8 && GS n b else if x = "one" then oneB (GS n) a b else false := rfl
theorem GS_4 {n : Nat} {x : Str} {a b c : PyData} : GS (n + 1) (.tuple [.str x, a, b, c]) = if x = "num" then numB a b c else false := rfl
theorem flat_str {d : PyData} (h : hdB d = true) (s : Str) (hs : SS (.str s) = true) : eqR SS d (.str s) = .ok (strB d s) := by
  unfold hdB at h
  cases d with
  | list xs =>
    have h : SS (.list xs) = true := h
    show (if SS (.list xs) = true ∧ SS (.str s) = true then Rs.ok (PyData.eqv (.list xs) (.str s)) else .bad) = _
    rw [if_pos ⟨h, hs⟩]
    simp [PyData.eqv, strB]
  | tuple xs =>
    have h : SS (.tuple xs) = true := h
    show (if SS (.tuple xs) = true ∧ SS (.str s) = true then Rs.ok (PyData.eqv (.tuple xs) (.str s)) else .bad) = _
    rw [if_pos ⟨h, hs⟩]
    simp [PyData.eqv, strB]
  | none => exact if_pos rfl
  | bool _ => exact if_pos rfl
  | int _ => exact if_pos rfl
  | str _ => exact if_pos rfl
  | _ =>
    have hq : SS _ = true := h
    unfold eqR
    rw [if_neg (by exact Bool.false_ne_true), if_pos ⟨hq, hs⟩]
    simp [PyData.eqv, strB]
theorem a_good (h : At_p_good_within m I) (hn : At_p_good_num m I) (ho : At_p_good_one m I) (hp : At_p_good_parts m I) (hw : At_p_whole_within m I) (hr : At_p_room_of m I) : ∀ (n0 : Nat) (d : PyData), tmB d = true → Ans m I.p_good_within [d, .int (n0 : Int)] (3 * n0 + 3) (.ok (.fr (.bool (GS n0 d))))
  | 0, d, _ => by
    refine ans h (env := [(some (Sl.fr (d))), (some (Sl.fr (.int ((0 : Nat) : Int)))), none, none, none, none, none]) rfl rfl fun n hn => ?_
    have e : decide (((0 : Nat) : Int) < 1) = true := by decide
    have : GS 0 d = false := by unfold GS; rfl
    rw [this]
    simp -implicitDefEqProofs only [Q.xs, Q.xs1, ev, evs, evI, evC, evJ, bind_ok, bind_exc, exR_ok, exR_exc, seq_nx, seq_rt, seq_xc, varR_0, varR_S, bb_add, bb_sub, bb_mul2, bb_and, cc_lt, cc_le, cc_gt, cc_ge, cc_eq, cc_ne, cc_eqb, cc_eqs, ll_len, ll_lent, ll_list, ll_listt, ll_max2, ll_min2, toD_fr, toD_ow, lstR_ok, neg_i, erR_0, erR_S, catch_nx, catch_rt, catch_xc, sfin_rt, sfin_nx, noEr_n, noEr_f, noEr_o, noEr_0, no_int, no_list, no_tuple, no_none, no_bool, no_str, isiD, List.set_cons_zero, List.set_cons_succ, decide_true, decide_false, Bool.not_true, Bool.not_false, if_true, if_false, Bool.false_eq_true, reduceIte, b_p_good_within, e]
  | n0 + 1, d, ht => by
    refine ans h (env := [(some (Sl.fr (d))), (some (Sl.fr (.int ((n0 + 1 : Nat) : Int)))), none, none, none, none, none]) rfl rfl fun n hn1 => ?_
    have e : decide (((n0 + 1 : Nat) : Int) < 1) = false := decide_eq_false (by omega)
    have e2 : ((n0 + 1 : Nat) : Int) - 1 = (n0 : Int) := by omega
    have ih := a_good h hn ho hp hw hr n0
    cases d with
    | tuple xs =>
      have no : (∀ k : Nat, k = 2 ∨ k = 3 ∨ k = 4 → xs.length ≠ k) → Q.xs SS m.sub (m.Phi n) m.L (b_p_good_within I) [(some (Sl.fr (.tuple xs))), (some (Sl.fr (.int ((n0 + 1 : Nat) : Int)))), none, none, none, none, none] = .rt (.fr (.bool false)) := fun hl => by
        have q2 : ∀ a b, ptR SS (.seq [a, b]) (.tuple xs) = .ok none := fun a b => pt_ne (hl 2 (by simp))
        have q3 : ∀ a b c, ptR SS (.seq [a, b, c]) (.tuple xs) = .ok none := fun a b c => pt_ne (hl 3 (by simp))
        have q4 : ∀ a b c d, ptR SS (.seq [a, b, c, d]) (.tuple xs) = .ok none := fun a b c d => pt_ne (hl 4 (by simp))
        simp -implicitDefEqProofs only [Q.xs, Q.xs1, ev, evs, evI, evC, evJ, bind_ok, bind_exc, exR_ok, exR_exc, seq_nx, seq_rt, seq_xc, varR_0, varR_S, bb_add, bb_sub, bb_mul2, bb_and, cc_lt, cc_le, cc_gt, cc_ge, cc_eq, cc_ne, cc_eqb, cc_eqs, ll_len, ll_lent, ll_list, ll_listt, ll_max2, ll_min2, toD_fr, toD_ow, lstR_ok, neg_i, erR_0, erR_S, catch_nx, catch_rt, catch_xc, sfin_rt, sfin_nx, noEr_n, noEr_f, noEr_o, noEr_0, no_int, no_list, no_tuple, no_none, no_bool, no_str, isiD, List.set_cons_zero, List.set_cons_succ, decide_true, decide_false, Bool.not_true, Bool.not_false, if_true, if_false, Bool.false_eq_true, reduceIte, b_p_good_within, e, xsM, pt22, pt23, pt24, pt32, pt33, pt34, pt42, pt43, pt44, psR, p1R, eqR_ss, bindE, List.nil_append, List.cons_append, kk_num_num, kk_num_pad, kk_num_maybe, kk_num_rows, kk_num_group, kk_num_one, kk_pad_num, kk_pad_pad, kk_pad_maybe, kk_pad_rows, kk_pad_group, kk_pad_one, kk_maybe_num, kk_maybe_pad, kk_maybe_maybe, kk_maybe_rows, kk_maybe_group, kk_maybe_one, kk_rows_num, kk_rows_pad, kk_rows_maybe, kk_rows_rows, kk_rows_group, kk_rows_one, kk_group_num, kk_group_pad, kk_group_maybe, kk_group_rows, kk_group_group, kk_group_one, kk_one_num, kk_one_pad, kk_one_maybe, kk_one_rows, kk_one_group, kk_one_one, kk_read_read, kk_read_short, kk_read_left, kk_read_wrong, kk_short_read, kk_short_short, kk_short_left, kk_short_wrong, kk_left_read, kk_left_short, kk_left_left, kk_left_wrong, kk_wrong_read, kk_wrong_short, kk_wrong_left, kk_wrong_wrong, q2, q3, q4]
      match xs, ht, no with
      | [], _, no => exact no (by rintro k (rfl | rfl | rfl) <;> simp)
      | [x], _, no =>
        have : GS (n0 + 1) (.tuple [x]) = false := by unfold GS; cases x <;> rfl
        rw [this]
        exact no (by rintro k (rfl | rfl | rfl) <;> simp)
      | x :: a :: b :: c :: d :: r, _, no =>
        have : GS (n0 + 1) (.tuple (x :: a :: b :: c :: d :: r)) = false := by unfold GS; cases x <;> rfl
        rw [this]
        refine no ?_
        rintro k (rfl | rfl | rfl) <;> simp
      | [x, a], ht, _ =>
        obtain ⟨hx, htl⟩ := tm_of_tup ht
        have f1 := flat_str hx "num" (by decide +kernel)
        have f2 := flat_str hx "pad" (by decide +kernel)
        have f3 := flat_str hx "maybe" (by decide +kernel)
        have f4 := flat_str hx "rows" (by decide +kernel)
        have f5 := flat_str hx "group" (by decide +kernel)
        have f6 := flat_str hx "one" (by decide +kernel)
        have ha := htl a (by simp)
        cases x with
        | str x =>
          have w1 := a_ww hw a 0 64 n (by omega)
          have g1 := ih a ha n (by omega)
          have p1 := a_goodparts hp a 0 20 (c := 3 * n0 + 3) (n0 := n0) (fun xs ex y hy => ih y (tm_of_list (by rw [← ex]; exact ha) y hy)) n (by omega)
          by_cases k1 : x = "pad"
          · subst k1
            have : GS (n0 + 1) (.tuple [.str "pad", a]) = wwB a 0 64 := by rw [GS_2, if_pos rfl]
            rw [this]
            simp -implicitDefEqProofs only [Q.xs, Q.xs1, ev, evs, evI, evC, evJ, bind_ok, bind_exc, exR_ok, exR_exc, seq_nx, seq_rt, seq_xc, varR_0, varR_S, bb_add, bb_sub, bb_mul2, bb_and, cc_lt, cc_le, cc_gt, cc_ge, cc_eq, cc_ne, cc_eqb, cc_eqs, ll_len, ll_lent, ll_list, ll_listt, ll_max2, ll_min2, toD_fr, toD_ow, lstR_ok, neg_i, erR_0, erR_S, catch_nx, catch_rt, catch_xc, sfin_rt, sfin_nx, noEr_n, noEr_f, noEr_o, noEr_0, no_int, no_list, no_tuple, no_none, no_bool, no_str, isiD, List.set_cons_zero, List.set_cons_succ, decide_true, decide_false, Bool.not_true, Bool.not_false, if_true, if_false, Bool.false_eq_true, reduceIte, b_p_good_within, e, e2, xsM, pt22, pt23, pt24, pt32, pt33, pt34, pt42, pt43, pt44, psR, p1R, eqR_ss, bindE, List.nil_append, List.cons_append, kk_num_num, kk_num_pad, kk_num_maybe, kk_num_rows, kk_num_group, kk_num_one, kk_pad_num, kk_pad_pad, kk_pad_maybe, kk_pad_rows, kk_pad_group, kk_pad_one, kk_maybe_num, kk_maybe_pad, kk_maybe_maybe, kk_maybe_rows, kk_maybe_group, kk_maybe_one, kk_rows_num, kk_rows_pad, kk_rows_maybe, kk_rows_rows, kk_rows_group, kk_rows_one, kk_group_num, kk_group_pad, kk_group_maybe, kk_group_rows, kk_group_group, kk_group_one, kk_one_num, kk_one_pad, kk_one_maybe, kk_one_rows, kk_one_group, kk_one_one, kk_read_read, kk_read_short, kk_read_left, kk_read_wrong, kk_short_read, kk_short_short, kk_short_left, kk_short_wrong, kk_left_read, kk_left_short, kk_left_left, kk_left_wrong, kk_wrong_read, kk_wrong_short, kk_wrong_left, kk_wrong_wrong, w1]
          by_cases k2 : x = "maybe"
          · subst k2
            have : GS (n0 + 1) (.tuple [.str "maybe", a]) = GS n0 a := by rw [GS_2, if_neg k1, if_pos rfl]
            rw [this]
            simp -implicitDefEqProofs only [Q.xs, Q.xs1, ev, evs, evI, evC, evJ, bind_ok, bind_exc, exR_ok, exR_exc, seq_nx, seq_rt, seq_xc, varR_0, varR_S, bb_add, bb_sub, bb_mul2, bb_and, cc_lt, cc_le, cc_gt, cc_ge, cc_eq, cc_ne, cc_eqb, cc_eqs, ll_len, ll_lent, ll_list, ll_listt, ll_max2, ll_min2, toD_fr, toD_ow, lstR_ok, neg_i, erR_0, erR_S, catch_nx, catch_rt, catch_xc, sfin_rt, sfin_nx, noEr_n, noEr_f, noEr_o, noEr_0, no_int, no_list, no_tuple, no_none, no_bool, no_str, isiD, List.set_cons_zero, List.set_cons_succ, decide_true, decide_false, Bool.not_true, Bool.not_false, if_true, if_false, Bool.false_eq_true, reduceIte, b_p_good_within, e, e2, xsM, pt22, pt23, pt24, pt32, pt33, pt34, pt42, pt43, pt44, psR, p1R, eqR_ss, bindE, List.nil_append, List.cons_append, kk_num_num, kk_num_pad, kk_num_maybe, kk_num_rows, kk_num_group, kk_num_one, kk_pad_num, kk_pad_pad, kk_pad_maybe, kk_pad_rows, kk_pad_group, kk_pad_one, kk_maybe_num, kk_maybe_pad, kk_maybe_maybe, kk_maybe_rows, kk_maybe_group, kk_maybe_one, kk_rows_num, kk_rows_pad, kk_rows_maybe, kk_rows_rows, kk_rows_group, kk_rows_one, kk_group_num, kk_group_pad, kk_group_maybe, kk_group_rows, kk_group_group, kk_group_one, kk_one_num, kk_one_pad, kk_one_maybe, kk_one_rows, kk_one_group, kk_one_one, kk_read_read, kk_read_short, kk_read_left, kk_read_wrong, kk_short_read, kk_short_short, kk_short_left, kk_short_wrong, kk_left_read, kk_left_short, kk_left_left, kk_left_wrong, kk_wrong_read, kk_wrong_short, kk_wrong_left, kk_wrong_wrong, g1]
          by_cases k3 : x = "group"
          · subst k3
            have : GS (n0 + 1) (.tuple [.str "group", a]) = ptsB (GS n0) a 0 20 := by rw [GS_2, if_neg k1, if_neg k2, if_pos rfl]
            rw [this]
            simp -implicitDefEqProofs only [Q.xs, Q.xs1, ev, evs, evI, evC, evJ, bind_ok, bind_exc, exR_ok, exR_exc, seq_nx, seq_rt, seq_xc, varR_0, varR_S, bb_add, bb_sub, bb_mul2, bb_and, cc_lt, cc_le, cc_gt, cc_ge, cc_eq, cc_ne, cc_eqb, cc_eqs, ll_len, ll_lent, ll_list, ll_listt, ll_max2, ll_min2, toD_fr, toD_ow, lstR_ok, neg_i, erR_0, erR_S, catch_nx, catch_rt, catch_xc, sfin_rt, sfin_nx, noEr_n, noEr_f, noEr_o, noEr_0, no_int, no_list, no_tuple, no_none, no_bool, no_str, isiD, List.set_cons_zero, List.set_cons_succ, decide_true, decide_false, Bool.not_true, Bool.not_false, if_true, if_false, Bool.false_eq_true, reduceIte, b_p_good_within, e, e2, xsM, pt22, pt23, pt24, pt32, pt33, pt34, pt42, pt43, pt44, psR, p1R, eqR_ss, bindE, List.nil_append, List.cons_append, kk_num_num, kk_num_pad, kk_num_maybe, kk_num_rows, kk_num_group, kk_num_one, kk_pad_num, kk_pad_pad, kk_pad_maybe, kk_pad_rows, kk_pad_group, kk_pad_one, kk_maybe_num, kk_maybe_pad, kk_maybe_maybe, kk_maybe_rows, kk_maybe_group, kk_maybe_one, kk_rows_num, kk_rows_pad, kk_rows_maybe, kk_rows_rows, kk_rows_group, kk_rows_one, kk_group_num, kk_group_pad, kk_group_maybe, kk_group_rows, kk_group_group, kk_group_one, kk_one_num, kk_one_pad, kk_one_maybe, kk_one_rows, kk_one_group, kk_one_one, kk_read_read, kk_read_short, kk_read_left, kk_read_wrong, kk_short_read, kk_short_short, kk_short_left, kk_short_wrong, kk_left_read, kk_left_short, kk_left_left, kk_left_wrong, kk_wrong_read, kk_wrong_short, kk_wrong_left, kk_wrong_wrong, p1]
          have : GS (n0 + 1) (.tuple [.str x, a]) = false := by
            rw [GS_2, if_neg k1, if_neg k2, if_neg k3]
          rw [this]
          simp -implicitDefEqProofs only [Q.xs, Q.xs1, ev, evs, evI, evC, evJ, bind_ok, bind_exc, exR_ok, exR_exc, seq_nx, seq_rt, seq_xc, varR_0, varR_S, bb_add, bb_sub, bb_mul2, bb_and, cc_lt, cc_le, cc_gt, cc_ge, cc_eq, cc_ne, cc_eqb, cc_eqs, ll_len, ll_lent, ll_list, ll_listt, ll_max2, ll_min2, toD_fr, toD_ow, lstR_ok, neg_i, erR_0, erR_S, catch_nx, catch_rt, catch_xc, sfin_rt, sfin_nx, noEr_n, noEr_f, noEr_o, noEr_0, no_int, no_list, no_tuple, no_none, no_bool, no_str, isiD, List.set_cons_zero, List.set_cons_succ, decide_true, decide_false, Bool.not_true, Bool.not_false, if_true, if_false, Bool.false_eq_true, reduceIte, b_p_good_within, e, e2, xsM, pt22, pt23, pt24, pt32, pt33, pt34, pt42, pt43, pt44, psR, p1R, eqR_ss, bindE, List.nil_append, List.cons_append, kk_num_num, kk_num_pad, kk_num_maybe, kk_num_rows, kk_num_group, kk_num_one, kk_pad_num, kk_pad_pad, kk_pad_maybe, kk_pad_rows, kk_pad_group, kk_pad_one, kk_maybe_num, kk_maybe_pad, kk_maybe_maybe, kk_maybe_rows, kk_maybe_group, kk_maybe_one, kk_rows_num, kk_rows_pad, kk_rows_maybe, kk_rows_rows, kk_rows_group, kk_rows_one, kk_group_num, kk_group_pad, kk_group_maybe, kk_group_rows, kk_group_group, kk_group_one, kk_one_num, kk_one_pad, kk_one_maybe, kk_one_rows, kk_one_group, kk_one_one, kk_read_read, kk_read_short, kk_read_left, kk_read_wrong, kk_short_read, kk_short_short, kk_short_left, kk_short_wrong, kk_left_read, kk_left_short, kk_left_left, kk_left_wrong, kk_wrong_read, kk_wrong_short, kk_wrong_left, kk_wrong_wrong, decide_eq_false k1, decide_eq_false k2, decide_eq_false k3]
        | _ =>
          simp -implicitDefEqProofs only [Q.xs, Q.xs1, ev, evs, evI, evC, evJ, bind_ok, bind_exc, exR_ok, exR_exc, seq_nx, seq_rt, seq_xc, varR_0, varR_S, bb_add, bb_sub, bb_mul2, bb_and, cc_lt, cc_le, cc_gt, cc_ge, cc_eq, cc_ne, cc_eqb, cc_eqs, ll_len, ll_lent, ll_list, ll_listt, ll_max2, ll_min2, toD_fr, toD_ow, lstR_ok, neg_i, erR_0, erR_S, catch_nx, catch_rt, catch_xc, sfin_rt, sfin_nx, noEr_n, noEr_f, noEr_o, noEr_0, no_int, no_list, no_tuple, no_none, no_bool, no_str, isiD, List.set_cons_zero, List.set_cons_succ, decide_true, decide_false, Bool.not_true, Bool.not_false, if_true, if_false, Bool.false_eq_true, reduceIte, b_p_good_within, e, e2, xsM, pt22, pt23, pt24, pt32, pt33, pt34, pt42, pt43, pt44, psR, p1R, eqR_ss, bindE, List.nil_append, List.cons_append, kk_num_num, kk_num_pad, kk_num_maybe, kk_num_rows, kk_num_group, kk_num_one, kk_pad_num, kk_pad_pad, kk_pad_maybe, kk_pad_rows, kk_pad_group, kk_pad_one, kk_maybe_num, kk_maybe_pad, kk_maybe_maybe, kk_maybe_rows, kk_maybe_group, kk_maybe_one, kk_rows_num, kk_rows_pad, kk_rows_maybe, kk_rows_rows, kk_rows_group, kk_rows_one, kk_group_num, kk_group_pad, kk_group_maybe, kk_group_rows, kk_group_group, kk_group_one, kk_one_num, kk_one_pad, kk_one_maybe, kk_one_rows, kk_one_group, kk_one_one, kk_read_read, kk_read_short, kk_read_left, kk_read_wrong, kk_short_read, kk_short_short, kk_short_left, kk_short_wrong, kk_left_read, kk_left_short, kk_left_left, kk_left_wrong, kk_wrong_read, kk_wrong_short, kk_wrong_left, kk_wrong_wrong, f1, f2, f3, f4, f5, f6, strB]
          rfl
      | [x, a, b], ht, _ =>
        obtain ⟨hx, htl⟩ := tm_of_tup ht
        have f1 := flat_str hx "num" (by decide +kernel)
        have f2 := flat_str hx "pad" (by decide +kernel)
        have f3 := flat_str hx "maybe" (by decide +kernel)
        have f4 := flat_str hx "rows" (by decide +kernel)
        have f5 := flat_str hx "group" (by decide +kernel)
        have f6 := flat_str hx "one" (by decide +kernel)
        have ha := htl a (by simp)
        have hb := htl b (by simp)
        cases x with
        | str x =>
          have w1 := a_ww hw a 0 8 n (by omega)
          have g1 := ih b hb n (by omega)
          have p1 := a_goodone ho hp hw hr (c := 3 * n0 + 3) (n0 := n0) (by omega) a b (fun xs ex y hy => ih y (tm_of_list (by rw [← ex]; exact hb) y hy)) n (by omega)
          by_cases k1 : x = "rows"
          · subst k1
            have : GS (n0 + 1) (.tuple [.str "rows", a, b]) = (wwB a 0 8 && GS n0 b) := by rw [GS_3, if_pos rfl]
            rw [this]
            cases e1 : wwB a 0 8 with
            | true =>
              rw [e1] at w1
              simp -implicitDefEqProofs only [Q.xs, Q.xs1, ev, evs, evI, evC, evJ, bind_ok, bind_exc, exR_ok, exR_exc, seq_nx, seq_rt, seq_xc, varR_0, varR_S, bb_add, bb_sub, bb_mul2, bb_and, cc_lt, cc_le, cc_gt, cc_ge, cc_eq, cc_ne, cc_eqb, cc_eqs, ll_len, ll_lent, ll_list, ll_listt, ll_max2, ll_min2, toD_fr, toD_ow, lstR_ok, neg_i, erR_0, erR_S, catch_nx, catch_rt, catch_xc, sfin_rt, sfin_nx, noEr_n, noEr_f, noEr_o, noEr_0, no_int, no_list, no_tuple, no_none, no_bool, no_str, isiD, List.set_cons_zero, List.set_cons_succ, decide_true, decide_false, Bool.not_true, Bool.not_false, if_true, if_false, Bool.false_eq_true, reduceIte, b_p_good_within, e, e2, xsM, pt22, pt23, pt24, pt32, pt33, pt34, pt42, pt43, pt44, psR, p1R, eqR_ss, bindE, List.nil_append, List.cons_append, kk_num_num, kk_num_pad, kk_num_maybe, kk_num_rows, kk_num_group, kk_num_one, kk_pad_num, kk_pad_pad, kk_pad_maybe, kk_pad_rows, kk_pad_group, kk_pad_one, kk_maybe_num, kk_maybe_pad, kk_maybe_maybe, kk_maybe_rows, kk_maybe_group, kk_maybe_one, kk_rows_num, kk_rows_pad, kk_rows_maybe, kk_rows_rows, kk_rows_group, kk_rows_one, kk_group_num, kk_group_pad, kk_group_maybe, kk_group_rows, kk_group_group, kk_group_one, kk_one_num, kk_one_pad, kk_one_maybe, kk_one_rows, kk_one_group, kk_one_one, kk_read_read, kk_read_short, kk_read_left, kk_read_wrong, kk_short_read, kk_short_short, kk_short_left, kk_short_wrong, kk_left_read, kk_left_short, kk_left_left, kk_left_wrong, kk_wrong_read, kk_wrong_short, kk_wrong_left, kk_wrong_wrong, w1, g1, Bool.true_and]
            | false =>
              rw [e1] at w1
              simp -implicitDefEqProofs only [Q.xs, Q.xs1, ev, evs, evI, evC, evJ, bind_ok, bind_exc, exR_ok, exR_exc, seq_nx, seq_rt, seq_xc, varR_0, varR_S, bb_add, bb_sub, bb_mul2, bb_and, cc_lt, cc_le, cc_gt, cc_ge, cc_eq, cc_ne, cc_eqb, cc_eqs, ll_len, ll_lent, ll_list, ll_listt, ll_max2, ll_min2, toD_fr, toD_ow, lstR_ok, neg_i, erR_0, erR_S, catch_nx, catch_rt, catch_xc, sfin_rt, sfin_nx, noEr_n, noEr_f, noEr_o, noEr_0, no_int, no_list, no_tuple, no_none, no_bool, no_str, isiD, List.set_cons_zero, List.set_cons_succ, decide_true, decide_false, Bool.not_true, Bool.not_false, if_true, if_false, Bool.false_eq_true, reduceIte, b_p_good_within, e, e2, xsM, pt22, pt23, pt24, pt32, pt33, pt34, pt42, pt43, pt44, psR, p1R, eqR_ss, bindE, List.nil_append, List.cons_append, kk_num_num, kk_num_pad, kk_num_maybe, kk_num_rows, kk_num_group, kk_num_one, kk_pad_num, kk_pad_pad, kk_pad_maybe, kk_pad_rows, kk_pad_group, kk_pad_one, kk_maybe_num, kk_maybe_pad, kk_maybe_maybe, kk_maybe_rows, kk_maybe_group, kk_maybe_one, kk_rows_num, kk_rows_pad, kk_rows_maybe, kk_rows_rows, kk_rows_group, kk_rows_one, kk_group_num, kk_group_pad, kk_group_maybe, kk_group_rows, kk_group_group, kk_group_one, kk_one_num, kk_one_pad, kk_one_maybe, kk_one_rows, kk_one_group, kk_one_one, kk_read_read, kk_read_short, kk_read_left, kk_read_wrong, kk_short_read, kk_short_short, kk_short_left, kk_short_wrong, kk_left_read, kk_left_short, kk_left_left, kk_left_wrong, kk_wrong_read, kk_wrong_short, kk_wrong_left, kk_wrong_wrong, w1, Bool.false_and]
          by_cases k2 : x = "one"
          · subst k2
            have : GS (n0 + 1) (.tuple [.str "one", a, b]) = oneB (GS n0) a b := by rw [GS_3, if_neg k1, if_pos rfl]
            rw [this]
            simp -implicitDefEqProofs only [Q.xs, Q.xs1, ev, evs, evI, evC, evJ, bind_ok, bind_exc, exR_ok, exR_exc, seq_nx, seq_rt, seq_xc, varR_0, varR_S, bb_add, bb_sub, bb_mul2, bb_and, cc_lt, cc_le, cc_gt, cc_ge, cc_eq, cc_ne, cc_eqb, cc_eqs, ll_len, ll_lent, ll_list, ll_listt, ll_max2, ll_min2, toD_fr, toD_ow, lstR_ok, neg_i, erR_0, erR_S, catch_nx, catch_rt, catch_xc, sfin_rt, sfin_nx, noEr_n, noEr_f, noEr_o, noEr_0, no_int, no_list, no_tuple, no_none, no_bool, no_str, isiD, List.set_cons_zero, List.set_cons_succ, decide_true, decide_false, Bool.not_true, Bool.not_false, if_true, if_false, Bool.false_eq_true, reduceIte, b_p_good_within, e, e2, xsM, pt22, pt23, pt24, pt32, pt33, pt34, pt42, pt43, pt44, psR, p1R, eqR_ss, bindE, List.nil_append, List.cons_append, kk_num_num, kk_num_pad, kk_num_maybe, kk_num_rows, kk_num_group, kk_num_one, kk_pad_num, kk_pad_pad, kk_pad_maybe, kk_pad_rows, kk_pad_group, kk_pad_one, kk_maybe_num, kk_maybe_pad, kk_maybe_maybe, kk_maybe_rows, kk_maybe_group, kk_maybe_one, kk_rows_num, kk_rows_pad, kk_rows_maybe, kk_rows_rows, kk_rows_group, kk_rows_one, kk_group_num, kk_group_pad, kk_group_maybe, kk_group_rows, kk_group_group, kk_group_one, kk_one_num, kk_one_pad, kk_one_maybe, kk_one_rows, kk_one_group, kk_one_one, kk_read_read, kk_read_short, kk_read_left, kk_read_wrong, kk_short_read, kk_short_short, kk_short_left, kk_short_wrong, kk_left_read, kk_left_short, kk_left_left, kk_left_wrong, kk_wrong_read, kk_wrong_short, kk_wrong_left, kk_wrong_wrong, p1]
          have : GS (n0 + 1) (.tuple [.str x, a, b]) = false := by
            rw [GS_3, if_neg k1, if_neg k2]
          rw [this]
          simp -implicitDefEqProofs only [Q.xs, Q.xs1, ev, evs, evI, evC, evJ, bind_ok, bind_exc, exR_ok, exR_exc, seq_nx, seq_rt, seq_xc, varR_0, varR_S, bb_add, bb_sub, bb_mul2, bb_and, cc_lt, cc_le, cc_gt, cc_ge, cc_eq, cc_ne, cc_eqb, cc_eqs, ll_len, ll_lent, ll_list, ll_listt, ll_max2, ll_min2, toD_fr, toD_ow, lstR_ok, neg_i, erR_0, erR_S, catch_nx, catch_rt, catch_xc, sfin_rt, sfin_nx, noEr_n, noEr_f, noEr_o, noEr_0, no_int, no_list, no_tuple, no_none, no_bool, no_str, isiD, List.set_cons_zero, List.set_cons_succ, decide_true, decide_false, Bool.not_true, Bool.not_false, if_true, if_false, Bool.false_eq_true, reduceIte, b_p_good_within, e, e2, xsM, pt22, pt23, pt24, pt32, pt33, pt34, pt42, pt43, pt44, psR, p1R, eqR_ss, bindE, List.nil_append, List.cons_append, kk_num_num, kk_num_pad, kk_num_maybe, kk_num_rows, kk_num_group, kk_num_one, kk_pad_num, kk_pad_pad, kk_pad_maybe, kk_pad_rows, kk_pad_group, kk_pad_one, kk_maybe_num, kk_maybe_pad, kk_maybe_maybe, kk_maybe_rows, kk_maybe_group, kk_maybe_one, kk_rows_num, kk_rows_pad, kk_rows_maybe, kk_rows_rows, kk_rows_group, kk_rows_one, kk_group_num, kk_group_pad, kk_group_maybe, kk_group_rows, kk_group_group, kk_group_one, kk_one_num, kk_one_pad, kk_one_maybe, kk_one_rows, kk_one_group, kk_one_one, kk_read_read, kk_read_short, kk_read_left, kk_read_wrong, kk_short_read, kk_short_short, kk_short_left, kk_short_wrong, kk_left_read, kk_left_short, kk_left_left, kk_left_wrong, kk_wrong_read, kk_wrong_short, kk_wrong_left, kk_wrong_wrong, decide_eq_false k1, decide_eq_false k2]
        | _ =>
          simp -implicitDefEqProofs only [Q.xs, Q.xs1, ev, evs, evI, evC, evJ, bind_ok, bind_exc, exR_ok, exR_exc, seq_nx, seq_rt, seq_xc, varR_0, varR_S, bb_add, bb_sub, bb_mul2, bb_and, cc_lt, cc_le, cc_gt, cc_ge, cc_eq, cc_ne, cc_eqb, cc_eqs, ll_len, ll_lent, ll_list, ll_listt, ll_max2, ll_min2, toD_fr, toD_ow, lstR_ok, neg_i, erR_0, erR_S, catch_nx, catch_rt, catch_xc, sfin_rt, sfin_nx, noEr_n, noEr_f, noEr_o, noEr_0, no_int, no_list, no_tuple, no_none, no_bool, no_str, isiD, List.set_cons_zero, List.set_cons_succ, decide_true, decide_false, Bool.not_true, Bool.not_false, if_true, if_false, Bool.false_eq_true, reduceIte, b_p_good_within, e, e2, xsM, pt22, pt23, pt24, pt32, pt33, pt34, pt42, pt43, pt44, psR, p1R, eqR_ss, bindE, List.nil_append, List.cons_append, kk_num_num, kk_num_pad, kk_num_maybe, kk_num_rows, kk_num_group, kk_num_one, kk_pad_num, kk_pad_pad, kk_pad_maybe, kk_pad_rows, kk_pad_group, kk_pad_one, kk_maybe_num, kk_maybe_pad, kk_maybe_maybe, kk_maybe_rows, kk_maybe_group, kk_maybe_one, kk_rows_num, kk_rows_pad, kk_rows_maybe, kk_rows_rows, kk_rows_group, kk_rows_one, kk_group_num, kk_group_pad, kk_group_maybe, kk_group_rows, kk_group_group, kk_group_one, kk_one_num, kk_one_pad, kk_one_maybe, kk_one_rows, kk_one_group, kk_one_one, kk_read_read, kk_read_short, kk_read_left, kk_read_wrong, kk_short_read, kk_short_short, kk_short_left, kk_short_wrong, kk_left_read, kk_left_short, kk_left_left, kk_left_wrong, kk_wrong_read, kk_wrong_short, kk_wrong_left, kk_wrong_wrong, f1, f2, f3, f4, f5, f6, strB]
          rfl
      | [x, a, b, c], ht, _ =>
        obtain ⟨hx, htl⟩ := tm_of_tup ht
        have f1 := flat_str hx "num" (by decide +kernel)
        have f2 := flat_str hx "pad" (by decide +kernel)
        have f3 := flat_str hx "maybe" (by decide +kernel)
        have f4 := flat_str hx "rows" (by decide +kernel)
        have f5 := flat_str hx "group" (by decide +kernel)
        have f6 := flat_str hx "one" (by decide +kernel)
        cases x with
        | str x =>
          have p1 := a_goodnum hn hw hr a b c n (by omega)
          by_cases k1 : x = "num"
          · subst k1
            have : GS (n0 + 1) (.tuple [.str "num", a, b, c]) = numB a b c := by rw [GS_4, if_pos rfl]
            rw [this]
            simp -implicitDefEqProofs only [Q.xs, Q.xs1, ev, evs, evI, evC, evJ, bind_ok, bind_exc, exR_ok, exR_exc, seq_nx, seq_rt, seq_xc, varR_0, varR_S, bb_add, bb_sub, bb_mul2, bb_and, cc_lt, cc_le, cc_gt, cc_ge, cc_eq, cc_ne, cc_eqb, cc_eqs, ll_len, ll_lent, ll_list, ll_listt, ll_max2, ll_min2, toD_fr, toD_ow, lstR_ok, neg_i, erR_0, erR_S, catch_nx, catch_rt, catch_xc, sfin_rt, sfin_nx, noEr_n, noEr_f, noEr_o, noEr_0, no_int, no_list, no_tuple, no_none, no_bool, no_str, isiD, List.set_cons_zero, List.set_cons_succ, decide_true, decide_false, Bool.not_true, Bool.not_false, if_true, if_false, Bool.false_eq_true, reduceIte, b_p_good_within, e, e2, xsM, pt22, pt23, pt24, pt32, pt33, pt34, pt42, pt43, pt44, psR, p1R, eqR_ss, bindE, List.nil_append, List.cons_append, kk_num_num, kk_num_pad, kk_num_maybe, kk_num_rows, kk_num_group, kk_num_one, kk_pad_num, kk_pad_pad, kk_pad_maybe, kk_pad_rows, kk_pad_group, kk_pad_one, kk_maybe_num, kk_maybe_pad, kk_maybe_maybe, kk_maybe_rows, kk_maybe_group, kk_maybe_one, kk_rows_num, kk_rows_pad, kk_rows_maybe, kk_rows_rows, kk_rows_group, kk_rows_one, kk_group_num, kk_group_pad, kk_group_maybe, kk_group_rows, kk_group_group, kk_group_one, kk_one_num, kk_one_pad, kk_one_maybe, kk_one_rows, kk_one_group, kk_one_one, kk_read_read, kk_read_short, kk_read_left, kk_read_wrong, kk_short_read, kk_short_short, kk_short_left, kk_short_wrong, kk_left_read, kk_left_short, kk_left_left, kk_left_wrong, kk_wrong_read, kk_wrong_short, kk_wrong_left, kk_wrong_wrong, p1]
          have : GS (n0 + 1) (.tuple [.str x, a, b, c]) = false := by
            rw [GS_4, if_neg k1]
          rw [this]
          simp -implicitDefEqProofs only [Q.xs, Q.xs1, ev, evs, evI, evC, evJ, bind_ok, bind_exc, exR_ok, exR_exc, seq_nx, seq_rt, seq_xc, varR_0, varR_S, bb_add, bb_sub, bb_mul2, bb_and, cc_lt, cc_le, cc_gt, cc_ge, cc_eq, cc_ne, cc_eqb, cc_eqs, ll_len, ll_lent, ll_list, ll_listt, ll_max2, ll_min2, toD_fr, toD_ow, lstR_ok, neg_i, erR_0, erR_S, catch_nx, catch_rt, catch_xc, sfin_rt, sfin_nx, noEr_n, noEr_f, noEr_o, noEr_0, no_int, no_list, no_tuple, no_none, no_bool, no_str, isiD, List.set_cons_zero, List.set_cons_succ, decide_true, decide_false, Bool.not_true, Bool.not_false, if_true, if_false, Bool.false_eq_true, reduceIte, b_p_good_within, e, e2, xsM, pt22, pt23, pt24, pt32, pt33, pt34, pt42, pt43, pt44, psR, p1R, eqR_ss, bindE, List.nil_append, List.cons_append, kk_num_num, kk_num_pad, kk_num_maybe, kk_num_rows, kk_num_group, kk_num_one, kk_pad_num, kk_pad_pad, kk_pad_maybe, kk_pad_rows, kk_pad_group, kk_pad_one, kk_maybe_num, kk_maybe_pad, kk_maybe_maybe, kk_maybe_rows, kk_maybe_group, kk_maybe_one, kk_rows_num, kk_rows_pad, kk_rows_maybe, kk_rows_rows, kk_rows_group, kk_rows_one, kk_group_num, kk_group_pad, kk_group_maybe, kk_group_rows, kk_group_group, kk_group_one, kk_one_num, kk_one_pad, kk_one_maybe, kk_one_rows, kk_one_group, kk_one_one, kk_read_read, kk_read_short, kk_read_left, kk_read_wrong, kk_short_read, kk_short_short, kk_short_left, kk_short_wrong, kk_left_read, kk_left_short, kk_left_left, kk_left_wrong, kk_wrong_read, kk_wrong_short, kk_wrong_left, kk_wrong_wrong, decide_eq_false k1]
        | _ =>
          simp -implicitDefEqProofs only [Q.xs, Q.xs1, ev, evs, evI, evC, evJ, bind_ok, bind_exc, exR_ok, exR_exc, seq_nx, seq_rt, seq_xc, varR_0, varR_S, bb_add, bb_sub, bb_mul2, bb_and, cc_lt, cc_le, cc_gt, cc_ge, cc_eq, cc_ne, cc_eqb, cc_eqs, ll_len, ll_lent, ll_list, ll_listt, ll_max2, ll_min2, toD_fr, toD_ow, lstR_ok, neg_i, erR_0, erR_S, catch_nx, catch_rt, catch_xc, sfin_rt, sfin_nx, noEr_n, noEr_f, noEr_o, noEr_0, no_int, no_list, no_tuple, no_none, no_bool, no_str, isiD, List.set_cons_zero, List.set_cons_succ, decide_true, decide_false, Bool.not_true, Bool.not_false, if_true, if_false, Bool.false_eq_true, reduceIte, b_p_good_within, e, e2, xsM, pt22, pt23, pt24, pt32, pt33, pt34, pt42, pt43, pt44, psR, p1R, eqR_ss, bindE, List.nil_append, List.cons_append, kk_num_num, kk_num_pad, kk_num_maybe, kk_num_rows, kk_num_group, kk_num_one, kk_pad_num, kk_pad_pad, kk_pad_maybe, kk_pad_rows, kk_pad_group, kk_pad_one, kk_maybe_num, kk_maybe_pad, kk_maybe_maybe, kk_maybe_rows, kk_maybe_group, kk_maybe_one, kk_rows_num, kk_rows_pad, kk_rows_maybe, kk_rows_rows, kk_rows_group, kk_rows_one, kk_group_num, kk_group_pad, kk_group_maybe, kk_group_rows, kk_group_group, kk_group_one, kk_one_num, kk_one_pad, kk_one_maybe, kk_one_rows, kk_one_group, kk_one_one, kk_read_read, kk_read_short, kk_read_left, kk_read_wrong, kk_short_read, kk_short_short, kk_short_left, kk_short_wrong, kk_left_read, kk_left_short, kk_left_left, kk_left_wrong, kk_wrong_read, kk_wrong_short, kk_wrong_left, kk_wrong_wrong, f1, f2, f3, f4, f5, f6, strB]
          rfl
    | _ =>
      show _ = Fl.rt (.fr (.bool false))
      simp -implicitDefEqProofs only [Q.xs, Q.xs1, ev, evs, evI, evC, evJ, bind_ok, bind_exc, exR_ok, exR_exc, seq_nx, seq_rt, seq_xc, varR_0, varR_S, bb_add, bb_sub, bb_mul2, bb_and, cc_lt, cc_le, cc_gt, cc_ge, cc_eq, cc_ne, cc_eqb, cc_eqs, ll_len, ll_lent, ll_list, ll_listt, ll_max2, ll_min2, toD_fr, toD_ow, lstR_ok, neg_i, erR_0, erR_S, catch_nx, catch_rt, catch_xc, sfin_rt, sfin_nx, noEr_n, noEr_f, noEr_o, noEr_0, no_int, no_list, no_tuple, no_none, no_bool, no_str, isiD, List.set_cons_zero, List.set_cons_succ, decide_true, decide_false, Bool.not_true, Bool.not_false, if_true, if_false, Bool.false_eq_true, reduceIte, b_p_good_within, e]
end
end Q

set_option Elab.async false
set_option linter.all false
set_option maxRecDepth 100000
set_option autoImplicit false
set_option maxHeartbeats 4000000
namespace Q
open PySem (PyData Str)
mutual
/-- point 2 -/
def Shp.ok2 : Shp → Prop
  | .num w lo hi => w ≤ 64 ∧ lo ≤ hi ∧ hi - lo < 2 ^ w ∧ -100000000000000000000 ≤ lo ∧ hi ≤ 100000000000000000000
  | .pad w => w ≤ 64
  | .maybe s => s.ok2
  | .rows w s => w ≤ 8 ∧ s.ok2
  | .group ss => ss.length ≤ 20 ∧ Shp.ok2s ss
  | .one w ss => w ≤ 8 ∧ 1 ≤ ss.length ∧ ss.length ≤ 16 ∧ ss.length ≤ 2 ^ w ∧ Shp.ok2s ss
def Shp.ok2s : List Shp → Prop
  | [] => True
  | s :: ss => s.ok2 ∧ Shp.ok2s ss
end
theorem Shp.ok2s_iff : ∀ {ss : List Shp}, Shp.ok2s ss ↔ ∀ s ∈ ss, s.ok2
  | [] => by simp [Shp.ok2s]
  | s :: ss => by simp [Shp.ok2s, Shp.ok2s_iff (ss := ss)]
theorem Shp.ok_ok2 : ∀ s : Shp, s.ok → s.ok2 := by
  refine Shp.ind ?_ ?_ ?_ ?_ ?_ ?_
  · intro w lo hi h
    unfold Shp.ok at h
    unfold Shp.ok2
    exact h
  · intro w h
    unfold Shp.ok at h
    unfold Shp.ok2
    exact h
  · intro s ih h
    unfold Shp.ok at h
    unfold Shp.ok2
    exact ih h
  · intro w s ih h
    unfold Shp.ok at h
    unfold Shp.ok2
    exact ⟨h.1, ih h.2.2⟩
  · intro ss ih h
    unfold Shp.ok at h
    unfold Shp.ok2
    exact ⟨h.1, Shp.ok2s_iff.mpr fun s hs => ih s hs (Shp.oks_iff.mp h.2 s hs)⟩
  · intro w ss ih h
    unfold Shp.ok at h
    unfold Shp.ok2
    exact ⟨h.1, h.2.1, h.2.2.1, h.2.2.2.1, Shp.ok2s_iff.mpr fun s hs => ih s hs (Shp.oks_iff.mp h.2.2.2.2 s hs)⟩
theorem all_dep (n : Nat) : ∀ ss : List Shp, (∀ s ∈ ss, GS n s.d = decide (s.dep ≤ n)) → (ss.map Shp.d).all (GS n) = decide (Shp.deps ss ≤ n)
  | [], _ => by simp [Shp.deps]
  | s :: ss, h => by
    rw [List.map_cons, List.all_cons, h s List.mem_cons_self, all_dep n ss fun t ht => h t (List.mem_cons_of_mem _ ht)]
    rw [show Shp.deps (s :: ss) = max s.dep (Shp.deps ss) by simp only [Shp.deps], Bool.eq_iff_iff]
    simp only [Bool.and_eq_true, decide_eq_true_eq]
    omega
theorem ww_yes {x lo hi : Int} (h : lo ≤ x ∧ x ≤ hi) : wwB (.int x) lo hi = true := decide_eq_true h
theorem kn_1 : ¬ (("maybe" : Str) = "pad") := by decide +kernel
theorem kn_2 : ¬ (("group" : Str) = "pad") := by decide +kernel
theorem kn_3 : ¬ (("group" : Str) = "maybe") := by decide +kernel
theorem kn_4 : ¬ (("one" : Str) = "rows") := by decide +kernel
theorem GS_maybe {n : Nat} {a : PyData} : GS (n + 1) (.tuple [.str "maybe", a]) = GS n a := by rw [GS_2, if_neg kn_1, if_pos rfl]
theorem GS_pad {n : Nat} {a : PyData} : GS (n + 1) (.tuple [.str "pad", a]) = wwB a 0 64 := by rw [GS_2, if_pos rfl]
theorem GS_group {n : Nat} {a : PyData} : GS (n + 1) (.tuple [.str "group", a]) = ptsB (GS n) a 0 20 := by rw [GS_2, if_neg kn_2, if_neg kn_3, if_pos rfl]
theorem GS_rows {n : Nat} {a b : PyData} : GS (n + 1) (.tuple [.str "rows", a, b]) = (wwB a 0 8 && GS n b) := by rw [GS_3, if_pos rfl]
theorem GS_one {n : Nat} {a b : PyData} : GS (n + 1) (.tuple [.str "one", a, b]) = oneB (GS n) a b := by rw [GS_3, if_neg kn_4, if_pos rfl]
theorem GS_num {n : Nat} {a b c : PyData} : GS (n + 1) (.tuple [.str "num", a, b, c]) = numB a b c := by rw [GS_4, if_pos rfl]
theorem pts_yes {g : PyData → Bool} {xs : List PyData} {lo hi : Int} (h : lo ≤ xs.length ∧ (xs.length : Int) ≤ hi) : ptsB g (.list xs) lo hi = xs.all g := by
  unfold ptsB
  dsimp only
  rw [decide_eq_true h, Bool.true_and]
theorem pow_int (w : Nat) : (2 : Int) ^ w = ((2 ^ w : Nat) : Int) := by
  rw [Int.natCast_pow]
  rfl
theorem g_shp : ∀ s : Shp, s.ok2 → ∀ n, GS n s.d = decide (s.dep ≤ n) := by
  have zero : ∀ s : Shp, GS 0 s.d = decide (s.dep ≤ 0) := fun s => by
    rw [decide_eq_false (by have := s.dep_pos; omega)]
    rfl
  refine Shp.ind ?_ ?_ ?_ ?_ ?_ ?_
  · intro w lo hi h n
    cases n with
    | zero => exact zero _
    | succ n =>
      unfold Shp.ok2 at h
      rw [decide_eq_true (show (Shp.num w lo hi).dep ≤ n + 1 by simp only [Shp.dep]; omega)]
      simp only [Shp.d]
      rw [GS_num]
      unfold numB
      dsimp only
      rw [ww_yes (by omega), ww_yes (by omega), ww_yes (by omega), Int.toNat_natCast, decide_eq_true h.2.2.1]
      rfl
  · intro w h n
    cases n with
    | zero => exact zero _
    | succ n =>
      unfold Shp.ok2 at h
      rw [decide_eq_true (show (Shp.pad w).dep ≤ n + 1 by simp only [Shp.dep]; omega)]
      simp only [Shp.d]
      rw [GS_pad, ww_yes (by omega)]
  · intro s ih h n
    cases n with
    | zero => exact zero _
    | succ n =>
      unfold Shp.ok2 at h
      rw [show (Shp.maybe s).dep = s.dep + 1 by simp only [Shp.dep]]
      simp only [Shp.d]
      rw [GS_maybe, ih h n]
      simp
  · intro w s ih h n
    cases n with
    | zero => exact zero _
    | succ n =>
      unfold Shp.ok2 at h
      rw [show (Shp.rows w s).dep = s.dep + 1 by simp only [Shp.dep]]
      simp only [Shp.d]
      rw [GS_rows, ww_yes (by omega), ih h.2 n]
      simp
  · intro ss ih h n
    cases n with
    | zero => exact zero _
    | succ n =>
      unfold Shp.ok2 at h
      rw [show (Shp.group ss).dep = Shp.deps ss + 1 by simp only [Shp.dep]]
      simp only [Shp.d, Shp.ds_map]
      rw [GS_group, pts_yes (by rw [List.length_map]; omega), all_dep n ss fun s hs => ih s hs (Shp.ok2s_iff.mp h.2 s hs) n]
      simp
  · intro w ss ih h n
    cases n with
    | zero => exact zero _
    | succ n =>
      unfold Shp.ok2 at h
      obtain ⟨h1, h2, h3, h4, h5⟩ := h
      rw [show (Shp.one w ss).dep = Shp.deps ss + 1 by simp only [Shp.dep]]
      simp only [Shp.d, Shp.ds_map]
      rw [GS_one]
      unfold oneB
      dsimp only
      rw [ww_yes (by omega), Int.toNat_natCast, pts_yes (by rw [List.length_map, pow_int]; split <;> omega), all_dep n ss fun s hs => ih s hs (Shp.ok2s_iff.mp h5 s hs) n]
      simp
theorem tm_shp : ∀ s : Shp, tmB s.d = true := by
  refine Shp.ind ?_ ?_ ?_ ?_ ?_ ?_
  · intro w lo hi
    simp [Shp.d, tmB, tmsB, hdB, flatD]
  · intro w
    simp [Shp.d, tmB, tmsB, hdB, flatD]
  · intro s ih
    simp only [Shp.d]
    exact tm_tup fun x hx => by
      simp only [List.mem_cons, List.not_mem_nil, or_false] at hx
      subst hx
      exact ih
  · intro w s ih
    simp only [Shp.d]
    exact tm_tup fun x hx => by
      simp only [List.mem_cons, List.not_mem_nil, or_false] at hx
      rcases hx with rfl | rfl
      · simp [tmB]
      · exact ih
  · intro ss ih
    simp only [Shp.d, Shp.ds_map]
    exact tm_tup fun x hx => by
      simp only [List.mem_cons, List.not_mem_nil, or_false] at hx
      subst hx
      exact tm_list fun x hx => by
        obtain ⟨s, hs, rfl⟩ := List.mem_map.mp hx
        exact ih s hs
  · intro w ss ih
    simp only [Shp.d, Shp.ds_map]
    exact tm_tup fun x hx => by
      simp only [List.mem_cons, List.not_mem_nil, or_false] at hx
      rcases hx with rfl | rfl
      · simp [tmB]
      · exact tm_list fun x hx => by
          obtain ⟨s, hs, rfl⟩ := List.mem_map.mp hx
          exact ih s hs
/-! ### a thing put at a place -/
inductive Put (t : PyData) : Shp → PyData → Prop
  | here (s : Shp) : Put t s t
  | maybe {s : Shp} {d : PyData} (h : Put t s d) : Put t (.maybe s) (.tuple [.str "maybe", d])
  | rows {s : Shp} {d : PyData} (w : Nat) (h : Put t s d) : Put t (.rows w s) (.tuple [.str "rows", .int w, d])
  | group {ss : List Shp} {s : Shp} {d : PyData} {i : Nat} (hi : ss[i]? = some s) (h : Put t s d) : Put t (.group ss) (.tuple [.str "group", .list ((ss.map Shp.d).set i d)])
  | one {ss : List Shp} {s : Shp} {d : PyData} {i : Nat} (w : Nat) (hi : ss[i]? = some s) (h : Put t s d) : Put t (.one w ss) (.tuple [.str "one", .int w, .list ((ss.map Shp.d).set i d)])
theorem mem_set {α : Type} {l : List α} {i : Nat} {x : α} (h : i < l.length) : x ∈ l.set i x := List.mem_set h x
theorem lt_of_get {α : Type} {l : List α} {i : Nat} {x : α} (h : l[i]? = some x) : i < l.length := (List.getElem?_eq_some_iff.mp h).1
theorem all_set_no {g : PyData → Bool} {ss : List Shp} {i : Nat} {s : Shp} {d : PyData} (hi : ss[i]? = some s) (h : g d = false) : ((ss.map Shp.d).set i d).all g = false := by
  rw [List.all_eq_false]
  exact ⟨d, mem_set (by rw [List.length_map]; exact lt_of_get hi), by rw [h]; exact Bool.false_ne_true⟩
theorem pts_no {g : PyData → Bool} {xs : List PyData} {lo hi : Int} (h : xs.all g = false) : ptsB g (.list xs) lo hi = false := by
  unfold ptsB
  dsimp only
  rw [h, Bool.and_false]
theorem put_bad {t : PyData} (ht : ∀ n ≤ 8, GS n t = false) {s : Shp} {d : PyData} (h : Put t s d) : ∀ n ≤ 8, GS n d = false := by
  induction h with
  | here s => exact ht
  | maybe h ih =>
    intro n hn
    cases n with
    | zero => rfl
    | succ n => rw [GS_maybe]; exact ih n (by omega)
  | rows w h ih =>
    intro n hn
    cases n with
    | zero => rfl
    | succ n => rw [GS_rows, ih n (by omega), Bool.and_false]
  | group hi h ih =>
    intro n hn
    cases n with
    | zero => rfl
    | succ n => rw [GS_group, pts_no (all_set_no hi (ih n (by omega)))]
  | one w hi h ih =>
    intro n hn
    cases n with
    | zero => rfl
    | succ n =>
      rw [GS_one]
      unfold oneB
      dsimp only
      rw [pts_no (all_set_no hi (ih n (by omega))), Bool.and_false]
theorem put_tm {t : PyData} (ht : tmB t = true) {s : Shp} {d : PyData} (h : Put t s d) : tmB d = true := by
  have S : ∀ {ss : List Shp} {i : Nat} {d : PyData}, tmB d = true → tmB (.list ((ss.map Shp.d).set i d)) = true := fun {ss i d} hd => tm_list fun x hx => by
    rcases List.mem_or_eq_of_mem_set hx with h | rfl
    · obtain ⟨s, _, rfl⟩ := List.mem_map.mp h
      exact tm_shp s
    · exact hd
  induction h with
  | here s => exact ht
  | maybe h ih =>
    exact tm_tup fun x hx => by
      simp only [List.mem_cons, List.not_mem_nil, or_false] at hx
      subst hx
      exact ih
  | rows w h ih =>
    exact tm_tup fun x hx => by
      simp only [List.mem_cons, List.not_mem_nil, or_false] at hx
      rcases hx with rfl | rfl
      · simp [tmB]
      · exact ih
  | group hi h ih =>
    exact tm_tup fun x hx => by
      simp only [List.mem_cons, List.not_mem_nil, or_false] at hx
      subst hx
      exact S ih
  | one w hi h ih =>
    exact tm_tup fun x hx => by
      simp only [List.mem_cons, List.not_mem_nil, or_false] at hx
      rcases hx with rfl | rfl
      · simp [tmB]
      · exact S ih
theorem deps_set : ∀ {ss : List Shp} {i : Nat} {t : Shp}, Shp.deps (ss.set i t) ≤ max (Shp.deps ss) t.dep
  | [], i, t => by simp [Shp.deps]
  | s :: ss, 0, t => by
    simp only [List.set_cons_zero, Shp.deps]
    omega
  | s :: ss, i + 1, t => by
    have := deps_set (ss := ss) (i := i) (t := t)
    simp only [List.set_cons_succ, Shp.deps]
    omega
theorem put_shp {b : Shp} (hb : b.ok2) {t : PyData} (et : t = b.d) {s : Shp} {d : PyData} (h : Put t s d) : s.ok2 → ∃ s' : Shp, s'.ok2 ∧ d = s'.d ∧ s'.dep ≤ s.dep + b.dep := by
  induction h with
  | here s => exact fun _ => ⟨b, hb, et, by omega⟩
  | maybe h ih =>
    intro hs
    unfold Shp.ok2 at hs
    obtain ⟨s', h1, rfl, h3⟩ := ih hs
    exact ⟨.maybe s', by unfold Shp.ok2; exact h1, by simp only [Shp.d], by simp only [Shp.dep]; omega⟩
  | rows w h ih =>
    intro hs
    unfold Shp.ok2 at hs
    obtain ⟨s', h1, rfl, h3⟩ := ih hs.2
    exact ⟨.rows w s', by unfold Shp.ok2; exact ⟨hs.1, h1⟩, by simp only [Shp.d], by simp only [Shp.dep]; omega⟩
  | @group ss s d i hi h ih =>
    intro hs
    unfold Shp.ok2 at hs
    have h2 := Shp.ok2s_iff.mp hs.2
    obtain ⟨s', h1, rfl, h3⟩ := ih (h2 s (List.mem_of_getElem? hi))
    have h4 : Shp.ok2s (ss.set i s') := Shp.ok2s_iff.mpr fun x hx => by
      rcases List.mem_or_eq_of_mem_set hx with h | rfl
      · exact h2 x h
      · exact h1
    refine ⟨.group (ss.set i s'), by unfold Shp.ok2; exact ⟨by rw [List.length_set]; exact hs.1, h4⟩, by simp only [Shp.d, Shp.ds_map, List.map_set], ?_⟩
    · have := deps_set (ss := ss) (i := i) (t := s')
      have := Shp.dep_mem (List.mem_of_getElem? hi)
      simp only [Shp.dep]
      omega
  | @one ss s d i w hi h ih =>
    intro hs
    unfold Shp.ok2 at hs
    obtain ⟨g1, g2, g3, g4, g5⟩ := hs
    have h2 := Shp.ok2s_iff.mp g5
    obtain ⟨s', h1, rfl, h3⟩ := ih (h2 s (List.mem_of_getElem? hi))
    have h4 : Shp.ok2s (ss.set i s') := Shp.ok2s_iff.mpr fun x hx => by
      rcases List.mem_or_eq_of_mem_set hx with h | rfl
      · exact h2 x h
      · exact h1
    refine ⟨.one w (ss.set i s'), by unfold Shp.ok2; exact ⟨g1, by rw [List.length_set]; exact g2, by rw [List.length_set]; exact g3, by rw [List.length_set]; exact g4, h4⟩, by simp only [Shp.d, Shp.ds_map, List.map_set], ?_⟩
    · have := deps_set (ss := ss) (i := i) (t := s')
      have := Shp.dep_mem (List.mem_of_getElem? hi)
      simp only [Shp.dep]
      omega
section
variable {m : Md} {I : Ix}
theorem a_put (h : At_l_put m I) (t : PyData) : ∀ s : Shp, s.ok → ∀ x c : Int, ∃ d, Put t s d ∧ Ans m I.l_put [s.d, .int x, .int c, t] s.dep (.ok (.fr d)) := by
  have F3 : ∀ c : Int, binD .fdiv (.int c) (.int 3) = .ok (.int (c / 3)) := fun c => bb_fdiv (by decide) (by decide)
  -- a list's case
  have L : ∀ (ss : List Shp), (∀ s ∈ ss, s.ok) → ss.length ≤ 20 → (∀ s ∈ ss, s.ok → ∀ x c : Int, ∃ d, Put t s d ∧ Ans m I.l_put [s.d, .int x, .int c, t] s.dep (.ok (.fr d))) → ∀ x c : Int, ss ≠ [] →
      ∃ (i : Nat) (s : Shp) (d : PyData), ss[i]? = some s ∧ Put t s d ∧ binD .mod (.int c) (.int ((ss.map Shp.d).length : Int)) = .ok (.int (i : Int)) ∧ ixR (.list (ss.map Shp.d)) (.int (i : Int)) = .ok s.d ∧ plcR (ss.map Shp.d).length (.int (i : Int)) = .ok i ∧ Ans m I.l_put [s.d, .int (x - 1), .int (c / 3), t] s.dep (.ok (.fr d)) := by
    intro ss hok hl ih x c hne
    have hp : 0 < ss.length := List.length_pos_iff.mpr hne
    have hm := Int.emod_nonneg c (show (ss.length : Int) ≠ 0 by omega)
    have hm2 := Int.emod_lt_of_pos c (show (0 : Int) < ss.length by omega)
    obtain ⟨i, hi⟩ : ∃ i : Nat, c % (ss.length : Int) = i := ⟨(c % (ss.length : Int)).toNat, by omega⟩
    have hlt : i < ss.length := by omega
    have hg : ss[i]? = some ss[i] := List.getElem?_eq_getElem hlt
    obtain ⟨d, hd, ha⟩ := ih ss[i] (List.getElem_mem hlt) (hok _ (List.getElem_mem hlt)) (x - 1) (c / 3)
    refine ⟨i, ss[i], d, hg, hd, ?_, ix_l (by rw [List.getElem?_map, hg]; rfl), ?_, ha⟩
    · rw [List.length_map, bb_mod (by omega), hi]
    · unfold plcR
      dsimp only
      rw [if_pos (by omega), if_pos (by rw [List.length_map]; omega), Int.toNat_natCast]
  refine Shp.ind ?_ ?_ ?_ ?_ ?_ ?_
  · intro w lo hi hs x c
    refine ⟨t, .here _, ans h (env := [(some (Sl.fr ((Shp.num w lo hi).d))), (some (Sl.fr (.int x))), (some (Sl.fr (.int c))), (some (Sl.fr (t))), none, none]) rfl rfl fun n hn => ?_⟩
    by_cases hx : x = 0
    · simp -implicitDefEqProofs only [Q.xs, Q.xs1, ev, evs, evI, evC, evJ, bind_ok, bind_exc, exR_ok, exR_exc, seq_nx, seq_rt, seq_xc, varR_0, varR_S, bb_add, bb_sub, bb_mul2, bb_and, cc_lt, cc_le, cc_gt, cc_ge, cc_eq, cc_ne, cc_eqb, cc_eqs, ll_len, ll_lent, ll_list, ll_listt, ll_max2, ll_min2, toD_fr, toD_ow, lstR_ok, neg_i, erR_0, erR_S, catch_nx, catch_rt, catch_xc, sfin_rt, sfin_nx, noEr_n, noEr_f, noEr_o, noEr_0, no_int, no_list, no_tuple, no_none, no_bool, no_str, isiD, List.set_cons_zero, List.set_cons_succ, decide_true, decide_false, Bool.not_true, Bool.not_false, if_true, if_false, Bool.false_eq_true, reduceIte, b_l_put, Shp.d, decide_eq_true hx]
    · simp -implicitDefEqProofs only [Q.xs, Q.xs1, ev, evs, evI, evC, evJ, bind_ok, bind_exc, exR_ok, exR_exc, seq_nx, seq_rt, seq_xc, varR_0, varR_S, bb_add, bb_sub, bb_mul2, bb_and, cc_lt, cc_le, cc_gt, cc_ge, cc_eq, cc_ne, cc_eqb, cc_eqs, ll_len, ll_lent, ll_list, ll_listt, ll_max2, ll_min2, toD_fr, toD_ow, lstR_ok, neg_i, erR_0, erR_S, catch_nx, catch_rt, catch_xc, sfin_rt, sfin_nx, noEr_n, noEr_f, noEr_o, noEr_0, no_int, no_list, no_tuple, no_none, no_bool, no_str, isiD, List.set_cons_zero, List.set_cons_succ, decide_true, decide_false, Bool.not_true, Bool.not_false, if_true, if_false, Bool.false_eq_true, reduceIte, b_l_put, Shp.d, decide_eq_false hx, ixt0, kk_num_num, kk_num_pad, kk_num_maybe, kk_num_rows, kk_num_group, kk_num_one, kk_pad_num, kk_pad_pad, kk_pad_maybe, kk_pad_rows, kk_pad_group, kk_pad_one, kk_maybe_num, kk_maybe_pad, kk_maybe_maybe, kk_maybe_rows, kk_maybe_group, kk_maybe_one, kk_rows_num, kk_rows_pad, kk_rows_maybe, kk_rows_rows, kk_rows_group, kk_rows_one, kk_group_num, kk_group_pad, kk_group_maybe, kk_group_rows, kk_group_group, kk_group_one, kk_one_num, kk_one_pad, kk_one_maybe, kk_one_rows, kk_one_group, kk_one_one, kk_read_read, kk_read_short, kk_read_left, kk_read_wrong, kk_short_read, kk_short_short, kk_short_left, kk_short_wrong, kk_left_read, kk_left_short, kk_left_left, kk_left_wrong, kk_wrong_read, kk_wrong_short, kk_wrong_left, kk_wrong_wrong]
  · intro w hs x c
    refine ⟨t, .here _, ans h (env := [(some (Sl.fr ((Shp.pad w).d))), (some (Sl.fr (.int x))), (some (Sl.fr (.int c))), (some (Sl.fr (t))), none, none]) rfl rfl fun n hn => ?_⟩
    by_cases hx : x = 0
    · simp -implicitDefEqProofs only [Q.xs, Q.xs1, ev, evs, evI, evC, evJ, bind_ok, bind_exc, exR_ok, exR_exc, seq_nx, seq_rt, seq_xc, varR_0, varR_S, bb_add, bb_sub, bb_mul2, bb_and, cc_lt, cc_le, cc_gt, cc_ge, cc_eq, cc_ne, cc_eqb, cc_eqs, ll_len, ll_lent, ll_list, ll_listt, ll_max2, ll_min2, toD_fr, toD_ow, lstR_ok, neg_i, erR_0, erR_S, catch_nx, catch_rt, catch_xc, sfin_rt, sfin_nx, noEr_n, noEr_f, noEr_o, noEr_0, no_int, no_list, no_tuple, no_none, no_bool, no_str, isiD, List.set_cons_zero, List.set_cons_succ, decide_true, decide_false, Bool.not_true, Bool.not_false, if_true, if_false, Bool.false_eq_true, reduceIte, b_l_put, Shp.d, decide_eq_true hx]
    · simp -implicitDefEqProofs only [Q.xs, Q.xs1, ev, evs, evI, evC, evJ, bind_ok, bind_exc, exR_ok, exR_exc, seq_nx, seq_rt, seq_xc, varR_0, varR_S, bb_add, bb_sub, bb_mul2, bb_and, cc_lt, cc_le, cc_gt, cc_ge, cc_eq, cc_ne, cc_eqb, cc_eqs, ll_len, ll_lent, ll_list, ll_listt, ll_max2, ll_min2, toD_fr, toD_ow, lstR_ok, neg_i, erR_0, erR_S, catch_nx, catch_rt, catch_xc, sfin_rt, sfin_nx, noEr_n, noEr_f, noEr_o, noEr_0, no_int, no_list, no_tuple, no_none, no_bool, no_str, isiD, List.set_cons_zero, List.set_cons_succ, decide_true, decide_false, Bool.not_true, Bool.not_false, if_true, if_false, Bool.false_eq_true, reduceIte, b_l_put, Shp.d, decide_eq_false hx, ixt0, kk_num_num, kk_num_pad, kk_num_maybe, kk_num_rows, kk_num_group, kk_num_one, kk_pad_num, kk_pad_pad, kk_pad_maybe, kk_pad_rows, kk_pad_group, kk_pad_one, kk_maybe_num, kk_maybe_pad, kk_maybe_maybe, kk_maybe_rows, kk_maybe_group, kk_maybe_one, kk_rows_num, kk_rows_pad, kk_rows_maybe, kk_rows_rows, kk_rows_group, kk_rows_one, kk_group_num, kk_group_pad, kk_group_maybe, kk_group_rows, kk_group_group, kk_group_one, kk_one_num, kk_one_pad, kk_one_maybe, kk_one_rows, kk_one_group, kk_one_one, kk_read_read, kk_read_short, kk_read_left, kk_read_wrong, kk_short_read, kk_short_short, kk_short_left, kk_short_wrong, kk_left_read, kk_left_short, kk_left_left, kk_left_wrong, kk_wrong_read, kk_wrong_short, kk_wrong_left, kk_wrong_wrong]
  · intro s ih hs x c
    by_cases hx : x = 0
    · refine ⟨t, .here _, ?_⟩
      simp only [Shp.dep]
      refine ans h (env := [(some (Sl.fr ((Shp.maybe s).d))), (some (Sl.fr (.int x))), (some (Sl.fr (.int c))), (some (Sl.fr (t))), none, none]) rfl rfl fun n hn => ?_
      simp -implicitDefEqProofs only [Q.xs, Q.xs1, ev, evs, evI, evC, evJ, bind_ok, bind_exc, exR_ok, exR_exc, seq_nx, seq_rt, seq_xc, varR_0, varR_S, bb_add, bb_sub, bb_mul2, bb_and, cc_lt, cc_le, cc_gt, cc_ge, cc_eq, cc_ne, cc_eqb, cc_eqs, ll_len, ll_lent, ll_list, ll_listt, ll_max2, ll_min2, toD_fr, toD_ow, lstR_ok, neg_i, erR_0, erR_S, catch_nx, catch_rt, catch_xc, sfin_rt, sfin_nx, noEr_n, noEr_f, noEr_o, noEr_0, no_int, no_list, no_tuple, no_none, no_bool, no_str, isiD, List.set_cons_zero, List.set_cons_succ, decide_true, decide_false, Bool.not_true, Bool.not_false, if_true, if_false, Bool.false_eq_true, reduceIte, b_l_put, Shp.d, decide_eq_true hx]
    · unfold Shp.ok at hs
      obtain ⟨d, hd, ha⟩ := ih hs (x - 1) (c / 3)
      refine ⟨_, .maybe hd, ?_⟩
      simp only [Shp.dep]
      refine ans h (env := [(some (Sl.fr ((Shp.maybe s).d))), (some (Sl.fr (.int x))), (some (Sl.fr (.int c))), (some (Sl.fr (t))), none, none]) rfl rfl fun n hn => ?_
      simp -implicitDefEqProofs only [Q.xs, Q.xs1, ev, evs, evI, evC, evJ, bind_ok, bind_exc, exR_ok, exR_exc, seq_nx, seq_rt, seq_xc, varR_0, varR_S, bb_add, bb_sub, bb_mul2, bb_and, cc_lt, cc_le, cc_gt, cc_ge, cc_eq, cc_ne, cc_eqb, cc_eqs, ll_len, ll_lent, ll_list, ll_listt, ll_max2, ll_min2, toD_fr, toD_ow, lstR_ok, neg_i, erR_0, erR_S, catch_nx, catch_rt, catch_xc, sfin_rt, sfin_nx, noEr_n, noEr_f, noEr_o, noEr_0, no_int, no_list, no_tuple, no_none, no_bool, no_str, isiD, List.set_cons_zero, List.set_cons_succ, decide_true, decide_false, Bool.not_true, Bool.not_false, if_true, if_false, Bool.false_eq_true, reduceIte, b_l_put, Shp.d, decide_eq_false hx, ixt0, ixt1, kk_num_num, kk_num_pad, kk_num_maybe, kk_num_rows, kk_num_group, kk_num_one, kk_pad_num, kk_pad_pad, kk_pad_maybe, kk_pad_rows, kk_pad_group, kk_pad_one, kk_maybe_num, kk_maybe_pad, kk_maybe_maybe, kk_maybe_rows, kk_maybe_group, kk_maybe_one, kk_rows_num, kk_rows_pad, kk_rows_maybe, kk_rows_rows, kk_rows_group, kk_rows_one, kk_group_num, kk_group_pad, kk_group_maybe, kk_group_rows, kk_group_group, kk_group_one, kk_one_num, kk_one_pad, kk_one_maybe, kk_one_rows, kk_one_group, kk_one_one, kk_read_read, kk_read_short, kk_read_left, kk_read_wrong, kk_short_read, kk_short_short, kk_short_left, kk_short_wrong, kk_left_read, kk_left_short, kk_left_left, kk_left_wrong, kk_wrong_read, kk_wrong_short, kk_wrong_left, kk_wrong_wrong, F3, ha n (by omega), l2]
  · intro w s ih hs x c
    by_cases hx : x = 0
    · refine ⟨t, .here _, ?_⟩
      simp only [Shp.dep]
      refine ans h (env := [(some (Sl.fr ((Shp.rows w s).d))), (some (Sl.fr (.int x))), (some (Sl.fr (.int c))), (some (Sl.fr (t))), none, none]) rfl rfl fun n hn => ?_
      simp -implicitDefEqProofs only [Q.xs, Q.xs1, ev, evs, evI, evC, evJ, bind_ok, bind_exc, exR_ok, exR_exc, seq_nx, seq_rt, seq_xc, varR_0, varR_S, bb_add, bb_sub, bb_mul2, bb_and, cc_lt, cc_le, cc_gt, cc_ge, cc_eq, cc_ne, cc_eqb, cc_eqs, ll_len, ll_lent, ll_list, ll_listt, ll_max2, ll_min2, toD_fr, toD_ow, lstR_ok, neg_i, erR_0, erR_S, catch_nx, catch_rt, catch_xc, sfin_rt, sfin_nx, noEr_n, noEr_f, noEr_o, noEr_0, no_int, no_list, no_tuple, no_none, no_bool, no_str, isiD, List.set_cons_zero, List.set_cons_succ, decide_true, decide_false, Bool.not_true, Bool.not_false, if_true, if_false, Bool.false_eq_true, reduceIte, b_l_put, Shp.d, decide_eq_true hx]
    · unfold Shp.ok at hs
      obtain ⟨d, hd, ha⟩ := ih hs.2.2 (x - 1) (c / 3)
      refine ⟨_, .rows w hd, ?_⟩
      simp only [Shp.dep]
      refine ans h (env := [(some (Sl.fr ((Shp.rows w s).d))), (some (Sl.fr (.int x))), (some (Sl.fr (.int c))), (some (Sl.fr (t))), none, none]) rfl rfl fun n hn => ?_
      simp -implicitDefEqProofs only [Q.xs, Q.xs1, ev, evs, evI, evC, evJ, bind_ok, bind_exc, exR_ok, exR_exc, seq_nx, seq_rt, seq_xc, varR_0, varR_S, bb_add, bb_sub, bb_mul2, bb_and, cc_lt, cc_le, cc_gt, cc_ge, cc_eq, cc_ne, cc_eqb, cc_eqs, ll_len, ll_lent, ll_list, ll_listt, ll_max2, ll_min2, toD_fr, toD_ow, lstR_ok, neg_i, erR_0, erR_S, catch_nx, catch_rt, catch_xc, sfin_rt, sfin_nx, noEr_n, noEr_f, noEr_o, noEr_0, no_int, no_list, no_tuple, no_none, no_bool, no_str, isiD, List.set_cons_zero, List.set_cons_succ, decide_true, decide_false, Bool.not_true, Bool.not_false, if_true, if_false, Bool.false_eq_true, reduceIte, b_l_put, Shp.d, decide_eq_false hx, ixt0, ixt1, ixt2, kk_num_num, kk_num_pad, kk_num_maybe, kk_num_rows, kk_num_group, kk_num_one, kk_pad_num, kk_pad_pad, kk_pad_maybe, kk_pad_rows, kk_pad_group, kk_pad_one, kk_maybe_num, kk_maybe_pad, kk_maybe_maybe, kk_maybe_rows, kk_maybe_group, kk_maybe_one, kk_rows_num, kk_rows_pad, kk_rows_maybe, kk_rows_rows, kk_rows_group, kk_rows_one, kk_group_num, kk_group_pad, kk_group_maybe, kk_group_rows, kk_group_group, kk_group_one, kk_one_num, kk_one_pad, kk_one_maybe, kk_one_rows, kk_one_group, kk_one_one, kk_read_read, kk_read_short, kk_read_left, kk_read_wrong, kk_short_read, kk_short_short, kk_short_left, kk_short_wrong, kk_left_read, kk_left_short, kk_left_left, kk_left_wrong, kk_wrong_read, kk_wrong_short, kk_wrong_left, kk_wrong_wrong, F3, ha n (by omega), l3]
  · intro ss ih hs x c
    simp only [Shp.dep]
    by_cases hx : x = 0
    · refine ⟨t, .here _, ?_⟩
      refine ans h (env := [(some (Sl.fr ((Shp.group ss).d))), (some (Sl.fr (.int x))), (some (Sl.fr (.int c))), (some (Sl.fr (t))), none, none]) rfl rfl fun n hn => ?_
      simp -implicitDefEqProofs only [Q.xs, Q.xs1, ev, evs, evI, evC, evJ, bind_ok, bind_exc, exR_ok, exR_exc, seq_nx, seq_rt, seq_xc, varR_0, varR_S, bb_add, bb_sub, bb_mul2, bb_and, cc_lt, cc_le, cc_gt, cc_ge, cc_eq, cc_ne, cc_eqb, cc_eqs, ll_len, ll_lent, ll_list, ll_listt, ll_max2, ll_min2, toD_fr, toD_ow, lstR_ok, neg_i, erR_0, erR_S, catch_nx, catch_rt, catch_xc, sfin_rt, sfin_nx, noEr_n, noEr_f, noEr_o, noEr_0, no_int, no_list, no_tuple, no_none, no_bool, no_str, isiD, List.set_cons_zero, List.set_cons_succ, decide_true, decide_false, Bool.not_true, Bool.not_false, if_true, if_false, Bool.false_eq_true, reduceIte, b_l_put, Shp.d, decide_eq_true hx]
    · unfold Shp.ok at hs
      have e1 : ixR (.tuple [.str "group", .list (ss.map Shp.d)]) (.int (([.str "group", .list (ss.map Shp.d)] : List PyData).length - 1)) = .ok (.list (ss.map Shp.d)) := rfl
      by_cases hne : ss = []
      · subst hne
        refine ⟨t, .here _, ?_⟩
        refine ans h (env := [(some (Sl.fr ((Shp.group []).d))), (some (Sl.fr (.int x))), (some (Sl.fr (.int c))), (some (Sl.fr (t))), none, none]) rfl rfl fun n hn => ?_
        have e0 : decide ((([] : List PyData).length : Int) = 0) = true := by decide
        simp only [List.map_nil] at e1
        simp -implicitDefEqProofs only [Q.xs, Q.xs1, ev, evs, evI, evC, evJ, bind_ok, bind_exc, exR_ok, exR_exc, seq_nx, seq_rt, seq_xc, varR_0, varR_S, bb_add, bb_sub, bb_mul2, bb_and, cc_lt, cc_le, cc_gt, cc_ge, cc_eq, cc_ne, cc_eqb, cc_eqs, ll_len, ll_lent, ll_list, ll_listt, ll_max2, ll_min2, toD_fr, toD_ow, lstR_ok, neg_i, erR_0, erR_S, catch_nx, catch_rt, catch_xc, sfin_rt, sfin_nx, noEr_n, noEr_f, noEr_o, noEr_0, no_int, no_list, no_tuple, no_none, no_bool, no_str, isiD, List.set_cons_zero, List.set_cons_succ, decide_true, decide_false, Bool.not_true, Bool.not_false, if_true, if_false, Bool.false_eq_true, reduceIte, b_l_put, Shp.d, Shp.ds, decide_eq_false hx, ixt0, kk_num_num, kk_num_pad, kk_num_maybe, kk_num_rows, kk_num_group, kk_num_one, kk_pad_num, kk_pad_pad, kk_pad_maybe, kk_pad_rows, kk_pad_group, kk_pad_one, kk_maybe_num, kk_maybe_pad, kk_maybe_maybe, kk_maybe_rows, kk_maybe_group, kk_maybe_one, kk_rows_num, kk_rows_pad, kk_rows_maybe, kk_rows_rows, kk_rows_group, kk_rows_one, kk_group_num, kk_group_pad, kk_group_maybe, kk_group_rows, kk_group_group, kk_group_one, kk_one_num, kk_one_pad, kk_one_maybe, kk_one_rows, kk_one_group, kk_one_one, kk_read_read, kk_read_short, kk_read_left, kk_read_wrong, kk_short_read, kk_short_short, kk_short_left, kk_short_wrong, kk_left_read, kk_left_short, kk_left_left, kk_left_wrong, kk_wrong_read, kk_wrong_short, kk_wrong_left, kk_wrong_wrong, e1, lenO, List.getElem?_cons_zero, List.getElem?_cons_succ, e0]
      · obtain ⟨i, s, d, hi, hd, f1, f2, f3, ha⟩ := L ss (Shp.oks_iff.mp hs.2) hs.1 ih x c hne
        refine ⟨_, .group hi hd, ?_⟩
        have hdm := Shp.dep_mem (List.mem_of_getElem? hi)
        refine ans h (env := [(some (Sl.fr ((Shp.group ss).d))), (some (Sl.fr (.int x))), (some (Sl.fr (.int c))), (some (Sl.fr (t))), none, none]) rfl rfl fun n hn => ?_
        have e0 : decide (((ss.map Shp.d).length : Int) = 0) = false := decide_eq_false (by rw [List.length_map]; have := List.length_pos_iff.mpr hne; omega)
        simp -implicitDefEqProofs only [Q.xs, Q.xs1, ev, evs, evI, evC, evJ, bind_ok, bind_exc, exR_ok, exR_exc, seq_nx, seq_rt, seq_xc, varR_0, varR_S, bb_add, bb_sub, bb_mul2, bb_and, cc_lt, cc_le, cc_gt, cc_ge, cc_eq, cc_ne, cc_eqb, cc_eqs, ll_len, ll_lent, ll_list, ll_listt, ll_max2, ll_min2, toD_fr, toD_ow, lstR_ok, neg_i, erR_0, erR_S, catch_nx, catch_rt, catch_xc, sfin_rt, sfin_nx, noEr_n, noEr_f, noEr_o, noEr_0, no_int, no_list, no_tuple, no_none, no_bool, no_str, isiD, List.set_cons_zero, List.set_cons_succ, decide_true, decide_false, Bool.not_true, Bool.not_false, if_true, if_false, Bool.false_eq_true, reduceIte, b_l_put, Shp.d, Shp.ds_map, decide_eq_false hx, ixt0, kk_num_num, kk_num_pad, kk_num_maybe, kk_num_rows, kk_num_group, kk_num_one, kk_pad_num, kk_pad_pad, kk_pad_maybe, kk_pad_rows, kk_pad_group, kk_pad_one, kk_maybe_num, kk_maybe_pad, kk_maybe_maybe, kk_maybe_rows, kk_maybe_group, kk_maybe_one, kk_rows_num, kk_rows_pad, kk_rows_maybe, kk_rows_rows, kk_rows_group, kk_rows_one, kk_group_num, kk_group_pad, kk_group_maybe, kk_group_rows, kk_group_group, kk_group_one, kk_one_num, kk_one_pad, kk_one_maybe, kk_one_rows, kk_one_group, kk_one_one, kk_read_read, kk_read_short, kk_read_left, kk_read_wrong, kk_short_read, kk_short_short, kk_short_left, kk_short_wrong, kk_left_read, kk_left_short, kk_left_left, kk_left_wrong, kk_wrong_read, kk_wrong_short, kk_wrong_left, kk_wrong_wrong, e1, lenO, List.getElem?_cons_zero, List.getElem?_cons_succ, e0, f1, f2, f3, F3, ha n (by omega), l2]
  · intro w ss ih hs x c
    simp only [Shp.dep]
    by_cases hx : x = 0
    · refine ⟨t, .here _, ?_⟩
      refine ans h (env := [(some (Sl.fr ((Shp.one w ss).d))), (some (Sl.fr (.int x))), (some (Sl.fr (.int c))), (some (Sl.fr (t))), none, none]) rfl rfl fun n hn => ?_
      simp -implicitDefEqProofs only [Q.xs, Q.xs1, ev, evs, evI, evC, evJ, bind_ok, bind_exc, exR_ok, exR_exc, seq_nx, seq_rt, seq_xc, varR_0, varR_S, bb_add, bb_sub, bb_mul2, bb_and, cc_lt, cc_le, cc_gt, cc_ge, cc_eq, cc_ne, cc_eqb, cc_eqs, ll_len, ll_lent, ll_list, ll_listt, ll_max2, ll_min2, toD_fr, toD_ow, lstR_ok, neg_i, erR_0, erR_S, catch_nx, catch_rt, catch_xc, sfin_rt, sfin_nx, noEr_n, noEr_f, noEr_o, noEr_0, no_int, no_list, no_tuple, no_none, no_bool, no_str, isiD, List.set_cons_zero, List.set_cons_succ, decide_true, decide_false, Bool.not_true, Bool.not_false, if_true, if_false, Bool.false_eq_true, reduceIte, b_l_put, Shp.d, decide_eq_true hx]
    · unfold Shp.ok at hs
      obtain ⟨g1, g2, g3, g4, g5⟩ := hs
      have e1 : ixR (.tuple [.str "one", .int (w : Int), .list (ss.map Shp.d)]) (.int (([.str "one", .int (w : Int), .list (ss.map Shp.d)] : List PyData).length - 1)) = .ok (.list (ss.map Shp.d)) := rfl
      have hne : ss ≠ [] := fun z => by rw [z] at g2; simp at g2
      obtain ⟨i, s, d, hi, hd, f1, f2, f3, ha⟩ := L ss (Shp.oks_iff.mp g5) (by omega) ih x c hne
      refine ⟨_, .one w hi hd, ?_⟩
      have hdm := Shp.dep_mem (List.mem_of_getElem? hi)
      refine ans h (env := [(some (Sl.fr ((Shp.one w ss).d))), (some (Sl.fr (.int x))), (some (Sl.fr (.int c))), (some (Sl.fr (t))), none, none]) rfl rfl fun n hn => ?_
      have e0 : decide (((ss.map Shp.d).length : Int) = 0) = false := decide_eq_false (by rw [List.length_map]; omega)
      simp -implicitDefEqProofs only [Q.xs, Q.xs1, ev, evs, evI, evC, evJ, bind_ok, bind_exc, exR_ok, exR_exc, seq_nx, seq_rt, seq_xc, varR_0, varR_S, bb_add, bb_sub, bb_mul2, bb_and, cc_lt, cc_le, cc_gt, cc_ge, cc_eq, cc_ne, cc_eqb, cc_eqs, ll_len, ll_lent, ll_list, ll_listt, ll_max2, ll_min2, toD_fr, toD_ow, lstR_ok, neg_i, erR_0, erR_S, catch_nx, catch_rt, catch_xc, sfin_rt, sfin_nx, noEr_n, noEr_f, noEr_o, noEr_0, no_int, no_list, no_tuple, no_none, no_bool, no_str, isiD, List.set_cons_zero, List.set_cons_succ, decide_true, decide_false, Bool.not_true, Bool.not_false, if_true, if_false, Bool.false_eq_true, reduceIte, b_l_put, Shp.d, Shp.ds_map, decide_eq_false hx, ixt0, ixt1, kk_num_num, kk_num_pad, kk_num_maybe, kk_num_rows, kk_num_group, kk_num_one, kk_pad_num, kk_pad_pad, kk_pad_maybe, kk_pad_rows, kk_pad_group, kk_pad_one, kk_maybe_num, kk_maybe_pad, kk_maybe_maybe, kk_maybe_rows, kk_maybe_group, kk_maybe_one, kk_rows_num, kk_rows_pad, kk_rows_maybe, kk_rows_rows, kk_rows_group, kk_rows_one, kk_group_num, kk_group_pad, kk_group_maybe, kk_group_rows, kk_group_group, kk_group_one, kk_one_num, kk_one_pad, kk_one_maybe, kk_one_rows, kk_one_group, kk_one_one, kk_read_read, kk_read_short, kk_read_left, kk_read_wrong, kk_short_read, kk_short_short, kk_short_left, kk_short_wrong, kk_left_read, kk_left_short, kk_left_left, kk_left_wrong, kk_wrong_read, kk_wrong_short, kk_wrong_left, kk_wrong_wrong, e1, lenO, List.getElem?_cons_zero, List.getElem?_cons_succ, e0, f1, f2, f3, F3, ha n (by omega), l3]
end
end Q

set_option Elab.async false
set_option linter.all false
set_option maxRecDepth 100000
set_option autoImplicit false
set_option maxHeartbeats 4000000
namespace Q
open PySem (PyData Str)
def listAt (f : Fl) : List PyData := match f with
  | .nx [_, _, some (.fr (.list l))] => l
  | _ => []
def oddsL : List PyData := listAt (xs SS (fun _ _ => false) (fun _ _ => .bad) 0 (tk 19 (b_l_odd {})) [(some (Sl.fr (.int 0))), none, none])
def boundsL : List PyData := listAt (xs SS (fun _ _ => false) (fun _ _ => .bad) 0 (tk 7 (b_l_bound {})) [(some (Sl.fr (.int 0))), none, none])
def boundsS : List Shp := [.num 64 0 (2 ^ 64 - 1), .num 0 (-5) (-5), .num 64 (10 ^ 20) (10 ^ 20), .num 64 (-(10 ^ 20)) (-(10 ^ 20)), .pad 0, .pad 64, .group [],
  .group (List.replicate 20 (.pad 64)), .one 4 (List.replicate 16 (.pad 64)), .one 8 (List.replicate 16 (.pad 64)), .one 0 [.pad 64],
  .rows 8 (.pad 64), .rows 0 (.pad 64), .num 1 (-1) 0, .one 1 (List.replicate 2 (.pad 64)), .one 2 (List.replicate 4 (.pad 64)), .one 2 (List.replicate 3 (.pad 64)), .one 3 (List.replicate 8 (.pad 64)), .one 3 (List.replicate 5 (.pad 64))]
theorem odds_len : oddsL.length = 81 := by decide +kernel
theorem odds_ok : (oddsL.all fun t => tmB t && ((List.range 9).all fun n => !(GS n t))) = true := by decide +kernel
theorem bounds_is : boundsL = boundsS.map Shp.d := by kernel_rfl
section
variable {m : Md} {I : Ix}
theorem odd_run (n : Nat) (c : Int) : xs SS m.sub (m.Phi n) m.L (tk 19 (b_l_odd I)) [(some (Sl.fr (.int c))), none, none] = .nx [(some (Sl.fr (.int c))), (some (Sl.fr (.tuple [.str "pad", .int 1]))), (some (Sl.fr (.list oddsL)))] := by kernel_rfl
theorem bound_run (n : Nat) (c : Int) : xs SS m.sub (m.Phi n) m.L (tk 7 (b_l_bound I)) [(some (Sl.fr (.int c))), none, none] = .nx [(some (Sl.fr (.int c))), (some (Sl.fr (.tuple [.str "pad", .int 64]))), (some (Sl.fr (.list boundsL)))] := by kernel_rfl
end
end Q

set_option Elab.async false
set_option linter.all false
set_option maxRecDepth 100000
set_option autoImplicit false
set_option maxHeartbeats 4000000
namespace Q
open PySem (PyData Str)
theorem nMax_dep : ∀ (ss : List Shp) (k : Nat), nMax k (ss.map Shp.dep) = max k (Shp.deps ss)
  | [], k => by simp [nMax, Shp.deps]
  | s :: ss, k => by
    rw [List.map_cons]
    unfold nMax
    rw [nMax_dep ss, show Shp.deps (s :: ss) = max s.dep (Shp.deps ss) by simp only [Shp.deps]]
    split <;> omega
theorem lMax_dep : ∀ ss : List Shp, lMax (ss.map Shp.dep) = Shp.deps ss
  | [] => by simp [lMax, Shp.deps]
  | s :: ss => by
    show nMax s.dep (ss.map Shp.dep) = _
    rw [nMax_dep, show Shp.deps (s :: ss) = max s.dep (Shp.deps ss) by simp only [Shp.deps]]
theorem GS_wrap_one {n : Nat} {d : PyData} : GS (n + 1) (.tuple [.str "one", .int 1, .list [d]]) = GS n d := by
  rw [GS_one]
  unfold oneB ptsB
  dsimp only
  rw [ww_yes (by omega)]
  simp
theorem GS_wrap_rows {n : Nat} {d : PyData} : GS (n + 1) (.tuple [.str "rows", .int 3, d]) = GS n d := by
  rw [GS_rows, ww_yes (by omega), Bool.true_and]
theorem GS_wrap_group {n : Nat} {d : PyData} : GS (n + 1) (.tuple [.str "group", .list [.tuple [.str "pad", .int 3], d]]) = GS n d := by
  rw [GS_group]
  unfold ptsB
  dsimp only
  rw [List.all_cons]
  cases n with
  | zero => simp [GS]
  | succ n =>
    rw [GS_pad, ww_yes (by omega)]
    simp
section
variable {m : Md} {I : Ix}
def roundL : Sts := (.cons (.set 4 (.lst (.cons (.tup (.cons (.cS "group") (.cons (.lst (.cons (.tup (.cons (.cS "pad") (.cons (.cI 3) .nil))) (.cons (.var 0) .nil))) .nil))) (.cons (.tup (.cons (.cS "maybe") (.cons (.var 0) .nil))) (.cons (.tup (.cons (.cS "one") (.cons (.cI 1) (.cons (.lst (.cons (.var 0) .nil)) .nil)))) (.cons (.tup (.cons (.cS "rows") (.cons (.cI 3) (.cons (.var 0) .nil)))) .nil)))))) (.cons (.set 0 (.ix (.var 4) (.bin .mod (.bin .add (.var 1) (.var 3)) (.cI 4)))) .nil))
theorem round_run (c : Int) (B : Option Sl) : ∀ (q j : Nat) (d : PyData) (o3 o4 : Option Sl), tmB d = true → ∃ r, tmB r = true ∧ (∀ n, GS (n + q) r = GS n d) ∧ (∀ n, n < q → GS n r = false) ∧ ∃ o3' o4', ∀ Φ, floop (fun d env => xs SS m.sub Φ m.L roundL (env.set 3 (some (Sl.fr (d))))) (rg j q) [(some (Sl.fr (d))), (some (Sl.fr (.int c))), B, o3, o4] = .nx [(some (Sl.fr (r))), (some (Sl.fr (.int c))), B, o3', o4']
  | 0, j, d, o3, o4, ht => ⟨d, ht, fun n => rfl, fun n hn => by omega, o3, o4, fun Φ => rfl⟩
  | q + 1, j, d, o3, o4, ht => by
    have m4 : binD .mod (.int (c + (j : Int))) (.int 4) = .ok (.int ((c + (j : Int)) % 4)) := bb_mod (by decide)
    have key : ∃ t, tmB t = true ∧ (∀ n, GS (n + 1) t = GS n d) ∧ ixR (.list [.tuple [.str "group", .list [.tuple [.str "pad", .int 3], d]], .tuple [.str "maybe", d], .tuple [.str "one", .int 1, .list [d]], .tuple [.str "rows", .int 3, d]]) (.int ((c + (j : Int)) % 4)) = .ok t := by
      have : (c + (j : Int)) % 4 = 0 ∨ (c + (j : Int)) % 4 = 1 ∨ (c + (j : Int)) % 4 = 2 ∨ (c + (j : Int)) % 4 = 3 := by omega
      rcases this with e | e | e | e <;> rw [e]
      · exact ⟨_, by simp [tmB, tmsB, hdB, flatD, ht], fun n => GS_wrap_group, rfl⟩
      · exact ⟨_, by simp [tmB, tmsB, hdB, flatD, ht], fun n => GS_maybe, rfl⟩
      · exact ⟨_, by simp [tmB, tmsB, hdB, flatD, ht], fun n => GS_wrap_one, rfl⟩
      · exact ⟨_, by simp [tmB, tmsB, hdB, flatD, ht], fun n => GS_wrap_rows, rfl⟩
    obtain ⟨t, tt, gt, et⟩ := key
    obtain ⟨r, tr, gr, nr, o3', o4', hr⟩ := round_run c B q (j + 1) t (some (Sl.fr (.int (j : Int)))) (some (Sl.fr (.list [.tuple [.str "group", .list [.tuple [.str "pad", .int 3], d]], .tuple [.str "maybe", d], .tuple [.str "one", .int 1, .list [d]], .tuple [.str "rows", .int 3, d]]))) tt
    refine ⟨r, tr, fun n => ?_, fun n hn => ?_, o3', o4', fun Φ => ?_⟩
    · rw [show n + (q + 1) = (n + 1) + q by omega, gr, gt]
    · by_cases h : n < q
      · exact nr n h
      · have : n = 0 + q := by omega
        rw [this, gr]
        rfl
    · show floop _ (.int (j : Int) :: rg (j + 1) q) _ = _
      rw [floop_cons (e := [(some (Sl.fr (t))), (some (Sl.fr (.int c))), B, (some (Sl.fr (.int (j : Int)))), (some (Sl.fr (.list [.tuple [.str "group", .list [.tuple [.str "pad", .int 3], d]], .tuple [.str "maybe", d], .tuple [.str "one", .int 1, .list [d]], .tuple [.str "rows", .int 3, d]])))])]
      · exact hr Φ
      · simp -implicitDefEqProofs only [Q.xs, Q.xs1, ev, evs, evI, evC, evJ, bind_ok, bind_exc, exR_ok, exR_exc, seq_nx, seq_rt, seq_xc, varR_0, varR_S, bb_add, bb_sub, bb_mul2, bb_and, cc_lt, cc_le, cc_gt, cc_ge, cc_eq, cc_ne, cc_eqb, cc_eqs, ll_len, ll_lent, ll_list, ll_listt, ll_max2, ll_min2, toD_fr, toD_ow, lstR_ok, neg_i, erR_0, erR_S, catch_nx, catch_rt, catch_xc, sfin_rt, sfin_nx, noEr_n, noEr_f, noEr_o, noEr_0, no_int, no_list, no_tuple, no_none, no_bool, no_str, isiD, List.set_cons_zero, List.set_cons_succ, decide_true, decide_false, Bool.not_true, Bool.not_false, if_true, if_false, Bool.false_eq_true, reduceIte, roundL, m4, et, l1, l2, l3, l4]
theorem a_round (h : At_l_round m I) (d : PyData) (ht : tmB d = true) (c : Int) (k : Nat) (hk : k ≤ 9) : ∃ r, tmB r = true ∧ (∀ n, GS (n + k) r = GS n d) ∧ (∀ n, n < k → GS n r = false) ∧ Ans m I.l_round [d, .int c, .int (k : Int)] 1 (.ok (.fr r)) := by
  obtain ⟨r, tr, gr, nr, o3', o4', hr⟩ := round_run (m := m) c (some (Sl.fr (.int (k : Int)))) k 0 d none none ht
  refine ⟨r, tr, gr, nr, ans h (env := [(some (Sl.fr (d))), (some (Sl.fr (.int c))), (some (Sl.fr (.int (k : Int)))), none, none]) rfl rfl fun n hn => ?_⟩
  have hnum : numR (.int (k : Int)) = .ok (k : Int) := numR_ok (by omega)
  have hi : evI SS (m.Phi n) (.rng (.var 2)) [(some (Sl.fr (d))), (some (Sl.fr (.int c))), (some (Sl.fr (.int (k : Int)))), none, none] = .ok (rg 0 k) := by
    simp -implicitDefEqProofs only [Q.xs, Q.xs1, ev, evs, evI, evC, evJ, bind_ok, bind_exc, exR_ok, exR_exc, seq_nx, seq_rt, seq_xc, varR_0, varR_S, bb_add, bb_sub, bb_mul2, bb_and, cc_lt, cc_le, cc_gt, cc_ge, cc_eq, cc_ne, cc_eqb, cc_eqs, ll_len, ll_lent, ll_list, ll_listt, ll_max2, ll_min2, toD_fr, toD_ow, lstR_ok, neg_i, erR_0, erR_S, catch_nx, catch_rt, catch_xc, sfin_rt, sfin_nx, noEr_n, noEr_f, noEr_o, noEr_0, no_int, no_list, no_tuple, no_none, no_bool, no_str, isiD, List.set_cons_zero, List.set_cons_succ, decide_true, decide_false, Bool.not_true, Bool.not_false, if_true, if_false, Bool.false_eq_true, reduceIte, hnum, Int.toNat_natCast]
    rw [rangeD_rg]
  rw [show b_l_round I = .cons (.forI 3 (.rng (.var 2)) roundL) (.cons (.ret (.var 0)) .nil) from rfl, xs_for, hi, exR_ok, hr]
  simp -implicitDefEqProofs only [Q.xs, Q.xs1, ev, evs, evI, evC, evJ, bind_ok, bind_exc, exR_ok, exR_exc, seq_nx, seq_rt, seq_xc, varR_0, varR_S, bb_add, bb_sub, bb_mul2, bb_and, cc_lt, cc_le, cc_gt, cc_ge, cc_eq, cc_ne, cc_eqb, cc_eqs, ll_len, ll_lent, ll_list, ll_listt, ll_max2, ll_min2, toD_fr, toD_ow, lstR_ok, neg_i, erR_0, erR_S, catch_nx, catch_rt, catch_xc, sfin_rt, sfin_nx, noEr_n, noEr_f, noEr_o, noEr_0, no_int, no_list, no_tuple, no_none, no_bool, no_str, isiD, List.set_cons_zero, List.set_cons_succ, decide_true, decide_false, Bool.not_true, Bool.not_false, if_true, if_false, Bool.false_eq_true, reduceIte]
theorem a_depth (h : At_l_depth m I) : ∀ s : Shp, s.ok2 → Ans m I.l_depth [s.d] s.dep (.ok (.fr (.int s.dep))) := by
  refine Shp.ind ?_ ?_ ?_ ?_ ?_ ?_
  · intro w lo hi ok
    refine ans (c := 0) h (env := [(some (Sl.fr ((Shp.num w lo hi).d))), none]) rfl rfl fun n hn => ?_
    simp only [Shp.d, Shp.dep]
    simp -implicitDefEqProofs only [Q.xs, Q.xs1, ev, evs, evI, evC, evJ, bind_ok, bind_exc, exR_ok, exR_exc, seq_nx, seq_rt, seq_xc, varR_0, varR_S, bb_add, bb_sub, bb_mul2, bb_and, cc_lt, cc_le, cc_gt, cc_ge, cc_eq, cc_ne, cc_eqb, cc_eqs, ll_len, ll_lent, ll_list, ll_listt, ll_max2, ll_min2, toD_fr, toD_ow, lstR_ok, neg_i, erR_0, erR_S, catch_nx, catch_rt, catch_xc, sfin_rt, sfin_nx, noEr_n, noEr_f, noEr_o, noEr_0, no_int, no_list, no_tuple, no_none, no_bool, no_str, isiD, List.set_cons_zero, List.set_cons_succ, decide_true, decide_false, Bool.not_true, Bool.not_false, if_true, if_false, Bool.false_eq_true, reduceIte, b_l_depth, ixt0, kk_num_num, kk_num_pad, kk_num_maybe, kk_num_rows, kk_num_group, kk_num_one, kk_pad_num, kk_pad_pad, kk_pad_maybe, kk_pad_rows, kk_pad_group, kk_pad_one, kk_maybe_num, kk_maybe_pad, kk_maybe_maybe, kk_maybe_rows, kk_maybe_group, kk_maybe_one, kk_rows_num, kk_rows_pad, kk_rows_maybe, kk_rows_rows, kk_rows_group, kk_rows_one, kk_group_num, kk_group_pad, kk_group_maybe, kk_group_rows, kk_group_group, kk_group_one, kk_one_num, kk_one_pad, kk_one_maybe, kk_one_rows, kk_one_group, kk_one_one, kk_read_read, kk_read_short, kk_read_left, kk_read_wrong, kk_short_read, kk_short_short, kk_short_left, kk_short_wrong, kk_left_read, kk_left_short, kk_left_left, kk_left_wrong, kk_wrong_read, kk_wrong_short, kk_wrong_left, kk_wrong_wrong]
    rfl
  · intro w ok
    refine ans (c := 0) h (env := [(some (Sl.fr ((Shp.pad w).d))), none]) rfl rfl fun n hn => ?_
    simp only [Shp.d, Shp.dep]
    simp -implicitDefEqProofs only [Q.xs, Q.xs1, ev, evs, evI, evC, evJ, bind_ok, bind_exc, exR_ok, exR_exc, seq_nx, seq_rt, seq_xc, varR_0, varR_S, bb_add, bb_sub, bb_mul2, bb_and, cc_lt, cc_le, cc_gt, cc_ge, cc_eq, cc_ne, cc_eqb, cc_eqs, ll_len, ll_lent, ll_list, ll_listt, ll_max2, ll_min2, toD_fr, toD_ow, lstR_ok, neg_i, erR_0, erR_S, catch_nx, catch_rt, catch_xc, sfin_rt, sfin_nx, noEr_n, noEr_f, noEr_o, noEr_0, no_int, no_list, no_tuple, no_none, no_bool, no_str, isiD, List.set_cons_zero, List.set_cons_succ, decide_true, decide_false, Bool.not_true, Bool.not_false, if_true, if_false, Bool.false_eq_true, reduceIte, b_l_depth, ixt0, kk_num_num, kk_num_pad, kk_num_maybe, kk_num_rows, kk_num_group, kk_num_one, kk_pad_num, kk_pad_pad, kk_pad_maybe, kk_pad_rows, kk_pad_group, kk_pad_one, kk_maybe_num, kk_maybe_pad, kk_maybe_maybe, kk_maybe_rows, kk_maybe_group, kk_maybe_one, kk_rows_num, kk_rows_pad, kk_rows_maybe, kk_rows_rows, kk_rows_group, kk_rows_one, kk_group_num, kk_group_pad, kk_group_maybe, kk_group_rows, kk_group_group, kk_group_one, kk_one_num, kk_one_pad, kk_one_maybe, kk_one_rows, kk_one_group, kk_one_one, kk_read_read, kk_read_short, kk_read_left, kk_read_wrong, kk_short_read, kk_short_short, kk_short_left, kk_short_wrong, kk_left_read, kk_left_short, kk_left_left, kk_left_wrong, kk_wrong_read, kk_wrong_short, kk_wrong_left, kk_wrong_wrong]
    rfl
  · intro s ih ok
    unfold Shp.ok2 at ok
    simp only [Shp.dep]
    refine ans h (env := [(some (Sl.fr ((Shp.maybe s).d))), none]) rfl rfl fun n hn => ?_
    have e1 : ixR (.tuple [.str "maybe", s.d]) (.int (([.str "maybe", s.d] : List PyData).length - 1)) = .ok s.d := rfl
    simp only [Shp.d]
    simp -implicitDefEqProofs only [Q.xs, Q.xs1, ev, evs, evI, evC, evJ, bind_ok, bind_exc, exR_ok, exR_exc, seq_nx, seq_rt, seq_xc, varR_0, varR_S, bb_add, bb_sub, bb_mul2, bb_and, cc_lt, cc_le, cc_gt, cc_ge, cc_eq, cc_ne, cc_eqb, cc_eqs, ll_len, ll_lent, ll_list, ll_listt, ll_max2, ll_min2, toD_fr, toD_ow, lstR_ok, neg_i, erR_0, erR_S, catch_nx, catch_rt, catch_xc, sfin_rt, sfin_nx, noEr_n, noEr_f, noEr_o, noEr_0, no_int, no_list, no_tuple, no_none, no_bool, no_str, isiD, List.set_cons_zero, List.set_cons_succ, decide_true, decide_false, Bool.not_true, Bool.not_false, if_true, if_false, Bool.false_eq_true, reduceIte, b_l_depth, ixt0, kk_num_num, kk_num_pad, kk_num_maybe, kk_num_rows, kk_num_group, kk_num_one, kk_pad_num, kk_pad_pad, kk_pad_maybe, kk_pad_rows, kk_pad_group, kk_pad_one, kk_maybe_num, kk_maybe_pad, kk_maybe_maybe, kk_maybe_rows, kk_maybe_group, kk_maybe_one, kk_rows_num, kk_rows_pad, kk_rows_maybe, kk_rows_rows, kk_rows_group, kk_rows_one, kk_group_num, kk_group_pad, kk_group_maybe, kk_group_rows, kk_group_group, kk_group_one, kk_one_num, kk_one_pad, kk_one_maybe, kk_one_rows, kk_one_group, kk_one_one, kk_read_read, kk_read_short, kk_read_left, kk_read_wrong, kk_short_read, kk_short_short, kk_short_left, kk_short_wrong, kk_left_read, kk_left_short, kk_left_left, kk_left_wrong, kk_wrong_read, kk_wrong_short, kk_wrong_left, kk_wrong_wrong, e1, ih ok n hn]
    rw [show (1 : Int) + (s.dep : Int) = ((s.dep + 1 : Nat) : Int) by omega]
  · intro w s ih ok
    unfold Shp.ok2 at ok
    simp only [Shp.dep]
    refine ans h (env := [(some (Sl.fr ((Shp.rows w s).d))), none]) rfl rfl fun n hn => ?_
    have e1 : ixR (.tuple [.str "rows", .int (w : Int), s.d]) (.int (([.str "rows", .int (w : Int), s.d] : List PyData).length - 1)) = .ok s.d := rfl
    simp only [Shp.d]
    simp -implicitDefEqProofs only [Q.xs, Q.xs1, ev, evs, evI, evC, evJ, bind_ok, bind_exc, exR_ok, exR_exc, seq_nx, seq_rt, seq_xc, varR_0, varR_S, bb_add, bb_sub, bb_mul2, bb_and, cc_lt, cc_le, cc_gt, cc_ge, cc_eq, cc_ne, cc_eqb, cc_eqs, ll_len, ll_lent, ll_list, ll_listt, ll_max2, ll_min2, toD_fr, toD_ow, lstR_ok, neg_i, erR_0, erR_S, catch_nx, catch_rt, catch_xc, sfin_rt, sfin_nx, noEr_n, noEr_f, noEr_o, noEr_0, no_int, no_list, no_tuple, no_none, no_bool, no_str, isiD, List.set_cons_zero, List.set_cons_succ, decide_true, decide_false, Bool.not_true, Bool.not_false, if_true, if_false, Bool.false_eq_true, reduceIte, b_l_depth, ixt0, kk_num_num, kk_num_pad, kk_num_maybe, kk_num_rows, kk_num_group, kk_num_one, kk_pad_num, kk_pad_pad, kk_pad_maybe, kk_pad_rows, kk_pad_group, kk_pad_one, kk_maybe_num, kk_maybe_pad, kk_maybe_maybe, kk_maybe_rows, kk_maybe_group, kk_maybe_one, kk_rows_num, kk_rows_pad, kk_rows_maybe, kk_rows_rows, kk_rows_group, kk_rows_one, kk_group_num, kk_group_pad, kk_group_maybe, kk_group_rows, kk_group_group, kk_group_one, kk_one_num, kk_one_pad, kk_one_maybe, kk_one_rows, kk_one_group, kk_one_one, kk_read_read, kk_read_short, kk_read_left, kk_read_wrong, kk_short_read, kk_short_short, kk_short_left, kk_short_wrong, kk_left_read, kk_left_short, kk_left_left, kk_left_wrong, kk_wrong_read, kk_wrong_short, kk_wrong_left, kk_wrong_wrong, e1, ih ok.2 n hn]
    rw [show (1 : Int) + (s.dep : Int) = ((s.dep + 1 : Nat) : Int) by omega]
  · intro ss ih ok
    unfold Shp.ok2 at ok
    simp only [Shp.dep]
    refine ans h (env := [(some (Sl.fr ((Shp.group ss).d))), none]) rfl rfl fun n hn => ?_
    have e1 : ixR (.tuple [.str "group", .list (ss.map Shp.d)]) (.int (([.str "group", .list (ss.map Shp.d)] : List PyData).length - 1)) = .ok (.list (ss.map Shp.d)) := rfl
    have hm : mapR (fun d => ((m.Phi n I.l_depth [d]).bind Sl.toD).cold) (ss.map Shp.d) = .ok ((ss.map Shp.dep).map fun x : Nat => PyData.int (x : Int)) := by
      rw [List.map_map]
      exact mapR_map ss fun s hs => by
        rw [ih s hs (Shp.ok2s_iff.mp ok.2 s hs) n (by have := Shp.dep_mem hs; omega)]
        rfl
    have hl : ((ss.map Shp.d).length ≤ szl) = True := eq_true (by rw [List.length_map]; have := ok.1; show ss.length ≤ 16777216; omega)
    simp only [Shp.d, Shp.ds_map]
    simp -implicitDefEqProofs only [Q.xs, Q.xs1, ev, evs, evI, evC, evJ, bind_ok, bind_exc, exR_ok, exR_exc, seq_nx, seq_rt, seq_xc, varR_0, varR_S, bb_add, bb_sub, bb_mul2, bb_and, cc_lt, cc_le, cc_gt, cc_ge, cc_eq, cc_ne, cc_eqb, cc_eqs, ll_len, ll_lent, ll_list, ll_listt, ll_max2, ll_min2, toD_fr, toD_ow, lstR_ok, neg_i, erR_0, erR_S, catch_nx, catch_rt, catch_xc, sfin_rt, sfin_nx, noEr_n, noEr_f, noEr_o, noEr_0, no_int, no_list, no_tuple, no_none, no_bool, no_str, isiD, List.set_cons_zero, List.set_cons_succ, decide_true, decide_false, Bool.not_true, Bool.not_false, if_true, if_false, Bool.false_eq_true, reduceIte, b_l_depth, ixt0, kk_num_num, kk_num_pad, kk_num_maybe, kk_num_rows, kk_num_group, kk_num_one, kk_pad_num, kk_pad_pad, kk_pad_maybe, kk_pad_rows, kk_pad_group, kk_pad_one, kk_maybe_num, kk_maybe_pad, kk_maybe_maybe, kk_maybe_rows, kk_maybe_group, kk_maybe_one, kk_rows_num, kk_rows_pad, kk_rows_maybe, kk_rows_rows, kk_rows_group, kk_rows_one, kk_group_num, kk_group_pad, kk_group_maybe, kk_group_rows, kk_group_group, kk_group_one, kk_one_num, kk_one_pad, kk_one_maybe, kk_one_rows, kk_one_group, kk_one_one, kk_read_read, kk_read_short, kk_read_left, kk_read_wrong, kk_short_read, kk_short_short, kk_short_left, kk_short_wrong, kk_left_read, kk_left_short, kk_left_left, kk_left_wrong, kk_wrong_read, kk_wrong_short, kk_wrong_left, kk_wrong_wrong, e1, hl, hm, mx_ints (ss.map Shp.dep) 0 (.inr rfl), lMax_dep]
    rw [show (1 : Int) + (Shp.deps ss : Int) = ((Shp.deps ss + 1 : Nat) : Int) by omega]
  · intro w ss ih ok
    unfold Shp.ok2 at ok
    simp only [Shp.dep]
    refine ans h (env := [(some (Sl.fr ((Shp.one w ss).d))), none]) rfl rfl fun n hn => ?_
    have e1 : ixR (.tuple [.str "one", .int (w : Int), .list (ss.map Shp.d)]) (.int (([.str "one", .int (w : Int), .list (ss.map Shp.d)] : List PyData).length - 1)) = .ok (.list (ss.map Shp.d)) := rfl
    have hm : mapR (fun d => ((m.Phi n I.l_depth [d]).bind Sl.toD).cold) (ss.map Shp.d) = .ok ((ss.map Shp.dep).map fun x : Nat => PyData.int (x : Int)) := by
      rw [List.map_map]
      exact mapR_map ss fun s hs => by
        rw [ih s hs (Shp.ok2s_iff.mp ok.2.2.2.2 s hs) n (by have := Shp.dep_mem hs; omega)]
        rfl
    have hl : ((ss.map Shp.d).length ≤ szl) = True := eq_true (by rw [List.length_map]; have := ok.2.2.1; show ss.length ≤ 16777216; omega)
    simp only [Shp.d, Shp.ds_map]
    simp -implicitDefEqProofs only [Q.xs, Q.xs1, ev, evs, evI, evC, evJ, bind_ok, bind_exc, exR_ok, exR_exc, seq_nx, seq_rt, seq_xc, varR_0, varR_S, bb_add, bb_sub, bb_mul2, bb_and, cc_lt, cc_le, cc_gt, cc_ge, cc_eq, cc_ne, cc_eqb, cc_eqs, ll_len, ll_lent, ll_list, ll_listt, ll_max2, ll_min2, toD_fr, toD_ow, lstR_ok, neg_i, erR_0, erR_S, catch_nx, catch_rt, catch_xc, sfin_rt, sfin_nx, noEr_n, noEr_f, noEr_o, noEr_0, no_int, no_list, no_tuple, no_none, no_bool, no_str, isiD, List.set_cons_zero, List.set_cons_succ, decide_true, decide_false, Bool.not_true, Bool.not_false, if_true, if_false, Bool.false_eq_true, reduceIte, b_l_depth, ixt0, kk_num_num, kk_num_pad, kk_num_maybe, kk_num_rows, kk_num_group, kk_num_one, kk_pad_num, kk_pad_pad, kk_pad_maybe, kk_pad_rows, kk_pad_group, kk_pad_one, kk_maybe_num, kk_maybe_pad, kk_maybe_maybe, kk_maybe_rows, kk_maybe_group, kk_maybe_one, kk_rows_num, kk_rows_pad, kk_rows_maybe, kk_rows_rows, kk_rows_group, kk_rows_one, kk_group_num, kk_group_pad, kk_group_maybe, kk_group_rows, kk_group_group, kk_group_one, kk_one_num, kk_one_pad, kk_one_maybe, kk_one_rows, kk_one_group, kk_one_one, kk_read_read, kk_read_short, kk_read_left, kk_read_wrong, kk_short_read, kk_short_short, kk_short_left, kk_short_wrong, kk_left_read, kk_left_short, kk_left_left, kk_left_wrong, kk_wrong_read, kk_wrong_short, kk_wrong_left, kk_wrong_wrong, e1, hl, hm, mx_ints (ss.map Shp.dep) 0 (.inr rfl), lMax_dep]
    rw [show (1 : Int) + (Shp.deps ss : Int) = ((Shp.deps ss + 1 : Nat) : Int) by omega]
theorem a_goodshape (h : At_p_good_shape m I) (hw : ∀ d, tmB d = true → Ans m I.p_good_within [d, .int 8] 27 (.ok (.fr (.bool (GS 8 d))))) (d : PyData) (ht : tmB d = true) : Ans m I.p_good_shape [d] 28 (.ok (.fr (.bool (GS 8 d)))) := by
  refine ans h (env := [(some (Sl.fr (d)))]) rfl rfl fun n hn => ?_
  simp -implicitDefEqProofs only [Q.xs, Q.xs1, ev, evs, evI, evC, evJ, bind_ok, bind_exc, exR_ok, exR_exc, seq_nx, seq_rt, seq_xc, varR_0, varR_S, bb_add, bb_sub, bb_mul2, bb_and, cc_lt, cc_le, cc_gt, cc_ge, cc_eq, cc_ne, cc_eqb, cc_eqs, ll_len, ll_lent, ll_list, ll_listt, ll_max2, ll_min2, toD_fr, toD_ow, lstR_ok, neg_i, erR_0, erR_S, catch_nx, catch_rt, catch_xc, sfin_rt, sfin_nx, noEr_n, noEr_f, noEr_o, noEr_0, no_int, no_list, no_tuple, no_none, no_bool, no_str, isiD, List.set_cons_zero, List.set_cons_succ, decide_true, decide_false, Bool.not_true, Bool.not_false, if_true, if_false, Bool.false_eq_true, reduceIte, b_p_good_shape, hw d ht n hn]
theorem a_told (h : At_l_told m I) (hg : ∀ d, tmB d = true → Ans m I.p_good_shape [d] 28 (.ok (.fr (.bool (GS 8 d))))) (d : PyData) (ht : tmB d = true) (b : Bool) (hb : GS 8 d = b) : Ans m I.l_told [d, .bool b] 29 (.ok (.fr (.bool true))) := by
  refine ans h (env := [(some (Sl.fr (d))), (some (Sl.fr (.bool b))), none]) rfl rfl fun n hn => ?_
  have g := hg d ht n hn
  rw [hb] at g
  have e : decide (b = b) = true := decide_eq_true rfl
  simp -implicitDefEqProofs only [Q.xs, Q.xs1, ev, evs, evI, evC, evJ, bind_ok, bind_exc, exR_ok, exR_exc, seq_nx, seq_rt, seq_xc, varR_0, varR_S, bb_add, bb_sub, bb_mul2, bb_and, cc_lt, cc_le, cc_gt, cc_ge, cc_eq, cc_ne, cc_eqb, cc_eqs, ll_len, ll_lent, ll_list, ll_listt, ll_max2, ll_min2, toD_fr, toD_ow, lstR_ok, neg_i, erR_0, erR_S, catch_nx, catch_rt, catch_xc, sfin_rt, sfin_nx, noEr_n, noEr_f, noEr_o, noEr_0, no_int, no_list, no_tuple, no_none, no_bool, no_str, isiD, List.set_cons_zero, List.set_cons_succ, decide_true, decide_false, Bool.not_true, Bool.not_false, if_true, if_false, Bool.false_eq_true, reduceIte, b_l_told, g, e]
theorem a_odd (h : At_l_odd m I) (c : Int) : ∃ t, tmB t = true ∧ (∀ n ≤ 8, GS n t = false) ∧ Ans m I.l_odd [.int c] 1 (.ok (.fr t)) := by
  have m1 : binD .mod (.int c) (.int (oddsL.length : Int)) = .ok (.int (c % (oddsL.length : Int))) := bb_mod (by rw [odds_len]; decide)
  obtain ⟨t, ht, e⟩ := ix_any (xs := oddsL) (n := 81) (c % (oddsL.length : Int)) (by rw [odds_len]; omega) odds_len (by rw [odds_len]; omega)
  have q := List.all_eq_true.mp odds_ok t ht
  rw [Bool.and_eq_true] at q
  refine ⟨t, q.1, fun n hn => ?_, ans h (env := [(some (Sl.fr (.int c))), none, none]) rfl rfl fun n hn => ?_⟩
  · have := List.all_eq_true.mp q.2 n (List.mem_range.mpr (by omega))
    simpa using this
  · rw [xs_step 19 (odd_run n c), show dr 19 (b_l_odd I) = .cons (.ret (.ix (.var 2) (.bin .mod (.var 0) (.blt .len (.var 2) .nil)))) .nil from rfl]
    simp -implicitDefEqProofs only [Q.xs, Q.xs1, ev, evs, evI, evC, evJ, bind_ok, bind_exc, exR_ok, exR_exc, seq_nx, seq_rt, seq_xc, varR_0, varR_S, bb_add, bb_sub, bb_mul2, bb_and, cc_lt, cc_le, cc_gt, cc_ge, cc_eq, cc_ne, cc_eqb, cc_eqs, ll_len, ll_lent, ll_list, ll_listt, ll_max2, ll_min2, toD_fr, toD_ow, lstR_ok, neg_i, erR_0, erR_S, catch_nx, catch_rt, catch_xc, sfin_rt, sfin_nx, noEr_n, noEr_f, noEr_o, noEr_0, no_int, no_list, no_tuple, no_none, no_bool, no_str, isiD, List.set_cons_zero, List.set_cons_succ, decide_true, decide_false, Bool.not_true, Bool.not_false, if_true, if_false, Bool.false_eq_true, reduceIte, m1, e]
theorem bounds_ok : ∀ b ∈ boundsS, b.ok2 ∧ b.dep ≤ 2 := by
  intro b hb
  simp only [boundsS, List.mem_cons, List.not_mem_nil, or_false] at hb
  have R : ∀ k : Nat, Shp.ok2s (List.replicate k (.pad 64)) ∧ Shp.deps (List.replicate k (.pad 64)) ≤ 1 := fun k => by
    induction k with
    | zero => exact ⟨trivial, by simp [Shp.deps]⟩
    | succ k ih =>
      rw [List.replicate_succ]
      exact ⟨⟨by simp [Shp.ok2], ih.1⟩, by simp only [Shp.deps, Shp.dep]; omega⟩
  rcases hb with rfl | rfl | rfl | rfl | rfl | rfl | rfl | rfl | rfl | rfl | rfl | rfl | rfl | rfl | rfl | rfl | rfl | rfl | rfl <;>
    first
      | exact ⟨by simp [Shp.ok2, Shp.ok2s], by simp [Shp.dep, Shp.deps]⟩
      | exact ⟨⟨by rw [List.length_replicate]; decide, (R _).1⟩, by simp only [Shp.dep]; have := (R 20).2; omega⟩
      | exact ⟨⟨by decide, by rw [List.length_replicate]; decide, by rw [List.length_replicate]; decide, by rw [List.length_replicate]; decide, (R _).1⟩, by simp only [Shp.dep]; exact Nat.succ_le_succ (R _).2⟩
theorem a_bound (h : At_l_bound m I) (c : Int) : ∃ b : Shp, b.ok2 ∧ b.dep ≤ 2 ∧ Ans m I.l_bound [.int c] 1 (.ok (.fr b.d)) := by
  have hl : boundsL.length = 19 := by rw [bounds_is, List.length_map]; rfl
  have m1 : binD .mod (.int c) (.int (boundsL.length : Int)) = .ok (.int (c % (boundsL.length : Int))) := bb_mod (by rw [hl]; decide)
  obtain ⟨t, ht, e⟩ := ix_any (xs := boundsL) (n := 19) (c % (boundsL.length : Int)) (by rw [hl]; omega) hl (by rw [hl]; omega)
  rw [bounds_is] at ht
  obtain ⟨b, hb, rfl⟩ := List.mem_map.mp ht
  obtain ⟨h1, h2⟩ := bounds_ok b hb
  refine ⟨b, h1, h2, ans h (env := [(some (Sl.fr (.int c))), none, none]) rfl rfl fun n hn => ?_⟩
  rw [xs_step 7 (bound_run n c), show dr 7 (b_l_bound I) = .cons (.ret (.ix (.var 2) (.bin .mod (.var 0) (.blt .len (.var 2) .nil)))) .nil from rfl]
  simp -implicitDefEqProofs only [Q.xs, Q.xs1, ev, evs, evI, evC, evJ, bind_ok, bind_exc, exR_ok, exR_exc, seq_nx, seq_rt, seq_xc, varR_0, varR_S, bb_add, bb_sub, bb_mul2, bb_and, cc_lt, cc_le, cc_gt, cc_ge, cc_eq, cc_ne, cc_eqb, cc_eqs, ll_len, ll_lent, ll_list, ll_listt, ll_max2, ll_min2, toD_fr, toD_ow, lstR_ok, neg_i, erR_0, erR_S, catch_nx, catch_rt, catch_xc, sfin_rt, sfin_nx, noEr_n, noEr_f, noEr_o, noEr_0, no_int, no_list, no_tuple, no_none, no_bool, no_str, isiD, List.set_cons_zero, List.set_cons_succ, decide_true, decide_false, Bool.not_true, Bool.not_false, if_true, if_false, Bool.false_eq_true, reduceIte, m1, e]
def k03L (I : Ix) : Sts := (.cons (.set 5 (.bin .mod (.bin .add (.call I.l_cell_at (.var 0) (.cons (.cI 32) .nil)) (.var 4)) (.cI 6))) (.cons (.set 6 (.bin .add (.call I.l_cell_at (.var 0) (.cons (.cI 33) .nil)) (.bin .mul (.cI 11) (.var 4)))) (.cons (.ifs (.nt (.call I.l_told (.call I.l_round (.call I.l_put (.var 1) (.cons (.var 5) (.cons (.var 2) (.cons (.call I.l_odd (.var 6) .nil) .nil)))) (.cons (.var 2) (.cons (.var 3) .nil))) (.cons (.cB false) .nil))) (.cons (.ret (.cB false)) .nil) .nil) (.cons (.set 7 (.call I.l_put (.var 1) (.cons (.var 5) (.cons (.var 2) (.cons (.call I.l_bound (.var 6) .nil) .nil))))) (.cons (.ifs (.nt (.call I.l_told (.call I.l_round (.var 7) (.cons (.var 2) (.cons (.var 3) .nil))) (.cons (.cmp .le (.bin .add (.call I.l_depth (.var 7) .nil) (.var 3)) (.cI 8)) .nil))) (.cons (.ret (.cB false)) .nil) .nil) .nil)))))
structure HK03 (m : Md) (I : Ix) : Prop where
  cell : At_l_cell_at m I
  odd : At_l_odd m I
  bound : At_l_bound m I
  put : At_l_put m I
  depth : At_l_depth m I
  round : At_l_round m I
  told : At_l_told m I
  shape : At_p_good_shape m I
  within : At_p_good_within m I
  num : At_p_good_num m I
  one : At_p_good_one m I
  parts : At_p_good_parts m I
  whole : At_p_whole_within m I
  roomof : At_p_room_of m I
theorem HK03.good (H : HK03 m I) (d : PyData) (ht : tmB d = true) : Ans m I.p_good_shape [d] 28 (.ok (.fr (.bool (GS 8 d)))) :=
  a_goodshape H.shape (fun d ht => a_good H.within H.num H.one H.parts H.whole H.roomof 8 d ht) d ht
theorem HK03.odd_told (H : HK03 m I) (d : PyData) (ht : tmB d = true) (hd : ∀ n ≤ 8, GS n d = false) (c : Int) (k : Nat) (hk : k ≤ 9) : ∃ r, Ans m I.l_round [d, .int c, .int (k : Int)] 1 (.ok (.fr r)) ∧ Ans m I.l_told [r, .bool false] 29 (.ok (.fr (.bool true))) := by
  obtain ⟨r, tr, gr, nr, ha⟩ := a_round H.round d ht c k hk
  refine ⟨r, ha, a_told H.told H.good r tr false ?_⟩
  by_cases h : k ≤ 8
  · rw [show 8 = (8 - k) + k by omega, gr]
    exact hd _ (by omega)
  · exact nr 8 (by omega)
theorem HK03.shp_told (H : HK03 m I) (s : Shp) (hs : s.ok2) (c : Int) (k : Nat) (hk : k ≤ 9) : ∃ r, Ans m I.l_round [s.d, .int c, .int (k : Int)] 1 (.ok (.fr r)) ∧ Ans m I.l_told [r, .bool (decide ((s.dep : Int) + (k : Int) ≤ 8))] 29 (.ok (.fr (.bool true))) := by
  obtain ⟨r, tr, gr, nr, ha⟩ := a_round H.round s.d (tm_shp s) c k hk
  refine ⟨r, ha, a_told H.told H.good r tr _ ?_⟩
  by_cases h : k ≤ 8
  · have e : GS 8 r = GS (8 - k) s.d := by
      have := gr (8 - k)
      rw [show 8 - k + k = 8 by omega] at this
      exact this
    rw [e, g_shp s hs, Bool.eq_iff_iff, decide_eq_true_eq, decide_eq_true_eq]
    omega
  · rw [nr 8 (by omega)]
    exact (decide_eq_false (by have := s.dep_pos; omega)).symm
theorem k03_loop (H : HK03 m I) (ns : List Int) (s : Shp) (hs : s.ok) (hd : s.dep ≤ 4) (c : Int) (k : Nat) (hk : k ≤ 9) : ∀ (q j : Nat) (o4 o5 o6 o7 : Option Sl), ∃ o4' o5' o6' o7', ∀ n, 40 ≤ n → floop (fun d env => xs SS m.sub (m.Phi n) m.L (k03L I) (env.set 4 (some (Sl.fr (d))))) (rg j q) [(some (Sl.fr (.list (ns.map .int)))), (some (Sl.fr (s.d))), (some (Sl.fr (.int c))), (some (Sl.fr (.int (k : Int)))), o4, o5, o6, o7] =
    .nx [(some (Sl.fr (.list (ns.map .int)))), (some (Sl.fr (s.d))), (some (Sl.fr (.int c))), (some (Sl.fr (.int (k : Int)))), o4', o5', o6', o7']
  | 0, j, o4, o5, o6, o7 => ⟨o4, o5, o6, o7, fun n hn => rfl⟩
  | q + 1, j, o4, o5, o6, o7 => by
    obtain ⟨c32, h32⟩ := cellE H.cell ns 32 (by omega)
    obtain ⟨c33, h33⟩ := cellE H.cell ns 33 (by omega)
    have m6 : binD .mod (.int (c32 + (j : Int))) (.int 6) = .ok (.int ((c32 + (j : Int)) % 6)) := bb_mod (by decide)
    have m11 : binD .mul (.int 11) (.int (j : Int)) = .ok (.int (11 * (j : Int))) := bb_mul (.inl ⟨by decide, by decide⟩)
    obtain ⟨x, hx⟩ : ∃ x, (c32 + (j : Int)) % 6 = x := ⟨_, rfl⟩
    obtain ⟨y, hy⟩ : ∃ y, c33 + 11 * (j : Int) = y := ⟨_, rfl⟩
    obtain ⟨t, tt, bt, ht⟩ := a_odd H.odd y
    obtain ⟨d1, pd1, hd1⟩ := a_put H.put t s hs x c
    obtain ⟨r1, hr1, ht1⟩ := H.odd_told d1 (put_tm tt pd1) (put_bad bt pd1) c k hk
    obtain ⟨b, ob, db, hb⟩ := a_bound H.bound y
    obtain ⟨d2, pd2, hd2⟩ := a_put H.put b.d s hs x c
    obtain ⟨s2, os2, rfl, ds2⟩ := put_shp ob rfl pd2 (s.ok_ok2 hs)
    obtain ⟨r2, hr2, ht2⟩ := H.shp_told s2 os2 c k hk
    have hdp := a_depth H.depth s2 os2
    obtain ⟨o4', o5', o6', o7', hr⟩ := k03_loop H ns s hs hd c k hk q (j + 1) (some (Sl.fr (.int (j : Int)))) (some (Sl.fr (.int x))) (some (Sl.fr (.int y))) (some (Sl.fr (s2.d)))
    refine ⟨o4', o5', o6', o7', fun n hn => ?_⟩
    show floop _ (.int (j : Int) :: rg (j + 1) q) _ = _
    rw [floop_cons (e := [(some (Sl.fr (.list (ns.map .int)))), (some (Sl.fr (s.d))), (some (Sl.fr (.int c))), (some (Sl.fr (.int (k : Int)))), (some (Sl.fr (.int (j : Int)))), (some (Sl.fr (.int x))), (some (Sl.fr (.int y))), (some (Sl.fr (s2.d)))])]
    · exact hr n hn
    · simp -implicitDefEqProofs only [Q.xs, Q.xs1, ev, evs, evI, evC, evJ, bind_ok, bind_exc, exR_ok, exR_exc, seq_nx, seq_rt, seq_xc, varR_0, varR_S, bb_add, bb_sub, bb_mul2, bb_and, cc_lt, cc_le, cc_gt, cc_ge, cc_eq, cc_ne, cc_eqb, cc_eqs, ll_len, ll_lent, ll_list, ll_listt, ll_max2, ll_min2, toD_fr, toD_ow, lstR_ok, neg_i, erR_0, erR_S, catch_nx, catch_rt, catch_xc, sfin_rt, sfin_nx, noEr_n, noEr_f, noEr_o, noEr_0, no_int, no_list, no_tuple, no_none, no_bool, no_str, isiD, List.set_cons_zero, List.set_cons_succ, decide_true, decide_false, Bool.not_true, Bool.not_false, if_true, if_false, Bool.false_eq_true, reduceIte, k03L, h32 n (by omega), h33 n (by omega), m6, m11, hx, hy, ht n (by omega), hd1 n (by omega), hr1 n (by omega), ht1 n (by omega), hb n (by omega), hd2 n (by omega), hr2 n (by omega), ht2 n (by omega), hdp n (by omega)]
theorem k03 {j : Nat} (h : At m j 8 1 (b_law_k03 I)) (H : HK03 m I) (hr : At_l_room m I) (hlf : At_l_leaf m I) (ho : At_l_one m I) (hg : At_l_group m I) (hs : At_l_shape m I) (ns : List Int) (hl : ns.length ≤ 63) : Ans m j [.list (ns.map .int)] 50 (.ok (.fr (.bool true))) := by
  obtain ⟨s, hP, ps⟩ := s_shape hs hlf H.cell hr ho hg ns 3 0 (by decide) (by decide)
  obtain ⟨c30, h30⟩ := cellE H.cell ns 30 (by omega)
  obtain ⟨c31, h31⟩ := cellE H.cell ns 31 (by omega)
  have m10 : binD .mod (.int c31) (.int 10) = .ok (.int (c31 % 10)) := bb_mod (by decide)
  obtain ⟨k, hk⟩ : ∃ k : Nat, c31 % 10 = k := ⟨(c31 % 10).toNat, by omega⟩
  obtain ⟨r, hrd, htd⟩ := H.shp_told s (s.ok_ok2 hP.1) c30 k (by omega)
  have hdp := a_depth H.depth s (s.ok_ok2 hP.1)
  obtain ⟨o4', o5', o6', o7', hlp⟩ := k03_loop H ns s hP.1 hP.2.1 c30 k (by omega) 5 0 none none none none
  have eq1 : cmpR SS .eq s.d s.d = .ok true := eqR_self s.lay.1 (by have := s.lay.2; have := hP.2.1; omega)
  refine ans (c := 49) h (env := [(some (Sl.fr (.list (ns.map .int)))), none, none, none, none, none, none, none]) rfl rfl fun n hn => ?_
  have ps := ps n (by omega)
  rw [show ((0 : Nat) : Int) = 0 from rfl] at ps
  have hnum : numR (.int (5 : Int)) = .ok (5 : Int) := numR_ok (by omega)
  have st : xs SS m.sub (m.Phi n) m.L (tk 4 (b_law_k03 I)) [(some (Sl.fr (.list (ns.map .int)))), none, none, none, none, none, none, none] = .nx [(some (Sl.fr (.list (ns.map .int)))), (some (Sl.fr (s.d))), (some (Sl.fr (.int c30))), (some (Sl.fr (.int (k : Int)))), none, none, none, none] := by
    simp -implicitDefEqProofs only [Q.xs, Q.xs1, ev, evs, evI, evC, evJ, bind_ok, bind_exc, exR_ok, exR_exc, seq_nx, seq_rt, seq_xc, varR_0, varR_S, bb_add, bb_sub, bb_mul2, bb_and, cc_lt, cc_le, cc_gt, cc_ge, cc_eq, cc_ne, cc_eqb, cc_eqs, ll_len, ll_lent, ll_list, ll_listt, ll_max2, ll_min2, toD_fr, toD_ow, lstR_ok, neg_i, erR_0, erR_S, catch_nx, catch_rt, catch_xc, sfin_rt, sfin_nx, noEr_n, noEr_f, noEr_o, noEr_0, no_int, no_list, no_tuple, no_none, no_bool, no_str, isiD, List.set_cons_zero, List.set_cons_succ, decide_true, decide_false, Bool.not_true, Bool.not_false, if_true, if_false, Bool.false_eq_true, reduceIte, b_law_k03, tk, ps, h30 n (by omega), h31 n (by omega), m10, hk, hrd n (by omega), htd n (by omega), hdp n (by have := hP.2.1; omega)]
  have hi : evI SS (m.Phi n) (.rng (.cI 5)) [(some (Sl.fr (.list (ns.map .int)))), (some (Sl.fr (s.d))), (some (Sl.fr (.int c30))), (some (Sl.fr (.int (k : Int)))), none, none, none, none] = .ok (rg 0 5) := by
    simp -implicitDefEqProofs only [Q.xs, Q.xs1, ev, evs, evI, evC, evJ, bind_ok, bind_exc, exR_ok, exR_exc, seq_nx, seq_rt, seq_xc, varR_0, varR_S, bb_add, bb_sub, bb_mul2, bb_and, cc_lt, cc_le, cc_gt, cc_ge, cc_eq, cc_ne, cc_eqb, cc_eqs, ll_len, ll_lent, ll_list, ll_listt, ll_max2, ll_min2, toD_fr, toD_ow, lstR_ok, neg_i, erR_0, erR_S, catch_nx, catch_rt, catch_xc, sfin_rt, sfin_nx, noEr_n, noEr_f, noEr_o, noEr_0, no_int, no_list, no_tuple, no_none, no_bool, no_str, isiD, List.set_cons_zero, List.set_cons_succ, decide_true, decide_false, Bool.not_true, Bool.not_false, if_true, if_false, Bool.false_eq_true, reduceIte, hnum]
    rfl
  rw [xs_step 4 st, show dr 4 (b_law_k03 I) = .cons (.forI 4 (.rng (.cI 5)) (k03L I)) (.cons (.ret (.cmp .eq (.var 1) (.call I.l_shape (.var 0) (.cons (.cI 0) .nil)))) .nil) from rfl, xs_for, hi, exR_ok, hlp n (by omega)]
  simp -implicitDefEqProofs only [Q.xs, Q.xs1, ev, evs, evI, evC, evJ, bind_ok, bind_exc, exR_ok, exR_exc, seq_nx, seq_rt, seq_xc, varR_0, varR_S, bb_add, bb_sub, bb_mul2, bb_and, cc_lt, cc_le, cc_gt, cc_ge, cc_eq, cc_ne, cc_eqb, cc_eqs, ll_len, ll_lent, ll_list, ll_listt, ll_max2, ll_min2, toD_fr, toD_ow, lstR_ok, neg_i, erR_0, erR_S, catch_nx, catch_rt, catch_xc, sfin_rt, sfin_nx, noEr_n, noEr_f, noEr_o, noEr_0, no_int, no_list, no_tuple, no_none, no_bool, no_str, isiD, List.set_cons_zero, List.set_cons_succ, decide_true, decide_false, Bool.not_true, Bool.not_false, if_true, if_false, Bool.false_eq_true, reduceIte, ps, eq1]
end
end Q

namespace QKk03
open Q
open PySem (PyData Str)
theorem law_is : ∀ ns : List Int, ns.length ≤ 63 → md.Phi 60 19 [.list (ns.map .int)] = .ok (.fr (.bool true)) := fun ns hl =>
  k03 (I := ix) at_law_k03 ⟨at_l_cell_at, at_l_odd, at_l_bound, at_l_put, at_l_depth, at_l_round, at_l_told, at_p_good_shape, at_p_good_within, at_p_good_num, at_p_good_one, at_p_good_parts, at_p_whole_within, at_p_room_of⟩ at_l_room at_l_leaf at_l_one at_l_group at_l_shape ns hl 60 (by decide)
end QKk03

set_option Elab.async false
set_option linter.all false
set_option maxRecDepth 100000
set_option maxHeartbeats 8000000
namespace QKk03
open PySem PySem.Spec PyProof.Rows L2 Q

def pl (i : Nat) : Stmt := PySem.Challenge.pw_bitpack_k03_good_shapes.main.body.getD i (.Pass ⟨0, 0, 0, 0⟩)
theorem sc0 : FnScope d0.N (d0.N.take d0.ar) (defScope (pl 1)) := ⟨rfl, rfl, rfl, by decide +kernel, rfl, by decide +kernel, by decide +kernel⟩
theorem ck0 : chkSs (md.cfg d0.N) d0.bd (defScope (pl 1)) (defBody (pl 1)) = true := by decide +kernel
theorem sc1 : FnScope d1.N (d1.N.take d1.ar) (defScope (pl 9)) := ⟨rfl, rfl, rfl, by decide +kernel, rfl, by decide +kernel, by decide +kernel⟩
theorem ck1 : chkSs (md.cfg d1.N) d1.bd (defScope (pl 9)) (defBody (pl 9)) = true := by decide +kernel
theorem sc2 : FnScope d2.N (d2.N.take d2.ar) (defScope (pl 10)) := ⟨rfl, rfl, rfl, by decide +kernel, rfl, by decide +kernel, by decide +kernel⟩
theorem ck2 : chkSs (md.cfg d2.N) d2.bd (defScope (pl 10)) (defBody (pl 10)) = true := by decide +kernel
theorem sc3 : FnScope d3.N (d3.N.take d3.ar) (defScope (pl 11)) := ⟨rfl, rfl, rfl, by decide +kernel, rfl, by decide +kernel, by decide +kernel⟩
theorem ck3 : chkSs (md.cfg d3.N) d3.bd (defScope (pl 11)) (defBody (pl 11)) = true := by decide +kernel
theorem sc4 : FnScope d4.N (d4.N.take d4.ar) (defScope (pl 12)) := ⟨rfl, rfl, rfl, by decide +kernel, rfl, by decide +kernel, by decide +kernel⟩
theorem ck4 : chkSs (md.cfg d4.N) d4.bd (defScope (pl 12)) (defBody (pl 12)) = true := by decide +kernel
theorem sc5 : FnScope d5.N (d5.N.take d5.ar) (defScope (pl 13)) := ⟨rfl, rfl, rfl, by decide +kernel, rfl, by decide +kernel, by decide +kernel⟩
theorem ck5 : chkSs (md.cfg d5.N) d5.bd (defScope (pl 13)) (defBody (pl 13)) = true := by decide +kernel
theorem sc6 : FnScope d6.N (d6.N.take d6.ar) (defScope (pl 14)) := ⟨rfl, rfl, rfl, by decide +kernel, rfl, by decide +kernel, by decide +kernel⟩
theorem ck6 : chkSs (md.cfg d6.N) d6.bd (defScope (pl 14)) (defBody (pl 14)) = true := by decide +kernel
theorem sc7 : FnScope d7.N (d7.N.take d7.ar) (defScope (pl 16)) := ⟨rfl, rfl, rfl, by decide +kernel, rfl, by decide +kernel, by decide +kernel⟩
theorem ck7 : chkSs (md.cfg d7.N) d7.bd (defScope (pl 16)) (defBody (pl 16)) = true := by decide +kernel
theorem sc8 : FnScope d8.N (d8.N.take d8.ar) (defScope (pl 17)) := ⟨rfl, rfl, rfl, by decide +kernel, rfl, by decide +kernel, by decide +kernel⟩
theorem ck8 : chkSs (md.cfg d8.N) d8.bd (defScope (pl 17)) (defBody (pl 17)) = true := by decide +kernel
theorem sc9 : FnScope d9.N (d9.N.take d9.ar) (defScope (pl 18)) := ⟨rfl, rfl, rfl, by decide +kernel, rfl, by decide +kernel, by decide +kernel⟩
theorem ck9 : chkSs (md.cfg d9.N) d9.bd (defScope (pl 18)) (defBody (pl 18)) = true := by decide +kernel
theorem sc10 : FnScope d10.N (d10.N.take d10.ar) (defScope (pl 19)) := ⟨rfl, rfl, rfl, by decide +kernel, rfl, by decide +kernel, by decide +kernel⟩
theorem ck10 : chkSs (md.cfg d10.N) d10.bd (defScope (pl 19)) (defBody (pl 19)) = true := by decide +kernel
theorem sc11 : FnScope d11.N (d11.N.take d11.ar) (defScope (pl 20)) := ⟨rfl, rfl, rfl, by decide +kernel, rfl, by decide +kernel, by decide +kernel⟩
theorem ck11 : chkSs (md.cfg d11.N) d11.bd (defScope (pl 20)) (defBody (pl 20)) = true := by decide +kernel
theorem sc12 : FnScope d12.N (d12.N.take d12.ar) (defScope (pl 21)) := ⟨rfl, rfl, rfl, by decide +kernel, rfl, by decide +kernel, by decide +kernel⟩
theorem ck12 : chkSs (md.cfg d12.N) d12.bd (defScope (pl 21)) (defBody (pl 21)) = true := by decide +kernel
theorem sc13 : FnScope d13.N (d13.N.take d13.ar) (defScope (pl 23)) := ⟨rfl, rfl, rfl, by decide +kernel, rfl, by decide +kernel, by decide +kernel⟩
theorem ck13 : chkSs (md.cfg d13.N) d13.bd (defScope (pl 23)) (defBody (pl 23)) = true := by decide +kernel
theorem sc14 : FnScope d14.N (d14.N.take d14.ar) (defScope (pl 24)) := ⟨rfl, rfl, rfl, by decide +kernel, rfl, by decide +kernel, by decide +kernel⟩
theorem ck14 : chkSs (md.cfg d14.N) d14.bd (defScope (pl 24)) (defBody (pl 24)) = true := by decide +kernel
theorem sc15 : FnScope d15.N (d15.N.take d15.ar) (defScope (pl 25)) := ⟨rfl, rfl, rfl, by decide +kernel, rfl, by decide +kernel, by decide +kernel⟩
theorem ck15 : chkSs (md.cfg d15.N) d15.bd (defScope (pl 25)) (defBody (pl 25)) = true := by decide +kernel
theorem sc16 : FnScope d16.N (d16.N.take d16.ar) (defScope (pl 26)) := ⟨rfl, rfl, rfl, by decide +kernel, rfl, by decide +kernel, by decide +kernel⟩
theorem ck16 : chkSs (md.cfg d16.N) d16.bd (defScope (pl 26)) (defBody (pl 26)) = true := by decide +kernel
theorem sc17 : FnScope d17.N (d17.N.take d17.ar) (defScope (pl 27)) := ⟨rfl, rfl, rfl, by decide +kernel, rfl, by decide +kernel, by decide +kernel⟩
theorem ck17 : chkSs (md.cfg d17.N) d17.bd (defScope (pl 27)) (defBody (pl 27)) = true := by decide +kernel
theorem sc18 : FnScope d18.N (d18.N.take d18.ar) (defScope (pl 28)) := ⟨rfl, rfl, rfl, by decide +kernel, rfl, by decide +kernel, by decide +kernel⟩
theorem ck18 : chkSs (md.cfg d18.N) d18.bd (defScope (pl 28)) (defBody (pl 28)) = true := by decide +kernel
theorem sc19 : FnScope d19.N (d19.N.take d19.ar) (defScope (pl 29)) := ⟨rfl, rfl, rfl, by decide +kernel, rfl, by decide +kernel, by decide +kernel⟩
theorem ck19 : chkSs (md.cfg d19.N) d19.bd (defScope (pl 29)) (defBody (pl 29)) = true := by decide +kernel
theorem all_mk {l : PySem.W.OpenLaw} {w : World} {K : PySem.W.Frag} {h : Heap} {mg : Str → Option Value} {fa : Addr} (X : K.In h) (G : h.Ns mainGlobals mg) (hfa : mg "law" = some (.ref fa))
    {od0 an0 : Option Addr} {sl0 : Array (Option Value)} {oc0 kV0 dc0 pm0 ct0 : Value} {f0 : Addr}
    {cd0 : Value}
    {od1 an1 : Option Addr} {sl1 : Array (Option Value)} {oc1 kV1 dc1 pm1 ct1 : Value} {f1 : Addr}
    {cd1 : Value}
    {od2 an2 : Option Addr} {sl2 : Array (Option Value)} {oc2 kV2 dc2 pm2 ct2 : Value} {f2 : Addr}
    {cd2 : Value}
    {od3 an3 : Option Addr} {sl3 : Array (Option Value)} {oc3 kV3 dc3 pm3 ct3 : Value} {f3 : Addr}
    {cd3 : Value}
    {od4 an4 : Option Addr} {sl4 : Array (Option Value)} {oc4 kV4 dc4 pm4 ct4 : Value} {f4 : Addr}
    {cd4 : Value}
    {od5 an5 : Option Addr} {sl5 : Array (Option Value)} {oc5 kV5 dc5 pm5 ct5 : Value} {f5 : Addr}
    {gc5 gP5 : Addr}
    {od6 an6 : Option Addr} {sl6 : Array (Option Value)} {oc6 kV6 dc6 pm6 ct6 : Value} {f6 : Addr}
    {cd6 : Value}
    {od7 an7 : Option Addr} {sl7 : Array (Option Value)} {oc7 kV7 dc7 pm7 ct7 : Value} {f7 : Addr}
    {cd7 : Value}
    {od8 an8 : Option Addr} {sl8 : Array (Option Value)} {oc8 kV8 dc8 pm8 ct8 : Value} {f8 : Addr}
    {cd8 : Value}
    {od9 an9 : Option Addr} {sl9 : Array (Option Value)} {oc9 kV9 dc9 pm9 ct9 : Value} {f9 : Addr}
    {cd9 : Value}
    {od10 an10 : Option Addr} {sl10 : Array (Option Value)} {oc10 kV10 dc10 pm10 ct10 : Value} {f10 : Addr}
    {cd10 : Value}
    {od11 an11 : Option Addr} {sl11 : Array (Option Value)} {oc11 kV11 dc11 pm11 ct11 : Value} {f11 : Addr}
    {cd11 : Value}
    {od12 an12 : Option Addr} {sl12 : Array (Option Value)} {oc12 kV12 dc12 pm12 ct12 : Value} {f12 : Addr}
    {cd12 : Value}
    {od13 an13 : Option Addr} {sl13 : Array (Option Value)} {oc13 kV13 dc13 pm13 ct13 : Value} {f13 : Addr}
    {cd13 : Value}
    {od14 an14 : Option Addr} {sl14 : Array (Option Value)} {oc14 kV14 dc14 pm14 ct14 : Value} {f14 : Addr}
    {cd14 : Value}
    {od15 an15 : Option Addr} {sl15 : Array (Option Value)} {oc15 kV15 dc15 pm15 ct15 : Value} {f15 : Addr}
    {cd15 : Value}
    {od16 an16 : Option Addr} {sl16 : Array (Option Value)} {oc16 kV16 dc16 pm16 ct16 : Value} {f16 : Addr}
    {cd16 : Value}
    {od17 an17 : Option Addr} {sl17 : Array (Option Value)} {oc17 kV17 dc17 pm17 ct17 : Value} {f17 : Addr}
    {cd17 : Value}
    {od18 an18 : Option Addr} {sl18 : Array (Option Value)} {oc18 kV18 dc18 pm18 ct18 : Value} {f18 : Addr}
    {cd18 : Value}
    {od19 an19 : Option Addr} {sl19 : Array (Option Value)} {oc19 kV19 dc19 pm19 ct19 : Value} {f19 : Addr}
    {cd19 : Value}
    {t_DEEPEST : Tok}
    {t_MOST_IN_GROUP : Tok}
    {t_WIDEST_COUNT : Tok}
    {t_WIDEST_NUMBER : Tok}
    {t_FARTHEST : Tok}
    {t_MOST_IN_ONE : Tok}
    (a0 : PySem.W.nsIn K mainGlobals "room_of" = some (some (.ref f0)))
    (l0 : K.lookup f0 = some ⟨oc0, od0, .func (PySem.W.fnOf "room_of" "room_of" (defArgs (pl 1)) (defBody (pl 1)) (defScope (pl 1)) .none kV0 dc0 pm0 an0 cd0 ct0), sl0⟩)
    (c0 : PySem.W.codeIn K cd0 "room_of" = true)
    (k0 : PySem.W.keepIn K (.ref f0) = true)
    (a1 : PySem.W.nsIn K mainGlobals "good_shape" = some (some (.ref f1)))
    (l1 : K.lookup f1 = some ⟨oc1, od1, .func (PySem.W.fnOf "good_shape" "good_shape" (defArgs (pl 9)) (defBody (pl 9)) (defScope (pl 9)) .none kV1 dc1 pm1 an1 cd1 ct1), sl1⟩)
    (c1 : PySem.W.codeIn K cd1 "good_shape" = true)
    (k1 : PySem.W.keepIn K (.ref f1) = true)
    (a2 : PySem.W.nsIn K mainGlobals "good_within" = some (some (.ref f2)))
    (l2 : K.lookup f2 = some ⟨oc2, od2, .func (PySem.W.fnOf "good_within" "good_within" (defArgs (pl 10)) (defBody (pl 10)) (defScope (pl 10)) .none kV2 dc2 pm2 an2 cd2 ct2), sl2⟩)
    (c2 : PySem.W.codeIn K cd2 "good_within" = true)
    (k2 : PySem.W.keepIn K (.ref f2) = true)
    (a3 : PySem.W.nsIn K mainGlobals "good_num" = some (some (.ref f3)))
    (l3 : K.lookup f3 = some ⟨oc3, od3, .func (PySem.W.fnOf "good_num" "good_num" (defArgs (pl 11)) (defBody (pl 11)) (defScope (pl 11)) .none kV3 dc3 pm3 an3 cd3 ct3), sl3⟩)
    (c3 : PySem.W.codeIn K cd3 "good_num" = true)
    (k3 : PySem.W.keepIn K (.ref f3) = true)
    (a4 : PySem.W.nsIn K mainGlobals "good_one" = some (some (.ref f4)))
    (l4 : K.lookup f4 = some ⟨oc4, od4, .func (PySem.W.fnOf "good_one" "good_one" (defArgs (pl 12)) (defBody (pl 12)) (defScope (pl 12)) .none kV4 dc4 pm4 an4 cd4 ct4), sl4⟩)
    (c4 : PySem.W.codeIn K cd4 "good_one" = true)
    (k4 : PySem.W.keepIn K (.ref f4) = true)
    (a5 : PySem.W.nsIn K mainGlobals "good_parts" = some (some (.ref f5)))
    (l5 : K.lookup f5 = some ⟨oc5, od5, .func (PySem.W.fnOf "good_parts" "good_parts" (defArgs (pl 13)) (defBody (pl 13)) (defScope (pl 13)) .none kV5 dc5 pm5 an5 (.ref gc5) ct5), sl5⟩)
    (c5 : PySem.W.codeIn K (.ref gc5) "good_parts" = true)
    (gq5 : PySem.W.tabIn K "good_parts" = some (gc5, gP5))
    (gl5 : K.lookup gP5 = none)
    (gt5 : PySem.W.CodeHd h gc5 gP5 ∧ h.get? gP5 = some (PySem.W.tabObj #[]))
    (k5 : PySem.W.keepIn K (.ref f5) = true)
    (a6 : PySem.W.nsIn K mainGlobals "whole_within" = some (some (.ref f6)))
    (l6 : K.lookup f6 = some ⟨oc6, od6, .func (PySem.W.fnOf "whole_within" "whole_within" (defArgs (pl 14)) (defBody (pl 14)) (defScope (pl 14)) .none kV6 dc6 pm6 an6 cd6 ct6), sl6⟩)
    (c6 : PySem.W.codeIn K cd6 "whole_within" = true)
    (k6 : PySem.W.keepIn K (.ref f6) = true)
    (a7 : PySem.W.nsIn K mainGlobals "_law_cell_at" = some (some (.ref f7)))
    (l7 : K.lookup f7 = some ⟨oc7, od7, .func (PySem.W.fnOf "_law_cell_at" "_law_cell_at" (defArgs (pl 16)) (defBody (pl 16)) (defScope (pl 16)) .none kV7 dc7 pm7 an7 cd7 ct7), sl7⟩)
    (c7 : PySem.W.codeIn K cd7 "_law_cell_at" = true)
    (k7 : PySem.W.keepIn K (.ref f7) = true)
    (a8 : PySem.W.nsIn K mainGlobals "_law_room" = some (some (.ref f8)))
    (l8 : K.lookup f8 = some ⟨oc8, od8, .func (PySem.W.fnOf "_law_room" "_law_room" (defArgs (pl 17)) (defBody (pl 17)) (defScope (pl 17)) .none kV8 dc8 pm8 an8 cd8 ct8), sl8⟩)
    (c8 : PySem.W.codeIn K cd8 "_law_room" = true)
    (k8 : PySem.W.keepIn K (.ref f8) = true)
    (a9 : PySem.W.nsIn K mainGlobals "_law_leaf" = some (some (.ref f9)))
    (l9 : K.lookup f9 = some ⟨oc9, od9, .func (PySem.W.fnOf "_law_leaf" "_law_leaf" (defArgs (pl 18)) (defBody (pl 18)) (defScope (pl 18)) .none kV9 dc9 pm9 an9 cd9 ct9), sl9⟩)
    (c9 : PySem.W.codeIn K cd9 "_law_leaf" = true)
    (k9 : PySem.W.keepIn K (.ref f9) = true)
    (a10 : PySem.W.nsIn K mainGlobals "_law_one" = some (some (.ref f10)))
    (l10 : K.lookup f10 = some ⟨oc10, od10, .func (PySem.W.fnOf "_law_one" "_law_one" (defArgs (pl 19)) (defBody (pl 19)) (defScope (pl 19)) .none kV10 dc10 pm10 an10 cd10 ct10), sl10⟩)
    (c10 : PySem.W.codeIn K cd10 "_law_one" = true)
    (k10 : PySem.W.keepIn K (.ref f10) = true)
    (a11 : PySem.W.nsIn K mainGlobals "_law_group" = some (some (.ref f11)))
    (l11 : K.lookup f11 = some ⟨oc11, od11, .func (PySem.W.fnOf "_law_group" "_law_group" (defArgs (pl 20)) (defBody (pl 20)) (defScope (pl 20)) .none kV11 dc11 pm11 an11 cd11 ct11), sl11⟩)
    (c11 : PySem.W.codeIn K cd11 "_law_group" = true)
    (k11 : PySem.W.keepIn K (.ref f11) = true)
    (a12 : PySem.W.nsIn K mainGlobals "_law_shape" = some (some (.ref f12)))
    (l12 : K.lookup f12 = some ⟨oc12, od12, .func (PySem.W.fnOf "_law_shape" "_law_shape" (defArgs (pl 21)) (defBody (pl 21)) (defScope (pl 21)) .none kV12 dc12 pm12 an12 cd12 ct12), sl12⟩)
    (c12 : PySem.W.codeIn K cd12 "_law_shape" = true)
    (k12 : PySem.W.keepIn K (.ref f12) = true)
    (a13 : PySem.W.nsIn K mainGlobals "_law_odd" = some (some (.ref f13)))
    (l13 : K.lookup f13 = some ⟨oc13, od13, .func (PySem.W.fnOf "_law_odd" "_law_odd" (defArgs (pl 23)) (defBody (pl 23)) (defScope (pl 23)) .none kV13 dc13 pm13 an13 cd13 ct13), sl13⟩)
    (c13 : PySem.W.codeIn K cd13 "_law_odd" = true)
    (k13 : PySem.W.keepIn K (.ref f13) = true)
    (a14 : PySem.W.nsIn K mainGlobals "_law_bound" = some (some (.ref f14)))
    (l14 : K.lookup f14 = some ⟨oc14, od14, .func (PySem.W.fnOf "_law_bound" "_law_bound" (defArgs (pl 24)) (defBody (pl 24)) (defScope (pl 24)) .none kV14 dc14 pm14 an14 cd14 ct14), sl14⟩)
    (c14 : PySem.W.codeIn K cd14 "_law_bound" = true)
    (k14 : PySem.W.keepIn K (.ref f14) = true)
    (a15 : PySem.W.nsIn K mainGlobals "_law_put" = some (some (.ref f15)))
    (l15 : K.lookup f15 = some ⟨oc15, od15, .func (PySem.W.fnOf "_law_put" "_law_put" (defArgs (pl 25)) (defBody (pl 25)) (defScope (pl 25)) .none kV15 dc15 pm15 an15 cd15 ct15), sl15⟩)
    (c15 : PySem.W.codeIn K cd15 "_law_put" = true)
    (k15 : PySem.W.keepIn K (.ref f15) = true)
    (a16 : PySem.W.nsIn K mainGlobals "_law_depth" = some (some (.ref f16)))
    (l16 : K.lookup f16 = some ⟨oc16, od16, .func (PySem.W.fnOf "_law_depth" "_law_depth" (defArgs (pl 26)) (defBody (pl 26)) (defScope (pl 26)) .none kV16 dc16 pm16 an16 cd16 ct16), sl16⟩)
    (c16 : PySem.W.codeIn K cd16 "_law_depth" = true)
    (k16 : PySem.W.keepIn K (.ref f16) = true)
    (a17 : PySem.W.nsIn K mainGlobals "_law_round" = some (some (.ref f17)))
    (l17 : K.lookup f17 = some ⟨oc17, od17, .func (PySem.W.fnOf "_law_round" "_law_round" (defArgs (pl 27)) (defBody (pl 27)) (defScope (pl 27)) .none kV17 dc17 pm17 an17 cd17 ct17), sl17⟩)
    (c17 : PySem.W.codeIn K cd17 "_law_round" = true)
    (k17 : PySem.W.keepIn K (.ref f17) = true)
    (a18 : PySem.W.nsIn K mainGlobals "_law_told" = some (some (.ref f18)))
    (l18 : K.lookup f18 = some ⟨oc18, od18, .func (PySem.W.fnOf "_law_told" "_law_told" (defArgs (pl 28)) (defBody (pl 28)) (defScope (pl 28)) .none kV18 dc18 pm18 an18 cd18 ct18), sl18⟩)
    (c18 : PySem.W.codeIn K cd18 "_law_told" = true)
    (k18 : PySem.W.keepIn K (.ref f18) = true)
    (a19 : PySem.W.nsIn K mainGlobals "law" = some (some (.ref f19)))
    (l19 : K.lookup f19 = some ⟨oc19, od19, .func (PySem.W.fnOf "law" "law" (defArgs (pl 29)) (defBody (pl 29)) (defScope (pl 29)) .none kV19 dc19 pm19 an19 cd19 ct19), sl19⟩)
    (c19 : PySem.W.codeIn K cd19 "law" = true)
    (k19 : PySem.W.keepIn K (.ref f19) = true)
    (z_len : PySem.W.nsIn K mainGlobals "len" = some none)
    (z_list : PySem.W.nsIn K mainGlobals "list" = some none)
    (z_abs : PySem.W.nsIn K mainGlobals "abs" = some none)
    (z_min : PySem.W.nsIn K mainGlobals "min" = some none)
    (z_max : PySem.W.nsIn K mainGlobals "max" = some none)
    (z_int : PySem.W.nsIn K mainGlobals "int" = some none)
    (z_sum : PySem.W.nsIn K mainGlobals "sum" = some none)
    (z_tuple : PySem.W.nsIn K mainGlobals "tuple" = some none)
    (z_isinstance : PySem.W.nsIn K mainGlobals "isinstance" = some none)
    (z_bool : PySem.W.nsIn K mainGlobals "bool" = some none)
    (z_str : PySem.W.nsIn K mainGlobals "str" = some none)
    (z_range : PySem.W.nsIn K mainGlobals "range" = some none)
    (z_reversed : PySem.W.nsIn K mainGlobals "reversed" = some none)
    (z_zip : PySem.W.nsIn K mainGlobals "zip" = some none)
    (z_enumerate : PySem.W.nsIn K mainGlobals "enumerate" = some none)
    (z_all : PySem.W.nsIn K mainGlobals "all" = some none)
    (g_DEEPEST : PySem.W.nsIn K mainGlobals "DEEPEST" = some (some (.int 8 t_DEEPEST)))
    (g_MOST_IN_GROUP : PySem.W.nsIn K mainGlobals "MOST_IN_GROUP" = some (some (.int 20 t_MOST_IN_GROUP)))
    (g_WIDEST_COUNT : PySem.W.nsIn K mainGlobals "WIDEST_COUNT" = some (some (.int 8 t_WIDEST_COUNT)))
    (g_WIDEST_NUMBER : PySem.W.nsIn K mainGlobals "WIDEST_NUMBER" = some (some (.int 64 t_WIDEST_NUMBER)))
    (g_FARTHEST : PySem.W.nsIn K mainGlobals "FARTHEST" = some (some (.int 100000000000000000000 t_FARTHEST)))
    (g_MOST_IN_ONE : PySem.W.nsIn K mainGlobals "MOST_IN_ONE" = some (some (.int 16 t_MOST_IN_ONE)))
    : LawT l.prog w K mg 120 fa "_law_script" h (md.Phi 60 19) := by
  have e := hfa.symm.trans (PySem.W.mg_of X G a19)
  cases e
  have F0 := fun_mk (st := pl 1) l0 c0 k0
  have b0 := F0.binds (ps := d0.N.take d0.ar) fun _ _ _ _ _ _ us hl => match us, hl with | [_], _ => rfl
  have D0 : Fd md K mg [(gc5, gP5)] d0 (pl 1) f0 _ := ⟨F0, PySem.W.mg_of X G a0, b0, sc0, by decide, ck0, fun z => absurd (show false = true from z) Bool.false_ne_true⟩
  have F1 := fun_mk (st := pl 9) l1 c1 k1
  have b1 := F1.binds (ps := d1.N.take d1.ar) fun _ _ _ _ _ _ us hl => match us, hl with | [_], _ => rfl
  have D1 : Fd md K mg [(gc5, gP5)] d1 (pl 9) f1 _ := ⟨F1, PySem.W.mg_of X G a1, b1, sc1, by decide, ck1, fun z => absurd (show false = true from z) Bool.false_ne_true⟩
  have F2 := fun_mk (st := pl 10) l2 c2 k2
  have b2 := F2.binds (ps := d2.N.take d2.ar) fun _ _ _ _ _ _ us hl => match us, hl with | [_, _], _ => rfl
  have D2 : Fd md K mg [(gc5, gP5)] d2 (pl 10) f2 _ := ⟨F2, PySem.W.mg_of X G a2, b2, sc2, by decide, ck2, fun z => absurd (show false = true from z) Bool.false_ne_true⟩
  have F3 := fun_mk (st := pl 11) l3 c3 k3
  have b3 := F3.binds (ps := d3.N.take d3.ar) fun _ _ _ _ _ _ us hl => match us, hl with | [_, _, _], _ => rfl
  have D3 : Fd md K mg [(gc5, gP5)] d3 (pl 11) f3 _ := ⟨F3, PySem.W.mg_of X G a3, b3, sc3, by decide, ck3, fun z => absurd (show false = true from z) Bool.false_ne_true⟩
  have F4 := fun_mk (st := pl 12) l4 c4 k4
  have b4 := F4.binds (ps := d4.N.take d4.ar) fun _ _ _ _ _ _ us hl => match us, hl with | [_, _, _], _ => rfl
  have D4 : Fd md K mg [(gc5, gP5)] d4 (pl 12) f4 _ := ⟨F4, PySem.W.mg_of X G a4, b4, sc4, by decide, ck4, fun z => absurd (show false = true from z) Bool.false_ne_true⟩
  have F5 := fun_mk (st := pl 13) l5 c5 k5
  have b5 := F5.binds (ps := d5.N.take d5.ar) fun _ _ _ _ _ _ us hl => match us, hl with | [_, _, _, _], _ => rfl
  have D5 : Fd md K mg [(gc5, gP5)] d5 (pl 13) f5 _ := ⟨F5, PySem.W.mg_of X G a5, b5, sc5, by decide, ck5, fun _ => ⟨(gc5, gP5), List.mem_cons_self, rfl⟩⟩
  have F6 := fun_mk (st := pl 14) l6 c6 k6
  have b6 := F6.binds (ps := d6.N.take d6.ar) fun _ _ _ _ _ _ us hl => match us, hl with | [_, _, _], _ => rfl
  have D6 : Fd md K mg [(gc5, gP5)] d6 (pl 14) f6 _ := ⟨F6, PySem.W.mg_of X G a6, b6, sc6, by decide, ck6, fun z => absurd (show false = true from z) Bool.false_ne_true⟩
  have F7 := fun_mk (st := pl 16) l7 c7 k7
  have b7 := F7.binds (ps := d7.N.take d7.ar) fun _ _ _ _ _ _ us hl => match us, hl with | [_, _], _ => rfl
  have D7 : Fd md K mg [(gc5, gP5)] d7 (pl 16) f7 _ := ⟨F7, PySem.W.mg_of X G a7, b7, sc7, by decide, ck7, fun z => absurd (show false = true from z) Bool.false_ne_true⟩
  have F8 := fun_mk (st := pl 17) l8 c8 k8
  have b8 := F8.binds (ps := d8.N.take d8.ar) fun _ _ _ _ _ _ us hl => match us, hl with | [_], _ => rfl
  have D8 : Fd md K mg [(gc5, gP5)] d8 (pl 17) f8 _ := ⟨F8, PySem.W.mg_of X G a8, b8, sc8, by decide, ck8, fun z => absurd (show false = true from z) Bool.false_ne_true⟩
  have F9 := fun_mk (st := pl 18) l9 c9 k9
  have b9 := F9.binds (ps := d9.N.take d9.ar) fun _ _ _ _ _ _ us hl => match us, hl with | [_, _], _ => rfl
  have D9 : Fd md K mg [(gc5, gP5)] d9 (pl 18) f9 _ := ⟨F9, PySem.W.mg_of X G a9, b9, sc9, by decide, ck9, fun z => absurd (show false = true from z) Bool.false_ne_true⟩
  have F10 := fun_mk (st := pl 19) l10 c10 k10
  have b10 := F10.binds (ps := d10.N.take d10.ar) fun _ _ _ _ _ _ us hl => match us, hl with | [_, _], _ => rfl
  have D10 : Fd md K mg [(gc5, gP5)] d10 (pl 19) f10 _ := ⟨F10, PySem.W.mg_of X G a10, b10, sc10, by decide, ck10, fun z => absurd (show false = true from z) Bool.false_ne_true⟩
  have F11 := fun_mk (st := pl 20) l11 c11 k11
  have b11 := F11.binds (ps := d11.N.take d11.ar) fun _ _ _ _ _ _ us hl => match us, hl with | [_, _], _ => rfl
  have D11 : Fd md K mg [(gc5, gP5)] d11 (pl 20) f11 _ := ⟨F11, PySem.W.mg_of X G a11, b11, sc11, by decide, ck11, fun z => absurd (show false = true from z) Bool.false_ne_true⟩
  have F12 := fun_mk (st := pl 21) l12 c12 k12
  have b12 := F12.binds (ps := d12.N.take d12.ar) fun _ _ _ _ _ _ us hl => match us, hl with | [_, _], _ => rfl
  have D12 : Fd md K mg [(gc5, gP5)] d12 (pl 21) f12 _ := ⟨F12, PySem.W.mg_of X G a12, b12, sc12, by decide, ck12, fun z => absurd (show false = true from z) Bool.false_ne_true⟩
  have F13 := fun_mk (st := pl 23) l13 c13 k13
  have b13 := F13.binds (ps := d13.N.take d13.ar) fun _ _ _ _ _ _ us hl => match us, hl with | [_], _ => rfl
  have D13 : Fd md K mg [(gc5, gP5)] d13 (pl 23) f13 _ := ⟨F13, PySem.W.mg_of X G a13, b13, sc13, by decide, ck13, fun z => absurd (show false = true from z) Bool.false_ne_true⟩
  have F14 := fun_mk (st := pl 24) l14 c14 k14
  have b14 := F14.binds (ps := d14.N.take d14.ar) fun _ _ _ _ _ _ us hl => match us, hl with | [_], _ => rfl
  have D14 : Fd md K mg [(gc5, gP5)] d14 (pl 24) f14 _ := ⟨F14, PySem.W.mg_of X G a14, b14, sc14, by decide, ck14, fun z => absurd (show false = true from z) Bool.false_ne_true⟩
  have F15 := fun_mk (st := pl 25) l15 c15 k15
  have b15 := F15.binds (ps := d15.N.take d15.ar) fun _ _ _ _ _ _ us hl => match us, hl with | [_, _, _, _], _ => rfl
  have D15 : Fd md K mg [(gc5, gP5)] d15 (pl 25) f15 _ := ⟨F15, PySem.W.mg_of X G a15, b15, sc15, by decide, ck15, fun z => absurd (show false = true from z) Bool.false_ne_true⟩
  have F16 := fun_mk (st := pl 26) l16 c16 k16
  have b16 := F16.binds (ps := d16.N.take d16.ar) fun _ _ _ _ _ _ us hl => match us, hl with | [_], _ => rfl
  have D16 : Fd md K mg [(gc5, gP5)] d16 (pl 26) f16 _ := ⟨F16, PySem.W.mg_of X G a16, b16, sc16, by decide, ck16, fun z => absurd (show false = true from z) Bool.false_ne_true⟩
  have F17 := fun_mk (st := pl 27) l17 c17 k17
  have b17 := F17.binds (ps := d17.N.take d17.ar) fun _ _ _ _ _ _ us hl => match us, hl with | [_, _, _], _ => rfl
  have D17 : Fd md K mg [(gc5, gP5)] d17 (pl 27) f17 _ := ⟨F17, PySem.W.mg_of X G a17, b17, sc17, by decide, ck17, fun z => absurd (show false = true from z) Bool.false_ne_true⟩
  have F18 := fun_mk (st := pl 28) l18 c18 k18
  have b18 := F18.binds (ps := d18.N.take d18.ar) fun _ _ _ _ _ _ us hl => match us, hl with | [_, _], _ => rfl
  have D18 : Fd md K mg [(gc5, gP5)] d18 (pl 28) f18 _ := ⟨F18, PySem.W.mg_of X G a18, b18, sc18, by decide, ck18, fun z => absurd (show false = true from z) Bool.false_ne_true⟩
  have F19 := fun_mk (st := pl 29) l19 c19 k19
  have b19 := F19.binds (ps := d19.N.take d19.ar) fun _ _ _ _ _ _ us hl => match us, hl with | [_], _ => rfl
  have D19 : Fd md K mg [(gc5, gP5)] d19 (pl 29) fa _ := ⟨F19, PySem.W.mg_of X G a19, b19, sc19, by decide, ck19, fun z => absurd (show false = true from z) Bool.false_ne_true⟩
  have FX : Fx md K mg (fun _ => .none) := by
    refine ⟨?_, ?_, ?_, ?_, ?_, ?_, ?_⟩
    · intro x hx
      simp only [bnames, List.mem_cons, List.not_mem_nil, or_false] at hx
      rcases hx with rfl | rfl | rfl | rfl | rfl | rfl | rfl | rfl | rfl | rfl | rfl | rfl | rfl | rfl | rfl | rfl
      · exact PySem.W.mg_none_of X G z_len
      · exact PySem.W.mg_none_of X G z_list
      · exact PySem.W.mg_none_of X G z_abs
      · exact PySem.W.mg_none_of X G z_min
      · exact PySem.W.mg_none_of X G z_max
      · exact PySem.W.mg_none_of X G z_int
      · exact PySem.W.mg_none_of X G z_sum
      · exact PySem.W.mg_none_of X G z_tuple
      · exact PySem.W.mg_none_of X G z_isinstance
      · exact PySem.W.mg_none_of X G z_bool
      · exact PySem.W.mg_none_of X G z_str
      · exact PySem.W.mg_none_of X G z_range
      · exact PySem.W.mg_none_of X G z_reversed
      · exact PySem.W.mg_none_of X G z_zip
      · exact PySem.W.mg_none_of X G z_enumerate
      · exact PySem.W.mg_none_of X G z_all
    · intro k x hx
      cases hx
    · intro k x hx
      cases hx
    · intro k0 x hx k
      cases hx
    · intro x i hx
      obtain hx := lookup_mem hx
      simp only [md, List.mem_cons, List.not_mem_nil, or_false, Prod.mk.injEq] at hx
      rcases hx with ⟨rfl, rfl⟩ | ⟨rfl, rfl⟩ | ⟨rfl, rfl⟩ | ⟨rfl, rfl⟩ | ⟨rfl, rfl⟩ | ⟨rfl, rfl⟩
      · exact ⟨_, PySem.W.mg_of X G g_DEEPEST⟩
      · exact ⟨_, PySem.W.mg_of X G g_MOST_IN_GROUP⟩
      · exact ⟨_, PySem.W.mg_of X G g_WIDEST_COUNT⟩
      · exact ⟨_, PySem.W.mg_of X G g_WIDEST_NUMBER⟩
      · exact ⟨_, PySem.W.mg_of X G g_FARTHEST⟩
      · exact ⟨_, PySem.W.mg_of X G g_MOST_IN_ONE⟩
    · intro y tb hx
      cases hx
    · intro y tb hx
      cases hx
  refine ⟨(fun _ => .none), PySem.W.fnOf "law" "law" (defArgs (pl 29)) (defBody (pl 29)) (defScope (pl 29)) .none kV19 dc19 pm19 an19 cd19 ct19, [(gc5, gP5)], List.forall_mem_cons.mpr ⟨gt5.2, fun p hp => by cases hp⟩, List.forall_mem_cons.mpr ⟨gl5, fun p hp => by cases hp⟩, List.forall_mem_cons.mpr ⟨gt5.1, fun p hp => by cases hp⟩, fun s v => .of_eq rfl, fun base _ _ TBs => ?_⟩
  exact Md.ok FX TBs (fun j d hd => by
    match j, hd with
    | 0, hd => cases hd; exact ⟨_, _, _, D0⟩
    | 1, hd => cases hd; exact ⟨_, _, _, D1⟩
    | 2, hd => cases hd; exact ⟨_, _, _, D2⟩
    | 3, hd => cases hd; exact ⟨_, _, _, D3⟩
    | 4, hd => cases hd; exact ⟨_, _, _, D4⟩
    | 5, hd => cases hd; exact ⟨_, _, _, D5⟩
    | 6, hd => cases hd; exact ⟨_, _, _, D6⟩
    | 7, hd => cases hd; exact ⟨_, _, _, D7⟩
    | 8, hd => cases hd; exact ⟨_, _, _, D8⟩
    | 9, hd => cases hd; exact ⟨_, _, _, D9⟩
    | 10, hd => cases hd; exact ⟨_, _, _, D10⟩
    | 11, hd => cases hd; exact ⟨_, _, _, D11⟩
    | 12, hd => cases hd; exact ⟨_, _, _, D12⟩
    | 13, hd => cases hd; exact ⟨_, _, _, D13⟩
    | 14, hd => cases hd; exact ⟨_, _, _, D14⟩
    | 15, hd => cases hd; exact ⟨_, _, _, D15⟩
    | 16, hd => cases hd; exact ⟨_, _, _, D16⟩
    | 17, hd => cases hd; exact ⟨_, _, _, D17⟩
    | 18, hd => cases hd; exact ⟨_, _, _, D18⟩
    | 19, hd => cases hd; exact ⟨_, _, _, D19⟩
    | _ + 20, hd => cases hd) 60 19 d19 (pl 29) fa _ rfl D19
end QKk03
open PySem PySem.W PyProof.Rows
set_option maxRecDepth 100000 in
set_option maxHeartbeats 0 in
theorem PySem.Challenge.cw_bitpack_k03_good_shapes_holds : PySem.Challenge.rw_bitpack_k03_good_shapes.Holds := by
  w_on; o_law; k_head; (case hw => w_witness2)
  k_fill
  refine Q.walk (l := PySem.Challenge.rw_bitpack_k03_good_shapes) (k := 120) (x := "_law_script") rfl rfl ⟨rfl, by decide, by decide⟩ (fun w h Y => PySem.W.kIn_of Y) ?F
  case F =>
    intro w s₀ mg mb fa h GG KX G hmg
    refine Q.law_at (QKk03.law_is) ?_
    refine' QKk03.all_mk (l := PySem.Challenge.rw_bitpack_k03_good_shapes) KX G hmg ?a0 ?l0 ?c0 ?k0 ?a1 ?l1 ?c1 ?k1 ?a2 ?l2 ?c2 ?k2 ?a3 ?l3 ?c3 ?k3 ?a4 ?l4 ?c4 ?k4 ?a5 ?l5 ?c5 ?gq5 ?gl5 ?gt5 ?k5 ?a6 ?l6 ?c6 ?k6 ?a7 ?l7 ?c7 ?k7 ?a8 ?l8 ?c8 ?k8 ?a9 ?l9 ?c9 ?k9 ?a10 ?l10 ?c10 ?k10 ?a11 ?l11 ?c11 ?k11 ?a12 ?l12 ?c12 ?k12 ?a13 ?l13 ?c13 ?k13 ?a14 ?l14 ?c14 ?k14 ?a15 ?l15 ?c15 ?k15 ?a16 ?l16 ?c16 ?k16 ?a17 ?l17 ?c17 ?k17 ?a18 ?l18 ?c18 ?k18 ?a19 ?l19 ?c19 ?k19 ?z_len ?z_list ?z_abs ?z_min ?z_max ?z_int ?z_sum ?z_tuple ?z_isinstance ?z_bool ?z_str ?z_range ?z_reversed ?z_zip ?z_enumerate ?z_all ?g_DEEPEST ?g_MOST_IN_GROUP ?g_WIDEST_COUNT ?g_WIDEST_NUMBER ?g_FARTHEST ?g_MOST_IN_ONE
    (case a0 => k_is)
    (case l0 => k_is)
    (case c0 => k_is)
    (case k0 => k_is)
    (case a1 => k_is)
    (case l1 => k_is)
    (case c1 => k_is)
    (case k1 => k_is)
    (case a2 => k_is)
    (case l2 => k_is)
    (case c2 => k_is)
    (case k2 => k_is)
    (case a3 => k_is)
    (case l3 => k_is)
    (case c3 => k_is)
    (case k3 => k_is)
    (case a4 => k_is)
    (case l4 => k_is)
    (case c4 => k_is)
    (case k4 => k_is)
    (case a5 => k_is)
    (case l5 => k_is)
    (case c5 => k_is)
    (case gq5 => first | k_is | rfl)
    (case gl5 => kernel_rfl)
    (case gt5 => exact Q.tab_in KX (by decide +kernel) (x := "good_parts") (by kernel_rfl) (fun d e => PySem.W.tab_of GG.T KX e (by kernel_rfl)))
    (case k5 => k_is)
    (case a6 => k_is)
    (case l6 => k_is)
    (case c6 => k_is)
    (case k6 => k_is)
    (case a7 => k_is)
    (case l7 => k_is)
    (case c7 => k_is)
    (case k7 => k_is)
    (case a8 => k_is)
    (case l8 => k_is)
    (case c8 => k_is)
    (case k8 => k_is)
    (case a9 => k_is)
    (case l9 => k_is)
    (case c9 => k_is)
    (case k9 => k_is)
    (case a10 => k_is)
    (case l10 => k_is)
    (case c10 => k_is)
    (case k10 => k_is)
    (case a11 => k_is)
    (case l11 => k_is)
    (case c11 => k_is)
    (case k11 => k_is)
    (case a12 => k_is)
    (case l12 => k_is)
    (case c12 => k_is)
    (case k12 => k_is)
    (case a13 => k_is)
    (case l13 => k_is)
    (case c13 => k_is)
    (case k13 => k_is)
    (case a14 => k_is)
    (case l14 => k_is)
    (case c14 => k_is)
    (case k14 => k_is)
    (case a15 => k_is)
    (case l15 => k_is)
    (case c15 => k_is)
    (case k15 => k_is)
    (case a16 => k_is)
    (case l16 => k_is)
    (case c16 => k_is)
    (case k16 => k_is)
    (case a17 => k_is)
    (case l17 => k_is)
    (case c17 => k_is)
    (case k17 => k_is)
    (case a18 => k_is)
    (case l18 => k_is)
    (case c18 => k_is)
    (case k18 => k_is)
    (case a19 => k_is)
    (case l19 => k_is)
    (case c19 => k_is)
    (case k19 => k_is)
    (case z_len => k_is)
    (case z_list => k_is)
    (case z_abs => k_is)
    (case z_min => k_is)
    (case z_max => k_is)
    (case z_int => k_is)
    (case z_sum => k_is)
    (case z_tuple => k_is)
    (case z_isinstance => k_is)
    (case z_bool => k_is)
    (case z_str => k_is)
    (case z_range => k_is)
    (case z_reversed => k_is)
    (case z_zip => k_is)
    (case z_enumerate => k_is)
    (case z_all => k_is)
    (case g_DEEPEST => k_is)
    (case g_MOST_IN_GROUP => k_is)
    (case g_WIDEST_COUNT => k_is)
    (case g_WIDEST_NUMBER => k_is)
    (case g_FARTHEST => k_is)
    (case g_MOST_IN_ONE => k_is)
#print axioms PySem.Challenge.cw_bitpack_k03_good_shapes_holds
