import PyProof.Rows.All
import Wide.All
import OpenK.AllK
import Wide.FinOn
import HandS.ForMost
import HandS.ForExc
import HandS.IsInst
import PySem.PyData
import PyProof.P3Statements
import PyProof.EqLayable
import HandS.RevRange
import HandS.Rev
import HandS.TupAny
import HandS.ExcIs
import HandS.FStr
import HandS.RaiseMore
import HandS.TryOnly
import HandS.TryMany
import HandS.SortKw
import PyProof.WalkInts
import KE.GoesEnumKw
import HandS.Flow
import PyProof.Rows.MatchSeqLen
import KE.KUnpack
import HandS.WordsExc
import PySem.Challenge.RW_bitpack_k01_numbers_written
/-! A small language of pure data, its evaluator. -/
namespace Q
open PySem

abbrev D := PyData
inductive Rs (α : Type) where
  | ok (a : α) | exc (k : Nat) | bad
@[simp] def Rs.bind {α β : Type} : Rs α → (α → Rs β) → Rs β
  | .ok a, f => f a
  | .exc k, _ => .exc k
  | .bad, _ => .bad
inductive BOp where
  | add | sub | mul | fdiv | mod | pow | shl | shr | band
  deriving DecidableEq
inductive COp where
  | lt | le | gt | ge | eq | ne | inn | nin
  deriving DecidableEq
inductive Ty where
  | int | bool | str | tup | lst
  deriving DecidableEq
inductive Blt where
  | len | list | abs | min2 | max2 | int1 | sum | minl | maxl | tuple | all | str1
  deriving DecidableEq
/-- a slot: data; a list of one's own, that grows; a caught error -/
inductive Sl where
  | fr (d : D) | ow (ds : List D) | er (k : Nat)
abbrev Env := List (Option Sl)

mutual
inductive Ex where
  | var (i : Nat)
  | cI (i : Int) | cS (s : Str) | cB (b : Bool) | cN
  | bin (o : BOp) (a b : Ex) | neg (a : Ex)
  | cmp (o : COp) (a b : Ex) | chn (o p : COp) (a b c : Ex)
  | isN (a : Ex) | notN (a : Ex)
  | conj (a : Ex) (as : Exs) | disj (a : Ex) (as : Exs) | nt (a : Ex)
  | ite (c a b : Ex)
  | ix (a b : Ex) | slc (a lo hi : Ex)
  | call (f : Nat) (a : Ex) (as : Exs)
  | blt (b : Blt) (a : Ex) (as : Exs)
  | tup (as : Exs) | lst (as : Exs)
  | isi (a : Ex) (t : Ty)
  | ntL (i : Nat)
  | comp (i : Nat) (e : Ex) (it : Itr) | comp2 (i j : Nat) (e : Ex) (it : Itr)
  | lrev (a : Ex)
  | lenO (i : Nat)
  | fmt (a : Ex) | fstr (as : Exs)
  | mxD (mn : Bool) (a d : Ex) | isB (ng b : Bool) (a : Ex)
  | gI (i : Int) | ixO (i : Nat) (b : Ex)
  | isE (i : Nat) (tb : List (Nat × Bool)) | isT (i : Nat) (tbs : List (List (Nat × Bool)))
inductive Exs where
  | nil | cons (e : Ex) (es : Exs)
/-- what is walked -/
inductive Itr where
  | lst (a : Ex) | tup (a : Ex) | rng (a : Ex) | rng2 (a b : Ex) | rrng (a : Ex) | rev (a : Ex) | zip (a b : Ex) | enm (a : Ex) | enS (a b : Ex)
end

def isCN : Ex → Bool
  | .cN => true | _ => false
def szl : Nat := 16777216
def binD : BOp → D → D → Rs D
  | .add, .int i, .int j => .ok (.int (i + j))
  | .add, .list xs, .list ys => if xs.length + ys.length ≤ szl then .ok (.list (xs ++ ys)) else .bad
  | .sub, .int i, .int j => .ok (.int (i - j))
  | .mul, .int i, .int j => if (-(2 ^ 64) < i ∧ i < 2 ^ 64) ∨ (-(2 ^ 64) < j ∧ j < 2 ^ 64) then .ok (.int (i * j)) else .bad
  | .mul, .list xs, .int k => if -(2 ^ 63) ≤ k ∧ k < 2 ^ 63 ∧ xs.length * k.toNat ≤ szl then .ok (.list (List.replicate k.toNat xs).flatten) else .bad
  | .fdiv, .int i, .int j => if j ≠ 0 ∧ j.natAbs < 1073741824 then .ok (.int (i.fdiv j)) else .bad
  | .mod, .int i, .int j => if j ≠ 0 then .ok (.int (i.fmod j)) else .bad
  | .pow, .int i, .int j => if 0 ≤ j ∧ j ≤ 1000000 ∧ i.natAbs < 2 ^ 64 then .ok (.int (i ^ j.toNat)) else .bad
  | .shl, .int i, .int j => if 0 ≤ j ∧ j ≤ 1000000 ∧ i.natAbs < 2 ^ 64 then .ok (.int (i * 2 ^ j.toNat)) else .bad
  | .shr, .int i, .int j => if 0 ≤ j then .ok (.int (i / 2 ^ j.toNat)) else .bad
  | .band, .int i, .int j => if j = 1 then .ok (.int (i % 2)) else .bad
  | _, _, _ => .bad
def negD : D → Rs D
  | .int i => .ok (.int (-i))
  | _ => .bad
def isNo : D → Bool
  | .none => true | _ => false
def flatD : D → Bool
  | .none => true | .bool _ => true | .int _ => true | .str _ => true | _ => false
def scalD : D → D → Bool
  | .none, .none => true | .none, .int _ => true | .int _, .none => true | .none, .bool _ => true | .bool _, .none => true | .none, .str _ => true | .str _, .none => true
  | .int _, .int _ => true | .bool _, .bool _ => true | .str _, .str _ => true
  | .int _, .str _ => true | .str _, .int _ => true | .bool _, .str _ => true | .str _, .bool _ => true
  | _, _ => false
def eqS : D → D → Bool
  | .none, .none => true
  | .int i, .int j => decide (i = j)
  | .bool i, .bool j => decide (i = j)
  | .str i, .str j => decide (i = j)
  | _, _ => false
/-- == of two things; g: how deep things are compared -/
def eqR (shp : D → Bool) (x y : D) : Rs Bool :=
  if scalD x y = true then .ok (eqS x y) else if shp x = true ∧ shp y = true then .ok (PyData.eqv x y) else .bad
def inR (x : D) : D → Rs Bool
  | .list ys => if flatD x = true ∧ ys.all flatD = true then .ok (ys.any fun y => PyData.eqv y x) else .bad
  | .tuple ys => if flatD x = true ∧ ys.all flatD = true then .ok (ys.any fun y => PyData.eqv y x) else .bad
  | _ => .bad
def cmpR (shp : D → Bool) : COp → D → D → Rs Bool
  | .lt, .int i, .int j => .ok (decide (i < j))
  | .le, .int i, .int j => .ok (decide (i ≤ j))
  | .gt, .int i, .int j => .ok (decide (j < i))
  | .ge, .int i, .int j => .ok (decide (j ≤ i))
  | .eq, x, y => eqR shp x y
  | .ne, x, y => (eqR shp x y).bind fun b => .ok (!b)
  | .inn, x, y => inR x y
  | .nin, x, y => (inR x y).bind fun b => .ok (!b)
  | _, _, _ => .bad
def ixD (i : Int) (xs : List D) : Rs D :=
  if 0 ≤ i then (match xs[i.toNat]? with | some x => .ok x | none => .bad)
  else if -(xs.length : Int) ≤ i then (match xs[(i + xs.length).toNat]? with | some x => .ok x | none => .bad) else .bad
def ixR : D → D → Rs D
  | .list xs, .int i => ixD i xs
  | .tuple xs, .int i => ixD i xs
  | _, _ => .bad
/-- a slice's end: none is the default d -/
def sIx (n d : Nat) : Option Int → Nat
  | none => d
  | some v => if v < 0 then (v + (n : Int)).toNat else min v.toNat n
def cut {α : Type} (xs : List α) (lo hi : Option Int) : List α := (xs.drop (sIx xs.length 0 lo)).take (sIx xs.length xs.length hi - sIx xs.length 0 lo)
def intR : D → Rs (Option Int)
  | .int i => .ok (some i)
  | _ => .bad
def slcR (d : D) (l h : Option Int) : Rs D := match d with
  | .list xs => .ok (.list (cut xs l h))
  | .tuple xs => .ok (.tuple (cut xs l h))
  | _ => .bad
def isiD : D → Ty → Bool
  | .int _, .int => true
  | .bool _, .int => true
  | .bool _, .bool => true
  | .str _, .str => true
  | .tuple _, .tup => true
  | .list _, .lst => true
  | _, _ => false
def intsOf : List D → Option (List Int)
  | [] => some []
  | .int i :: r => (intsOf r).map (i :: ·)
  | _ => none
def boolsOf : List D → Option (List Bool)
  | [] => some []
  | .bool b :: r => (boolsOf r).map (b :: ·)
  | _ => none
def lstMin : Int → List Int → Int
  | m, [] => m
  | m, x :: r => lstMin (if x < m then x else m) r
def lstMax : Int → List Int → Int
  | m, [] => m
  | m, x :: r => lstMax (if m < x then x else m) r
def bltR : Blt → List D → Rs D
  | .len, [.list xs] => .ok (.int xs.length)
  | .len, [.tuple xs] => .ok (.int xs.length)
  | .list, [.list xs] => .ok (.list xs)
  | .list, [.tuple xs] => .ok (.list xs)
  | .tuple, [.list xs] => .ok (.tuple xs)
  | .abs, [.int i] => .ok (.int (if i < 0 then -i else i))
  | .min2, [.int i, .int j] => .ok (.int (if j < i then j else i))
  | .max2, [.int i, .int j] => .ok (.int (if j > i then j else i))
  | .int1, [.int i] => .ok (.int i)
  | .int1, [.bool b] => .ok (.int (if b then 1 else 0))
  | .sum, [.list xs] => (match intsOf xs with | some ns => .ok (.int ns.sum) | none => .bad)
  | .minl, [.list xs] => (match intsOf xs with | some (n :: ns) => .ok (.int (lstMin n ns)) | _ => .bad)
  | .maxl, [.list xs] => (match intsOf xs with | some (n :: ns) => .ok (.int (lstMax n ns)) | _ => .bad)
  | .all, [.list xs] => (match boolsOf xs with | some bs => .ok (.bool (bs.all id)) | none => .bad)
  | .str1, [.int i] => if i.natAbs.log2 < 1920 then .ok (.str (Str.ofString (toString i))) else .bad
  | _, _ => .bad
def isBd (b : Bool) : D → Bool
  | .bool c => c == b
  | _ => false
def mxR (mn : Bool) : D → D → Rs D
  | .list xs, d => (match intsOf xs with
    | some [] => .ok d
    | some (n :: ns) => .ok (.int (if mn = true then lstMin n ns else lstMax n ns))
    | none => .bad)
  | _, _ => .bad
def fmtR : D → Rs D
  | .str y => if y.length ≤ szl then .ok (.str y) else .bad
  | .int i => if i.natAbs.log2 < 1920 then .ok (.str (Str.ofString (toString i))) else .bad
  | _ => .bad
def seqOf : D → Option (List D)
  | .list xs => some xs
  | .tuple xs => some xs
  | _ => none
def pairR (f : D → D → Rs D) : D → Rs D
  | .tuple [x, y] => f x y
  | _ => .bad
/-- not, of what may be empty -/
def truN : D → Rs D
  | .list xs => .ok (.bool xs.isEmpty)
  | .tuple xs => .ok (.bool xs.isEmpty)
  | .bool b => .ok (.bool (!b))
  | _ => .bad
def mapR (f : D → Rs D) : List D → Rs (List D)
  | [] => .ok []
  | x :: xs => (f x).bind fun y => (mapR f xs).bind fun ys => .ok (y :: ys)
def Sl.toD : Sl → Rs D
  | .fr d => .ok d
  | .ow ds => .ok (.list ds)
  | .er _ => .bad
def Rs.cold {α : Type} : Rs α → Rs α
  | .ok a => .ok a
  | _ => .bad
def lstR : D → Rs (List D)
  | .list xs => .ok xs
  | _ => .bad
def tupR : D → Rs (List D)
  | .tuple xs => .ok xs
  | _ => .bad
def numR : D → Rs Int
  | .int i => if -(2 ^ 62) ≤ i ∧ i < 2 ^ 62 then .ok i else .bad
  | _ => .bad
def zipD : List D → List D → List D
  | x :: xs, y :: ys => .tuple [x, y] :: zipD xs ys
  | _, _ => []
def enumD : Int → List D → List D
  | _, [] => []
  | i, x :: xs => .tuple [.int i, x] :: enumD (i + 1) xs
def rangeD (lo : Int) (n : Nat) : List D := (List.range n).map fun (k : Nat) => PyData.int (lo + (k : Int))
def revD (n : Nat) : List D := (List.range n).map fun (k : Nat) => PyData.int ((n : Int) - 1 - (k : Int))

/-- own functions' answers -/
abbrev Fns := Nat → List D → Rs Sl

section
variable (shp : D → Bool) (Φ : Fns)
def varR (env : Env) (i : Nat) : Rs D := match env[i]? with
  | some (some (.fr d)) => .ok d
  | _ => .bad
def lenO (env : Env) (i : Nat) : Rs D := match env[i]? with
  | some (some (.ow ds)) => .ok (.int ds.length)
  | _ => .bad
def erR (env : Env) (i : Nat) : Rs Nat := match env[i]? with
  | some (some (.er k)) => .ok k
  | _ => .bad
def isK (k : Nat) (tb : List (Nat × Bool)) : Rs D := match tb.lookup k with
  | some b => .ok (.bool b)
  | none => .bad
def isA (k : Nat) : List (List (Nat × Bool)) → Rs D
  | [] => .ok (.bool false)
  | tb :: r => match tb.lookup k with
    | some true => .ok (.bool true)
    | some false => isA k r
    | none => .bad
mutual
def ev : Ex → Env → Rs D
  | .var i, env => varR env i
  | .cI i, _ => .ok (.int i)
  | .cS s, _ => .ok (.str s)
  | .cB b, _ => .ok (.bool b)
  | .cN, _ => .ok .none
  | .bin o a b, env => (ev a env).bind fun x => (ev b env).bind fun y => binD o x y
  | .neg a, env => (ev a env).bind negD
  | .cmp o a b, env => (ev a env).bind fun x => (ev b env).bind fun y => (cmpR shp o x y).bind fun r => .ok (.bool r)
  | .chn o p a b c, env => (ev a env).bind fun x => (ev b env).bind fun y => (cmpR shp o x y).bind fun r =>
      if r = true then (ev c env).bind fun z => (cmpR shp p y z).bind fun r => .ok (.bool r) else .ok (.bool false)
  | .isN a, env => (ev a env).bind fun x => .ok (.bool (isNo x))
  | .notN a, env => (ev a env).bind fun x => .ok (.bool (!isNo x))
  | .conj a as, env => (ev a env).bind fun x => (match x with
      | .bool true => evC as env
      | .bool false => .ok (.bool false)
      | _ => .bad)
  | .disj a as, env => (ev a env).bind fun x => (match x with
      | .bool false => evJ as env
      | .bool true => .ok (.bool true)
      | _ => .bad)
  | .nt a, env => (ev a env).bind fun x => (match x with
      | .bool b => .ok (.bool (!b))
      | _ => .bad)
  | .ntL i, env => (varR env i).bind truN
  | .ite c a b, env => (ev c env).bind fun x => (match x with
      | .bool true => ev a env
      | .bool false => ev b env
      | _ => .bad)
  | .ix a b, env => (ev a env).bind fun x => (ev b env).bind fun y => ixR x y
  | .slc a lo hi, env => (ev a env).bind fun x => (if isCN lo = true then .ok none else (ev lo env).bind intR).bind fun l => (if isCN hi = true then .ok none else (ev hi env).bind intR).bind fun h => slcR x l h
  | .call f a as, env => (ev a env).bind fun x => (evs as env).bind fun xs => (Φ f (x :: xs)).bind Sl.toD
  | .blt b a as, env => (ev a env).bind fun x => (evs as env).bind fun xs => bltR b (x :: xs)
  | .tup as, env => (evs as env).bind fun xs => if xs.length ≤ szl then .ok (.tuple xs) else .bad
  | .lst as, env => (evs as env).bind fun xs => if xs.length ≤ szl then .ok (.list xs) else .bad
  | .isi a t, env => (ev a env).bind fun x => .ok (.bool (isiD x t))
  | .comp i e it, env => (evI it env).bind fun ds => if ds.length ≤ szl then (mapR (fun d => (ev e (env.set i (some (.fr d)))).cold) ds).bind fun ys => .ok (.list ys) else .bad
  | .comp2 i j e it, env => (evI it env).bind fun ds => if ds.length ≤ szl then (mapR (pairR fun x y => (ev e ((env.set i (some (.fr x))).set j (some (.fr y)))).cold) ds).bind fun ys => .ok (.list ys) else .bad
  | .lrev a, env => (ev a env).bind fun d => (match d with
      | .list ds => .ok (.list ds.reverse)
      | _ => .bad)
  | .lenO i, env => lenO env i
  | .fmt a, env => (ev a env).bind fmtR
  | .fstr as, env => (evF as Str.empty env).bind fun x => .ok (.str x)
  | .isB ng b a, env => (ev a env).bind fun x => .ok (.bool (ng ^^ isBd b x))
  | .mxD mn a d, env => (ev a env).bind fun x => (ev d env).bind fun y => mxR mn x y
  | .gI i, _ => .ok (.int i)
  | .ixO i b, env => (match env[i]? with
      | some (some (.ow ds)) => (ev b env).bind fun y => ixR (.list ds) y
      | _ => .bad)
  | .isE i tb, env => (erR env i).bind fun k => isK k tb
  | .isT i tbs, env => (erR env i).bind fun k => isA k tbs
def evF : Exs → Str → Env → Rs Str
  | .nil, acc, _ => .ok acc
  | .cons e es, acc, env => (ev e env).bind fun x => (match x with
      | .str y => if (acc ++ y).length ≤ szl then evF es (acc ++ y) env else .bad
      | _ => .bad)
def evs : Exs → Env → Rs (List D)
  | .nil, _ => .ok []
  | .cons e es, env => (ev e env).bind fun x => (evs es env).bind fun xs => .ok (x :: xs)
def evI : Itr → Env → Rs (List D)
  | .lst a, env => (ev a env).bind lstR
  | .tup a, env => (ev a env).bind tupR
  | .rng a, env => (ev a env).bind fun x => (numR x).bind fun n => .ok (rangeD 0 n.toNat)
  | .rng2 a b, env => (ev a env).bind fun x => (ev b env).bind fun y => (numR x).bind fun n => (numR y).bind fun m => .ok (rangeD n (m - n).toNat)
  | .rrng a, env => (ev a env).bind fun x => (numR x).bind fun n => .ok (revD n.toNat)
  | .rev a, env => (ev a env).bind fun x => (lstR x).bind fun xs => .ok xs.reverse
  | .zip a b, env => (ev a env).bind fun x => (ev b env).bind fun y => (lstR x).bind fun xs => (lstR y).bind fun ys => .ok (zipD xs ys)
  | .enm a, env => (ev a env).bind fun x => (lstR x).bind fun xs => .ok (enumD 0 xs)
  | .enS a b, env => (ev a env).bind fun x => (ev b env).bind fun y => (lstR x).bind fun xs => (numR y).bind fun n => .ok (enumD n xs)
def evC : Exs → Env → Rs D
  | .nil, _ => .bad
  | .cons e .nil, env => ev e env
  | .cons e (.cons e2 es), env => (ev e env).bind fun x => (match x with
      | .bool true => evC (.cons e2 es) env
      | .bool false => .ok (.bool false)
      | _ => .bad)
def evJ : Exs → Env → Rs D
  | .nil, _ => .bad
  | .cons e .nil, env => ev e env
  | .cons e (.cons e2 es), env => (ev e env).bind fun x => (match x with
      | .bool false => evJ (.cons e2 es) env
      | .bool true => .ok (.bool true)
      | _ => .bad)
end
end
/-! ### patterns -/
inductive P1 where
  | s (x : Str) | v (i : Nat) | w
inductive Pt where
  | seq (ps : List P1) | one (p : P1)
/-- none: it does not match; else what it binds -/
def p1R (shp : D → Bool) : P1 → D → Rs (Option (List (Nat × D)))
  | .s x, d => (eqR shp d (.str x)).bind fun b => .ok (if b = true then some [] else none)
  | .v i, d => .ok (some [(i, d)])
  | .w, _ => .ok (some [])
def psR (shp : D → Bool) : List P1 → List D → Rs (Option (List (Nat × D)))
  | [], [] => .ok (some [])
  | p :: ps, d :: ds => (p1R shp p d).bind fun r => (match r with
    | none => .ok none
    | some bs => (psR shp ps ds).bind fun q => .ok (match q with
      | none => none
      | some more => some (bs ++ more)))
  | _, _ => .bad
def ptR (shp : D → Bool) : Pt → D → Rs (Option (List (Nat × D)))
  | .one p, d => p1R shp p d
  | .seq ps, .list xs => if xs.length = ps.length then psR shp ps xs else .ok none
  | .seq ps, .tuple xs => if xs.length = ps.length then psR shp ps xs else .ok none
  | .seq _, d => if flatD d = true then .ok none else .bad
def bindE : List (Nat × D) → Env → Env
  | [], env => env
  | (i, d) :: r, env => bindE r (env.set i (some (.fr d)))
/-! ### statements -/
mutual
inductive St where
  | set (i : Nat) (e : Ex) | setC (i : Nat) (e : Ex) | own (i : Nat) (e : Ex) | frz (i : Nat) | app (i : Nat) (e : Ex) | ext (i : Nat) (e : Ex) | put (i : Nat) (j e : Ex)
  | ret (e : Ex) | retO (i : Nat) | exp (e : Ex) | doc | pas | brk | cnt
  | ifs (c : Ex) (a b : Sts)
  | forI (i : Nat) (it : Itr) (b : Sts) | for2 (i j : Nat) (it : Itr) (b : Sts)
  | whl (c : Ex) (b : Sts)
  | rse (k : Nat) (e : Ex)
  | tryO (b : Sts) (k : Nat) (h : Sts)
  | tryA (b : Sts) (k i : Nat) (h : Sts)
  | mat (e : Ex) (cs : Mcs)
  | tryM (b : Sts) (hs : Hds)
  | ownC (i f : Nat) (a : Ex) (as : Exs)
  | aug (ng : Bool) (i : Nat) (e : Ex) | unp (is : List Nat) (e : Ex)
inductive Sts where
  | nil | cons (s : St) (ss : Sts)
inductive Mcs where
  | nil | cons (p : Pt) (b : Sts) (r : Mcs)
inductive Hds where
  | nil | cons (k : Nat) (o : Option Nat) (h : Sts) (r : Hds)
end
inductive Fl where
  | nx (env : Env) | rt (s : Sl) | bk (env : Env) | ct (env : Env) | xc (k : Nat) (env : Env) | bad
@[simp] def Fl.seq : Fl → (Env → Fl) → Fl
  | .nx env, f => f env
  | .rt s, _ => .rt s
  | .bk e, _ => .bk e
  | .ct e, _ => .ct e
  | .xc k e, _ => .xc k e
  | .bad, _ => .bad
@[simp] def exR {α : Type} (r : Rs α) (env : Env) (f : α → Fl) : Fl := match r with
  | .ok d => f d
  | .exc k => .xc k env
  | .bad => .bad
def floop (f : D → Env → Fl) : List D → Env → Fl
  | [], env => .nx env
  | d :: ds, env => match f d env with
    | .nx e => floop f ds e
    | .ct e => floop f ds e
    | .bk e => .nx e
    | .rt s => .rt s
    | .xc k e => .xc k e
    | .bad => .bad
def wloop (c : Env → Rs D) (b : Env → Fl) : Nat → Env → Fl
  | 0, _ => .bad
  | n + 1, env => match c env with
    | .ok (.bool true) => (match b env with
      | .nx e => wloop c b n e
      | .ct e => wloop c b n e
      | .bk e => .nx e
      | .rt s => .rt s
      | .xc k e => .xc k e
      | .bad => .bad)
    | .ok (.bool false) => .nx env
    | .exc k => .xc k env
    | _ => .bad
/-- the place of xs[k] = .. -/
def plcR (n : Nat) : D → Rs Nat
  | .int i => if 0 ≤ i then (if i < n then .ok i.toNat else .bad) else if -(n : Int) ≤ i then .ok (i + n).toNat else .bad
  | _ => .bad
/-- how a thing of that error's class is caught -/
def catch1 (sub : Nat → Nat → Bool) (r : Fl) (k : Nat) (h : Nat → Env → Fl) : Fl := match r with
  | .xc j env => if sub j k = true then h j env else .xc j env
  | r => r
/-- no slot holds a caught error -/
def noEr (e : Env) : Bool := e.all fun | some (.er _) => false | _ => true
/-- behind a clause with a name: the name is gone -/
def sfin (f : Env → Env) : Fl → Fl
  | .nx e => if noEr (f e) = true then .nx (f e) else .bad
  | .bk e => if noEr (f e) = true then .bk (f e) else .bad
  | .ct e => if noEr (f e) = true then .ct (f e) else .bad
  | .xc _ _ => .bad
  | r => r
section
variable (shp : D → Bool) (sub : Nat → Nat → Bool) (Φ : Fns) (L : Nat)
mutual
def xs1 : St → Env → Fl
  | .set i e, env => exR (ev shp Φ e env) env fun d => .nx (env.set i (some (.fr d)))
  | .setC i e, env => exR (ev shp Φ e env) env fun d => .nx (env.set i (some (.fr d)))
  | .own i e, env => exR (ev shp Φ e env) env fun d => (match d with | .list ds => .nx (env.set i (some (.ow ds))) | _ => .bad)
  | .frz i, env => (match env[i]? with | some (some (.ow ds)) => .nx (env.set i (some (.fr (.list ds)))) | _ => .nx env)
  | .app i e, env => (match env[i]? with | some (some (.ow ds)) => exR (ev shp Φ e env) env fun d => if ds.length < szl then .nx (env.set i (some (.ow (ds ++ [d])))) else .bad | _ => .bad)
  | .ext i e, env => (match env[i]? with | some (some (.ow ds)) => exR (ev shp Φ e env) env fun d => (match d with | .list es => if ds.length + es.length ≤ szl then .nx (env.set i (some (.ow (ds ++ es)))) else .bad | _ => .bad) | _ => .bad)
  | .put i j e, env => exR (ev shp Φ e env) env fun d => (match env[i]? with | some (some (.ow ds)) => exR (ev shp Φ j env) env fun n => (match plcR ds.length n with | .ok m => .nx (env.set i (some (.ow (ds.set m d)))) | _ => .bad) | _ => .bad)
  | .ret e, env => exR (ev shp Φ e env) env fun d => .rt (.fr d)
  | .retO i, env => (match env[i]? with | some (some (.ow ds)) => .rt (.ow ds) | some (some (.fr d)) => .rt (.fr d) | _ => .bad)
  | .aug ng i e, env => (match env[i]? with
    | some (some (.fr (.int x))) => exR (ev shp Φ e env) env fun d => (match d with | .int y => .nx (env.set i (some (.fr (.int (if ng = true then x - y else x + y))))) | _ => .bad)
    | _ => .bad)
  | .unp is e, env => exR (ev shp Φ e env) env fun d => (match d with | .tuple ds => if ds.length = is.length then .nx (bindE (is.zip ds) env) else .bad | _ => .bad)
  | .ownC i f a as, env => exR ((ev shp Φ a env).bind fun x => (evs shp Φ as env).bind fun xs => Φ f (x :: xs)) env fun z => (match z with | .ow ds => .nx (env.set i (some (.ow ds))) | _ => .bad)
  | .exp e, env => exR (ev shp Φ e env) env fun _ => .nx env
  | .doc, env => .nx env
  | .pas, env => .nx env
  | .brk, env => .bk env
  | .cnt, env => .ct env
  | .ifs c a b, env => exR (ev shp Φ c env) env fun d => (match d with | .bool true => xs a env | .bool false => xs b env | _ => .bad)
  | .forI i it b, env => exR (evI shp Φ it env) env fun ds => floop (fun d env => xs b (env.set i (some (.fr d)))) ds env
  | .for2 i j it b, env => exR (evI shp Φ it env) env fun ds => floop (fun d env => (match d with | .tuple [x, y] => xs b ((env.set i (some (.fr x))).set j (some (.fr y))) | _ => .bad)) ds env
  | .whl c b, env => wloop (ev shp Φ c) (xs b) L env
  | .rse k e, env => exR (ev shp Φ e env) env fun _ => .xc k env
  | .tryO b k h, env => catch1 sub (xs b env) k fun _ e => if noEr e = true then sfin (fun e => e) (xs h e) else .bad
  | .tryA b k i h, env => catch1 sub (xs b env) k fun j e => if noEr e = true then sfin (fun e => e.set i none) (xs h (e.set i (some (.er j)))) else .bad
  | .tryM b hs, env => (match xs b env with
    | .xc j e => xsH hs j e
    | r => r)
  | .mat e cs, env => exR (ev shp Φ e env) env fun d => xsM cs d env
def xs : Sts → Env → Fl
  | .nil, env => .nx env
  | .cons s ss, env => (xs1 s env).seq (xs ss)
def xsH : Hds → Nat → Env → Fl
  | .nil, j, e => .xc j e
  | .cons k o h r, j, e => if sub j k = true then (if noEr e = true then (match o with
      | none => sfin (fun e => e) (xs h e)
      | some i => sfin (fun e => e.set i none) (xs h (e.set i (some (.er j))))) else .bad) else xsH r j e
def xsM : Mcs → D → Env → Fl
  | .nil, _, env => .nx env
  | .cons p b r, d, env => (match ptR shp p d with
    | .ok none => xsM r d env
    | .ok (some bs) => xs b (bindE bs env)
    | _ => .bad)
end
/-- a def's answer: its body over its arguments, n names in all -/
def run (n : Nat) (b : Sts) (ds : List D) : Rs Sl := match xs shp sub Φ L b (ds.map (fun d => some (Sl.fr d)) ++ List.replicate (n - ds.length) none) with
  | .nx _ => .ok (.fr .none)
  | .rt s => .ok s
  | .xc k _ => .exc k
  | _ => .bad
end
end Q

set_option Elab.async false
set_option linter.all false
set_option autoImplicit false
namespace Q
open PySem
abbrev SS := SeqAt.shaped
/-! ### a module's defs -/
structure Df where
  nm : Str
  N : List Str
  ar : Nat
  bd : Sts
/-- what the module's names stand for -/
structure Md where
  ds : List Df
  cs : List Str
  rs : List Str
  ist : List (Str × List (Nat × Bool))
  gi : List (Str × Int)
  sub : Nat → Nat → Bool
  L : Nat
/-- its defs' answers, with that many calls in each other -/
def Md.Phi (m : Md) : Nat → Fns
  | 0 => fun _ _ => .bad
  | n + 1 => fun j ds => match m.ds[j]? with
    | some d => if ds.length = d.ar then run SS m.sub (Md.Phi m n) m.L d.N.length d.bd ds else .bad
    | none => .bad
theorem rangeD_get {lo : Int} {n j : Nat} {d : D} (e : (rangeD lo n)[j]? = some d) : j < n ∧ d = .int (lo + (j : Int)) := by
  unfold rangeD at e
  rw [List.getElem?_map] at e
  by_cases h : j < n
  · rw [List.getElem?_range h] at e
    cases e
    exact ⟨h, rfl⟩
  · rw [List.getElem?_eq_none (by simpa using h)] at e
    cases e
theorem rangeD_len {lo : Int} {n : Nat} : (rangeD lo n).length = n := by
  unfold rangeD
  rw [List.length_map, List.length_range]
end Q

set_option Elab.async false
set_option linter.all false
set_option maxRecDepth 100000
set_option autoImplicit false
namespace Q
open PySem PySem.Spec PyProof.Rows L2

abbrev Fg := PySem.W.Frag

mutual
theorem dp_mono {K : Fg} {F F' : Hp} (e : Same F F') : ∀ {v : V} {d : D}, Dp K F v d → Dp K F' v d
  | _, _, .non => .non
  | _, _, .bl b => .bl b
  | _, _, .int i => .int i
  | _, _, .str x => .str x
  | _, _, .lst h a => .lst (e.seq h) (dps_mono e a)
  | _, _, .tup h a => .tup (same_seqT e h) (dps_mono e a)
theorem same_seqT {K : Fg} {H H' : Hp} {a : Addr} {xs : List V} (e : Same H H') (h : SqT K H a xs) : SqT K H' a xs := by
  rcases h with (h | ⟨o, h⟩) | h
  · exact .inl (.inl (e _ _ h))
  · exact .inl (.inr ⟨o, e _ _ h⟩)
  · exact .inr h
theorem dps_mono {K : Fg} {F F' : Hp} (e : Same F F') : ∀ {vs : List V} {ds : List D}, DpAll K F vs ds → DpAll K F' vs ds
  | _, _, .nil => .nil
  | _, _, .cons h t => .cons (dp_mono e h) (dps_mono e t)
end
theorem dps_len {K : Fg} {F : Hp} : ∀ {vs : List V} {ds : List D}, DpAll K F vs ds → vs.length = ds.length
  | _, _, .nil => rfl
  | _, _, .cons _ t => by rw [List.length_cons, List.length_cons, dps_len t]
theorem dps_app {K : Fg} {F : Hp} : ∀ {vs ws : List V} {ds es : List D}, DpAll K F vs ds → DpAll K F ws es → DpAll K F (vs ++ ws) (ds ++ es)
  | _, _, _, _, .nil, b => b
  | _, _, _, _, .cons h t, b => .cons h (dps_app t b)
theorem dps_get {K : Fg} {F : Hp} : ∀ {vs : List V} {ds : List D} {i : Nat} {d : D}, DpAll K F vs ds → ds[i]? = some d → ∃ v, vs[i]? = some v ∧ Dp K F v d
  | _, _, _, _, .nil, h => by simp at h
  | _, _, 0, _, .cons h t, e => by
    simp at e
    subst e
    exact ⟨_, rfl, h⟩
  | _, _, i + 1, d, .cons h t, e => by
    obtain ⟨v, h1, h2⟩ := dps_get (i := i) (d := d) t (by simpa using e)
    exact ⟨v, by simpa using h1, h2⟩
theorem dps_drop {K : Fg} {F : Hp} : ∀ {vs : List V} {ds : List D} (n : Nat), DpAll K F vs ds → DpAll K F (vs.drop n) (ds.drop n)
  | _, _, 0, h => h
  | _, _, _ + 1, .nil => .nil
  | _, _, n + 1, .cons _ t => dps_drop n t
theorem dps_take {K : Fg} {F : Hp} : ∀ {vs : List V} {ds : List D} (n : Nat), DpAll K F vs ds → DpAll K F (vs.take n) (ds.take n)
  | _, _, 0, _ => .nil
  | _, _, _ + 1, .nil => .nil
  | _, _, n + 1, .cons h t => .cons h (dps_take n t)
theorem dps_rev {K : Fg} {F : Hp} : ∀ {vs : List V} {ds : List D}, DpAll K F vs ds → DpAll K F vs.reverse ds.reverse
  | _, _, .nil => .nil
  | _, _, .cons h t => by
    rw [List.reverse_cons, List.reverse_cons]
    exact dps_app (dps_rev t) (.cons h .nil)
theorem dps_rep {K : Fg} {F : Hp} {vs : List V} {ds : List D} (h : DpAll K F vs ds) : ∀ n : Nat, DpAll K F (List.replicate n vs).flatten (List.replicate n ds).flatten
  | 0 => .nil
  | n + 1 => by
    rw [List.replicate_succ, List.replicate_succ, List.flatten_cons, List.flatten_cons]
    exact dps_app h (dps_rep h n)
theorem dps_set {K : Fg} {F : Hp} {v : V} {d : D} (r : Dp K F v d) : ∀ {vs : List V} {ds : List D} (n : Nat), DpAll K F vs ds → DpAll K F (vs.set n v) (ds.set n d)
  | _, _, _, .nil => .nil
  | _, _, 0, .cons _ t => .cons r t
  | _, _, n + 1, .cons h t => .cons h (dps_set r n t)

/-- (F, H) grows to (F', H'): F is what stands for good -/
structure Ext (F H F' H' : Hp) : Prop where
  hh : Same H H'
  ff : Same F F'
  fh : Same F' H'
  nw : ∀ a, H a ≠ none → F a = none → F' a = none
theorem Ext.refl {F H : Hp} (s : Same F H) : Ext F H F H := ⟨Same.refl H, Same.refl F, s, fun _ _ h => h⟩
theorem ne_none_of {H H' : Hp} (e : Same H H') {a : Addr} (h : H a ≠ none) : H' a ≠ none := by
  cases q : H a with
  | none => exact absurd q h
  | some o =>
    rw [e a o q]
    exact fun z => nomatch z
theorem Ext.trans {F H F1 H1 F2 H2 : Hp} (a : Ext F H F1 H1) (b : Ext F1 H1 F2 H2) : Ext F H F2 H2 :=
  ⟨a.hh.trans b.hh, a.ff.trans b.ff, b.fh, fun x h n => b.nw x (ne_none_of a.hh h) (a.nw x h n)⟩
theorem same_upd2 {H : Hp} {p : Addr} {o : HO} (h : H p = none) : Same H (upd H p o) := fun b u q => by
  rw [upd_ne (ne_of_none q h)]
  exact q
/-- a new object, for good -/
theorem Ext.new {F H : Hp} (s : Same F H) {p : Addr} {o : HO} (h : H p = none) : Ext F H (upd F p o) (upd H p o) := by
  have hf : F p = none := by
    cases q : F p with
    | none => rfl
    | some u =>
      have := s p u q
      rw [h] at this
      cases this
  refine ⟨same_upd2 h, same_upd2 hf, fun b u q => ?_, fun a h1 h2 => ?_⟩
  · by_cases hb : b = p
    · subst hb
      rw [upd_same] at q ⊢
      exact q
    · rw [upd_ne hb] at q ⊢
      exact s b u q
  · have : a ≠ p := fun e => by
      subst e
      exact h1 h
    rw [upd_ne this]
    exact h2
/-- a new object that may yet change -/
theorem Ext.newO {F H : Hp} (s : Same F H) {p : Addr} {o : HO} (h : H p = none) : Ext F H F (upd H p o) :=
  ⟨same_upd2 h, Same.refl F, s.trans (same_upd2 h), fun _ _ n => n⟩

/-! ### the state -/
structure Par where
  K : Fg
  F0 : Hp
  H0 : Hp
  /-- at this address lies an error of that class -/
  ER : Addr → Nat → Prop
  /-- the errors' classes -/
  cls : Nat → Value
def SlOk (P : Par) (F H : Hp) (v : Option (Option V)) : Sl → Prop
  | .fr d => ∃ x, v = some (some x) ∧ Dp P.K F x d
  | .ow ds => ∃ p vs, v = some (some (.ref p)) ∧ P.H0 p = none ∧ F p = none ∧ H p = some (.lst vs) ∧ DpAll P.K F vs ds
  | .er k => ∃ a, v = some (some (.ref a)) ∧ P.ER a k
structure Sta (P : Par) (F H : Hp) (σ : L2.St) (env : Env) : Prop where
  len : σ.length = env.length
  ext : Ext P.F0 P.H0 F H
  sl : ∀ (i : Nat) (s : Sl), env[i]? = some (some s) → SlOk P F H σ[i]? s
  ds : ∀ (i j : Nat) (p : Addr) (ds es : List D), i ≠ j → env[i]? = some (some (.ow ds)) → env[j]? = some (some (.ow es)) → σ[i]? = some (some (.ref p)) → σ[j]? ≠ some (some (.ref p))
theorem Sta.same {P : Par} {F H : Hp} {σ : L2.St} {env : Env} (s : Sta P F H σ env) : Same F H := s.ext.fh
theorem SlOk.mono {P : Par} {F H F' H' : Hp} {v : Option (Option V)} {s : Sl} (e : Ext F H F' H') (h : SlOk P F H v s) : SlOk P F' H' v s := by
  cases s with
  | fr d =>
    obtain ⟨x, e1, h1⟩ := h
    exact ⟨x, e1, dp_mono e.ff h1⟩
  | ow ds =>
    obtain ⟨p, vs, e1, h0, h1, h2, h3⟩ := h
    exact ⟨p, vs, e1, h0, e.nw p (by rw [h2]; exact fun z => nomatch z) h1, e.hh _ _ h2, dps_mono e.ff h3⟩
  | er k => exact h
theorem Sta.mono {P : Par} {F H F' H' : Hp} {σ : L2.St} {env : Env} (s : Sta P F H σ env) (e : Ext F H F' H') : Sta P F' H' σ env :=
  ⟨s.len, s.ext.trans e, fun i z h => (s.sl i z h).mono e, s.ds⟩
/-- a slot is forgotten -/
theorem Sta.forget {P : Par} {F H : Hp} {σ : L2.St} {env : Env} (s : Sta P F H σ env) (i : Nat) (x : Option V) : Sta P F H (σ.set i x) (env.set i none) := by
  refine ⟨by rw [List.length_set, List.length_set]; exact s.len, s.ext, fun j z h => ?_, fun j k p ds es n h1 h2 h3 => ?_⟩
  · by_cases e : i = j
    · subst e
      rw [List.getElem?_set] at h
      split at h
      · split at h <;> cases h
      · exact absurd rfl ‹_›
    · rw [List.getElem?_set_ne e] at h
      rw [List.getElem?_set_ne e]
      exact s.sl j z h
  · have ne : ∀ (m : Nat) (ds : List D), (env.set i none)[m]? = some (some (.ow ds)) → i ≠ m := fun m ds h e => by
      subst e
      rw [List.getElem?_set] at h
      split at h
      · split at h <;> cases h
      · exact absurd rfl ‹_›
    have n1 := ne j ds h1
    have n2 := ne k es h2
    rw [List.getElem?_set_ne n1] at h1 h3
    rw [List.getElem?_set_ne n2] at h2
    rw [List.getElem?_set_ne n2]
    exact s.ds j k p ds es n h1 h2 h3
/-- a slot is stored: data or an error -/
theorem Sta.put {P : Par} {F H : Hp} {σ : L2.St} {env : Env} (s : Sta P F H σ env) {i : Nat} {x : V} {z : Sl} (hz : ∀ ds, z ≠ .ow ds) (hs : SlOk P F H (some (some x)) z) : Sta P F H (σ.set i (some x)) (env.set i (some z)) := by
  have hl := s.len
  refine ⟨by rw [List.length_set, List.length_set]; exact s.len, s.ext, fun j y h => ?_, fun j k p ds es n h1 h2 h3 => ?_⟩
  · by_cases e : i = j
    · subst e
      rw [List.getElem?_set] at h
      rw [if_pos rfl] at h
      split at h
      · rename_i hi
        cases h
        rw [List.getElem?_set, if_pos rfl, if_pos (by omega)]
        exact hs
      · cases h
    · rw [List.getElem?_set_ne e] at h
      rw [List.getElem?_set_ne e]
      exact s.sl j y h
  · have ne : ∀ (m : Nat) (ds : List D), (env.set i (some z))[m]? = some (some (.ow ds)) → i ≠ m := fun m ds h e => by
      subst e
      rw [List.getElem?_set, if_pos rfl] at h
      split at h
      · cases h
        exact hz ds rfl
      · cases h
    have n1 := ne j ds h1
    have n2 := ne k es h2
    rw [List.getElem?_set_ne n1] at h1 h3
    rw [List.getElem?_set_ne n2] at h2
    rw [List.getElem?_set_ne n2]
    exact s.ds j k p ds es n h1 h2 h3
theorem Sta.putD {P : Par} {F H : Hp} {σ : L2.St} {env : Env} (s : Sta P F H σ env) {i : Nat} {x : V} {d : D} (hs : Dp P.K F x d) : Sta P F H (σ.set i (some x)) (env.set i (some (.fr d))) :=
  s.put (fun _ z => nomatch z) ⟨x, rfl, hs⟩
/-- a slot is stored: a new list of one's own -/
theorem Sta.putO {P : Par} {F H : Hp} {σ : L2.St} {env : Env} (s : Sta P F H σ env) {i : Nat} {p : Addr} {vs : List V} {ds : List D} (h0 : P.H0 p = none) (hf : F p = none) (hp : H p = some (.lst vs)) (hd : DpAll P.K F vs ds)
    (ne : ∀ (j : Nat), i ≠ j → ∀ (es : List D), env[j]? = some (some (.ow es)) → σ[j]? ≠ some (some (.ref p))) : Sta P F H (σ.set i (some (.ref p))) (env.set i (some (.ow ds))) := by
  have hl := s.len
  refine ⟨by rw [List.length_set, List.length_set]; exact s.len, s.ext, fun j y h => ?_, fun j k q ds' es n h1 h2 h3 => ?_⟩
  · by_cases e : i = j
    · subst e
      rw [List.getElem?_set] at h
      rw [if_pos rfl] at h
      split at h
      · rename_i hi
        cases h
        rw [List.getElem?_set, if_pos rfl, if_pos (by omega)]
        exact ⟨p, vs, rfl, h0, hf, hp, hd⟩
      · cases h
    · rw [List.getElem?_set_ne e] at h
      rw [List.getElem?_set_ne e]
      exact s.sl j y h
  · by_cases e1 : i = j
    · have e2 : i ≠ k := fun e => n (e1.symm.trans e)
      subst e1
      rw [List.getElem?_set_ne e2] at h2
      rw [List.getElem?_set_ne e2]
      rw [List.getElem?_set, if_pos rfl] at h3
      split at h3
      · cases h3
        exact ne k e2 es h2
      · cases h3
    · rw [List.getElem?_set_ne e1] at h1 h3
      by_cases e2 : i = k
      · subst e2
        intro h4
        rw [List.getElem?_set, if_pos rfl] at h4
        split at h4
        · cases h4
          exact ne j e1 ds' h1 h3
        · cases h4
      · rw [List.getElem?_set_ne e2] at h2
        rw [List.getElem?_set_ne e2]
        exact s.ds j k q ds' es n h1 h2 h3
/-- a list of one's own is changed -/
theorem Sta.chg {P : Par} {F H : Hp} {σ : L2.St} {env : Env} (s : Sta P F H σ env) {i : Nat} {ds es : List D} (hi : env[i]? = some (some (.ow ds))) : ∃ p vs, σ[i]? = some (some (.ref p)) ∧ H p = some (.lst vs) ∧ DpAll P.K F vs ds ∧
    ∀ ws, DpAll P.K F ws es → Sta P F (upd H p (.lst ws)) σ (env.set i (some (.ow es))) := by
  obtain ⟨p, vs, e1, h0, h1, h2, h3⟩ := s.sl i _ hi
  refine ⟨p, vs, e1, h2, h3, fun ws hw => ⟨by rw [List.length_set]; exact s.len, ?_, fun j y h => ?_, fun j k q ds' es' n g1 g2 g3 => ?_⟩⟩
  · refine ⟨fun b u q => ?_, s.ext.ff, fun b u q => ?_, s.ext.nw⟩
    · have : b ≠ p := fun e => by
        subst e
        rw [h0] at q
        cases q
      rw [upd_ne this]
      exact s.ext.hh b u q
    · have : b ≠ p := fun e => by
        subst e
        rw [h1] at q
        cases q
      rw [upd_ne this]
      exact s.ext.fh b u q
  · by_cases e : i = j
    · subst e
      rw [List.getElem?_set, if_pos rfl] at h
      split at h
      · cases h
        exact ⟨p, ws, e1, h0, h1, upd_same, hw⟩
      · cases h
    · rw [List.getElem?_set_ne e] at h
      have q := s.sl j y h
      cases y with
      | fr d => exact q
      | er k => exact q
      | ow ds' =>
        obtain ⟨p', vs', f1, f2, f3, f4, f5⟩ := q
        have : p' ≠ p := fun z => by
          subst z
          exact s.ds i j p' ds ds' e hi h e1 f1
        exact ⟨p', vs', f1, f2, f3, by rw [upd_ne this]; exact f4, f5⟩
  · have g : ∀ (m : Nat) (zs : List D), (env.set i (some (.ow es)))[m]? = some (some (.ow zs)) → ∃ zs', env[m]? = some (some (.ow zs')) := fun m zs h => by
      by_cases e : i = m
      · subst e
        exact ⟨ds, hi⟩
      · rw [List.getElem?_set_ne e] at h
        exact ⟨zs, h⟩
    obtain ⟨z1, g1⟩ := g j ds' g1
    obtain ⟨z2, g2⟩ := g k es' g2
    exact s.ds j k q z1 z2 n g1 g2 g3
/-- a list of one's own is done with: it stands for good from here on -/
theorem Sta.freeze {P : Par} {F H : Hp} {σ : L2.St} {env : Env} (s : Sta P F H σ env) {i : Nat} {ds : List D} (hi : env[i]? = some (some (.ow ds))) : ∃ F', Same F F' ∧ Sta P F' H σ (env.set i (some (.fr (.list ds)))) := by
  obtain ⟨p, vs, e1, h0, h1, h2, h3⟩ := s.sl i _ hi
  have sf : Same F (upd F p (.lst vs)) := same_upd2 h1
  have at_ : ∀ b, b ≠ p → (upd F p (.lst vs)) b = F b := fun b hb => upd_ne hb
  refine ⟨upd F p (.lst vs), sf, by rw [List.length_set]; exact s.len, ⟨s.ext.hh, s.ext.ff.trans sf, fun b u q => ?_, fun b q1 q2 => ?_⟩, fun j y h => ?_, fun j k q ds' es' n g1 g2 g3 => ?_⟩
  · by_cases hb : b = p
    · subst hb
      rw [upd_same] at q
      cases q
      exact h2
    · rw [upd_ne hb] at q
      exact s.ext.fh b u q
  · have : b ≠ p := fun e => by
      subst e
      exact q1 h0
    rw [upd_ne this]
    exact s.ext.nw b q1 q2
  · by_cases e : i = j
    · subst e
      rw [List.getElem?_set, if_pos rfl] at h
      split at h
      · cases h
        exact ⟨.ref p, e1, .lst (.inl (.inl upd_same)) (dps_mono sf h3)⟩
      · cases h
    · rw [List.getElem?_set_ne e] at h
      have q := s.sl j y h
      cases y with
      | fr d =>
        obtain ⟨x, f1, f2⟩ := q
        exact ⟨x, f1, dp_mono sf f2⟩
      | er k => exact q
      | ow ds' =>
        obtain ⟨p', vs', f1, f2, f3, f4, f5⟩ := q
        have : p' ≠ p := fun z => by
          subst z
          exact s.ds i j p' ds ds' e hi h e1 f1
        exact ⟨p', vs', f1, f2, by rw [upd_ne this]; exact f3, f4, dps_mono sf f5⟩
  · have g : ∀ (m : Nat) (zs : List D), (env.set i (some (.fr (.list ds))))[m]? = some (some (.ow zs)) → env[m]? = some (some (.ow zs)) := fun m zs h => by
      by_cases e : i = m
      · subst e
        rw [List.getElem?_set, if_pos rfl] at h
        split at h <;> cases h
      · rw [List.getElem?_set_ne e] at h
        exact h
    exact s.ds j k q _ _ n (g j _ g1) (g k _ g2) g3

/-! ### readings -/
/-- what is wanted of an error of class k, at the slots as they stand -/
abbrev Wsh := Nat → L2.St → Hp → Prop
def post {α β : Type} (Rl : Hp → β → α → Prop) (W : Wsh) (σ : L2.St) (F H : Hp) (r : Rs α) (Q : β → Hp → Prop) : Prop := match r with
  | .ok d => ∀ F' H' v, Ext F H F' H' → Rl F' v d → Q v H'
  | .exc k => ∀ F' H', Ext F H F' H' → W k σ H'
  | .bad => False
theorem post_ext {α β : Type} {Rl : Hp → β → α → Prop} {W : Wsh} {σ : L2.St} {F H F1 H1 : Hp} {r : Rs α} {Q : β → Hp → Prop} (e : Ext F H F1 H1) (h : post Rl W σ F H r Q) : post Rl W σ F1 H1 r Q := by
  cases r with
  | ok d => exact fun F' H' v e' r => h F' H' v (e.trans e') r
  | exc k => exact fun F' H' e' => h F' H' (e.trans e')
  | bad => exact h
theorem post_seq {α β γ δ : Type} {RlA : Hp → β → α → Prop} {RlC : Hp → δ → γ → Prop} {W : Wsh} {σ : L2.St} {F H : Hp} {r : Rs α} {f : α → Rs γ} {Q : δ → Hp → Prop} {Q' : β → Hp → Prop} (h : post RlC W σ F H (r.bind f) Q)
    (k : ∀ d F1 H1 v, r = .ok d → Ext F H F1 H1 → RlA F1 v d → post RlC W σ F1 H1 (f d) Q → Q' v H1) : post RlA W σ F H r Q' := by
  cases r with
  | ok d => exact fun F1 H1 v e r => k d F1 H1 v rfl e r (post_ext e h)
  | exc k => exact h
  | bad => exact h
abbrev postD (P : Par) (W : Wsh) (σ : L2.St) (F H : Hp) (r : Rs D) (Q : VK) : Prop := post (Dp P.K) W σ F H r Q
/-- an expression's reading, from what it is worth -/
def rd (P : Par) (W : Wsh) (f : Env → Rs D) : TE := fun σ H Q => ∃ F env, Sta P F H σ env ∧ post (Dp P.K) W σ F H (f env) Q
def rds (P : Par) (W : Wsh) (f : Env → Rs (List D)) : TA := fun σ H Q => ∃ F env, Sta P F H σ env ∧ post (DpAll P.K) W σ F H (f env) Q
def RlB : Hp → Bool → D → Prop := fun _ b d => d = .bool b
def rdB (P : Par) (W : Wsh) (f : Env → Rs D) : TT := fun σ H Q => ∃ F env, Sta P F H σ env ∧ post RlB W σ F H (match f env with | .ok (.bool b) => .ok (.bool b) | .exc k => .exc k | _ => .bad) Q

theorem _root_.L2.PE.imp {X : Cx} {e : Expr} {t t' : TE} (h : PE X e t) (q : ∀ σ H Q, t' σ H Q → t σ H Q) : PE X e t' := ⟨fun pins s σ H Q I w => h.run pins s σ H Q I (q σ H Q w)⟩
theorem _root_.L2.PT.imp {X : Cx} {e : Expr} {t t' : TT} (h : PT X e t) (q : ∀ σ H Q, t' σ H Q → t σ H Q) : PT X e t' := ⟨fun pins s σ H Q I w => h.run pins s σ H Q I (q σ H Q w)⟩
theorem _root_.L2.PA.imp {X : Cx} {e : List Expr} {t t' : TA} (h : PA X e t) (q : ∀ σ H Q, t' σ H Q → t σ H Q) : PA X e t' := ⟨fun pos pins s σ H Q I w => h.run pos pins s σ H Q I (q σ H Q w)⟩
theorem _root_.L2.PS.imp {X : Cx} {e : Stmt} {t t' : TS} (h : PS X e t) (q : ∀ D σ H, t' D σ H → t D σ H) : PS X e t' := ⟨fun pins s σ H D I w => h.run pins s σ H D I (q D σ H w)⟩
theorem _root_.L2.PSs.imp {X : Cx} {e : List Stmt} {t t' : TS} (h : PSs X e t) (q : ∀ D σ H, t' D σ H → t D σ H) : PSs X e t' := ⟨fun pins s σ H D I w => h.run pins s σ H D I (q D σ H w)⟩
end Q

set_option Elab.async false
set_option linter.all false
set_option maxRecDepth 100000
set_option autoImplicit false
set_option maxHeartbeats 4000000
namespace Q
open PySem PySem.Spec PyProof.Rows L2

/-! ### operations -/
theorem dp_int {K : Fg} {F : Hp} {v : V} {i : Int} (h : Dp K F v (.int i)) : v = .int i := by cases h; rfl
theorem dp_bl {K : Fg} {F : Hp} {v : V} {b : Bool} (h : Dp K F v (.bool b)) : v = .bl b := by cases h; rfl
theorem dp_str {K : Fg} {F : Hp} {v : V} {b : Str} (h : Dp K F v (.str b)) : v = .str b := by cases h; rfl
theorem dp_non {K : Fg} {F : Hp} {v : V} (h : Dp K F v .none) : v = .non := by cases h; rfl
theorem dp_lst {K : Fg} {F : Hp} {v : V} {ds : List D} (h : Dp K F v (.list ds)) : ∃ a xs, v = .ref a ∧ SqL K F a xs ∧ DpAll K F xs ds := by
  cases h with
  | lst a b => exact ⟨_, _, rfl, a, b⟩
theorem dp_tup {K : Fg} {F : Hp} {v : V} {ds : List D} (h : Dp K F v (.tuple ds)) : ∃ a xs, v = .ref a ∧ SqT K F a xs ∧ DpAll K F xs ds := by
  cases h with
  | tup a b => exact ⟨_, _, rfl, a, b⟩
/-- no error -/
def Cl {α : Type} (r : Rs α) : Prop := ∀ k, r ≠ .exc k
def fin {α β : Type} (Rl : Hp → β → α → Prop) (F H : Hp) (r : Rs α) (Q : β → Hp → Prop) : Prop := match r with
  | .ok d => ∀ F' H' v, Ext F H F' H' → Rl F' v d → Q v H'
  | _ => False
theorem post_fin {α β : Type} {Rl : Hp → β → α → Prop} {W : Wsh} {σ : L2.St} {F H : Hp} {r : Rs α} {Q : β → Hp → Prop} (c : Cl r) (h : post Rl W σ F H r Q) : fin Rl F H r Q := by
  cases r with
  | ok d => exact h
  | exc k => exact absurd rfl (c k)
  | bad => exact h
/-- what an operation is worth -/
def rD2 (K : Fg) (f : D → D → Rs D) : R2 := fun x y H Q => ∃ F dx dy, Same F H ∧ Dp K F x dx ∧ Dp K F y dy ∧ fin (Dp K) F H (f dx dy) Q
def rD1 (K : Fg) (f : D → Rs D) : V → Hp → VK → Prop := fun x H Q => ∃ F dx, Same F H ∧ Dp K F x dx ∧ fin (Dp K) F H (f dx) Q
def rDs (K : Fg) (f : List D → Rs D) : List V → Hp → VK → Prop := fun xs H Q => ∃ F ds, Same F H ∧ DpAll K F xs ds ∧ fin (Dp K) F H (f ds) Q
theorem fin_here {α β : Type} {Rl : Hp → β → α → Prop} {F H : Hp} {d : α} {Q : β → Hp → Prop} (s : Same F H) (h : fin Rl F H (.ok d) Q) {v : β} (r : Rl F v d) : Q v H := h F H v (Ext.refl s) r

section
variable {X : Cx} {K : Fg}
theorem szl_eq : szl = sizeLine := rfl
theorem inv_sub {x y d : D} (h : binD .sub x y = .ok d) : ∃ i j, x = .int i ∧ y = .int j ∧ d = .int (i - j) := by
  cases x <;> cases y <;> simp [binD] at h
  exact ⟨_, _, rfl, rfl, h.symm⟩
theorem inv_add {x y d : D} (h : binD .add x y = .ok d) : (∃ i j, x = .int i ∧ y = .int j ∧ d = .int (i + j)) ∨ ∃ xs ys, x = .list xs ∧ y = .list ys ∧ xs.length + ys.length ≤ szl ∧ d = .list (xs ++ ys) := by
  cases x <;> cases y <;> simp [binD] at h
  · exact .inl ⟨_, _, rfl, rfl, h.symm⟩
  · split at h
    · cases h
      exact .inr ⟨_, _, rfl, rfl, ‹_›, rfl⟩
    · cases h
theorem inv_mul {x y d : D} (h : binD .mul x y = .ok d) : (∃ i j, x = .int i ∧ y = .int j ∧ ((-(2 ^ 64) < i ∧ i < 2 ^ 64) ∨ (-(2 ^ 64) < j ∧ j < 2 ^ 64)) ∧ d = .int (i * j)) ∨
    ∃ xs k, x = .list xs ∧ y = .int k ∧ (-(2 ^ 63) ≤ k ∧ k < 2 ^ 63 ∧ xs.length * k.toNat ≤ szl) ∧ d = .list (List.replicate k.toNat xs).flatten := by
  cases x <;> cases y <;> simp only [binD] at h <;> (try cases h)
  · split at h
    · cases h
      exact .inl ⟨_, _, rfl, rfl, ‹_›, rfl⟩
    · cases h
  · split at h
    · cases h
      exact .inr ⟨_, _, rfl, rfl, ‹_›, rfl⟩
    · cases h
theorem inv_ints {o : BOp} {C : Int → Int → Prop} {g : Int → Int → Int} (ho : ∀ x y d, binD o x y = .ok d → ∃ i j, x = .int i ∧ y = .int j ∧ C i j ∧ d = .int (g i j)) {op : Operator}
    (hr : OpR X (binaryOp op) (rI C fun i j => .int (g i j))) : OpR X (binaryOp op) (rD2 K (binD o)) := by
  intro pins s σ H x y v u Q I rx ry h
  obtain ⟨F, dx, dy, sf, hx, hy, h⟩ := h
  cases e : binD o dx dy with
  | ok d =>
    rw [e] at h
    obtain ⟨i, j, rfl, rfl, c, rfl⟩ := ho _ _ _ e
    rw [dp_int hx] at rx
    rw [dp_int hy] at ry
    exact hr pins s σ H (.int i) (.int j) v u Q I rx ry ⟨i, j, rfl, rfl, c, fin_here sf h (.int _)⟩
  | exc k => rw [e] at h; exact h.elim
  | bad => rw [e] at h; exact h.elim
theorem cond_int {o : BOp} {C : Int → Int → Prop} {g : Int → Int → Int} [∀ i j, Decidable (C i j)] (h : ∀ x y, binD o x y = match x, y with | .int i, .int j => if C i j then .ok (.int (g i j)) else .bad | _, _ => .bad) :
    ∀ x y d, binD o x y = .ok d → ∃ i j, x = .int i ∧ y = .int j ∧ C i j ∧ d = .int (g i j) := by
  intro x y d e
  rw [h] at e
  split at e
  · split at e
    · cases e
      exact ⟨_, _, rfl, rfl, ‹_›, rfl⟩
    · cases e
  · cases e
theorem o_sub : OpR X (binaryOp .Sub) (rD2 K (binD .sub)) :=
  inv_ints (C := fun _ _ => True) (g := fun i j => i - j) (fun x y d h => by obtain ⟨i, j, a, b, c⟩ := inv_sub h; exact ⟨i, j, a, b, trivial, c⟩) (fun pins s σ H x y v u Q I rx ry ⟨i, j, a, b, _, q⟩ => op_sub pins s σ H x y v u Q I rx ry ⟨i, j, a, b, q⟩)
theorem o_fdiv : OpR X (binaryOp .FloorDiv) (rD2 K (binD .fdiv)) := inv_ints (C := CDivN) (cond_int (C := fun i j => j ≠ 0 ∧ j.natAbs < 1073741824) (g := fun i j => i.fdiv j) (fun x y => by cases x <;> cases y <;> rfl)) op_fdivN
theorem o_mod : OpR X (binaryOp .Mod) (rD2 K (binD .mod)) := inv_ints (cond_int (C := fun i j => j ≠ 0) (g := fun i j => i.fmod j) (fun x y => by cases x <;> cases y <;> rfl)) op_modN
theorem o_pow : OpR X (binaryOp .Pow) (rD2 K (binD .pow)) := inv_ints (C := CPow) (cond_int (C := fun i j => 0 ≤ j ∧ j ≤ 1000000 ∧ i.natAbs < 2 ^ 64) (g := fun i j => i ^ j.toNat) (fun x y => by cases x <;> cases y <;> rfl)) op_pow
theorem o_shl : OpR X (binaryOp .LShift) (rD2 K (binD .shl)) := inv_ints (C := CPow) (cond_int (C := fun i j => 0 ≤ j ∧ j ≤ 1000000 ∧ i.natAbs < 2 ^ 64) (g := fun i j => i * 2 ^ j.toNat) (fun x y => by cases x <;> cases y <;> rfl)) op_shl
theorem o_shr : OpR X (binaryOp .RShift) (rD2 K (binD .shr)) := inv_ints (cond_int (C := fun i j => 0 ≤ j) (g := fun i j => i / 2 ^ j.toNat) (fun x y => by cases x <;> cases y <;> rfl)) op_shr
theorem o_band : OpR X (binaryOp .BitAnd) (rD2 K (binD .band)) := inv_ints (C := fun _ j => j = 1) (cond_int (C := fun _ j => j = 1) (g := fun i _ => i % 2) (fun x y => by cases x <;> cases y <;> rfl)) (fun pins s σ H x y v u Q I rx ry ⟨i, j, a, b, c, q⟩ =>
  op_and pins s σ H x y v u Q I rx ry ⟨i, j, a, b, by
    have c' : j = 1 := c
    subst c'
    show Q (V.int (Builtin.bitAnd i 1)) H
    rw [bitAnd_m1]
    exact q⟩)
/-! lists: any that is read -/
theorem cat_any {pins : List (Addr × Obj)} {s : Shared} {σ : L2.St} {H : Hp} {l b : Addr} {xs zs : List V} {Q : VK} (I : Inv X pins σ H s) (hH : SqL X.K H l xs) (hB : SqL X.K H b zs) (hz : xs.length + zs.length ≤ sizeLine) (q : ∀ p, H p = none → Q (.ref p) (upd H p (.lst (xs ++ zs)))) :
    wpAny (model X.prog X.w) X.A (binaryOp .Add (.ref l) (.ref b)) (EP X pins σ Q) X.xe s := by
  obtain ⟨its, r, ⟨o, n, e, c1, c2, c3⟩, z1⟩ := I.list hH
  obtain ⟨its2, r2, ⟨o2, n2, e2, d1, d2, d3⟩, z2⟩ := I.list hB
  have hl := r.length
  have hl2 := r2.length
  obtain ⟨oc, od, odt, osl⟩ := o
  obtain ⟨oc2, od2, odt2, osl2⟩ := o2
  dsimp only at c1 c2 c3 d1 d2 d3
  subst c1 c2 c3 d1 d2 d3
  have ea : its.toArray ++ its2.toArray = (its ++ its2).toArray := by simp
  refine concat_meets ⟨_, e, rfl⟩ ⟨_, e2, rfl⟩ noFill_list_add seq_list_add PySem.F.slot_list_add PySem.F.entry_list_add (PySem.F.args_list_add_2 _ _) (list_addW l b its.toArray its2.toArray n n2 none none osl osl2 (by rw [List.size_toArray, List.size_toArray]; omega)) ⟨e, e2, ?_⟩
  rw [ea]
  exact ⟨.ref _, _, I.lnew (t' := s.toks) (r.append r2) (by rw [List.length_append]; omega), rfl, q _ I.fresh⟩
theorem list_mulW (l : Addr) (items : Array Value) (n : Nat) (dd : Option Addr) (sl : Array (Option Value)) (x : Int) (u : Tok) (hc0 : ¬(!Builtin.List.listFitsIndex x) = true) (hc1 : ¬items.size * x.toNat > (2 ^ 63 - 1) / 8) (hc2 : ¬Builtin.List.listTooLong (items.size * x.toNat) = true) :
    Meets (Builtin.«list.__mul__» ⟨[.ref l, .int x u], []⟩) (fun _ R s => s.heap.get? l = some { cls := .type "list", dict := dd, data := .seq items n, slots := sl } ∧ R (.ok (.ret (Value.ref s.heap.objs.size))) { s with heap := s.heap.push { cls := Value.type "list", data := Data.seq (List.foldl (fun x1 x2 => x1 ++ x2) #[] (List.replicate (if items.isEmpty = true then 0 else x.toNat) items)) }, toks := s.toks }) :=
  .of_wp fun prog w A R s h => by
    obtain ⟨hp, g, d, tk, os⟩ := s; obtain ⟨hl, h⟩ := h
    have hsz := PySem.AutoListH.joined_fits hc2
    have f1 := AutoSeq1.idx_int; have f2 := AutoSeq1.sub_tuple_tuple; have f3 := AutoSeq1.sub_list_list; have f4 := AutoSeq1.sub_tuple_list; have f5 := AutoSeq1.sub_list_tuple
    wp_walk using AutoSeq1.wpAny_loadPart' hl; refine wpAny_ite_false (decide_eq_false (Nat.not_lt.mpr hsz)) ?_; wp_walk; exact ⟨_, rfl, h⟩
theorem int_rmulW (a : Int) (t : Tok) (l : Addr) (items : Array Value) (n : Nat) (sl : Array (Option Value)) :
    Meets (Builtin.«int.__rmul__» ⟨[.int a t, .ref l], []⟩) (fun _ R s => s.heap.get? l = some { cls := .type "list", dict := none, data := .seq items n, slots := sl } ∧ R (.ok (.ret Value.notImplemented)) s) :=
  .of_wp fun prog w A R s h => by obtain ⟨hp, g, d, tk, os⟩ := s; obtain ⟨hl, h⟩ := h; wp_walk; exact ⟨_, rfl, h⟩
theorem rep_any {pins : List (Addr × Obj)} {s : Shared} {σ : L2.St} {H : Hp} {l : Addr} {xs : List V} {k : Int} {t : Tok} {Q : VK} (I : Inv X pins σ H s) (hH : SqL X.K H l xs) (h1 : -(2 ^ 63) ≤ k) (h2 : k < 2 ^ 63) (hz : xs.length * k.toNat ≤ sizeLine)
    (q : ∀ p, H p = none → Q (.ref p) (upd H p (.lst (List.replicate k.toNat xs).flatten))) :
    wpAny (model X.prog X.w) X.A (binaryOp .Mult (.ref l) (.int k t)) (EP X pins σ Q) X.xe s := by
  obtain ⟨its, r, ⟨o, n, e, c1, c2, c3⟩, z1⟩ := I.list hH
  have hl := r.length
  obtain ⟨oc, od, odt, osl⟩ := o
  dsimp only at c1 c2 c3
  subst c1 c2 c3
  have hlen : its.toArray.size * k.toNat ≤ sizeLine := by rw [List.size_toArray, ← hl]; exact hz
  have hcap : ¬ its.toArray.size * k.toNat > (2 ^ 63 - 1) / 8 := by
    have : (sizeLine : Nat) ≤ (2 ^ 63 - 1) / 8 := by decide
    omega
  have hfit : ¬ (!Builtin.List.listFitsIndex k) = true := by
    rw [fitsIndex_both h1 h2]
    exact Bool.false_ne_true
  have hlong : ¬ Builtin.List.listTooLong (its.toArray.size * k.toNat) = true := by
    rw [notLongL hlen]
    exact Bool.false_ne_true
  have hnew : List.foldl (fun x1 x2 => x1 ++ x2) #[] (List.replicate (if its.toArray.isEmpty = true then 0 else k.toNat) its.toArray) = (List.replicate k.toNat its).flatten.toArray := by
    have f0 : ∀ m : Nat, List.foldl (fun x1 x2 => x1 ++ x2) #[] (List.replicate m its.toArray) = (List.replicate m its).flatten.toArray := fun m => by
      have := foldl_rep its m []
      rw [List.nil_append] at this
      exact this
    rw [f0]
    cases its with
    | nil => simp
    | cons a r' => rw [if_neg (by simp)]
  refine wpAny_binaryOp_repeat_ref (T := "list") (U := "int") (by decide) ⟨_, e, rfl⟩ (fun s' => typeIs_int s' k t) noFill_list_mul F.fills_int_mul F.slot_int_rmul repeat_list F.slot_int_index.lookup
    (call_meets F.slot_int_rmul (typeIs_int s k t) F.entry_int_rmul (F.args_int_rmul_2 _ _) (int_rmulW k t l its.toArray n osl)
      ⟨e, rfl, ⟨_, e, rfl⟩, call_meets F.slot_list_mul ⟨_, e, rfl⟩ F.entry_list_mul (F.args_list_mul_2 _ _) (list_mulW l its.toArray n none osl k t hfit hcap hlong) ⟨e, ?_⟩⟩)
  rw [hnew]
  exact ⟨.ref _, _, I.lnew (t' := s.toks) (r.rep k.toNat) (by rw [PyProof.Rows.lm_len_rep_flat, Nat.mul_comm]; exact hz), rfl, q _ I.fresh⟩
end
end Q

set_option Elab.async false
set_option linter.all false
set_option maxRecDepth 100000
set_option autoImplicit false
set_option maxHeartbeats 4000000
namespace Q
open PySem PySem.Spec PyProof.Rows L2
section
variable {X : Cx}
theorem ref_of {a : Addr} {v : Value} (h : RelV (.ref a) v) : v = .ref a := h
theorem o_add : OpR X (binaryOp .Add) (rD2 X.K (binD .add)) := by
  intro pins s σ H x y v u Q I rx ry h
  obtain ⟨F, dx, dy, sf, hx, hy, h⟩ := h
  cases e : binD .add dx dy with
  | ok d =>
    rw [e] at h
    rcases inv_add e with ⟨i, j, rfl, rfl, rfl⟩ | ⟨xs, ys, rfl, rfl, hz, rfl⟩
    · rw [dp_int hx] at rx
      rw [dp_int hy] at ry
      exact op_add pins s σ H (.int i) (.int j) v u Q I rx ry ⟨i, j, rfl, rfl, fin_here sf h (.int _)⟩
    · obtain ⟨a, vs, rfl, qa, da⟩ := dp_lst hx
      obtain ⟨b, ws, rfl, qb, db⟩ := dp_lst hy
      rw [ref_of rx, ref_of ry]
      refine cat_any I (sf.seq qa) (sf.seq qb) (by rw [dps_len da, dps_len db]; exact hz) fun p hp => ?_
      exact h _ _ _ (Ext.new sf hp) (.lst (.inl (.inl upd_same)) (dps_mono (Ext.new (o := HO.lst (vs ++ ws)) sf hp).ff (dps_app da db)))
  | exc k => rw [e] at h; exact h.elim
  | bad => rw [e] at h; exact h.elim
theorem o_mul : OpR X (binaryOp .Mult) (rD2 X.K (binD .mul)) := by
  intro pins s σ H x y v u Q I rx ry h
  obtain ⟨F, dx, dy, sf, hx, hy, h⟩ := h
  cases e : binD .mul dx dy with
  | ok d =>
    rw [e] at h
    rcases inv_mul e with ⟨i, j, rfl, rfl, hc, rfl⟩ | ⟨xs, k, rfl, rfl, ⟨h1, h2, hz⟩, rfl⟩
    · rw [dp_int hx] at rx
      rw [dp_int hy] at ry
      exact op_mul pins s σ H (.int i) (.int j) v u Q I rx ry ⟨i, j, rfl, rfl, hc, fin_here sf h (.int _)⟩
    · obtain ⟨a, vs, rfl, qa, da⟩ := dp_lst hx
      rw [dp_int hy] at ry
      obtain ⟨t, rfl⟩ := ry
      rw [ref_of rx]
      refine rep_any I (sf.seq qa) h1 h2 (by rw [dps_len da]; exact hz) fun p hp => ?_
      exact h _ _ _ (Ext.new sf hp) (.lst (.inl (.inl upd_same)) (dps_mono (Ext.new (o := HO.lst (List.replicate k.toNat vs).flatten) sf hp).ff (dps_rep da _)))
  | exc k => rw [e] at h; exact h.elim
  | bad => rw [e] at h; exact h.elim
def opOf : BOp → Operator
  | .add => .Add | .sub => .Sub | .mul => .Mult | .fdiv => .FloorDiv | .mod => .Mod | .pow => .Pow | .shl => .LShift | .shr => .RShift | .band => .BitAnd
theorem o_all (o : BOp) : OpR X (binaryOp (opOf o)) (rD2 X.K (binD o)) := by
  cases o
  · exact o_add
  · exact o_sub
  · exact o_mul
  · exact o_fdiv
  · exact o_mod
  · exact o_pow
  · exact o_shl
  · exact o_shr
  · exact o_band
theorem cl_ite {α : Type} {c : Prop} [Decidable c] {a b : Rs α} (h1 : Cl a) (h2 : Cl b) : Cl (if c then a else b) := by
  split
  · exact h1
  · exact h2
theorem cl_ok {α : Type} {a : α} : Cl (Rs.ok a) := fun k h => nomatch h
theorem cl_bad {α : Type} : Cl (Rs.bad : Rs α) := fun k h => nomatch h
theorem cl_bind {α β : Type} {r : Rs α} {f : α → Rs β} (h : Cl r) (hf : ∀ a, Cl (f a)) : Cl (r.bind f) := by
  cases r with
  | ok a => exact hf a
  | exc k => exact absurd rfl (h k)
  | bad => exact cl_bad
theorem cl_bin (o : BOp) (x y : D) : Cl (binD o x y) := by
  unfold binD
  split <;> first | exact cl_ok | exact cl_bad | exact cl_ite cl_ok cl_bad
theorem o_neg : UnR X (unaryOp .USub) (rD1 X.K negD) := by
  intro pins s σ H x v Q I rx h
  obtain ⟨F, dx, sf, hx, h⟩ := h
  cases hx with
  | int i => exact un_neg pins s σ H (.int i) v Q I rx ⟨i, rfl, fin_here sf h (.int _)⟩
  | _ => exact h.elim
theorem cl_neg (x : D) : Cl (negD x) := by
  cases x <;> first | exact cl_ok | exact cl_bad

/-! comparisons -/
def yB (r : Rs Bool) (q : Bool → Prop) : Prop := match r with | .ok b => q b | _ => False
def rB2 (K : Fg) (f : D → D → Rs Bool) : R2 := fun x y H Q => ∃ F dx dy, Same F H ∧ Dp K F x dx ∧ Dp K F y dy ∧ yB (f dx dy) fun b => Q (.bl b) H
theorem scal_v {F : Hp} {x y : V} {dx dy : D} (hx : Dp X.K F x dx) (hy : Dp X.K F y dy) (h : scalD dx dy = true) : scal x y = true ∧ decide (x = y) = eqS dx dy := by
  cases hx <;> cases hy <;> first | exact absurd h Bool.false_ne_true | exact ⟨rfl, by first | rfl | (simp [eqS]; done)⟩
theorem flat_v {F : Hp} {x : V} {dx : D} (hx : Dp X.K F x dx) (h : flatD dx = true) : flatV x = true := by
  cases hx <;> first | rfl | exact absurd h Bool.false_ne_true
theorem eqv_v {F : Hp} {x y : V} {dx dy : D} (hx : Dp X.K F x dx) (hy : Dp X.K F y dy) (h : flatD dx = true) (h' : flatD dy = true) : eqV x y = PyData.eqv dx dy := by
  cases hx <;> cases hy <;> first | rfl | exact absurd h Bool.false_ne_true | exact absurd h' Bool.false_ne_true | (unfold PyData.eqv; rfl)
theorem all_v {F : Hp} : ∀ {xs : List V} {ds : List D}, DpAll X.K F xs ds → ds.all flatD = true → xs.all flatV = true
  | _, _, .nil, _ => rfl
  | _, _, .cons h t, e => by
    rw [List.all_cons, Bool.and_eq_true] at e ⊢
    exact ⟨flat_v h e.1, all_v t e.2⟩
theorem any_v {F : Hp} {x : V} {dx : D} (hx : Dp X.K F x dx) (fx : flatD dx = true) : ∀ {xs : List V} {ds : List D}, DpAll X.K F xs ds → ds.all flatD = true → (xs.any fun y => eqV y x) = ds.any fun y => PyData.eqv y dx
  | _, _, .nil, _ => rfl
  | _, _, .cons h t, e => by
    rw [List.all_cons, Bool.and_eq_true] at e
    rw [List.any_cons, List.any_cons, eqv_v h hx e.1 fx, any_v hx fx t e.2]
theorem eq_step {F H : Hp} {x y : V} {dx dy : D} {Q : VK} {neg : Bool} (sf : Same F H) (hx : Dp X.K F x dx) (hy : Dp X.K F y dy) {b : Bool} (e : eqR SeqAt.shaped dx dy = .ok b) (q : Q (.bl (if neg then !b else b)) H) :
    (scal x y = true ∧ Q (.bl (if neg then !decide (x = y) else decide (x = y))) H) ∨ ∃ d e, Dp X.K H x d ∧ Dp X.K H y e ∧ SeqAt.shaped d = true ∧ SeqAt.shaped e = true ∧ Q (.bl (if neg then !PyData.eqv d e else PyData.eqv d e)) H := by
  unfold eqR at e
  split at e
  · rename_i hs
    obtain ⟨h1, h2⟩ := scal_v hx hy hs
    cases e
    exact .inl ⟨h1, by rw [h2]; exact q⟩
  · split at e
    · rename_i hs
      cases e
      exact .inr ⟨dx, dy, dp_mono sf hx, dp_mono sf hy, hs.1, hs.2, q⟩
    · cases e
theorem c_eq (hu : X.A.units + 64 < cLine) : OpR X (compareOp .Eq) (rB2 X.K (eqR SeqAt.shaped)) := by
  intro pins s σ H x y v u Q I rx ry h
  obtain ⟨F, dx, dy, sf, hx, hy, h⟩ := h
  cases e : eqR SeqAt.shaped dx dy with
  | ok b =>
    rw [e] at h
    rcases eq_step (neg := false) sf hx hy e h with q | q
    · exact op_eq pins s σ H x y v u Q I rx ry q
    · exact op_eqD hu pins s σ H x y v u Q I rx ry q
  | exc k => rw [e] at h; exact h.elim
  | bad => rw [e] at h; exact h.elim
theorem c_ne (hu : X.A.units + 64 < cLine) : OpR X (compareOp .NotEq) (rB2 X.K fun x y => (eqR SeqAt.shaped x y).bind fun b => .ok (!b)) := by
  intro pins s σ H x y v u Q I rx ry h
  obtain ⟨F, dx, dy, sf, hx, hy, h⟩ := h
  cases e : eqR SeqAt.shaped dx dy with
  | ok b =>
    simp only [e, Rs.bind, yB] at h
    rcases eq_step (neg := true) sf hx hy e h with q | q
    · exact op_ne pins s σ H x y v u Q I rx ry q
    · exact op_neD hu pins s σ H x y v u Q I rx ry q
  | exc k => simp only [e, Rs.bind, yB] at h
  | bad => simp only [e, Rs.bind, yB] at h
theorem inv_in {x y : D} {b : Bool} (h : inR x y = .ok b) : ∃ ys, (y = .list ys ∨ y = .tuple ys) ∧ flatD x = true ∧ ys.all flatD = true ∧ b = ys.any fun y => PyData.eqv y x := by
  unfold inR at h
  split at h
  · split at h
    · cases h
      exact ⟨_, .inl rfl, (‹_ ∧ _›).1, (‹_ ∧ _›).2, rfl⟩
    · cases h
  · split at h
    · cases h
      exact ⟨_, .inr rfl, (‹_ ∧ _›).1, (‹_ ∧ _›).2, rfl⟩
    · cases h
  · cases h
theorem in_step {F H : Hp} {x y : V} {dx dy : D} {Q : VK} {neg : Bool} (sf : Same F H) (hx : Dp X.K F x dx) (hy : Dp X.K F y dy) {b : Bool} (e : inR dx dy = .ok b) (q : Q (.bl (if neg then !b else b)) H) : rIn X.K neg x y H Q := by
  obtain ⟨ys, hy', fx, fy, rfl⟩ := inv_in e
  rcases hy' with rfl | rfl
  · obtain ⟨a, vs, rfl, qa, da⟩ := dp_lst hy
    exact ⟨a, vs, rfl, .inl (sf.seq qa), flat_v hx fx, all_v da fy, by unfold inV; rw [any_v hx fx da fy]; exact q⟩
  · obtain ⟨a, vs, rfl, qa, da⟩ := dp_tup hy
    exact ⟨a, vs, rfl, .inr (same_seqT sf qa), flat_v hx fx, all_v da fy, by unfold inV; rw [any_v hx fx da fy]; exact q⟩
theorem c_in : OpR X (compareOp .In) (rB2 X.K inR) := by
  intro pins s σ H x y v u Q I rx ry h
  obtain ⟨F, dx, dy, sf, hx, hy, h⟩ := h
  cases e : inR dx dy with
  | ok b =>
    rw [e] at h
    exact op_in_seq pins s σ H x y v u Q I rx ry (in_step (neg := false) sf hx hy e h)
  | exc k => rw [e] at h; exact h.elim
  | bad => rw [e] at h; exact h.elim
theorem c_nin : OpR X (compareOp .NotIn) (rB2 X.K fun x y => (inR x y).bind fun b => .ok (!b)) := by
  intro pins s σ H x y v u Q I rx ry h
  obtain ⟨F, dx, dy, sf, hx, hy, h⟩ := h
  cases e : inR dx dy with
  | ok b =>
    simp only [e, Rs.bind, yB] at h
    exact op_notIn_seq pins s σ H x y v u Q I rx ry (in_step (neg := true) sf hx hy e h)
  | exc k => simp only [e, Rs.bind, yB] at h
  | bad => simp only [e, Rs.bind, yB] at h
theorem c_ints {o : CmpOp} {f : D → D → Rs Bool} {p : Int → Int → Bool} (hf : ∀ x y b, f x y = .ok b → ∃ i j, x = .int i ∧ y = .int j ∧ b = p i j) (hr : OpR X (compareOp o) (rI0 fun i j => .bl (p i j))) : OpR X (compareOp o) (rB2 X.K f) := by
  intro pins s σ H x y v u Q I rx ry h
  obtain ⟨F, dx, dy, sf, hx, hy, h⟩ := h
  cases e : f dx dy with
  | ok b =>
    rw [e] at h
    obtain ⟨i, j, rfl, rfl, rfl⟩ := hf _ _ _ e
    rw [dp_int hx] at rx
    rw [dp_int hy] at ry
    exact hr pins s σ H (.int i) (.int j) v u Q I rx ry ⟨i, j, rfl, rfl, h⟩
  | exc k => rw [e] at h; exact h.elim
  | bad => rw [e] at h; exact h.elim
def copOf : COp → CmpOp
  | .lt => .Lt | .le => .LtE | .gt => .Gt | .ge => .GtE | .eq => .Eq | .ne => .NotEq | .inn => .In | .nin => .NotIn
theorem inv_cmp {o : COp} {p : Int → Int → Bool} (h : ∀ x y, cmpR SeqAt.shaped o x y = match x, y with | .int i, .int j => .ok (p i j) | _, _ => .bad) : ∀ x y b, cmpR SeqAt.shaped o x y = .ok b → ∃ i j, x = .int i ∧ y = .int j ∧ b = p i j := by
  intro x y b e
  rw [h] at e
  split at e
  · cases e
    exact ⟨_, _, rfl, rfl, rfl⟩
  · cases e
theorem c_all (hu : X.A.units + 64 < cLine) (o : COp) : OpR X (compareOp (copOf o)) (rB2 X.K (cmpR SeqAt.shaped o)) := by
  cases o
  · exact c_ints (inv_cmp (p := fun i j => decide (i < j)) fun x y => by cases x <;> cases y <;> rfl) op_lt
  · exact c_ints (inv_cmp (p := fun i j => decide (i ≤ j)) fun x y => by cases x <;> cases y <;> rfl) op_le
  · exact c_ints (inv_cmp (p := fun i j => decide (j < i)) fun x y => by cases x <;> cases y <;> rfl) op_gt
  · exact c_ints (inv_cmp (p := fun i j => decide (j ≤ i)) fun x y => by cases x <;> cases y <;> rfl) op_ge
  · have e : cmpR SeqAt.shaped .eq = eqR SeqAt.shaped := by
      funext x y
      cases x <;> cases y <;> rfl
    rw [e]
    exact c_eq hu
  · have e : cmpR SeqAt.shaped .ne = fun x y => (eqR SeqAt.shaped x y).bind fun b => .ok (!b) := by
      funext x y
      cases x <;> cases y <;> rfl
    rw [e]
    exact c_ne hu
  · have e : cmpR SeqAt.shaped .inn = inR := by
      funext x y
      cases x <;> cases y <;> rfl
    rw [e]
    exact c_in
  · have e : cmpR SeqAt.shaped .nin = fun x y => (inR x y).bind fun b => .ok (!b) := by
      funext x y
      cases x <;> cases y <;> rfl
    rw [e]
    exact c_nin
theorem cl_eq (x y : D) : Cl (eqR SeqAt.shaped x y) := cl_ite cl_ok (cl_ite cl_ok cl_bad)
theorem cl_in (x y : D) : Cl (inR x y) := by
  unfold inR
  split <;> first | exact cl_bad | exact cl_ite cl_ok cl_bad
theorem cl_cmp (o : COp) (x y : D) : Cl (cmpR SeqAt.shaped o x y) := by
  unfold cmpR
  split <;> first | exact cl_ok | exact cl_bad | exact cl_eq _ _ | exact cl_in _ _ | exact cl_bind (cl_eq _ _) fun _ => cl_ok | exact cl_bind (cl_in _ _) fun _ => cl_ok
end
end Q

set_option Elab.async false
set_option linter.all false
set_option maxRecDepth 100000
set_option autoImplicit false
set_option maxHeartbeats 4000000
namespace Q
open PySem PySem.Spec PyProof.Rows L2
section
variable {X : Cx}
/-! subscripts -/
theorem inv_ixD {i : Int} {xs : List D} {d : D} (h : ixD i xs = .ok d) : atI xs i = some d := by
  unfold ixD at h
  unfold atI ixN
  split at h
  · rename_i h0
    rw [if_pos h0]
    split at h
    · rename_i x hx
      cases h
      have : i < (xs.length : Int) := by
        have := (List.getElem?_eq_some_iff.mp hx).1
        omega
      rw [if_pos this]
      exact hx
    · cases h
  · rename_i h0
    rw [if_neg h0]
    split at h
    · rename_i h1
      rw [if_pos h1]
      split at h
      · rename_i x hx
        cases h
        exact hx
      · cases h
    · cases h
theorem at_v {F : Hp} {xs : List V} {ds : List D} {i : Int} {d : D} (a : DpAll X.K F xs ds) (h : atI ds i = some d) : ∃ v, atI xs i = some v ∧ Dp X.K F v d := by
  unfold atI at h ⊢
  rw [dps_len a]
  cases e : ixN ds.length i with
  | none => rw [e] at h; cases h
  | some j =>
    rw [e] at h
    exact dps_get a h
theorem i_ix : IxR X (rD2 X.K ixR) := by
  intro value slice pins s σ H x y v u Q I rx ry h hs
  obtain ⟨F, dx, dy, sf, hx, hy, h⟩ := h
  have key : ∀ (xs : List D) (i : Int), ixD i xs = ixD i xs → (dx = .list xs ∨ dx = .tuple xs) → dy = .int i → fin (Dp X.K) F H (ixD i xs) Q → wpAny (model X.prog X.w) X.A (subscriptTail value slice v u) (EP X pins σ Q) X.xe s := by
    intro xs i _ hd ei hq
    subst ei
    cases e : ixD i xs with
    | ok d =>
      rw [e] at hq
      have ea := inv_ixD e
      have ey := dp_int hy
      subst ey
      rcases hd with rfl | rfl
      · obtain ⟨a, vs, rfl, qa, da⟩ := dp_lst hx
        obtain ⟨z, hz1, hz2⟩ := at_v da ea
        exact ix_list value slice pins s σ H _ _ v u Q I rx ry ⟨a, vs, i, z, rfl, rfl, sf.seq qa, hz1, fin_here sf hq hz2⟩ hs
      · obtain ⟨a, vs, rfl, qa, da⟩ := dp_tup hx
        obtain ⟨z, hz1, hz2⟩ := at_v da ea
        exact ix_tup value slice pins s σ H _ _ v u Q I rx ry ⟨a, vs, i, z, rfl, rfl, same_seqT sf qa, hz1, fin_here sf hq hz2⟩ hs
    | exc k => rw [e] at hq; exact hq.elim
    | bad => rw [e] at hq; exact hq.elim
  cases dx <;> first
    | exact h.elim
    | (cases dy <;> first
        | exact h.elim
        | exact key _ _ rfl (.inl rfl) rfl h
        | exact key _ _ rfl (.inr rfl) rfl h)
theorem cl_ix (x y : D) : Cl (ixR x y) := by
  have k : ∀ i xs, Cl (ixD i xs) := fun i xs => by
    unfold ixD
    refine cl_ite ?_ (cl_ite ?_ cl_bad) <;> (split <;> first | exact cl_ok | exact cl_bad)
  unfold ixR
  split <;> first | exact k _ _ | exact cl_bad
theorem sIx_eq (n d : Nat) (o : Option Int) : sIx n d o = HT.sIx n d o := by cases o <;> rfl
theorem cut_eq {α : Type} (xs : List α) (lo hi : Option Int) : cut xs lo hi = (xs.drop (HT.sIx xs.length 0 lo)).take (HT.sIx xs.length xs.length hi - HT.sIx xs.length 0 lo) := by
  unfold cut
  rw [sIx_eq, sIx_eq]
def rSl (K : Fg) : V → Option Int → Option Int → Hp → VK → Prop := fun x lo hi H Q => ∃ F dx, Same F H ∧ Dp K F x dx ∧ fin (Dp K) F H (slcR dx lo hi) Q
theorem i_sl : SlR X (rSl X.K) := by
  intro pins s σ H x v vl vu lo hi sl Q I rx hs pl pu h
  obtain ⟨F, dx, sf, hx, h⟩ := h
  cases dx with
  | list ds =>
    obtain ⟨a, vs, rfl, qa, da⟩ := dp_lst hx
    refine sl_list pins s σ H (.ref a) v vl vu lo hi sl Q I rx hs pl pu ⟨a, vs, rfl, sf.seq qa, fun p hp => ?_⟩
    refine h _ _ _ (Ext.new sf hp) (.lst (.inl (.inl upd_same)) ?_)
    rw [cut_eq, ← dps_len da]
    exact dps_take _ (dps_drop _ (dps_mono (Ext.new (o := HO.lst (cutV vs lo hi)) sf hp).ff da))
  | tuple ds =>
    obtain ⟨a, vs, rfl, qa, da⟩ := dp_tup hx
    have ht := (same_seqT sf qa)
    have h : fin (Dp X.K) F H (Rs.ok (.tuple (cut ds lo hi))) Q := h
    have hl := dps_len da
    refine sl_tupA pins s σ H (.ref a) v vl vu lo hi sl Q I rx hs pl pu ⟨a, vs, rfl, ht, fun hw => ?_, fun _ p hp => ?_⟩
    · have e : cut ds lo hi = ds := by
        rw [cut_eq, ← hl, hw.1, hw.2, List.drop_zero, Nat.sub_zero, hl, List.take_length]
      rw [e] at h
      exact h _ _ _ (Ext.refl sf) (.tup qa da)
    · refine h _ _ _ (Ext.new sf hp) (.tup (.inl (.inl upd_same)) ?_)
      rw [cut_eq, ← dps_len da]
      exact dps_take _ (dps_drop _ (dps_mono (Ext.new (o := HO.tup (cutV vs lo hi)) sf hp).ff da))
  | _ => exact h.elim

/-! calls of built-ins -/
theorem ints_v {K : Fg} {F : Hp} : ∀ {vs : List V} {ds : List D} {ns : List Int}, DpAll K F vs ds → intsOf ds = some ns → vs = ns.map V.int
  | _, _, _, .nil, e => by
    cases e
    rfl
  | _, d :: ds, ns, .cons h t, e => by
    cases d with
    | int i =>
      unfold intsOf at e
      cases e2 : intsOf ds with
      | none => rw [e2] at e; cases e
      | some ms =>
        rw [e2] at e
        cases e
        rw [dp_int h, ints_v t e2]
        rfl
    | _ => cases e
theorem lstMin_spec : ∀ (ns : List Int) (m : Int), (lstMin m ns = m ∨ lstMin m ns ∈ ns) ∧ lstMin m ns ≤ m ∧ ∀ y ∈ ns, lstMin m ns ≤ y
  | [], m => ⟨.inl rfl, Int.le_refl m, fun _ h => nomatch h⟩
  | x :: r, m => by
    obtain ⟨h1, h2, h3⟩ := lstMin_spec r (if x < m then x else m)
    unfold lstMin
    have hm : (if x < m then x else m) ≤ m ∧ (if x < m then x else m) ≤ x := by split <;> omega
    refine ⟨?_, ?_, fun y hy => ?_⟩
    · rcases h1 with h1 | h1
      · rw [h1]
        split
        · exact .inr List.mem_cons_self
        · exact .inl rfl
      · exact .inr (List.mem_cons_of_mem _ h1)
    · omega
    · rcases List.mem_cons.mp hy with rfl | hy
      · omega
      · exact h3 y hy
theorem lstMax_spec : ∀ (ns : List Int) (m : Int), (lstMax m ns = m ∨ lstMax m ns ∈ ns) ∧ m ≤ lstMax m ns ∧ ∀ y ∈ ns, y ≤ lstMax m ns
  | [], m => ⟨.inl rfl, Int.le_refl m, fun _ h => nomatch h⟩
  | x :: r, m => by
    obtain ⟨h1, h2, h3⟩ := lstMax_spec r (if m < x then x else m)
    unfold lstMax
    have hm : m ≤ (if m < x then x else m) ∧ x ≤ (if m < x then x else m) := by split <;> omega
    refine ⟨?_, ?_, fun y hy => ?_⟩
    · rcases h1 with h1 | h1
      · rw [h1]
        split
        · exact .inr List.mem_cons_self
        · exact .inl rfl
      · exact .inr (List.mem_cons_of_mem _ h1)
    · omega
    · rcases List.mem_cons.mp hy with rfl | hy
      · omega
      · exact h3 y hy
theorem dps1 {K : Fg} {F : Hp} {xs : List V} {d : D} (h : DpAll K F xs [d]) : ∃ x, xs = [x] ∧ Dp K F x d := by
  cases h with
  | cons a b => cases b; exact ⟨_, rfl, a⟩
theorem dps2 {K : Fg} {F : Hp} {xs : List V} {d e : D} (h : DpAll K F xs [d, e]) : ∃ x y, xs = [x, y] ∧ Dp K F x d ∧ Dp K F y e := by
  cases h with
  | cons a b => cases b with
    | cons c r => cases r; exact ⟨_, _, rfl, a, c⟩
theorem k_len : CallR X (.builtin "len") (rDs X.K (bltR .len)) := by
  intro pins s σ H xs us Q I r h
  obtain ⟨F, ds, sf, hd, h⟩ := h
  rcases ds with _ | ⟨d, r'⟩
  · exact h.elim
  cases d <;> cases r' <;> first | exact h.elim | skip
  · obtain ⟨x, rfl, hx⟩ := dps1 hd
    obtain ⟨a, vs, rfl, qa, da⟩ := dp_lst hx
    exact call_len_seq pins s σ H _ us Q I r ⟨a, vs, rfl, .inl (sf.seq qa), by rw [dps_len da]; exact fin_here sf h (.int _)⟩
  · obtain ⟨x, rfl, hx⟩ := dps1 hd
    obtain ⟨a, vs, rfl, qa, da⟩ := dp_tup hx
    exact call_len_seq pins s σ H _ us Q I r ⟨a, vs, rfl, .inr (same_seqT sf qa), by rw [dps_len da]; exact fin_here sf h (.int _)⟩
theorem k_list : CallR X (.type "list") (rDs X.K (bltR .list)) := by
  intro pins s σ H xs us Q I r h
  obtain ⟨F, ds, sf, hd, h⟩ := h
  rcases ds with _ | ⟨d, r'⟩
  · exact h.elim
  cases d <;> cases r' <;> first | exact h.elim | skip
  · obtain ⟨x, rfl, hx⟩ := dps1 hd
    obtain ⟨a, vs, rfl, qa, da⟩ := dp_lst hx
    exact call_list_of pins s σ H _ us Q I r ⟨a, vs, rfl, .inl (sf.seq qa), fun p hp => h _ _ _ (Ext.new sf hp) (.lst (.inl (.inl upd_same)) (dps_mono (Ext.new (o := HO.lst vs) sf hp).ff da))⟩
  · obtain ⟨x, rfl, hx⟩ := dps1 hd
    obtain ⟨a, vs, rfl, qa, da⟩ := dp_tup hx
    exact call_list_of pins s σ H _ us Q I r ⟨a, vs, rfl, .inr (same_seqT sf qa), fun p hp => h _ _ _ (Ext.new sf hp) (.lst (.inl (.inl upd_same)) (dps_mono (Ext.new (o := HO.lst vs) sf hp).ff da))⟩
theorem k_tuple : CallR X (.type "tuple") (rDs X.K (bltR .tuple)) := by
  intro pins s σ H xs us Q I r h
  obtain ⟨F, ds, sf, hd, h⟩ := h
  rcases ds with _ | ⟨d, r'⟩
  · exact h.elim
  cases d <;> cases r' <;> first | exact h.elim | skip
  · obtain ⟨x, rfl, hx⟩ := dps1 hd
    obtain ⟨a, vs, rfl, qa, da⟩ := dp_lst hx
    exact call_tuple_of pins s σ H _ us Q I r ⟨a, vs, rfl, .inl ⟨sf.seq qa, fun p hp => h _ _ _ (Ext.new sf hp) (.tup (.inl (.inl upd_same)) (dps_mono (Ext.new (o := HO.tup vs) sf hp).ff da))⟩⟩
theorem k_abs : CallR X (.builtin "abs") (rDs X.K (bltR .abs)) := by
  intro pins s σ H xs us Q I r h
  obtain ⟨F, ds, sf, hd, h⟩ := h
  rcases ds with _ | ⟨d, r'⟩
  · exact h.elim
  cases d <;> cases r' <;> first | exact h.elim | skip
  obtain ⟨x, rfl, hx⟩ := dps1 hd
  rw [dp_int hx] at r
  exact call_abs pins s σ H _ us Q I r ⟨_, rfl, fin_here sf h (.int _)⟩
theorem k_int1 : CallR X (.type "int") (rDs X.K (bltR .int1)) := by
  intro pins s σ H xs us Q I r h
  obtain ⟨F, ds, sf, hd, h⟩ := h
  rcases ds with _ | ⟨d, r'⟩
  · exact h.elim
  cases d <;> cases r' <;> first | exact h.elim | skip
  · obtain ⟨x, rfl, hx⟩ := dps1 hd
    rw [dp_bl hx] at r
    exact call_int1 pins s σ H _ us Q I r (.inr ⟨_, rfl, fin_here sf h (.int _)⟩)
  · obtain ⟨x, rfl, hx⟩ := dps1 hd
    rw [dp_int hx] at r
    exact call_int1 pins s σ H _ us Q I r (.inl ⟨_, rfl, fin_here sf h (.int _)⟩)
theorem k_min2 (hc : X.calm = true) : CallR X (.builtin "min") (rDs X.K (bltR .min2)) := by
  intro pins s σ H xs us Q I r h
  obtain ⟨F, ds, sf, hd, h⟩ := h
  rcases ds with _ | ⟨d, _ | ⟨e, r'⟩⟩
  · exact h.elim
  · cases d <;> exact h.elim
  cases d <;> cases e <;> cases r' <;> first | exact h.elim | skip
  obtain ⟨x, y, rfl, hx, hy⟩ := dps2 hd
  rw [dp_int hx, dp_int hy] at r
  exact call_min2 hc pins s σ H _ us Q I r ⟨_, _, rfl, fin_here sf h (.int _)⟩
theorem k_max2 (hc : X.calm = true) : CallR X (.builtin "max") (rDs X.K (bltR .max2)) := by
  intro pins s σ H xs us Q I r h
  obtain ⟨F, ds, sf, hd, h⟩ := h
  rcases ds with _ | ⟨d, _ | ⟨e, r'⟩⟩
  · exact h.elim
  · cases d <;> exact h.elim
  cases d <;> cases e <;> cases r' <;> first | exact h.elim | skip
  obtain ⟨x, y, rfl, hx, hy⟩ := dps2 hd
  rw [dp_int hx, dp_int hy] at r
  exact call_max2 hc pins s σ H _ us Q I r ⟨_, _, rfl, fin_here sf h (.int _)⟩
theorem k_sum (hc : X.calm = true) : CallR X (.builtin "sum") (rDs X.K (bltR .sum)) := by
  intro pins s σ H xs us Q I r h
  obtain ⟨F, ds, sf, hd, h⟩ := h
  rcases ds with _ | ⟨d, r'⟩
  · exact h.elim
  cases d <;> cases r' <;> first | exact h.elim | skip
  rename_i zs
  obtain ⟨x, rfl, hx⟩ := dps1 hd
  obtain ⟨a, vs, rfl, qa, da⟩ := dp_lst hx
  cases e : intsOf zs with
  | none => simp only [bltR, e] at h; exact h.elim
  | some ns =>
    simp only [bltR, e] at h
    rw [ints_v da e] at qa
    exact cr_sum hc pins s σ H _ us Q I r ⟨a, ns, rfl, sf.seq qa, fin_here sf h (.int _)⟩
theorem bools_v {K : PySem.W.Frag} {F : Hp} : ∀ {ds : List D} {vs : List V} {bs : List Bool}, DpAll K F vs ds → boolsOf ds = some bs → vs = bs.map V.bl
  | [], _, bs, .nil, e => by
    cases e
    rfl
  | d :: ds, _, bs, .cons r rs, e => by
    cases d <;> simp only [boolsOf] at e <;> try cases e
    rename_i b
    cases e2 : boolsOf ds with
    | none => rw [e2] at e; cases e
    | some cs =>
      rw [e2] at e
      cases e
      rw [dp_bl r, bools_v rs e2]
      rfl
theorem k_all (hc : X.calm = true) : CallR X (.builtin "all") (rDs X.K (bltR .all)) := by
  intro pins s σ H xs us Q I r h
  obtain ⟨F, ds, sf, hd, h⟩ := h
  rcases ds with _ | ⟨d, r'⟩
  · exact h.elim
  cases d <;> cases r' <;> first | exact h.elim | skip
  rename_i zs
  obtain ⟨x, rfl, hx⟩ := dps1 hd
  obtain ⟨a, vs, rfl, qa, da⟩ := dp_lst hx
  cases e : boolsOf zs with
  | none => simp only [bltR, e] at h; exact h.elim
  | some bs =>
    simp only [bltR, e] at h
    rw [bools_v da e] at qa
    exact cr_all hc pins s σ H _ us Q I r ⟨a, bs, rfl, sf.seq qa, fin_here sf h (.bl _)⟩
theorem k_str1 : CallR X (.type "str") (rDs X.K (bltR .str1)) := by
  intro pins s σ H xs us Q I r h
  obtain ⟨F, ds, sf, hd, h⟩ := h
  rcases ds with _ | ⟨d, r'⟩
  · exact h.elim
  cases d <;> cases r' <;> first | exact h.elim | skip
  obtain ⟨x, rfl, hx⟩ := dps1 hd
  simp only [bltR] at h
  split at h
  case isFalse => exact h.elim
  rename_i hl
  rw [dp_int hx] at r
  exact call_str_int pins s σ H _ us Q I r ⟨_, rfl, hl, fin_here sf h (.str _)⟩
theorem k_minl (hc : X.calm = true) : CallR X (.builtin "min") (rDs X.K (bltR .minl)) := by
  intro pins s σ H xs us Q I r h
  obtain ⟨F, ds, sf, hd, h⟩ := h
  rcases ds with _ | ⟨d, r'⟩
  · exact h.elim
  cases d <;> cases r' <;> first | exact h.elim | skip
  rename_i zs
  obtain ⟨x, rfl, hx⟩ := dps1 hd
  obtain ⟨a, vs, rfl, qa, da⟩ := dp_lst hx
  cases e : intsOf zs with
  | none => simp only [bltR, e] at h; exact h.elim
  | some ns =>
    cases ns with
    | nil => simp only [bltR, e] at h; exact h.elim
    | cons n ns =>
      simp only [bltR, e] at h
      rw [ints_v da e] at qa
      obtain ⟨h1, h2, h3⟩ := lstMin_spec ns n
      refine cr_min hc pins s σ H _ us Q I r ⟨a, n :: ns, rfl, sf.seq qa, by simp, fun m hm hy => ?_⟩
      have e1 : m = lstMin n ns := by
        have a1 := hy (lstMin n ns) (by rcases h1 with h1 | h1 <;> simp [h1])
        rcases List.mem_cons.mp hm with rfl | hm
        · omega
        · have := h3 m hm
          omega
      rw [e1]
      exact fin_here sf h (.int _)
theorem k_maxl (hc : X.calm = true) : CallR X (.builtin "max") (rDs X.K (bltR .maxl)) := by
  intro pins s σ H xs us Q I r h
  obtain ⟨F, ds, sf, hd, h⟩ := h
  rcases ds with _ | ⟨d, r'⟩
  · exact h.elim
  cases d <;> cases r' <;> first | exact h.elim | skip
  rename_i zs
  obtain ⟨x, rfl, hx⟩ := dps1 hd
  obtain ⟨a, vs, rfl, qa, da⟩ := dp_lst hx
  cases e : intsOf zs with
  | none => simp only [bltR, e] at h; exact h.elim
  | some ns =>
    cases ns with
    | nil => simp only [bltR, e] at h; exact h.elim
    | cons n ns =>
      simp only [bltR, e] at h
      rw [ints_v da e] at qa
      obtain ⟨h1, h2, h3⟩ := lstMax_spec ns n
      refine cr_max hc pins s σ H _ us Q I r ⟨a, n :: ns, rfl, sf.seq qa, by simp, fun m hm hy => ?_⟩
      have e1 : m = lstMax n ns := by
        have a1 := hy (lstMax n ns) (by rcases h1 with h1 | h1 <;> simp [h1])
        rcases List.mem_cons.mp hm with rfl | hm
        · omega
        · have := h3 m hm
          omega
      rw [e1]
      exact fin_here sf h (.int _)
theorem cl_blt (b : Blt) (xs : List D) : Cl (bltR b xs) := by
  unfold bltR
  split <;> first | exact cl_ok | exact cl_bad | (split <;> first | exact cl_ok | exact cl_bad)
/-! isinstance -/
def tyN : Ty → String
  | .int => "int" | .bool => "bool" | .str => "str" | .tup => "tuple" | .lst => "list"
theorem isi_of {F H : Hp} {x : V} {d : D} {Q : VK} (t : Ty) (sf : Same F H) (hx : Dp X.K F x d) (q : Q (.bl (isiD d t)) H) : rIsi X.K [x, .ty (tyN t)] H Q := by
  have lst : ∀ {a : Addr} {xs : List V}, SqL X.K H a xs → TyX X.K H (.ref a) (.type "list") := fun {a xs} h => by
    rcases h with (h | ⟨o, h⟩) | ⟨o, its, n, hk, hc, _⟩
    · exact .base (.lst h)
    · exact .base (.frz h)
    · exact .kList hk hc
  have tup : ∀ {a : Addr} {xs : List V}, SqT X.K H a xs → TyX X.K H (.ref a) (.type "tuple") := fun {a xs} h => by
    rcases h with (h | ⟨o, h⟩) | ⟨o, its, n, hk, hc, _⟩
    · exact .base (.tup h)
    · exact .fTuple h
    · exact .kTuple hk hc
  have go : ∀ (c : String) (b : Bool), TyX X.K H x (.type c) → kitB c (tyN t) = some b → b = isiD d t → rIsi X.K [x, .ty (tyN t)] H Q := fun c b ty e eb =>
    ⟨x, .ty (tyN t), .type c, .type (tyN t), b, rfl, .ty _, ty, kit_ty e, by rw [eb]; exact q⟩
  cases hx with
  | non => cases t <;> first | exact go "NoneType" true (.base .non) (by decide +kernel) rfl | exact go "NoneType" false (.base .non) (by decide +kernel) rfl
  | bl b => cases t <;> first | exact go "bool" true (.base (.bl b)) (by decide +kernel) rfl | exact go "bool" false (.base (.bl b)) (by decide +kernel) rfl
  | int i => cases t <;> first | exact go "int" true (.base (.int i)) (by decide +kernel) rfl | exact go "int" false (.base (.int i)) (by decide +kernel) rfl
  | str s => cases t <;> first | exact go "str" true (.base (.str s)) (by decide +kernel) rfl | exact go "str" false (.base (.str s)) (by decide +kernel) rfl
  | lst h _ => cases t <;> first | exact go "list" true (lst (sf.seq h)) (by decide +kernel) rfl | exact go "list" false (lst (sf.seq h)) (by decide +kernel) rfl
  | tup h _ => cases t <;> first | exact go "tuple" true (tup (same_seqT sf h)) (by decide +kernel) rfl | exact go "tuple" false (tup (same_seqT sf h)) (by decide +kernel) rfl
end
end Q

set_option Elab.async false
set_option linter.all false
set_option maxRecDepth 100000
set_option autoImplicit false
set_option maxHeartbeats 4000000
namespace Q
open PySem PySem.Spec PyProof.Rows L2

/-! ### what a def promises -/
def outP (K : Fg) (F H : Hp) (r : Rs Sl) (Q : VK) (E : Nat → Hp → Prop) : Prop := match r with
  | .ok (.fr d) => ∀ F' H' v, Ext F H F' H' → Dp K F' v d → Q v H'
  | .ok (.ow es) => ∀ F' H' p ws, Ext F H F' H' → H p = none → F' p = none → H' p = some (.lst ws) → DpAll K F' ws es → Q (.ref p) H'
  | .ok (.er _) => False
  | .exc k => ∀ F' H', Ext F H F' H' → E k H'
  | .bad => False
def spF (K : Fg) (cls : Nat → Value) (n : Nat) (φ : List D → Rs Sl) : Sp := fun vs H Q E => vs.length = n ∧ ∃ F ds, Same F H ∧ DpAll K F vs ds ∧ outP K F H (φ ds) Q fun k H' => E (cls k) none H'

/-! ### the text -/
structure Cfg where
  N : List Str
  fs : List (Str × Nat)
  hot : Bool
  /-- the errors' names: caught, raised -/
  cs : List Str
  rs : List Str
  /-- the names that isinstance asks an error for -/
  ist : List (Str × List (Nat × Bool))
  /-- numbers that stand for good -/
  gi : List (Str × Int)
def okN (x : Str) : Bool := !(x == ("__debug__" : Str)) && !(x == ("__classdict__" : Str)) && !(x == ("__name__" : Str))
def visB (sc : Scope) (x : Str) : Bool := match sc.names.lookup x with
  | some .local => true | some .cell => true | some .free => true | _ => false
def locB (sc : Scope) (x : Str) : Bool := match sc.names.lookup x with
  | some .local => true | _ => false
def glB (sc : Scope) (x : Str) : Bool := (match sc.names.lookup x with
  | some .globalImplicit => true | _ => false) && okN x
def chkV (g : Cfg) (sc : Scope) (i : Nat) (x : Str) : Bool := decide (g.N[i]? = some x) && visB sc x && okN x
def nst : Expr → Bool
  | .Starred _ _ => false
  | _ => true
def nset : Expr → Bool
  | .Set _ _ _ => false
  | _ => true
def nsl : Expr → Bool
  | .Slice _ _ _ _ => false
  | _ => true
def bltN : Blt → Str
  | .len => "len" | .list => "list" | .abs => "abs" | .min2 => "min" | .max2 => "max" | .int1 => "int" | .sum => "sum" | .minl => "min" | .maxl => "max" | .tuple => "tuple" | .all => "all" | .str1 => "str"
def bltCold : Blt → Bool
  | .len => true | .list => true | .abs => true | .int1 => true | .tuple => true | _ => false
def bnames : List Str := ["len", "list", "abs", "min", "max", "int", "sum", "tuple", "isinstance", "bool", "str", "range", "reversed", "zip", "enumerate", "all"]
def tySt (t : Ty) : Str := Str.ofString (tyN t)
def exsNil : Exs → Bool
  | .nil => true | _ => false
mutual
/-- a test only where Python asks it plainly -/
def tst : Ex → Bool
  | .ite _ _ _ => false
  | .nt a => tst a
  | .conj a as => tst a && tsts as
  | .disj a as => tst a && tsts as
  | _ => true
def tsts : Exs → Bool
  | .nil => true
  | .cons t ts => tst t && tsts ts
end
section
variable (g : Cfg)
def chkT : List (List (Nat × Bool)) → Scope → List Expr → Bool
  | [], sc, es => (match es with | [] => true | _ => false)
  | tb :: tbs, sc, es => (match es with | .Name y _ :: r => glB sc y && decide (g.ist.lookup y = some tb) && chkT tbs sc r | _ => false)
mutual
def chk : Ex → Scope → Expr → Bool
  | .var i, sc, e => (match e with | .Name x _ => chkV g sc i x | _ => false)
  | .ntL i, sc, e => (match e with | .UnaryOp .Not (.Name x _) _ => chkV g sc i x | _ => false)
  | .cI k, sc, e => (match e with | .Constant (.int j) _ _ => decide (k = j) | _ => false)
  | .cS k, sc, e => (match e with | .Constant (.str j) _ _ => decide (k = j) | _ => false)
  | .cB k, sc, e => (match e with | .Constant (.bool j) _ _ => decide (k = j) | _ => false)
  | .cN, sc, e => (match e with | .Constant .none _ _ => true | _ => false)
  | .bin o a b, sc, e => (match e with | .BinOp l op r _ => decide (op = opOf o) && chk a sc l && chk b sc r | _ => false)
  | .neg a, sc, e => (match e with | .UnaryOp .USub l _ => chk a sc l | _ => false)
  | .cmp o a b, sc, e => (match e with | .Compare l [op] [r] _ => decide (op = copOf o) && chk a sc l && chk b sc r && !(behindInMarks op r) | _ => false)
  | .chn o p a b c, sc, e => (match e with | .Compare l [op, op'] [r, z] _ => decide (op = copOf o) && decide (op' = copOf p) && chk a sc l && chk b sc r && chk c sc z && !(lastMarks [op, op'] [r, z]) | _ => false)
  | .isN a, sc, e => (match e with | .Compare l [.Is] [.Constant .none _ _] _ => chk a sc l | _ => false)
  | .notN a, sc, e => (match e with | .Compare l [.IsNot] [.Constant .none _ _] _ => chk a sc l | _ => false)
  | .conj a as, sc, e => (match e with | .BoolOp .And (l :: r :: rs) _ => chk a sc l && chks as sc (r :: rs) | _ => false)
  | .disj a as, sc, e => (match e with | .BoolOp .Or (l :: r :: rs) _ => chk a sc l && chks as sc (r :: rs) | _ => false)
  | .nt a, sc, e => (match e with | .UnaryOp .Not l _ => chk a sc l | _ => false)
  | .ite c a b, sc, e => (match e with | .IfExp z l r _ => tst c && chk c sc z && chk a sc l && chk b sc r | _ => false)
  | .ix a b, sc, e => (match e with | .Subscript l r _ => nsl r && chk a sc l && chk b sc r | _ => false)
  | .slc a lo hi, sc, e => (match e with
      | .Subscript l (.Slice none none none _) _ => chk a sc l && isCN lo && isCN hi
      | .Subscript l (.Slice (some x) none none _) _ => chk a sc l && chk lo sc x && !(isCN lo) && isCN hi
      | .Subscript l (.Slice none (some y) none _) _ => chk a sc l && isCN lo && chk hi sc y && !(isCN hi)
      | .Subscript l (.Slice (some x) (some y) none _) _ => chk a sc l && chk lo sc x && !(isCN lo) && chk hi sc y && !(isCN hi)
      | _ => false)
  | .call f a as, sc, e => (match e with
      | .Call (.Name x _) (l :: ls) [] _ => !g.hot && glB sc x && decide (g.fs[f]? = some (x, ls.length + 1)) && nst l && chk a sc l && chks as sc ls
      | _ => false)
  | .blt b a as, sc, e => (match e with
      | .Call (.Name x _) (l :: ls) [] _ => (!g.hot || bltCold b) && glB sc x && decide (x = bltN b) && nst l && chk a sc l && chks as sc ls
      | _ => false)
  | .tup as, sc, e => (match e with | .Tuple ls _ _ => chks as sc ls | _ => false)
  | .lst as, sc, e => (match e with | .List ls _ => chks as sc ls | _ => false)
  | .isi a t, sc, e => (match e with
      | .Call (.Name x _) [l, .Name y _] [] _ => glB sc x && decide (x = "isinstance") && glB sc y && decide (y = tySt t) && nst l && chk a sc l
      | _ => false)
  | .comp i t it, sc, e => (match e with
      | .ListComp el [⟨.Name x _, itr, [], 0⟩] scope _ => !g.hot && blkC g.N sc scope [(x, i)] && locB (relS scope sc) x && chkI it false sc itr && chk t (relS scope sc) el
      | _ => false)
  | .comp2 i j t it, sc, e => (match e with
      | .ListComp el [⟨.Tuple [.Name x _, .Name z _] _ _, itr, [], 0⟩] scope _ => !g.hot && decide (i ≠ j) && blkC g.N sc scope [(x, i), (z, j)] && locB (relS scope sc) x && locB (relS scope sc) z && chkI it true sc itr && chk t (relS scope sc) el
      | _ => false)
  | .lrev a, sc, e => (match e with
      | .Call (.Name x _) [.Call (.Name y _) [l] [] _] [] _ => !g.hot && glB sc x && decide (x = "list") && glB sc y && decide (y = "reversed") && nst l && chk a sc l
      | _ => false)
  | .lenO i, sc, e => (match e with
      | .Call (.Name x _) [.Name y _] [] _ => glB sc x && decide (x = "len") && chkV g sc i y
      | _ => false)
  | .fmt a, sc, e => (match e with | .FormattedValue l (-1) none _ => chk a sc l | _ => false)
  | .isB ng b a, sc, e => (match e with
      | .Compare l [.Is] [.Constant (.bool c) _ _] _ => !ng && decide (b = c) && chk a sc l
      | .Compare l [.IsNot] [.Constant (.bool c) _ _] _ => ng && decide (b = c) && chk a sc l
      | _ => false)
  | .mxD mn a d, sc, e => (match e with
      | .Call (.Name x _) [l] [⟨some k, r, _⟩] _ => !g.hot && glB sc x && decide (x = (if mn = true then "min" else "max")) && decide (k = "default") && nst l && chk a sc l && chk d sc r
      | _ => false)
  | .gI i, sc, e => (match e with | .Name x _ => glB sc x && decide (g.gi.lookup x = some i) | _ => false)
  | .ixO i b, sc, e => (match e with | .Subscript (.Name x _) r _ => nsl r && chkV g sc i x && chk b sc r | _ => false)
  | .isE i tb, sc, e => (match e with
      | .Call (.Name x _) [.Name z _, .Name y _] [] _ => g.hot && glB sc x && decide (x = "isinstance") && chkV g sc i z && glB sc y && decide (g.ist.lookup y = some tb)
      | _ => false)
  | .isT i tbs, sc, e => (match e with
      | .Call (.Name x _) [.Name z _, .Tuple ls _ _] [] _ => g.hot && glB sc x && decide (x = "isinstance") && chkV g sc i z && decide (tbs.length ≤ szl) && chkT g tbs sc ls
      | _ => false)
  | .fstr as, sc, e => (match e with | .JoinedStr (l :: r :: rs) _ => chks as sc (l :: r :: rs) | _ => false)
/-- the target is a pair: pr -/
def chkI : Itr → Bool → Scope → Expr → Bool
  | .lst a, pr, sc, e => nset e && chk a sc e
  | .tup a, pr, sc, e => nset e && chk a sc e
  | .rng a, pr, sc, e => (match e with
      | .Call (.Name x _) [l] [] _ => glB sc x && decide (x = "range") && nst l && chk a sc l
      | _ => false)
  | .rng2 a b, pr, sc, e => (match e with
      | .Call (.Name x _) [l, r] [] _ => glB sc x && decide (x = "range") && nst l && nst r && chk a sc l && chk b sc r
      | _ => false)
  | .rrng a, pr, sc, e => (match e with
      | .Call (.Name x _) [.Call (.Name y _) [l] [] _] [] _ => glB sc x && decide (x = "reversed") && glB sc y && decide (y = "range") && nst l && chk a sc l
      | _ => false)
  | .rev a, pr, sc, e => (match e with
      | .Call (.Name x _) [l] [] _ => glB sc x && decide (x = "reversed") && nst l && chk a sc l
      | _ => false)
  | .zip a b, pr, sc, e => (match e with
      | .Call (.Name x _) [l, r] [] _ => pr && glB sc x && decide (x = "zip") && nst l && nst r && chk a sc l && chk b sc r
      | _ => false)
  | .enm a, pr, sc, e => (match e with
      | .Call (.Name x _) [l] [] _ => pr && glB sc x && decide (x = "enumerate") && nst l && chk a sc l
      | _ => false)
  | .enS a b, pr, sc, e => (match e with
      | .Call (.Name x _) [l] [⟨some k, r, _⟩] _ => pr && glB sc x && decide (x = "enumerate") && decide (k = "start") && nst l && nst r && chk a sc l && chk b sc r
      | _ => false)
def chks : Exs → Scope → List Expr → Bool
  | .nil, sc, es => (match es with | [] => true | _ => false)
  | .cons t ts, sc, es => (match es with | e :: r => nst e && chk t sc e && chks ts sc r | _ => false)
end
end

/-! ### where code stands -/
/-- what isinstance answers of the errors, asked for the class that y names -/
def IsC (P : Par) (X : Cx) (y : Str) (tb : List (Nat × Bool)) : Prop :=
  ∃ (v : V) (cv : Value), (X.mg y = some cv ∨ (X.mg y = none ∧ bootBuiltins y = some cv)) ∧ RelV v cv ∧ (∀ u, RelV v u → u = cv) ∧ ∀ k b, tb.lookup k = some b → PySem.W.kitOne X.K (P.cls k) cv = some b
structure Ct (P : Par) (g : Cfg) (X : Cx) (W : Wsh) (Φ : Fns) : Prop where
  n : X.N = g.N
  nd : g.N.Nodup
  k : X.K = P.K
  bl : ∀ x ∈ bnames, X.mg x = none
  calm : g.hot = false → X.calm = true
  un : X.A.units + 64 < cLine
  fns : g.hot = false → ∀ (j : Nat) (x : Str) (n : Nat), g.fs[j]? = some (x, n) → ∃ f fd ps k, X.mg x = some (.ref f) ∧ PySem.W.keepIn X.K (.ref f) = true ∧ Binds X.K fd ps [] ∧ Room k X.A ∧
    FnOk X.prog X.w X.K X.mg X.base (L2.CX X.prog X.w) k f fd ps (spF P.K P.cls n (Φ j))
  er : g.hot = true → ∀ a k, P.ER a k → ∃ oe C, (a, oe) ∈ X.pn ∧ P.cls k = .ref C ∧ ExcC X.K C ∧ Zc (.ref C) none oe ∧ ∃ vs, oe.data = .fields vs
  gi : ∀ x i, g.gi.lookup x = some i → ∃ t, X.mg x = some (.int i t)
  is : ∀ y tb, g.ist.lookup y = some tb → IsC P X y tb
  pa : ∀ σ, PassesAt (L2.CX X.prog X.w) X σ (fun cls d H => ∃ k, cls = P.cls k ∧ d = none ∧ W k σ H)

theorem okN_of {x : Str} (h : okN x = true) : (x == ("__debug__" : Str)) = false ∧ (x == ("__classdict__" : Str)) = false ∧ x ≠ "__name__" := by
  unfold okN at h
  simp only [Bool.and_eq_true, Bool.not_eq_true'] at h
  exact ⟨h.1.1, h.1.2, fun e => by
    have := h.2
    rw [e] at this
    simp at this⟩
theorem vis_of {sc : Scope} {x : Str} (h : visB sc x = true) : Vis sc x := by
  unfold visB at h
  split at h <;> first | exact .inl ‹_› | exact .inr (.inl ‹_›) | exact .inr (.inr ‹_›) | cases h
theorem loc_of {sc : Scope} {x : Str} (h : locB sc x = true) : sc.names.lookup x = some .local := by
  unfold locB at h
  split at h
  · assumption
  · cases h
theorem gl_of {X : Cx} {x : Str} (h : glB X.env.scope x = true) : Gl X x ∧ (x == ("__debug__" : Str)) = false ∧ x ≠ "__name__" := by
  unfold glB at h
  rw [Bool.and_eq_true] at h
  obtain ⟨h1, h2⟩ := h
  obtain ⟨a, _, c⟩ := okN_of h2
  refine ⟨?_, a, c⟩
  split at h1
  · assumption
  · cases h1
theorem star_of {e : Expr} {es : List Expr} {env : PySem.Env} (h : nst e = true) : starEach (e :: es) env = (false, eval e env) :: starEach es env := by
  cases e <;> first | rfl | exact absurd h Bool.false_ne_true
theorem plain_of {e : Expr} (h : nsl e = true) : PlainIx e := by
  cases e <;> first | exact fun _ _ => rfl | exact absurd h Bool.false_ne_true
theorem nostars {g : Cfg} {sc : Scope} {env : PySem.Env} {pos : Pos} : ∀ {ts : Exs} {es : List Expr}, chks g ts sc es = true → (backTo pos (starEach es env)).any (·.1) = false
  | .nil, [], _ => rfl
  | .nil, _ :: _, h => absurd (show false = true from h) Bool.false_ne_true
  | .cons _ _, [], h => absurd (show false = true from h) Bool.false_ne_true
  | .cons t ts, e :: es, h => by
    have h : (nst e && chk g t sc e && chks g ts sc es) = true := h
    rw [Bool.and_eq_true, Bool.and_eq_true] at h
    rw [star_of h.1.1]
    exact nostars (ts := ts) (es := es) h.2

section
variable {P : Par} {g : Cfg} {X : Cx} {W : Wsh} {Φ : Fns} {e l r z : Expr} {es : List Expr} {pos : Pos} {f f1 f2 f3 : Env → Rs D} {fl : Env → Rs (List D)}
theorem Sta.var {F H : Hp} {σ : L2.St} {env : Env} (s : Sta P F H σ env) {i : Nat} {d : D} (h : varR env i = .ok d) : ∃ x, σ[i]? = some (some x) ∧ Dp P.K F x d := by
  unfold varR at h
  split at h
  · rename_i d' e
    cases h
    exact s.sl i _ e
  · cases h
theorem cl_var (env : Env) (i : Nat) : Cl (varR env i) := by
  unfold varR
  split <;> first | exact cl_ok | exact cl_bad
theorem s_const {v : V} {d : D} (h : PE X e (tC v)) (hd : ∀ F, Dp P.K F v d) : PE X e (rd P W fun _ => .ok d) := h.imp fun σ H Q ⟨F, env, st, q⟩ => q F H v (Ext.refl st.same) (hd F)
theorem s_var {i : Nat} {x : Str} (c : Ct P g X W Φ) (h : chkV g X.env.scope i x = true) : PE X (.Name x pos) (rd P W fun env => varR env i) := by
  unfold chkV at h
  rw [Bool.and_eq_true, Bool.and_eq_true, decide_eq_true_eq] at h
  obtain ⟨a, b, _⟩ := okN_of h.2
  refine (pe_var (i := i) (by rw [c.n]; exact h.1.1) (vis_of h.1.2) a b).imp fun σ H Q ⟨F, env, st, q⟩ => ?_
  cases e : varR env i with
  | ok d =>
    simp only [e] at q
    obtain ⟨y, h1, h2⟩ := st.var e
    exact ⟨y, h1, q F H y (Ext.refl st.same) h2⟩
  | exc k => exact absurd e (cl_var env i k)
  | bad => simp only [e] at q; exact q.elim
theorem s_op2 {o : R2} {k : D → D → Rs D} {ta tb : TE} {t : TE} (ho : o = rD2 P.K k) (hc : ∀ x y, Cl (k x y)) (h : PE X e (tOp o (rd P W f1) (rd P W f2))) : PE X e (rd P W fun env => (f1 env).bind fun x => (f2 env).bind fun y => k x y) := by
  subst ho
  refine h.imp fun σ H Q ⟨F, env, st, q⟩ => ?_
  refine ⟨F, env, st, post_seq q fun dx F1 H1 x e1 x1 rx q1 => ⟨F1, env, st.mono x1, post_seq q1 fun dy F2 H2 y e2 x2 ry q2 => ⟨F2, dx, dy, x2.fh, dp_mono x2.ff rx, ry, post_fin (hc dx dy) q2⟩⟩⟩
theorem s_bin {o : BOp} (c : Ct P g X W Φ) (ha : PE X l (rd P W f1)) (hb : PE X r (rd P W f2)) : PE X (.BinOp l (opOf o) r pos) (rd P W fun env => (f1 env).bind fun x => (f2 env).bind fun y => binD o x y) :=
  s_op2 (ta := rd P W f1) (tb := rd P W f2) (t := rd P W f1) rfl (cl_bin o) (pe_op (by rw [← c.k]; exact o_all o) ha hb)
theorem s_neg (c : Ct P g X W Φ) (ha : PE X l (rd P W f1)) : PE X (.UnaryOp .USub l pos) (rd P W fun env => (f1 env).bind negD) := by
  refine (pe_un (r := rD1 P.K negD) (by rw [← c.k]; exact o_neg) ha).imp fun σ H Q ⟨F, env, st, q⟩ => ?_
  exact ⟨F, env, st, post_seq q fun dx F1 H1 x e1 x1 rx q1 => ⟨F1, dx, x1.fh, rx, post_fin (cl_neg dx) q1⟩⟩
/-- from a yes or no by its rule, to data -/
theorem B_of {F H : Hp} {σ : L2.St} {r : Rs Bool} (hc : Cl r) {Q : VK} (s : Same F H) (q : post (Dp P.K) W σ F H (r.bind fun b => .ok (.bool b)) Q) : yB r fun b => Q (.bl b) H := by
  cases r with
  | ok b => exact q F H (.bl b) (Ext.refl s) (.bl b)
  | exc k => exact absurd rfl (hc k)
  | bad => exact q
theorem cmp_in {o : COp} (ha : PE X l (rd P W f1)) {σ : L2.St} {H : Hp} {Q : VK} (h : rd P W (fun env => (f1 env).bind fun x => (f2 env).bind fun y => (cmpR SeqAt.shaped o x y).bind fun b => .ok (.bool b)) σ H Q) :
    tOp (rB2 P.K (cmpR SeqAt.shaped o)) (rd P W f1) (rd P W f2) σ H Q := by
  obtain ⟨F, env, st, q⟩ := h
  exact ⟨F, env, st, post_seq q fun dx F1 H1 x e1 x1 rx q1 => ⟨F1, env, st.mono x1, post_seq q1 fun dy F2 H2 y e2 x2 ry q2 => ⟨F2, dx, dy, x2.fh, dp_mono x2.ff rx, ry, B_of (cl_cmp o dx dy) x2.fh q2⟩⟩⟩
theorem s_cmp {o : COp} (c : Ct P g X W Φ) (ha : PE X l (rd P W f1)) (hb : PE X r (rd P W f2)) (hm : behindInMarks (copOf o) r = false) :
    PE X (.Compare l [copOf o] [r] pos) (rd P W fun env => (f1 env).bind fun x => (f2 env).bind fun y => (cmpR SeqAt.shaped o x y).bind fun b => .ok (.bool b)) :=
  (pe_cmpR (r := rB2 P.K (cmpR SeqAt.shaped o)) (by rw [← c.k]; exact c_all c.un o) ha hb hm).imp fun σ H Q h => cmp_in ha h
/-- a test, from its value's rule -/
theorem T_of {t : TE} (h : PT X e (tTest t)) (k : ∀ σ H Q, rd P W f σ H Q → t σ H Q) : PT X e (rdB P W f) := by
  refine h.imp fun σ H Q ⟨F, env, st, q⟩ => k σ H _ ⟨F, env, st, ?_⟩
  cases e : f env with
  | ok d =>
    simp only [e] at q
    cases d with
    | bool b => exact fun F' H' v x r => by rw [dp_bl r]; exact ⟨b, rfl, q F' H' b x rfl⟩
    | _ => exact q.elim
  | exc j => simp only [e] at q; exact q
  | bad => simp only [e] at q; exact q.elim
theorem T_val (h : PE X e (rd P W f)) (he : ∀ whole, isTrue e X.env whole = (do let v ← whole; standAt e.pos; holding [v] (truthy v))) : PT X e (rdB P W f) := by
  refine (pt_val h he).imp fun σ H Q ⟨F, env, st, q⟩ => ⟨F, env, st, ?_⟩
  cases e : f env with
  | ok d =>
    simp only [e] at q
    cases d with
    | bool b => exact fun F' H' v x r => by rw [dp_bl r]; exact ⟨b, rfl, q F' H' b x rfl⟩
    | _ => exact q.elim
  | exc j => simp only [e] at q; exact q
  | bad => simp only [e] at q; exact q.elim
theorem t_cmp {o : COp} (c : Ct P g X W Φ) (ha : PE X l (rd P W f1)) (hb : PE X r (rd P W f2)) (hm : behindInMarks (copOf o) r = false) :
    PT X (.Compare l [copOf o] [r] pos) (rdB P W fun env => (f1 env).bind fun x => (f2 env).bind fun y => (cmpR SeqAt.shaped o x y).bind fun b => .ok (.bool b)) :=
  T_of (pt_cmpR (r := rB2 P.K (cmpR SeqAt.shaped o)) (by rw [← c.k]; exact c_all c.un o) ha hb hm) fun σ H Q h => cmp_in ha h
theorem chn_in {o p : COp} {σ : L2.St} {H : Hp} {Q : VK} (h : rd P W (fun env => (f1 env).bind fun x => (f2 env).bind fun y => (cmpR SeqAt.shaped o x y).bind fun r =>
      if r = true then (f3 env).bind fun z => (cmpR SeqAt.shaped p y z).bind fun r => .ok (.bool r) else .ok (.bool false)) σ H Q) :
    tChain (rB2 P.K (cmpR SeqAt.shaped o)) (rB2 P.K (cmpR SeqAt.shaped p)) (rd P W f1) (rd P W f2) (rd P W f3) σ H Q := by
  obtain ⟨F, env, st, q⟩ := h
  refine ⟨F, env, st, post_seq q fun dx F1 H1 x e1 x1 rx q1 => ⟨F1, env, st.mono x1, post_seq q1 fun dy F2 H2 y e2 x2 ry q2 => ⟨F2, dx, dy, x2.fh, dp_mono x2.ff rx, ry, ?_⟩⟩⟩
  have c := cl_cmp o dx dy
  cases e : cmpR SeqAt.shaped o dx dy with
  | exc k => exact absurd e (c k)
  | bad => simp only [e, Rs.bind] at q2; exact q2.elim
  | ok b =>
    simp only [e, Rs.bind] at q2
    refine ⟨b, rfl, ?_⟩
    cases b with
    | false => exact q2 F2 H2 (.bl false) (Ext.refl x2.fh) (.bl false)
    | true => exact ⟨F2, env, (st.mono x1).mono x2, post_seq q2 fun dz F3 H3 z e3 x3 rz q3 => ⟨F3, dy, dz, x3.fh, dp_mono x3.ff ry, rz, B_of (cl_cmp p dy dz) x3.fh q3⟩⟩
theorem s_chn {o p : COp} (c : Ct P g X W Φ) (ha : PE X l (rd P W f1)) (hb : PE X r (rd P W f2)) (hz : PE X z (rd P W f3)) (hm : lastMarks [copOf o, copOf p] [r, z] = false) :
    PE X (.Compare l [copOf o, copOf p] [r, z] pos) (rd P W fun env => (f1 env).bind fun x => (f2 env).bind fun y => (cmpR SeqAt.shaped o x y).bind fun r =>
      if r = true then (f3 env).bind fun z => (cmpR SeqAt.shaped p y z).bind fun r => .ok (.bool r) else .ok (.bool false)) :=
  (pe_chain (r := rB2 P.K (cmpR SeqAt.shaped o)) (r' := rB2 P.K (cmpR SeqAt.shaped p)) (by rw [← c.k]; exact c_all c.un o) (by rw [← c.k]; exact c_all c.un p) ha hb hz hm).imp fun σ H Q h => chn_in h
theorem t_chn {o p : COp} (c : Ct P g X W Φ) (ha : PE X l (rd P W f1)) (hb : PE X r (rd P W f2)) (hz : PE X z (rd P W f3)) (hm : lastMarks [copOf o, copOf p] [r, z] = false) :
    PT X (.Compare l [copOf o, copOf p] [r, z] pos) (rdB P W fun env => (f1 env).bind fun x => (f2 env).bind fun y => (cmpR SeqAt.shaped o x y).bind fun r =>
      if r = true then (f3 env).bind fun z => (cmpR SeqAt.shaped p y z).bind fun r => .ok (.bool r) else .ok (.bool false)) :=
  T_of (pt_chain (r := rB2 P.K (cmpR SeqAt.shaped o)) (r' := rB2 P.K (cmpR SeqAt.shaped p)) (by rw [← c.k]; exact c_all c.un o) (by rw [← c.k]; exact c_all c.un p) ha hb hz hm) fun σ H Q h => chn_in h
theorem non_iff {F : Hp} {x : V} {d : D} (h : Dp P.K F x d) : decide (x = .non) = isNo d := by
  cases h <;> simp [isNo]
theorem s_isN {j : Nat} {p' : Pos} (ha : PE X l (rd P W f1)) : PE X (.Compare l [.Is] [.Constant .none j p'] pos) (rd P W fun env => (f1 env).bind fun x => .ok (.bool (isNo x))) :=
  (pe_cmp (pc_isN ha) rfl).imp fun σ H Q ⟨F, env, st, q⟩ => ⟨F, env, st, post_seq q fun dx F1 H1 x e1 x1 rx q1 => by rw [non_iff rx]; exact q1 F1 H1 _ (Ext.refl x1.fh) (.bl _)⟩
theorem s_notN {j : Nat} {p' : Pos} (ha : PE X l (rd P W f1)) : PE X (.Compare l [.IsNot] [.Constant .none j p'] pos) (rd P W fun env => (f1 env).bind fun x => .ok (.bool (!isNo x))) :=
  (pe_cmp (pc_notN ha) rfl).imp fun σ H Q ⟨F, env, st, q⟩ => ⟨F, env, st, post_seq q fun dx F1 H1 x e1 x1 rx q1 => by rw [non_iff rx]; exact q1 F1 H1 _ (Ext.refl x1.fh) (.bl _)⟩
theorem t_isN {j : Nat} {p' : Pos} (ha : PE X l (rd P W f1)) : PT X (.Compare l [.Is] [.Constant .none j p'] pos) (rdB P W fun env => (f1 env).bind fun x => .ok (.bool (isNo x))) :=
  T_of (pt_cmp (pc_isN ha) rfl) fun σ H Q ⟨F, env, st, q⟩ => ⟨F, env, st, post_seq q fun dx F1 H1 x e1 x1 rx q1 => by rw [non_iff rx]; exact q1 F1 H1 _ (Ext.refl x1.fh) (.bl _)⟩
theorem t_notN {j : Nat} {p' : Pos} (ha : PE X l (rd P W f1)) : PT X (.Compare l [.IsNot] [.Constant .none j p'] pos) (rdB P W fun env => (f1 env).bind fun x => .ok (.bool (!isNo x))) :=
  T_of (pt_cmp (pc_notN ha) rfl) fun σ H Q ⟨F, env, st, q⟩ => ⟨F, env, st, post_seq q fun dx F1 H1 x e1 x1 rx q1 => by rw [non_iff rx]; exact q1 F1 H1 _ (Ext.refl x1.fh) (.bl _)⟩
end
end Q

set_option Elab.async false
set_option linter.all false
set_option maxRecDepth 100000
set_option autoImplicit false
set_option maxHeartbeats 4000000
namespace Q
open PySem PySem.Spec PyProof.Rows L2
section
variable {P : Par} {g : Cfg} {X : Cx} {W : Wsh} {Φ : Fns} {e l r z : Expr} {es : List Expr} {pos : Pos} {f f1 f2 f3 : Env → Rs D} {fl : Env → Rs (List D)}
/-! and, or, not -/
theorem s_and1 (ha : PE X l (rd P W f1)) : PE X (.BoolOp .And [l] pos) (rd P W f1) := pe_one ha
theorem s_or1 (ha : PE X l (rd P W f1)) : PE X (.BoolOp .Or [l] pos) (rd P W f1) := pe_one ha
theorem s_and (ha : PE X l (rd P W f1)) (hb : PE X (.BoolOp .And (r :: es) pos) (rd P W f2)) :
    PE X (.BoolOp .And (l :: r :: es) pos) (rd P W fun env => (f1 env).bind fun x => (match x with | .bool true => f2 env | .bool false => .ok (.bool false) | _ => .bad)) := by
  refine (pe_and ha hb).imp fun σ H Q ⟨F, env, st, q⟩ => ⟨F, env, st, post_seq q fun dx F1 H1 x e1 x1 rx q1 => ?_⟩
  cases dx with
  | bool b =>
    rw [dp_bl rx]
    refine ⟨b, rfl, ?_⟩
    cases b with
    | true => exact ⟨F1, env, st.mono x1, q1⟩
    | false => exact q1 F1 H1 _ (Ext.refl x1.fh) (.bl _)
  | _ => exact q1.elim
theorem s_or (ha : PE X l (rd P W f1)) (hb : PE X (.BoolOp .Or (r :: es) pos) (rd P W f2)) :
    PE X (.BoolOp .Or (l :: r :: es) pos) (rd P W fun env => (f1 env).bind fun x => (match x with | .bool false => f2 env | .bool true => .ok (.bool true) | _ => .bad)) := by
  refine (pe_or ha hb).imp fun σ H Q ⟨F, env, st, q⟩ => ⟨F, env, st, post_seq q fun dx F1 H1 x e1 x1 rx q1 => ?_⟩
  cases dx with
  | bool b =>
    rw [dp_bl rx]
    refine ⟨b, rfl, ?_⟩
    cases b with
    | false => exact ⟨F1, env, st.mono x1, q1⟩
    | true => exact q1 F1 H1 _ (Ext.refl x1.fh) (.bl _)
  | _ => exact q1.elim
theorem s_not (ha : PE X l (rd P W f1)) : PE X (.UnaryOp .Not l pos) (rd P W fun env => (f1 env).bind fun x => (match x with | .bool b => .ok (.bool (!b)) | _ => .bad)) := by
  refine (pe_not ha).imp fun σ H Q ⟨F, env, st, q⟩ => ⟨F, env, st, post_seq q fun dx F1 H1 x e1 x1 rx q1 => ?_⟩
  cases dx with
  | bool b =>
    rw [dp_bl rx]
    exact ⟨b, rfl, q1 F1 H1 _ (Ext.refl x1.fh) (.bl _)⟩
  | _ => exact q1.elim
/-- a test's reading: its two ways -/
theorem rdB_of {σ : L2.St} {H : Hp} {Q : Bool → Hp → Prop} {F : Hp} {env : Env} (st : Sta P F H σ env) (h : ∀ b, f env = .ok (.bool b) → ∀ F' H', Ext F H F' H' → Q b H') (hx : ∀ k, f env = .exc k → ∀ F' H', Ext F H F' H' → W k σ H')
    (hn : f env ≠ .bad) (hb : ∀ d, f env = .ok d → ∃ b, d = .bool b) : rdB P W f σ H Q := by
  refine ⟨F, env, st, ?_⟩
  cases e : f env with
  | ok d =>
    obtain ⟨b, rfl⟩ := hb d e
    exact fun F' H' v x r => by
      cases r
      exact h b e F' H' x
  | exc k => exact hx k e
  | bad => exact absurd e hn
/-- a test whose value is asked, then one of two ways -/
theorem test_seq {γ δ : Type} {RlC : Hp → δ → γ → Prop} {σ : L2.St} {F H : Hp} {env : Env} {k : D → Rs γ} {Q : δ → Hp → Prop} {Q' : Bool → Hp → Prop} (st : Sta P F H σ env) (hk : ∀ d, (∀ b, d ≠ .bool b) → k d = .bad)
    (q : post RlC W σ F H ((f env).bind k) Q) (h : ∀ b F' H', Ext F H F' H' → post RlC W σ F' H' (k (.bool b)) Q → Q' b H') : rdB P W f σ H Q' := by
  refine ⟨F, env, st, ?_⟩
  cases e : f env with
  | ok d =>
    rw [e] at q
    cases d with
    | bool b => exact fun F' H' v x r => by cases r; exact h b F' H' x (post_ext x q)
    | _ => rw [Rs.bind, hk _ (by intro b z; cases z)] at q; exact q.elim
  | exc j => rw [e] at q; exact q
  | bad => rw [e] at q; exact q.elim
theorem t_not (ha : PT X l (rdB P W f1)) : PT X (.UnaryOp .Not l pos) (rdB P W fun env => (f1 env).bind fun x => (match x with | .bool b => .ok (.bool (!b)) | _ => .bad)) := by
  refine (pt_not ha).imp fun σ H Q ⟨F, env, st, q⟩ => ?_
  show rdB P W f1 σ H fun c H1 => Q (!c) H1
  refine ⟨F, env, st, ?_⟩
  cases e : f1 env with
  | ok d =>
    simp only [e, Rs.bind] at q
    cases d with
    | bool b => exact fun F' H' v x r => by cases r; exact q F' H' (!b) x rfl
    | _ => exact q.elim
  | exc j => simp only [e, Rs.bind] at q; exact q
  | bad => simp only [e, Rs.bind] at q; exact q.elim
theorem T_and1 (ha : PT X l (rdB P W f1)) : PW X (.BoolOp .And [l] pos) (rdB P W f1) := pw_and1 ha
theorem T_and (ha : PT X l (rdB P W f1)) (hb : PW X (.BoolOp .And (r :: es) pos) (rdB P W f2)) :
    PW X (.BoolOp .And (l :: r :: es) pos) (rdB P W fun env => (f1 env).bind fun x => (match x with | .bool true => f2 env | .bool false => .ok (.bool false) | _ => .bad)) := by
  have h := pw_and (pos := pos) ha hb
  refine ⟨fun wh pins s σ H Q I w => h.run wh pins s σ H Q I ?_⟩
  obtain ⟨F, env, st, q⟩ := w
  refine ⟨F, env, st, ?_⟩
  cases e : f1 env with
  | ok d =>
    simp only [e, Rs.bind] at q
    cases d with
    | bool b =>
      refine fun F' H' v x r => ?_
      cases r
      cases b with
      | true => exact ⟨F', env, st.mono x, post_ext x q⟩
      | false => exact q F' H' false x rfl
    | _ => exact q.elim
  | exc j => simp only [e, Rs.bind] at q; exact q
  | bad => simp only [e, Rs.bind] at q; exact q.elim
theorem T_or1 (ha : PT X l (rdB P W f1)) : PW X (.BoolOp .Or [l] pos) (rdB P W f1) := pw_or1 ha
theorem T_or (ha : PT X l (rdB P W f1)) (hb : PW X (.BoolOp .Or (r :: es) pos) (rdB P W f2)) :
    PW X (.BoolOp .Or (l :: r :: es) pos) (rdB P W fun env => (f1 env).bind fun x => (match x with | .bool false => f2 env | .bool true => .ok (.bool true) | _ => .bad)) := by
  have h := pw_or (pos := pos) ha hb
  refine ⟨fun wh pins s σ H Q I w => h.run wh pins s σ H Q I ?_⟩
  obtain ⟨F, env, st, q⟩ := w
  refine ⟨F, env, st, ?_⟩
  cases e : f1 env with
  | ok d =>
    simp only [e, Rs.bind] at q
    cases d with
    | bool b =>
      refine fun F' H' v x r => ?_
      cases r
      cases b with
      | false => exact ⟨F', env, st.mono x, post_ext x q⟩
      | true => exact q F' H' true x rfl
    | _ => exact q.elim
  | exc j => simp only [e, Rs.bind] at q; exact q
  | bad => simp only [e, Rs.bind] at q; exact q.elim
theorem s_ite (hc : PT X z (rdB P W f1)) (ha : PE X l (rd P W f2)) (hb : PE X r (rd P W f3)) : PE X (.IfExp z l r pos) (rd P W fun env => (f1 env).bind fun x => (match x with | .bool true => f2 env | .bool false => f3 env | _ => .bad)) := by
  refine (pe_ifExp hc ha hb).imp fun σ H Q ⟨F, env, st, q⟩ => ?_
  refine ⟨F, env, st, ?_⟩
  cases e : f1 env with
  | ok d =>
    simp only [e, Rs.bind] at q
    cases d with
    | bool b =>
      refine fun F' H' v x r => ?_
      cases r
      cases b with
      | true => exact ⟨F', env, st.mono x, post_ext x q⟩
      | false => exact ⟨F', env, st.mono x, post_ext x q⟩
    | _ => exact q.elim
  | exc j => simp only [e, Rs.bind] at q; exact q
  | bad => simp only [e, Rs.bind] at q; exact q.elim
/-! subscripts -/
theorem s_ix (c : Ct P g X W Φ) (ha : PE X l (rd P W f1)) (hb : PE X r (rd P W f2)) (hr : nsl r = true) : PE X (.Subscript l r pos) (rd P W fun env => (f1 env).bind fun x => (f2 env).bind fun y => ixR x y) :=
  s_op2 (ta := rd P W f1) (tb := rd P W f2) (t := rd P W f1) rfl cl_ix (pe_ix (by rw [← c.k]; exact i_ix) ha hb (plain_of hr))
def rdO (P : Par) (W : Wsh) (f : Env → Rs (Option Int)) : TO := fun σ H Q => ∃ F env, Sta P F H σ env ∧ post (fun _ (o : Option Int) d => o = d) W σ F H (f env) Q
theorem _root_.L2.PO.imp {X : Cx} {e : Option Expr} {t t' : TO} (h : PO X e t) (q : ∀ σ H Q, t' σ H Q → t σ H Q) : PO X e t' := ⟨fun pins s σ H Q I w => h.run pins s σ H Q I (q σ H Q w)⟩
theorem o_none : PO X none (rdO P W fun _ => .ok none) := (po_none).imp fun σ H Q ⟨F, env, st, q⟩ => q F H none (Ext.refl st.same) rfl
theorem o_some (h : PE X e (rd P W f)) : PO X (some e) (rdO P W fun env => (f env).bind intR) := by
  refine (po_some h).imp fun σ H Q ⟨F, env, st, q⟩ => ⟨F, env, st, post_seq q fun d F1 H1 x e1 x1 rx q1 => ?_⟩
  cases d with
  | int i =>
    rw [dp_int rx]
    exact ⟨i, rfl, q1 F1 H1 (some i) (Ext.refl x1.fh) rfl⟩
  | _ => exact q1.elim
theorem cl_slc (d : D) (lo hi : Option Int) : Cl (slcR d lo hi) := by
  unfold slcR
  split <;> first | exact cl_ok | exact cl_bad
theorem s_slc (c : Ct P g X W Φ) {lo hi : Option Expr} {p2 : Pos} {g1 g2 : Env → Rs (Option Int)} (ha : PE X l (rd P W f1)) (hl : PO X lo (rdO P W g1)) (hh : PO X hi (rdO P W g2)) :
    PE X (.Subscript l (.Slice lo hi none p2) pos) (rd P W fun env => (f1 env).bind fun x => (g1 env).bind fun l => (g2 env).bind fun h => slcR x l h) := by
  refine (pe_slice (r := rSl P.K) (by rw [← c.k]; exact i_sl) ha hl hh).imp fun σ H Q ⟨F, env, st, q⟩ => ?_
  refine ⟨F, env, st, post_seq q fun dx F1 H1 x e1 x1 rx q1 => ⟨F1, env, st.mono x1, post_seq q1 fun o1 F2 H2 p1 e2 x2 r1 q2 => ⟨F2, env, (st.mono x1).mono x2, post_seq q2 fun o2 F3 H3 p3 e3 x3 r2 q3 => ?_⟩⟩⟩
  subst r1 r2
  exact ⟨F3, dx, x3.fh, dp_mono (x2.ff.trans x3.ff) rx, post_fin (cl_slc dx p1 p3) q3⟩
/-! lists of arguments, displays -/
theorem a_nil : PA X [] (rds P W fun _ => .ok []) := pa_nil.imp fun σ H Q ⟨F, env, st, q⟩ => q F H [] (Ext.refl st.same) .nil
theorem a_cons (hs : nst e = true) (ha : PE X e (rd P W f1)) (hb : PA X es (rds P W fl)) : PA X (e :: es) (rds P W fun env => (f1 env).bind fun x => (fl env).bind fun xs => .ok (x :: xs)) := by
  refine (pa_cons ha hb (star_of hs)).imp fun σ H Q ⟨F, env, st, q⟩ => ?_
  refine ⟨F, env, st, post_seq q fun dx F1 H1 x e1 x1 rx q1 => ⟨F1, env, st.mono x1, post_seq q1 fun dy F2 H2 y e2 x2 ry q2 => q2 F2 H2 _ (Ext.refl x2.fh) (.cons (dp_mono x2.ff rx) ry)⟩⟩
theorem s_tup {k : Nat} (ha : PA X es (rds P W fl)) : PE X (.Tuple es k pos) (rd P W fun env => (fl env).bind fun xs => if xs.length ≤ szl then .ok (.tuple xs) else .bad) := by
  refine (pe_tup ha).imp fun σ H Q ⟨F, env, st, q⟩ => ⟨F, env, st, post_seq q fun ds F1 H1 xs e1 x1 rx q1 => ?_⟩
  split at q1
  · rename_i hz
    exact ⟨by rw [dps_len rx]; exact hz, fun p hp => q1 _ _ _ (Ext.new x1.fh hp) (.tup (.inl (.inl upd_same)) (dps_mono (Ext.new (o := HO.tup xs) x1.fh hp).ff rx))⟩
  · exact q1.elim
theorem s_lst (ha : PA X es (rds P W fl)) : PE X (.List es pos) (rd P W fun env => (fl env).bind fun xs => if xs.length ≤ szl then .ok (.list xs) else .bad) := by
  refine (pe_lst ha).imp fun σ H Q ⟨F, env, st, q⟩ => ⟨F, env, st, post_seq q fun ds F1 H1 xs e1 x1 rx q1 => ?_⟩
  split at q1
  · rename_i hz
    exact ⟨by rw [dps_len rx]; exact hz, fun p hp => q1 _ _ _ (Ext.new x1.fh hp) (.lst (.inl (.inl upd_same)) (dps_mono (Ext.new (o := HO.lst xs) x1.fh hp).ff rx))⟩
  · exact q1.elim
/-! calls -/
/-- what a built-in is worth, of its arguments -/
theorem args_in {k : List D → Rs D} (hk : ∀ xs, Cl (k xs)) {σ : L2.St} {H : Hp} {Q : VK} (h : rd P W (fun env => (f1 env).bind fun x => (fl env).bind fun xs => k (x :: xs)) σ H Q) :
    rds P W (fun env => (f1 env).bind fun x => (fl env).bind fun xs => .ok (x :: xs)) σ H fun vs H1 => rDs P.K k vs H1 Q := by
  obtain ⟨F, env, st, q⟩ := h
  refine ⟨F, env, st, post_seq (f := k) ?_ fun ds F1 H1 vs e1 x1 rx q1 => ⟨F1, ds, x1.fh, rx, post_fin (hk ds) q1⟩⟩
  have e : (((f1 env).bind fun x => (fl env).bind fun xs => .ok (x :: xs)).bind k) = ((f1 env).bind fun x => (fl env).bind fun xs => k (x :: xs)) := by
    cases f1 env with
    | ok x => cases fl env <;> rfl
    | _ => rfl
  rw [e]
  exact q
theorem bn {g : Cfg} (c : Ct P g X W Φ) {x : Str} (h : x ∈ bnames) : X.mg x = none := c.bl x h
theorem s_blt (c : Ct P g X W Φ) {b : Blt} {x : Str} {p : Pos} (hh : (!g.hot || bltCold b) = true) (hx : glB X.env.scope x = true) (hb : x = bltN b) (hs : nst l = true) (hns : (backTo pos (starEach es X.env)).any (·.1) = false)
    (ha : PE X l (rd P W f1)) (hl : PA X es (rds P W fl)) : PE X (.Call (.Name x p) (l :: es) [] pos) (rd P W fun env => (f1 env).bind fun x => (fl env).bind fun xs => bltR b (x :: xs)) := by
  obtain ⟨gx, dx, nx⟩ := gl_of hx
  have pa := a_cons hs ha hl
  have calm : bltCold b = false → X.calm = true := fun e => c.calm (by rw [e, Bool.or_false] at hh; simpa using hh)
  have go : ∀ {v : Value}, (∀ {id : String}, v = .builtin id → bootBuiltins x = some (.builtin id) → CallR X (.builtin id) (rDs P.K (bltR b)) → X.mg x = none → PE X (.Call (.Name x p) (l :: es) [] pos) (rd P W fun env => (f1 env).bind fun x => (fl env).bind fun xs => bltR b (x :: xs))) := fun {v} {id} _ hv hc hm =>
    (pe_callB hc gx hm hv pa nx dx (star_of hs) hns).imp fun σ H Q h => args_in (cl_blt b) h
  have goT : ∀ {T : String}, bootBuiltins x = some (.type T) → CallR X (.type T) (rDs P.K (bltR b)) → X.mg x = none → PE X (.Call (.Name x p) (l :: es) [] pos) (rd P W fun env => (f1 env).bind fun x => (fl env).bind fun xs => bltR b (x :: xs)) := fun {T} hv hc hm =>
    (pe_callTy hc gx hm hv pa nx dx (star_of hs) hns).imp fun σ H Q h => args_in (cl_blt b) h
  subst hb
  rw [← c.k] at go goT
  have M : bltN b ∈ bnames := by cases b <;> decide
  have m := c.bl _ M
  cases b
  · exact go (v := .builtin "len") rfl PySem.boot_len k_len m
  · exact goT boot_list k_list m
  · exact go (v := .builtin "abs") rfl boot_abs k_abs m
  · exact go (v := .builtin "min") rfl boot_min (k_min2 (calm rfl)) m
  · exact go (v := .builtin "max") rfl boot_max (k_max2 (calm rfl)) m
  · exact goT boot_int k_int1 m
  · exact go (v := .builtin "sum") rfl boot_sum (k_sum (calm rfl)) m
  · exact go (v := .builtin "min") rfl boot_min (k_minl (calm rfl)) m
  · exact go (v := .builtin "max") rfl boot_max (k_maxl (calm rfl)) m
  · exact goT boot_tuple k_tuple m
  · exact go (v := .builtin "all") rfl boot_all (k_all (calm rfl)) m
  · exact goT boot_str k_str1 m
theorem toD_seq {σ : L2.St} {F H : Hp} {r : Rs Sl} {Q : VK} (q : post (Dp P.K) W σ F H (r.bind Sl.toD) Q) : outP P.K F H r Q fun k H' => WE (fun cls d σ H => ∃ k, cls = P.cls k ∧ d = none ∧ W k σ H) σ (P.cls k) none H' := by
  cases r with
  | ok z =>
    cases z with
    | fr d => exact q
    | ow es =>
      refine fun F' H' p ws x hp hf hH hd => ?_
      have sf : Same F' (upd F' p (.lst ws)) := same_upd2 hf
      refine q (upd F' p (.lst ws)) H' _ ⟨x.hh, x.ff.trans sf, fun b u h => ?_, fun b h1 h2 => ?_⟩ (.lst (.inl (.inl upd_same)) (dps_mono sf hd))
      · by_cases hb : b = p
        · subst hb
          rw [upd_same] at h
          cases h
          exact hH
        · rw [upd_ne hb] at h
          exact x.fh b u h
      · have : b ≠ p := fun e => by
          subst e
          exact h1 hp
        rw [upd_ne this]
        exact x.nw b h1 h2
    | er k => exact q
  | exc k => exact fun F' H' x => ⟨k, rfl, rfl, q F' H' x⟩
  | bad => exact q
theorem s_call (c : Ct P g X W Φ) {j : Nat} {x : Str} {p : Pos} (hh : g.hot = false) (hx : glB X.env.scope x = true) (hj : g.fs[j]? = some (x, es.length + 1)) (hs : nst l = true) (hns : (backTo pos (starEach es X.env)).any (·.1) = false)
    (ha : PE X l (rd P W f1)) (hl : PA X es (rds P W fl)) (hlen : ∀ env ds, fl env = .ok ds → ds.length = es.length) :
    PE X (.Call (.Name x p) (l :: es) [] pos) (rd P W fun env => (f1 env).bind fun x => (fl env).bind fun xs => (Φ j (x :: xs)).bind Sl.toD) := by
  obtain ⟨gx, dx, nx⟩ := gl_of hx
  obtain ⟨fa, fd, ps, k, hm, kp, hb, hr, FO⟩ := c.fns hh j x _ hj
  have pa := a_cons hs ha hl
  refine (pe_callS FO hr gx hm kp hb (E := WE fun cls d σ H => ∃ k, cls = P.cls k ∧ d = none ∧ W k σ H) (fun σ => c.pa σ) pa dx (star_of hs) hns).imp fun σ H Q ⟨F, env, st, q⟩ => ?_
  refine ⟨F, env, st, post_seq (f := fun xs => (Φ j xs).bind Sl.toD) ?_ fun ds F1 H1 vs e1 x1 rx q1 => ⟨?_, F1, ds, x1.fh, rx, toD_seq q1⟩⟩
  · have e : (((f1 env).bind fun x => (fl env).bind fun xs => .ok (x :: xs)).bind fun xs => (Φ j xs).bind Sl.toD) = ((f1 env).bind fun x => (fl env).bind fun xs => (Φ j (x :: xs)).bind Sl.toD) := by
      cases f1 env with
      | ok x => cases fl env <;> rfl
      | _ => rfl
    rw [e]
    exact q
  · rw [dps_len rx]
    have e1 : ((f1 env).bind fun x => (fl env).bind fun xs => .ok (x :: xs)) = .ok ds := e1
    cases e2 : f1 env with
    | ok a =>
      rw [e2] at e1
      cases e3 : fl env with
      | ok b =>
        rw [e3] at e1
        cases e1
        rw [List.length_cons, hlen env b e3]
      | exc k => rw [e3] at e1; cases e1
      | bad => rw [e3] at e1; cases e1
    | exc k => rw [e2] at e1; cases e1
    | bad => rw [e2] at e1; cases e1
theorem s_isi (c : Ct P g X W Φ) {t : Ty} {x y : Str} {p p2 : Pos} (hx : glB X.env.scope x = true) (ex : x = "isinstance") (hy : glB X.env.scope y = true) (ey : y = tySt t) (hs : nst l = true) (ha : PE X l (rd P W f1)) :
    PE X (.Call (.Name x p) [l, .Name y p2] [] pos) (rd P W fun env => (f1 env).bind fun x => .ok (.bool (isiD x t))) := by
  obtain ⟨gx, dx, nx⟩ := gl_of hx
  obtain ⟨gy, dy, ny⟩ := gl_of hy
  have hb : bootBuiltins y = some (.type (tyN t)) := by
    subst ey
    cases t <;> decide +kernel
  have my : X.mg y = none := c.bl y (by subst ey; cases t <;> decide)
  have mx : X.mg x = none := c.bl x (by subst ex; decide)
  have e1 : PE X (.Name y p2) (tC (.ty (tyN t))) := pe_bltn gy my hb rfl ny dy
  have pa := pa_cons ha (pa_cons e1 pa_nil) (star_of hs)
  refine (pe_callB (r := rIsi X.K) call_isi gx mx (by subst ex; exact boot_isinstance) pa nx dx (star_of hs)).imp fun σ H Q ⟨F, env, st, q⟩ => ?_
  exact ⟨F, env, st, post_seq q fun d F1 H1 v e2 x1 rx q1 => by
    rw [← c.k] at rx
    exact isi_of t x1.fh rx (q1 F1 H1 _ (Ext.refl x1.fh) (.bl _))⟩
theorem s_lenO (c : Ct P g X W Φ) {i : Nat} {x y : Str} {p p2 : Pos} (hx : glB X.env.scope x = true) (ex : x = "len") (hy : chkV g X.env.scope i y = true) : PE X (.Call (.Name x p) [.Name y p2] [] pos) (rd P W fun env => lenO env i) := by
  obtain ⟨gx, dx, nx⟩ := gl_of hx
  unfold chkV at hy
  rw [Bool.and_eq_true, Bool.and_eq_true, decide_eq_true_eq] at hy
  obtain ⟨a, b, _⟩ := okN_of hy.2
  have e1 : PE X (.Name y p2) (tVar i) := pe_var (i := i) (by rw [c.n]; exact hy.1.1) (vis_of hy.1.2) a b
  refine (pe_callB call_len_seq gx (c.bl x (by subst ex; decide)) (by subst ex; exact PySem.boot_len) (pa_cons e1 pa_nil) nx dx).imp fun σ H Q ⟨F, env, st, q⟩ => ?_
  have q : post (Dp P.K) W σ F H (lenO env i) Q := q
  unfold lenO at q
  split at q
  · rename_i ds e
    obtain ⟨p', vs, h1, h0, hf, hH, hd⟩ := st.sl i _ e
    refine ⟨_, h1, p', vs, rfl, .inl (.inl (.inl hH)), ?_⟩
    rw [dps_len hd]
    exact q F H _ (Ext.refl st.same) (.int _)
  · exact q.elim
end
end Q

set_option Elab.async false
set_option linter.all false
set_option maxRecDepth 100000
set_option autoImplicit false
set_option maxHeartbeats 4000000
namespace Q
open PySem PySem.Spec PyProof.Rows L2

/-! ### what is walked -/
structure Yl (K : Fg) (F1 : Hp) (J : L2.It) (ds : List D) : Prop where
  stop : ∀ F2 H, Same F1 F2 → Same F2 H → J.stop ds.length H
  step : ∀ (j : Nat) (d : D) F2 H, ds[j]? = some d → Same F1 F2 → Same F2 H → J.go j H ∧ ∀ x H', J.yld j H x H' → ∃ F3, Ext F2 H F3 H' ∧ Dp K F3 x d
def postI (K : Fg) (W : Wsh) (σ : L2.St) (F H : Hp) (r : Rs (List D)) (R : L2.It → Hp → Prop) : Prop := match r with
  | .ok ds => ∀ F' H' J, Ext F H F' H' → Yl K F' J ds → R J H'
  | .exc k => ∀ F' H', Ext F H F' H' → W k σ H'
  | .bad => False
def rdI (P : Par) (W : Wsh) (f : Env → Rs (List D)) : TI := fun σ H R => ∃ F env, Sta P F H σ env ∧ postI P.K W σ F H (f env) R
theorem postI_ext {K : Fg} {W : Wsh} {σ : L2.St} {F H F1 H1 : Hp} {r : Rs (List D)} {R : L2.It → Hp → Prop} (e : Ext F H F1 H1) (h : postI K W σ F H r R) : postI K W σ F1 H1 r R := by
  cases r with
  | ok d => exact fun F' H' v e' r => h F' H' v (e.trans e') r
  | exc k => exact fun F' H' e' => h F' H' (e.trans e')
  | bad => exact h
theorem postI_seq {α β : Type} {RlA : Hp → β → α → Prop} {K : Fg} {W : Wsh} {σ : L2.St} {F H : Hp} {r : Rs α} {f : α → Rs (List D)} {R : L2.It → Hp → Prop} {Q' : β → Hp → Prop} (h : postI K W σ F H (r.bind f) R)
    (k : ∀ d F1 H1 v, r = .ok d → Ext F H F1 H1 → RlA F1 v d → postI K W σ F1 H1 (f d) R → Q' v H1) : post RlA W σ F H r Q' := by
  cases r with
  | ok d => exact fun F1 H1 v e r => k d F1 H1 v rfl e r (postI_ext e h)
  | exc k => exact h
  | bad => exact h
theorem _root_.L2.PI.imp {X : Cx} {tg e : Expr} {t t' : TI} (h : PI X tg e t) (q : ∀ σ H Q, t' σ H Q → t σ H Q) : PI X tg e t' := ⟨fun pins s σ H Q I w => h.run pins s σ H Q I (q σ H Q w)⟩
section
variable {K : Fg} {F1 : Hp}
theorem itemL_of {H : Hp} {a : Addr} {vs : List V} {ds : List D} (q : SqL K F1 a vs) (da : DpAll K F1 vs ds) {F2 : Hp} (h1 : Same F1 F2) (h2 : Same F2 H) {j : Nat} {d : D} (e : ds[j]? = some d) : ∃ x, SqL K H a vs ∧ vs[j]? = some x ∧ Dp K F2 x d := by
  obtain ⟨x, h3, h4⟩ := dps_get da e
  exact ⟨x, (h1.trans h2).seq q, h3, dp_mono h1 h4⟩
theorem yl_list {a : Addr} {vs : List V} {ds : List D} (q : SqL K F1 a vs) (da : DpAll K F1 vs ds) : Yl K F1 (Itl K a) ds where
  stop := fun F2 H h1 h2 => ⟨vs, (h1.trans h2).seq q, by rw [dps_len da]; exact Nat.le_refl _⟩
  step := fun j d F2 H e h1 h2 => by
    obtain ⟨x, h3, h4, h5⟩ := itemL_of q da h1 h2 e
    refine ⟨⟨vs, x, h3, h4⟩, fun y H' ⟨eH, hy⟩ => ?_⟩
    subst eH
    have := hy vs h3
    rw [h4] at this
    cases this
    exact ⟨F2, Ext.refl h2, h5⟩
theorem yl_tup {a : Addr} {vs : List V} {ds : List D} (q : SqT K F1 a vs) (da : DpAll K F1 vs ds) : Yl K F1 (Itt K a) ds where
  stop := fun F2 H h1 h2 => ⟨vs, same_seqT (h1.trans h2) q, by rw [dps_len da]; exact Nat.le_refl _⟩
  step := fun j d F2 H e h1 h2 => by
    obtain ⟨x, h4, h5⟩ := dps_get da e
    have h3 := same_seqT (h1.trans h2) q
    refine ⟨⟨vs, x, h3, h4⟩, fun y H' ⟨eH, hy⟩ => ?_⟩
    subst eH
    have := hy vs h3
    rw [h4] at this
    cases this
    exact ⟨F2, Ext.refl h2, dp_mono h1 h5⟩
theorem revD_len {n : Nat} : (revD n).length = n := by
  unfold revD
  rw [List.length_map, List.length_range]
theorem revD_get {n j : Nat} {d : D} (e : (revD n)[j]? = some d) : j < n ∧ d = .int ((n : Int) - 1 - (j : Int)) := by
  unfold revD at e
  rw [List.getElem?_map] at e
  by_cases h : j < n
  · rw [List.getElem?_range h] at e
    cases e
    exact ⟨h, rfl⟩
  · rw [List.getElem?_eq_none (by simpa using h)] at e
    cases e
theorem yl_range {lo : Int} {n : Nat} : Yl K F1 (L2.Itr lo n) (rangeD lo n) where
  stop := fun F2 H h1 h2 => by rw [rangeD_len]; exact Nat.le_refl n
  step := fun j d F2 H e h1 h2 => by
    obtain ⟨h3, rfl⟩ := rangeD_get e
    refine ⟨h3, fun y H' ⟨eH, hy⟩ => ?_⟩
    subst eH hy
    exact ⟨F2, Ext.refl h2, .int _⟩
theorem yl_rrange {n : Int} : Yl K F1 (Itc (0 + (((n - 0).toNat : Nat) : Int) - 1) (-1) (n - 0).toNat) (revD n.toNat) where
  stop := fun F2 H h1 h2 => by
    rw [revD_len]
    show (n - 0).toNat ≤ n.toNat
    omega
  step := fun j d F2 H e h1 h2 => by
    obtain ⟨h3, rfl⟩ := revD_get e
    refine ⟨by show j < (n - 0).toNat; omega, fun y H' ⟨eH, hy⟩ => ?_⟩
    subst eH hy
    have e1 : (0 + (((n - 0).toNat : Nat) : Int) - 1) + ((j : Nat) : Int) * (-1) = ((n.toNat : Nat) : Int) - 1 - (j : Int) := by
      have : (n - 0).toNat = n.toNat := by omega
      rw [this]
      omega
    exact ⟨F2, Ext.refl h2, by rw [e1]; exact .int _⟩
theorem yl_rev {a : Addr} {vs : List V} {ds : List D} (q : SqL K F1 a vs) (da : DpAll K F1 vs ds) : Yl K F1 (Itv K a vs.length) ds.reverse where
  stop := fun F2 H h1 h2 => by
    show vs.length ≤ ds.reverse.length
    rw [List.length_reverse, dps_len da]
    exact Nat.le_refl _
  step := fun j d F2 H e h1 h2 => by
    have hl := dps_len da
    have hj : j < ds.length := by
      have := (List.getElem?_eq_some_iff.mp e).1
      simpa using this
    have e' : ds[vs.length - 1 - j]? = some d := by
      rw [List.getElem?_reverse hj] at e
      rw [hl]
      exact e
    obtain ⟨x, h3, h4, h5⟩ := itemL_of q da h1 h2 e'
    refine ⟨⟨by omega, vs, x, h3, h4⟩, fun y H' ⟨eH, hy⟩ => ?_⟩
    subst eH
    have := hy vs h3
    rw [h4] at this
    cases this
    exact ⟨F2, Ext.refl h2, h5⟩
theorem enumD_get : ∀ {ds : List D} {i : Int} {j : Nat} {d : D}, (enumD i ds)[j]? = some d → ∃ e, ds[j]? = some e ∧ d = .tuple [.int (i + (j : Int)), e]
  | [], _, _, _, h => by simp [enumD] at h
  | x :: xs, i, 0, d, h => by
    simp [enumD] at h
    subst h
    exact ⟨x, rfl, by simp⟩
  | x :: xs, i, j + 1, d, h => by
    simp only [enumD, List.getElem?_cons_succ] at h
    obtain ⟨e, h1, h2⟩ := enumD_get h
    exact ⟨e, by simpa using h1, by rw [h2, show i + 1 + (j : Int) = i + ((j + 1 : Nat) : Int) by omega]⟩
theorem enumD_len : ∀ {ds : List D} {i : Int}, (enumD i ds).length = ds.length
  | [], _ => rfl
  | x :: xs, i => by
    simp only [enumD, List.length_cons]
    rw [enumD_len]
theorem zipD_get : ∀ {xs ys : List D} {j : Nat} {d : D}, (zipD xs ys)[j]? = some d → ∃ x y, xs[j]? = some x ∧ ys[j]? = some y ∧ d = .tuple [x, y]
  | [], _, _, _, h => by simp [zipD] at h
  | _ :: _, [], _, _, h => by simp [zipD] at h
  | x :: xs, y :: ys, 0, d, h => by
    simp [zipD] at h
    exact ⟨x, y, rfl, rfl, h.symm⟩
  | x :: xs, y :: ys, j + 1, d, h => by
    simp only [zipD, List.getElem?_cons_succ] at h
    obtain ⟨u, v, h1, h2, h3⟩ := zipD_get h
    exact ⟨u, v, by simpa using h1, by simpa using h2, h3⟩
theorem zipD_len : ∀ {xs ys : List D}, xs.length ≤ (zipD xs ys).length ∨ ys.length ≤ (zipD xs ys).length
  | [], _ => .inl (Nat.zero_le _)
  | _ :: _, [] => .inr (Nat.zero_le _)
  | x :: xs, y :: ys => by
    simp only [zipD, List.length_cons]
    rcases zipD_len (xs := xs) (ys := ys) with h | h
    · exact .inl (by omega)
    · exact .inr (by omega)
theorem yl_enum {a : Addr} {vs : List V} {ds : List D} (q : SqL K F1 a vs) (da : DpAll K F1 vs ds) : Yl K F1 (Ite K a) (enumD 0 ds) where
  stop := fun F2 H h1 h2 => ⟨vs, (h1.trans h2).seq q, by rw [enumD_len, dps_len da]; exact Nat.le_refl _⟩
  step := fun j d F2 H e h1 h2 => by
    obtain ⟨e0, he, rfl⟩ := enumD_get e
    obtain ⟨x, h3, h4, h5⟩ := itemL_of q da h1 h2 he
    refine ⟨⟨vs, x, h3, h4⟩, fun y H' ⟨T, x', ey, hT, eH, hy⟩ => ?_⟩
    subst ey eH
    have := hy vs h3
    rw [h4] at this
    cases this
    have ex := Ext.new (o := HO.tup [.int ((j : Nat) : Int), x]) h2 hT
    exact ⟨_, ex, .tup (.inl (.inl upd_same)) (.cons (by rw [Int.zero_add]; exact .int _) (.cons (dp_mono ex.ff h5) .nil))⟩
theorem yl_zip {a b : Addr} {vs ws : List V} {ds es : List D} (q : SqL K F1 a vs) (da : DpAll K F1 vs ds) (q' : SqL K F1 b ws) (db : DpAll K F1 ws es) : Yl K F1 (Itz K a b) (zipD ds es) where
  stop := fun F2 H h1 h2 => ⟨vs, ws, (h1.trans h2).seq q, (h1.trans h2).seq q', by rw [dps_len da, dps_len db]; exact zipD_len⟩
  step := fun j d F2 H e h1 h2 => by
    obtain ⟨x0, y0, e1, e2, rfl⟩ := zipD_get e
    obtain ⟨x, h3, h4, h5⟩ := itemL_of q da h1 h2 e1
    obtain ⟨y, g3, g4, g5⟩ := itemL_of q' db h1 h2 e2
    refine ⟨⟨vs, ws, x, y, h3, g3, h4, g4⟩, fun v H' ⟨T, x', y', ev, hT, eH, hx, hy⟩ => ?_⟩
    subst ev eH
    have a1 := hx vs h3
    have a2 := hy ws g3
    rw [h4] at a1
    rw [g4] at a2
    cases a1
    cases a2
    have ex := Ext.new (o := HO.tup [x, y]) h2 hT
    exact ⟨_, ex, .tup (.inl (.inl upd_same)) (.cons (dp_mono ex.ff h5) (.cons (dp_mono ex.ff g5) .nil))⟩
end
section
variable {P : Par} {g : Cfg} {X : Cx} {W : Wsh} {Φ : Fns} {e l r z tg : Expr} {es : List Expr} {pos : Pos} {f f1 f2 f3 : Env → Rs D} {fl : Env → Rs (List D)}
theorem i_lst (c : Ct P g X W Φ) (h : PE X l (rd P W f1)) : PI X tg l (rdI P W fun env => (f1 env).bind lstR) := by
  refine (pi_list h).imp fun σ H R ⟨F, env, st, q⟩ => ⟨F, env, st, postI_seq q fun d F1 H1 v e1 x1 rx q1 => ?_⟩
  cases d with
  | list ds =>
    obtain ⟨a, vs, rfl, qa, da⟩ := dp_lst rx
    rw [c.k]
    exact ⟨a, rfl, ⟨vs, x1.fh.seq qa⟩, q1 F1 H1 _ (Ext.refl x1.fh) (yl_list qa da)⟩
  | _ => exact q1.elim
theorem i_tup (c : Ct P g X W Φ) (h : PE X l (rd P W f1)) : PI X tg l (rdI P W fun env => (f1 env).bind tupR) := by
  refine (pi_tup h).imp fun σ H R ⟨F, env, st, q⟩ => ⟨F, env, st, postI_seq q fun d F1 H1 v e1 x1 rx q1 => ?_⟩
  cases d with
  | tuple ds =>
    obtain ⟨a, vs, rfl, qa, da⟩ := dp_tup rx
    rw [c.k]
    exact ⟨a, rfl, ⟨vs, same_seqT x1.fh qa⟩, q1 F1 H1 _ (Ext.refl x1.fh) (yl_tup qa da)⟩
  | _ => exact q1.elim
theorem num_of {d : D} {n : Int} (h : numR d = .ok n) : d = .int n ∧ -(2 ^ 62) ≤ n ∧ n < 2 ^ 62 := by
  cases d <;> simp only [numR] at h <;> try cases h
  split at h
  · cases h
    exact ⟨rfl, ‹_ ∧ _›⟩
  · cases h
theorem num_no {d : D} {k : Nat} : numR d ≠ .exc k := by
  intro z
  cases d <;> simp only [numR] at z <;> (try cases z)
  split at z <;> cases z
/-- a number, then on -/
theorem num_seq {K : Fg} {σ : L2.St} {F H : Hp} {d : D} {k : Int → Rs (List D)} {R : L2.It → Hp → Prop} (q : postI K W σ F H ((numR d).bind k) R) : ∃ n, d = .int n ∧ -(2 ^ 62) ≤ n ∧ n < 2 ^ 62 ∧ postI K W σ F H (k n) R := by
  cases e : numR d with
  | ok n =>
    rw [e] at q
    obtain ⟨h1, h2, h3⟩ := num_of e
    exact ⟨n, h1, h2, h3, q⟩
  | exc k => exact absurd e num_no
  | bad => rw [e] at q; exact q.elim
theorem i_rng (c : Ct P g X W Φ) {x : Str} {p : Pos} (hx : glB X.env.scope x = true) (ex : x = "range") (hs : nst l = true) (h : PE X l (rd P W f1)) : PI X tg (.Call (.Name x p) [l] [] pos) (rdI P W fun env => (f1 env).bind fun x => (numR x).bind fun n => .ok (rangeD 0 n.toNat)) := by
  obtain ⟨gx, dx, nx⟩ := gl_of hx
  subst ex
  refine (pi_range1 gx (c.bl _ (by decide)) (pa_cons h pa_nil (star_of hs)) (star_of hs)).imp fun σ H R ⟨F, env, st, q⟩ => ⟨F, env, st, postI_seq q fun d F1 H1 v e1 x1 rx q1 => ?_⟩
  obtain ⟨n, rfl, h1, h2, q2⟩ := num_seq q1
  rw [dp_int rx]
  exact ⟨n, rfl, h1, h2, q2 F1 H1 _ (Ext.refl x1.fh) yl_range⟩
theorem i_rng2 (c : Ct P g X W Φ) {x : Str} {p : Pos} (hx : glB X.env.scope x = true) (ex : x = "range") (hs : nst l = true) (hs2 : nst r = true) (h : PE X l (rd P W f1)) (h' : PE X r (rd P W f2)) :
    PI X tg (.Call (.Name x p) [l, r] [] pos) (rdI P W fun env => (f1 env).bind fun x => (f2 env).bind fun y => (numR x).bind fun n => (numR y).bind fun m => .ok (rangeD n (m - n).toNat)) := by
  obtain ⟨gx, dx, nx⟩ := gl_of hx
  subst ex
  refine (pi_range2 gx (c.bl _ (by decide)) (pa_cons h (pa_cons h' pa_nil (star_of hs2)) (star_of hs)) (by rw [star_of hs, star_of hs2]; rfl) (star_of hs2)).imp fun σ H R ⟨F, env, st, q⟩ => ⟨F, env, st, postI_seq q fun d F1 H1 v e1 x1 rx q1 => ⟨F1, env, st.mono x1, postI_seq q1 fun d' F2 H2 v' e2 x2 ry q2 => ?_⟩⟩
  obtain ⟨n, rfl, h1, h2, q3⟩ := num_seq q2
  obtain ⟨m, rfl, h3, h4, q4⟩ := num_seq q3
  rw [dp_int rx, dp_int ry]
  exact ⟨n, m, rfl, ⟨h1, h2, h3, h4⟩, q4 F2 H2 _ (Ext.refl x2.fh) yl_range⟩
theorem i_rrng (c : Ct P g X W Φ) {x y : Str} {p p2 pos2 : Pos} (hx : glB X.env.scope x = true) (ex : x = "reversed") (hy : glB X.env.scope y = true) (ey : y = "range") (hs : nst l = true) (h : PE X l (rd P W f1)) :
    PI X tg (.Call (.Name x p) [.Call (.Name y p2) [l] [] pos2] [] pos) (rdI P W fun env => (f1 env).bind fun x => (numR x).bind fun n => .ok (revD n.toNat)) := by
  obtain ⟨gx, dx, nx⟩ := gl_of hx
  obtain ⟨gy, dy, ny⟩ := gl_of hy
  subst ex ey
  refine (pi_revR gx (c.bl _ (by decide)) (prg_1 gy (c.bl _ (by decide)) h (star_of hs)) rfl).imp fun σ H R ⟨F, env, st, q⟩ => ⟨F, env, st, postI_seq q fun d F1 H1 v e1 x1 rx q1 => ?_⟩
  obtain ⟨n, rfl, h1, h2, q2⟩ := num_seq q1
  rw [dp_int rx]
  exact ⟨n, rfl, by omega, by omega, h1, h2, q2 F1 H1 _ (Ext.refl x1.fh) yl_rrange⟩
theorem i_rev (c : Ct P g X W Φ) {x : Str} {p : Pos} (hx : glB X.env.scope x = true) (ex : x = "reversed") (hs : nst l = true) (h : PE X l (rd P W f1)) : PI X tg (.Call (.Name x p) [l] [] pos) (rdI P W fun env => (f1 env).bind fun x => (lstR x).bind fun xs => .ok xs.reverse) := by
  obtain ⟨gx, dx, nx⟩ := gl_of hx
  subst ex
  refine (pi_reversed gx (c.bl _ (by decide)) (pa_cons h pa_nil (star_of hs)) (star_of hs)).imp fun σ H R ⟨F, env, st, q⟩ => ⟨F, env, st, postI_seq q fun d F1 H1 v e1 x1 rx q1 => ?_⟩
  cases d with
  | list ds =>
    obtain ⟨a, vs, rfl, qa, da⟩ := dp_lst rx
    rw [c.k]
    exact ⟨a, vs, rfl, x1.fh.seq qa, q1 F1 H1 _ (Ext.refl x1.fh) (yl_rev qa da)⟩
  | _ => exact q1.elim
theorem i_enm (c : Ct P g X W Φ) {x : Str} {p tp : Pos} {kk : Nat} (hx : glB X.env.scope x = true) (ex : x = "enumerate") (hs : nst l = true) (h : PE X l (rd P W f1)) : PI X (.Tuple es kk tp) (.Call (.Name x p) [l] [] pos) (rdI P W fun env => (f1 env).bind fun x => (lstR x).bind fun xs => .ok (enumD 0 xs)) := by
  obtain ⟨gx, dx, nx⟩ := gl_of hx
  subst ex
  refine (pi_enum gx (c.bl _ (by decide)) (pa_cons h pa_nil (star_of hs)) (star_of hs)).imp fun σ H R ⟨F, env, st, q⟩ => ⟨F, env, st, postI_seq q fun d F1 H1 v e1 x1 rx q1 => ?_⟩
  cases d with
  | list ds =>
    obtain ⟨a, vs, rfl, qa, da⟩ := dp_lst rx
    rw [c.k]
    exact ⟨a, vs, rfl, x1.fh.seq qa, q1 F1 H1 _ (Ext.refl x1.fh) (yl_enum qa da)⟩
  | _ => exact q1.elim
theorem i_zip (c : Ct P g X W Φ) {x : Str} {p tp : Pos} {kk : Nat} (hx : glB X.env.scope x = true) (ex : x = "zip") (hs : nst l = true) (hs2 : nst r = true) (h : PE X l (rd P W f1)) (h' : PE X r (rd P W f2)) :
    PI X (.Tuple es kk tp) (.Call (.Name x p) [l, r] [] pos) (rdI P W fun env => (f1 env).bind fun x => (f2 env).bind fun y => (lstR x).bind fun xs => (lstR y).bind fun ys => .ok (zipD xs ys)) := by
  obtain ⟨gx, dx, nx⟩ := gl_of hx
  subst ex
  refine (pi_zip gx (c.bl _ (by decide)) (pa_cons h (pa_cons h' pa_nil (star_of hs2)) (star_of hs)) (star_of hs) (by rw [star_of hs2]; rfl)).imp fun σ H R ⟨F, env, st, q⟩ => ⟨F, env, st, postI_seq q fun d F1 H1 v e1 x1 rx q1 => ⟨F1, env, st.mono x1, postI_seq q1 fun d' F2 H2 v' e2 x2 ry q2 => ?_⟩⟩
  cases d with
  | list ds =>
    cases d' with
    | list es =>
      obtain ⟨a, vs, rfl, qa, da⟩ := dp_lst rx
      obtain ⟨b, ws, rfl, qb, db⟩ := dp_lst ry
      rw [c.k]
      have qa' := x2.ff.seq qa
      exact ⟨a, b, vs, ws, rfl, x2.fh.seq qa', x2.fh.seq qb, q2 F2 H2 _ (Ext.refl x2.fh) (yl_zip qa' (dps_mono x2.ff da) qb db)⟩
    | _ => exact q2.elim
  | _ => exact q2.elim
/-! comprehensions -/
theorem mapR_get {f : D → Rs D} : ∀ {ds ys : List D}, mapR f ds = .ok ys → ds.length = ys.length ∧ ∀ (j : Nat) (d : D), ds[j]? = some d → ∃ y, ys[j]? = some y ∧ f d = .ok y
  | [], ys, h => by
    cases h
    exact ⟨rfl, fun j d e => by simp at e⟩
  | x :: xs, ys, h => by
    unfold mapR at h
    cases e : f x with
    | ok y =>
      rw [e] at h
      simp only [Rs.bind] at h
      cases e2 : mapR f xs with
      | ok zs =>
        rw [e2] at h
        cases h
        obtain ⟨h1, h2⟩ := mapR_get e2
        refine ⟨by rw [List.length_cons, List.length_cons, h1], fun j d ej => ?_⟩
        cases j with
        | zero =>
          simp at ej
          subst ej
          exact ⟨y, rfl, e⟩
        | succ j =>
          obtain ⟨z, g1, g2⟩ := h2 j d (by simpa using ej)
          exact ⟨z, by simpa using g1, g2⟩
      | exc k => rw [e2] at h; cases h
      | bad => rw [e2] at h; cases h
    | exc k => rw [e] at h; cases h
    | bad => rw [e] at h; cases h
theorem cold_ok {α : Type} {r : Rs α} {a : α} (h : r.cold = .ok a) : r = .ok a := by
  cases r with
  | ok b => exact h
  | exc k => cases h
  | bad => cases h
theorem cl_map {f : D → Rs D} (h : ∀ d, Cl (f d)) : ∀ ds, Cl (mapR f ds)
  | [] => cl_ok
  | x :: xs => cl_bind (h x) fun _ => cl_bind (cl_map h xs) fun _ => cl_ok
theorem cl_cold {α : Type} {r : Rs α} : Cl r.cold := by
  cases r <;> first | exact cl_ok | exact cl_bad
abbrev Wno : Wsh := fun _ _ _ => False
theorem Ct.blk (c : Ct P g X W Φ) (hh : g.hot = false) (s : Shared) (H : Hp) (scope : Scope) (cenv : PySem.Env) (fp : List Addr) : Ct P g (X.blk s H scope cenv fp) Wno Φ :=
  ⟨c.n, c.nd, c.k, c.bl, c.calm, c.un, c.fns, fun z => absurd (hh.symm.trans z) Bool.false_ne_true, c.gi, c.is, fun σ pins H s e s' I h => by
    obtain ⟨_, _, _, _, _, _, _, _, _, _, _, _, _, _, _, z⟩ := h
    exact z.elim⟩
/-- a list grows while others are kept -/
theorem Ext.grow {F1 H1 F2 H2 : Hp} {p : Addr} {o : HO} (e : Ext F1 H1 F2 H2) (h1 : H1 p = none) (h2 : F2 p = none) : Ext F1 H1 F2 (upd H2 p o) := by
  refine ⟨fun b u q => ?_, e.ff, fun b u q => ?_, e.nw⟩
  · rw [upd_ne (ne_of_none q h1)]
    exact e.hh b u q
  · rw [upd_ne (ne_of_none q h2)]
    exact e.fh b u q
/-- it is done with -/
theorem Ext.done {F1 H1 F2 H2 : Hp} {p : Addr} {o : HO} (e : Ext F1 H1 F2 H2) (h1 : H1 p = none) (h2 : F2 p = none) (h3 : H2 p = some o) : Ext F1 H1 (upd F2 p o) H2 := by
  refine ⟨e.hh, e.ff.trans (same_upd2 h2), fun b u q => ?_, fun b q1 q2 => ?_⟩
  · by_cases hb : b = p
    · subst hb
      rw [upd_same] at q
      cases q
      exact h3
    · rw [upd_ne hb] at q
      exact e.fh b u q
  · have : b ≠ p := fun z => by
      subst z
      exact q1 h1
    rw [upd_ne this]
    exact e.nw b q1 q2
theorem comp_inX {gt : TG} {vs : List Nat} {fe : D → Env → Rs D} (hcl : ∀ d env, Cl (fe d env))
    (key : ∀ (d y : D) (env : Env) (F H : Hp) (σ0 : L2.St) (v : V) (Qe : VK), Sta P F H σ0 env → Dp P.K F v d → fe d env = .ok y → (∀ F4 H4 w', Ext F H F4 H4 → Dp P.K F4 w' y → Qe w' H4) → gt v (wipe σ0 vs) H fun σ2 H2 => wipe σ2 vs = wipe σ0 vs ∧ rd P Wno f σ2 H2 Qe)
    {σ : L2.St} {H : Hp} {Q : VK} (h : rd P W (fun env => (fl env).bind fun ds => if ds.length ≤ szl then (mapR (fun d => fe d env) ds).bind fun ys => .ok (.list ys) else .bad) σ H Q) :
    tLc (rdI P W fl) gt tYes (rd P Wno f) vs σ H Q := by
  obtain ⟨F, env, st, q⟩ := h
  refine ⟨F, env, st, ?_⟩
  have q : post (Dp P.K) W σ F H ((fl env).bind fun ds => if ds.length ≤ szl then (mapR (fun d => fe d env) ds).bind fun ys => .ok (.list ys) else .bad) Q := q
  cases el : fl env with
  | exc k => rw [el] at q; exact q
  | bad => rw [el] at q; exact q.elim
  | ok ds =>
    rw [el] at q
    simp only [Rs.bind] at q
    split at q
    case isFalse => exact q.elim
    rename_i hz
    refine fun F1 H1 J x1 y1 D hD => ?_
    cases em : mapR (fun d => fe d env) ds with
    | exc k => exact absurd em (cl_map (fun _ => hcl _ _) ds k)
    | bad => rw [em] at q; exact q.elim
    | ok ys =>
      rw [em] at q
      have q : ∀ F' H' v, Ext F H F' H' → Dp P.K F' v (.list ys) → Q v H' := q
      obtain ⟨hlen, hget⟩ := mapR_get em
      have st1 := st.mono x1
      have hF1D : F1 D = none := by
        cases e : F1 D with
        | none => rfl
        | some o =>
          have := x1.fh D o e
          rw [hD] at this
          cases this
      refine ⟨fun j m H => m = ds.length - j ∧ j ≤ ds.length ∧ ∃ F2 acc, Ext F1 H1 F2 H ∧ F2 D = none ∧ H D = some (.lst acc) ∧ DpAll P.K F2 acc (ys.take j), ⟨ds.length, by simp, Nat.zero_le _, F1, [], Ext.newO x1.fh hD, hF1D, upd_same, .nil⟩, ?_⟩
      rintro j m H3 ⟨rfl, hj, F2, acc, x2, hF2, hH, ha⟩
      by_cases hlt : j < ds.length
      · obtain ⟨d, hd⟩ : ∃ d, ds[j]? = some d := ⟨ds[j], List.getElem?_eq_getElem hlt⟩
        obtain ⟨go, yld⟩ := y1.step j d F2 H3 hd x2.ff x2.fh
        refine .inr ⟨go, fun H' => ∃ F2 acc, Ext F1 H1 F2 H' ∧ F2 D = none ∧ H' D = some (.lst acc) ∧ DpAll P.K F2 acc (ys.take (j + 1)), fun H' ⟨F2', acc', a1, a2, a3, a4⟩ => ⟨ds.length - (j + 1), by omega, rfl, hlt, F2', acc', a1, a2, a3, a4⟩, fun v H' hy => ?_⟩
        obtain ⟨F3, x3, rv⟩ := yld v H' hy
        have x23 := x2.trans x3
        obtain ⟨y, hy1, hy2⟩ := hget j d hd
        refine key d y env F3 H' σ v _ (st1.mono x23) rv hy2 ?_
        refine fun F4 H4 w' x4 rw' => ?_
        have x34 := x3.trans x4
        have hH4 : H4 D = some (.lst acc) := x34.hh _ _ hH
        have hF4 : F4 D = none := x34.nw D (by rw [hH]; exact fun z => nomatch z) hF2
        refine ⟨acc, hH4, ?_, F4, acc ++ [w'], (x2.trans x34).grow hD hF4, hF4, upd_same, ?_⟩
        · have e1 := dps_len ha
          rw [List.length_take] at e1
          have : szl = sizeLine := rfl
          omega
        · rw [List.take_add_one, hy1]
          exact dps_app (dps_mono x34.ff ha) (.cons rw' .nil)
      · have e : j = ds.length := by omega
        subst e
        refine .inl ⟨y1.stop F2 H3 x2.ff x2.fh, q _ H3 (.ref D) (x1.trans (x2.done hD hF2 hH)) (.lst (.inl (.inl upd_same)) ?_)⟩
        have et : ys.take ds.length = ys := List.take_of_length_le (by omega)
        rw [et] at ha
        exact dps_mono (same_upd2 hF2) ha
theorem comp_in {i : Nat} {σ : L2.St} {H : Hp} {Q : VK} (h : rd P W (fun env => (fl env).bind fun ds => if ds.length ≤ szl then (mapR (fun d => (f (env.set i (some (.fr d)))).cold) ds).bind fun ys => .ok (.list ys) else .bad) σ H Q) :
    tLc (rdI P W fl) (gName i) tYes (rd P Wno f) [i] σ H Q := by
  refine comp_inX (fe := fun d env => (f (env.set i (some (.fr d)))).cold) (fun _ _ => cl_cold) (fun d y env F H σ0 v Qe st rv hy q => ?_) h
  have hset2 : ((wipe σ0 [i]).set i (some v)) = σ0.set i (some v) := by
    show (σ0.set i none).set i (some v) = σ0.set i (some v)
    rw [List.set_set]
  refine ⟨by
    show (((wipe σ0 [i]).set i (some v)).set i none) = wipe σ0 [i]
    show (((σ0.set i none).set i (some v)).set i none) = σ0.set i none
    rw [List.set_set, List.set_set], ?_⟩
  rw [hset2]
  refine ⟨F, env.set i (some (.fr d)), st.putD rv, ?_⟩
  rw [cold_ok hy]
  exact q
theorem s_comp (c : Ct P g X W Φ) {i : Nat} {x : Str} {itr el : Expr} {scope : Scope} {px : Pos} (hh : g.hot = false) (hb : blkC g.N X.env.scope scope [(x, i)] = true) (hl : locB (relS scope X.env.scope) x = true)
    (hi : PI X (.Name x px) itr (rdI P W fl)) (hset : ∀ y, foldedSetIterable itr X.env y = pure y) (he : ∀ X', Ct P g X' Wno Φ → X'.env.scope = relS scope X.env.scope → PE X' el (rd P Wno f)) :
    PE X (.ListComp el [⟨.Name x px, itr, [], 0⟩] scope pos) (rd P W fun env => (fl env).bind fun ds => if ds.length ≤ szl then (mapR (fun d => (f (env.set i (some (.fr d)))).cold) ds).bind fun ys => .ok (.list ys) else .bad) := by
  have ok : BlkOk X.N X.env.scope scope [(x, i)] := blkOk_by (by rw [c.n]; exact hb)
  have hx : (relS scope X.env.scope).names.lookup x = some .local := loc_of hl
  have hN : X.N.Nodup := by rw [c.n]; exact c.nd
  exact (pe_lc (own := [(x, i)]) (g := gName i) (tt := tYes) (te := rd P Wno f) (c.calm hh) hN hi ok (fun s H C cl fp => pg_name hN (ok.ix (x, i) (List.mem_cons_self)) (.inl hx) (.inr hx)) (fun _ _ _ _ _ => pts_nil)
    (fun s H C cl fp => he _ (c.blk hh s H scope _ fp) rfl) hset).imp fun σ H Q h => comp_in h
theorem wipe2 {σ : L2.St} {i j : Nat} {x y : V} (h : i ≠ j) : ((wipe σ [i, j]).set i (some x)).set j (some y) = (σ.set i (some x)).set j (some y) ∧ wipe ((σ.set i (some x)).set j (some y)) [i, j] = wipe σ [i, j] := by
  constructor
  · show ((((σ.set j none).set i none).set i (some x)).set j (some y)) = _
    rw [List.set_set, List.set_comm none (some x) (Ne.symm h), List.set_set]
  · show ((((σ.set i (some x)).set j (some y)).set j none).set i none) = (σ.set j none).set i none
    rw [List.set_set, List.set_comm (some x) none h, List.set_set]
theorem comp_in2 {i j : Nat} (hij : i ≠ j) {σ : L2.St} {H : Hp} {Q : VK} (h : rd P W (fun env => (fl env).bind fun ds => if ds.length ≤ szl then (mapR (pairR fun x y => (f ((env.set i (some (.fr x))).set j (some (.fr y)))).cold) ds).bind fun ys => .ok (.list ys) else .bad) σ H Q) :
    tLc (rdI P W fl) (gTup P.K 2 (gCons (gName i) (gCons (gName j) gNil))) tYes (rd P Wno f) [i, j] σ H Q := by
  refine comp_inX (fe := fun d env => pairR (fun x y => (f ((env.set i (some (.fr x))).set j (some (.fr y)))).cold) d) (fun d env => by unfold pairR; split <;> first | exact cl_cold | exact cl_bad) (fun d y env F H σ0 v Qe st rv hy q => ?_) h
  unfold pairR at hy
  split at hy
  case h_2 => cases hy
  rename_i dx dy
  obtain ⟨a, vs, rfl, qa, da⟩ := dp_tup rv
  cases da with
  | cons r1 da =>
    cases da with
    | cons r2 da =>
      cases da
      obtain ⟨w1, w2⟩ := wipe2 (σ := σ0) (x := _) (y := _) hij
      refine ⟨a, _, rfl, same_seqT st.same qa, rfl, _, _, rfl, _, _, rfl, rfl, ?_⟩
      rw [w1]
      refine ⟨w2, F, (env.set i (some (.fr dx))).set j (some (.fr dy)), (st.putD r1).putD r2, ?_⟩
      rw [cold_ok hy]
      exact q
theorem s_comp2 (c : Ct P g X W Φ) {i j : Nat} {x z : Str} {itr el : Expr} {scope : Scope} {px pz tp : Pos} {k : Nat} (hh : g.hot = false) (hij : i ≠ j) (hb : blkC g.N X.env.scope scope [(x, i), (z, j)] = true) (hl : locB (relS scope X.env.scope) x = true) (hl2 : locB (relS scope X.env.scope) z = true)
    (hi : PI X (.Tuple [.Name x px, .Name z pz] k tp) itr (rdI P W fl)) (hset : ∀ y, foldedSetIterable itr X.env y = pure y) (he : ∀ X', Ct P g X' Wno Φ → X'.env.scope = relS scope X.env.scope → PE X' el (rd P Wno f)) :
    PE X (.ListComp el [⟨.Tuple [.Name x px, .Name z pz] k tp, itr, [], 0⟩] scope pos) (rd P W fun env => (fl env).bind fun ds => if ds.length ≤ szl then (mapR (pairR fun x y => (f ((env.set i (some (.fr x))).set j (some (.fr y)))).cold) ds).bind fun ys => .ok (.list ys) else .bad) := by
  have ok : BlkOk X.N X.env.scope scope [(x, i), (z, j)] := blkOk_by (by rw [c.n]; exact hb)
  have hx : (relS scope X.env.scope).names.lookup x = some .local := loc_of hl
  have hz : (relS scope X.env.scope).names.lookup z = some .local := loc_of hl2
  have hN : X.N.Nodup := by rw [c.n]; exact c.nd
  exact (pe_lc (own := [(x, i), (z, j)]) (g := gTup P.K 2 (gCons (gName i) (gCons (gName j) gNil))) (tt := tYes) (te := rd P Wno f) (c.calm hh) hN hi ok (fun s H C cl fp => by
      rw [← c.k]
      exact pg_tup (n := 2) (c.calm hh) (pgs_cons (pg_name hN (ok.ix (x, i) (List.mem_cons_self)) (.inl hx) (.inr hx)) (pgs_cons (pg_name hN (ok.ix (z, j) (List.mem_cons_of_mem _ List.mem_cons_self)) (.inl hz) (.inr hz)) pgs_nil))) (fun _ _ _ _ _ => pts_nil)
    (fun s H C cl fp => he _ (c.blk hh s H scope _ fp) rfl) hset).imp fun σ H Q h => comp_in2 hij h
end
end Q

set_option Elab.async false
set_option linter.all false
set_option maxRecDepth 100000
set_option autoImplicit false
set_option maxHeartbeats 4000000
namespace RT
open PySem
section
variable {prog : Program} {w : World} {A : Around} {E : Value → Shared → Prop} {s : Shared} {R : Result → Shared → Prop}
theorem q_extend_rev {it l : Addr} {items : Array Value} (hh : A.in1.handled = none) (hit : s.heap.IsRevIter it l ((items.size : Int) - 1)) (hl : s.heap.IsList l items) (hne : l ≠ it) (hn : items.size ≤ sizeLine)
    (S : Addr) (res : Value) (c₀ : Nat) (hSf : S ∉ [it, l]) (hS : s.heap.get? S = some { cls := .type "list", data := .seq #[] c₀ })
    (hR : ∀ s' acc' c', Moved (S :: [it]) (fun a b => b = a) s s' → s'.heap.get? S = some { cls := .type "list", dict := none, data := .seq acc' c', slots := #[] } → ItemsOf (fun i v => items[items.size - 1 - i]? = some v) acc' items.size → R (.ok (.ret res)) s') :
    wpAny (model prog w) A.in1 (Builtin.List.listExtendWith (.ref S) (.ref it) res)
      (fun fin s' => match fin with | .done f => R (.ok f) s' | .again c' => c'.quiet = true ∧ codeAny (model prog w) A c' R s') (fun e s' => R (.error e) s') s := by
  have W := (Walks.listRev (prog := prog) (w := w) (A := A.in1) hh it l hne items).toS
  have hSi : S ≠ it := fun e => hSf (by simp [e])
  have hT : s.TypeIs (.ref it) "list_reverseiterator" := hit.typeIs
  have h1 : Builtin.List.listSameRef (.ref S) (.ref it) = false := by simp [Builtin.List.listSameRef, hSi]
  unfold Builtin.List.listExtendWith
  refine wpAny_bind (wpAny_typeOf hT ?_)
  rw [if_neg (by rw [h1]; decide)]
  refine wpAny_bind (wpAny_pyIter_revIter hit ?_)
  refine wpAny_bind (wpAny_holding ?_)
  unfold Builtin.List.listLengthHint
  refine wpAny_bind (wpAny_specialOf hT nolen_lri ?_)
  show wpAny _ A.in1 (specialOf (Value.ref it) (Str.ofString "__length_hint__") >>= _) _ _ _
  refine wpAny_bind (wpAny_specialOf hT hint_lri ?_)
  generalize hid : ("list_reverseiterator.__length_hint__" : String) = id0
  wp_delta
  rw [show splitId id0 = some ("list_reverseiterator", "__length_hint__") from by subst hid; decide +kernel]
  subst hid
  refine wpAny_bind (wpAny_isInstance (b := true) hT (by rw [isSubtype_type]; kernel_rfl) ?_)
  refine wpAny_pure ?_
  rw [if_neg (by decide)]
  have e0 : ((items.size : Nat) : Int) - 1 - ((0 : Nat) : Int) = (items.size : Int) - 1 := by omega
  refine wpAny_pure ⟨plainId_quiet F.plain_extend_loop _, codeAny_extend_loopS W hn _ hSf _ items.size 0 _ _ _ rfl (Nat.zero_le _) ⟨Nat.zero_le _, by rw [e0]; exact hit, hl⟩ hS (ItemsOf.nil _) fun s' acc' c' hm hS' hacc => ?_⟩
  exact hR s' acc' c' hm hS' hacc
theorem q_call_list_rev {it l : Addr} {items : Array Value} {Q : Value → Shared → Prop} (hh : A.handled = none) (hit : s.heap.IsRevIter it l ((items.size : Int) - 1)) (hl : s.heap.IsList l items) (hne : l ≠ it) (hn : items.size ≤ sizeLine)
    (hQ : ∀ (h' : Heap) (tk : Nat) (acc : Array Value) (c : Nat), (∀ b o, b ≠ it → s.heap.get? b = some o → h'.get? b = some o) → h'.get? s.heap.objs.size = some { cls := .type "list", dict := none, data := .seq acc c, slots := #[] } →
      ItemsOf (fun i v => items[items.size - 1 - i]? = some v) acc items.size → Q (.ref s.heap.objs.size) { s with heap := h', toks := tk }) :
    wpAny (model prog w) A (call (.type "list") [.ref it]) Q E s := by
  obtain ⟨oi, hoi, _⟩ := id hit
  obtain ⟨ol, hol, _⟩ := id hl
  have hSi : s.heap.objs.size ≠ it := Nat.ne_of_gt (Heap.lt_size hoi)
  have hSl : s.heap.objs.size ≠ l := Nat.ne_of_gt (Heap.lt_size hol)
  have hSf : s.heap.objs.size ∉ [it, l] := by simp only [List.mem_cons, List.not_mem_nil, or_false, not_or]; exact ⟨hSi, hSl⟩
  refine callType_codes (Q₁ := fun obj s₁ => obj = .ref s.heap.objs.size ∧ s₁ = { s with heap := s.heap.push { cls := .type "list", data := .seq #[] } }) F.called_list (F.typeCall_list_1 _) F.entry_list_init
    (code_list_new _ ⟨rfl, rfl⟩) fun obj s₁ h₁ => ?_
  obtain ⟨rfl, rfl⟩ := h₁
  have hS : (s.heap.push { cls := .type "list", data := .seq #[] }).get? s.heap.objs.size = some { cls := .type "list", data := .seq #[] } := Heap.get?_push_size _ rfl
  refine ⟨⟨_, hS, rfl⟩, F.args_list_init_2 _ _, ?_⟩
  show wpAny _ A.in1.in1 (do let old ← Builtin.List.listItems (.ref s.heap.objs.size); Builtin.List.listUpdate (.ref s.heap.objs.size) (fun _ => #[]); letGo old.toList.reverse; Builtin.List.listExtendWith (.ref s.heap.objs.size) (.ref it) .none) _ _ _
  refine wpAny_bind ?_
  unfold Builtin.List.listItems
  refine wpAny_bind (wpAny_seqItems hS rfl (wpAny_pure ?_))
  show wpAny _ A.in1.in1 (updateSeq s.heap.objs.size (fun _ => #[]) >>= fun _ => letGo (#[] : Array Value).toList.reverse >>= fun _ => Builtin.List.listExtendWith (.ref s.heap.objs.size) (.ref it) .none) _ _ _
  refine wpAny_bind (wpAny_updateSeq hS rfl ?_)
  have hS₂ := Heap.get?_update_self (Obj.mapSeq (fun _ => (#[] : Array Value))) hS rfl
  have oth : ∀ b o, b ≠ s.heap.objs.size → (s.heap.push { cls := .type "list", data := .seq #[] }).get? b = some o → ((s.heap.push { cls := .type "list", data := .seq #[] }).update s.heap.objs.size (Obj.mapSeq (fun _ => (#[] : Array Value)))).get? b = some o :=
    fun b o hb e => (Heap.get?_update_other _ _ (Ne.symm hb)).trans e
  refine wpAny_bind (wpAny_letGo ?_)
  have hit2 : ((s.heap.push { cls := .type "list", data := .seq #[] }).update s.heap.objs.size (Obj.mapSeq (fun _ => (#[] : Array Value)))).IsRevIter it l ((items.size : Int) - 1) := hit.at fun o e => oth it o (Ne.symm hSi) (Heap.get?_push_of_some _ e)
  have hl2 : ((s.heap.push { cls := .type "list", data := .seq #[] }).update s.heap.objs.size (Obj.mapSeq (fun _ => (#[] : Array Value)))).IsList l items := hl.at fun o e => oth l o (Ne.symm hSl) (Heap.get?_push_of_some _ e)
  refine q_extend_rev (A := A.in1) (R := fun r s' => match r with | .ok (.ret v) => v = Value.none ∧ Q (.ref s.heap.objs.size) s' | .ok _ => False | .error e => E e s') hh hit2 hl2 hne hn s.heap.objs.size .none _ hSf hS₂ fun s' acc' c' hm hS' hacc => ?_
  refine ⟨rfl, ?_⟩
  rw [Moved.eq_with hm]
  refine hQ s'.heap s'.toks acc' c' (fun b o hb e => hm.heap b o (fun hmem => ?_) (oth b o (Nat.ne_of_lt (Heap.lt_size e)) (Heap.get?_push_of_some _ e))) hS' hacc
  rcases List.mem_cons.mp hmem with e' | hmem
  · exact absurd (Heap.lt_size e) (by rw [e']; exact Nat.lt_irrefl _)
  · exact hb (List.mem_singleton.mp hmem)
end
end RT

set_option Elab.async false
set_option linter.all false
set_option maxRecDepth 100000
set_option autoImplicit false
set_option maxHeartbeats 8000000
namespace Q
open PySem PySem.Spec PyProof.Rows L2
section
variable {P : Par} {g : Cfg} {X : Cx} {W : Wsh} {Φ : Fns} {e l r z : Expr} {es : List Expr} {pos : Pos} {f f1 f2 f3 : Env → Rs D} {fl : Env → Rs (List D)}
theorem pe_listRev {x y : Str} {te : TE} {p p2 pos2 : Pos} (hc : X.calm = true) (hg : Gl X x) (ex : x = "list") (hm : X.mg x = none) (hg2 : Gl X y) (ey : y = "reversed") (hm2 : X.mg y = none) (he : PE X e te) (hs : starEach [e] X.env = (false, eval e X.env) :: starEach [] X.env) :
    PE X (.Call (.Name x p) [.Call (.Name y p2) [e] [] pos2] [] pos) (fun σ H Q => te σ H fun v H1 => ∃ (a : Addr) (xs : List V), v = .ref a ∧ SqL X.K H1 a xs ∧ ∀ q, H1 q = none → Q (.ref q) (upd H1 q (.lst xs.reverse))) := by
  subst ex ey
  refine ⟨fun pins s σ H Q I h => ?_⟩
  refine Call_ (ld_blt I hg hm boot_list (PyProof.Rows.callWith_type1 (args_cons (Call_ (ld_blt I hg2 hm2 PyProof.Rows.boot_reversed (PyProof.Rows.callWith_type1 (args_cons (thn (he.run pins s σ H _ I h) fun u s1 ⟨v, H1, I1, r1, q1⟩ => args_nil ?_) hs) hs rfl))) rfl) rfl rfl))
  obtain ⟨a, xs, ev, hq, q⟩ := q1
  subst ev
  obtain rfl : u = Value.ref a := r1
  obtain ⟨its, rv, p', hz⟩ := I1.list hq
  refine call_reversed_list p'.isList (args_nil ?_)
  have k0 : ∀ b o, s1.heap.get? b = some o → (s1.heap.push (revObj a ((its.toArray.size : Int) - 1))).get? b = some o := fun b o e => Heap.get?_push_of_some _ e
  have I2 : Inv X pins σ H1 { s1 with heap := s1.heap.push (revObj a ((its.toArray.size : Int) - 1)) } := I1.kept (t' := s1.toks) k0
  have hl := p'.isList
  obtain ⟨ol, hol, _⟩ := id hl
  have hne : a ≠ s1.heap.objs.size := Nat.ne_of_lt (Heap.lt_size hol)
  have hn : its.toArray.size ≤ sizeLine := by rw [List.size_toArray, ← rv.length]; exact hz
  refine RT.q_call_list_rev (s := { s1 with heap := s1.heap.push (revObj a ((its.toArray.size : Int) - 1)) }) (I1.ok.hd hc) ⟨_, Heap.get?_push_size _ rfl, rfl, rfl⟩ (hl.push _) hne hn fun h' tk acc cnt hk hS hi => ?_
  have sz : (s1.heap.push (revObj a ((its.toArray.size : Int) - 1))).objs.size = s1.heap.objs.size + 1 := Heap.size_push ..
  rw [sz] at hS ⊢
  have hfree : H1 (s1.heap.objs.size + 1) = none := I1.hok.fresh (Nat.le_succ _)
  have new : ObjOk X.prog X.w (upd H1 (s1.heap.objs.size + 1) (.lst xs.reverse)) h' (s1.heap.objs.size + 1) (.lst xs.reverse) := ⟨by rw [List.length_reverse]; exact hz, acc.toList, cnt, RT.vals_rev rv hi, by rw [Array.toArray_toList]; exact hS⟩
  have I3 := I1.turnedNew (t' := tk) (ch := [s1.heap.objs.size]) (fun b o hb e => hk b o (fun z => hb (by simp [z])) (k0 b o e)) (fun b hb => by
    have : b = s1.heap.objs.size := by simpa using hb
    subst this
    exact I1.fpOk (Nat.le_refl _) (I1.hok.fresh (Nat.le_refl _))) (Nat.le_succ _) new
  exact ⟨.ref (s1.heap.objs.size + 1), _, I3, rfl, q _ hfree⟩
theorem s_lrev (c : Ct P g X W Φ) {x y : Str} {p p2 pos2 : Pos} (hh : g.hot = false) (hx : glB X.env.scope x = true) (ex : x = "list") (hy : glB X.env.scope y = true) (ey : y = "reversed") (hs : nst l = true) (ha : PE X l (rd P W f1)) :
    PE X (.Call (.Name x p) [.Call (.Name y p2) [l] [] pos2] [] pos) (rd P W fun env => (f1 env).bind fun d => (match d with | .list ds => .ok (.list ds.reverse) | _ => .bad)) := by
  obtain ⟨gx, dx, nx⟩ := gl_of hx
  obtain ⟨gy, dy, ny⟩ := gl_of hy
  refine (pe_listRev (c.calm hh) gx ex (c.bl x (by subst ex; decide)) gy ey (c.bl y (by subst ey; decide)) ha (star_of hs)).imp fun σ H Q ⟨F, env, st, q⟩ => ⟨F, env, st, post_seq q fun d F1 H1 v e1 x1 rx q1 => ?_⟩
  cases d with
  | list ds =>
    obtain ⟨a, vs, rfl, qa, da⟩ := dp_lst rx
    rw [c.k]
    exact ⟨a, vs, rfl, x1.fh.seq qa, fun p hp => q1 _ _ _ (Ext.new x1.fh hp) (.lst (.inl (.inl upd_same)) (dps_mono (Ext.new (o := HO.lst vs.reverse) x1.fh hp).ff (dps_rev da)))⟩
  | _ => exact q1.elim

theorem call_isX {a C : Addr} {oe : Obj} (hp : (a, oe) ∈ X.pn) (E : ExcC X.K C) (hz : Zc (.ref C) none oe) (hf : ∃ vs, oe.data = .fields vs) : CallR X (.builtin "isinstance") (fun xs H Q => ∃ (c : V) (cv : Value) (b : Bool), xs = [.ref a, c] ∧ (∀ u, RelV c u → u = cv) ∧ PySem.W.kitOne X.K (.ref C) cv = some b ∧ Q (.bl b) H) := by
  intro pins s σ H xs us Q I r h
  obtain ⟨c, cv, b, rfl, hcv, e, q⟩ := h
  cases r with
  | cons rx rr =>
    cases rr with
    | cons rt rr =>
      cases rr
      obtain rfl : _ = Value.ref a := rx
      obtain rfl := hcv _ rt
      have hget := (I.pin (a, oe) (List.mem_append_left _ hp)).1
      obtain ⟨vs, hv⟩ := hf
      exact PySem.W.kia_one (PySem.W.handS_kitx_exc (ox := oe) E.hg E.hk E.hs E.hd E.ha E.hn E.ht E.hm) I.kIn (by
        obtain ⟨oc, od, oda, osl⟩ := oe
        obtain ⟨h1, h2⟩ := hz
        dsimp only at h1 h2 hv
        subst h1 h2 hv
        exact ⟨hget, rfl, rfl, trivial⟩) e (fun z => nomatch z) fun tk => ⟨.bl b, H, I.kept (t' := tk) fun _ _ z => z, rfl, q⟩
theorem call_isY {a C : Addr} {oe : Obj} (hp : (a, oe) ∈ X.pn) (E : ExcC X.K C) (hz : Zc (.ref C) none oe) (hf : ∃ vs, oe.data = .fields vs) : CallR X (.builtin "isinstance") (fun xs H Q => ∃ (p : Addr) (vs : List V) (cvs : List Value) (b : Bool), xs = [.ref a, .ref p] ∧ H p = some (.tup vs) ∧ (∀ us, Vals vs us → us = cvs) ∧ PySem.W.kitAny X.K (.ref C) cvs = some b ∧ Q (.bl b) H) := by
  intro pins s σ H xs us Q I r h
  obtain ⟨p, ws, cvs, b, rfl, hp2, hcv, e, q⟩ := h
  cases r with
  | cons rx rr =>
    cases rr with
    | cons rt rr =>
      cases rr
      obtain rfl : _ = Value.ref a := rx
      obtain rfl : _ = Value.ref p := rt
      have hget := (I.pin (a, oe) (List.mem_append_left _ hp)).1
      obtain ⟨vs, hv⟩ := hf
      obtain ⟨_, its, rv, ob, eo, ec, n, ed⟩ := I.hok p _ hp2
      obtain rfl := hcv _ rv
      obtain ⟨oc', od', oda', osl'⟩ := ob
      dsimp only at ec ed
      subst ec ed
      exact PySem.W.kia_tup (PySem.W.handS_kitx_exc (ox := oe) E.hg E.hk E.hs E.hd E.ha E.hn E.ht E.hm) I.kIn (by
        obtain ⟨oc, od, oda, osl⟩ := oe
        obtain ⟨h1, h2⟩ := hz
        dsimp only at h1 h2 hv
        subst h1 h2 hv
        exact ⟨hget, rfl, rfl, trivial⟩) eo e (fun z => nomatch z) fun tk => ⟨.bl b, H, I.kept (t' := tk) fun _ _ z => z, rfl, q⟩
theorem pe_isC {y : Str} {v : V} {cv : Value} {p : Pos} (hy : glB X.env.scope y = true) (hm : X.mg y = some cv ∨ (X.mg y = none ∧ bootBuiltins y = some cv)) (r : RelV v cv) : PE X (.Name y p) (tC v) := by
  obtain ⟨gy, dy, ny⟩ := gl_of hy
  rcases hm with hm | ⟨hm, hb⟩
  · exact pe_glob gy hm r dy
  · exact pe_bltn gy hm hb r ny dy
theorem er_var {P : Par} {F H : Hp} {σ : L2.St} {env : Env} (st : Sta P F H σ env) {i k : Nat} (e : erR env i = .ok k) : ∃ a, σ[i]? = some (some (.ref a)) ∧ P.ER a k := by
  unfold erR at e
  split at e
  · rename_i k' e1
    cases e
    exact st.sl i _ e1
  · cases e
theorem cl_er (env : Env) (i : Nat) : Cl (erR env i) := by
  unfold erR
  split <;> first | exact cl_ok | exact cl_bad
theorem s_isE (c : Ct P g X W Φ) {i : Nat} {tb : List (Nat × Bool)} {x y z : Str} {p p2 p3 : Pos} (hh : g.hot = true) (hx : glB X.env.scope x = true) (ex : x = "isinstance") (hz : chkV g X.env.scope i z = true) (hy : glB X.env.scope y = true) (ht : g.ist.lookup y = some tb) :
    PE X (.Call (.Name x p) [.Name z p3, .Name y p2] [] pos) (rd P W fun env => (erR env i).bind fun k => isK k tb) := by
  obtain ⟨gx, dx, nx⟩ := gl_of hx
  unfold chkV at hz
  rw [Bool.and_eq_true, Bool.and_eq_true, decide_eq_true_eq] at hz
  obtain ⟨za, zb, _⟩ := okN_of hz.2
  obtain ⟨v, cv, hm, hr, hu, hk⟩ := c.is y tb ht
  refine ⟨fun pins s σ H Q I ⟨F, env, st, q⟩ => ?_⟩
  cases e : erR env i with
  | exc k => exact absurd e (cl_er env i k)
  | bad => simp only [e] at q; exact q.elim
  | ok k =>
    simp only [e, Rs.bind] at q
    obtain ⟨a, ea, hE⟩ := er_var st e
    obtain ⟨oe, C, hp, ec, eC, hzc, hf⟩ := c.er hh a k hE
    unfold isK at q
    cases et : tb.lookup k with
    | none => rw [et] at q; exact q.elim
    | some b =>
      rw [et] at q
      refine (pe_callB (call_isX hp eC hzc hf) gx (c.bl x (by subst ex; decide)) (by subst ex; exact boot_isinstance) (pa_cons (pe_var (i := i) (by rw [c.n]; exact hz.1.1) (vis_of hz.1.2) za zb) (pa_cons (pe_isC hy hm hr) pa_nil)) nx dx).run pins s σ H Q I ?_
      exact ⟨_, ea, _, cv, b, rfl, hu, by rw [← ec]; exact hk k b et, q F H _ (Ext.refl st.same) (.bl b)⟩
theorem s_gI (c : Ct P g X W Φ) {i : Int} {x : Str} {p : Pos} (hx : glB X.env.scope x = true) (hi : g.gi.lookup x = some i) : PE X (.Name x p) (rd P W fun _ => .ok (.int i)) := by
  obtain ⟨gx, dx, nx⟩ := gl_of hx
  obtain ⟨t, ht⟩ := c.gi x i hi
  exact s_const (pe_glob (v := .int i) gx ht ⟨t, rfl⟩ dx) fun F => .int i
theorem s_ixO (c : Ct P g X W Φ) {i : Nat} {x : Str} {p : Pos} (hs : nsl r = true) (hz : chkV g X.env.scope i x = true) (hb : PE X r (rd P W f2)) : PE X (.Subscript (.Name x p) r pos) (rd P W fun env => (match env[i]? with
      | some (some (.ow ds)) => (f2 env).bind fun y => ixR (.list ds) y
      | _ => .bad)) := by
  unfold chkV at hz
  rw [Bool.and_eq_true, Bool.and_eq_true, decide_eq_true_eq] at hz
  obtain ⟨za, zb, _⟩ := okN_of hz.2
  refine (pe_ix ix_list (pe_var (i := i) (by rw [c.n]; exact hz.1.1) (vis_of hz.1.2) za zb) hb (plain_of hs)).imp fun σ H Q ⟨F, env, st, q⟩ => ?_
  dsimp only at q
  split at q
  case h_2 => exact q.elim
  rename_i ds e1
  obtain ⟨p, vs, e2, h0, h1, h2, h3⟩ := st.sl i _ e1
  refine ⟨_, e2, F, env, st, post_seq q fun d F1 H1 w ed x1 rd1 q1 => ?_⟩
  cases d with
  | int k =>
    rw [dp_int rd1]
    have h4 : H1 p = some (.lst vs) := x1.hh _ _ h2
    have da := dps_mono x1.ff h3
    have q1 : post (Dp P.K) W σ F1 H1 (ixD k ds) Q := q1
    have hl := dps_len da
    have key : ∀ j y, ixN vs.length k = some j → ds[j]? = some y → ixD k ds = .ok y → rIxL X.K (.ref p) (.int k) H1 Q := fun j y hj hy he => by
      rw [he] at q1
      obtain ⟨w, hw, rw1⟩ := dps_get da hy
      refine ⟨p, vs, k, w, rfl, rfl, .inl (.inl h4), ?_, q1 F1 H1 w (Ext.refl x1.fh) rw1⟩
      unfold atI
      rw [hj]
      exact hw
    unfold ixD at q1
    split at q1
    · rename_i h0
      split at q1
      · rename_i y hy
        have hlt : k.toNat < ds.length := (List.getElem?_eq_some_iff.mp hy).1
        refine key k.toNat y (by unfold ixN; rw [if_pos h0, if_pos (by omega)]) hy (by unfold ixD; rw [if_pos h0, hy])
      · exact q1.elim
    · rename_i h0
      split at q1
      · rename_i hlo
        split at q1
        · rename_i y hy
          refine key (k + ds.length).toNat y (by unfold ixN; rw [if_neg h0, if_pos (by omega), hl]) hy (by unfold ixD; rw [if_neg h0, if_pos hlo, hy])
        · exact q1.elim
      · exact q1.elim
  | _ => exact q1.elim
theorem chkT_pa (c : Ct P g X W Φ) : ∀ {tbs : List (List (Nat × Bool))} {ls : List Expr}, chkT g tbs X.env.scope ls = true → ∃ (vs : List V) (cvs : List Value), PA X ls (fun σ H Q => Q vs H) ∧ vs.length = tbs.length ∧ (∀ us, Vals vs us → us = cvs) ∧ ∀ k b, isA k tbs = .ok (.bool b) → PySem.W.kitAny X.K (P.cls k) cvs = some b
  | [], [], _ => ⟨[], [], pa_nil.imp fun _ _ _ h => h, rfl, fun us r => by cases r; rfl, fun k b e => by cases e; rfl⟩
  | [], _ :: _, h => absurd (show false = true from h) Bool.false_ne_true
  | tb :: tbs, [], h => absurd (show false = true from h) Bool.false_ne_true
  | tb :: tbs, e :: r, h => by
    cases e with
    | Name y p =>
      have h : (glB X.env.scope y && decide (g.ist.lookup y = some tb) && chkT g tbs X.env.scope r) = true := h
      rw [Bool.and_eq_true, Bool.and_eq_true, decide_eq_true_eq] at h
      obtain ⟨v, cv, hm, hr, hu, hk⟩ := c.is y tb h.1.2
      obtain ⟨vs, cvs, h1, h2, h3, h4⟩ := chkT_pa c (tbs := tbs) (ls := r) h.2
      refine ⟨v :: vs, cv :: cvs, (pa_cons (pe_isC h.1.1 hm hr) h1).imp fun σ H Q q => q, by simp [h2], fun us r => ?_, fun k b eb => ?_⟩
      · cases r with
        | cons r1 r2 => rw [hu _ r1, h3 _ r2]
      · unfold isA at eb
        unfold PySem.W.kitAny
        cases et : tb.lookup k with
        | none => rw [et] at eb; cases eb
        | some d =>
          rw [et] at eb
          rw [hk k d et]
          cases d with
          | true => cases eb; rfl
          | false => exact h4 k b eb
    | _ => exact absurd (show false = true from h) Bool.false_ne_true
theorem isA_bl (k : Nat) : ∀ (tbs : List (List (Nat × Bool))), (∃ b, isA k tbs = .ok (.bool b)) ∨ isA k tbs = .bad
  | [] => .inl ⟨false, rfl⟩
  | tb :: r => by
    unfold isA
    cases tb.lookup k with
    | none => exact .inr rfl
    | some b => cases b <;> first | exact .inl ⟨true, rfl⟩ | exact isA_bl k r
theorem s_isT (c : Ct P g X W Φ) {i kk : Nat} {tbs : List (List (Nat × Bool))} {ls : List Expr} {x z : Str} {p p2 p3 : Pos} (hh : g.hot = true) (hx : glB X.env.scope x = true) (ex : x = "isinstance") (hz : chkV g X.env.scope i z = true) (ht : chkT g tbs X.env.scope ls = true) (hl : tbs.length ≤ szl) :
    PE X (.Call (.Name x p) [.Name z p3, .Tuple ls kk p2] [] pos) (rd P W fun env => (erR env i).bind fun k => isA k tbs) := by
  obtain ⟨gx, dx, nx⟩ := gl_of hx
  unfold chkV at hz
  rw [Bool.and_eq_true, Bool.and_eq_true, decide_eq_true_eq] at hz
  obtain ⟨za, zb, _⟩ := okN_of hz.2
  obtain ⟨vs, cvs, h1, h2, h3, h4⟩ := chkT_pa c ht
  refine ⟨fun pins s σ H Q I ⟨F, env, st, q⟩ => ?_⟩
  cases e : erR env i with
  | exc k => exact absurd e (cl_er env i k)
  | bad => simp only [e] at q; exact q.elim
  | ok k =>
    simp only [e, Rs.bind] at q
    obtain ⟨a, ea, hE⟩ := er_var st e
    obtain ⟨oe, C, hp, ec, eC, hzc, hf⟩ := c.er hh a k hE
    rcases isA_bl k tbs with ⟨b, eb⟩ | eb
    · rw [eb] at q
      refine (pe_callB (call_isY hp eC hzc hf) gx (c.bl x (by subst ex; decide)) (by subst ex; exact boot_isinstance) (pa_cons (pe_var (i := i) (by rw [c.n]; exact hz.1.1) (vis_of hz.1.2) za zb) (pa_cons (pe_tup h1) pa_nil)) nx dx).run pins s σ H Q I ?_
      refine ⟨_, ea, by rw [h2]; exact hl, fun q1 hq1 => ⟨q1, vs, cvs, b, rfl, upd_same, h3, by rw [← ec]; exact h4 k b eb, ?_⟩⟩
      exact q _ _ _ (Ext.newO st.same hq1) (.bl b)
    · rw [eb] at q
      exact q.elim
theorem evs_len (shp : D → Bool) (Φ : Fns) (g : Cfg) (sc : Scope) : ∀ (ts : Exs) (es : List Expr), chks g ts sc es = true → ∀ env ds, evs shp Φ ts env = .ok ds → ds.length = es.length
  | .nil, [], _, env, ds, h => by
    cases h
    rfl
  | .nil, _ :: _, h, _, _, _ => absurd (show false = true from h) Bool.false_ne_true
  | .cons _ _, [], h, _, _, _ => absurd (show false = true from h) Bool.false_ne_true
  | .cons t ts, e :: es, h, env, ds, he => by
    have h : (nst e && chk g t sc e && chks g ts sc es) = true := h
    rw [Bool.and_eq_true] at h
    have he : ((ev shp Φ t env).bind fun x => (evs shp Φ ts env).bind fun xs => .ok (x :: xs)) = .ok ds := he
    cases e1 : ev shp Φ t env with
    | ok a =>
      rw [e1] at he
      cases e2 : evs shp Φ ts env with
      | ok b =>
        have he : ((evs shp Φ ts env).bind fun xs => Rs.ok (a :: xs)) = .ok ds := he
        rw [e2] at he
        cases he
        rw [List.length_cons, List.length_cons, evs_len shp Φ g sc ts es h.2 env b e2]
      | exc k =>
        have he : ((evs shp Φ ts env).bind fun xs => Rs.ok (a :: xs)) = .ok ds := he
        rw [e2] at he
        cases he
      | bad =>
        have he : ((evs shp Φ ts env).bind fun xs => Rs.ok (a :: xs)) = .ok ds := he
        rw [e2] at he
        cases he
    | exc k => rw [e1] at he; cases he
    | bad => rw [e1] at he; cases he
theorem set_of {e : Expr} {env : PySem.Env} (h : nset e = true) : ∀ y, foldedSetIterable e env y = pure y := by
  cases e <;> first | exact fun _ => rfl | exact absurd h Bool.false_ne_true
theorem no_of {p : Prop} (h : false = true) : p := absurd h Bool.false_ne_true

end
section
variable {P : Par} {g : Cfg} {Φ : Fns}
structure Snd (P : Par) (g : Cfg) (Φ : Fns) (t : Ex) : Prop where
  v : ∀ {X : Cx} {W : Wsh} (c : Ct P g X W Φ) (e : Expr), chk g t X.env.scope e = true → PE X e (rd P W (ev SS Φ t))
  b : tst t = true → ∀ {X : Cx} {W : Wsh} (c : Ct P g X W Φ) (e : Expr), chk g t X.env.scope e = true → PT X e (rdB P W (ev SS Φ t))
structure Snds (P : Par) (g : Cfg) (Φ : Fns) (ts : Exs) : Prop where
  v : ∀ {X : Cx} {W : Wsh} (c : Ct P g X W Φ) (es : List Expr), chks g ts X.env.scope es = true → PA X es (rds P W (evs SS Φ ts))
  cj : ∀ {X : Cx} {W : Wsh} (c : Ct P g X W Φ) (e : Expr) (es : List Expr) (pos : Pos), chks g ts X.env.scope (e :: es) = true → PE X (.BoolOp .And (e :: es) pos) (rd P W (evC SS Φ ts))
  dj : ∀ {X : Cx} {W : Wsh} (c : Ct P g X W Φ) (e : Expr) (es : List Expr) (pos : Pos), chks g ts X.env.scope (e :: es) = true → PE X (.BoolOp .Or (e :: es) pos) (rd P W (evJ SS Φ ts))
  cb : tsts ts = true → ∀ {X : Cx} {W : Wsh} (c : Ct P g X W Φ) (e : Expr) (es : List Expr) (pos : Pos), chks g ts X.env.scope (e :: es) = true → PW X (.BoolOp .And (e :: es) pos) (rdB P W (evC SS Φ ts))
  db : tsts ts = true → ∀ {X : Cx} {W : Wsh} (c : Ct P g X W Φ) (e : Expr) (es : List Expr) (pos : Pos), chks g ts X.env.scope (e :: es) = true → PW X (.BoolOp .Or (e :: es) pos) (rdB P W (evJ SS Φ ts))
  fs : ∀ {X : Cx} {W : Wsh} (c : Ct P g X W Φ) (es : List Expr), chks g ts X.env.scope es = true → ∃ tl, PJ X es tl ∧ ∀ acc σ H Q, (∃ F env, Sta P F H σ env ∧ post (fun _ (v : Str) x => v = x) W σ F H (evF SS Φ ts acc env) Q) → tJs tl acc σ H Q
structure SndI (P : Par) (g : Cfg) (Φ : Fns) (t : Itr) : Prop where
  v : ∀ {X : Cx} {W : Wsh} (c : Ct P g X W Φ) (tg e : Expr) (pr : Bool), (pr = true → ∃ es k p, tg = .Tuple es k p) → chkI g t pr X.env.scope e = true → PI X tg e (rdI P W (evI SS Φ t)) ∧ ∀ y, foldedSetIterable e X.env y = pure y
theorem Snd.val {t : Ex} (h : ∀ {X : Cx} {W : Wsh} (c : Ct P g X W Φ) (e : Expr), chk g t X.env.scope e = true → PE X e (rd P W (ev SS Φ t)) ∧ ∀ whole, isTrue e X.env whole = (do let v ← whole; standAt e.pos; holding [v] (truthy v))) : Snd P g Φ t :=
  ⟨fun c e q => (h c e q).1, fun _ {X W} c e q => T_val (h c e q).1 (h c e q).2⟩
end
end Q

set_option Elab.async false
set_option linter.all false
set_option maxRecDepth 100000
set_option autoImplicit false
set_option maxHeartbeats 8000000
namespace Q
open PySem PySem.Spec PyProof.Rows L2
/-! ### max, min of a list with a default -/
section
variable {prog : Program} {w : World} {A : Around} {R : Result → Shared → Prop} {I : Addr} {fp wr : List Addr} {n : Nat} {P : Nat → Value → Prop} {St : Nat → Heap → Prop}
theorem fn_treeK {s : Shared} {E : Value → Shared → Prop} {id : String} {b : Builtin} {args : List Value} {kw : List (Str × Value)} {Q : Value → Shared → Prop} (hk : builtinKind id = none) (hp : plainId id = true) (hb : entryFor table id = some b) (ha : argsOk id ⟨args, kw⟩)
    (hc : wpAny (model prog w) A.in1 (b ⟨args, kw⟩) (fun fin s2 => match fin with
      | .done f => (match (Except.ok f : Result) with | .ok (.ret v) => Q v s2 | .ok _ => False | .error e => E e s2)
      | .again c => c.quiet = true ∧ codeAny (model prog w) A c (fun r s2 => match r with | .ok (.ret v) => Q v s2 | .ok _ => False | .error e => E e s2) s2) E s) : wpAny (model prog w) A (call (.builtin id) args kw) Q E s := by
  refine wpAny_call (codeAny_call_builtin hp hb ?_)
  simp only [checkBuiltinCall, hk]
  cases hsig : Manifest.signature? id with
  | none => exact wpAny_pure hc
  | some sig =>
    simp only [argsOk, hsig] at ha
    have h2 : Bind.checkArgs id sig ⟨args, kw⟩ = pure () := ha
    show wpAny _ A.in1 (Bind.checkArgs id sig ⟨args, kw⟩) _ _ s
    rw [h2]
    exact wpAny_pure hc
theorem max_bind (d : Value) : Builtin.Builtins.bindParams "max" ["key", "default"] 0 ⟨[], [(Str.ofString "default", d)]⟩ = pure [none, some d] := by kernel_rfl
theorem min_bind (d : Value) : Builtin.Builtins.bindParams "min" ["key", "default"] 0 ⟨[], [(Str.ofString "default", d)]⟩ = pure [none, some d] := by kernel_rfl

theorem max_lp (W : Walks prog w A.in1 I fp wr n P St) (bt : Nat → Nat → Bool) (hcmp : CmpOf prog w A.in1 .Gt P bt) (S : Addr) (kw : List (Str × Value)) (nS : S ∉ fp) :
    ∀ (k j : Nat) (s : Shared) (vb : Value) (c : Nat), n - (j + 1) = k → j + 1 ≤ n → St (j + 1) s.heap → P (argBest bt j) vb → s.heap.get? S = some { cls := .type "list", dict := none, data := .seq #[vb, vb] c, slots := #[] } →
    (∀ v h2 tk, P (argBest bt (n - 1)) v → (∀ b o, b ∉ wr → b ≠ S → s.heap.get? b = some o → h2.get? b = some o) → R (.ok (.ret v)) { s with heap := h2, toks := tk }) → codeAny (model prog w) A (.builtin "max.loop" ⟨[.ref I, .none, .ref S], kw⟩) R s := by
  have nW : S ∉ wr := fun z => nS (W.sub _ z)
  have nm : (toString "max" ++ toString ".loop" : String) = "max.loop" := by decide
  intro k
  induction k with
  | zero =>
    intro j s vb c hk hj st hb eS kR
    have hin : j + 1 = n := by omega
    refine codeAny_builtin F.entry_max_loop ?_
    rw [Around.under_plainId F.plain_max_loop _]
    show wpAny _ A.in1 (seqItems? (.ref S) >>= _) _ _ s
    refine wpAny_bind (wpAny_seqItems eS rfl ?_)
    show wpAny _ A.in1 (tryCatch (pyNext (.ref I)) _ >>= _) _ _ s
    refine wpAny_bind (wpAny_tryCatch (W.done s _ _ (hin ▸ st) fun h2 tk kp => ?_))
    have eS2 := kp S _ nW eS
    show wpAny _ A.in1 (updateSeq S (fun _ => #[]) >>= _) _ _ _
    refine wpAny_bind (wpAny_updateSeq eS2 rfl (wpAny_bind (wpAny_letGo (wpAny_pure ?_))))
    exact kR vb _ tk (by rw [← hin]; exact hb) fun b o b1 b2 eo => (Heap.get?_update_other _ _ (Ne.symm b2)).trans (kp b o b1 eo)
  | succ k ih =>
    intro j s vb c hk hj st hb eS kR
    have lt : j + 1 < n := by omega
    refine codeAny_builtin F.entry_max_loop ?_
    rw [Around.under_plainId F.plain_max_loop _]
    show wpAny _ A.in1 (seqItems? (.ref S) >>= _) _ _ s
    refine wpAny_bind (wpAny_seqItems eS rfl ?_)
    show wpAny _ A.in1 (tryCatch (pyNext (.ref I)) _ >>= _) _ _ s
    refine wpAny_bind (wpAny_tryCatch (W.item (j + 1) s _ _ lt st fun v h2 tk hv st2 kp => ?_))
    have eS2 := kp S _ nW eS
    show wpAny _ A.in1 (tryCatch (holding [v, v] (richCompare .Gt v vb >>= _)) _ >>= _) _ _ _
    refine wpAny_bind (wpAny_tryCatch (wpAny_holding (wpAny_bind (hcmp (j + 1) (argBest bt j) v vb _ _ _ hv hb ?_))))
    refine wpAny_bind (wpAny_holding (wpAny_truthy_bool (wpAny_bind (wpAny_letGo (wpAny_pure ?_)))))
    cases hw : bt (j + 1) (argBest bt j) with
    | true =>
      simp only [if_true]
      refine wpAny_bind (wpAny_updateSeq eS2 rfl (wpAny_bind (wpAny_letGo ?_)))
      rw [nm]
      refine wpAny_pure ⟨plainId_quiet F.plain_max_loop _, ih (j + 1) _ v _ (by omega) lt (W.frame _ _ _ st2 fun b hbf o eo => ?_) (by simp only [argBest, hw, if_true]; exact hv) (Heap.get?_update_self _ eS2 rfl) fun v2 h3 tk3 hv3 kp3 => ?_⟩
      · exact (Heap.get?_update_other _ _ (fun z : S = b => nS (by rw [z]; exact hbf))).trans eo
      · exact kR v2 h3 tk3 hv3 fun b o b1 b2 eo => kp3 b o b1 b2 ((Heap.get?_update_other _ _ (Ne.symm b2)).trans (kp b o b1 eo))
    | false =>
      simp only [Bool.false_eq_true, if_false]
      refine wpAny_bind (wpAny_letGo ?_)
      rw [nm]
      exact wpAny_pure ⟨plainId_quiet F.plain_max_loop _, ih (j + 1) _ vb c (by omega) lt st2 (by simp only [argBest, hw, Bool.false_eq_true, if_false]; exact hb) eS2 fun v2 h3 tk3 hv3 kp3 => kR v2 h3 tk3 hv3 fun b o b1 b2 eo => kp3 b o b1 b2 (kp b o b1 eo)⟩
theorem max_fst (W : Walks prog w A.in1 I fp wr n P St) (bt : Nat → Nat → Bool) (hcmp : CmpOf prog w A.in1 .Gt P bt) (S : Addr) (nm1 : Str) (d : Value) (nS : S ∉ fp) {s : Shared} {c : Nat} (st : St 0 s.heap)
    (eS : s.heap.get? S = some { cls := .type "list", dict := none, data := .seq #[] c, slots := #[] })
    (kR : ∀ v h2 tk, (0 < n → P (argBest bt (n - 1)) v) → (n = 0 → v = d) → (∀ b o, b ∉ wr → b ≠ S → s.heap.get? b = some o → h2.get? b = some o) → R (.ok (.ret v)) { s with heap := h2, toks := tk }) :
    codeAny (model prog w) A (.builtin "max.loop" ⟨[.ref I, .none, .ref S], [(nm1, d)]⟩) R s := by
  have nW : S ∉ wr := fun z => nS (W.sub _ z)
  have nm : (toString "max" ++ toString ".loop" : String) = "max.loop" := by decide
  refine codeAny_builtin F.entry_max_loop ?_
  rw [Around.under_plainId F.plain_max_loop _]
  show wpAny _ A.in1 (seqItems? (.ref S) >>= _) _ _ s
  refine wpAny_bind (wpAny_seqItems eS rfl ?_)
  show wpAny _ A.in1 (tryCatch (pyNext (.ref I)) _ >>= _) _ _ s
  by_cases hn : 0 < n
  · refine wpAny_bind (wpAny_tryCatch (W.item 0 s _ _ hn st fun v h2 tk hv st2 kp => ?_))
    have eS2 := kp S _ nW eS
    show wpAny _ A.in1 (updateSeq S (fun _ => #[v, v]) >>= _) _ _ _
    refine wpAny_bind (wpAny_updateSeq eS2 rfl ?_)
    rw [nm]
    refine wpAny_pure ⟨plainId_quiet F.plain_max_loop _, max_lp W bt hcmp S _ nS _ 0 _ v _ rfl hn (W.frame _ _ _ st2 fun b hbf o eo => ?_) hv (Heap.get?_update_self _ eS2 rfl) fun v2 h3 tk3 hv3 kp3 => ?_⟩
    · exact (Heap.get?_update_other _ _ (fun z : S = b => nS (by rw [z]; exact hbf))).trans eo
    · exact kR v2 h3 tk3 (fun _ => hv3) (fun z => absurd hn (by omega)) fun b o b1 b2 eo => kp3 b o b1 b2 ((Heap.get?_update_other _ _ (Ne.symm b2)).trans (kp b o b1 eo))
  · have h0 : n = 0 := by omega
    refine wpAny_bind (wpAny_tryCatch (W.done s _ _ (h0 ▸ st) fun h2 tk kp => ?_))
    refine wpAny_bind (wpAny_rule ?_)
    exact wpAny_pure (kR d h2 tk (fun z => absurd z hn) (fun _ => rfl) fun b o b1 _ eo => kp b o b1 eo)
theorem max_args (a d : Value) : argsOk "max" ⟨[a], [(Str.ofString "default", d)]⟩ := by unfold argsOk; kernel_rfl
theorem max_call {s : Shared} {E : Value → Shared → Prop} {x d : Value} {Q : Value → Shared → Prop}
    (h : wpAny (model prog w) A.in1 (pyIter x) (fun it s2 => ∃ I fp wr n P St bt, it = .ref I ∧ Walks prog w A.in1 I fp wr n P St ∧ St 0 s2.heap ∧ (∀ b ∈ fp, b < s2.heap.objs.size) ∧ CmpOf prog w A.in1 .Gt P bt ∧
      ∀ v h2 tk, (0 < n → P (argBest bt (n - 1)) v) → (n = 0 → v = d) → (∀ b o, b ∉ wr → s2.heap.get? b = some o → h2.get? b = some o) → Q v { s2 with heap := h2, toks := tk }) E s) :
    wpAny (model prog w) A (call (.builtin "max") [x] [(Str.ofString "default", d)]) Q E s := by
  have nm : (toString "max" ++ toString ".loop" : String) = "max.loop" := by decide
  refine fn_treeK F.kind_max F.plain_max F.entry_max (max_args x d) ?_
  show wpAny _ A.in1 (Builtin.Builtins.bindParams "max" ["key", "default"] 0 ⟨[], [(Str.ofString "default", d)]⟩ >>= _) _ _ s
  refine wpAny_bind (wpAny_of_eq (max_bind d) ?_)
  refine wpAny_bind (wpAny_pure ?_)
  refine wpAny_bind (wpAny_mono h (fun it s2 h2 => ?_) fun _ _ e => e)
  obtain ⟨I, fp, wr, n, P, St, bt, rfl, W, st, hfp, hcmp, hQ⟩ := h2
  refine wpAny_bind (wpAny_newObj_type ?_)
  have nS : s2.heap.objs.size ∉ fp := fun hm => Nat.lt_irrefl _ (hfp _ hm)
  rw [nm]
  refine wpAny_pure ⟨plainId_quiet F.plain_max_loop _, max_fst W bt hcmp s2.heap.objs.size _ d nS (W.frame _ _ _ st fun b _ o e => Heap.get?_push_of_some _ e) (Heap.get?_push_size _ rfl) fun v h3 tk hv h0 hk => ?_⟩
  exact hQ v h3 tk hv h0 fun b o b1 e => hk b o b1 (Nat.ne_of_lt (Heap.lt_size e)) (Heap.get?_push_of_some _ e)

theorem min_lp (W : Walks prog w A.in1 I fp wr n P St) (bt : Nat → Nat → Bool) (hcmp : CmpOf prog w A.in1 .Lt P bt) (S : Addr) (kw : List (Str × Value)) (nS : S ∉ fp) :
    ∀ (k j : Nat) (s : Shared) (vb : Value) (c : Nat), n - (j + 1) = k → j + 1 ≤ n → St (j + 1) s.heap → P (argBest bt j) vb → s.heap.get? S = some { cls := .type "list", dict := none, data := .seq #[vb, vb] c, slots := #[] } →
    (∀ v h2 tk, P (argBest bt (n - 1)) v → (∀ b o, b ∉ wr → b ≠ S → s.heap.get? b = some o → h2.get? b = some o) → R (.ok (.ret v)) { s with heap := h2, toks := tk }) → codeAny (model prog w) A (.builtin "min.loop" ⟨[.ref I, .none, .ref S], kw⟩) R s := by
  have nW : S ∉ wr := fun z => nS (W.sub _ z)
  have nm : (toString "min" ++ toString ".loop" : String) = "min.loop" := by decide
  intro k
  induction k with
  | zero =>
    intro j s vb c hk hj st hb eS kR
    have hin : j + 1 = n := by omega
    refine codeAny_builtin F.entry_min_loop ?_
    rw [Around.under_plainId F.plain_min_loop _]
    show wpAny _ A.in1 (seqItems? (.ref S) >>= _) _ _ s
    refine wpAny_bind (wpAny_seqItems eS rfl ?_)
    show wpAny _ A.in1 (tryCatch (pyNext (.ref I)) _ >>= _) _ _ s
    refine wpAny_bind (wpAny_tryCatch (W.done s _ _ (hin ▸ st) fun h2 tk kp => ?_))
    have eS2 := kp S _ nW eS
    show wpAny _ A.in1 (updateSeq S (fun _ => #[]) >>= _) _ _ _
    refine wpAny_bind (wpAny_updateSeq eS2 rfl (wpAny_bind (wpAny_letGo (wpAny_pure ?_))))
    exact kR vb _ tk (by rw [← hin]; exact hb) fun b o b1 b2 eo => (Heap.get?_update_other _ _ (Ne.symm b2)).trans (kp b o b1 eo)
  | succ k ih =>
    intro j s vb c hk hj st hb eS kR
    have lt : j + 1 < n := by omega
    refine codeAny_builtin F.entry_min_loop ?_
    rw [Around.under_plainId F.plain_min_loop _]
    show wpAny _ A.in1 (seqItems? (.ref S) >>= _) _ _ s
    refine wpAny_bind (wpAny_seqItems eS rfl ?_)
    show wpAny _ A.in1 (tryCatch (pyNext (.ref I)) _ >>= _) _ _ s
    refine wpAny_bind (wpAny_tryCatch (W.item (j + 1) s _ _ lt st fun v h2 tk hv st2 kp => ?_))
    have eS2 := kp S _ nW eS
    show wpAny _ A.in1 (tryCatch (holding [v, v] (richCompare .Lt v vb >>= _)) _ >>= _) _ _ _
    refine wpAny_bind (wpAny_tryCatch (wpAny_holding (wpAny_bind (hcmp (j + 1) (argBest bt j) v vb _ _ _ hv hb ?_))))
    refine wpAny_bind (wpAny_holding (wpAny_truthy_bool (wpAny_bind (wpAny_letGo (wpAny_pure ?_)))))
    cases hw : bt (j + 1) (argBest bt j) with
    | true =>
      simp only [if_true]
      refine wpAny_bind (wpAny_updateSeq eS2 rfl (wpAny_bind (wpAny_letGo ?_)))
      rw [nm]
      refine wpAny_pure ⟨plainId_quiet F.plain_min_loop _, ih (j + 1) _ v _ (by omega) lt (W.frame _ _ _ st2 fun b hbf o eo => ?_) (by simp only [argBest, hw, if_true]; exact hv) (Heap.get?_update_self _ eS2 rfl) fun v2 h3 tk3 hv3 kp3 => ?_⟩
      · exact (Heap.get?_update_other _ _ (fun z : S = b => nS (by rw [z]; exact hbf))).trans eo
      · exact kR v2 h3 tk3 hv3 fun b o b1 b2 eo => kp3 b o b1 b2 ((Heap.get?_update_other _ _ (Ne.symm b2)).trans (kp b o b1 eo))
    | false =>
      simp only [Bool.false_eq_true, if_false]
      refine wpAny_bind (wpAny_letGo ?_)
      rw [nm]
      exact wpAny_pure ⟨plainId_quiet F.plain_min_loop _, ih (j + 1) _ vb c (by omega) lt st2 (by simp only [argBest, hw, Bool.false_eq_true, if_false]; exact hb) eS2 fun v2 h3 tk3 hv3 kp3 => kR v2 h3 tk3 hv3 fun b o b1 b2 eo => kp3 b o b1 b2 (kp b o b1 eo)⟩
theorem min_fst (W : Walks prog w A.in1 I fp wr n P St) (bt : Nat → Nat → Bool) (hcmp : CmpOf prog w A.in1 .Lt P bt) (S : Addr) (nm1 : Str) (d : Value) (nS : S ∉ fp) {s : Shared} {c : Nat} (st : St 0 s.heap)
    (eS : s.heap.get? S = some { cls := .type "list", dict := none, data := .seq #[] c, slots := #[] })
    (kR : ∀ v h2 tk, (0 < n → P (argBest bt (n - 1)) v) → (n = 0 → v = d) → (∀ b o, b ∉ wr → b ≠ S → s.heap.get? b = some o → h2.get? b = some o) → R (.ok (.ret v)) { s with heap := h2, toks := tk }) :
    codeAny (model prog w) A (.builtin "min.loop" ⟨[.ref I, .none, .ref S], [(nm1, d)]⟩) R s := by
  have nW : S ∉ wr := fun z => nS (W.sub _ z)
  have nm : (toString "min" ++ toString ".loop" : String) = "min.loop" := by decide
  refine codeAny_builtin F.entry_min_loop ?_
  rw [Around.under_plainId F.plain_min_loop _]
  show wpAny _ A.in1 (seqItems? (.ref S) >>= _) _ _ s
  refine wpAny_bind (wpAny_seqItems eS rfl ?_)
  show wpAny _ A.in1 (tryCatch (pyNext (.ref I)) _ >>= _) _ _ s
  by_cases hn : 0 < n
  · refine wpAny_bind (wpAny_tryCatch (W.item 0 s _ _ hn st fun v h2 tk hv st2 kp => ?_))
    have eS2 := kp S _ nW eS
    show wpAny _ A.in1 (updateSeq S (fun _ => #[v, v]) >>= _) _ _ _
    refine wpAny_bind (wpAny_updateSeq eS2 rfl ?_)
    rw [nm]
    refine wpAny_pure ⟨plainId_quiet F.plain_min_loop _, min_lp W bt hcmp S _ nS _ 0 _ v _ rfl hn (W.frame _ _ _ st2 fun b hbf o eo => ?_) hv (Heap.get?_update_self _ eS2 rfl) fun v2 h3 tk3 hv3 kp3 => ?_⟩
    · exact (Heap.get?_update_other _ _ (fun z : S = b => nS (by rw [z]; exact hbf))).trans eo
    · exact kR v2 h3 tk3 (fun _ => hv3) (fun z => absurd hn (by omega)) fun b o b1 b2 eo => kp3 b o b1 b2 ((Heap.get?_update_other _ _ (Ne.symm b2)).trans (kp b o b1 eo))
  · have h0 : n = 0 := by omega
    refine wpAny_bind (wpAny_tryCatch (W.done s _ _ (h0 ▸ st) fun h2 tk kp => ?_))
    refine wpAny_bind (wpAny_rule ?_)
    exact wpAny_pure (kR d h2 tk (fun z => absurd z hn) (fun _ => rfl) fun b o b1 _ eo => kp b o b1 eo)
theorem min_args (a d : Value) : argsOk "min" ⟨[a], [(Str.ofString "default", d)]⟩ := by unfold argsOk; kernel_rfl
theorem min_call {s : Shared} {E : Value → Shared → Prop} {x d : Value} {Q : Value → Shared → Prop}
    (h : wpAny (model prog w) A.in1 (pyIter x) (fun it s2 => ∃ I fp wr n P St bt, it = .ref I ∧ Walks prog w A.in1 I fp wr n P St ∧ St 0 s2.heap ∧ (∀ b ∈ fp, b < s2.heap.objs.size) ∧ CmpOf prog w A.in1 .Lt P bt ∧
      ∀ v h2 tk, (0 < n → P (argBest bt (n - 1)) v) → (n = 0 → v = d) → (∀ b o, b ∉ wr → s2.heap.get? b = some o → h2.get? b = some o) → Q v { s2 with heap := h2, toks := tk }) E s) :
    wpAny (model prog w) A (call (.builtin "min") [x] [(Str.ofString "default", d)]) Q E s := by
  have nm : (toString "min" ++ toString ".loop" : String) = "min.loop" := by decide
  refine fn_treeK F.kind_min F.plain_min F.entry_min (min_args x d) ?_
  show wpAny _ A.in1 (Builtin.Builtins.bindParams "min" ["key", "default"] 0 ⟨[], [(Str.ofString "default", d)]⟩ >>= _) _ _ s
  refine wpAny_bind (wpAny_of_eq (min_bind d) ?_)
  refine wpAny_bind (wpAny_pure ?_)
  refine wpAny_bind (wpAny_mono h (fun it s2 h2 => ?_) fun _ _ e => e)
  obtain ⟨I, fp, wr, n, P, St, bt, rfl, W, st, hfp, hcmp, hQ⟩ := h2
  refine wpAny_bind (wpAny_newObj_type ?_)
  have nS : s2.heap.objs.size ∉ fp := fun hm => Nat.lt_irrefl _ (hfp _ hm)
  rw [nm]
  refine wpAny_pure ⟨plainId_quiet F.plain_min_loop _, min_fst W bt hcmp s2.heap.objs.size _ d nS (W.frame _ _ _ st fun b _ o e => Heap.get?_push_of_some _ e) (Heap.get?_push_size _ rfl) fun v h3 tk hv h0 hk => ?_⟩
  exact hQ v h3 tk hv h0 fun b o b1 e => hk b o b1 (Nat.ne_of_lt (Heap.lt_size e)) (Heap.get?_push_of_some _ e)

theorem max_rawD {s : Shared} {E : Value → Shared → Prop} {l : Addr} {its : List Value} {ns : List Int} {d : Value} {Q : Value → Shared → Prop} (hh : A.handled = none) (hl : s.heap.IsList l its.toArray) (hi : IntsAre its ns)
    (h : ∀ h2 tk v, (∀ b o, s.heap.get? b = some o → h2.get? b = some o) → (ns = [] → v = d) → (ns ≠ [] → ∃ M t, v = .int M t ∧ M ∈ ns ∧ ∀ a, a ∈ ns → a ≤ M) → Q v { s with heap := h2, toks := tk }) : wpAny (model prog w) A (call (.builtin "max") [.ref l] [(Str.ofString "default", d)]) Q E s := by
  obtain ⟨xs, e⟩ := hi.allInts.items
  have hn : numsOf (intItems xs).toList = ns := by rw [← e]; exact hi.numsOf
  rw [nums_intItems] at hn
  subst hn
  rw [e] at hl
  refine max_call (iter_intList hl fun s2 e2 st hfp hlI => ?_)
  subst e2
  refine ⟨_, _, _, _, _, _, _, rfl, Walks.list (A := A.in1) hh _ l hlI (intItems xs), st, hfp, CmpOf.ints_gt (numAt xs) (fun _ _ => intItems_at), fun v h2 tk hv h0 hk => ?_⟩
  have hz : (intItems xs).size = xs.size := by simp [intItems]
  refine h h2 tk v (old_kept hk) (fun z => h0 ?_) fun z => ?_
  · have := congrArg List.length z
    simp at this
    rw [hz]
    simpa using this
  · have hsz : 0 < xs.size := by
      rcases Nat.eq_zero_or_pos xs.size with y | y
      · exact absurd (by simp [Array.size_eq_zero_iff.mp y]) z
      · exact y
    obtain ⟨t, rfl⟩ := intItems_at (by simpa [intItems] using hv (by rw [hz]; exact hsz))
    obtain ⟨h1, h3⟩ := argBest_gt (numAt xs) (xs.size - 1)
    refine ⟨_, t, rfl, ?_, fun a ha => ?_⟩
    · rw [numAt_eq]; exact PySem.getD_mem (by rw [List.length_map, Array.length_toList]; (try simp only [gt_iff_lt] at h1 ⊢); omega)
    · obtain ⟨j, hj, rfl⟩ := mem_getD ha
      rw [List.length_map, Array.length_toList] at hj
      rw [← numAt_eq]; exact h3 j (by omega)

theorem min_rawD {s : Shared} {E : Value → Shared → Prop} {l : Addr} {its : List Value} {ns : List Int} {d : Value} {Q : Value → Shared → Prop} (hh : A.handled = none) (hl : s.heap.IsList l its.toArray) (hi : IntsAre its ns)
    (h : ∀ h2 tk v, (∀ b o, s.heap.get? b = some o → h2.get? b = some o) → (ns = [] → v = d) → (ns ≠ [] → ∃ M t, v = .int M t ∧ M ∈ ns ∧ ∀ a, a ∈ ns → M ≤ a) → Q v { s with heap := h2, toks := tk }) : wpAny (model prog w) A (call (.builtin "min") [.ref l] [(Str.ofString "default", d)]) Q E s := by
  obtain ⟨xs, e⟩ := hi.allInts.items
  have hn : numsOf (intItems xs).toList = ns := by rw [← e]; exact hi.numsOf
  rw [nums_intItems] at hn
  subst hn
  rw [e] at hl
  refine min_call (iter_intList hl fun s2 e2 st hfp hlI => ?_)
  subst e2
  refine ⟨_, _, _, _, _, _, _, rfl, Walks.list (A := A.in1) hh _ l hlI (intItems xs), st, hfp, CmpOf.ints_lt (numAt xs) (fun _ _ => intItems_at), fun v h2 tk hv h0 hk => ?_⟩
  have hz : (intItems xs).size = xs.size := by simp [intItems]
  refine h h2 tk v (old_kept hk) (fun z => h0 ?_) fun z => ?_
  · have := congrArg List.length z
    simp at this
    rw [hz]
    simpa using this
  · have hsz : 0 < xs.size := by
      rcases Nat.eq_zero_or_pos xs.size with y | y
      · exact absurd (by simp [Array.size_eq_zero_iff.mp y]) z
      · exact y
    obtain ⟨t, rfl⟩ := intItems_at (by simpa [intItems] using hv (by rw [hz]; exact hsz))
    obtain ⟨h1, h3⟩ := argBest_lt (numAt xs) (xs.size - 1)
    refine ⟨_, t, rfl, ?_, fun a ha => ?_⟩
    · rw [numAt_eq]; exact PySem.getD_mem (by rw [List.length_map, Array.length_toList]; (try simp only [gt_iff_lt] at h1 ⊢); omega)
    · obtain ⟨j, hj, rfl⟩ := mem_getD ha
      rw [List.length_map, Array.length_toList] at hj
      rw [← numAt_eq]; exact h3 j (by omega)

end
/-- max, min with a default -/
def rMxD (K : Fg) (mn : Bool) : List V → List V → Hp → VK → Prop := fun xs zs H Q => ∃ F x z dx dz, xs = [x] ∧ zs = [z] ∧ Same F H ∧ Dp K F x dx ∧ Dp K F z dz ∧ fin (Dp K) F H (mxR mn dx dz) Q
section
variable {X : Cx}

theorem k_maxD (hc : X.calm = true) : CallRK X (.builtin "max") [Str.ofString "default"] (rMxD X.K false) := by
  intro pins s σ H xs zs us ws Q I r r2 h
  obtain ⟨F, x, z, dx, dz, rfl, rfl, sf, hx, hz, q⟩ := h
  cases r2 with
  | cons rz rr =>
    cases rr
    cases dx with
    | list zs =>
      obtain ⟨a, vs, rfl, qa, da⟩ := dp_lst hx
      cases e : intsOf zs with
      | none => simp only [mxR, e] at q; exact q.elim
      | some ns =>
        rw [ints_v da e] at qa
        obtain ⟨its, rv, hl, _⟩ := I.list (sf.seq qa)
        rw [Vals.ref1 r]
        refine max_rawD (I.ok.hd hc) hl.isList rv.ints fun h2 tk v hk h0 h1 => ?_
        cases ns with
        | nil =>
          simp only [mxR, e] at q
          rw [h0 rfl]
          exact ⟨z, H, I.kept hk, rz, fin_here sf q hz⟩
        | cons n ns =>
          simp only [mxR, e] at q
          obtain ⟨M, t, rfl, hM, hy⟩ := h1 (by simp)
          obtain ⟨g1, g2, g3⟩ := lstMax_spec ns n
          have eM : M = lstMax n ns := by
            have a1 := hy (lstMax n ns) (by rcases g1 with g1 | g1 <;> simp [g1])
            rcases List.mem_cons.mp hM with rfl | hM
            · omega
            · have := g3 M hM
              omega
          subst eM
          exact ⟨.int _, H, I.kept hk, ⟨_, rfl⟩, fin_here sf q (.int _)⟩
    | _ => exact q.elim

theorem k_minD (hc : X.calm = true) : CallRK X (.builtin "min") [Str.ofString "default"] (rMxD X.K true) := by
  intro pins s σ H xs zs us ws Q I r r2 h
  obtain ⟨F, x, z, dx, dz, rfl, rfl, sf, hx, hz, q⟩ := h
  cases r2 with
  | cons rz rr =>
    cases rr
    cases dx with
    | list zs =>
      obtain ⟨a, vs, rfl, qa, da⟩ := dp_lst hx
      cases e : intsOf zs with
      | none => simp only [mxR, e] at q; exact q.elim
      | some ns =>
        rw [ints_v da e] at qa
        obtain ⟨its, rv, hl, _⟩ := I.list (sf.seq qa)
        rw [Vals.ref1 r]
        refine min_rawD (I.ok.hd hc) hl.isList rv.ints fun h2 tk v hk h0 h1 => ?_
        cases ns with
        | nil =>
          simp only [mxR, e] at q
          rw [h0 rfl]
          exact ⟨z, H, I.kept hk, rz, fin_here sf q hz⟩
        | cons n ns =>
          simp only [mxR, e] at q
          obtain ⟨M, t, rfl, hM, hy⟩ := h1 (by simp)
          obtain ⟨g1, g2, g3⟩ := lstMin_spec ns n
          have eM : M = lstMin n ns := by
            have a1 := hy (lstMin n ns) (by rcases g1 with g1 | g1 <;> simp [g1])
            rcases List.mem_cons.mp hM with rfl | hM
            · omega
            · have := g3 M hM
              omega
          subst eM
          exact ⟨.int _, H, I.kept hk, ⟨_, rfl⟩, fin_here sf q (.int _)⟩
    | _ => exact q.elim

end
theorem cl_mxR (mn : Bool) (a b : PyData) : Cl (mxR mn a b) := by
  unfold mxR
  split
  · split <;> first | exact cl_ok | exact cl_bad
  · exact cl_bad
section
variable {P : Par} {g : Cfg} {X : Cx} {W : Wsh} {Φ : Fns} {l r : Expr} {pos : Pos} {f1 f2 : Env → Rs D}
theorem s_mxD (c : Ct P g X W Φ) {mn : Bool} {x : Str} {p kp : Pos} (hh : g.hot = false) (hx : glB X.env.scope x = true) (ex : x = (if mn = true then "min" else "max")) (hs : nst l = true) (h1 : PE X l (rd P W f1)) (h2 : PE X r (rd P W f2)) :
    PE X (.Call (.Name x p) [l] [⟨some "default", r, kp⟩] pos) (rd P W fun env => (f1 env).bind fun x => (f2 env).bind fun y => mxR mn x y) := by
  obtain ⟨gx, dx, nx⟩ := gl_of hx
  have go : ∀ {id : String} (hb : bootBuiltins x = some (.builtin id)) (hm : X.mg x = none) (k : CallRK X (.builtin id) [Str.ofString "default"] (rMxD X.K mn)), PE X (.Call (.Name x p) [l] [⟨some "default", r, kp⟩] pos) (rd P W fun env => (f1 env).bind fun x => (f2 env).bind fun y => mxR mn x y) := fun {id} hb hm k =>
    (pe_callBK k gx hm hb (pa_cons h1 pa_nil (star_of hs)) (pk_cons h2 pk_nil) nx dx (by rw [star_of hs]; rfl) (by rw [star_of hs]; rfl)).imp fun σ H Q ⟨F, env, st, q⟩ => ⟨F, env, st, post_seq q fun d F1 H1 v e1 x1 rx q1 => ⟨F1, env, st.mono x1, post_seq q1 fun d2 F2 H2 v2 e2 x2 ry q2 =>
      ⟨F2, v, v2, d, d2, rfl, rfl, x2.fh, by rw [c.k]; exact dp_mono x2.ff rx, by rw [c.k]; exact ry, by rw [c.k]; exact post_fin (cl_mxR mn d d2) q2⟩⟩⟩
  cases mn with
  | false =>
    subst ex
    exact go boot_max (c.bl _ (by decide)) (k_maxD (c.calm hh))
  | true =>
    subst ex
    exact go boot_min (c.bl _ (by decide)) (k_minD (c.calm hh))
theorem same_b {F : Hp} {x : V} {v : Value} {d : PyData} (b : Bool) (h : Dp P.K F x d) (r : RelV x v) : plainIs v (.bool b) = true ∧ (v == Value.bool b) = isBd b d := by
  cases h with
  | non => obtain rfl : v = Value.none := r; exact ⟨rfl, rfl⟩
  | bl c =>
    obtain rfl : v = Value.bool c := r
    exact ⟨rfl, by cases c <;> cases b <;> decide⟩
  | int i => obtain ⟨t, rfl⟩ := r; exact ⟨rfl, rfl⟩
  | str i => obtain ⟨t, rfl⟩ := r; exact ⟨rfl, rfl⟩
  | lst _ _ =>
    obtain rfl : v = Value.ref _ := r
    exact ⟨rfl, rfl⟩
  | tup _ _ =>
    obtain rfl : v = Value.ref _ := r
    exact ⟨rfl, rfl⟩
theorem pc_isB {b : Bool} {j : Nat} {p2 : Pos} (ha : PE X l (rd P W f1)) : PC X .Is l (.Constant (.bool b) j p2) (rd P W fun env => (f1 env).bind fun x => .ok (.bool (isBd b x))) := by
  refine ⟨fun pins s σ H Q I ⟨F, env, st, q⟩ => ?_⟩
  refine thn (ha.run pins s σ H (fun x H1 => ∃ F1 d, Same F1 H1 ∧ Dp P.K F1 x d ∧ Q (.bl (isBd b d)) H1) I ⟨F, env, st, post_seq q fun d F1 H1 x e1 x1 rx q1 => ⟨F1, d, x1.fh, rx, q1 F1 H1 _ (Ext.refl x1.fh) (.bl _)⟩⟩) fun v s1 ⟨x, H1, I1, r1, F1, d, sf, hd, q1⟩ => ?_
  obtain ⟨e1, e2⟩ := same_b b hd r1
  exact Constant_bool (wpAny_is_plain e1 ⟨.bl _, H1, I1, by rw [e2]; rfl, q1⟩)
theorem pc_notB {b : Bool} {j : Nat} {p2 : Pos} (ha : PE X l (rd P W f1)) : PC X .IsNot l (.Constant (.bool b) j p2) (rd P W fun env => (f1 env).bind fun x => .ok (.bool (!isBd b x))) := by
  refine ⟨fun pins s σ H Q I ⟨F, env, st, q⟩ => ?_⟩
  refine thn (ha.run pins s σ H (fun x H1 => ∃ F1 d, Same F1 H1 ∧ Dp P.K F1 x d ∧ Q (.bl (!isBd b d)) H1) I ⟨F, env, st, post_seq q fun d F1 H1 x e1 x1 rx q1 => ⟨F1, d, x1.fh, rx, q1 F1 H1 _ (Ext.refl x1.fh) (.bl _)⟩⟩) fun v s1 ⟨x, H1, I1, r1, F1, d, sf, hd, q1⟩ => ?_
  obtain ⟨e1, e2⟩ := same_b b hd r1
  exact Constant_bool (wpAny_isNot_plain e1 ⟨.bl _, H1, I1, by rw [e2]; rfl, q1⟩)
theorem s_isB {b : Bool} {j : Nat} {p2 : Pos} (ha : PE X l (rd P W f1)) : PE X (.Compare l [.Is] [.Constant (.bool b) j p2] pos) (rd P W fun env => (f1 env).bind fun x => .ok (.bool (false ^^ isBd b x))) ∧
    PT X (.Compare l [.Is] [.Constant (.bool b) j p2] pos) (rdB P W fun env => (f1 env).bind fun x => .ok (.bool (false ^^ isBd b x))) := by
  simp only [Bool.false_xor]
  exact ⟨pe_cmp (pc_isB ha) rfl, T_of (pt_cmp (pc_isB ha) rfl) fun σ H Q h => h⟩
theorem s_notB {b : Bool} {j : Nat} {p2 : Pos} (ha : PE X l (rd P W f1)) : PE X (.Compare l [.IsNot] [.Constant (.bool b) j p2] pos) (rd P W fun env => (f1 env).bind fun x => .ok (.bool (true ^^ isBd b x))) ∧
    PT X (.Compare l [.IsNot] [.Constant (.bool b) j p2] pos) (rdB P W fun env => (f1 env).bind fun x => .ok (.bool (true ^^ isBd b x))) := by
  simp only [Bool.true_xor]
  exact ⟨pe_cmp (pc_notB ha) rfl, T_of (pt_cmp (pc_notB ha) rfl) fun σ H Q h => h⟩
end
end Q

set_option Elab.async false
set_option linter.all false
set_option maxRecDepth 100000
set_option autoImplicit false
set_option maxHeartbeats 8000000
namespace Q
open PySem PySem.Spec PyProof.Rows L2
/-! ### enumerate(xs, start=k) -/
/-- the items in pairs with k, k + 1, .. -/
def ItS (K : Fg) (a : Addr) (k : Int) : L2.It :=
  ⟨fun i H => ∃ (xs : List V) (x : V), SqL K H a xs ∧ xs[i]? = some x, fun i H v H2 => ∃ T x, v = .ref T ∧ H T = none ∧ H2 = upd H T (.tup [.int (k + (i : Int)), x]) ∧ ∀ xs, SqL K H a xs → xs[i]? = some x, fun i H => ∃ xs : List V, SqL K H a xs ∧ xs.length = i⟩
theorem two_mem {b e it : Addr} (hb : b ∈ [e, it]) : b = e ∨ b = it := by simpa using hb
theorem turn_enS {P : Program} {w : World} {K : Fg} {elts : List Expr} {kk : Nat} {tpos : Pos} (k : Int) (a e it : Addr) :
    Turn P w K (.Tuple elts kk tpos) (ItS K a k) [e, it] e (fun i h => (∃ old, IsEnum h e it (k + (i : Int)) old) ∧ h.IsListIter it a i ∧ e ≠ it) where
  mem := List.mem_cons_self
  obj := fun i h ⟨⟨old, hE⟩, ⟨o, h1, h2, h3⟩, _⟩ b hb => by
    rcases two_mem hb with rfl | rfl
    · exact ⟨_, hE, fun v q => nomatch q⟩
    · exact ⟨o, h1, fun v q => by rw [h3] at q; cases q⟩
  keep := fun i h h2 ⟨⟨old, hE⟩, hI, hN⟩ kp => ⟨⟨old, kp e (by simp) _ hE⟩, hI.at fun o q => kp it (by simp) o q, hN⟩
  item := by
    intro X eP ew eK hc i pins s σ H E I hf st hg
    subst eP ew eK
    obtain ⟨⟨old, hE⟩, hI, hN⟩ := st
    obtain ⟨xs, x, qs, hx⟩ := hg
    obtain ⟨its, rv, p, hz⟩ := I.list qs
    obtain ⟨u, hu, ru⟩ := rv.get hx
    have lE : e < s.heap.objs.size := Heap.lt_size hE
    have lI : it < s.heap.objs.size := by obtain ⟨_, q, _⟩ := hI; exact Heap.lt_size q
    have hL := p.isList
    have nL : e ≠ a := fun z => by
      subst z
      obtain ⟨ol, q1, q2, _⟩ := id hL
      rw [hE] at q1
      cases q1
      exact absurd (Value.type.inj q2) (by decide)
    have nI : a ≠ it := fun z => by
      subst z
      obtain ⟨ol, q1, q2, _⟩ := id hL
      obtain ⟨oi, r1, r2, _⟩ := id hI
      rw [q1] at r1
      cases r1
      rw [q2] at r2
      exact absurd (Value.type.inj r2) (by decide)
    have hlt : i < its.toArray.size := by
      rw [List.size_toArray, ← rv.length]
      exact (List.getElem?_eq_some_iff.mp hx).1
    refine wpAny_pyNext_enum_itemC (Draws.list (A := X.A.in1) (I.ok.hd hc) it a nI its.toArray) hE ⟨hI, hL⟩ hlt hN (by simp [hN, nL]) fun y h1 tk hy ho hI2 hT hsz hk => ?_
    have ey : y = u := by
      rw [show its.toArray[i]? = some u from by simpa using hu] at hy
      cases hy
      rfl
    subst ey
    refine ⟨_, rfl, wpAny_letOwnedTupleGo_enum (s := { s with heap := h1, toks := tk + 1 }) ho fun h2 hE2 sb => ?_⟩
    have hT2 : h2.get? s.heap.objs.size = some { cls := .type "tuple", data := .seq #[.int (k + (i : Int)) tk, y] } := (sb.2 _ (Nat.ne_of_gt lE)).trans hT
    have new : ObjOk X.prog X.w (upd H s.heap.objs.size (.tup [.int (k + (i : Int)), x])) h2 s.heap.objs.size (.tup [.int (k + (i : Int)), x]) :=
      ⟨by show 2 ≤ sizeLine; decide, [.int (k + (i : Int)) tk, y], .cons ⟨_, rfl⟩ (.cons ru .nil), ⟨_, hT2, rfl, _, rfl⟩⟩
    have I1 : Inv X pins σ (upd H s.heap.objs.size (.tup [.int (k + (i : Int)), x])) { s with heap := h2, toks := tk + 1 } :=
      I.turnedNew (ch := [e, it]) (fun b ob hb q => by
        have n1 : b ≠ e := fun z => hb (by simp [z])
        have n2 : b ≠ it := fun z => hb (by simp [z])
        exact (sb.2 b n1).trans (hk b ob n1 n2 q)) hf (Nat.le_refl _) new
    refine ⟨.ref s.heap.objs.size, _, I1, rfl, ⟨_, x, rfl, I.hok.fresh (Nat.le_refl _), rfl, fun ys hy => by rw [I.list_inj hy qs]; exact hx⟩, ⟨⟨y, ?_⟩, hI2.1.at fun o q => (sb.2 it (Ne.symm hN)).trans q, hN⟩, fun b hb => ?_⟩
    · rw [show k + ((i + 1 : Nat) : Int) = k + (i : Int) + 1 by omega]
      exact hE2
    · have lt : b < s.heap.objs.size := by rcases two_mem hb with rfl | rfl <;> assumption
      rw [upd_ne (Nat.ne_of_lt lt)]
      exact (hf b hb).1
  done := by
    intro X eP ew eK hc i pins s σ H E I hf st hg
    subst eP ew eK
    obtain ⟨⟨old, hE⟩, hI, hN⟩ := st
    obtain ⟨xs, qs, hx⟩ := hg
    obtain ⟨its, rv, p, hz⟩ := I.list qs
    obtain ⟨f0, f1, f2, f3, f4, f5⟩ := hf it (by simp)
    have hl := rv.length
    have hL := p.isList
    have nI : a ≠ it := fun z => by
      subst z
      obtain ⟨ol, q1, q2, _⟩ := id hL
      obtain ⟨oi, r1, r2, _⟩ := id hI
      rw [q1] at r1
      cases r1
      rw [q2] at r2
      exact absurd (Value.type.inj r2) (by decide)
    have en : its.toArray.size = i := by rw [List.size_toArray, ← hl]; exact hx
    exact wpAny_pyNext_enum_endD (Draws.list (A := X.A.in1) (I.ok.hd hc) it a nI its.toArray) hE ⟨by rw [en]; exact hI, hL⟩ fun h1 eb => ⟨rfl, I.turned (t' := s.toks) (fun b o hb q => eb b o hb q) f0 f1 f3 f4 f5⟩
  self := fun A i s Q E ⟨⟨_, hE⟩, _⟩ h => wpAny_pyIter_enum hE h
theorem cw_tyK {M : Model} {A : Around} {E : Value → Shared → Prop} {s : Shared} {pos : Pos} {T : String} {x : Sem Value} {rest : List (Bool × Sem Value)} {kws : List (Option Str × Sem Value)} {Q : Value → Shared → Prop} (h1 : rest.any (·.1) = false) (h2 : kws.any (·.1.isNone) = false) (h3 : kws.all (·.1.isSome) = true)
    (h : wpAny M A (spliced ((false, x) :: rest)) (fun vs s1 => wpAny M A (evalAll (kws.map (·.2))) (fun zs s2 => wpAny M A (call (.type T) vs ((kws.filterMap (·.1)).zip zs)) Q E s2) E s1) E s) : wpAny M A (callWith pos (.type T) [] ((false, x) :: rest) kws) Q E s := by
  have h := evalArgs_kwB (f := .type T) (Q := fun a s2 => wpAny M A (call (.type T) a.pos a.kw) Q E s2) h3 h
  have hp : ((false, x) :: rest).any (·.1) = false := by show (false || rest.any (·.1)) = false; rw [h1]; rfl
  unfold callWith
  refine wpAny_bind (wpAny_holding (wpAny_mono h (fun a s1 q => wpAny_bind (wpAny_standAt ?_)) fun _ _ z => z))
  simp only [hp, h2, Bool.or_false]
  exact wpAny_bind (wpAny_pure (wpAny_bind (wpAny_mono q (fun r s2 hr => wpAny_bind (wpAny_holding (wpAny_point (wpAny_pure hr)))) fun _ _ z => z)))
def iEnS (K : Fg) (ta tb : TE) : TI := fun σ H R => ta σ H fun v H1 => tb σ H1 fun z H2 => ∃ a xs k, v = .ref a ∧ z = .int k ∧ SqL K H2 a xs ∧ -(2 ^ 62) ≤ k ∧ k < 2 ^ 62 ∧ R (ItS K a k) H2
theorem pi_enS {X : Cx} {e e2 : Expr} {ta tb : TE} {p pos tpos kp : Pos} {elts : List Expr} {kk : Nat} {x : Str} (hg : Gl X x) (ex : x = "enumerate") (hm : X.mg x = none) (ha : PE X e ta) (hb : PE X e2 tb) (hs : starEach [e] X.env = [(false, eval e X.env)]) :
    PI X (.Tuple elts kk tpos) (.Call (.Name x p) [e] [⟨some "start", e2, kp⟩] pos) (iEnS X.K ta tb) := by
  subst ex
  refine ⟨fun pins s σ H R I h => ?_⟩
  refine wpAny_Call_Name_kw (ld_blt I hg hm boot_enumerate ?_)
  rw [hs]
  refine cw_tyK (x := eval e X.env) (rest := []) rfl rfl rfl (Calls.spliced_cons (thn (ha.run pins s σ H _ I h) fun u s1 ⟨v, H1, I1, r1, q1⟩ => Calls.spliced_nil ?_))
  refine kws_cons (thn (hb.run pins s1 σ H1 _ I1 q1) fun u2 s2 ⟨z, H2, I2, r2, q2⟩ => kws_nil ?_)
  obtain ⟨a, xs, k, ev, ez, hq, k0, k1, q⟩ := q2
  subst ev ez
  obtain rfl : u = Value.ref a := r1
  obtain ⟨t, rfl⟩ := r2
  obtain ⟨its, rv, p', hz⟩ := I2.list hq
  refine enum_begins_start (begins_list a its.toArray) p'.isList (by omega) (by omega) fun h1 he hit hsz hk => wpAny_pyIter_enum he ?_
  have I3 : Inv X pins σ H2 { s2 with heap := h1 } := I2.kept (t' := s2.toks) hk
  refine ⟨s2.heap.objs.size + 1, [s2.heap.objs.size + 1, s2.heap.objs.size], _, _, H2, rfl, I3, turn_enS k a (s2.heap.objs.size + 1) s2.heap.objs.size, ⟨⟨.none, by rw [show k + ((0 : Nat) : Int) = k by omega]; exact he⟩, ⟨_, hit, rfl, rfl⟩, Nat.succ_ne_self _⟩, fun b hb => ?_, q⟩
  have hle : s2.heap.objs.size ≤ b := by rcases two_mem hb with rfl | rfl <;> omega
  exact I2.fpOk hle (I2.hok.fresh hle)
theorem enS_get : ∀ {k : Int} {ds : List PyData} {j : Nat} {d : PyData}, (enumD k ds)[j]? = some d → ∃ y, ds[j]? = some y ∧ d = .tuple [.int (k + (j : Int)), y]
  | k, [], j, d, h => by simp [enumD] at h
  | k, x :: r, 0, d, h => by
    simp [enumD] at h
    exact ⟨x, rfl, by rw [← h]; simp⟩
  | k, x :: r, j + 1, d, h => by
    simp only [enumD, List.getElem?_cons_succ] at h
    obtain ⟨y, h1, h2⟩ := enS_get h
    exact ⟨y, by simpa using h1, by rw [h2, show k + 1 + (j : Int) = k + ((j + 1 : Nat) : Int) by omega]⟩
theorem yl_enS {K : Fg} {F1 : Hp} {a : Addr} {k : Int} {vs : List V} {ds : List PyData} (q : SqL K F1 a vs) (da : DpAll K F1 vs ds) : Yl K F1 (ItS K a k) (enumD k ds) where
  stop := fun F2 H h1 h2 => ⟨vs, (h1.trans h2).seq q, by rw [enumD_len, dps_len da]⟩
  step := fun j d F2 H e h1 h2 => by
    obtain ⟨e0, he, rfl⟩ := enS_get e
    obtain ⟨x, h3, h4, h5⟩ := itemL_of q da h1 h2 he
    refine ⟨⟨vs, x, h3, h4⟩, fun y H2 ⟨T, x2, ey, hT, eH, hy⟩ => ?_⟩
    subst ey eH
    have := hy vs h3
    rw [h4] at this
    cases this
    have ex := Ext.new (o := HO.tup [.int (k + (j : Int)), x]) h2 hT
    exact ⟨_, ex, .tup (.inl (.inl upd_same)) (.cons (.int _) (.cons (dp_mono ex.ff h5) .nil))⟩
section
variable {P : Par} {g : Cfg} {X : Cx} {W : Wsh} {Φ : Fns} {l r : Expr} {es : List Expr} {pos : Pos} {f1 f2 : Env → Rs D}
theorem i_enS (c : Ct P g X W Φ) {x : Str} {p tp kp : Pos} {kk : Nat} (hx : glB X.env.scope x = true) (ex : x = "enumerate") (hs : nst l = true) (h : PE X l (rd P W f1)) (h2 : PE X r (rd P W f2)) :
    PI X (.Tuple es kk tp) (.Call (.Name x p) [l] [⟨some "start", r, kp⟩] pos) (rdI P W fun env => (f1 env).bind fun x => (f2 env).bind fun y => (lstR x).bind fun xs => (numR y).bind fun n => .ok (enumD n xs)) := by
  obtain ⟨gx, dx, nx⟩ := gl_of hx
  refine (pi_enS gx ex (c.bl _ (by subst ex; decide)) h h2 (star_of hs)).imp fun σ H R ⟨F, env, st, q⟩ => ⟨F, env, st, postI_seq q fun d F1 H1 v e1 x1 rx q1 => ⟨F1, env, st.mono x1, postI_seq q1 fun d2 F2 H2 v2 e2 x2 ry q2 => ?_⟩⟩
  cases d with
  | list ds =>
    cases d2 with
    | int k =>
      obtain ⟨a, vs, rfl, qa, da⟩ := dp_lst rx
      by_cases hk : -(2 ^ 62) ≤ k ∧ k < 2 ^ 62
      · have hn : numR (.int k) = .ok k := if_pos hk
        have q2 : postI P.K W σ F2 H2 ((numR (.int k)).bind fun n => .ok (enumD n ds)) R := q2
        rw [hn] at q2
        rw [dp_int ry, c.k]
        exact ⟨a, vs, k, rfl, rfl, x2.fh.seq (x2.ff.seq qa), hk.1, hk.2, q2 F2 H2 _ (Ext.refl x2.fh) (yl_enS (x2.ff.seq qa) (dps_mono x2.ff da))⟩
      · have hn : numR (.int k) = .bad := if_neg hk
        have q2 : postI P.K W σ F2 H2 ((numR (.int k)).bind fun n => .ok (enumD n ds)) R := q2
        rw [hn] at q2
        exact q2.elim
    | _ => exact q2.elim
  | _ => exact q2.elim
end
section
variable {P : Par} {g : Cfg} {X : Cx} {W : Wsh} {Φ : Fns} {l : Expr} {pos : Pos} {f1 : Env → Rs D}
theorem dps_emp {K : Fg} {F : Hp} {vs : List V} {ds : List D} (h : DpAll K F vs ds) : vs.isEmpty = ds.isEmpty := by cases h <;> rfl
theorem s_ntL (c : Ct P g X W Φ) (ha : PE X l (rd P W f1)) : PE X (.UnaryOp .Not l pos) (rd P W fun env => (f1 env).bind truN) := by
  refine (pe_notT ha).imp fun σ H Q ⟨F, env, st, q⟩ => ⟨F, env, st, post_seq q fun dx F1 H1 x e1 x1 rx q1 => ?_⟩
  cases dx with
  | list ds =>
    obtain ⟨a, vs, rfl, qa, da⟩ := dp_lst rx
    refine ⟨!vs.isEmpty, .inl ⟨vs, by rw [c.k]; exact x1.fh.seq qa, rfl⟩, ?_⟩
    rw [Bool.not_not, dps_emp da]
    exact q1 F1 H1 _ (Ext.refl x1.fh) (.bl _)
  | tuple ds =>
    obtain ⟨a, vs, rfl, qa, da⟩ := dp_tup rx
    refine ⟨!vs.isEmpty, .inr (.inl ⟨vs, by rw [c.k]; exact same_seqT x1.fh qa, rfl⟩), ?_⟩
    rw [Bool.not_not, dps_emp da]
    exact q1 F1 H1 _ (Ext.refl x1.fh) (.bl _)
  | bool b =>
    rw [dp_bl rx]
    exact ⟨b, rfl, q1 F1 H1 _ (Ext.refl x1.fh) (.bl _)⟩
  | _ => exact q1.elim
theorem t_ntL (c : Ct P g X W Φ) (ha : PE X l (rd P W f1)) (he : ∀ whole, isTrue l X.env whole = (do let v ← whole; standAt l.pos; holding [v] (truthy v))) : PT X (.UnaryOp .Not l pos) (rdB P W fun env => (f1 env).bind truN) := by
  refine (pt_not (pt_truth ha he)).imp fun σ H Q ⟨F, env, st, q⟩ => ?_
  refine ⟨F, env, st, ?_⟩
  cases e : f1 env with
  | ok d =>
    simp only [e, Rs.bind] at q
    cases d with
    | list ds =>
      refine fun F' H' v x r => ?_
      obtain ⟨a, vs, rfl, qa, da⟩ := dp_lst r
      refine ⟨!vs.isEmpty, .inl ⟨vs, by rw [c.k]; exact x.fh.seq qa, rfl⟩, ?_⟩
      show Q (!!vs.isEmpty) H'
      rw [Bool.not_not, dps_emp da]
      exact q F' H' _ x rfl
    | tuple ds =>
      refine fun F' H' v x r => ?_
      obtain ⟨a, vs, rfl, qa, da⟩ := dp_tup r
      refine ⟨!vs.isEmpty, .inr (.inl ⟨vs, by rw [c.k]; exact same_seqT x.fh qa, rfl⟩), ?_⟩
      show Q (!!vs.isEmpty) H'
      rw [Bool.not_not, dps_emp da]
      exact q F' H' _ x rfl
    | bool b => exact fun F' H' v x r => by rw [dp_bl r]; exact ⟨b, rfl, q F' H' _ x rfl⟩
    | _ => exact q.elim
  | exc j => simp only [e, Rs.bind] at q; exact q
  | bad => simp only [e, Rs.bind] at q; exact q.elim
end
end Q

set_option Elab.async false
set_option linter.all false
set_option maxRecDepth 100000
set_option autoImplicit false
set_option maxHeartbeats 8000000
namespace Q
open PySem PySem.Spec PyProof.Rows L2
variable {P : Par} {g : Cfg} {Φ : Fns}
theorem and2 {a b : Bool} (h : (a && b) = true) : a = true ∧ b = true := by rwa [Bool.and_eq_true] at h
theorem dec1 {p : Prop} [Decidable p] (h : decide p = true) : p := of_decide_eq_true h
theorem not1 {a : Bool} (h : (!a) = true) : a = false := by simpa using h

mutual
theorem snd : ∀ t : Ex, Snd P g Φ t
  | .var i => .val fun c e h => by
    cases e with
    | Name x p => exact ⟨s_var c h, fun _ => rfl⟩
    | _ => exact no_of h
  | .ntL i => by
    have key : ∀ {X : Cx} {W : Wsh} (c : Ct P g X W Φ) (e : Expr), chk g (.ntL i) X.env.scope e = true → ∃ x q p, e = .UnaryOp .Not (.Name x q) p ∧ chkV g X.env.scope i x = true := fun {X W} c e h => by
      unfold chk at h
      split at h
      · exact ⟨_, _, _, rfl, h⟩
      · exact no_of h
    exact ⟨fun c e h => by
      obtain ⟨x, q, p, rfl, h2⟩ := key c e h
      exact s_ntL c (s_var c h2), fun _ {X W} c e h => by
      obtain ⟨x, q, p, rfl, h2⟩ := key c e h
      exact t_ntL c (s_var c h2) fun _ => rfl⟩
  | .cI i => .val fun c e h => by
    cases e with
    | Constant k j p =>
      cases k with
      | int n =>
        have q : i = n := dec1 h
        subst q
        exact ⟨s_const pe_int fun F => .int _, fun _ => rfl⟩
      | _ => exact no_of h
    | _ => exact no_of h
  | .cS i => .val fun c e h => by
    cases e with
    | Constant k j p =>
      cases k with
      | str n =>
        have q : i = n := dec1 h
        subst q
        exact ⟨s_const pe_str fun F => .str _, fun _ => rfl⟩
      | _ => exact no_of h
    | _ => exact no_of h
  | .cB i => .val fun c e h => by
    cases e with
    | Constant k j p =>
      cases k with
      | bool n =>
        have q : i = n := dec1 h
        subst q
        exact ⟨s_const pe_bl fun F => .bl _, fun _ => rfl⟩
      | _ => exact no_of h
    | _ => exact no_of h
  | .cN => .val fun c e h => by
    cases e with
    | Constant k j p =>
      cases k with
      | none => exact ⟨s_const pe_non fun F => .non, fun _ => rfl⟩
      | _ => exact no_of h
    | _ => exact no_of h
  | .bin o a b => .val fun c e h => by
    cases e with
    | BinOp l op r p =>
      have h : (decide (op = opOf o) && chk g a _ l && chk g b _ r) = true := h
      obtain ⟨h1, h3⟩ := and2 h
      obtain ⟨h1, h2⟩ := and2 h1
      have q := dec1 h1
      subst q
      exact ⟨s_bin c ((snd a).v c l h2) ((snd b).v c r h3), fun _ => rfl⟩
    | _ => exact no_of h
  | .neg a => .val fun c e h => by
    cases e with
    | UnaryOp op l p =>
      cases op with
      | USub => exact ⟨s_neg c ((snd a).v c l h), fun _ => rfl⟩
      | _ => exact no_of h
    | _ => exact no_of h
  | .cmp o a b => by
    have key : ∀ {X : Cx} {W : Wsh} (c : Ct P g X W Φ) (e : Expr), chk g (.cmp o a b) X.env.scope e = true → ∃ l r p, e = .Compare l [copOf o] [r] p ∧ chk g a X.env.scope l = true ∧ chk g b X.env.scope r = true ∧ behindInMarks (copOf o) r = false := fun {X W} c e h => by
      cases e with
      | Compare l ops rs p =>
        rcases ops with _ | ⟨op, _ | ⟨_, _⟩⟩
        · exact no_of h
        · rcases rs with _ | ⟨r, _ | ⟨_, _⟩⟩
          · exact no_of h
          · have h : (decide (op = copOf o) && chk g a _ l && chk g b _ r && !(behindInMarks op r)) = true := h
            obtain ⟨h1, h4⟩ := and2 h
            obtain ⟨h1, h3⟩ := and2 h1
            obtain ⟨h1, h2⟩ := and2 h1
            have q := dec1 h1
            subst q
            exact ⟨l, r, p, rfl, h2, h3, not1 h4⟩
          · exact no_of h
        · exact no_of h
      | _ => exact no_of h
    exact ⟨fun c e h => by
      obtain ⟨l, r, p, rfl, h2, h3, h4⟩ := key c e h
      exact s_cmp c ((snd a).v c l h2) ((snd b).v c r h3) h4, fun _ {X W} c e h => by
      obtain ⟨l, r, p, rfl, h2, h3, h4⟩ := key c e h
      exact t_cmp c ((snd a).v c l h2) ((snd b).v c r h3) h4⟩
  | .chn o o' a b d => by
    have key : ∀ {X : Cx} {W : Wsh} (c : Ct P g X W Φ) (e : Expr), chk g (.chn o o' a b d) X.env.scope e = true → ∃ l r z p, e = .Compare l [copOf o, copOf o'] [r, z] p ∧ chk g a X.env.scope l = true ∧ chk g b X.env.scope r = true ∧ chk g d X.env.scope z = true ∧ lastMarks [copOf o, copOf o'] [r, z] = false := fun {X W} c e h => by
      cases e with
      | Compare l ops rs p =>
        rcases ops with _ | ⟨op, _ | ⟨op', _ | ⟨_, _⟩⟩⟩
        · exact no_of h
        · exact no_of h
        · rcases rs with _ | ⟨r, _ | ⟨z, _ | ⟨_, _⟩⟩⟩
          · exact no_of h
          · exact no_of h
          · have h : (decide (op = copOf o) && decide (op' = copOf o') && chk g a _ l && chk g b _ r && chk g d _ z && !(lastMarks [op, op'] [r, z])) = true := h
            obtain ⟨h1, h6⟩ := and2 h
            obtain ⟨h1, h5⟩ := and2 h1
            obtain ⟨h1, h4⟩ := and2 h1
            obtain ⟨h1, h3⟩ := and2 h1
            obtain ⟨h1, h2⟩ := and2 h1
            have q := dec1 h1
            have q' := dec1 h2
            subst q q'
            exact ⟨l, r, z, p, rfl, h3, h4, h5, not1 h6⟩
          · exact no_of h
        · exact no_of h
      | _ => exact no_of h
    exact ⟨fun c e h => by
      obtain ⟨l, r, z, p, rfl, h2, h3, h4, h5⟩ := key c e h
      exact s_chn c ((snd a).v c l h2) ((snd b).v c r h3) ((snd d).v c z h4) h5, fun _ {X W} c e h => by
      obtain ⟨l, r, z, p, rfl, h2, h3, h4, h5⟩ := key c e h
      exact t_chn c ((snd a).v c l h2) ((snd b).v c r h3) ((snd d).v c z h4) h5⟩
  | .isN a => by
    have key : ∀ {X : Cx} {W : Wsh} (c : Ct P g X W Φ) (e : Expr), chk g (.isN a) X.env.scope e = true → ∃ l j q p, e = .Compare l [.Is] [.Constant .none j q] p ∧ chk g a X.env.scope l = true := fun {X W} c e h => by
      unfold chk at h
      split at h
      · exact ⟨_, _, _, _, rfl, h⟩
      · exact no_of h
    exact ⟨fun c e h => by
      obtain ⟨l, j, q, p, rfl, h2⟩ := key c e h
      exact s_isN ((snd a).v c l h2), fun _ {X W} c e h => by
      obtain ⟨l, j, q, p, rfl, h2⟩ := key c e h
      exact t_isN ((snd a).v c l h2)⟩
  | .notN a => by
    have key : ∀ {X : Cx} {W : Wsh} (c : Ct P g X W Φ) (e : Expr), chk g (.notN a) X.env.scope e = true → ∃ l j q p, e = .Compare l [.IsNot] [.Constant .none j q] p ∧ chk g a X.env.scope l = true := fun {X W} c e h => by
      unfold chk at h
      split at h
      · exact ⟨_, _, _, _, rfl, h⟩
      · exact no_of h
    exact ⟨fun c e h => by
      obtain ⟨l, j, q, p, rfl, h2⟩ := key c e h
      exact s_notN ((snd a).v c l h2), fun _ {X W} c e h => by
      obtain ⟨l, j, q, p, rfl, h2⟩ := key c e h
      exact t_notN ((snd a).v c l h2)⟩
  | .conj a as => by
    have key : ∀ {X : Cx} {W : Wsh} (c : Ct P g X W Φ) (e : Expr), chk g (.conj a as) X.env.scope e = true → ∃ l r rs p, e = .BoolOp .And (l :: r :: rs) p ∧ chk g a X.env.scope l = true ∧ chks g as X.env.scope (r :: rs) = true := fun {X W} c e h => by
      cases e with
      | BoolOp op vs p =>
        cases op with
        | And =>
          rcases vs with _ | ⟨l, _ | ⟨r, rs⟩⟩
          · exact no_of h
          · exact no_of h
          · exact ⟨l, r, rs, p, rfl, (and2 h).1, (and2 h).2⟩
        | Or => exact no_of h
      | _ => exact no_of h
    exact ⟨fun c e h => by
      obtain ⟨l, r, rs, p, rfl, h2, h3⟩ := key c e h
      exact s_and ((snd a).v c l h2) ((snds as).cj c r rs p h3), fun ht {X W} c e h => by
      obtain ⟨l, r, rs, p, rfl, h2, h3⟩ := key c e h
      have ht := and2 (show (tst a && tsts as) = true from ht)
      exact (T_and ((snd a).b ht.1 c l h2) ((snds as).cb ht.2 c r rs p h3)).pt⟩
  | .disj a as => by
    have key : ∀ {X : Cx} {W : Wsh} (c : Ct P g X W Φ) (e : Expr), chk g (.disj a as) X.env.scope e = true → ∃ l r rs p, e = .BoolOp .Or (l :: r :: rs) p ∧ chk g a X.env.scope l = true ∧ chks g as X.env.scope (r :: rs) = true := fun {X W} c e h => by
      cases e with
      | BoolOp op vs p =>
        cases op with
        | Or =>
          rcases vs with _ | ⟨l, _ | ⟨r, rs⟩⟩
          · exact no_of h
          · exact no_of h
          · exact ⟨l, r, rs, p, rfl, (and2 h).1, (and2 h).2⟩
        | And => exact no_of h
      | _ => exact no_of h
    exact ⟨fun c e h => by
      obtain ⟨l, r, rs, p, rfl, h2, h3⟩ := key c e h
      exact s_or ((snd a).v c l h2) ((snds as).dj c r rs p h3), fun ht {X W} c e h => by
      obtain ⟨l, r, rs, p, rfl, h2, h3⟩ := key c e h
      have ht := and2 (show (tst a && tsts as) = true from ht)
      exact (T_or ((snd a).b ht.1 c l h2) ((snds as).db ht.2 c r rs p h3)).pt⟩
  | .nt a => by
    have key : ∀ {X : Cx} {W : Wsh} (c : Ct P g X W Φ) (e : Expr), chk g (.nt a) X.env.scope e = true → ∃ l p, e = .UnaryOp .Not l p ∧ chk g a X.env.scope l = true := fun {X W} c e h => by
      cases e with
      | UnaryOp op l p =>
        cases op with
        | Not => exact ⟨l, p, rfl, h⟩
        | _ => exact no_of h
      | _ => exact no_of h
    exact ⟨fun c e h => by
      obtain ⟨l, p, rfl, h2⟩ := key c e h
      exact s_not ((snd a).v c l h2), fun ht {X W} c e h => by
      obtain ⟨l, p, rfl, h2⟩ := key c e h
      exact t_not ((snd a).b ht c l h2)⟩
  | .ite d a b => ⟨fun c e h => by
    cases e with
    | IfExp z l r p =>
      have h : (tst d && chk g d _ z && chk g a _ l && chk g b _ r) = true := h
      obtain ⟨h1, h4⟩ := and2 h
      obtain ⟨h1, h3⟩ := and2 h1
      obtain ⟨h1, h2⟩ := and2 h1
      exact s_ite ((snd d).b h1 c z h2) ((snd a).v c l h3) ((snd b).v c r h4)
    | _ => exact no_of h, fun ht => no_of ht⟩
  | .ix a b => .val fun c e h => by
    cases e with
    | Subscript l r p =>
      have h : (nsl r && chk g a _ l && chk g b _ r) = true := h
      obtain ⟨h1, h3⟩ := and2 h
      obtain ⟨h1, h2⟩ := and2 h1
      exact ⟨s_ix c ((snd a).v c l h2) ((snd b).v c r h3) h1, fun _ => rfl⟩
    | _ => exact no_of h
  | .slc a lo hi => .val fun {X W} c e h => by
    cases e with
    | Subscript l r p =>
      cases r with
      | Slice x y z p2 =>
        cases z with
        | some _ => cases x <;> cases y <;> exact no_of h
        | none =>
          have lov : ∀ {t : Ex}, isCN t = true → PO X none (rdO P W fun env => if isCN t = true then .ok none else (ev SS Φ t env).bind intR) := fun {t} ht => by
            simp only [ht, if_true]
            exact o_none
          have hiv : ∀ {t : Ex} {e : Expr}, (!(isCN t)) = true → PE X e (rd P W (ev SS Φ t)) → PO X (some e) (rdO P W fun env => if isCN t = true then .ok none else (ev SS Φ t env).bind intR) := fun {t e} ht hp => by
            simp only [not1 ht, Bool.false_eq_true, if_false]
            exact o_some hp
          refine ⟨?_, fun _ => rfl⟩
          cases x with
          | none =>
            cases y with
            | none =>
              have h : (chk g a _ l && isCN lo && isCN hi) = true := h
              obtain ⟨h1, h3⟩ := and2 h
              obtain ⟨h1, h2⟩ := and2 h1
              exact s_slc c ((snd a).v c l h1) (lov h2) (lov h3)
            | some y =>
              have h : (chk g a _ l && isCN lo && chk g hi _ y && !(isCN hi)) = true := h
              obtain ⟨h1, h4⟩ := and2 h
              obtain ⟨h1, h3⟩ := and2 h1
              obtain ⟨h1, h2⟩ := and2 h1
              exact s_slc c ((snd a).v c l h1) (lov h2) (hiv h4 ((snd hi).v c y h3))
          | some x =>
            cases y with
            | none =>
              have h : (chk g a _ l && chk g lo _ x && !(isCN lo) && isCN hi) = true := h
              obtain ⟨h1, h4⟩ := and2 h
              obtain ⟨h1, h3⟩ := and2 h1
              obtain ⟨h1, h2⟩ := and2 h1
              exact s_slc c ((snd a).v c l h1) (hiv h3 ((snd lo).v c x h2)) (lov h4)
            | some y =>
              have h : (chk g a _ l && chk g lo _ x && !(isCN lo) && chk g hi _ y && !(isCN hi)) = true := h
              obtain ⟨h1, h5⟩ := and2 h
              obtain ⟨h1, h4⟩ := and2 h1
              obtain ⟨h1, h3⟩ := and2 h1
              obtain ⟨h1, h2⟩ := and2 h1
              exact s_slc c ((snd a).v c l h1) (hiv h3 ((snd lo).v c x h2)) (hiv h5 ((snd hi).v c y h4))
      | _ => exact no_of h
    | _ => exact no_of h
  | .call f a as => .val fun c e h => by
    cases e with
    | Call fn args kw p =>
      cases fn with
      | Name x px =>
        rcases args with _ | ⟨l, ls⟩
        · exact no_of h
        · cases kw with
          | cons _ _ => exact no_of h
          | nil =>
            have h : (!g.hot && glB _ x && decide (g.fs[f]? = some (x, ls.length + 1)) && nst l && chk g a _ l && chks g as _ ls) = true := h
            obtain ⟨h1, h6⟩ := and2 h
            obtain ⟨h1, h5⟩ := and2 h1
            obtain ⟨h1, h4⟩ := and2 h1
            obtain ⟨h1, h3⟩ := and2 h1
            obtain ⟨h1, h2⟩ := and2 h1
            exact ⟨s_call c (not1 h1) h2 (dec1 h3) h4 (nostars h6) ((snd a).v c l h5) ((snds as).v c ls h6) (evs_len SS Φ g _ as ls h6), fun _ => rfl⟩
      | _ => exact no_of h
    | _ => exact no_of h
  | .blt b a as => .val fun c e h => by
    cases e with
    | Call fn args kw p =>
      cases fn with
      | Name x px =>
        rcases args with _ | ⟨l, ls⟩
        · exact no_of h
        · cases kw with
          | cons _ _ => exact no_of h
          | nil =>
            have h : ((!g.hot || bltCold b) && glB _ x && decide (x = bltN b) && nst l && chk g a _ l && chks g as _ ls) = true := h
            obtain ⟨h1, h6⟩ := and2 h
            obtain ⟨h1, h5⟩ := and2 h1
            obtain ⟨h1, h4⟩ := and2 h1
            obtain ⟨h1, h3⟩ := and2 h1
            obtain ⟨h1, h2⟩ := and2 h1
            exact ⟨s_blt c h1 h2 (dec1 h3) h4 (nostars h6) ((snd a).v c l h5) ((snds as).v c ls h6), fun _ => rfl⟩
      | _ => exact no_of h
    | _ => exact no_of h
  | .tup as => .val fun c e h => by
    cases e with
    | Tuple ls k p => exact ⟨s_tup ((snds as).v c ls h), fun _ => rfl⟩
    | _ => exact no_of h
  | .lst as => .val fun c e h => by
    cases e with
    | List ls p => exact ⟨s_lst ((snds as).v c ls h), fun _ => rfl⟩
    | _ => exact no_of h
  | .isi a t => .val fun c e h => by
    cases e with
    | Call fn args kw p =>
      cases fn with
      | Name x px =>
        rcases args with _ | ⟨l, _ | ⟨m, _ | ⟨_, _⟩⟩⟩
        · exact no_of h
        · exact no_of h
        · cases m with
          | Name y py =>
            cases kw with
            | cons _ _ => exact no_of h
            | nil =>
              have h : (glB _ x && decide (x = "isinstance") && glB _ y && decide (y = tySt t) && nst l && chk g a _ l) = true := h
              obtain ⟨h1, h6⟩ := and2 h
              obtain ⟨h1, h5⟩ := and2 h1
              obtain ⟨h1, h4⟩ := and2 h1
              obtain ⟨h1, h3⟩ := and2 h1
              obtain ⟨h1, h2⟩ := and2 h1
              exact ⟨s_isi c h1 (dec1 h2) h3 (dec1 h4) h5 ((snd a).v c l h6), fun _ => rfl⟩
          | _ => exact no_of h
        · cases m <;> exact no_of h
      | _ => exact no_of h
    | _ => exact no_of h
  | .comp i t it => .val fun {X W} c e h => by
    cases e with
    | ListComp el gs scope p =>
      rcases gs with _ | ⟨⟨tg, itr, ifs, as⟩, _ | ⟨_, _⟩⟩
      · exact no_of h
      · cases tg with
        | Name x px =>
          cases ifs with
          | cons _ _ => exact no_of h
          | nil =>
            match as, h with
            | 0, h =>
              have h : (!g.hot && blkC g.N _ scope [(x, i)] && locB (relS scope _) x && chkI g it false _ itr && chk g t (relS scope _) el) = true := h
              obtain ⟨h1, h5⟩ := and2 h
              obtain ⟨h1, h4⟩ := and2 h1
              obtain ⟨h1, h3⟩ := and2 h1
              obtain ⟨h1, h2⟩ := and2 h1
              obtain ⟨hi, hset⟩ := (sndI it).v c (.Name x px) itr false (fun z => nomatch z) h4
              exact ⟨s_comp c (not1 h1) h2 h3 hi hset fun X' c' es => (snd t).v c' el (by rw [es]; exact h5), fun _ => rfl⟩
            | .ofNat (_ + 1), h => exact no_of h
            | .negSucc _, h => exact no_of h
        | _ => exact no_of h
      · cases tg with
        | Name x px =>
          cases ifs with
          | cons _ _ => exact no_of h
          | nil =>
            match as, h with
            | 0, h => exact no_of h
            | .ofNat (_ + 1), h => exact no_of h
            | .negSucc _, h => exact no_of h
        | _ => exact no_of h
    | _ => exact no_of h
  | .comp2 i j t it => .val fun {X W} c e h => by
    unfold chk at h
    split at h
    · obtain ⟨h1, h7⟩ := and2 h
      obtain ⟨h1, h6⟩ := and2 h1
      obtain ⟨h1, h5⟩ := and2 h1
      obtain ⟨h1, h4⟩ := and2 h1
      obtain ⟨h1, h3⟩ := and2 h1
      obtain ⟨h1, h2⟩ := and2 h1
      obtain ⟨hi, hset⟩ := (sndI it).v c (.Tuple [.Name _ _, .Name _ _] _ _) _ true (fun _ => ⟨_, _, _, rfl⟩) h6
      exact ⟨s_comp2 c (not1 h1) (dec1 h2) h3 h4 h5 hi hset fun X' c' es => (snd t).v c' _ (by rw [es]; exact h7), fun _ => rfl⟩
    · exact no_of h
  | .lrev a => .val fun c e h => by
    cases e with
    | Call fn args kw p =>
      cases fn with
      | Name x px =>
        rcases args with _ | ⟨m, _ | ⟨_, _⟩⟩
        · exact no_of h
        · cases m with
          | Call fn2 args2 kw2 p2 =>
            cases fn2 with
            | Name y py =>
              rcases args2 with _ | ⟨l, _ | ⟨_, _⟩⟩
              · exact no_of h
              · cases kw2 with
                | cons _ _ => exact no_of h
                | nil =>
                  cases kw with
                  | cons _ _ => exact no_of h
                  | nil =>
                    have h : (!g.hot && glB _ x && decide (x = "list") && glB _ y && decide (y = "reversed") && nst l && chk g a _ l) = true := h
                    obtain ⟨h1, h7⟩ := and2 h
                    obtain ⟨h1, h6⟩ := and2 h1
                    obtain ⟨h1, h5⟩ := and2 h1
                    obtain ⟨h1, h4⟩ := and2 h1
                    obtain ⟨h1, h3⟩ := and2 h1
                    obtain ⟨h1, h2⟩ := and2 h1
                    exact ⟨s_lrev c (not1 h1) h2 (dec1 h3) h4 (dec1 h5) h6 ((snd a).v c l h7), fun _ => rfl⟩
              · cases kw2 <;> exact no_of h
            | _ => exact no_of h
          | _ => exact no_of h
        · cases m with
          | Call fn2 args2 kw2 p2 =>
            cases fn2 with
            | Name y py => rcases args2 with _ | ⟨l, _ | ⟨_, _⟩⟩ <;> cases kw2 <;> exact no_of h
            | _ => exact no_of h
          | _ => exact no_of h
      | _ => exact no_of h
    | _ => exact no_of h
  | .lenO i => .val fun c e h => by
    cases e with
    | Call fn args kw p =>
      cases fn with
      | Name x px =>
        rcases args with _ | ⟨m, _ | ⟨_, _⟩⟩
        · exact no_of h
        · cases m with
          | Name y py =>
            cases kw with
            | cons _ _ => exact no_of h
            | nil =>
              have h : (glB _ x && decide (x = "len") && chkV g _ i y) = true := h
              obtain ⟨h1, h3⟩ := and2 h
              obtain ⟨h1, h2⟩ := and2 h1
              exact ⟨s_lenO c h1 (dec1 h2) h3, fun _ => rfl⟩
          | _ => exact no_of h
        · cases m <;> exact no_of h
      | _ => exact no_of h
    | _ => exact no_of h
  | .fmt a => .val fun c e h => by
    unfold chk at h
    split at h
    · refine ⟨(pe_fmt ((snd a).v c _ h)).imp fun σ H Q ⟨F, env, st, q⟩ => ⟨F, env, st, post_seq q fun d F1 H1 x e1 x1 rx q1 => ?_⟩, fun _ => rfl⟩
      cases d with
      | int i =>
        simp only [fmtR] at q1
        split at q1
        · rw [dp_int rx]
          exact .inr ⟨i, rfl, ‹_›, q1 F1 H1 _ (Ext.refl x1.fh) (.str _)⟩
        · exact q1.elim
      | str y =>
        simp only [fmtR] at q1
        split at q1
        · rw [dp_str rx]
          exact .inl ⟨y, rfl, ‹_›, q1 F1 H1 _ (Ext.refl x1.fh) (.str _)⟩
        · exact q1.elim
      | _ => exact q1.elim
    · exact no_of h
  | .fstr as => .val fun {X W} c e h => by
    unfold chk at h
    split at h
    · obtain ⟨ts, hp, hq⟩ := (snds as).fs c _ h
      refine ⟨(pe_joined hp).imp fun σ H Q ⟨F, env, st, q⟩ => hq Str.empty σ H _ ⟨F, env, st, post_seq q fun x F1 H1 v e1 x1 rx q1 => ?_⟩, fun _ => rfl⟩
      rw [show v = x from rx]
      exact q1 F1 H1 _ (Ext.refl x1.fh) (.str _)
    · exact no_of h
  | .isB ng b a => by
    have key : ∀ {X : Cx} {W : Wsh} (c : Ct P g X W Φ) (e : Expr), chk g (.isB ng b a) X.env.scope e = true → PE X e (rd P W (ev SS Φ (.isB ng b a))) ∧ PT X e (rdB P W (ev SS Φ (.isB ng b a))) := fun {X W} c e h => by
      unfold chk at h
      split at h
      · obtain ⟨u1, h3⟩ := and2 h
        obtain ⟨h1, h2⟩ := and2 u1
        obtain rfl := not1 h1
        obtain rfl := dec1 h2
        exact s_isB ((snd a).v c _ h3)
      · obtain ⟨u1, h3⟩ := and2 h
        obtain ⟨h1, h2⟩ := and2 u1
        subst h1
        obtain rfl := dec1 h2
        exact s_notB ((snd a).v c _ h3)
      · exact no_of h
    exact ⟨fun c e h => (key c e h).1, fun _ {X W} c e h => (key c e h).2⟩
  | .mxD mn a d => .val fun c e h => by
    unfold chk at h
    split at h
    · obtain ⟨u6, h7⟩ := and2 h
      obtain ⟨u5, h6⟩ := and2 u6
      obtain ⟨u4, h5⟩ := and2 u5
      obtain ⟨u3, h4⟩ := and2 u4
      obtain ⟨u2, h3⟩ := and2 u3
      obtain ⟨h1, h2⟩ := and2 u2
      obtain rfl := dec1 h4
      exact ⟨s_mxD c (not1 h1) h2 (dec1 h3) h5 ((snd a).v c _ h6) ((snd d).v c _ h7), fun _ => rfl⟩
    · exact no_of h
  | .gI i => .val fun c e h => by
    unfold chk at h
    split at h
    · exact ⟨s_gI c (and2 h).1 (dec1 (and2 h).2), fun _ => rfl⟩
    · exact no_of h
  | .ixO i b => .val fun c e h => by
    unfold chk at h
    split at h
    · obtain ⟨h1, h3⟩ := and2 h
      obtain ⟨h1, h2⟩ := and2 h1
      exact ⟨s_ixO c h1 h2 ((snd b).v c _ h3), fun _ => rfl⟩
    · exact no_of h
  | .isE i tb => .val fun c e h => by
    unfold chk at h
    split at h
    · obtain ⟨h1, h6⟩ := and2 h
      obtain ⟨h1, h5⟩ := and2 h1
      obtain ⟨h1, h4⟩ := and2 h1
      obtain ⟨h1, h3⟩ := and2 h1
      obtain ⟨h1, h2⟩ := and2 h1
      exact ⟨s_isE c h1 h2 (dec1 h3) h4 h5 (dec1 h6), fun _ => rfl⟩
    · exact no_of h
  | .isT i tbs => .val fun c e h => by
    unfold chk at h
    split at h
    · obtain ⟨h1, h5⟩ := and2 h
      obtain ⟨h1, h6⟩ := and2 h1
      obtain ⟨h1, h4⟩ := and2 h1
      obtain ⟨h1, h3⟩ := and2 h1
      obtain ⟨h1, h2⟩ := and2 h1
      exact ⟨s_isT c h1 h2 (dec1 h3) h4 h5 (dec1 h6), fun _ => rfl⟩
    · exact no_of h
theorem snds : ∀ ts : Exs, Snds P g Φ ts
  | .nil => ⟨fun c es h => by
      cases es with
      | nil => exact a_nil
      | cons _ _ => exact no_of h, fun c e es p h => no_of h, fun c e es p h => no_of h, fun _ {X W} c e es p h => no_of h, fun _ {X W} c e es p h => no_of h, fun c es h => by
      cases es with
      | nil => exact ⟨[], .nil, fun acc σ H Q ⟨F, env, st, q⟩ => q F H acc (Ext.refl st.same) rfl⟩
      | cons _ _ => exact no_of h⟩
  | .cons t ts => by
    have key : ∀ {sc : Scope} (e : Expr) (es : List Expr), chks g (.cons t ts) sc (e :: es) = true → nst e = true ∧ chk g t sc e = true ∧ chks g ts sc es = true := fun {sc} e es h => by
      have h : (nst e && chk g t sc e && chks g ts sc es) = true := h
      exact ⟨(and2 (and2 h).1).1, (and2 (and2 h).1).2, (and2 h).2⟩
    refine ⟨fun c es h => ?_, fun c e es p h => ?_, fun c e es p h => ?_, fun ht {X W} c e es p h => ?_, fun ht {X W} c e es p h => ?_, fun {X W} c es h => ?_⟩
    · cases es with
      | nil => exact no_of h
      | cons e es =>
        obtain ⟨h1, h2, h3⟩ := key e es h
        exact a_cons h1 ((snd t).v c e h2) ((snds ts).v c es h3)
    · obtain ⟨h1, h2, h3⟩ := key e es h
      cases ts with
      | nil =>
        cases es with
        | nil => exact s_and1 ((snd t).v c e h2)
        | cons _ _ => exact no_of h3
      | cons t2 ts =>
        cases es with
        | nil => exact no_of h3
        | cons e2 es => exact s_and ((snd t).v c e h2) ((snds (.cons t2 ts)).cj c e2 es p h3)
    · obtain ⟨h1, h2, h3⟩ := key e es h
      cases ts with
      | nil =>
        cases es with
        | nil => exact s_or1 ((snd t).v c e h2)
        | cons _ _ => exact no_of h3
      | cons t2 ts =>
        cases es with
        | nil => exact no_of h3
        | cons e2 es => exact s_or ((snd t).v c e h2) ((snds (.cons t2 ts)).dj c e2 es p h3)
    · obtain ⟨h1, h2, h3⟩ := key e es h
      have ht := and2 (show (tst t && tsts ts) = true from ht)
      cases ts with
      | nil =>
        cases es with
        | nil => exact T_and1 ((snd t).b ht.1 c e h2)
        | cons _ _ => exact no_of h3
      | cons t2 ts =>
        cases es with
        | nil => exact no_of h3
        | cons e2 es => exact T_and ((snd t).b ht.1 c e h2) ((snds (.cons t2 ts)).cb ht.2 c e2 es p h3)
    · obtain ⟨h1, h2, h3⟩ := key e es h
      have ht := and2 (show (tst t && tsts ts) = true from ht)
      cases ts with
      | nil =>
        cases es with
        | nil => exact T_or1 ((snd t).b ht.1 c e h2)
        | cons _ _ => exact no_of h3
      | cons t2 ts =>
        cases es with
        | nil => exact no_of h3
        | cons e2 es => exact T_or ((snd t).b ht.1 c e h2) ((snds (.cons t2 ts)).db ht.2 c e2 es p h3)
    · cases es with
      | nil => exact no_of h
      | cons e es =>
        obtain ⟨h1, h2, h3⟩ := key e es h
        obtain ⟨tl, hp, hq⟩ := (snds ts).fs c es h3
        refine ⟨_ :: tl, .cons ((snd t).v c e h2) hp, fun acc σ H Q ⟨F, env, st, q⟩ => ⟨F, env, st, post_seq q fun d F1 H1 x e1 x1 rx q1 => ?_⟩⟩
        cases d with
        | str y =>
          simp only at q1
          split at q1
          · rw [dp_str rx]
            exact ⟨y, rfl, ‹_›, hq _ _ _ _ ⟨F1, env, st.mono x1, q1⟩⟩
          · exact q1.elim
        | _ => exact q1.elim
theorem sndI : ∀ t : Itr, SndI P g Φ t
  | .lst a => ⟨fun c tg e pr hp h => ⟨i_lst c ((snd a).v c e (and2 h).2), set_of (and2 h).1⟩⟩
  | .tup a => ⟨fun c tg e pr hp h => ⟨i_tup c ((snd a).v c e (and2 h).2), set_of (and2 h).1⟩⟩
  | .rng a => ⟨fun c tg e pr hp h => by
    cases e with
    | Call fn args kw p =>
      cases fn with
      | Name x px =>
        rcases args with _ | ⟨l, _ | ⟨_, _⟩⟩
        · exact no_of h
        · cases kw with
          | cons _ _ => exact no_of h
          | nil =>
            have h : (glB _ x && decide (x = "range") && nst l && chk g a _ l) = true := h
            obtain ⟨h1, h4⟩ := and2 h
            obtain ⟨h1, h3⟩ := and2 h1
            obtain ⟨h1, h2⟩ := and2 h1
            exact ⟨i_rng c h1 (dec1 h2) h3 ((snd a).v c l h4), fun _ => rfl⟩
        · exact no_of h
      | _ => exact no_of h
    | _ => exact no_of h⟩
  | .rng2 a b => ⟨fun c tg e pr hp h => by
    cases e with
    | Call fn args kw p =>
      cases fn with
      | Name x px =>
        rcases args with _ | ⟨l, _ | ⟨r, _ | ⟨_, _⟩⟩⟩
        · exact no_of h
        · exact no_of h
        · cases kw with
          | cons _ _ => exact no_of h
          | nil =>
            have h : (glB _ x && decide (x = "range") && nst l && nst r && chk g a _ l && chk g b _ r) = true := h
            obtain ⟨h1, h6⟩ := and2 h
            obtain ⟨h1, h5⟩ := and2 h1
            obtain ⟨h1, h4⟩ := and2 h1
            obtain ⟨h1, h3⟩ := and2 h1
            obtain ⟨h1, h2⟩ := and2 h1
            exact ⟨i_rng2 c h1 (dec1 h2) h3 h4 ((snd a).v c l h5) ((snd b).v c r h6), fun _ => rfl⟩
        · exact no_of h
      | _ => exact no_of h
    | _ => exact no_of h⟩
  | .rrng a => ⟨fun c tg e pr hp h => by
    cases e with
    | Call fn args kw p =>
      cases fn with
      | Name x px =>
        rcases args with _ | ⟨m, _ | ⟨_, _⟩⟩
        · exact no_of h
        · cases m with
          | Call fn2 args2 kw2 p2 =>
            cases fn2 with
            | Name y py =>
              rcases args2 with _ | ⟨l, _ | ⟨_, _⟩⟩
              · exact no_of h
              · cases kw2 with
                | cons _ _ => exact no_of h
                | nil =>
                  cases kw with
                  | cons _ _ => exact no_of h
                  | nil =>
                    have h : (glB _ x && decide (x = "reversed") && glB _ y && decide (y = "range") && nst l && chk g a _ l) = true := h
                    obtain ⟨h1, h6⟩ := and2 h
                    obtain ⟨h1, h5⟩ := and2 h1
                    obtain ⟨h1, h4⟩ := and2 h1
                    obtain ⟨h1, h3⟩ := and2 h1
                    obtain ⟨h1, h2⟩ := and2 h1
                    exact ⟨i_rrng c h1 (dec1 h2) h3 (dec1 h4) h5 ((snd a).v c l h6), fun _ => rfl⟩
              · cases kw2 <;> exact no_of h
            | _ => exact no_of h
          | _ => exact no_of h
        · cases m with
          | Call fn2 args2 kw2 p2 =>
            cases fn2 with
            | Name y py => rcases args2 with _ | ⟨l, _ | ⟨_, _⟩⟩ <;> cases kw2 <;> exact no_of h
            | _ => exact no_of h
          | _ => exact no_of h
      | _ => exact no_of h
    | _ => exact no_of h⟩
  | .rev a => ⟨fun c tg e pr hp h => by
    cases e with
    | Call fn args kw p =>
      cases fn with
      | Name x px =>
        rcases args with _ | ⟨l, _ | ⟨_, _⟩⟩
        · exact no_of h
        · cases kw with
          | cons _ _ => exact no_of h
          | nil =>
            have h : (glB _ x && decide (x = "reversed") && nst l && chk g a _ l) = true := h
            obtain ⟨h1, h4⟩ := and2 h
            obtain ⟨h1, h3⟩ := and2 h1
            obtain ⟨h1, h2⟩ := and2 h1
            exact ⟨i_rev c h1 (dec1 h2) h3 ((snd a).v c l h4), fun _ => rfl⟩
        · exact no_of h
      | _ => exact no_of h
    | _ => exact no_of h⟩
  | .zip a b => ⟨fun c tg e pr hp h => by
    cases e with
    | Call fn args kw p =>
      cases fn with
      | Name x px =>
        rcases args with _ | ⟨l, _ | ⟨r, _ | ⟨_, _⟩⟩⟩
        · exact no_of h
        · exact no_of h
        · cases kw with
          | cons _ _ => exact no_of h
          | nil =>
            have h : (pr && glB _ x && decide (x = "zip") && nst l && nst r && chk g a _ l && chk g b _ r) = true := h
            obtain ⟨h1, h7⟩ := and2 h
            obtain ⟨h1, h6⟩ := and2 h1
            obtain ⟨h1, h5⟩ := and2 h1
            obtain ⟨h1, h4⟩ := and2 h1
            obtain ⟨h1, h3⟩ := and2 h1
            obtain ⟨h1, h2⟩ := and2 h1
            obtain ⟨es, k, p, rfl⟩ := hp h1
            exact ⟨i_zip c h2 (dec1 h3) h4 h5 ((snd a).v c l h6) ((snd b).v c r h7), fun _ => rfl⟩
        · exact no_of h
      | _ => exact no_of h
    | _ => exact no_of h⟩
  | .enm a => ⟨fun c tg e pr hp h => by
    cases e with
    | Call fn args kw p =>
      cases fn with
      | Name x px =>
        rcases args with _ | ⟨l, _ | ⟨_, _⟩⟩
        · exact no_of h
        · cases kw with
          | cons _ _ => exact no_of h
          | nil =>
            have h : (pr && glB _ x && decide (x = "enumerate") && nst l && chk g a _ l) = true := h
            obtain ⟨h1, h5⟩ := and2 h
            obtain ⟨h1, h4⟩ := and2 h1
            obtain ⟨h1, h3⟩ := and2 h1
            obtain ⟨h1, h2⟩ := and2 h1
            obtain ⟨es, k, p, rfl⟩ := hp h1
            exact ⟨i_enm c h2 (dec1 h3) h4 ((snd a).v c l h5), fun _ => rfl⟩
        · exact no_of h
      | _ => exact no_of h
    | _ => exact no_of h⟩
  | .enS a b => ⟨fun c tg e pr hp h => by
    unfold chkI at h
    split at h
    · obtain ⟨h1, h8⟩ := and2 h
      obtain ⟨h1, h7⟩ := and2 h1
      obtain ⟨h1, h6⟩ := and2 h1
      obtain ⟨h1, h5⟩ := and2 h1
      obtain ⟨h1, h4⟩ := and2 h1
      obtain ⟨h1, h3⟩ := and2 h1
      obtain ⟨h1, h2⟩ := and2 h1
      obtain ⟨es, k, p, rfl⟩ := hp h1
      obtain rfl := dec1 h4
      exact ⟨i_enS c h2 (dec1 h3) h5 ((snd a).v c _ h7) ((snd b).v c _ h8), fun _ => rfl⟩
    · exact no_of h⟩
end
end Q

set_option Elab.async false
set_option linter.all false
set_option maxRecDepth 100000
set_option autoImplicit false
set_option maxHeartbeats 8000000
namespace Q
open PySem PySem.Spec PyProof.Rows L2

/-! ### the text of statements -/
def locN (g : Cfg) (sc : Scope) (i : Nat) (x : Str) : Bool := decide (g.N[i]? = some x) && locB sc x
def nlc : Expr → Bool
  | .ListComp _ _ _ _ => false
  | .SetComp _ _ _ _ => false
  | .DictComp _ _ _ _ _ => false
  | _ => true
def isOwn : Ex → Bool
  | .lst _ => true
  | .blt .list _ .nil => true
  | _ => false
def handB (g : Cfg) (k : Nat) (sc : Scope) (x : Str) : Bool := !g.hot && glB sc x && decide (g.cs[k]? = some x)
def chkP1 (g : Cfg) : P1 → Scope → Pattern → Bool
  | .s x, _, p => (match p with | .MatchValue (.Constant (.str y) _ _) _ => decide (x = y) | _ => false)
  | .v i, sc, p => (match p with | .MatchAs none (some x) _ => locN g sc i x | _ => false)
  | .w, _, p => (match p with | .MatchAs none none _ => true | _ => false)
def chkNs (g : Cfg) (sc : Scope) : List Nat → List Expr → Bool
  | [], l => (match l with | [] => true | _ => false)
  | i :: is, l => (match l with | .Name x _ :: r => locN g sc i x && chkNs g sc is r | _ => false)
def notTup : Expr → Bool
  | .Tuple _ _ _ => false
  | _ => true
def chkPs (g : Cfg) : List P1 → Scope → List Pattern → Bool
  | [], _, l => (match l with | [] => true | _ => false)
  | q :: qs, sc, l => (match l with | p :: r => chkP1 g q sc p && chkPs g qs sc r | [] => false)
def wildAll (ps : List Pattern) : Bool := ps.all fun p => p.isWildcard || (p.isStar && p.names.isEmpty)
def chkPt (g : Cfg) : Pt → Scope → Pattern → Bool
  | .one q, sc, p => chkP1 g q sc p
  | .seq qs, sc, p => (match p with | .MatchSequence ps _ => chkPs g qs sc ps && !(wildAll ps) && decide (qs.length ≤ 1000) | _ => false)
mutual
def chkS (g : Cfg) : St → Scope → Stmt → Bool
  | .set i e, sc, s => (match s with | .Assign [.Name x _] v _ => locN g sc i x && nlc v && chk g e sc v | _ => false)
  | .setC i e, sc, s => (match s with
      | .Assign [.Name x px] (.ListComp el [⟨.Name y py, itr, [], 0⟩] scope pc) _ => (match e with
        | .comp j t it => locN g sc i x && (px.line == pc.line) && !(scope.names.any fun (n, k) => n == x && (k == .local || k == .cell)) && !g.hot && blkC g.N sc scope [(y, j)] && locB (relS scope sc) y && chkI g it false sc itr && chk g t (relS scope sc) el
        | _ => false)
      | _ => false)
  | .own i e, sc, s => (match s with | .Assign [.Name x _] v _ => locN g sc i x && nlc v && isOwn e && chk g e sc v | _ => false)
  | .frz _, _, _ => false
  | .app i e, sc, s => (match s with
      | .Expr (.Call (.Attribute (.Name x _) n ap) [a] [] cp) _ => chkV g sc i x && decide (n = "append") && (ap.endLine == cp.line) && nst a && chk g e sc a
      | _ => false)
  | .ext i e, sc, s => (match s with
      | .Expr (.Call (.Attribute (.Name x _) n ap) [a] [] cp) _ => chkV g sc i x && decide (n = "extend") && (ap.endLine == cp.line) && nst a && chk g e sc a
      | _ => false)
  | .put i j e, sc, s => (match s with
      | .Assign [.Subscript (.Name x _) k _] v _ => chkV g sc i x && nsl k && nlc v && chk g j sc k && chk g e sc v
      | _ => false)
  | .ret e, sc, s => (match s with
      | .Return (some v) _ => chk g e sc v
      | .Return none _ => isCN e
      | _ => false)
  | .retO i, sc, s => (match s with | .Return (some (.Name x _)) _ => chkV g sc i x | _ => false)
  | .exp e, sc, s => (match s with | .Expr v _ => nlc v && chk g e sc v | _ => false)
  | .doc, sc, s => (match s with | .Expr (.Constant (.str _) _ _) _ => true | _ => false)
  | .pas, sc, s => (match s with | .Pass _ => true | _ => false)
  | .brk, sc, s => (match s with | .Break _ => true | _ => false)
  | .cnt, sc, s => (match s with | .Continue _ => true | _ => false)
  | .ifs c a b, sc, s => (match s with | .If t x y _ => tst c && chk g c sc t && chkSs g a sc x && chkSs g b sc y | _ => false)
  | .forI i it b, sc, s => (match s with | .For (.Name x _) l y [] _ => !g.hot && locN g sc i x && chkI g it false sc l && chkSs g b sc y | _ => false)
  | .for2 i j it b, sc, s => (match s with | .For (.Tuple [.Name x _, .Name z _] _ _) l y [] _ => !g.hot && locN g sc i x && locN g sc j z && chkI g it true sc l && chkSs g b sc y | _ => false)
  | .whl c b, sc, s => (match s with | .While t y [] _ => tst c && chk g c sc t && chkSs g b sc y | _ => false)
  | .rse k e, sc, s => (match s with
      | .Raise (some (.Call (.Name x _) [a] [] _)) none _ => !g.hot && glB sc x && decide (g.rs[k]? = some x) && nst a && chk g e sc a
      | _ => false)
  | .tryO b k h, sc, s => (match s with
      | .Try y [.ExceptHandler (some (.Name x _)) none (z :: zs) _] [] [] _ => handB g k sc x && chkSs g b sc y && chkSs { g with hot := true } h sc (z :: zs)
      | _ => false)
  | .tryA b k i h, sc, s => (match s with
      | .Try y [.ExceptHandler (some (.Name x _)) (some n) (z :: zs) _] [] [] _ => handB g k sc x && locN g sc i n && chkSs g b sc y && chkSs { g with hot := true } h sc (z :: zs)
      | _ => false)
  | .mat e cs, sc, s => (match s with | .Match v l _ => !g.hot && chk g e sc v && chkMs g cs sc l | _ => false)
  | .aug ng i e, sc, s => (match s with
      | .AugAssign (.Name x _) .Add v _ => !ng && locN g sc i x && chk g e sc v
      | .AugAssign (.Name x _) .Sub v _ => ng && locN g sc i x && chk g e sc v
      | _ => false)
  | .unp is e, sc, s => (match s with | .Assign [.Tuple ns _ _] v _ => !g.hot && chkNs g sc is ns && notTup v && nlc v && chk g e sc v | _ => false)
  | .ownC i f a as, sc, s => (match s with
      | .Assign [.Name x _] (.Call (.Name y _) (l :: ls) [] _) _ => locN g sc i x && !g.hot && glB sc y && decide (g.fs[f]? = some (y, ls.length + 1)) && nst l && chk g a sc l && chks g as sc ls
      | _ => false)
  | .tryM b hs, sc, s => (match s with | .Try y (z :: zs) [] [] _ => !g.hot && chkSs g b sc y && chkHs g hs sc (z :: zs) | _ => false)
def chkHs (g : Cfg) : Hds → Scope → List ExceptHandler → Bool
  | .nil, _, l => (match l with | [] => true | _ => false)
  | .cons k o h r, sc, l => (match l with
      | .ExceptHandler (some (.Name x _)) n (z :: zs) _ :: rest => handB g k sc x && (match o, n with
          | none, none => true
          | some i, some n => locN g sc i n
          | _, _ => false) && chkSs { g with hot := true } h sc (z :: zs) && chkHs g r sc rest
      | _ => false)
def chkMs (g : Cfg) : Mcs → Scope → List MatchCase → Bool
  | .nil, _, l => (match l with | [] => true | _ => false)
  | .cons q b r, sc, l => (match l with | ⟨p, none, body⟩ :: rest => chkPt g q sc p && chkSs g b sc body && chkMs g r sc rest | _ => false)
def chkSs (g : Cfg) : Sts → Scope → List Stmt → Bool
  | .nil, _, l => (match l with | [] => true | _ => false)
  | .cons s ss, sc, l => (match s with
      | .frz _ => chkSs g ss sc l
      | _ => (match l with | x :: r => chkS g s sc x && chkSs g ss sc r | [] => false))
end

/-! ### what is wanted behind a statement -/
def goal (P : Par) (W : Wsh) (D : Ends) (B : Hp) : Fl → Prop
  | .nx env => ∀ σ F H, Sta P F H σ env → Same B F → D.nx σ H
  | .bk env => ∀ σ F H, Sta P F H σ env → Same B F → D.bk σ H
  | .ct env => ∀ σ F H, Sta P F H σ env → Same B F → D.ct σ H
  | .rt (.fr d) => ∀ F H v, Ext P.F0 P.H0 F H → Same B F → Dp P.K F v d → D.rt v H
  | .rt (.ow ds) => ∀ F H p vs, Ext P.F0 P.H0 F H → Same B F → P.H0 p = none → F p = none → H p = some (.lst vs) → DpAll P.K F vs ds → D.rt (.ref p) H
  | .rt (.er _) => False
  | .xc k env => ∀ σ F H, Sta P F H σ env → Same B F → W k σ H
  | .bad => False
def rdS (P : Par) (W : Wsh) (f : Env → Fl) : TS := fun D σ H => ∃ B F env, Sta P F H σ env ∧ Same B F ∧ goal P W D B (f env)
theorem goal_up {P : Par} {W : Wsh} {D : Ends} {B B' : Hp} (s : Same B B') : ∀ {r : Fl}, goal P W D B r → goal P W D B' r
  | .nx _, h => fun σ F H st sb => h σ F H st (s.trans sb)
  | .bk _, h => fun σ F H st sb => h σ F H st (s.trans sb)
  | .ct _, h => fun σ F H st sb => h σ F H st (s.trans sb)
  | .xc _ _, h => fun σ F H st sb => h σ F H st (s.trans sb)
  | .rt (.fr _), h => fun F H v x sb => h F H v x (s.trans sb)
  | .rt (.ow _), h => fun F H p vs x sb => h F H p vs x (s.trans sb)
  | .rt (.er _), h => h
  | .bad, h => h
/-- a context that differs in its ends: what goes on, goes on -/
theorem goal_imp {P : Par} {W : Wsh} {D D' : Ends} {B : Hp} {r r' : Fl} (h : goal P W D B r') (hrt : ∀ v H, D.rt v H → D'.rt v H)
    (hr : match r with
      | .nx e => ∀ σ F H, Sta P F H σ e → Same B F → goal P W D B r' → D'.nx σ H
      | .bk e => ∀ σ F H, Sta P F H σ e → Same B F → goal P W D B r' → D'.bk σ H
      | .ct e => ∀ σ F H, Sta P F H σ e → Same B F → goal P W D B r' → D'.ct σ H
      | r => r' = r) : goal P W D' B r := by
  cases r with
  | nx e => exact fun σ F H st sb => hr σ F H st sb h
  | bk e => exact fun σ F H st sb => hr σ F H st sb h
  | ct e => exact fun σ F H st sb => hr σ F H st sb h
  | xc k e =>
    have hr : r' = .xc k e := hr
    subst hr
    exact h
  | bad =>
    have hr : r' = .bad := hr
    subst hr
    exact h
  | rt s =>
    have hr : r' = .rt s := hr
    subst hr
    cases s with
    | fr d => exact fun F H v x sb r => hrt _ _ (h F H v x sb r)
    | ow d => exact fun F H p vs x sb a b c d => hrt _ _ (h F H p vs x sb a b c d)
    | er k => exact h
section
variable {P : Par} {W : Wsh} {D : Ends} {B F H : Hp} {σ : L2.St} {env : Env}
theorem post_exR {α β : Type} {Rl : Hp → β → α → Prop} {r : Rs α} {f : α → Fl} {Q : β → Hp → Prop} (st : Sta P F H σ env) (sb : Same B F) (q : goal P W D B (exR r env f))
    (k : ∀ d F' H' v, r = .ok d → Ext F H F' H' → Rl F' v d → goal P W D B (f d) → Q v H') : post Rl W σ F H r Q := by
  cases r with
  | ok d => exact fun F' H' v e r => k d F' H' v rfl e r q
  | exc j => exact fun F' H' e => q σ F' H' (st.mono e) (sb.trans e.ff)
  | bad => exact q
theorem none_of {H H' : Hp} (s : Same H H') {p : Addr} (h : H' p = none) : H p = none := by
  cases e : H p with
  | none => rfl
  | some o =>
    have := s p o e
    rw [h] at this
    cases this
theorem Sta.ownNew (st : Sta P F H σ env) {i : Nat} {p : Addr} {vs : List V} {ds : List PyData} (hp : H p = none) (hd : DpAll P.K F vs ds) : Sta P F (upd H p (.lst vs)) (σ.set i (some (.ref p))) (env.set i (some (.ow ds))) := by
  refine (st.mono (Ext.newO st.same hp)).putO (none_of st.ext.hh hp) (none_of st.same hp) upd_same hd fun j ne es e1 e2 => ?_
  obtain ⟨p', vs', e3, h0, h1, h2, h3⟩ := st.sl j _ e1
  rw [e2] at e3
  cases e3
  rw [hp] at h2
  cases h2
/-- the loop's body is done -/
theorem goal_loop {r : Fl} {lp : Env → Fl} {N : L2.St → Hp → Prop} (q : goal P W D B (match r with
      | .nx e => lp e
      | .ct e => lp e
      | .bk e => .nx e
      | .rt s => .rt s
      | .xc k e => .xc k e
      | .bad => .bad)) (hN : ∀ σ F H e, Sta P F H σ e → Same B F → goal P W D B (lp e) → N σ H) : goal P W { D with nx := N, ct := N, bk := D.nx } B r := by
  cases r with
  | nx e => exact fun σ F H st sb => hN σ F H e st sb q
  | ct e => exact fun σ F H st sb => hN σ F H e st sb q
  | bk e => exact q
  | rt s => cases s <;> exact q
  | xc k e => exact q
  | bad => exact q
end

/-! ### where statements stand -/
def wxOf (P : Par) (W : Wsh) : L2.WX := fun cls d σ H => ∃ k, cls = P.cls k ∧ d = none ∧ W k σ H
structure Sc (P : Par) (g : Cfg) (sub : Nat → Nat → Bool) (X : Cx) (W : Wsh) (Φ : Fns) : Prop where
  ct : Ct P g X W Φ
  po : PassesOwn (model X.prog X.w) X.A X.env X.xe
  tk : L2.Takes X (wxOf P W)
  stk : X.stack = X.env :: X.outer
  fr : X.env.frame = some X.env.locals
  nm : ∀ (k : Nat) (x : Str), g.cs[k]? = some x → (x == ("__debug__" : Str)) = false ∧ ∃ cv, (X.mg x = some cv ∨ (X.mg x = none ∧ bootBuiltins x = some cv ∧ x ≠ "__name__")) ∧ ∀ j, PySem.W.exmOne X.K (P.cls j) cv = some (sub j k)
  rz : ∀ (k : Nat) (x : Str), g.rs[k]? = some x → ∃ (C : Addr) (bmB : List Value) (Bs newId initId : String), P.cls k = .ref C ∧ X.mg x = some (.ref C) ∧ ExcBaseFacts Bs newId initId bmB ∧ PySem.W.excIn X.K C bmB newId = true ∧ PySem.W.keepIn X.K (.ref C) = true ∧ Raises X (.ref C)
  /-- an error's class, for isinstance -/
  ex : ∀ (k0 : Nat) (x : Str), g.cs[k0]? = some x → ∀ k, ∃ C, P.cls k = .ref C ∧ ExcC X.K C
/-- another wish about errors -/
theorem Sc.tr {P : Par} {g : Cfg} {sub : Nat → Nat → Bool} {X : Cx} {W : Wsh} {Φ : Fns} (c : Sc P g sub X W Φ) (hh : g.hot = false) {W' : Wsh} (pn : List (Addr × Obj)) {xe : Value → Shared → Prop} (tk : L2.Takes (X.tr pn xe) (wxOf P W')) (po : PassesOwn (model X.prog X.w) X.A X.env xe) : Sc P g sub (X.tr pn xe) W' Φ :=
  ⟨⟨c.ct.n, c.ct.nd, c.ct.k, c.ct.bl, c.ct.calm, c.ct.un, c.ct.fns, fun z => absurd (hh.symm.trans z) Bool.false_ne_true, c.ct.gi, c.ct.is, fun σ => passAt tk σ⟩, po, tk, c.stk, c.fr, c.nm, c.rz, c.ex⟩
/-- an except suite -/
theorem Sc.suite {P : Par} {g : Cfg} {sub : Nat → Nat → Bool} {X : Cx} {W : Wsh} {Φ : Fns} (c : Sc P g sub X W Φ) {a : Addr} {pn : List (Addr × Obj)} (ER : Addr → Nat → Prop) (hE : ∀ b k, ER b k → ∃ oe C, (b, oe) ∈ pn ∧ P.cls k = .ref C ∧ ExcC X.K C ∧ Zc (.ref C) none oe ∧ ∃ vs, oe.data = .fields vs)
    : Sc { P with ER := ER } { g with hot := true } sub (X.suite a pn) Wno Φ :=
  ⟨⟨c.ct.n, c.ct.nd, c.ct.k, c.ct.bl, fun z => absurd (show true = false from z) (fun z => nomatch z), c.ct.un, fun z => absurd (show true = false from z) (fun z => nomatch z), fun _ b k h => hE b k h, c.ct.gi, c.ct.is, fun σ pins H s e s' I h => by
    obtain ⟨_, _, _, _, _, _, _, _, _, _, _, _, _, _, _, z⟩ := h
    exact z.elim⟩, PassesOwn.never, takes_none5.imp (fun _ _ _ _ ⟨_, _, _, w⟩ => w), c.stk, c.fr, c.nm, c.rz, c.ex⟩
end Q

set_option Elab.async false
set_option linter.all false
set_option maxRecDepth 100000
set_option autoImplicit false
set_option maxHeartbeats 8000000
namespace Q
open PySem PySem.Spec PyProof.Rows L2
section
variable {P : Par} {g : Cfg} {sub : Nat → Nat → Bool} {X : Cx} {W : Wsh} {Φ : Fns} {L : Nat} {e l r z : Expr} {es : List Expr} {pos : Pos} {x : Str} {i : Nat}
theorem locN_of (c : Ct P g X W Φ) (h : locN g X.env.scope i x = true) : X.N[i]? = some x ∧ X.env.scope.names.lookup x = some .local := by
  unfold locN at h
  rw [Bool.and_eq_true, decide_eq_true_eq] at h
  exact ⟨by rw [c.n]; exact h.1, loc_of h.2⟩
theorem nd_of (c : Ct P g X W Φ) : X.N.Nodup := by rw [c.n]; exact c.nd
theorem sw_no {l : Nat} {env : PySem.Env} {t : Option Expr} (h : nlc e = true) : swapsWith e t l env = pure false := by
  cases e <;> first | rfl | exact absurd h Bool.false_ne_true
theorem v_of (c : Ct P g X W Φ) {p : Pos} (h : chkV g X.env.scope i x = true) : PE X (.Name x p) (tVar i) := by
  unfold chkV at h
  rw [Bool.and_eq_true, Bool.and_eq_true, decide_eq_true_eq] at h
  obtain ⟨a, b, _⟩ := okN_of h.2
  exact pe_var (by rw [c.n]; exact h.1.1) (vis_of h.1.2) a b
theorem S_set (c : Sc P g sub X W Φ) {f : Env → Rs D} {p : Pos} (hi : locN g X.env.scope i x = true) (hn : nlc e = true) (he : PE X e (rd P W f)) :
    PS X (.Assign [.Name x p] e pos) (rdS P W fun env => exR (f env) env fun d => .nx (env.set i (some (.fr d)))) := by
  obtain ⟨h1, h2⟩ := locN_of c.ct hi
  refine (ps_set (nd_of c.ct) h1 (.inl h2) he (sw_no hn) (.inr h2)).imp fun D σ H ⟨B, F, env, st, sb, q⟩ => ⟨F, env, st, post_exR st sb q fun d F' H' v e1 x1 rv q1 => ?_⟩
  exact q1 _ F' H' ((st.mono x1).putD rv) (sb.trans x1.ff)
theorem S_setC (c : Sc P g sub X W Φ) {j : Nat} {y : Str} {p py pc : Pos} {itr el : Expr} {scope : Scope} {fl : Env → Rs (List D)} {f : Env → Rs D} (hi : locN g X.env.scope i x = true) (hl : (p.line == pc.line) = true)
    (ha : (scope.names.any fun (n, k) => n == x && (k == .local || k == .cell)) = false) (hh : g.hot = false) (hb : blkC g.N X.env.scope scope [(y, j)] = true) (hy : locB (relS scope X.env.scope) y = true)
    (hI : PI X (.Name y py) itr (rdI P W fl)) (hset : ∀ y, foldedSetIterable itr X.env y = pure y) (he : ∀ X', Ct P g X' Wno Φ → X'.env.scope = relS scope X.env.scope → PE X' el (rd P Wno f)) (hk : X.env.scope.kind = .function) :
    PS X (.Assign [.Name x p] (.ListComp el [⟨.Name y py, itr, [], 0⟩] scope pc) pos) (rdS P W fun env => exR ((fl env).bind fun ds => if ds.length ≤ szl then (mapR (fun d => (f (env.set j (some (.fr d)))).cold) ds).bind fun ys => .ok (.list ys) else .bad) env fun d => .nx (env.set i (some (.fr d)))) := by
  obtain ⟨h1, h2⟩ := locN_of c.ct hi
  have ok : BlkOk X.N X.env.scope scope [(y, j)] := blkOk_by (by rw [c.ct.n]; exact hb)
  have hx : (relS scope X.env.scope).names.lookup y = some .local := loc_of hy
  have hN := nd_of c.ct
  by_cases hpl : (p.line == pc.line) = true
  · have hsw : swapsWith (.ListComp el [⟨.Name y py, itr, [], 0⟩] scope pc) (some (.Name x p)) pos.line X.env = pure true := sw_true hk h2 hl ha
    refine (ps_setLc (own := [(y, j)]) (g := gName j) (tt := tYes) (te := rd P Wno f) (c.ct.calm hh) hN h1 h2 hsw hI ok (fun s H C cl fp => pg_name hN (ok.ix (y, j) (List.mem_cons_self)) (.inl hx) (.inr hx)) (fun _ _ _ _ _ => pts_nil)
      (fun s H C cl fp => he _ (c.ct.blk hh s H scope _ fp) rfl) hset).imp fun D σ H ⟨B, F, env, st, sb, q⟩ => comp_in ⟨F, env, st, post_exR st sb q fun d F' H' v e1 x1 rv q1 => ?_⟩
    exact q1 _ F' H' ((st.mono x1).putD rv) (sb.trans x1.ff)
  · exact absurd hl hpl
theorem S_own (c : Sc P g sub X W Φ) {p : Pos} {f : Env → Rs D} (hi : locN g X.env.scope i x = true) (hn : nlc e = true) (he : PE X e (fun σ H Q => ∃ F env, Sta P F H σ env ∧ post (fun F' (v : List V) d => ∃ ds, d = .list ds ∧ DpAll P.K F' v ds) W σ F H (f env) fun vs H' => ∀ p, H' p = none → Q (.ref p) (upd H' p (.lst vs)))) :
    PS X (.Assign [.Name x p] e pos) (rdS P W fun env => exR (f env) env fun d => (match d with | .list ds => .nx (env.set i (some (.ow ds))) | _ => .bad)) := by
  obtain ⟨h1, h2⟩ := locN_of c.ct hi
  refine (ps_set (nd_of c.ct) h1 (.inl h2) he (sw_no hn) (.inr h2)).imp fun D σ H ⟨B, F, env, st, sb, q⟩ => ⟨F, env, st, post_exR st sb q fun d F' H' v e1 x1 rv q1 p hp => ?_⟩
  obtain ⟨ds, rfl, hd⟩ := rv
  exact q1 _ F' _ ((st.mono x1).ownNew hp hd) (sb.trans x1.ff)
theorem own_lst {as : Exs} {p : Pos} (ha : PA X es (rds P W (evs SS Φ as))) : PE X (.List es p) (fun σ H Q => ∃ F env, Sta P F H σ env ∧ post (fun F' (v : List V) d => ∃ ds, d = .list ds ∧ DpAll P.K F' v ds) W σ F H (ev SS Φ (.lst as) env) fun vs H' => ∀ p, H' p = none → Q (.ref p) (upd H' p (.lst vs))) := by
  refine (pe_lst ha).imp fun σ H Q ⟨F, env, st, q⟩ => ⟨F, env, st, ?_⟩
  have q : post (fun F' (v : List V) d => ∃ ds, d = .list ds ∧ DpAll P.K F' v ds) W σ F H ((evs SS Φ as env).bind fun xs => if xs.length ≤ szl then .ok (PyData.list xs) else .bad) fun vs H' => ∀ p, H' p = none → Q (.ref p) (upd H' p (.lst vs)) := q
  refine post_seq q fun ds F1 H1 xs e1 x1 rx q1 => ?_
  split at q1
  · rename_i hz
    exact ⟨by rw [dps_len rx]; exact hz, q1 F1 H1 xs (Ext.refl x1.fh) ⟨ds, rfl, rx⟩⟩
  · exact q1.elim
theorem own_list (c : Ct P g X W Φ) {a : Ex} {p pf : Pos} (hx : glB X.env.scope x = true) (ex : x = "list") (hs : nst l = true) (ha : PE X l (rd P W (ev SS Φ a))) : PE X (.Call (.Name x pf) [l] [] p) (fun σ H Q => ∃ F env, Sta P F H σ env ∧ post (fun F' (v : List V) d => ∃ ds, d = .list ds ∧ DpAll P.K F' v ds) W σ F H (ev SS Φ (.blt .list a .nil) env) fun vs H' => ∀ p, H' p = none → Q (.ref p) (upd H' p (.lst vs))) := by
  obtain ⟨gx, dx, nx⟩ := gl_of hx
  refine (pe_callTy call_list_of gx (c.bl x (by subst ex; decide)) (by subst ex; exact boot_list) (pa_cons ha pa_nil (star_of hs)) nx dx (star_of hs) rfl).imp fun σ H Q ⟨F, env, st, q⟩ => ⟨F, env, st, ?_⟩
  have q : post (fun F' (v : List V) d => ∃ ds, d = .list ds ∧ DpAll P.K F' v ds) W σ F H ((ev SS Φ a env).bind fun x => bltR .list [x]) fun vs H' => ∀ p, H' p = none → Q (.ref p) (upd H' p (.lst vs)) := q
  refine post_seq q fun d F1 H1 v e1 x1 rx q1 => ?_
  cases d with
  | list ds =>
    obtain ⟨a, vs, rfl, qa, da⟩ := dp_lst rx
    rw [← c.k] at qa
    exact ⟨a, vs, rfl, .inl (x1.fh.seq qa), q1 F1 H1 vs (Ext.refl x1.fh) ⟨ds, rfl, da⟩⟩
  | tuple ds =>
    obtain ⟨a, vs, rfl, qa, da⟩ := dp_tup rx
    rw [← c.k] at qa
    exact ⟨a, vs, rfl, .inr (same_seqT x1.fh qa), q1 F1 H1 vs (Ext.refl x1.fh) ⟨ds, rfl, da⟩⟩
  | _ => exact q1.elim
theorem S_app (c : Sc P g sub X W Φ) {f : Env → Rs D} {n : Str} {p ap cp : Pos} (hv : chkV g X.env.scope i x = true) (en : n = "append") (hl : (ap.endLine == cp.line) = true) (hs : nst e = true) (he : PE X e (rd P W f)) :
    PS X (.Expr (.Call (.Attribute (.Name x p) n ap) [e] [] cp) pos) (rdS P W fun env => (match env[i]? with | some (some (.ow ds)) => exR (f env) env fun d => if ds.length < szl then .nx (env.set i (some (.ow (ds ++ [d])))) else .bad | _ => .bad)) := by
  subst en
  refine (ps_expr (pe_bm PySem.F.plainAttrs_list PySem.F.slot_list_append PySem.F.type_list_append mt_append (v_of c.ct hv) (pa_cons he pa_nil (star_of hs)) rfl (by rw [star_of hs]; rfl) hl (star_of hs) rfl)).imp fun D σ H ⟨B, F, env, st, sb, q⟩ => ?_
  dsimp only at q
  split at q
  case h_2 => exact q.elim
  rename_i ds e1
  obtain ⟨p, vs, e2, h0, h1, h2, h3⟩ := st.sl i _ e1
  refine ⟨_, e2, .inl ⟨rfl, vs, .of h2⟩, F, env, st, post_exR st sb q fun d F' H' v ef x1 rv q1 => ?_⟩
  split at q1
  case isFalse => exact q1.elim
  rename_i hz
  have st1 := st.mono x1
  obtain ⟨p', vs', e3, h4, h5, st2⟩ := st1.chg (es := ds ++ [d]) e1
  rw [e2] at e3
  cases e3
  exact ⟨p, vs', v, rfl, rfl, h4, by rw [dps_len h5]; exact hz, q1 _ _ _ (st2 _ (dps_app h5 (.cons rv .nil))) (sb.trans x1.ff)⟩
theorem list_extW (l : Addr) (items : Array Value) (n : Nat) (b : Addr) (items2 : Array Value) (n2 : Nat) (dd : Option Addr) (sl : Array (Option Value)) (hc0 : ¬(!items.isEmpty && Builtin.List.listTooLong (items.size + items2.size)) = true) (hc1 : items.size ≤ sizeLine) (hs2 : items.size + items2.size ≤ sizeLine + 1) :
    Meets (Builtin.«list.extend» ⟨[.ref l, .ref b], []⟩) (fun _ R s => s.heap.get? l = some { cls := .type "list", dict := none, data := .seq items n, slots := #[] } ∧ s.heap.get? b = some { cls := .type "list", dict := dd, data := .seq items2 n2, slots := sl } ∧ R (.ok (.ret Value.none)) { s with heap := s.heap.update l (Obj.mapSeq fun x => x ++ items2), toks := s.toks }) :=
  .of_wp fun prog w A R s h => by
    obtain ⟨hp, g, d, tk, os⟩ := s; obtain ⟨hl, hb, h⟩ := h; have f1 := AutoSeq1.idx_int; have f2 := AutoSeq1.sub_tuple_tuple; have f3 := AutoSeq1.sub_list_list; have f4 := AutoSeq1.sub_tuple_list; have f5 := AutoSeq1.sub_list_tuple
    have hz' : (items ++ items2).size ≤ sizeLine + 1 := by rw [Array.size_append]; exact hs2
    wp_walk using (wpAny_updateSeq hl rfl (hz := hc1) (_hz' := hz')), AutoSeq1.wpAny_loadPart' hl, AutoSeq1.wpAny_loadPart' hb; exact ⟨_, rfl, h⟩
def rExtA (K : PySem.W.Frag) : V → List V → Hp → VK → Prop := fun x vs H Q => ∃ l b xs zs, x = .ref l ∧ vs = [.ref b] ∧ H l = some (.lst xs) ∧ SqL K H b zs ∧ xs.length + zs.length ≤ sizeLine ∧ Q .non (upd H l (.lst (xs ++ zs)))
theorem mt_extA {X : Cx} : MtM X "list.extend" (rExtA X.K) := by
  intro pins s σ H x vs v us Q I rx rv h
  obtain ⟨l, b, xs, zs, rfl, rfl, hH, hB, hz, q⟩ := h
  cases rx
  obtain ⟨u, rfl, ru⟩ := rv.one
  cases ru
  obtain ⟨z, its, n, r, hl, e⟩ := I.lstM hH
  obtain ⟨its2, r2, ⟨o2, n2, e2, d1, d2, d3⟩, z2⟩ := I.list hB
  have hl2 := r2.length
  obtain ⟨oc2, od2, odt2, osl2⟩ := o2
  dsimp only at d1 d2 d3
  subst d1 d2 d3
  have hsz : its.toArray.size + its2.toArray.size ≤ sizeLine := by rw [List.size_toArray, List.size_toArray]; omega
  have hlong : ¬ (!its.toArray.isEmpty && Builtin.List.listTooLong (its.toArray.size + its2.toArray.size)) = true := by
    rw [notLongL hsz, Bool.and_false]
    exact Bool.false_ne_true
  refine call_meets F.slot_list_extend ⟨_, e, rfl⟩ F.entry_list_extend (F.args_list_extend_2 _ _)
    (list_extW l its.toArray n b its2.toArray n2 _ _ hlong (by rw [List.size_toArray]; omega) (by omega)) ⟨e, e2, ?_⟩
  refine ⟨.non, _, I.lset (its' := its ++ its2) hH e (by simp) (r.append r2) ?_, rfl, q⟩
  rw [List.length_append]
  omega
theorem S_ext (c : Sc P g sub X W Φ) {f : Env → Rs D} {n : Str} {p ap cp : Pos} (hv : chkV g X.env.scope i x = true) (en : n = "extend") (hl : (ap.endLine == cp.line) = true) (hs : nst e = true) (he : PE X e (rd P W f)) :
    PS X (.Expr (.Call (.Attribute (.Name x p) n ap) [e] [] cp) pos) (rdS P W fun env => (match env[i]? with | some (some (.ow ds)) => exR (f env) env fun d => (match d with | .list es => if ds.length + es.length ≤ szl then .nx (env.set i (some (.ow (ds ++ es)))) else .bad | _ => .bad) | _ => .bad)) := by
  subst en
  refine (ps_expr (pe_bm PySem.F.plainAttrs_list PySem.F.slot_list_extend PySem.F.type_list_extend mt_extA (v_of c.ct hv) (pa_cons he pa_nil (star_of hs)) rfl (by rw [star_of hs]; rfl) hl (star_of hs) rfl)).imp fun D σ H ⟨B, F, env, st, sb, q⟩ => ?_
  dsimp only at q
  split at q
  case h_2 => exact q.elim
  rename_i ds e1
  obtain ⟨p, vs, e2, h0, h1, h2, h3⟩ := st.sl i _ e1
  refine ⟨_, e2, .inl ⟨rfl, vs, .of h2⟩, F, env, st, post_exR st sb q fun d F' H' v ef x1 rv q1 => ?_⟩
  split at q1
  case h_2 => exact q1.elim
  rename_i es
  split at q1
  case isFalse => exact q1.elim
  rename_i hz
  have st1 := st.mono x1
  obtain ⟨a, ws, rfl, qa, da⟩ := dp_lst rv
  obtain ⟨p', vs', e3, h4, h5, st2⟩ := st1.chg (es := ds ++ es) e1
  rw [e2] at e3
  cases e3
  exact ⟨p, a, vs', ws, rfl, rfl, h4, by rw [c.ct.k]; exact x1.fh.seq qa, by rw [dps_len h5, dps_len da]; exact hz, q1 _ _ _ (st2 _ (dps_app h5 da)) (sb.trans x1.ff)⟩
theorem plcR_ix {n m : Nat} {d : PyData} (h : plcR n d = .ok m) : ∃ k, d = .int k ∧ ixN n k = some m := by
  cases d with
  | int k =>
    refine ⟨k, rfl, ?_⟩
    simp only [plcR] at h
    simp only [ixN]
    by_cases h0 : 0 ≤ k
    · rw [if_pos h0] at h ⊢
      by_cases h1 : k < n
      · rw [if_pos h1] at h ⊢
        injection h with h
        rw [h]
      · rw [if_neg h1] at h
        cases h
    · rw [if_neg h0] at h ⊢
      by_cases h1 : -(n : Int) ≤ k
      · rw [if_pos h1] at h ⊢
        injection h with h
        rw [h]
      · rw [if_neg h1] at h
        cases h
  | _ => cases h
theorem S_put (c : Sc P g sub X W Φ) {f fj : Env → Rs D} {p sp : Pos} (hv : chkV g X.env.scope i x = true) (hs : nsl l = true) (hn : nlc e = true) (hj : PE X l (rd P W fj)) (he : PE X e (rd P W f)) :
    PS X (.Assign [.Subscript (.Name x p) l sp] e pos) (rdS P W fun env => exR (f env) env fun d => (match env[i]? with | some (some (.ow ds)) => exR (fj env) env fun n => (match plcR ds.length n with | .ok m => .nx (env.set i (some (.ow (ds.set m d)))) | _ => .bad) | _ => .bad)) := by
  refine (ps_asg he (pg_sub (v_of c.ct hv) hj set_list (by cases l <;> first | exact fun _ => rfl | exact absurd hs Bool.false_ne_true)) (by show swapsWith e (some (.Subscript (.Name x p) l sp)) pos.line X.env = pure false; exact sw_no hn) rfl).imp fun D σ H ⟨B, F, env, st, sb, q⟩ => ⟨F, env, st, post_exR st sb q fun d F' H' v ef x1 rv q1 => ?_⟩
  split at q1
  case h_2 => exact q1.elim
  rename_i ds e1
  have st1 := st.mono x1
  obtain ⟨p, vs, e2, h0, h1, h2, h3⟩ := st1.sl i _ e1
  refine ⟨_, e2, F', env, st1, post_exR st1 (sb.trans x1.ff) q1 fun n F2 H2 w ej x2 rn q2 => ?_⟩
  cases em : plcR ds.length n with
  | bad => rw [em] at q2; exact q2.elim
  | exc k => rw [em] at q2; exact q2.elim
  | ok m =>
    rw [em] at q2
    have st2 := st1.mono x2
    obtain ⟨p', vs', e3, h4, h5, st3⟩ := st2.chg (es := ds.set m d) e1
    rw [e2] at e3
    cases e3
    obtain ⟨k, rfl, hk⟩ := plcR_ix em
    rw [dp_int rn]
    exact ⟨p, vs', k, m, rfl, rfl, h4, by rw [dps_len h5]; exact hk, q2 _ _ _ (st3 _ (dps_set (dp_mono x2.ff rv) m h5)) (sb.trans (x1.ff.trans x2.ff))⟩
theorem S_ret {f : Env → Rs D} (he : PE X e (rd P W f)) : PS X (.Return (some e) pos) (rdS P W fun env => exR (f env) env fun d => .rt (.fr d)) :=
  (ps_ret he).imp fun D σ H ⟨B, F, env, st, sb, q⟩ => ⟨F, env, st, post_exR st sb q fun d F' H' v e1 x1 rv q1 => q1 F' H' v (st.mono x1).ext (sb.trans x1.ff) rv⟩
theorem S_retN : PS X (.Return none pos) (rdS P W fun env => exR (.ok .none) env fun d => .rt (.fr d)) :=
  ps_retN.imp fun D σ H ⟨B, F, env, st, sb, q⟩ => q F H .non st.ext sb .non
theorem S_retO (c : Sc P g sub X W Φ) {p : Pos} (hv : chkV g X.env.scope i x = true) : PS X (.Return (some (.Name x p)) pos) (rdS P W fun env => (match env[i]? with | some (some (.ow ds)) => .rt (.ow ds) | some (some (.fr d)) => .rt (.fr d) | _ => .bad)) :=
  (ps_ret (v_of c.ct hv)).imp fun D σ H ⟨B, F, env, st, sb, q⟩ => by
    dsimp only at q
    split at q
    · rename_i ds e1
      obtain ⟨p, vs, e2, h0, h1, h2, h3⟩ := st.sl i _ e1
      exact ⟨_, e2, q F H p vs st.ext sb h0 h1 h2 h3⟩
    · rename_i d e1
      obtain ⟨v, e2, h1⟩ := st.sl i _ e1
      exact ⟨v, e2, q F H v st.ext sb h1⟩
    · exact q.elim
theorem S_exp {f : Env → Rs D} (hn : nlc e = true) (he : PE X e (rd P W f)) : PS X (.Expr e pos) (rdS P W fun env => exR (f env) env fun _ => .nx env) :=
  (ps_expr he (sw_no hn)).imp fun D σ H ⟨B, F, env, st, sb, q⟩ => ⟨F, env, st, post_exR st sb q fun d F' H' v e1 x1 rv q1 => q1 σ F' H' (st.mono x1) (sb.trans x1.ff)⟩
theorem S_nx {s : Stmt} (h : PS X s tNext) : PS X s (rdS P W fun env => .nx env) := h.imp fun D σ H ⟨B, F, env, st, sb, q⟩ => q σ F H st sb
theorem S_brk : PS X (.Break pos) (rdS P W fun env => .bk env) := ps_break.imp fun D σ H ⟨B, F, env, st, sb, q⟩ => q σ F H st sb
theorem S_cnt : PS X (.Continue pos) (rdS P W fun env => .ct env) := ps_continue.imp fun D σ H ⟨B, F, env, st, sb, q⟩ => q σ F H st sb
/-- a test -/
theorem post_tst {r : Rs PyData} {B F H : Hp} {σ : L2.St} {env : Env} {D : Ends} {fa fb : Fl} {Q : Bool → Hp → Prop} (st : Sta P F H σ env) (sb : Same B F) (q : goal P W D B (exR r env fun d => (match d with | .bool true => fa | .bool false => fb | _ => .bad)))
    (k : ∀ b F' H', r = .ok (.bool b) → Ext F H F' H' → goal P W D B (if b = true then fa else fb) → Q b H') : post RlB W σ F H (match (generalizing := false) r with | .ok (.bool b) => .ok (.bool b) | .exc k => .exc k | _ => .bad) Q := by
  cases r with
  | ok d =>
    cases d with
    | bool b =>
      refine fun F' H' v e r => ?_
      have ev : b = v := by
        have : PyData.bool b = .bool v := r
        cases this
        rfl
      subst ev
      refine k b F' H' rfl e ?_
      cases b <;> exact q
    | _ => exact q.elim
  | exc j => exact fun F' H' e => q σ F' H' (st.mono e) (sb.trans e.ff)
  | bad => exact q.elim
theorem S_if {fc : Env → Rs D} {fa fb : Env → Fl} {t : Expr} {a b : List Stmt} (hc : PT X t (rdB P W fc)) (ha : PSs X a (rdS P W fa)) (hb : PSs X b (rdS P W fb)) :
    PS X (.If t a b pos) (rdS P W fun env => exR (fc env) env fun d => (match d with | .bool true => fa env | .bool false => fb env | _ => .bad)) := by
  refine (ps_if hc ha hb).imp fun D σ H ⟨B, F, env, st, sb, q⟩ => ⟨F, env, st, post_tst st sb q fun b F' H' e1 x1 q1 => ?_⟩
  cases b with
  | true => exact ⟨B, F', env, st.mono x1, sb.trans x1.ff, q1⟩
  | false => exact ⟨B, F', env, st.mono x1, sb.trans x1.ff, q1⟩
theorem S_while (c : Sc P g sub X W Φ) {fc : Env → Rs D} {fb : Env → Fl} {t : Expr} {b : List Stmt} (hc : PT X t (rdB P W fc)) (hb : PSs X b (rdS P W fb)) : PS X (.While t b [] pos) (rdS P W fun env => wloop fc fb L env) := by
  refine (ps_while c.po hc hb).imp fun D σ H ⟨B, F, env, st, sb, q⟩ => ?_
  refine ⟨fun m σ H => ∃ F env, Sta P F H σ env ∧ Same B F ∧ goal P W D B (wloop fc fb m env), ⟨L, F, env, st, sb, q⟩, fun m σ H ⟨F, env, st, sb, q⟩ => ?_⟩
  cases m with
  | zero => exact q.elim
  | succ n =>
    have q : goal P W D B (exR (fc env) env fun d => (match d with
      | .bool true => (match fb env with
        | .nx e => wloop fc fb n e
        | .ct e => wloop fc fb n e
        | .bk e => .nx e
        | .rt s => .rt s
        | .xc k e => .xc k e
        | .bad => .bad)
      | .bool false => .nx env
      | _ => .bad)) := by
      unfold wloop at q
      cases e : fc env with
      | ok d =>
        rw [e] at q
        cases d with
        | bool b => cases b <;> exact q
        | _ => exact q
      | exc k => rw [e] at q; exact q
      | bad => rw [e] at q; exact q
    refine ⟨F, env, st, post_tst st sb q fun b F' H' e1 x1 q1 => ?_⟩
    cases b with
    | false => exact q1 σ F' H' (st.mono x1) (sb.trans x1.ff)
    | true =>
      rw [if_pos rfl] at q1 ⊢
      refine ⟨fun σ H => ∃ F env, Sta P F H σ env ∧ Same B F ∧ goal P W D B (wloop fc fb n env), fun σ' H' h => ⟨n, Nat.lt_succ_self n, h⟩, B, F', env, st.mono x1, sb.trans x1.ff, ?_⟩
      exact goal_loop (lp := wloop fc fb n) q1 fun σ F H e st sb q => ⟨F, e, st, sb, q⟩
theorem S_forX (c : Sc P g sub X W Φ) {tg : Expr} {gt : TG} {fi : Env → Rs (List D)} {fe : D → Env → Fl} {fb : Env → Fl} {b : List Stmt} (hh : g.hot = false) (hi : PI X tg l (rdI P W fi)) (hset : ∀ y, foldedSetIterable l X.env y = pure y) (hg : PG X tg gt) (hb : PSs X b (rdS P W fb))
    (key : ∀ d env F H σ v B D, Sta P F H σ env → Same B F → Dp P.K F v d → goal P W D B (fe d env) → gt v σ H fun σ' H' => rdS P W fb D σ' H') : PS X (.For tg l b [] pos) (rdS P W fun env => exR (fi env) env fun ds => floop fe ds env) := by
  refine (ps_for c.po (c.ct.calm hh) hi hg hb hset).imp fun D σ H ⟨B, F, env, st, sb, q⟩ => ⟨F, env, st, ?_⟩
  cases ei : fi env with
  | exc k => dsimp only at q; rw [ei] at q; exact fun F' H' e => q σ F' H' (st.mono e) (sb.trans e.ff)
  | bad => dsimp only at q; rw [ei] at q; exact q.elim
  | ok ds =>
    dsimp only at q
    rw [ei] at q
    have q : goal P W D B (floop fe ds env) := q
    refine fun F1 H1 J x1 y1 => ?_
    refine ⟨fun j m σ H => m + j = ds.length ∧ ∃ F2 env, Sta P F2 H σ env ∧ Same F1 F2 ∧ goal P W D F1 (floop fe (ds.drop j) env), ⟨ds.length, rfl, F1, env, st.mono x1, Same.refl F1, goal_up (sb.trans x1.ff) q⟩, fun j m σ H ⟨hm, F2, env, st, s2, q⟩ => ?_⟩
    by_cases hlt : j < ds.length
    · have hd : ds[j]? = some ds[j] := List.getElem?_eq_getElem hlt
      obtain ⟨go, yld⟩ := y1.step j ds[j] F2 H hd s2 st.same
      rw [List.drop_eq_getElem_cons hlt] at q
      refine .inr ⟨go, fun σ H => ∃ F2 env, Sta P F2 H σ env ∧ Same F1 F2 ∧ goal P W D F1 (floop fe (ds.drop (j + 1)) env), fun σ' H' h => ⟨m - 1, by omega, by omega, h⟩, fun v H' hy => ?_⟩
      obtain ⟨F3, x3, rv⟩ := yld v H' hy
      exact key ds[j] env F3 H' σ v F1 _ (st.mono x3) (s2.trans x3.ff) rv (goal_loop (lp := floop fe (ds.drop (j + 1))) q fun σ F H e st sb q => ⟨F, e, st, sb, q⟩)
    · have ej : j = ds.length := by omega
      subst ej
      rw [List.drop_of_length_le (Nat.le_refl _)] at q
      exact .inl ⟨y1.stop F2 H s2 st.same, q σ F2 H st s2⟩
theorem S_for (c : Sc P g sub X W Φ) {fi : Env → Rs (List D)} {fb : Env → Fl} {p : Pos} {b : List Stmt} (hh : g.hot = false) (hx : locN g X.env.scope i x = true) (hi : PI X (.Name x p) l (rdI P W fi)) (hset : ∀ y, foldedSetIterable l X.env y = pure y) (hb : PSs X b (rdS P W fb)) :
    PS X (.For (.Name x p) l b [] pos) (rdS P W fun env => exR (fi env) env fun ds => floop (fun d env => fb (env.set i (some (.fr d)))) ds env) := by
  obtain ⟨h1, h2⟩ := locN_of c.ct hx
  exact S_forX c hh hi hset (pg_name (i := i) (nd_of c.ct) h1 (.inl h2) (.inr h2)) hb fun d env F H σ v B D st sb rv q => ⟨B, F, _, st.putD rv, sb, q⟩
theorem S_for2 (c : Sc P g sub X W Φ) {fi : Env → Rs (List D)} {fb : Env → Fl} {p p2 tp : Pos} {k j : Nat} {z : Str} {b : List Stmt} (hh : g.hot = false) (hx : locN g X.env.scope i x = true) (hz : locN g X.env.scope j z = true) (hi : PI X (.Tuple [.Name x p, .Name z p2] k tp) l (rdI P W fi)) (hset : ∀ y, foldedSetIterable l X.env y = pure y) (hb : PSs X b (rdS P W fb)) :
    PS X (.For (.Tuple [.Name x p, .Name z p2] k tp) l b [] pos) (rdS P W fun env => exR (fi env) env fun ds => floop (fun d env => (match d with | .tuple [x, y] => fb ((env.set i (some (.fr x))).set j (some (.fr y))) | _ => .bad)) ds env) := by
  obtain ⟨h1, h2⟩ := locN_of c.ct hx
  obtain ⟨h3, h4⟩ := locN_of c.ct hz
  refine S_forX c hh hi hset (pg_tup (n := 2) (c.ct.calm hh) (pgs_cons (pg_name (i := i) (nd_of c.ct) h1 (.inl h2) (.inr h2)) (pgs_cons (pg_name (i := j) (nd_of c.ct) h3 (.inl h4) (.inr h4)) pgs_nil))) hb fun d env F H σ v B D st sb rv q => ?_
  split at q
  case h_2 => exact q.elim
  rename_i dx dy
  obtain ⟨a, vs, rfl, qa, da⟩ := dp_tup rv
  cases da with
  | cons r1 da =>
    cases da with
    | cons r2 da =>
      cases da
      refine ⟨a, _, rfl, by rw [c.ct.k]; exact same_seqT st.same qa, rfl, _, _, rfl, _, _, rfl, rfl, ?_⟩
      exact ⟨B, F, _, (st.putD r1).putD r2, sb, q⟩
theorem S_nil : PSs X [] (rdS P W fun env => .nx env) := pss_nil.imp fun D σ H ⟨B, F, env, st, sb, q⟩ => q σ F H st sb
theorem S_cons {s : Stmt} {ss : List Stmt} {f1 f2 : Env → Fl} (h1 : PS X s (rdS P W f1)) (h2 : PSs X ss (rdS P W f2)) : PSs X (s :: ss) (rdS P W fun env => (f1 env).seq f2) := by
  refine (pss_cons h1 h2).imp fun D σ H ⟨B, F, env, st, sb, q⟩ => ⟨B, F, env, st, sb, ?_⟩
  dsimp only at q
  cases e : f1 env with
  | nx env' => rw [e] at q; exact fun σ F H st sb => ⟨B, F, env', st, sb, q⟩
  | rt s => rw [e] at q; cases s <;> exact q
  | bk e' => rw [e] at q; exact q
  | ct e' => rw [e] at q; exact q
  | xc k e' => rw [e] at q; exact q
  | bad => rw [e] at q; exact q
theorem S_frz {ss : List Stmt} {f2 : Env → Fl} (h2 : PSs X ss (rdS P W f2)) : PSs X ss (rdS P W fun env => Fl.seq (match env[i]? with | some (some (.ow ds)) => .nx (env.set i (some (.fr (.list ds)))) | _ => .nx env) f2) := by
  refine h2.imp fun D σ H ⟨B, F, env, st, sb, q⟩ => ?_
  dsimp only at q
  split at q
  · rename_i ds e1
    obtain ⟨F', s', st'⟩ := st.freeze e1
    exact ⟨B, F', _, st', sb.trans s', q⟩
  · exact ⟨B, F, env, st, sb, q⟩
end
end Q

set_option Elab.async false
set_option linter.all false
set_option maxRecDepth 100000
set_option autoImplicit false
set_option maxHeartbeats 8000000
namespace Q
open PySem PySem.Spec PyProof.Rows L2
section
variable {P : Par} {g : Cfg} {sub : Nat → Nat → Bool} {X : Cx} {W : Wsh} {Φ : Fns} {L : Nat} {e l r z : Expr} {es : List Expr} {pos : Pos} {x : Str} {i : Nat}
theorem handB_of {k : Nat} {sc : Scope} (h : handB g k sc x = true) : g.hot = false ∧ glB sc x = true ∧ g.cs[k]? = some x := by
  unfold handB at h
  rw [Bool.and_eq_true, Bool.and_eq_true, decide_eq_true_eq] at h
  exact ⟨by simpa using h.1.1, h.1.2, h.2⟩
theorem S_rse (c : Sc P g sub X W Φ) {k : Nat} {f : Env → Rs D} {p pos' : Pos} (h1 : g.hot = false) (h2 : glB X.env.scope x = true) (h3 : g.rs[k]? = some x) (hs : nst e = true) (he : PE X e (rd P W f)) : PS X (.Raise (some (.Call (.Name x p) [e] [] pos)) none pos') (rdS P W fun env => exR (f env) env fun _ => .xc k env) := by
  obtain ⟨C, bmB, Bs, n1, n2, e1, e2, F, q1, q2, q3⟩ := c.rz k x h3
  obtain ⟨gx, dx, _⟩ := gl_of h2
  refine (ps_raise (c.ct.calm h1) c.tk (SkE.pmk_own1 F q1 e2 q2 q3 gx he (star_of hs) dx)).imp fun D σ H ⟨B, F, env, st, sb, q⟩ => ⟨F, env, st, post_exR st sb q fun d F' H' v e3 x1 rv q4 => ?_⟩
  exact ⟨k, e1.symm, rfl, q4 σ F' H' (st.mono x1) (sb.trans x1.ff)⟩
theorem names_of (c : Sc P g sub X W Φ) {k : Nat} (hb : handB g k X.env.scope x = true) : ∃ cv, Names X x cv ∧ ∀ j, PySem.W.exmOne X.K (P.cls j) cv = some (sub j k) := by
  obtain ⟨h1, h2, h3⟩ := handB_of hb
  obtain ⟨gx, _, _⟩ := gl_of h2
  obtain ⟨n1, cv, n2, n3⟩ := c.nm k x h3
  exact ⟨cv, ⟨gx, n1, n2⟩, n3⟩
theorem er_no {env : Env} (h : noEr env = true) {i k : Nat} (e : env[i]? = some (some (.er k))) : False := by
  have := List.all_eq_true.mp h _ (List.mem_of_getElem? e)
  cases this
/-- no caught error lies in the slots: which are there does not matter -/
theorem Sta.era {P : Par} {F H : Hp} {σ : L2.St} {env : Env} (s : Sta P F H σ env) (h : noEr env = true) (ER : Addr → Nat → Prop) : Sta { P with ER := ER } F H σ env :=
  ⟨s.len, s.ext, fun i z e => by
    have q := s.sl i z e
    cases z with
    | fr d => exact q
    | ow ds => exact q
    | er k => exact (er_no h e).elim, s.ds⟩
theorem Sta.unera {P : Par} {ER : Addr → Nat → Prop} {F H : Hp} {σ : L2.St} {env : Env} (s : Sta { P with ER := ER } F H σ env) (h : noEr env = true) : Sta P F H σ env :=
  ⟨s.len, s.ext, fun i z e => by
    have q := s.sl i z e
    cases z with
    | fr d => exact q
    | ow ds => exact q
    | er k => exact (er_no h e).elim, s.ds⟩
/-- the end of a suite -/
theorem goal_sfin {ER : Addr → Nat → Prop} {D D' : Ends} {B : Hp} {fe : Env → Env} {fs : L2.St → L2.St} (hS : ∀ {F H : Hp} {σ : L2.St} {env : Env}, Sta { P with ER := ER } F H σ env → Sta { P with ER := ER } F H (fs σ) (fe env))
    (h1 : ∀ σ H, D.nx (fs σ) H → D'.nx σ H) (h2 : ∀ v H, D.rt v H → D'.rt v H) (h3 : ∀ σ H, D.bk (fs σ) H → D'.bk σ H) (h4 : ∀ σ H, D.ct (fs σ) H → D'.ct σ H) {r : Fl} (q : goal P W D B (sfin fe r)) : goal { P with ER := ER } Wno D' B r := by
  cases r with
  | nx e =>
    intro σ F H st sb
    simp only [sfin] at q
    split at q
    · exact h1 _ _ (q _ F H ((hS st).unera ‹_›) sb)
    · exact q.elim
  | bk e =>
    intro σ F H st sb
    simp only [sfin] at q
    split at q
    · exact h3 _ _ (q _ F H ((hS st).unera ‹_›) sb)
    · exact q.elim
  | ct e =>
    intro σ F H st sb
    simp only [sfin] at q
    split at q
    · exact h4 _ _ (q _ F H ((hS st).unera ‹_›) sb)
    · exact q.elim
  | rt s =>
    cases s with
    | fr d => exact fun F H v a b c => h2 _ _ (q F H v a b c)
    | ow d => exact fun F H p vs a b c d e f => h2 _ _ (q F H p vs a b c d e f)
    | er k => exact q
  | xc k e => exact (show False from q).elim
  | bad => exact q
/-- the suite behind a catch -/
def suiteR (P : Par) (sa : Bool) (fh : Env → Fl) : Addr → Value → Option Addr → TS := fun a cls d D σ H => ∃ j, cls = P.cls j ∧ d = none ∧ rdS { P with ER := fun b k => b = a ∧ k = j } Wno fh D σ H
theorem suite_of (c : Sc P g sub X W Φ) {k0 : Nat} (hx : handB g k0 X.env.scope x = true) {h : List Stmt} {fh : Env → Fl} (hh : ∀ (P' : Par) (X' : Cx), Sc P' { g with hot := true } sub X' Wno Φ → X'.env = X.env → PSs X' h (rdS P' Wno fh)) (sa : Bool)
    (a : Addr) (oe : Obj) (cls : Value) (d : Option Addr) (pn : List (Addr × Obj)) (hz : Zc cls d oe) (hv : ∃ vs, oe.data = .fields vs) : PSs (X.suite a ((a, oe) :: pn)) h (suiteR P sa fh a cls d) := by
  refine ⟨fun pins s σ H D I ⟨j, e1, e2, q⟩ => ?_⟩
  subst e1 e2
  obtain ⟨C, e3, e4⟩ := c.ex k0 x (handB_of hx).2.2 j
  exact (hh _ _ (c.suite (fun b k => b = a ∧ k = j) fun b k ⟨h1, h2⟩ => by
    subst h1 h2
    exact ⟨oe, C, List.mem_cons_self, e3, e4, by rw [← e3]; exact hz, hv⟩) rfl).run pins s σ H D I q
abbrev unW (P : Par) (W' : L2.WX) : Wsh := fun k σ H => W' (P.cls k) none σ H
theorem wx_unW {W' : L2.WX} (c : Value) (d : Option Addr) (σ : L2.St) (H : Hp) (h : wxOf P (unW P W') c d σ H) : W' c d σ H := by
  obtain ⟨k, rfl, rfl, h⟩ := h
  exact h
theorem body_of (c : Sc P g sub X W Φ) (hh : g.hot = false) {b : List Stmt} {fb : Env → Fl} (hb : ∀ (X' : Cx) (W' : Wsh), Sc P g sub X' W' Φ → X'.env = X.env → PSs X' b (rdS P W' fb))
    (W' : L2.WX) (pn : List (Addr × Obj)) (xe : Value → Shared → Prop) (tk : L2.Takes (X.tr pn xe) W') (po : PassesOwn (model X.prog X.w) X.A X.env xe) : PSs (X.tr pn xe) b (rdS P (unW P W') fb) :=
  hb _ _ (c.tr hh pn (tk.imp wx_unW) po) rfl
theorem S_tryO (c : Sc P g sub X W Φ) {k : Nat} {b hs : List Stmt} {z : Stmt} {np p' : Pos} {fb fh : Env → Fl} (hn : handB g k X.env.scope x = true) (hb : ∀ (X' : Cx) (W' : Wsh), Sc P g sub X' W' Φ → X'.env = X.env → PSs X' b (rdS P W' fb))
    (hh : ∀ (P' : Par) (X' : Cx), Sc P' { g with hot := true } sub X' Wno Φ → X'.env = X.env → PSs X' (z :: hs) (rdS P' Wno fh)) :
    PS X (.Try b [.ExceptHandler (some (.Name x np)) none (z :: hs) p'] [] [] pos) (rdS P W fun env => catch1 sub (fb env) k fun _ e => if noEr e = true then sfin (fun e => e) (fh e) else .bad) := by
  obtain ⟨cv, hcv, hem⟩ := names_of c hn
  refine (ps_try_only (tb := fun W' => rdS P (unW P W') fb) c.stk c.fr hcv c.tk (body_of c (handB_of hn).1 hb) (suite_of c hn hh true)).imp fun D σ H ⟨B, F, env, st, sb, q⟩ => ⟨B, F, env, st, sb, ?_⟩
  dsimp only at q
  cases e : fb env with
  | nx _ => rw [e] at q; exact q
  | bk _ => rw [e] at q; exact q
  | ct _ => rw [e] at q; exact q
  | rt s => rw [e] at q; cases s <;> exact q
  | bad => rw [e] at q; exact q
  | xc j e' =>
    rw [e] at q
    have q : goal P W D B (if sub j k = true then (if noEr e' = true then sfin (fun e => e) (fh e') else .bad) else .xc j e') := q
    refine fun σ F H st sb => ⟨sub j k, hem j, fun hb a na => ⟨j, rfl, rfl, ?_⟩, fun hb => ⟨j, rfl, rfl, ?_⟩⟩
    · rw [if_pos hb] at q
      split at q
      · exact ⟨B, F, e', st.era ‹_› _, sb, goal_sfin (D := D) (fe := fun e => e) (fs := fun σ => σ) (fun s => s) (fun _ _ h => h) (fun _ _ h => h) (fun _ _ h => h) (fun _ _ h => h) q⟩
      · exact q.elim
    · rw [if_neg (by rw [hb]; exact Bool.false_ne_true)] at q
      exact q σ F H st sb
theorem S_tryA (c : Sc P g sub X W Φ) {k : Nat} {b hs : List Stmt} {z : Stmt} {n : Str} {np p' : Pos} {fb fh : Env → Fl} (hn : handB g k X.env.scope x = true) (hi : locN g X.env.scope i n = true) (hb : ∀ (X' : Cx) (W' : Wsh), Sc P g sub X' W' Φ → X'.env = X.env → PSs X' b (rdS P W' fb))
    (hh : ∀ (P' : Par) (X' : Cx), Sc P' { g with hot := true } sub X' Wno Φ → X'.env = X.env → PSs X' (z :: hs) (rdS P' Wno fh)) :
    PS X (.Try b [.ExceptHandler (some (.Name x np)) (some n) (z :: hs) p'] [] [] pos) (rdS P W fun env => catch1 sub (fb env) k fun j e => if noEr e = true then sfin (fun e => e.set i none) (fh (e.set i (some (.er j)))) else .bad) := by
  obtain ⟨cv, hcv, hem⟩ := names_of c hn
  obtain ⟨i1, i2⟩ := locN_of c.ct hi
  refine (ps_try_as (tb := fun W' => rdS P (unW P W') fb) c.stk c.fr (nd_of c.ct) i1 i2 hcv c.tk (body_of c (handB_of hn).1 hb) (suite_of c hn hh true)).imp fun D σ H ⟨B, F, env, st, sb, q⟩ => ⟨B, F, env, st, sb, ?_⟩
  dsimp only at q
  cases e : fb env with
  | nx _ => rw [e] at q; exact q
  | bk _ => rw [e] at q; exact q
  | ct _ => rw [e] at q; exact q
  | rt s => rw [e] at q; cases s <;> exact q
  | bad => rw [e] at q; exact q
  | xc j e' =>
    rw [e] at q
    have q : goal P W D B (if sub j k = true then (if noEr e' = true then sfin (fun e => e.set i none) (fh (e'.set i (some (.er j)))) else .bad) else .xc j e') := q
    refine fun σ F H st sb => ⟨sub j k, hem j, fun hb a na => ⟨j, rfl, rfl, ?_⟩, fun hb => ⟨j, rfl, rfl, ?_⟩⟩
    · rw [if_pos hb] at q
      split at q
      · rename_i hne
        refine ⟨B, F, _, (st.era hne (fun b k => b = a ∧ k = j)).put (z := .er j) (x := .ref a) (fun _ z => nomatch z) ⟨a, rfl, rfl, rfl⟩, sb, ?_⟩
        refine goal_sfin (D := D) (fe := fun e => e.set i none) (fs := fun σ => σ.set i none) (fun s => s.forget i none) ?_ ?_ ?_ ?_ q
        · exact fun _ _ h => h
        · exact fun _ _ h => h
        · exact fun _ _ h => h
        · exact fun _ _ h => h
      · exact q.elim
    · rw [if_neg (by rw [hb]; exact Bool.false_ne_true)] at q
      exact q σ F H st sb
end
end Q

set_option Elab.async false
set_option linter.all false
set_option maxRecDepth 100000
set_option autoImplicit false
set_option maxHeartbeats 8000000
namespace Q
open PySem PySem.Spec PyProof.Rows L2
/-! ### match -/
/-- cases, for a value in hand -/
abbrev TM := V → TS
structure PMs (X : Cx) (l : List MatchCase) (t : TM) : Prop where
  run : ∀ (first : Bool) (pins : List (Addr × Obj)) (s : Shared) (σ : L2.St) (H : Hp) (D : Ends) (v : V) (u : Value), Inv X pins σ H s → RelV v u → t v D σ H → wpAny (model X.prog X.w) X.A (matchCases l X.env u first) (SP X pins D) X.xe s
def rdM (P : Par) (W : Wsh) (f : PyData → Env → Fl) : TM := fun v D σ H => ∃ B F env d, Sta P F H σ env ∧ Same B F ∧ Dp P.K F v d ∧ goal P W D B (f d env)
/-- what a pattern has bound -/
inductive Bd (g : Cfg) (K : Fg) (F : Hp) (sc : Scope) : List (Nat × PyData) → List (Str × Value) → Prop
  | nil : Bd g K F sc [] []
  | cons {i : Nat} {d : PyData} {x : Str} {v : V} {u : Value} {bs : List (Nat × PyData)} {us : List (Str × Value)} (h : locN g sc i x = true) (r : RelV v u) (q : Dp K F v d) (t : Bd g K F sc bs us) : Bd g K F sc ((i, d) :: bs) ((x, u) :: us)
theorem Bd.app {g : Cfg} {K : Fg} {F : Hp} {sc : Scope} {b1 b2 : List (Nat × PyData)} {u1 u2 : List (Str × Value)} (h : Bd g K F sc b1 u1) (h2 : Bd g K F sc b2 u2) : Bd g K F sc (b1 ++ b2) (u1 ++ u2) := by
  induction h with
  | nil => exact h2
  | cons a b c _ ih => exact .cons a b c ih
section
variable {P : Par} {g : Cfg} {sub : Nat → Nat → Bool} {X : Cx} {W : Wsh} {Φ : Fns} {pos : Pos}
/-- a pattern's answer -/
def PtQ (g : Cfg) (X : Cx) (K : Fg) (F H : Hp) (pins : List (Addr × Obj)) (σ : L2.St) (r : Option (List (Nat × PyData))) (o : Option (List (Str × Value))) (s : Shared) : Prop :=
  Inv X pins σ H s ∧ match r, o with
    | none, none => True
    | some bs, some us => Bd g K F X.env.scope bs us
    | _, _ => False
theorem p1_ok (c : Sc P g sub X W Φ) {q : P1} {p : Pattern} (hp : chkP1 g q X.env.scope p = true) {pins : List (Addr × Obj)} {s : Shared} {σ : L2.St} {F H : Hp} {v : V} {u : Value} {d : PyData} {r : Option (List (Nat × PyData))} (I : Inv X pins σ H s) (sf : Same F H) (rv : RelV v u) (dv : Dp P.K F v d) (e : p1R SS q d = .ok r) :
    wpAny (model X.prog X.w) X.A (matchPattern p X.env u) (PtQ g X P.K F H pins σ r) X.xe s := by
  cases q with
  | w =>
    simp only [chkP1] at hp
    split at hp
    · cases e
      exact wpAny_matchPattern_Capture ⟨I, .nil⟩
    · exact no_of hp
  | v i =>
    simp only [chkP1] at hp
    split at hp
    · cases e
      exact wpAny_matchPattern_Capture ⟨I, .cons hp rv dv .nil⟩
    · exact no_of hp
  | s x =>
    simp only [chkP1] at hp
    split at hp
    · obtain rfl := dec1 hp
      have e : ((eqR SS d (.str x)).bind fun b => .ok (if b = true then some [] else none)) = .ok r := e
      cases eb : eqR SS d (.str x) with
      | exc k => rw [eb] at e; cases e
      | bad => rw [eb] at e; cases e
      | ok b =>
        rw [eb] at e
        have er : (if b = true then some [] else none) = r := Rs.ok.inj e
        refine wpAny_matchPattern_Value (Calls.Constant_str (thn (c_all c.ct.un .eq pins _ σ H v (.str x) u _ (fun z H2 => z = .bl b ∧ H2 = H) (I.tok _) rv ⟨_, rfl⟩ ⟨F, d, .str x, sf, by rw [c.ct.k]; exact dv, .str x, ?_⟩) fun w s2 ⟨z, H2, I2, rz, ez, eH⟩ => ?_))
        · show yB (eqR SS d (.str x)) _
          rw [eb]
          exact ⟨rfl, rfl⟩
        · subst ez eH
          obtain rfl : w = Value.bool b := rz
          refine wpAny_truthy_bool ?_
          cases b with
          | true => subst er; exact ⟨I2, .nil⟩
          | false => subst er; exact ⟨I2, trivial⟩
    · exact no_of hp
theorem notStar (c : Sc P g sub X W Φ) {q : P1} {p : Pattern} (hp : chkP1 g q X.env.scope p = true) : p.isStar = false := by
  cases q <;> (simp only [chkP1] at hp; split at hp) <;> first | rfl | exact no_of hp | cases hp
theorem ps_ok (c : Sc P g sub X W Φ) {pins : List (Addr × Obj)} {σ : L2.St} {F H : Hp} (sf : Same F H) (qs : List P1) : ∀ (ps : List Pattern) (hp : chkPs g qs X.env.scope ps = true) (s : Shared) (vs : List V) (us : List Value) (ds : List PyData) (r : Option (List (Nat × PyData))) (I : Inv X pins σ H s) (rv : Vals vs us) (dv : DpAll P.K F vs ds) (e : psR SS qs ds = .ok r),
    wpAny (model X.prog X.w) X.A (matchEach ps X.env us) (PtQ g X P.K F H pins σ r) X.xe s := by
  induction qs with
  | nil =>
    intro ps hp s vs us ds r I rv dv e
    cases ps with
    | cons _ _ => exact no_of hp
    | nil =>
      cases ds with
      | cons _ _ => cases e
      | nil =>
        cases e
        exact wpAny_matchEach_nil ⟨I, .nil⟩
  | cons q qs ih =>
    intro ps hp s vs us ds r I rv dv e
    cases ps with
    | nil => exact no_of hp
    | cons p ps =>
      have hp : (chkP1 g q X.env.scope p && chkPs g qs X.env.scope ps) = true := hp
      obtain ⟨h1, h2⟩ := and2 hp
      cases dv with
      | nil => cases e
      | cons dv dvs =>
        rename_i v vs d ds
        cases rv with
        | cons rv rvs =>
          have e : ((p1R SS q d).bind fun r => (match r with
            | none => .ok none
            | some bs => (psR SS qs ds).bind fun q => .ok (match q with
              | none => none
              | some more => some (bs ++ more)))) = .ok r := e
          cases e1 : p1R SS q d with
          | exc k => rw [e1] at e; cases e
          | bad => rw [e1] at e; cases e
          | ok r1 =>
            rw [e1] at e
            refine wpAny_matchEach_cons (thn (p1_ok c h1 I sf rv dv e1) fun o s1 ⟨I1, q1⟩ => ?_) (notStar c h1)
            cases r1 with
            | none =>
              cases o with
              | none =>
                have er : none = r := Rs.ok.inj e
                subst er
                exact ⟨I1, trivial⟩
              | some us1 => exact q1.elim
            | some bs =>
              cases o with
              | none => exact q1.elim
              | some us1 =>
                have q1 : Bd g P.K F X.env.scope bs us1 := q1
                have e : ((psR SS qs ds).bind fun q => .ok (match q with
                  | none => none
                  | some more => some (bs ++ more))) = .ok r := e
                cases e2 : psR SS qs ds with
                | exc k => rw [e2] at e; cases e
                | bad => rw [e2] at e; cases e
                | ok r2 =>
                  rw [e2] at e
                  have er := Rs.ok.inj e
                  refine thn (ih ps h2 s1 _ _ ds r2 I1 rvs dvs e2) fun o2 s2 ⟨I2, q2⟩ => ?_
                  cases r2 with
                  | none =>
                    cases o2 with
                    | none => subst er; exact ⟨I2, trivial⟩
                    | some _ => exact q2.elim
                  | some more =>
                    cases o2 with
                    | none => exact q2.elim
                    | some us2 =>
                      subst er
                      exact ⟨I2, q1.app q2⟩
theorem noStars (c : Sc P g sub X W Φ) : ∀ {qs : List P1} {ps : List Pattern}, chkPs g qs X.env.scope ps = true → ps.findIdx? (·.isStar) = none ∧ qs.length = ps.length
  | [], [], _ => ⟨rfl, rfl⟩
  | [], _ :: _, hp => no_of hp
  | _ :: _, [], hp => no_of hp
  | q :: qs, p :: ps, hp => by
    have hp : (chkP1 g q X.env.scope p && chkPs g qs X.env.scope ps) = true := hp
    obtain ⟨h1, h2⟩ := and2 hp
    obtain ⟨h3, h4⟩ := noStars c h2
    exact ⟨by rw [List.findIdx?_cons, notStar c h1, h3]; rfl, by rw [List.length_cons, List.length_cons, h4]⟩
theorem small63 {n : Nat} (h : n ≤ sizeLine) : (n : Int) < 2 ^ 63 := by
  rw [sizeLine_eq] at h
  omega
theorem pt_ok (c : Sc P g sub X W Φ) (hc : g.hot = false) {q : Pt} {p : Pattern} (hp : chkPt g q X.env.scope p = true) {pins : List (Addr × Obj)} {s : Shared} {σ : L2.St} {F H : Hp} {v : V} {u : Value} {d : PyData} {r : Option (List (Nat × PyData))} (I : Inv X pins σ H s) (sf : Same F H) (rv : RelV v u) (dv : Dp P.K F v d) (e : ptR SS q d = .ok r) :
    wpAny (model X.prog X.w) X.A (matchPattern p X.env u) (PtQ g X P.K F H pins σ r) X.xe s := by
  cases q with
  | one q => exact p1_ok c hp I sf rv dv e
  | seq qs =>
    simp only [chkPt] at hp
    split at hp
    case h_2 => exact no_of hp
    rename_i ps pos'
    obtain ⟨h1, h3⟩ := and2 hp
    obtain ⟨h1, h2⟩ := and2 h1
    obtain ⟨hs, hl⟩ := noStars c h1
    have hw : (ps.all fun p => p.isWildcard || (p.isStar && p.names.isEmpty)) = false := not1 h2
    have hd := I.ok.hd (c.ct.calm hc)
    have miss : ∀ {T : String}, s.TypeIs u T → flagOfType true (.type T) = pure false → r = none → wpAny (model X.prog X.w) X.A (matchPattern (.MatchSequence ps pos') X.env u) (PtQ g X P.K F H pins σ r) X.xe s := fun {T} hT hf er => by
      subst er
      exact wpAny_matchPattern_Sequence (wpAny_collectionFlag hT hf ⟨I, trivial⟩) hs hw
    cases dv with
    | non =>
      obtain rfl : u = Value.none := rv
      exact miss (T := "NoneType") (typeIs_none s) flag_seq_None (Rs.ok.inj e).symm
    | bl b =>
      obtain rfl : u = Value.bool b := rv
      exact miss (T := "bool") rfl flag_seq_bool (Rs.ok.inj e).symm
    | int i =>
      obtain ⟨t, rfl⟩ := rv
      exact miss (T := "int") rfl flag_seq_int (Rs.ok.inj e).symm
    | str x =>
      obtain ⟨t, rfl⟩ := rv
      exact miss (T := "str") rfl flag_seq_str (Rs.ok.inj e).symm
    | lst qa da =>
      rename_i a vs ds
      obtain rfl : u = Value.ref a := rv
      rw [← c.ct.k] at qa
      obtain ⟨its, rvs, pl, hz⟩ := I.list (sf.seq qa)
      have hL := pl.isList
      have en : its.toArray.size = ds.length := by rw [List.size_toArray, ← rvs.length, dps_len da]
      have hfit : (its.toArray.size : Int) < 2 ^ 63 := small63 (by rw [List.size_toArray, ← rvs.length]; exact hz)
      have e : (if ds.length = qs.length then psR SS qs ds else .ok none) = .ok r := e
      by_cases hn : ds.length = qs.length
      · rw [if_pos hn] at e
        refine matchSeq_list_hit hL hfit (by rw [en, hn, hl]) ?_ hs hw
        rw [show ps.length = its.toArray.size by rw [en, hn, hl]]
        refine PySem.W.kun_itemsOf hd (s := { s with toks := s.toks + 1 + 1 }) hL fun h2 hx => ?_
        have I2 : Inv X pins σ H { s with heap := h2, toks := s.toks + 1 + 1 } := I.kept (t' := s.toks + 1 + 1) fun b o eo => hx b o (Nat.ne_of_lt (Heap.lt_size eo)) eo
        exact ps_ok c sf _ _ h1 _ _ _ _ _ I2 (by simpa using rvs) da e
      · rw [if_neg hn] at e
        have er := Rs.ok.inj e
        subst er
        exact matchSeq_list_miss hL hfit (by rw [en, ← hl]; exact hn) ⟨I.kept (t' := s.toks + 1 + 1) (h' := s.heap) fun _ _ z => z, trivial⟩ hs hw
    | tup qa da =>
      rename_i a vs ds
      obtain rfl : u = Value.ref a := rv
      rw [← c.ct.k] at qa
      obtain ⟨its, rvs, pl, hz⟩ := I.tuple (same_seqT sf qa)
      have en : its.toArray.size = ds.length := by rw [List.size_toArray, ← rvs.length, dps_len da]
      have hfit : (its.toArray.size : Int) < 2 ^ 63 := small63 (by rw [List.size_toArray, ← rvs.length]; exact hz)
      have e : (if ds.length = qs.length then psR SS qs ds else .ok none) = .ok r := e
      by_cases hn : ds.length = qs.length
      · rw [if_pos hn] at e
        refine matchSeq_tuple_hit pl hfit (by rw [en, hn, hl]) ?_ hs hw
        rw [show ps.length = its.toArray.size by rw [en, hn, hl]]
        refine wpAny_unpackItems_tuple hd (s := { s with toks := s.toks + 1 + 1 }) (show s.heap.IsTuple a its.toArray from pl) fun h2 hx => ?_
        have I2 : Inv X pins σ H { s with heap := h2, toks := s.toks + 1 + 1 } := I.kept (t' := s.toks + 1 + 1) fun b o eo => hx b o (Nat.ne_of_lt (Heap.lt_size eo)) eo
        exact ps_ok c sf _ _ h1 _ _ _ _ _ I2 (by simpa using rvs) da e
      · rw [if_neg hn] at e
        have er := Rs.ok.inj e
        subst er
        exact matchSeq_tuple_miss pl hfit (by rw [en, ← hl]; exact hn) ⟨I.kept (t' := s.toks + 1 + 1) (h' := s.heap) fun _ _ z => z, trivial⟩ hs hw
/-- the names are stored -/
theorem bd_ok (c : Sc P g sub X W Φ) {F H : Hp} {pins : List (Addr × Obj)} {Q : Unit → Shared → Prop} : ∀ {bs : List (Nat × PyData)} {us : List (Str × Value)} {s : Shared} {σ : L2.St} {env : Env}, Bd g P.K F X.env.scope bs us → Inv X pins σ H s → Sta P F H σ env → (∀ s2 σ2, Inv X pins σ2 H s2 → Sta P F H σ2 (bindE bs env) → Q () s2) →
    wpAny (model X.prog X.w) X.A (assignInOrder (us.map fun (n, _) => bindName X.env n) (us.map (·.2))) Q X.xe s
  | _, _, s, σ, env, .nil, I, st, h => wpAny_assignInOrder_none (h s σ I st)
  | _, _, s, σ, env, .cons hx r q t, I, st, h => by
    obtain ⟨h1, h2⟩ := locN_of c.ct hx
    exact wpAny_assignInOrder_more (wpAny_bindName (store_ok I (nd_of c.ct) h1 (.inl h2) r (fun s2 I2 => bd_ok c t I2 (st.putD q) h) (.inr h2)))
theorem M_nil : PMs X [] (rdM P W fun _ env => .nx env) := ⟨fun first pins s σ H D v u I rv ⟨B, F, env, d, st, sb, dv, q⟩ => wpAny_matchCases_nil ⟨σ, H, I, q σ F H st sb⟩⟩
theorem M_cons (c : Sc P g sub X W Φ) (hh : g.hot = false) {q : Pt} {p : Pattern} {body : List Stmt} {rest : List MatchCase} {fb : Env → Fl} {fr : PyData → Env → Fl} (hp : chkPt g q X.env.scope p = true) (hb : PSs X body (rdS P W fb)) (hr : PMs X rest (rdM P W fr)) :
    PMs X (⟨p, none, body⟩ :: rest) (rdM P W fun d env => (match ptR SS q d with
      | .ok none => fr d env
      | .ok (some bs) => fb (bindE bs env)
      | _ => .bad)) := by
  refine ⟨fun first pins s σ H D v u I rv ⟨B, F, env, d, st, sb, dv, qg⟩ => ?_⟩
  cases e : ptR SS q d with
  | exc k => simp only [e] at qg; exact qg.elim
  | bad => simp only [e] at qg; exact qg.elim
  | ok r =>
    refine wpAny_matchCases_cons (thn (pt_ok c hh hp I st.same rv dv e) fun o s1 ⟨I1, q1⟩ => ?_)
    cases r with
    | none =>
      simp only [e] at qg
      cases o with
      | none => exact hr.run false pins s1 σ H D v u I1 rv ⟨B, F, env, d, st, sb, dv, qg⟩
      | some _ => exact q1.elim
    | some bs =>
      simp only [e] at qg
      cases o with
      | none => exact q1.elim
      | some us => exact bd_ok c q1 I1 st fun s2 σ2 I2 st2 => hb.run pins s2 σ2 H D I2 ⟨B, F, _, st2, sb, qg⟩
theorem S_mat {e : Expr} {l : List MatchCase} {f : Env → Rs D} {fm : PyData → Env → Fl} (he : PE X e (rd P W f)) (hm : PMs X l (rdM P W fm)) : PS X (.Match e l pos) (rdS P W fun env => exR (f env) env fun d => fm d env) := by
  refine ⟨fun pins s σ H D I ⟨B, F, env, st, sb, q⟩ => ?_⟩
  refine wpAny_Match (thn (he.run pins s σ H (fun v H1 => ∃ B F env d, Sta P F H1 σ env ∧ Same B F ∧ Dp P.K F v d ∧ goal P W D B (fm d env)) I ⟨F, env, st, post_exR st sb q fun d F1 H1 v e1 x1 rv q1 => ⟨B, F1, env, d, st.mono x1, sb.trans x1.ff, rv, q1⟩⟩) fun u s1 ⟨v, H1, I1, r1, q1⟩ => ?_)
  exact hm.run true pins s1 σ H1 D v u I1 r1 q1
end
end Q

set_option Elab.async false
set_option linter.all false
set_option maxRecDepth 100000
set_option autoImplicit false
set_option maxHeartbeats 8000000
namespace Q
open PySem PySem.Spec PyProof.Rows L2
/-! ### several except clauses, with and without names -/
abbrev Cla := Value × Option Nat × (Addr → Value → Option Addr → TS)
def cutE (i : Nat) (D : Ends) : Ends := { nx := fun σ H => D.nx (σ.set i none) H, rt := D.rt, bk := fun σ H => D.bk (σ.set i none) H, ct := fun σ H => D.ct (σ.set i none) H }
def wMix (K : Fg) (Wout : L2.WX) (D : Ends) : List Cla → L2.WX
  | [] => Wout
  | (c, none, ts) :: r => fun cls d σ H => ∃ b, PySem.W.exmOne K cls c = some b ∧ (b = true → ∀ a, H a = none → ts a cls d D σ H) ∧ (b = false → wMix K Wout D r cls d σ H)
  | (c, some i, ts) :: r => fun cls d σ H => ∃ b, PySem.W.exmOne K cls c = some b ∧ (b = true → ∀ a, H a = none → ts a cls d (cutE i D) (σ.set i (some (.ref a))) H) ∧ (b = false → wMix K Wout D r cls d σ H)
inductive Hx (X : Cx) : List ExceptHandler → List Cla → Prop
  | nil : Hx X [] []
  | only {x : Str} {c : Value} {ts : Addr → Value → Option Addr → TS} {z : Stmt} {zs : List Stmt} {np p2 : Pos} {hds : List ExceptHandler} {l : List Cla} (hc : Names X x c)
      (su : ∀ (a : Addr) (oe : Obj) (cls : Value) (d : Option Addr) (pn : List (Addr × Obj)), Zc cls d oe → (∃ vs, oe.data = .fields vs) → PSs (X.suite a ((a, oe) :: pn)) (z :: zs) (ts a cls d)) (r : Hx X hds l) :
      Hx X (.ExceptHandler (some (.Name x np)) none (z :: zs) p2 :: hds) ((c, none, ts) :: l)
  | named {x n : Str} {i : Nat} {c : Value} {ts : Addr → Value → Option Addr → TS} {z : Stmt} {zs : List Stmt} {np p2 : Pos} {hds : List ExceptHandler} {l : List Cla} (hc : Names X x c) (hi : X.N[i]? = some n) (hn : X.env.kindOf n = some .local)
      (su : ∀ (a : Addr) (oe : Obj) (cls : Value) (d : Option Addr) (pn : List (Addr × Obj)), Zc cls d oe → (∃ vs, oe.data = .fields vs) → PSs (X.suite a ((a, oe) :: pn)) (z :: zs) (ts a cls d)) (r : Hx X hds l) :
      Hx X (.ExceptHandler (some (.Name x np)) (some n) (z :: zs) p2 :: hds) ((c, some i, ts) :: l)
section
variable {X : Cx} {body : List Stmt} {h0 : ExceptHandler} {hds : List ExceptHandler} {l : List Cla} {pos : Pos} {tb : L2.WX → TS} {Wout : L2.WX}
theorem ps_mix (hs : X.stack = X.env :: X.outer) (hf : X.env.frame = some X.env.locals) (hN : X.N.Nodup) (tk : L2.Takes X Wout)
    (hb : ∀ (W : L2.WX) (pn : List (Addr × Obj)) (xe : Value → Shared → Prop), L2.Takes (X.tr pn xe) W → PassesOwn (model X.prog X.w) X.A X.env xe → PSs (X.tr pn xe) body (tb W)) (hh : Hx X (h0 :: hds) l) :
    PS X (.Try body (h0 :: hds) [] [] pos) (fun D σ H => tb (wMix X.K Wout D l) D σ H) := by
  refine ⟨fun pins s σ H D I h => ?_⟩
  have ok := I.ok
  have frE : X.A.frames = some (X.env :: X.outer) := by rw [ok.frames, hs]
  refine wpAny_Try_except ?_
  refine wpAny_mono ((hb (wMix X.K Wout D l) (X.pn ++ pins) (fun e s1 => wpAny (model X.prog X.w) X.A (noteFrame e X.env) (fun _ s2 => wpAny (model X.prog X.w) X.A (setFlight e none) (fun _ s3 =>
    wpAny (model X.prog X.w) X.A (handleBy e X.env (h0 :: hds)) (SP X pins D) X.xe s3) X.xe s2) X.xe s1) (fun u s2 xx => ?_) PassesOwn.looking).run [] s σ H D (I.toTry _) h) (fun f s1 q => ?_) (fun e s1 he => he)
  · obtain ⟨a, B, sI, ps2, σ2, H2, cls, d, rfl, J0, nb, up, sk, na, os, ag, w⟩ := xx
    have J : Inv X pins σ2 H2 sI := J0.ofTry ok
    have sk2 : Sky B (X.env :: X.outer) a (Zc cls d) X.env.locals s2.heap := by rw [← hs]; exact sk
    show wpAny (model X.prog X.w) X.A (noteFrame (.ref a) X.env) _ _ _
    refine Sky.land Zc.steady frE hf sk2 fun h3 fl3 up3 => ?_
    have J3 : Inv X pins σ2 H2 { s2 with heap := h3 } := J.landed nb fl3.1 (up.trans up3) os ag
    obtain ⟨oe3, vs3, he3, hz3, hd3⟩ := fl3.there
    have nfr : a ∉ frs (X.env :: X.outer) := fun hm => by
      obtain ⟨_, o2, e2, hnf⟩ := fl3.2.2.1.mem hm
      rw [he3] at e2
      cases e2
      exact hnf _ hd3
    have nL : a ≠ X.env.locals := fun z => nfr (List.mem_filterMap.mpr ⟨X.env, List.mem_cons_self, by rw [hf, z]⟩)
    have nF : a ∉ X.fs := fun hm => by
      obtain ⟨e, he, q⟩ := List.mem_filterMap.mp hm
      exact nfr (List.mem_filterMap.mpr ⟨e, List.mem_cons_of_mem _ he, q⟩)
    have S3 := J3.suite he3 hd3 na nL nF
    have LT : PySem.W.Looks (model X.prog X.w) h3 (typeOf (.ref a)) cls := fun A Q E s k q => wpAny_typeOf_ref (k _ _ he3) (by rw [hz3.1]; exact q)
    have test : ∀ {x : Str} {np : Pos} {c : Value} {Q : Value → Shared → Prop} {E : Value → Shared → Prop}, Names X x c → Q c { s2 with heap := h3 } → wpAny (model X.prog X.w) (X.A.mark (some (.ref a))) (eval (.Name x np) X.env) Q E { s2 with heap := h3 } := fun {x np c Q E} hc q => by
      obtain ⟨hg, hdb, hm | ⟨hm, hv, hnn⟩⟩ := hc
      · exact ld_glob (X := X.suite a ((a, oe3) :: (X.pn ++ pins))) S3 hg hm q hdb
      · exact ld_blt (X := X.suite a ((a, oe3) :: (X.pn ++ pins))) S3 hg hm hv q hnn hdb
    have go : ∀ {hs2 : List ExceptHandler} {l2 : List Cla}, Hx X hs2 l2 → wMix X.K Wout D l2 cls d σ2 H2 → wpAny (model X.prog X.w) X.A (handleBy (.ref a) X.env hs2) (SP X pins D) X.xe { s2 with heap := h3 } := by
      intro hs2 l2 hk
      induction hk with
      | nil =>
        intro w
        refine wpAny_handleBy_nil ?_
        obtain ⟨k1, k2, k3, oe, vs, T, oT, ts2, he, hz, hd, h1, hr⟩ := id fl3
        unfold PySem.passOn
        refine wpAny_bind (wpAny_field he hd h1 ?_)
        rw [if_neg (show ¬ ((Value.ref T == Value.none) = true) from by simp)]
        have out : wpAny (model X.prog X.w) X.A (setFlight (.ref a) X.env.frame) (fun _ s4 => wpAny (model X.prog X.w) X.A (throw (.ref a) : Sem Flow) (SP X pins D) X.xe s4) X.xe { s2 with heap := h3 } := by
          rw [hf]
          exact HandSPX.setFlight_upZ fl3 fun h4 hh4 up4 => wpAny_throw (tk _ _ ⟨a, B, sI, pins, σ2, H2, cls, d, rfl, J, nb, (up.trans up3).trans up4, .inr (.inr (by rw [hs]; exact hh4)), na, os, ag, w⟩)
        first
          | exact wpAny_bind (wpAny_pure (wpAny_bind out))
          | exact wpAny_bind out
      | @only x c ts z zs np p2 hd2 ls hc su r ih =>
        intro w
        obtain ⟨b, hb1, hy, hno⟩ := w
        refine wpAny_handleBy_cons (codeAny_handlers_test (test hc ((PySem.W.exm_one (M := model X.prog X.w) (J3.kIn) LT hb1).here ?_))) (by intro q; cases q)
        cases b with
        | false => exact ih (hno rfl)
        | true =>
          refine codeAny_handlers_suite (HandSPX.lands_againZ fl3 fun h4 fl4 up4 => ?_)
          have J4 : Inv X pins σ2 H2 { s2 with heap := h4 } := J.landed nb fl4.1 ((up.trans up3).trans up4) os ag
          obtain ⟨oe4, vs4, he4, hz4, hd4⟩ := fl4.there
          have S4 := J4.suite he4 hd4 na nL nF
          refine wpAny_mono ((su a oe4 cls d (X.pn ++ pins) hz4 ⟨_, hd4⟩).run [] _ _ H2 _ S4 (hy rfl a na)) (fun f s6 q => ?_) (fun _ _ z => False.elim z)
          cases f with
          | next => obtain ⟨σ6, H6, S6, q6⟩ := q; exact ⟨_, _, S6.unsuite ok, q6⟩
          | brk => obtain ⟨σ6, H6, S6, q6⟩ := q; exact ⟨_, _, S6.unsuite ok, q6⟩
          | cont => obtain ⟨σ6, H6, S6, q6⟩ := q; exact ⟨_, _, S6.unsuite ok, q6⟩
          | ret u => obtain ⟨v6, σ6, H6, S6, r6, q6⟩ := q; exact ⟨_, _, _, S6.unsuite ok, r6, q6⟩
      | @named x n i c ts z zs np p2 hd2 ls hc hi hn su r ih =>
        intro w
        obtain ⟨b, hb1, hy, hno⟩ := w
        refine wpAny_handleBy_cons (codeAny_handlers_test (test hc ((PySem.W.exm_one (M := model X.prog X.w) (J3.kIn) LT hb1).here ?_))) (by intro q; cases q)
        cases b with
        | false => exact ih (hno rfl)
        | true =>
          refine codeAny_handlers_suite_as (HandSPX.lands_againZ fl3 fun h4 fl4 up4 => ?_)
          have J4 : Inv X pins σ2 H2 { s2 with heap := h4 } := J.landed nb fl4.1 ((up.trans up3).trans up4) os ag
          obtain ⟨oe4, vs4, he4, hz4, hd4⟩ := fl4.there
          have S4 := J4.suite he4 hd4 na nL nF
          refine store_ok (X := X.suite a ((a, oe4) :: (X.pn ++ pins))) (v := .ref a) S4 hN hi (.inl hn) rfl (fun s5 S5 => ?_) (.inr hn)
          refine wpAny_mono ((su a oe4 cls d (X.pn ++ pins) hz4 ⟨_, hd4⟩).run [] s5 _ H2 _ S5 (hy rfl a na)) (fun f s6 q => ?_) (fun _ _ z => False.elim z)
          have fin2 : ∀ {σ6 : L2.St} {H6 : Hp} {Q : Shared → Prop}, Inv (X.suite a ((a, oe4) :: (X.pn ++ pins))) [] σ6 H6 s6 → (∀ s7, Inv X pins (σ6.set i none) H6 s7 → Q s7) →
              wpAny (model X.prog X.w) X.A (do bindName X.env n .none; unbindBehindTheSuite X.env n p2) (fun _ s7 => Q s7) X.xe s6 := fun {σ6 H6 Q} S6 hq => gone_ok (S6.unsuite ok) hN hi hn hq
          cases f with
          | next => obtain ⟨σ6, H6, S6, q6⟩ := q; exact fin2 S6 fun s7 J7 => ⟨_, _, J7, q6⟩
          | brk => obtain ⟨σ6, H6, S6, q6⟩ := q; exact fin2 S6 fun s7 J7 => ⟨_, _, J7, q6⟩
          | cont => obtain ⟨σ6, H6, S6, q6⟩ := q; exact fin2 S6 fun s7 J7 => ⟨_, _, J7, q6⟩
          | ret u => obtain ⟨v6, σ6, H6, S6, r6, q6⟩ := q; exact fin2 S6 fun s7 J7 => ⟨_, _, _, J7, r6, q6⟩
    exact go hh w
  · cases f with
    | next => obtain ⟨σ2, H2, J, q⟩ := q; exact wpAny_execs_nil ⟨σ2, H2, J.ofTry ok, q⟩
    | brk => obtain ⟨σ2, H2, J, q⟩ := q; exact ⟨σ2, H2, J.ofTry ok, q⟩
    | cont => obtain ⟨σ2, H2, J, q⟩ := q; exact ⟨σ2, H2, J.ofTry ok, q⟩
    | ret u => obtain ⟨v, σ2, H2, J, r, q⟩ := q; exact ⟨v, σ2, H2, J.ofTry ok, r, q⟩
end
section
variable {P : Par} {g : Cfg} {sub : Nat → Nat → Bool} {X : Cx} {W : Wsh} {Φ : Fns} {pos : Pos}
/-- what clauses must do -/
def ClOk (P : Par) (W : Wsh) (X : Cx) (hds : List ExceptHandler) (fh : Nat → Env → Fl) : Prop := ∃ ls : List Cla, Hx X hds ls ∧ ∀ D B j e, goal P W D B (fh j e) → ∀ σ F H, Sta P F H σ e → Same B F → wMix X.K (wxOf P W) D ls (P.cls j) none σ H
theorem cl_nil : ClOk P W X [] fun j e => .xc j e := ⟨[], .nil, fun D B j e q σ F H st sb => ⟨j, rfl, rfl, q σ F H st sb⟩⟩
theorem cl_only (c : Sc P g sub X W Φ) {x : Str} {k : Nat} {z : Stmt} {zs : List Stmt} {np p2 : Pos} {hds : List ExceptHandler} {fs : Env → Fl} {fh : Nat → Env → Fl} (hn : handB g k X.env.scope x = true)
    (hh : ∀ (P2 : Par) (X2 : Cx), Sc P2 { g with hot := true } sub X2 Wno Φ → X2.env = X.env → PSs X2 (z :: zs) (rdS P2 Wno fs)) (r : ClOk P W X hds fh) :
    ClOk P W X (.ExceptHandler (some (.Name x np)) none (z :: zs) p2 :: hds) fun j e => if sub j k = true then (if noEr e = true then sfin (fun e => e) (fs e) else .bad) else fh j e := by
  obtain ⟨cv, hcv, hem⟩ := names_of c hn
  obtain ⟨ls, hx, hw⟩ := r
  refine ⟨_, .only hcv (suite_of c hn hh true) hx, fun D B j e q σ F H st sb => ⟨sub j k, hem j, fun hb a na => ⟨j, rfl, rfl, ?_⟩, fun hb => ?_⟩⟩
  · dsimp only at q
    rw [if_pos hb] at q
    split at q
    · exact ⟨B, F, e, st.era ‹_› _, sb, goal_sfin (D := D) (fe := fun e => e) (fs := fun σ => σ) (fun s => s) (fun _ _ h => h) (fun _ _ h => h) (fun _ _ h => h) (fun _ _ h => h) q⟩
    · exact q.elim
  · dsimp only at q
    rw [if_neg (by rw [hb]; exact Bool.false_ne_true)] at q
    exact hw D B j e q σ F H st sb
theorem cl_named (c : Sc P g sub X W Φ) {x n : Str} {k i : Nat} {z : Stmt} {zs : List Stmt} {np p2 : Pos} {hds : List ExceptHandler} {fs : Env → Fl} {fh : Nat → Env → Fl} (hn : handB g k X.env.scope x = true) (hi : locN g X.env.scope i n = true)
    (hh : ∀ (P2 : Par) (X2 : Cx), Sc P2 { g with hot := true } sub X2 Wno Φ → X2.env = X.env → PSs X2 (z :: zs) (rdS P2 Wno fs)) (r : ClOk P W X hds fh) :
    ClOk P W X (.ExceptHandler (some (.Name x np)) (some n) (z :: zs) p2 :: hds) fun j e => if sub j k = true then (if noEr e = true then sfin (fun e => e.set i none) (fs (e.set i (some (.er j)))) else .bad) else fh j e := by
  obtain ⟨cv, hcv, hem⟩ := names_of c hn
  obtain ⟨i1, i2⟩ := locN_of c.ct hi
  obtain ⟨ls, hx, hw⟩ := r
  refine ⟨_, .named hcv i1 i2 (suite_of c hn hh true) hx, fun D B j e q σ F H st sb => ⟨sub j k, hem j, fun hb a na => ⟨j, rfl, rfl, ?_⟩, fun hb => ?_⟩⟩
  · dsimp only at q
    rw [if_pos hb] at q
    split at q
    · rename_i hne
      refine ⟨B, F, _, (st.era hne (fun b k => b = a ∧ k = j)).put (z := .er j) (x := .ref a) (fun _ z => nomatch z) ⟨a, rfl, rfl, rfl⟩, sb, ?_⟩
      refine goal_sfin (D := D) (fe := fun e => e.set i none) (fs := fun σ => σ.set i none) (fun s => s.forget i none) ?_ ?_ ?_ ?_ q
      · exact fun _ _ h => h
      · exact fun _ _ h => h
      · exact fun _ _ h => h
      · exact fun _ _ h => h
    · exact q.elim
  · dsimp only at q
    rw [if_neg (by rw [hb]; exact Bool.false_ne_true)] at q
    exact hw D B j e q σ F H st sb
theorem S_tryM (c : Sc P g sub X W Φ) (hh : g.hot = false) {b : List Stmt} {h0 : ExceptHandler} {hds : List ExceptHandler} {fb : Env → Fl} {fh : Nat → Env → Fl} (hb : ∀ (X2 : Cx) (W2 : Wsh), Sc P g sub X2 W2 Φ → X2.env = X.env → PSs X2 b (rdS P W2 fb)) (hc : ClOk P W X (h0 :: hds) fh) :
    PS X (.Try b (h0 :: hds) [] [] pos) (rdS P W fun env => (match fb env with
      | .xc j e => fh j e
      | r => r)) := by
  obtain ⟨ls, hx, hw⟩ := hc
  refine (ps_mix (tb := fun W2 => rdS P (unW P W2) fb) c.stk c.fr (nd_of c.ct) c.tk (body_of c hh hb) hx).imp fun D σ H ⟨B, F, env, st, sb, q⟩ => ⟨B, F, env, st, sb, ?_⟩
  dsimp only at q
  cases e : fb env with
  | nx _ => rw [e] at q; exact q
  | bk _ => rw [e] at q; exact q
  | ct _ => rw [e] at q; exact q
  | rt s => rw [e] at q; cases s <;> exact q
  | bad => rw [e] at q; exact q
  | xc j e2 =>
    rw [e] at q
    exact fun σ F H st sb => hw D B j e2 q σ F H st sb
theorem S_ownC (c : Sc P g sub X W Φ) {i j : Nat} {x y : Str} {l : Expr} {es : List Expr} {p px pc : Pos} {f1 : Env → Rs D} {fl : Env → Rs (List D)} (hi : locN g X.env.scope i x = true) (hh : g.hot = false) (hy : glB X.env.scope y = true) (hj : g.fs[j]? = some (y, es.length + 1)) (hs : nst l = true) (hns : (backTo pc (starEach es X.env)).any (·.1) = false)
    (ha : PE X l (rd P W f1)) (hl : PA X es (rds P W fl)) (hlen : ∀ env ds, fl env = .ok ds → ds.length = es.length) :
    PS X (.Assign [.Name x px] (.Call (.Name y p) (l :: es) [] pc) pos) (rdS P W fun env => exR ((f1 env).bind fun x => (fl env).bind fun xs => Φ j (x :: xs)) env fun z => (match z with | .ow ds => .nx (env.set i (some (.ow ds))) | _ => .bad)) := by
  obtain ⟨i1, i2⟩ := locN_of c.ct hi
  obtain ⟨gx, dx, nx⟩ := gl_of hy
  obtain ⟨fa, fd, ps, k, hm, kp, hb, hr, FO⟩ := c.ct.fns hh j y _ hj
  refine (ps_set (nd_of c.ct) i1 (.inl i2) (pe_callS FO hr gx hm kp hb (E := WE fun cls d σ H => ∃ k, cls = P.cls k ∧ d = none ∧ W k σ H) (fun σ => c.ct.pa σ) (a_cons hs ha hl) dx (star_of hs) hns) (sw_no rfl) (.inr i2)).imp fun D σ H ⟨B, F, env, st, sb, q⟩ => ⟨F, env, st, ?_⟩
  dsimp only at q
  have e : ((f1 env).bind fun x => (fl env).bind fun xs => Φ j (x :: xs)) = (((f1 env).bind fun x => (fl env).bind fun xs => .ok (x :: xs)).bind fun xs => Φ j xs) := by
    cases f1 env with
    | ok x => cases fl env <;> rfl
    | _ => rfl
  rw [e] at q
  have hn : ∀ ds, ((f1 env).bind fun x => (fl env).bind fun xs => .ok (x :: xs)) = .ok ds → ds.length = es.length + 1 := fun ds e1 => by
    cases e2 : f1 env with
    | ok a =>
      rw [e2] at e1
      cases e3 : fl env with
      | ok b =>
        have e1 : ((fl env).bind fun xs => Rs.ok (a :: xs)) = .ok ds := e1
        rw [e3] at e1
        cases e1
        rw [List.length_cons, hlen env b e3]
      | exc k => have e1 : ((fl env).bind fun xs => Rs.ok (a :: xs)) = .ok ds := e1; rw [e3] at e1; cases e1
      | bad => have e1 : ((fl env).bind fun xs => Rs.ok (a :: xs)) = .ok ds := e1; rw [e3] at e1; cases e1
    | exc k => rw [e2] at e1; cases e1
    | bad => rw [e2] at e1; cases e1
  show post (DpAll P.K) W σ F H ((f1 env).bind fun x => (fl env).bind fun xs => .ok (x :: xs)) _
  cases er : ((f1 env).bind fun x => (fl env).bind fun xs => .ok (x :: xs)) with
  | bad => rw [er] at q; exact q.elim
  | exc k =>
    rw [er] at q
    exact fun F1 H1 x1 => q σ F1 H1 (st.mono x1) (sb.trans x1.ff)
  | ok ds =>
    rw [er] at q
    refine fun F1 H1 vs x1 rx => ⟨by rw [dps_len rx]; exact hn ds er, F1, ds, x1.fh, rx, ?_⟩
    have q : goal P W D B (exR (Φ j ds) env fun z => (match z with | .ow ds => .nx (env.set i (some (.ow ds))) | _ => .bad)) := q
    have st1 := st.mono x1
    cases ez : Φ j ds with
    | bad => rw [ez] at q; exact q.elim
    | exc k => rw [ez] at q; exact fun F2 H2 x2 => ⟨k, rfl, rfl, q σ F2 H2 (st1.mono x2) (sb.trans (x1.ff.trans x2.ff))⟩
    | ok z =>
      rw [ez] at q
      cases z with
      | fr d => exact q.elim
      | er k => exact q.elim
      | ow os =>
        refine fun F2 H2 a ws x2 hp hf hH hd => q _ F2 H2 ((st1.mono x2).putO (none_of st1.ext.hh hp) hf hH hd fun j2 ne es2 e1 e2 => ?_) (sb.trans (x1.ff.trans x2.ff))
        obtain ⟨a2, vs2, e3, _, _, h4, _⟩ := st1.sl j2 _ e1
        rw [e2] at e3
        cases e3
        rw [hp] at h4
        cases h4
theorem S_aug (c : Sc P g sub X W Φ) {i : Nat} {x : Str} {e : Expr} {op : Operator} {p : Pos} {f : Env → Rs D} {ng : Bool} (hi : locN g X.env.scope i x = true) (he : PE X e (rd P W f)) (ho : PIp X op (ipI fun a b => if ng = true then a - b else a + b)) :
    PS X (.AugAssign (.Name x p) op e pos) (rdS P W fun env => (match env[i]? with
      | some (some (.fr (.int x))) => exR (f env) env fun d => (match d with | .int y => .nx (env.set i (some (.fr (.int (if ng = true then x - y else x + y))))) | _ => .bad)
      | _ => .bad)) := by
  obtain ⟨i1, i2⟩ := locN_of c.ct hi
  refine (ps_aug (nd_of c.ct) i1 (.inl i2) he ho (.inr i2)).imp fun D σ H ⟨B, F, env, st, sb, q⟩ => ?_
  dsimp only at q
  split at q
  case h_2 => exact q.elim
  rename_i n e1
  obtain ⟨v, ev1, hv⟩ := st.sl i _ e1
  refine ⟨v, ev1, F, env, st, post_exR st sb q fun d F1 H1 w e2 x1 rw1 q1 => ?_⟩
  cases d with
  | int y =>
    rw [dp_int rw1, dp_int hv]
    exact ⟨n, y, rfl, rfl, q1 _ F1 H1 ((st.mono x1).putD (.int _)) (sb.trans x1.ff)⟩
  | _ => exact q1.elim
/-- several names -/
theorem G_names (c : Sc P g sub X W Φ) : ∀ (is : List Nat) (ns : List Expr), chkNs g X.env.scope is ns = true → ∃ t, PGs X ns t ∧ (assignEach ns X.env).length = is.length ∧ (assignEach ns X.env).findIdx? (·.1) = none ∧
    ∀ (ds : List PyData) (vs : List V) (σ : L2.St) (F H : Hp) (env : Env) (Q : L2.St → Hp → Prop), ds.length = is.length → DpAll P.K F vs ds → Sta P F H σ env → (∀ σ2, Sta P F H σ2 (bindE (is.zip ds) env) → Q σ2 H) → t vs σ H Q
  | [], [], _ => ⟨gNil, pgs_nil, rfl, rfl, fun ds vs σ F H env Q hl hd st h => by
    cases hd with
    | nil => exact ⟨rfl, h σ st⟩
    | cons _ _ => cases hl⟩
  | [], _ :: _, h => absurd (show false = true from h) Bool.false_ne_true
  | _ :: _, [], h => absurd (show false = true from h) Bool.false_ne_true
  | i :: is, n :: ns, h => by
    cases n with
    | Name x p =>
      have h : (locN g X.env.scope i x && chkNs g X.env.scope is ns) = true := h
      obtain ⟨h1, h2⟩ := and2 h
      obtain ⟨i1, i2⟩ := locN_of c.ct h1
      obtain ⟨t, p1, p2, p3, p4⟩ := G_names c is ns h2
      refine ⟨_, pgs_cons (pg_name (i := i) (nd_of c.ct) i1 (.inl i2) (.inr i2)) p1, ?_, ?_, fun ds vs σ F H env Q hl hd st h => ?_⟩
      · show (_ :: assignEach ns X.env).length = _
        rw [List.length_cons, p2]
        rfl
      · show List.findIdx? _ (_ :: assignEach ns X.env) = none
        rw [List.findIdx?_cons, p3]
        rfl
      · cases hd with
        | nil => cases hl
        | cons r hd =>
          exact ⟨_, _, rfl, p4 _ _ _ F H _ Q (Nat.succ.inj hl) hd (st.putD r) h⟩
    | _ => exact absurd (show false = true from h) Bool.false_ne_true
theorem S_unp (c : Sc P g sub X W Φ) (hh : g.hot = false) {is : List Nat} {ns : List Expr} {e : Expr} {k : Nat} {tp : Pos} {f : Env → Rs D} (hn : chkNs g X.env.scope is ns = true) (ht : notTup e = true) (hl : nlc e = true) (he : PE X e (rd P W f)) :
    PS X (.Assign [.Tuple ns k tp] e pos) (rdS P W fun env => exR (f env) env fun d => (match d with | .tuple ds => if ds.length = is.length then .nx (bindE (is.zip ds) env) else .bad | _ => .bad)) := by
  obtain ⟨t, p1, p2, p3, p4⟩ := G_names c is ns hn
  refine (ps_asg he (pg_tup (n := is.length) (c.ct.calm hh) p1 p2 p3) (by show swapsWith e (some (.Tuple ns k tp)) pos.line X.env = pure false; exact sw_no hl) (by cases e <;> first | rfl | exact absurd ht Bool.false_ne_true)).imp fun D σ H ⟨B, F, env, st, sb, q⟩ => ⟨F, env, st, post_exR st sb q fun d F1 H1 v e1 x1 rv q1 => ?_⟩
  cases d with
  | tuple ds =>
    dsimp only at q1
    split at q1
    · rename_i hz
      obtain ⟨a, vs, rfl, qa, da⟩ := dp_tup rv
      exact ⟨a, vs, rfl, by rw [c.ct.k]; exact same_seqT x1.fh qa, by rw [dps_len da]; exact hz, p4 ds vs σ F1 H1 env _ hz da (st.mono x1) fun σ2 st2 => q1 σ2 F1 H1 st2 (sb.trans x1.ff)⟩
    · exact q1.elim
  | _ => exact q1.elim
end
end Q

set_option Elab.async false
set_option linter.all false
set_option maxRecDepth 100000
set_option autoImplicit false
set_option maxHeartbeats 8000000
namespace Q
open PySem PySem.Spec PyProof.Rows L2
section
variable {sub : Nat → Nat → Bool} {Φ : Fns} {L : Nat}
structure SndT (sub : Nat → Nat → Bool) (Φ : Fns) (L : Nat) (t : St) : Prop where
  v : ∀ {P : Par} {g : Cfg} {X : Cx} {W : Wsh} (c : Sc P g sub X W Φ) (hk : X.env.scope.kind = .function) (s : Stmt), chkS g t X.env.scope s = true → PS X s (rdS P W (xs1 SS sub Φ L t))
structure SndTs (sub : Nat → Nat → Bool) (Φ : Fns) (L : Nat) (t : Sts) : Prop where
  v : ∀ {P : Par} {g : Cfg} {X : Cx} {W : Wsh} (c : Sc P g sub X W Φ) (hk : X.env.scope.kind = .function) (s : List Stmt), chkSs g t X.env.scope s = true → PSs X s (rdS P W (xs SS sub Φ L t))
structure SndHs (sub : Nat → Nat → Bool) (Φ : Fns) (L : Nat) (t : Hds) : Prop where
  v : ∀ {P : Par} {g : Cfg} {X : Cx} {W : Wsh} (c : Sc P g sub X W Φ) (hk : X.env.scope.kind = .function) (l : List ExceptHandler), chkHs g t X.env.scope l = true → ClOk P W X l (xsH SS sub Φ L t)
structure SndMs (sub : Nat → Nat → Bool) (Φ : Fns) (L : Nat) (t : Mcs) : Prop where
  v : ∀ {P : Par} {g : Cfg} {X : Cx} {W : Wsh} (c : Sc P g sub X W Φ) (hk : X.env.scope.kind = .function) (hh : g.hot = false) (l : List MatchCase), chkMs g t X.env.scope l = true → PMs X l (rdM P W (xsM SS sub Φ L t))
theorem _root_.Q.PS.cong {X : Cx} {s : Stmt} {P : Par} {W : Wsh} {f f' : Env → Fl} (h : PS X s (rdS P W f)) (e : ∀ env, f env = f' env) : PS X s (rdS P W f') := h.imp fun D σ H ⟨B, F, env, st, sb, q⟩ => ⟨B, F, env, st, sb, by rw [e env]; exact q⟩
mutual
theorem sndT : ∀ t : St, SndT sub Φ L t
  | .set i e => ⟨fun c hk s h => by
    unfold chkS at h
    split at h
    · obtain ⟨h1, h3⟩ := and2 h
      obtain ⟨h1, h2⟩ := and2 h1
      exact S_set c h1 h2 ((snd e).v c.ct _ h3)
    · exact no_of h⟩
  | .setC i e => ⟨fun {P g X W} c hk s h => by
    unfold chkS at h
    split at h
    · split at h
      · obtain ⟨h1, h8⟩ := and2 h
        obtain ⟨h1, h7⟩ := and2 h1
        obtain ⟨h1, h6⟩ := and2 h1
        obtain ⟨h1, h5⟩ := and2 h1
        obtain ⟨h1, h4⟩ := and2 h1
        obtain ⟨h1, h3⟩ := and2 h1
        obtain ⟨h1, h2⟩ := and2 h1
        obtain ⟨hi, hset⟩ := (sndI _).v c.ct (.Name _ _) _ false (fun z => nomatch z) h7
        exact S_setC c h1 h2 (not1 h3) (not1 h4) h5 h6 hi hset (fun X' c' es => (snd _).v c' _ (by rw [es]; exact h8)) hk
      · exact no_of h
    · exact no_of h⟩
  | .own i e => ⟨fun {P g X W} c hk s h => by
    unfold chkS at h
    split at h
    · obtain ⟨h1, h4⟩ := and2 h
      obtain ⟨h1, h3⟩ := and2 h1
      obtain ⟨h1, h2⟩ := and2 h1
      refine S_own c h1 h2 (f := ev SS Φ e) ?_
      unfold isOwn at h3
      split at h3
      · unfold chk at h4
        split at h4
        · exact own_lst ((snds _).v c.ct _ h4)
        · exact no_of h4
      · unfold chk at h4
        split at h4
        · rename_i xn _ l ls _ _
          obtain ⟨h5, h10⟩ := and2 h4
          obtain ⟨h5, h9⟩ := and2 h5
          obtain ⟨h5, h8⟩ := and2 h5
          obtain ⟨h5, h7⟩ := and2 h5
          obtain ⟨h5, h6⟩ := and2 h5
          cases ls with
          | nil => exact own_list c.ct h6 (dec1 h7) h8 ((snd _).v c.ct _ h9)
          | cons _ _ => exact no_of h10
        · exact no_of h4
      · exact no_of h3
    · exact no_of h⟩
  | .frz i => ⟨fun c hk s h => no_of (show false = true by unfold chkS at h; exact h)⟩
  | .app i e => ⟨fun c hk s h => by
    unfold chkS at h
    split at h
    · obtain ⟨h1, h5⟩ := and2 h
      obtain ⟨h1, h4⟩ := and2 h1
      obtain ⟨h1, h3⟩ := and2 h1
      obtain ⟨h1, h2⟩ := and2 h1
      exact S_app c h1 (dec1 h2) h3 h4 ((snd e).v c.ct _ h5)
    · exact no_of h⟩
  | .ext i e => ⟨fun c hk s h => by
    unfold chkS at h
    split at h
    · obtain ⟨h1, h5⟩ := and2 h
      obtain ⟨h1, h4⟩ := and2 h1
      obtain ⟨h1, h3⟩ := and2 h1
      obtain ⟨h1, h2⟩ := and2 h1
      exact S_ext c h1 (dec1 h2) h3 h4 ((snd e).v c.ct _ h5)
    · exact no_of h⟩
  | .put i j e => ⟨fun c hk s h => by
    unfold chkS at h
    split at h
    · obtain ⟨h1, h5⟩ := and2 h
      obtain ⟨h1, h4⟩ := and2 h1
      obtain ⟨h1, h3⟩ := and2 h1
      obtain ⟨h1, h2⟩ := and2 h1
      exact S_put c h1 h2 h3 ((snd j).v c.ct _ h4) ((snd e).v c.ct _ h5)
    · exact no_of h⟩
  | .ret e => ⟨fun c hk s h => by
    unfold chkS at h
    split at h
    · exact S_ret ((snd e).v c.ct _ h)
    · cases e <;> first | exact S_retN | exact no_of h
    · exact no_of h⟩
  | .retO i => ⟨fun c hk s h => by
    unfold chkS at h
    split at h
    · exact S_retO c h
    · exact no_of h⟩
  | .exp e => ⟨fun c hk s h => by
    unfold chkS at h
    split at h
    · obtain ⟨h1, h2⟩ := and2 h
      exact S_exp h1 ((snd e).v c.ct _ h2)
    · exact no_of h⟩
  | .doc => ⟨fun c hk s h => by
    unfold chkS at h
    split at h
    · exact S_nx ps_doc
    · exact no_of h⟩
  | .pas => ⟨fun c hk s h => by
    unfold chkS at h
    split at h
    · exact S_nx ps_pass
    · exact no_of h⟩
  | .brk => ⟨fun c hk s h => by
    unfold chkS at h
    split at h
    · exact S_brk
    · exact no_of h⟩
  | .cnt => ⟨fun c hk s h => by
    unfold chkS at h
    split at h
    · exact S_cnt
    · exact no_of h⟩
  | .ifs c0 a b => ⟨fun c hk s h => by
    unfold chkS at h
    split at h
    · obtain ⟨h1, h4⟩ := and2 h
      obtain ⟨h1, h3⟩ := and2 h1
      obtain ⟨h1, h2⟩ := and2 h1
      exact S_if ((snd c0).b h1 c.ct _ h2) ((sndTs a).v c hk _ h3) ((sndTs b).v c hk _ h4)
    · exact no_of h⟩
  | .forI i it b => ⟨fun c hk s h => by
    unfold chkS at h
    split at h
    · obtain ⟨h1, h4⟩ := and2 h
      obtain ⟨h1, h3⟩ := and2 h1
      obtain ⟨h1, h2⟩ := and2 h1
      obtain ⟨hi, hset⟩ := (sndI it).v c.ct (.Name _ _) _ false (fun z => nomatch z) h3
      exact S_for c (not1 h1) h2 hi hset ((sndTs b).v c hk _ h4)
    · exact no_of h⟩
  | .for2 i j it b => ⟨fun c hk s h => by
    unfold chkS at h
    split at h
    · obtain ⟨h1, h5⟩ := and2 h
      obtain ⟨h1, h4⟩ := and2 h1
      obtain ⟨h1, h3⟩ := and2 h1
      obtain ⟨h1, h2⟩ := and2 h1
      obtain ⟨hi, hset⟩ := (sndI it).v c.ct (.Tuple [.Name _ _, .Name _ _] _ _) _ true (fun _ => ⟨_, _, _, rfl⟩) h4
      exact S_for2 c (not1 h1) h2 h3 hi hset ((sndTs b).v c hk _ h5)
    · exact no_of h⟩
  | .whl c0 b => ⟨fun c hk s h => by
    unfold chkS at h
    split at h
    · obtain ⟨h1, h3⟩ := and2 h
      obtain ⟨h1, h2⟩ := and2 h1
      exact S_while c ((snd c0).b h1 c.ct _ h2) ((sndTs b).v c hk _ h3)
    · exact no_of h⟩
  | .rse k e => ⟨fun c hk s h => by
    unfold chkS at h
    split at h
    · obtain ⟨h1, h5⟩ := and2 h
      obtain ⟨h1, h4⟩ := and2 h1
      obtain ⟨h1, h3⟩ := and2 h1
      obtain ⟨h1, h2⟩ := and2 h1
      exact S_rse c (not1 h1) h2 (dec1 h3) h4 ((snd e).v c.ct _ h5)
    · exact no_of h⟩
  | .tryO b k hd => ⟨fun {P g X W} c hk s h => by
    unfold chkS at h
    split at h
    · obtain ⟨h1, h3⟩ := and2 h
      obtain ⟨h1, h2⟩ := and2 h1
      exact S_tryO c h1 (fun X' W' c' es => (sndTs b).v c' (by rw [es]; exact hk) _ (by rw [es]; exact h2)) (fun P' X' c' es => (sndTs hd).v c' (by rw [es]; exact hk) _ (by rw [es]; exact h3))
    · exact no_of h⟩
  | .tryA b k i hd => ⟨fun {P g X W} c hk s h => by
    unfold chkS at h
    split at h
    · obtain ⟨h1, h4⟩ := and2 h
      obtain ⟨h1, h3⟩ := and2 h1
      obtain ⟨h1, h2⟩ := and2 h1
      exact S_tryA c h1 h2 (fun X' W' c' es => (sndTs b).v c' (by rw [es]; exact hk) _ (by rw [es]; exact h3)) (fun P' X' c' es => (sndTs hd).v c' (by rw [es]; exact hk) _ (by rw [es]; exact h4))
    · exact no_of h⟩
  | .aug ng i e => ⟨fun {P g X W} c hk s h => by
    unfold chkS at h
    split at h
    · obtain ⟨u1, h3⟩ := and2 h
      obtain ⟨h1, h2⟩ := and2 u1
      obtain rfl := not1 h1
      exact S_aug c h2 ((snd e).v c.ct _ h3) ip_add
    · obtain ⟨u1, h3⟩ := and2 h
      obtain ⟨h1, h2⟩ := and2 u1
      subst h1
      exact S_aug c h2 ((snd e).v c.ct _ h3) ip_sub
    · exact no_of h⟩
  | .unp is e => ⟨fun {P g X W} c hk s h => by
    unfold chkS at h
    split at h
    · obtain ⟨u4, h5⟩ := and2 h
      obtain ⟨u3, h4⟩ := and2 u4
      obtain ⟨u2, h3⟩ := and2 u3
      obtain ⟨h1, h2⟩ := and2 u2
      exact S_unp c (not1 h1) h2 h3 h4 ((snd e).v c.ct _ h5)
    · exact no_of h⟩
  | .ownC i f a as => ⟨fun {P g X W} c hk s h => by
    unfold chkS at h
    split at h
    · obtain ⟨u6, h7⟩ := and2 h
      obtain ⟨u5, h6⟩ := and2 u6
      obtain ⟨u4, h5⟩ := and2 u5
      obtain ⟨u3, h4⟩ := and2 u4
      obtain ⟨u2, h3⟩ := and2 u3
      obtain ⟨h1, h2⟩ := and2 u2
      exact S_ownC c h1 (not1 h2) h3 (dec1 h4) h5 (nostars h7) ((snd a).v c.ct _ h6) ((snds as).v c.ct _ h7) (evs_len SS Φ g X.env.scope as _ h7)
    · exact no_of h⟩
  | .tryM b hs => ⟨fun {P g X W} c hk s h => by
    unfold chkS at h
    split at h
    · obtain ⟨u1, h3⟩ := and2 h
      obtain ⟨h1, h2⟩ := and2 u1
      exact S_tryM c (not1 h1) (fun X2 W2 c2 es => (sndTs b).v c2 (by rw [es]; exact hk) _ (by rw [es]; exact h2)) ((sndHs hs).v c hk _ h3)
    · exact no_of h⟩
  | .mat e cs => ⟨fun {P g X W} c hk s h => by
    unfold chkS at h
    split at h
    · obtain ⟨h1, h3⟩ := and2 h
      obtain ⟨h1, h2⟩ := and2 h1
      exact S_mat ((snd e).v c.ct _ h2) ((sndMs cs).v c hk (not1 h1) _ h3)
    · exact no_of h⟩
theorem sndTs : ∀ t : Sts, SndTs sub Φ L t
  | .nil => ⟨fun c hk s h => by
    unfold chkSs at h
    split at h
    · exact S_nil
    · exact no_of h⟩
  | .cons t ts => ⟨fun {P g X W} c hk s h => by
    unfold chkSs at h
    split at h
    · exact S_frz ((sndTs ts).v c hk _ h)
    · split at h
      · obtain ⟨h1, h2⟩ := and2 h
        exact S_cons ((sndT t).v c hk _ h1) ((sndTs ts).v c hk _ h2)
      · exact no_of h⟩
theorem sndHs : ∀ t : Hds, SndHs sub Φ L t
  | .nil => ⟨fun c hk l h => by
    unfold chkHs at h
    split at h
    · exact cl_nil
    · exact no_of h⟩
  | .cons k o hd r => ⟨fun {P g X W} c hk l h => by
    unfold chkHs at h
    split at h
    · obtain ⟨u2, h4⟩ := and2 h
      obtain ⟨u1, h3⟩ := and2 u2
      obtain ⟨h1, h2⟩ := and2 u1
      have su : ∀ (P2 : Par) (X2 : Cx), Sc P2 { g with hot := true } sub X2 Wno Φ → X2.env = X.env → PSs X2 _ (rdS P2 Wno (xs SS sub Φ L hd)) := fun P2 X2 c2 es => (sndTs hd).v c2 (by rw [es]; exact hk) _ (by rw [es]; exact h3)
      have re := (sndHs r).v c hk _ h4
      split at h2
      · exact cl_only c h1 su re
      · exact cl_named c h1 h2 su re
      · exact no_of h2
    · exact no_of h⟩
theorem sndMs : ∀ t : Mcs, SndMs sub Φ L t
  | .nil => ⟨fun c hk hh l h => by
    unfold chkMs at h
    split at h
    · exact M_nil
    · exact no_of h⟩
  | .cons q b r => ⟨fun {P g X W} c hk hh l h => by
    unfold chkMs at h
    split at h
    · obtain ⟨h1, h3⟩ := and2 h
      obtain ⟨h1, h2⟩ := and2 h1
      exact M_cons c hh h1 ((sndTs b).v c hk _ h2) ((sndMs r).v c hk hh _ h3)
    · exact no_of h⟩
end
end
end Q

set_option Elab.async false
set_option linter.all false
set_option maxRecDepth 100000
set_option autoImplicit false
set_option maxHeartbeats 8000000
namespace Q
open PySem PySem.Spec PyProof.Rows L2

def Md.cfg (m : Md) (N : List Str) : Cfg := ⟨N, m.ds.map fun d => (d.nm, d.ar), false, m.cs, m.rs, m.ist, m.gi⟩
/-- the facts -/
structure Fx (m : Md) (K : Fg) (mg : Str → Option Value) (cls : Nat → Value) : Prop where
  bl : ∀ x ∈ bnames, mg x = none
  nm : ∀ (k : Nat) (x : Str), m.cs[k]? = some x → (x == ("__debug__" : Str)) = false ∧ ∃ cv, (mg x = some cv ∨ (mg x = none ∧ bootBuiltins x = some cv ∧ x ≠ "__name__")) ∧ ∀ j, PySem.W.exmOne K (cls j) cv = some (m.sub j k)
  rz : ∀ (k : Nat) (x : Str), m.rs[k]? = some x → ∃ (C : Addr) (bmB : List Value) (Bs newId initId : String), cls k = .ref C ∧ mg x = some (.ref C) ∧ ExcBaseFacts Bs newId initId bmB ∧ PySem.W.excIn K C bmB newId = true ∧ PySem.W.keepIn K (.ref C) = true ∧
    PySem.W.subIn K (.ref C) (.type "BaseException") = some true ∧ PySem.W.typeIn K (.ref C) = some (.type "type")
  ex : ∀ (k0 : Nat) (x : Str), m.cs[k0]? = some x → ∀ k, ∃ C, cls k = .ref C ∧ ExcC K C
  gi : ∀ x i, m.gi.lookup x = some i → ∃ t, mg x = some (.int i t)
  is : ∀ y tb, m.ist.lookup y = some tb → ∃ (v : V) (cv : Value), (mg y = some cv ∨ (mg y = none ∧ bootBuiltins y = some cv)) ∧ RelV v cv ∧ (∀ u, RelV v u → u = cv) ∧ ∀ k b, tb.lookup k = some b → PySem.W.kitOne K (cls k) cv = some b
/-- a def stands where its name says, as the text says -/
structure Fd (m : Md) (K : Fg) (mg : Str → Option Value) (d : Df) (st : Stmt) (f : Addr) (fd : FuncData) : Prop where
  fn : Fun K d.nm d.nm st f fd
  mg : mg d.nm = some (.ref f)
  bi : Binds K fd (d.N.take d.ar) []
  sc : FnScope d.N (d.N.take d.ar) (defScope st)
  le : d.ar ≤ d.N.length
  ck : chkSs (m.cfg d.N) d.bd (defScope st) (defBody st) = true
section
variable {P : Program} {w : World} {K : Fg} {mg : Str → Option Value} {base : Heap} {m : Md} {cls : Nat → Value}
theorem fn_bad {k : Nat} {f : Addr} {fd : FuncData} {ps : List Str} {n : Nat} {φ : List D → Rs Sl} (hn : ps.length = n) (hb : ∀ ds, φ ds = .bad) : FnOk P w K mg base (L2.CX P w) k f fd ps (spF K cls n φ) :=
  ⟨fun vs H Q E h => by rw [hn]; exact h.1, fun A outer s H args us vs Q E _ _ _ _ h => by
    obtain ⟨_, F, ds, _, _, q⟩ := h
    rw [hb ds] at q
    exact q.elim⟩
theorem sta_start {F H : Hp} {N : List Str} {vs : List V} {ds : List PyData} (s : Same F H) (hd : DpAll K F vs ds) (hl : vs.length ≤ N.length) : Sta ⟨K, F, H, fun _ _ => False, cls⟩ F H (L2.start N vs) (ds.map (fun d => some (Sl.fr d)) ++ List.replicate (N.length - ds.length) none) := by
  have e := dps_len hd
  have e1 : ∀ (i : Nat) (z : Sl), (ds.map (fun d => some (Sl.fr d)) ++ List.replicate (N.length - ds.length) none)[i]? = some (some z) → ∃ d, ds[i]? = some d ∧ z = .fr d := fun i z h => by
    by_cases hi : i < ds.length
    · rw [List.getElem?_append_left (by simpa using hi), List.getElem?_map] at h
      rw [List.getElem?_eq_getElem hi] at h ⊢
      injection h with h
      injection h with h
      exact ⟨_, rfl, h.symm⟩
    · rw [List.getElem?_append_right (by simpa using Nat.le_of_not_lt hi), List.getElem?_replicate] at h
      split at h <;> cases h
  refine ⟨by simp [L2.start, e], Ext.refl s, fun i z h => ?_, fun i j p xs ys _ h => ?_⟩
  · obtain ⟨d, h1, rfl⟩ := e1 i z h
    obtain ⟨v, h2, h3⟩ := dps_get hd h1
    refine ⟨v, ?_, h3⟩
    have hi : i < vs.length := by
      rw [e]
      exact (List.getElem?_eq_some_iff.mp h1).1
    show (vs.map some ++ _)[i]? = _
    rw [List.getElem?_append_left (by simpa using hi), List.getElem?_map, h2]
    rfl
  · obtain ⟨d, _, h2⟩ := e1 i _ h
    cases h2
theorem Md.ok (FX : Fx m K mg cls) (FD : ∀ (j : Nat) (d : Df), m.ds[j]? = some d → ∃ st f fd, Fd m K mg d st f fd) : ∀ (k j : Nat) (d : Df) (st : Stmt) (f : Addr) (fd : FuncData), m.ds[j]? = some d → Fd m K mg d st f fd →
    FnOk P w K mg base (L2.CX P w) k f fd (d.N.take d.ar) (spF K cls d.ar (m.Phi k j))
  | 0, j, d, st, f, fd, hj, hd => fn_bad (by rw [List.length_take]; exact Nat.min_eq_left hd.le) fun _ => rfl
  | k + 1, j, d, st, f, fd, hj, hd => by
    refine hd.fn.okX hd.sc (fun vs H Q E h => by rw [h.1, List.length_take]; exact (Nat.min_eq_left hd.le).symm) fun cdv A outer s H vs Q E hr hsp => ?_
    obtain ⟨hl, F, ds, sf, da, q⟩ := hsp
    have ePhi : m.Phi (k + 1) j ds = run SS m.sub (m.Phi k) m.L d.N.length d.bd ds := by
      show (match m.ds[j]? with
        | some d => if ds.length = d.ar then run SS m.sub (Md.Phi m k) m.L d.N.length d.bd ds else .bad
        | none => .bad) = _
      rw [hj]
      exact if_pos (by rw [← dps_len da]; exact hl)
    rw [ePhi] at q
    have st0 : Sta ⟨K, F, H, fun _ _ => False, cls⟩ F H (L2.start d.N vs) (ds.map (fun d => some (Sl.fr d)) ++ List.replicate (d.N.length - ds.length) none) := sta_start sf da (by rw [hl]; exact hd.le)
    let W : Wsh := fun k σ H' => E (cls k) none H'
    have tk : L2.Takes (cxOf (L2.CX P w) P w K mg base d.N d.nm (defScope st) f cdv A outer s H E) (wxOf ⟨K, F, H, fun _ _ => False, cls⟩ W) :=
      (takes_of (X := cxOf (L2.CX P w) P w K mg base d.N d.nm (defScope st) f cdv A outer s H E) rfl rfl rfl rfl).imp fun c dd σ H' ⟨k', e1, e2, e3⟩ => by
        subst e1 e2
        exact e3
    have sc : Sc ⟨K, F, H, fun _ _ => False, cls⟩ (m.cfg d.N) m.sub (cxOf (L2.CX P w) P w K mg base d.N d.nm (defScope st) f cdv A outer s H E) W (m.Phi k) := by
      refine ⟨⟨rfl, hd.sc.nd, rfl, FX.bl, fun _ => rfl, hr.units, fun _ j' x n hx => ?_, fun z => absurd (show false = true from z) Bool.false_ne_true, FX.gi, FX.is, fun σ => passAt tk σ⟩, passes_of rfl, tk, rfl, rfl, FX.nm, fun k' x hx => ?_, FX.ex⟩
      · have hx : (m.ds.map fun d => (d.nm, d.ar))[j']? = some (x, n) := hx
        rw [List.getElem?_map] at hx
        cases e : m.ds[j']? with
        | none => rw [e] at hx; cases hx
        | some d' =>
          rw [e] at hx
          cases hx
          obtain ⟨st', f', fd', hd'⟩ := FD j' d' e
          exact ⟨f', fd', _, k, hd'.mg, hd'.fn.kp, hd'.bi, hr, Md.ok FX FD k j' d' st' f' fd' e hd'⟩
      · obtain ⟨C, bmB, Bs, n1, n2, e1, e2, e3, e4, e5, e6, e7⟩ := FX.rz k' x hx
        exact ⟨C, bmB, Bs, n1, n2, e1, e2, e3, e4, e5, raises_own e6 e7⟩
    refine ⟨_, (sndTs (sub := m.sub) (Φ := m.Phi k) (L := m.L) d.bd).v sc hd.sc.kind _ hd.ck, F, F, _, st0, Same.refl F, ?_⟩
    unfold run at q
    cases er : xs SS m.sub (m.Phi k) m.L d.bd (ds.map (fun d => some (Sl.fr d)) ++ List.replicate (d.N.length - ds.length) none) with
    | nx e => rw [er] at q; exact fun σ F' H' st' sb => q F' H' .non st'.ext .non
    | rt z =>
      rw [er] at q
      cases z with
      | fr x => exact fun F' H' v x1 _ r => q F' H' v x1 r
      | ow x => exact fun F' H' p vs x1 _ a b c d => q F' H' p vs x1 a b c d
      | er k => exact q.elim
    | xc j' e => rw [er] at q; exact fun σ F' H' st' sb => q F' H' st'.ext
    | bk e => rw [er] at q; exact q.elim
    | ct e => rw [er] at q; exact q.elim
    | bad => rw [er] at q; exact q.elim
end
end Q

set_option Elab.async false
set_option linter.all false
set_option maxRecDepth 100000
set_option autoImplicit false
set_option maxHeartbeats 8000000
namespace Q
open PySem PySem.Spec PyProof.Rows L2
section
variable {K : Fg} {C c : Addr} {b : Bool}
theorem any_of {p : ClassData → Bool} {C : Addr} (h : (PySem.W.clsIn K C).any p = true) : (PySem.W.clsIn K C).isSome = true := by
  cases e : PySem.W.clsIn K C with
  | none => rw [e] at h; cases h
  | some _ => rfl
theorem kit_ref (d : PySem.W.hasDictIn K c = true) (t : PySem.W.typeIn K (.ref c) = some (.type "type")) (sc : PySem.W.subIn K (.ref c) (.ref c) = some true) (s : PySem.W.subIn K (.ref C) (.ref c) = some b) : PySem.W.kitOne K (.ref C) (.ref c) = some b := by
  unfold PySem.W.kitOne
  by_cases q : ((Value.ref C == Value.ref c) = true)
  · rw [if_pos q]
    have e : C = c := Value.ref.inj (beq_iff_eq.mp q)
    subst e
    rw [sc] at s
    exact s
  · rw [if_neg q]
    show (if ((PySem.W.clsIn K c).isSome && PySem.W.typeIn K (.ref c) == some (.type "type")) = true then PySem.W.subIn K (.ref C) (.ref c) else none) = some b
    rw [any_of d, t, if_pos (by rfl)]
    exact s
theorem kit_ty {T : String} (m : PySem.W.kitMeta T = true) (s : PySem.W.subIn K (.ref C) (.type T) = some b) : PySem.W.kitOne K (.ref C) (.type T) = some b := by
  unfold PySem.W.kitOne
  rw [if_neg (show ¬ ((Value.ref C == Value.type T) = true) from by simp)]
  show (if PySem.W.kitMeta T = true then PySem.W.subIn K (.ref C) (.type T) else none) = some b
  rw [if_pos m]
  exact s
end
def spLaw (K : Fg) : Sp := fun vs H Q _ => ∃ (a : Addr) (ns : List Int), vs = [.ref a] ∧ SqL K H a (ns.map V.int) ∧ ns.length ≤ 63 ∧ ∀ H', Q (.bl true) H'
theorem ints_dp {K : Fg} {F : Hp} : ∀ ns : List Int, DpAll K F (ns.map V.int) (ns.map PyData.int)
  | [] => .nil
  | n :: r => .cons (.int n) (ints_dp r)
theorem law_ok {P : Program} {w : World} {K : Fg} {mg : Str → Option Value} {base : Heap} {k : Nat} {f : Addr} {fd : FuncData} {ps : List Str} {cls : Nat → Value} {φ : List D → Rs Sl} (hm : ∀ ns : List Int, ns.length ≤ 63 → φ [.list (ns.map .int)] = .ok (.fr (.bool true)))
    (h : FnOk P w K mg base (L2.CX P w) k f fd ps (spF K cls 1 φ)) : FnOk P w K mg base (L2.CX P w) k f fd ps (spLaw K) :=
  h.imp fun vs H Q E ⟨a, ns, e, hs, hl, q⟩ => by
    subst e
    refine ⟨rfl, H, [.list (ns.map .int)], Same.refl H, .cons (.lst hs (ints_dp ns)) .nil, ?_⟩
    rw [hm ns hl]
    exact fun F' H' v _ r => by rw [dp_bl r]; exact q H'
theorem law_at {P : Program} {w : World} {K : Fg} {mg : Str → Option Value} {k : Nat} {f : Addr} {x : Str} {φ : List D → Rs Sl} (hm : ∀ ns : List Int, ns.length ≤ 63 → φ [.list (ns.map .int)] = .ok (.fr (.bool true)))
    (h : ∃ (cls : Nat → Value) (fd : FuncData), (∀ (s : Shared) (v : Value), BindsTo s fd ⟨[v], []⟩ [(x, v)]) ∧ ∀ base : Heap, K.In base → base.Ns mainGlobals mg → FnOk P w K mg base (L2.CX P w) k f fd [x] (spF K cls 1 φ)) :
    ∃ fd : FuncData, (∀ (s : Shared) (v : Value), BindsTo s fd ⟨[v], []⟩ [(x, v)]) ∧ ∀ base : Heap, K.In base → base.Ns mainGlobals mg → FnOk P w K mg base (L2.CX P w) k f fd [x] (spLaw K) := by
  obtain ⟨cls, fd, h1, h2⟩ := h
  exact ⟨fd, h1, fun base a b => law_ok hm (h2 base a b)⟩
theorem lookup_mem {α : Type} {x : Str} {b : α} : ∀ {l : List (Str × α)}, l.lookup x = some b → (x, b) ∈ l
  | [], h => by cases h
  | (y, c) :: r, h => by
    unfold List.lookup at h
    split at h
    · rename_i e
      cases h
      rw [beq_iff_eq.mp e]
      exact List.mem_cons_self
    · exact List.mem_cons_of_mem _ (lookup_mem h)
theorem walk {l : PySem.W.OpenLaw} {q : Program} {loose : List Str} {XP : (Str → Option Value) → Heap → Prop} {YP : World → Heap → Prop} {d : DefRec} {K : Params → PySem.W.Frag} {k : Nat} {x : Str} (hn : l.most = some 63) (hdf : d.params.defaults = []) (hr : Room k callerA)
    (hY : ∀ (w : World) (h : Heap), YP w h → (K w.params).In h)
    (F : ∀ (w : World) (mg : Str → Option Value) (fa : Addr) (h : Heap), (K w.params).In h → h.Ns mainGlobals mg → mg d.name = some (.ref fa) →
      ∃ fd : FuncData, (∀ (s : Shared) (u : Value), BindsTo s fd ⟨[u], []⟩ [(x, u)]) ∧ ∀ base : Heap, (K w.params).In base → base.Ns mainGlobals mg → FnOk l.prog w (K w.params) mg base (L2.CX l.prog w) k fa fd [x] (spLaw (K w.params))) :
    PySem.W.WalkO q loose XP YP l.row.toRowW d [] (fun f vs => PySem.call f vs) :=
  L2.walk_of (n := 63) (k := k) (x := x) (CX := fun w => L2.CX l.prog w) (sp := fun w => spLaw (K w.params)) hn (by decide) hdf hr hY F (fun _ _ a ns hl _ hS => ⟨a, ns, rfl, hS, hl, fun _ => rfl⟩) fun _ _ _ _ _ ⟨_, _, _, _, _, _, _, _, _, _, _, _, z⟩ => z
end Q

set_option maxRecDepth 100000
namespace QKk01
open PySem Q
def d0 : Df := ⟨"room_of", ["width"], 1, (.cons (.ret (.bin .shl (.cI 1) (.blt .max2 (.var 0) (.cons (.cI 0) .nil)))) .nil)⟩
def d1 : Df := ⟨"bits_of", ["number", "width", "worth"], 2, (.cons (.ifs (.nt (.chn .le .lt (.cI 0) (.var 0) (.call 0 (.var 1) .nil))) (.cons (.rse 0 (.fstr (.cons (.cS "the number does not go into ") (.cons (.fmt (.var 1)) (.cons (.cS " bits") .nil))))) .nil) .nil) (.cons (.ret (.comp 2 (.bin .band (.bin .shr (.var 0) (.var 2)) (.cI 1)) (.rrng (.var 1)))) .nil))⟩
def d2 : Df := ⟨"number_of", ["bits", "number", "bit"], 1, (.cons (.set 1 (.cI 0)) (.cons (.forI 2 (.lst (.var 0)) (.cons (.set 1 (.bin .add (.bin .mul (.var 1) (.cI 2)) (.var 2))) .nil)) (.cons (.ret (.var 1)) .nil)))⟩
def d3 : Df := ⟨"_law_cell_at", ["_law_script", "_law_k"], 2, (.cons (.ifs (.cmp .lt (.var 1) (.blt .len (.var 0) .nil)) (.cons (.ret (.ix (.var 0) (.var 1))) .nil) .nil) (.cons (.ret (.cI 0)) .nil))⟩
def d4 : Df := ⟨"_law_whole", ["_law_found"], 1, (.cons (.ret (.conj (.isi (.var 0) .int) (.cons (.nt (.isi (.var 0) .bool)) .nil))) .nil)⟩
def d5 : Df := ⟨"_law_room", ["_law_width", "_law_size", "_law_step"], 1, (.cons (.set 1 (.cI 1)) (.cons (.forI 2 (.rng (.var 0)) (.cons (.set 1 (.bin .mul (.var 1) (.cI 2))) .nil)) (.cons (.ret (.var 1)) .nil)))⟩
def d6 : Df := ⟨"_law_written", ["_law_number", "_law_width", "_law_bits", "_law_step"], 2, (.cons (.own 2 (.lst .nil)) (.cons (.forI 3 (.rng (.var 1)) (.cons (.app 2 (.bin .mod (.var 0) (.cI 2))) (.cons (.set 0 (.bin .fdiv (.var 0) (.cI 2))) .nil))) (.cons (.frz 2) (.cons (.ret (.lrev (.var 2))) .nil))))⟩
def d7 : Df := ⟨"_law_alike", ["_law_found", "_law_due", "_law_k"], 2, (.cons (.ifs (.isN (.var 1)) (.cons (.ret (.isN (.var 0))) .nil) .nil) (.cons (.ifs (.isi (.var 1) .bool) (.cons (.ret (.conj (.isi (.var 0) .bool) (.cons (.cmp .eq (.var 0) (.var 1)) .nil))) .nil) .nil) (.cons (.ifs (.isi (.var 1) .int) (.cons (.ret (.conj (.call 4 (.var 0) .nil) (.cons (.cmp .eq (.var 0) (.var 1)) .nil))) .nil) .nil) (.cons (.ifs (.isi (.var 1) .str) (.cons (.ret (.conj (.isi (.var 0) .str) (.cons (.cmp .eq (.var 0) (.var 1)) .nil))) .nil) .nil) (.cons (.ifs (.isi (.var 1) .tup) (.cons (.ifs (.nt (.isi (.var 0) .tup)) (.cons (.ret (.cB false)) .nil) .nil) .nil) (.cons (.ifs (.nt (.isi (.var 0) .lst)) (.cons (.ret (.cB false)) .nil) .nil) .nil)) (.cons (.ifs (.cmp .ne (.blt .len (.var 0) .nil) (.blt .len (.var 1) .nil)) (.cons (.ret (.cB false)) .nil) .nil) (.cons (.forI 2 (.rng (.blt .len (.var 1) .nil)) (.cons (.ifs (.nt (.call 7 (.ix (.var 0) (.var 2)) (.cons (.ix (.var 1) (.var 2)) .nil))) (.cons (.ret (.cB false)) .nil) .nil) .nil)) (.cons (.ret (.cB true)) .nil))))))))⟩
def d8 : Df := ⟨"_law_refused_by_any", ["_law_number", "_law_width", "e"], 2, (.cons (.tryA (.cons (.exp (.call 1 (.var 0) (.cons (.var 1) .nil))) .nil) 0 2 (.cons (.ifs (.disj (.isE 2 [(0, false)]) (.cons (.isT 2 [[(0, false)], [(0, false)], [(0, false)], [(0, false)]]) .nil)) (.cons (.ret (.cB false)) .nil) .nil) (.cons (.ret (.isE 2 [(0, true)])) .nil))) (.cons (.ret (.cB false)) .nil))⟩
def d9 : Df := ⟨"_law_as_a_number", ["_law_script", "_law_long", "_law_holds", "_law_number", "_law_bits", "_law_found"], 1, (.cons (.set 1 (.bin .mod (.call 3 (.var 0) (.cons (.cI 3) .nil)) (.cI 70))) (.cons (.ifs (.cmp .eq (.bin .mod (.call 3 (.var 0) (.cons (.cI 5) .nil)) (.cI 4)) (.cI 3)) (.cons (.set 1 (.bin .add (.cI 70) (.bin .mod (.call 3 (.var 0) (.cons (.cI 3) .nil)) (.cI 531)))) .nil) .nil) (.cons (.set 2 (.call 5 (.var 1) .nil)) (.cons (.set 3 (.bin .mod (.call 3 (.var 0) (.cons (.cI 4) .nil)) (.var 2))) (.cons (.ifs (.cmp .eq (.bin .mod (.call 3 (.var 0) (.cons (.cI 5) .nil)) (.cI 4)) (.cI 1)) (.cons (.set 3 (.bin .sub (.var 2) (.cI 1))) .nil) .nil) (.cons (.ifs (.cmp .eq (.bin .mod (.call 3 (.var 0) (.cons (.cI 5) .nil)) (.cI 4)) (.cI 2)) (.cons (.set 3 (.bin .mod (.call 3 (.var 0) (.cons (.cI 4) .nil)) (.bin .add (.cI 1) (.bin .fdiv (.var 2) (.cI 8))))) .nil) .nil) (.cons (.set 4 (.call 6 (.var 3) (.cons (.var 1) .nil))) (.cons (.set 5 (.call 2 (.var 4) .nil)) (.cons (.ret (.conj (.call 4 (.var 5) .nil) (.cons (.cmp .eq (.var 5) (.var 3)) (.cons (.call 7 (.var 4) (.cons (.call 6 (.var 3) (.cons (.var 1) .nil)) .nil)) .nil)))) .nil)))))))))⟩
def d10 : Df := ⟨"law", ["_law_script", "_law_width", "_law_holds", "_law_far", "_law_way", "_law_number", "_law_good", "_law_refused", "_law_found"], 1, (.cons (.ifs (.nt (.call 9 (.var 0) .nil)) (.cons (.ret (.cB false)) .nil) .nil) (.cons (.set 1 (.bin .mod (.call 3 (.var 0) (.cons (.cI 0) .nil)) (.cI 65))) (.cons (.set 2 (.call 5 (.var 1) .nil)) (.cons (.set 3 (.bin .mod (.call 3 (.var 0) (.cons (.cI 2) .nil)) (.bin .pow (.cI 10) (.cI 30)))) (.cons (.set 4 (.bin .mod (.call 3 (.var 0) (.cons (.cI 1) .nil)) (.cI 7))) (.cons (.set 5 (.bin .mod (.call 3 (.var 0) (.cons (.cI 2) .nil)) (.var 2))) (.cons (.ifs (.cmp .eq (.var 4) (.cI 1)) (.cons (.set 5 (.bin .sub (.var 2) (.cI 1))) .nil) .nil) (.cons (.ifs (.cmp .eq (.var 4) (.cI 2)) (.cons (.set 5 (.var 2)) .nil) .nil) (.cons (.ifs (.cmp .eq (.var 4) (.cI 3)) (.cons (.set 5 (.bin .add (.var 2) (.var 3))) .nil) .nil) (.cons (.ifs (.cmp .eq (.var 4) (.cI 4)) (.cons (.set 5 (.bin .sub (.neg (.cI 1)) (.var 3))) .nil) .nil) (.cons (.set 6 (.cmp .nin (.var 4) (.tup (.cons (.cI 2) (.cons (.cI 3) (.cons (.cI 4) .nil)))))) (.cons (.set 7 (.cB false)) (.cons (.set 8 .cN) (.cons (.tryO (.cons (.set 8 (.call 1 (.var 5) (.cons (.var 1) .nil))) .nil) 1 (.cons (.set 7 (.cB true)) .nil)) (.cons (.ifs (.nt (.var 6)) (.cons (.ret (.conj (.var 7) (.cons (.call 8 (.var 5) (.cons (.var 1) .nil)) .nil))) .nil) .nil) (.cons (.ret (.conj (.nt (.var 7)) (.cons (.call 7 (.var 8) (.cons (.call 6 (.var 5) (.cons (.var 1) .nil)) .nil)) .nil))) .nil))))))))))))))))⟩
def subT (j k : Nat) : Bool := (([[true, true]] : List (List Bool)).getD j [true, true]).getD k false
def md : Md := ⟨[d0, d1, d2, d3, d4, d5, d6, d7, d8, d9, d10], ["PackError", "TooWide"], ["TooWide"], [("BadRecord", [(0, false)]), ("Left", [(0, false)]), ("NoBits", [(0, false)]), ("Short", [(0, false)]), ("Wrong", [(0, false)]), ("ValueError", [(0, true)])], [], subT, 100⟩
end QKk01

set_option Elab.async false
set_option linter.all false
set_option maxRecDepth 100000
set_option autoImplicit false
namespace Q
open PySem (PyData Str)
theorem Phi_at {m : Md} {n j : Nat} {d : Df} {ds : List PyData} (h : m.ds[j]? = some d) (hl : ds.length = d.ar) : m.Phi (n + 1) j ds = run SS m.sub (m.Phi n) m.L d.N.length d.bd ds := by
  show (match m.ds[j]? with
    | some d => if ds.length = d.ar then run SS m.sub (Md.Phi m n) m.L d.N.length d.bd ds else .bad
    | none => .bad) = _
  rw [h]
  exact if_pos hl
theorem Phi_rt {m : Md} {n j : Nat} {d : Df} {ds : List PyData} {env : Env} {s : Sl} (h : m.ds[j]? = some d) (hl : ds.length = d.ar) (he : ds.map (fun d => some (Sl.fr d)) ++ List.replicate (d.N.length - ds.length) none = env)
    (hx : xs SS m.sub (m.Phi n) m.L d.bd env = .rt s) : m.Phi (n + 1) j ds = .ok s := by
  rw [Phi_at h hl]
  unfold run
  rw [he, hx]
theorem Phi_xc {m : Md} {n j k : Nat} {d : Df} {ds : List PyData} {env env' : Env} (h : m.ds[j]? = some d) (hl : ds.length = d.ar) (he : ds.map (fun d => some (Sl.fr d)) ++ List.replicate (d.N.length - ds.length) none = env)
    (hx : xs SS m.sub (m.Phi n) m.L d.bd env = .xc k env') : m.Phi (n + 1) j ds = .exc k := by
  rw [Phi_at h hl]
  unfold run
  rw [he, hx]
/-- a loop whose turns are told -/
theorem floop_go {f : PyData → Env → Fl} (E : Nat → Env) : ∀ (ds : List PyData) (i : Nat), (∀ (j : Nat) (d : PyData), ds[j]? = some d → f d (E (i + j)) = .nx (E (i + j + 1))) → floop f ds (E i) = .nx (E (i + ds.length))
  | [], i, _ => rfl
  | d :: ds, i, h => by
    have h0 : f d (E i) = .nx (E (i + 1)) := h 0 d rfl
    have h1 := floop_go E ds (i + 1) fun j d hd => by
      have := h (j + 1) d hd
      rw [show i + (j + 1) = i + 1 + j by omega] at this
      exact this
    show (match f d (E i) with
      | .nx e => floop f ds e
      | .ct e => floop f ds e
      | .bk e => .nx e
      | .rt s => .rt s
      | .xc k e => .xc k e
      | .bad => .bad) = _
    rw [h0, List.length_cons, show i + (ds.length + 1) = i + 1 + ds.length by omega]
    exact h1
section
variable {α β : Type} {a : α} {f : α → Rs β} {k : Nat} {i j : Int} {d x y : PyData} {env : Env} {b : Bool} {xs ys : List PyData}
theorem bind_ok : (Rs.ok a).bind f = f a := rfl
theorem bind_exc : (Rs.exc k : Rs α).bind f = .exc k := rfl
theorem exR_ok {g : α → Fl} : exR (.ok a) env g = g a := rfl
theorem exR_exc {g : α → Fl} : exR (.exc k : Rs α) env g = .xc k env := rfl
theorem seq_nx {g : Env → Fl} : (Fl.nx env).seq g = g env := rfl
theorem seq_rt {g : Env → Fl} {s : Sl} : (Fl.rt s).seq g = .rt s := rfl
theorem seq_xc {g : Env → Fl} : (Fl.xc k env).seq g = .xc k env := rfl
theorem varR_0 : varR (some (.fr d) :: env) 0 = .ok d := rfl
theorem varR_S {o : Option Sl} {n : Nat} : varR (o :: env) (n + 1) = varR env n := rfl
theorem bb_add : binD .add (.int i) (.int j) = .ok (.int (i + j)) := rfl
theorem bb_sub : binD .sub (.int i) (.int j) = .ok (.int (i - j)) := rfl
theorem bb_mul (h : (-(2 ^ 64) < i ∧ i < 2 ^ 64) ∨ (-(2 ^ 64) < j ∧ j < 2 ^ 64)) : binD .mul (.int i) (.int j) = .ok (.int (i * j)) := if_pos h
theorem bb_mul2 : binD .mul (.int i) (.int 2) = .ok (.int (i * 2)) := if_pos (.inr ⟨by decide, by decide⟩)
theorem bb_mod (h : 0 < j) : binD .mod (.int i) (.int j) = .ok (.int (i % j)) := by
  show (if j ≠ 0 then Rs.ok (PyData.int (i.fmod j)) else .bad) = _
  rw [if_pos (by omega), Int.fmod_eq_emod_of_nonneg _ (by omega)]
theorem bb_fdiv (h : 0 < j) (h2 : j < 1073741824) : binD .fdiv (.int i) (.int j) = .ok (.int (i / j)) := by
  show (if j ≠ 0 ∧ j.natAbs < 1073741824 then Rs.ok (PyData.int (i.fdiv j)) else .bad) = _
  rw [if_pos ⟨by omega, by omega⟩, Int.fdiv_eq_ediv_of_nonneg _ (by omega)]
theorem bb_pow (h : 0 ≤ j ∧ j ≤ 1000000 ∧ i.natAbs < 2 ^ 64) : binD .pow (.int i) (.int j) = .ok (.int (i ^ j.toNat)) := if_pos h
theorem bb_shl1 (h : 0 ≤ j ∧ j ≤ 1000000) : binD .shl (.int 1) (.int j) = .ok (.int (2 ^ j.toNat)) := by
  show (if 0 ≤ j ∧ j ≤ 1000000 ∧ Int.natAbs 1 < 2 ^ 64 then Rs.ok (PyData.int (1 * 2 ^ j.toNat)) else .bad) = _
  rw [if_pos ⟨h.1, h.2, by decide⟩, Int.one_mul]
theorem bb_shl (h : 0 ≤ j ∧ j ≤ 1000000 ∧ i.natAbs < 2 ^ 64) : binD .shl (.int i) (.int j) = .ok (.int (i * 2 ^ j.toNat)) := if_pos h
theorem bb_shr (h : 0 ≤ j) : binD .shr (.int i) (.int j) = .ok (.int (i / 2 ^ j.toNat)) := if_pos h
theorem bb_and : binD .band (.int i) (.int 1) = .ok (.int (i % 2)) := rfl
theorem cc_lt {S : PyData → Bool} : cmpR S .lt (.int i) (.int j) = .ok (decide (i < j)) := rfl
theorem cc_le {S : PyData → Bool} : cmpR S .le (.int i) (.int j) = .ok (decide (i ≤ j)) := rfl
theorem cc_gt {S : PyData → Bool} : cmpR S .gt (.int i) (.int j) = .ok (decide (j < i)) := rfl
theorem cc_ge {S : PyData → Bool} : cmpR S .ge (.int i) (.int j) = .ok (decide (j ≤ i)) := rfl
theorem cc_eq {S : PyData → Bool} : cmpR S .eq (.int i) (.int j) = .ok (decide (i = j)) := rfl
theorem cc_ne {S : PyData → Bool} : cmpR S .ne (.int i) (.int j) = .ok (!decide (i = j)) := rfl
theorem cc_eqb {S : PyData → Bool} {b c : Bool} : cmpR S .eq (.bool b) (.bool c) = .ok (decide (b = c)) := rfl
theorem cc_eqs {S : PyData → Bool} {b c : Str} : cmpR S .eq (.str b) (.str c) = .ok (decide (b = c)) := rfl
theorem ll_len : bltR .len [.list xs] = .ok (.int xs.length) := rfl
theorem ll_lent : bltR .len [.tuple xs] = .ok (.int xs.length) := rfl
theorem ll_list : bltR .list [.list xs] = .ok (.list xs) := rfl
theorem ll_listt : bltR .list [.tuple xs] = .ok (.list xs) := rfl
theorem ll_max2 : bltR .max2 [.int i, .int j] = .ok (.int (if j > i then j else i)) := rfl
theorem ll_min2 : bltR .min2 [.int i, .int j] = .ok (.int (if j < i then j else i)) := rfl
theorem toD_fr : Sl.toD (.fr d) = .ok d := rfl
theorem toD_ow : Sl.toD (.ow xs) = .ok (.list xs) := rfl
theorem numR_ok (h : -(2 ^ 62) ≤ i ∧ i < 2 ^ 62) : numR (.int i) = .ok i := if_pos h
theorem lstR_ok : lstR (.list xs) = .ok xs := rfl
theorem ix_l {n : Nat} (h : xs[n]? = some d) : ixR (.list xs) (.int (n : Int)) = .ok d := by
  show ixD _ _ = _
  unfold ixD
  rw [if_pos (by omega), Int.toNat_natCast, h]
theorem ix_t {n : Nat} (h : xs[n]? = some d) : ixR (.tuple xs) (.int (n : Int)) = .ok d := by
  show ixD _ _ = _
  unfold ixD
  rw [if_pos (by omega), Int.toNat_natCast, h]
theorem fmt_int (h : i.natAbs.log2 < 1920) : fmtR (.int i) = .ok (.str (Str.ofString (toString i))) := if_pos h
theorem str_app {a b : Str} : (a ++ b).length = a.length + b.length := Array.size_append
theorem ifs_1 {A B C : Fl} : (match PyData.bool true with | .bool true => A | .bool false => B | _ => C) = A := rfl
theorem erR_0 : erR (some (.er k) :: env) 0 = .ok k := rfl
theorem erR_S {o : Option Sl} {n : Nat} : erR (o :: env) (n + 1) = erR env n := rfl
theorem catch_nx {sub : Nat → Nat → Bool} {h : Nat → Env → Fl} : catch1 sub (.nx env) k h = .nx env := rfl
theorem catch_rt {sub : Nat → Nat → Bool} {h : Nat → Env → Fl} {s : Sl} : catch1 sub (.rt s) k h = .rt s := rfl
theorem catch_xc {sub : Nat → Nat → Bool} {h : Nat → Env → Fl} {j : Nat} : catch1 sub (.xc j env) k h = if sub j k = true then h j env else .xc j env := rfl
theorem sfin_rt {g : Env → Env} {s : Sl} : sfin g (.rt s) = .rt s := rfl
theorem sfin_nx {g : Env → Env} : sfin g (.nx env) = if noEr (g env) = true then .nx (g env) else .bad := rfl
theorem noEr_n : noEr (none :: env) = noEr env := by simp [noEr]
theorem noEr_f : noEr (some (.fr d) :: env) = noEr env := by simp [noEr]
theorem noEr_o : noEr (some (.ow xs) :: env) = noEr env := by simp [noEr]
theorem noEr_0 : noEr [] = true := rfl
theorem in_t {n : Nat} (h : flatD (.int i) = true ∧ xs.all flatD = true) {S : PyData → Bool} : cmpR S .inn (.int i) (.tuple xs) = .ok (xs.any fun y => PyData.eqv y (.int i)) := if_pos h
theorem neg_i : negD (.int i) = .ok (.int (-i)) := rfl
theorem nin_in {S : PyData → Bool} {b : Bool} (h : inR x y = .ok b) : cmpR S .nin x y = .ok (!b) := by
  have : cmpR S .nin x y = (inR x y).bind fun b => .ok (!b) := rfl
  rw [this, h]
  rfl
theorem in_tup (h : flatD x = true ∧ xs.all flatD = true) : inR x (.tuple xs) = .ok (xs.any fun y => PyData.eqv y x) := if_pos h
theorem no_int : isNo (.int i) = false := rfl
theorem no_list : isNo (.list xs) = false := rfl
theorem no_tuple : isNo (.tuple xs) = false := rfl
theorem no_none : isNo .none = true := rfl
theorem no_bool : isNo (.bool b) = false := rfl
theorem no_str {s : Str} : isNo (.str s) = false := rfl
end
end Q

set_option Elab.async false
set_option linter.all false
set_option maxRecDepth 100000
set_option autoImplicit false
namespace QKk01
open Q
open PySem (PyData)
theorem revD_get {n j : Nat} {d : PyData} (e : (revD n)[j]? = some d) : j < n ∧ d = .int ((n : Int) - 1 - (j : Int)) := by
  unfold revD at e
  rw [List.getElem?_map] at e
  by_cases h : j < n
  · rw [List.getElem?_range h] at e
    cases e
    exact ⟨h, rfl⟩
  · rw [List.getElem?_eq_none (by simpa using h)] at e
    cases e
theorem f0 (n : Nat) (w : Int) (h0 : 0 ≤ w) (h1 : w ≤ 1000000) : md.Phi (n + 1) 0 [.int w] = .ok (.fr (.int (2 ^ w.toNat))) := by
  refine Phi_rt (d := d0) (env := [some (.fr (.int w))]) rfl rfl rfl ?_
  have e : (if (0 : Int) > w then (0 : Int) else w) = w := if_neg (by omega)
  simp -implicitDefEqProofs only [Q.xs, Q.xs1, ev, evs, evI, evC, evJ, bind_ok, bind_exc, exR_ok, exR_exc, seq_nx, seq_rt, seq_xc, varR_0, varR_S, bb_add, bb_sub, bb_mul2, bb_and, cc_lt, cc_le, cc_gt, cc_ge, cc_eq, cc_ne, cc_eqb, cc_eqs, ll_len, ll_lent, ll_list, ll_listt, ll_max2, ll_min2, toD_fr, toD_ow, lstR_ok, neg_i, erR_0, erR_S, catch_nx, catch_rt, catch_xc, sfin_rt, sfin_nx, noEr_n, noEr_f, noEr_o, noEr_0, no_int, no_list, no_tuple, no_none, no_bool, no_str, isiD, List.set_cons_zero, List.set_cons_succ, decide_true, decide_false, Bool.not_true, Bool.not_false, if_true, if_false, Bool.false_eq_true, reduceIte, d0, e, bb_shl1 ⟨h0, h1⟩]
theorem f5a (Φ : Fns) (w : Nat) : floop (fun d env => xs SS md.sub Φ md.L (.cons (.set 1 (.bin .mul (.var 1) (.cI 2))) .nil) (env.set 2 (some (.fr d)))) (rangeD 0 w) [some (.fr (.int w)), some (.fr (.int 1)), none] = .nx [some (.fr (.int w)), some (.fr (.int (2 ^ w))), if w = 0 then none else some (.fr (.int ((w : Int) - 1)))] := by
  have e := floop_go (f := fun d env => xs SS md.sub Φ md.L (.cons (.set 1 (.bin .mul (.var 1) (.cI 2))) .nil) (env.set 2 (some (.fr d)))) (fun i => [some (.fr (.int w)), some (.fr (.int (2 ^ i))), if i = 0 then none else some (.fr (.int ((i : Int) - 1)))]) (rangeD 0 w) 0 (fun j d hd => by
    obtain ⟨_, rfl⟩ := rangeD_get hd
    simp -implicitDefEqProofs only [Q.xs, Q.xs1, ev, evs, evI, evC, evJ, bind_ok, bind_exc, exR_ok, exR_exc, seq_nx, seq_rt, seq_xc, varR_0, varR_S, bb_add, bb_sub, bb_mul2, bb_and, cc_lt, cc_le, cc_gt, cc_ge, cc_eq, cc_ne, cc_eqb, cc_eqs, ll_len, ll_lent, ll_list, ll_listt, ll_max2, ll_min2, toD_fr, toD_ow, lstR_ok, neg_i, erR_0, erR_S, catch_nx, catch_rt, catch_xc, sfin_rt, sfin_nx, noEr_n, noEr_f, noEr_o, noEr_0, no_int, no_list, no_tuple, no_none, no_bool, no_str, isiD, List.set_cons_zero, List.set_cons_succ, decide_true, decide_false, Bool.not_true, Bool.not_false, if_true, if_false, Bool.false_eq_true, reduceIte]
    rw [if_neg (by omega), Int.pow_succ, show ((0 + j + 1 : Nat) : Int) - 1 = 0 + (j : Int) by omega])
  rw [rangeD_len, Nat.zero_add, if_pos rfl] at e
  exact e
theorem f5 (n : Nat) (w : Nat) (h1 : (w : Int) ≤ 1000000) : md.Phi (n + 1) 5 [.int w] = .ok (.fr (.int (2 ^ w))) := by
  refine Phi_rt (d := d5) (env := [some (.fr (.int w)), none, none]) rfl rfl rfl ?_
  have hn : numR (.int (w : Int)) = .ok (w : Int) := numR_ok (by omega)
  have e := f5a (md.Phi n) w
  simp -implicitDefEqProofs only [Q.xs, Q.xs1, ev, evs, evI, evC, evJ, bind_ok, bind_exc, exR_ok, exR_exc, seq_nx, seq_rt, seq_xc, varR_0, varR_S, bb_add, bb_sub, bb_mul2, bb_and, cc_lt, cc_le, cc_gt, cc_ge, cc_eq, cc_ne, cc_eqb, cc_eqs, ll_len, ll_lent, ll_list, ll_listt, ll_max2, ll_min2, toD_fr, toD_ow, lstR_ok, neg_i, erR_0, erR_S, catch_nx, catch_rt, catch_xc, sfin_rt, sfin_nx, noEr_n, noEr_f, noEr_o, noEr_0, no_int, no_list, no_tuple, no_none, no_bool, no_str, isiD, List.set_cons_zero, List.set_cons_succ, decide_true, decide_false, Bool.not_true, Bool.not_false, if_true, if_false, Bool.false_eq_true, reduceIte] at e
  simp -implicitDefEqProofs only [Q.xs, Q.xs1, ev, evs, evI, evC, evJ, bind_ok, bind_exc, exR_ok, exR_exc, seq_nx, seq_rt, seq_xc, varR_0, varR_S, bb_add, bb_sub, bb_mul2, bb_and, cc_lt, cc_le, cc_gt, cc_ge, cc_eq, cc_ne, cc_eqb, cc_eqs, ll_len, ll_lent, ll_list, ll_listt, ll_max2, ll_min2, toD_fr, toD_ow, lstR_ok, neg_i, erR_0, erR_S, catch_nx, catch_rt, catch_xc, sfin_rt, sfin_nx, noEr_n, noEr_f, noEr_o, noEr_0, no_int, no_list, no_tuple, no_none, no_bool, no_str, isiD, List.set_cons_zero, List.set_cons_succ, decide_true, decide_false, Bool.not_true, Bool.not_false, if_true, if_false, Bool.false_eq_true, reduceIte, d5, hn, Int.toNat_natCast, e]
/-- the bits of a number, the lowest first -/
def low (x : Int) : Nat → List PyData
  | 0 => []
  | n + 1 => .int (x % 2) :: low (x / 2) n
theorem low_snoc (x : Int) : ∀ n : Nat, low x (n + 1) = low x n ++ [.int (x / 2 ^ n % 2)]
  | 0 => by simp [low]
  | n + 1 => by
    have := low_snoc (x / 2) n
    show PyData.int (x % 2) :: low (x / 2) (n + 1) = (.int (x % 2) :: low (x / 2) n) ++ _
    rw [this, Int.ediv_ediv_of_nonneg (by first | decide | exact Int.le_of_lt (Int.pow_pos (by decide))), Int.mul_comm, ← Int.pow_succ]
    rfl
theorem low_len (x : Int) : ∀ n : Nat, (low x n).length = n
  | 0 => rfl
  | n + 1 => congrArg (· + 1) (low_len (x / 2) n)
def wr (x : Int) (n : Nat) : List PyData := (low x n).reverse
theorem f6a (Φ : Fns) (x : Int) (w : Nat) (hw : w ≤ 1000000) : floop (fun d env => xs SS md.sub Φ md.L (.cons (.app 2 (.bin .mod (.var 0) (.cI 2))) (.cons (.set 0 (.bin .fdiv (.var 0) (.cI 2))) .nil)) (env.set 3 (some (.fr d)))) (rangeD 0 w) [some (.fr (.int x)), some (.fr (.int w)), some (.ow []), none] = .nx [some (.fr (.int (x / 2 ^ w))), some (.fr (.int w)), some (.ow (low x w)), if w = 0 then none else some (.fr (.int ((w : Int) - 1)))] := by
  have e := floop_go (f := fun d env => xs SS md.sub Φ md.L (.cons (.app 2 (.bin .mod (.var 0) (.cI 2))) (.cons (.set 0 (.bin .fdiv (.var 0) (.cI 2))) .nil)) (env.set 3 (some (.fr d)))) (fun i => [some (.fr (.int (x / 2 ^ i))), some (.fr (.int w)), some (.ow (low x i)), if i = 0 then none else some (.fr (.int ((i : Int) - 1)))]) (rangeD 0 w) 0 (fun j d hd => by
    obtain ⟨hj, rfl⟩ := rangeD_get hd
    have hm : binD .mod (.int (x / 2 ^ (0 + j))) (.int 2) = .ok (.int (x / 2 ^ (0 + j) % 2)) := bb_mod (by decide)
    have hd : binD .fdiv (.int (x / 2 ^ (0 + j))) (.int 2) = .ok (.int (x / 2 ^ (0 + j) / 2)) := bb_fdiv (by decide) (by decide)
    have hl : ((low x (0 + j)).length < szl) = True := eq_true (by rw [low_len]; show 0 + j < 16777216; omega)
    simp -implicitDefEqProofs only [Q.xs, Q.xs1, ev, evs, evI, evC, evJ, bind_ok, bind_exc, exR_ok, exR_exc, seq_nx, seq_rt, seq_xc, varR_0, varR_S, bb_add, bb_sub, bb_mul2, bb_and, cc_lt, cc_le, cc_gt, cc_ge, cc_eq, cc_ne, cc_eqb, cc_eqs, ll_len, ll_lent, ll_list, ll_listt, ll_max2, ll_min2, toD_fr, toD_ow, lstR_ok, neg_i, erR_0, erR_S, catch_nx, catch_rt, catch_xc, sfin_rt, sfin_nx, noEr_n, noEr_f, noEr_o, noEr_0, no_int, no_list, no_tuple, no_none, no_bool, no_str, isiD, List.set_cons_zero, List.set_cons_succ, decide_true, decide_false, Bool.not_true, Bool.not_false, if_true, if_false, Bool.false_eq_true, reduceIte, hm, hd, hl, List.getElem?_cons_zero, List.getElem?_cons_succ]
    rw [if_neg (by omega), Int.ediv_ediv_of_nonneg (by first | decide | exact Int.le_of_lt (Int.pow_pos (by decide))), ← Int.pow_succ, low_snoc, show ((0 + j + 1 : Nat) : Int) - 1 = 0 + (j : Int) by omega])
  rw [rangeD_len, Nat.zero_add, if_pos rfl] at e
  rw [show x / 2 ^ 0 = x by simp] at e
  exact e
theorem f6 (n : Nat) (x : Int) (w : Nat) (hw : w ≤ 1000000) : md.Phi (n + 1) 6 [.int x, .int w] = .ok (.fr (.list (wr x w))) := by
  refine Phi_rt (d := d6) (env := [some (.fr (.int x)), some (.fr (.int w)), none, none]) rfl rfl rfl ?_
  have hn : numR (.int (w : Int)) = .ok (w : Int) := numR_ok (by omega)
  have e := f6a (md.Phi n) x w hw
  simp -implicitDefEqProofs only [Q.xs, Q.xs1, ev, evs, evI, evC, evJ, bind_ok, bind_exc, exR_ok, exR_exc, seq_nx, seq_rt, seq_xc, varR_0, varR_S, bb_add, bb_sub, bb_mul2, bb_and, cc_lt, cc_le, cc_gt, cc_ge, cc_eq, cc_ne, cc_eqb, cc_eqs, ll_len, ll_lent, ll_list, ll_listt, ll_max2, ll_min2, toD_fr, toD_ow, lstR_ok, neg_i, erR_0, erR_S, catch_nx, catch_rt, catch_xc, sfin_rt, sfin_nx, noEr_n, noEr_f, noEr_o, noEr_0, no_int, no_list, no_tuple, no_none, no_bool, no_str, isiD, List.set_cons_zero, List.set_cons_succ, decide_true, decide_false, Bool.not_true, Bool.not_false, if_true, if_false, Bool.false_eq_true, reduceIte] at e
  have z : ([] : List PyData).length ≤ szl := by decide
  simp -implicitDefEqProofs only [Q.xs, Q.xs1, ev, evs, evI, evC, evJ, bind_ok, bind_exc, exR_ok, exR_exc, seq_nx, seq_rt, seq_xc, varR_0, varR_S, bb_add, bb_sub, bb_mul2, bb_and, cc_lt, cc_le, cc_gt, cc_ge, cc_eq, cc_ne, cc_eqb, cc_eqs, ll_len, ll_lent, ll_list, ll_listt, ll_max2, ll_min2, toD_fr, toD_ow, lstR_ok, neg_i, erR_0, erR_S, catch_nx, catch_rt, catch_xc, sfin_rt, sfin_nx, noEr_n, noEr_f, noEr_o, noEr_0, no_int, no_list, no_tuple, no_none, no_bool, no_str, isiD, List.set_cons_zero, List.set_cons_succ, decide_true, decide_false, Bool.not_true, Bool.not_false, if_true, if_false, Bool.false_eq_true, reduceIte, d6, hn, Int.toNat_natCast, e, if_pos z, List.getElem?_cons_zero, List.getElem?_cons_succ]
  rfl
theorem low_map (x : Int) : ∀ n : Nat, low x n = (List.range n).map fun k => PyData.int (x / 2 ^ k % 2)
  | 0 => rfl
  | n + 1 => by rw [low_snoc, low_map x n, List.range_succ, List.map_append]; rfl
theorem rev_map (x : Int) (w : Nat) : (revD w).map (fun d => match d with | .int k => PyData.int (x / 2 ^ k.toNat % 2) | d => d) = wr x w := by
  unfold wr revD
  rw [low_map, List.map_map, ← List.map_reverse]
  apply List.ext_getElem
  · simp
  · intro i h1 h2
    have h1 : i < w := by simpa using h1
    simp only [List.getElem_map, List.getElem_range, List.getElem_reverse, List.length_range, Function.comp]
    rw [show ((w : Int) - 1 - (i : Int)).toNat = w - 1 - i by omega]
theorem mapR_map {f : PyData → Rs PyData} {g : PyData → PyData} : ∀ {ds : List PyData}, (∀ d ∈ ds, f d = .ok (g d)) → mapR f ds = .ok (ds.map g)
  | [], _ => rfl
  | d :: ds, h => by
    unfold mapR
    rw [h d List.mem_cons_self, mapR_map fun d hd => h d (List.mem_cons_of_mem _ hd)]
    rfl
theorem f1 (n : Nat) (x : Int) (w : Nat) (hw : w ≤ 1000000) (h0 : 0 ≤ x) (h1 : x < 2 ^ w) : md.Phi (n + 2) 1 [.int x, .int w] = .ok (.fr (.list (wr x w))) := by
  refine Phi_rt (d := d1) (env := [some (.fr (.int x)), some (.fr (.int w)), none]) rfl rfl rfl ?_
  have e0 := f0 n w (by omega) (by omega)
  have hn : numR (.int (w : Int)) = .ok (w : Int) := numR_ok (by omega)
  have d1' : decide ((0 : Int) ≤ x) = true := decide_eq_true h0
  have d2 : decide (x < 2 ^ w) = true := decide_eq_true h1
  have hm : mapR (fun d => ((binD .shr (.int x) d).bind fun a => binD .band a (.int 1)).cold) (revD w) = .ok (wr x w) := by
    rw [← rev_map]
    refine mapR_map fun d hd => ?_
    obtain ⟨i, hi, e⟩ := List.getElem_of_mem hd
    obtain ⟨hj, rfl⟩ := revD_get (List.getElem?_eq_some_iff.mpr ⟨hi, e⟩)
    simp -implicitDefEqProofs only [Q.xs, Q.xs1, ev, evs, evI, evC, evJ, bind_ok, bind_exc, exR_ok, exR_exc, seq_nx, seq_rt, seq_xc, varR_0, varR_S, bb_add, bb_sub, bb_mul2, bb_and, cc_lt, cc_le, cc_gt, cc_ge, cc_eq, cc_ne, cc_eqb, cc_eqs, ll_len, ll_lent, ll_list, ll_listt, ll_max2, ll_min2, toD_fr, toD_ow, lstR_ok, neg_i, erR_0, erR_S, catch_nx, catch_rt, catch_xc, sfin_rt, sfin_nx, noEr_n, noEr_f, noEr_o, noEr_0, no_int, no_list, no_tuple, no_none, no_bool, no_str, isiD, List.set_cons_zero, List.set_cons_succ, decide_true, decide_false, Bool.not_true, Bool.not_false, if_true, if_false, Bool.false_eq_true, reduceIte, bb_shr (show 0 ≤ (w : Int) - 1 - (i : Int) by omega)]
    rfl
  have hl : ((revD w).length ≤ szl) = True := eq_true (by unfold revD; rw [List.length_map, List.length_range]; show w ≤ 16777216; omega)
  simp -implicitDefEqProofs only [Q.xs, Q.xs1, ev, evs, evI, evC, evJ, bind_ok, bind_exc, exR_ok, exR_exc, seq_nx, seq_rt, seq_xc, varR_0, varR_S, bb_add, bb_sub, bb_mul2, bb_and, cc_lt, cc_le, cc_gt, cc_ge, cc_eq, cc_ne, cc_eqb, cc_eqs, ll_len, ll_lent, ll_list, ll_listt, ll_max2, ll_min2, toD_fr, toD_ow, lstR_ok, neg_i, erR_0, erR_S, catch_nx, catch_rt, catch_xc, sfin_rt, sfin_nx, noEr_n, noEr_f, noEr_o, noEr_0, no_int, no_list, no_tuple, no_none, no_bool, no_str, isiD, List.set_cons_zero, List.set_cons_succ, decide_true, decide_false, Bool.not_true, Bool.not_false, if_true, if_false, Bool.false_eq_true, reduceIte, d1, e0, hn, Int.toNat_natCast, d1', d2, hl, hm]
theorem tos_len (w : Nat) (hw : w < 65) : (PySem.Str.ofString (toString (w : Int))).length ≤ 3 := by
  have : ∀ w : Fin 65, (PySem.Str.ofString (toString ((w.val : Nat) : Int))).length ≤ 3 := by decide +kernel
  exact this ⟨w, hw⟩
theorem f1x (n : Nat) (x : Int) (w : Nat) (hw : w < 65) (h : ¬ (0 ≤ x ∧ x < 2 ^ w)) : md.Phi (n + 2) 1 [.int x, .int w] = .exc 0 := by
  refine Phi_xc (d := d1) (env := [some (.fr (.int x)), some (.fr (.int w)), none]) (env' := [some (.fr (.int x)), some (.fr (.int w)), none]) rfl rfl rfl ?_
  have e0 := f0 n w (by omega) (by omega)
  have hl : ((w : Int).natAbs.log2 < 1920) = True := eq_true (by
    refine Nat.lt_of_le_of_lt (Nat.log2_le_self _) ?_
    omega)
  have hf : evF SS (md.Phi (n + 1)) (.cons (.cS "the number does not go into ") (.cons (.fmt (.var 1)) (.cons (.cS " bits") .nil))) PySem.Str.empty [some (.fr (.int x)), some (.fr (.int w)), none] = .ok ((PySem.Str.empty ++ "the number does not go into ") ++ PySem.Str.ofString (toString (w : Int)) ++ " bits") := by
    have c1 : (PySem.Str.empty ++ (PySem.Str.ofString "the number does not go into ")).length = 28 := by decide +kernel
    have c2 : (PySem.Str.ofString " bits").length = 5 := by decide +kernel
    have c3 := tos_len w hw
    have l1 : ((PySem.Str.empty ++ (PySem.Str.ofString "the number does not go into ")).length ≤ szl) = True := eq_true (by rw [c1]; decide)
    have l2 : ((PySem.Str.empty ++ (PySem.Str.ofString "the number does not go into ") ++ PySem.Str.ofString (toString (w : Int))).length ≤ szl) = True := eq_true (by rw [str_app, c1]; show _ ≤ 16777216; omega)
    have l3 : ((PySem.Str.empty ++ (PySem.Str.ofString "the number does not go into ") ++ PySem.Str.ofString (toString (w : Int)) ++ (PySem.Str.ofString " bits")).length ≤ szl) = True := eq_true (by rw [str_app, str_app, c1, c2]; show _ ≤ 16777216; omega)
    simp -implicitDefEqProofs only [Q.xs, Q.xs1, ev, evs, evI, evC, evJ, bind_ok, bind_exc, exR_ok, exR_exc, seq_nx, seq_rt, seq_xc, varR_0, varR_S, bb_add, bb_sub, bb_mul2, bb_and, cc_lt, cc_le, cc_gt, cc_ge, cc_eq, cc_ne, cc_eqb, cc_eqs, ll_len, ll_lent, ll_list, ll_listt, ll_max2, ll_min2, toD_fr, toD_ow, lstR_ok, neg_i, erR_0, erR_S, catch_nx, catch_rt, catch_xc, sfin_rt, sfin_nx, noEr_n, noEr_f, noEr_o, noEr_0, no_int, no_list, no_tuple, no_none, no_bool, no_str, isiD, List.set_cons_zero, List.set_cons_succ, decide_true, decide_false, Bool.not_true, Bool.not_false, if_true, if_false, Bool.false_eq_true, reduceIte, evF, fmt_int (of_eq_true hl), l1, l2, l3]
  by_cases h0 : 0 ≤ x
  · have h1 : ¬ x < 2 ^ w := fun z => h ⟨h0, z⟩
    have d1' : decide ((0 : Int) ≤ x) = true := decide_eq_true h0
    have d2 : decide (x < 2 ^ w) = false := decide_eq_false h1
    simp -implicitDefEqProofs only [Q.xs, Q.xs1, ev, evs, evI, evC, evJ, bind_ok, bind_exc, exR_ok, exR_exc, seq_nx, seq_rt, seq_xc, varR_0, varR_S, bb_add, bb_sub, bb_mul2, bb_and, cc_lt, cc_le, cc_gt, cc_ge, cc_eq, cc_ne, cc_eqb, cc_eqs, ll_len, ll_lent, ll_list, ll_listt, ll_max2, ll_min2, toD_fr, toD_ow, lstR_ok, neg_i, erR_0, erR_S, catch_nx, catch_rt, catch_xc, sfin_rt, sfin_nx, noEr_n, noEr_f, noEr_o, noEr_0, no_int, no_list, no_tuple, no_none, no_bool, no_str, isiD, List.set_cons_zero, List.set_cons_succ, decide_true, decide_false, Bool.not_true, Bool.not_false, if_true, if_false, Bool.false_eq_true, reduceIte, d1, e0, d1', d2, Int.toNat_natCast, hf]
  · have d1' : decide ((0 : Int) ≤ x) = false := decide_eq_false h0
    simp -implicitDefEqProofs only [Q.xs, Q.xs1, ev, evs, evI, evC, evJ, bind_ok, bind_exc, exR_ok, exR_exc, seq_nx, seq_rt, seq_xc, varR_0, varR_S, bb_add, bb_sub, bb_mul2, bb_and, cc_lt, cc_le, cc_gt, cc_ge, cc_eq, cc_ne, cc_eqb, cc_eqs, ll_len, ll_lent, ll_list, ll_listt, ll_max2, ll_min2, toD_fr, toD_ow, lstR_ok, neg_i, erR_0, erR_S, catch_nx, catch_rt, catch_xc, sfin_rt, sfin_nx, noEr_n, noEr_f, noEr_o, noEr_0, no_int, no_list, no_tuple, no_none, no_bool, no_str, isiD, List.set_cons_zero, List.set_cons_succ, decide_true, decide_false, Bool.not_true, Bool.not_false, if_true, if_false, Bool.false_eq_true, reduceIte, d1, d1', hf]
/-- the bits as numbers -/
def lowI (x : Int) : Nat → List Int
  | 0 => []
  | n + 1 => x % 2 :: lowI (x / 2) n
theorem low_is (x : Int) : ∀ n : Nat, low x n = (lowI x n).map .int
  | 0 => rfl
  | n + 1 => by
    show _ :: low (x / 2) n = _ :: _
    rw [low_is (x / 2) n]
theorem wr_is (x : Int) (n : Nat) : wr x n = ((lowI x n).reverse).map .int := by
  unfold wr
  rw [low_is, List.map_reverse]
theorem lowI_len (x : Int) : ∀ n : Nat, (lowI x n).length = n
  | 0 => rfl
  | n + 1 => congrArg (· + 1) (lowI_len (x / 2) n)
theorem low_val : ∀ (n : Nat) (x : Int), 0 ≤ x → x < 2 ^ n → (lowI x n).foldr (fun b acc => acc * 2 + b) 0 = x
  | 0, x, h0, h1 => by
    have : x = 0 := by simp at h1; omega
    subst this
    rfl
  | n + 1, x, h0, h1 => by
    rw [Int.pow_succ] at h1
    show (lowI (x / 2) n).foldr (fun b acc => acc * 2 + b) 0 * 2 + x % 2 = x
    rw [low_val n (x / 2) (by omega) (by omega)]
    omega
theorem fold_go (l : List Int) : ∀ i : Nat, i < l.length → (l.take (i + 1)).foldl (fun acc b => acc * 2 + b) 0 = (l.take i).foldl (fun acc b => acc * 2 + b) 0 * 2 + l.getD i 0 := by
  intro i h
  rw [List.take_add_one, List.foldl_append, List.getD_eq_getElem?_getD, List.getElem?_eq_getElem h]
  rfl
theorem f2a (Φ : Fns) (l : List Int) : floop (fun d env => xs SS md.sub Φ md.L (.cons (.set 1 (.bin .add (.bin .mul (.var 1) (.cI 2)) (.var 2))) .nil) (env.set 2 (some (.fr d)))) (l.map .int) [some (.fr (.list (l.map .int))), some (.fr (.int 0)), none] =
    .nx [some (.fr (.list (l.map .int))), some (.fr (.int (l.foldl (fun acc b => acc * 2 + b) 0))), if l.length = 0 then none else some (.fr (.int (l.getD (l.length - 1) 0)))] := by
  have e := floop_go (f := fun d env => xs SS md.sub Φ md.L (.cons (.set 1 (.bin .add (.bin .mul (.var 1) (.cI 2)) (.var 2))) .nil) (env.set 2 (some (.fr d)))) (fun i => [some (.fr (.list (l.map .int))), some (.fr (.int ((l.take i).foldl (fun acc b => acc * 2 + b) 0))), if i = 0 then none else some (.fr (.int (l.getD (i - 1) 0)))]) (l.map .int) 0 (fun j d hd => by
    rw [List.getElem?_map] at hd
    have hj : j < l.length := by
      by_cases h : j < l.length
      · exact h
      · rw [List.getElem?_eq_none (by omega)] at hd
        cases hd
    have ed : d = .int (l.getD j 0) := by
      rw [List.getElem?_eq_getElem hj] at hd
      rw [List.getD_eq_getElem?_getD, List.getElem?_eq_getElem hj]
      injection hd with hd
      exact hd.symm
    subst ed
    simp -implicitDefEqProofs only [Q.xs, Q.xs1, ev, evs, evI, evC, evJ, bind_ok, bind_exc, exR_ok, exR_exc, seq_nx, seq_rt, seq_xc, varR_0, varR_S, bb_add, bb_sub, bb_mul2, bb_and, cc_lt, cc_le, cc_gt, cc_ge, cc_eq, cc_ne, cc_eqb, cc_eqs, ll_len, ll_lent, ll_list, ll_listt, ll_max2, ll_min2, toD_fr, toD_ow, lstR_ok, neg_i, erR_0, erR_S, catch_nx, catch_rt, catch_xc, sfin_rt, sfin_nx, noEr_n, noEr_f, noEr_o, noEr_0, no_int, no_list, no_tuple, no_none, no_bool, no_str, isiD, List.set_cons_zero, List.set_cons_succ, decide_true, decide_false, Bool.not_true, Bool.not_false, if_true, if_false, Bool.false_eq_true, reduceIte]
    rw [if_neg (by omega), Nat.zero_add, fold_go l j hj, show j + 1 - 1 = j by omega])
  rw [List.length_map, Nat.zero_add, if_pos rfl, List.take_length] at e
  exact e
theorem f2 (n : Nat) (l : List Int) : md.Phi (n + 1) 2 [.list (l.map .int)] = .ok (.fr (.int (l.foldl (fun acc b => acc * 2 + b) 0))) := by
  refine Phi_rt (d := d2) (env := [some (.fr (.list (l.map .int))), none, none]) rfl rfl rfl ?_
  have e := f2a (md.Phi n) l
  simp -implicitDefEqProofs only [Q.xs, Q.xs1, ev, evs, evI, evC, evJ, bind_ok, bind_exc, exR_ok, exR_exc, seq_nx, seq_rt, seq_xc, varR_0, varR_S, bb_add, bb_sub, bb_mul2, bb_and, cc_lt, cc_le, cc_gt, cc_ge, cc_eq, cc_ne, cc_eqb, cc_eqs, ll_len, ll_lent, ll_list, ll_listt, ll_max2, ll_min2, toD_fr, toD_ow, lstR_ok, neg_i, erR_0, erR_S, catch_nx, catch_rt, catch_xc, sfin_rt, sfin_nx, noEr_n, noEr_f, noEr_o, noEr_0, no_int, no_list, no_tuple, no_none, no_bool, no_str, isiD, List.set_cons_zero, List.set_cons_succ, decide_true, decide_false, Bool.not_true, Bool.not_false, if_true, if_false, Bool.false_eq_true, reduceIte] at e
  simp -implicitDefEqProofs only [Q.xs, Q.xs1, ev, evs, evI, evC, evJ, bind_ok, bind_exc, exR_ok, exR_exc, seq_nx, seq_rt, seq_xc, varR_0, varR_S, bb_add, bb_sub, bb_mul2, bb_and, cc_lt, cc_le, cc_gt, cc_ge, cc_eq, cc_ne, cc_eqb, cc_eqs, ll_len, ll_lent, ll_list, ll_listt, ll_max2, ll_min2, toD_fr, toD_ow, lstR_ok, neg_i, erR_0, erR_S, catch_nx, catch_rt, catch_xc, sfin_rt, sfin_nx, noEr_n, noEr_f, noEr_o, noEr_0, no_int, no_list, no_tuple, no_none, no_bool, no_str, isiD, List.set_cons_zero, List.set_cons_succ, decide_true, decide_false, Bool.not_true, Bool.not_false, if_true, if_false, Bool.false_eq_true, reduceIte, d2, e]
theorem f2w (n : Nat) (x : Int) (w : Nat) (h0 : 0 ≤ x) (h1 : x < 2 ^ w) : md.Phi (n + 1) 2 [.list (wr x w)] = .ok (.fr (.int x)) := by
  rw [wr_is, f2, List.foldl_reverse, low_val w x h0 h1]
def cell (ns : List Int) (k : Nat) : Int := ns.getD k 0
theorem f3 (n : Nat) (ns : List Int) (k : Nat) : md.Phi (n + 1) 3 [.list (ns.map .int), .int (k : Int)] = .ok (.fr (.int (cell ns k))) := by
  refine Phi_rt (d := d3) (env := [some (.fr (.list (ns.map .int))), some (.fr (.int k))]) rfl rfl rfl ?_
  by_cases h : k < ns.length
  · have e : decide ((k : Int) < ((ns.map PyData.int).length : Int)) = true := decide_eq_true (by rw [List.length_map]; omega)
    have e2 : ixR (.list (ns.map .int)) (.int (k : Int)) = .ok (.int (cell ns k)) := ix_l (by
      unfold cell
      rw [List.getElem?_map, List.getD_eq_getElem?_getD, List.getElem?_eq_getElem h]
      rfl)
    simp -implicitDefEqProofs only [Q.xs, Q.xs1, ev, evs, evI, evC, evJ, bind_ok, bind_exc, exR_ok, exR_exc, seq_nx, seq_rt, seq_xc, varR_0, varR_S, bb_add, bb_sub, bb_mul2, bb_and, cc_lt, cc_le, cc_gt, cc_ge, cc_eq, cc_ne, cc_eqb, cc_eqs, ll_len, ll_lent, ll_list, ll_listt, ll_max2, ll_min2, toD_fr, toD_ow, lstR_ok, neg_i, erR_0, erR_S, catch_nx, catch_rt, catch_xc, sfin_rt, sfin_nx, noEr_n, noEr_f, noEr_o, noEr_0, no_int, no_list, no_tuple, no_none, no_bool, no_str, isiD, List.set_cons_zero, List.set_cons_succ, decide_true, decide_false, Bool.not_true, Bool.not_false, if_true, if_false, Bool.false_eq_true, reduceIte, d3, e, e2]
  · have e : decide ((k : Int) < ((ns.map PyData.int).length : Int)) = false := decide_eq_false (by rw [List.length_map]; omega)
    have e2 : cell ns k = 0 := by
      unfold cell
      rw [List.getD_eq_getElem?_getD, List.getElem?_eq_none (by omega)]
      rfl
    simp -implicitDefEqProofs only [Q.xs, Q.xs1, ev, evs, evI, evC, evJ, bind_ok, bind_exc, exR_ok, exR_exc, seq_nx, seq_rt, seq_xc, varR_0, varR_S, bb_add, bb_sub, bb_mul2, bb_and, cc_lt, cc_le, cc_gt, cc_ge, cc_eq, cc_ne, cc_eqb, cc_eqs, ll_len, ll_lent, ll_list, ll_listt, ll_max2, ll_min2, toD_fr, toD_ow, lstR_ok, neg_i, erR_0, erR_S, catch_nx, catch_rt, catch_xc, sfin_rt, sfin_nx, noEr_n, noEr_f, noEr_o, noEr_0, no_int, no_list, no_tuple, no_none, no_bool, no_str, isiD, List.set_cons_zero, List.set_cons_succ, decide_true, decide_false, Bool.not_true, Bool.not_false, if_true, if_false, Bool.false_eq_true, reduceIte, d3, e, e2]
theorem f4 (n : Nat) (x : Int) : md.Phi (n + 1) 4 [.int x] = .ok (.fr (.bool true)) := by
  refine Phi_rt (d := d4) (env := [some (.fr (.int x))]) rfl rfl rfl ?_
  simp -implicitDefEqProofs only [Q.xs, Q.xs1, ev, evs, evI, evC, evJ, bind_ok, bind_exc, exR_ok, exR_exc, seq_nx, seq_rt, seq_xc, varR_0, varR_S, bb_add, bb_sub, bb_mul2, bb_and, cc_lt, cc_le, cc_gt, cc_ge, cc_eq, cc_ne, cc_eqb, cc_eqs, ll_len, ll_lent, ll_list, ll_listt, ll_max2, ll_min2, toD_fr, toD_ow, lstR_ok, neg_i, erR_0, erR_S, catch_nx, catch_rt, catch_xc, sfin_rt, sfin_nx, noEr_n, noEr_f, noEr_o, noEr_0, no_int, no_list, no_tuple, no_none, no_bool, no_str, isiD, List.set_cons_zero, List.set_cons_succ, decide_true, decide_false, Bool.not_true, Bool.not_false, if_true, if_false, Bool.false_eq_true, reduceIte, d4]
theorem f7i (n : Nat) (x : Int) : md.Phi (n + 2) 7 [.int x, .int x] = .ok (.fr (.bool true)) := by
  refine Phi_rt (d := d7) (env := [some (.fr (.int x)), some (.fr (.int x)), none]) rfl rfl rfl ?_
  have e : decide (x = x) = true := decide_eq_true rfl
  simp -implicitDefEqProofs only [Q.xs, Q.xs1, ev, evs, evI, evC, evJ, bind_ok, bind_exc, exR_ok, exR_exc, seq_nx, seq_rt, seq_xc, varR_0, varR_S, bb_add, bb_sub, bb_mul2, bb_and, cc_lt, cc_le, cc_gt, cc_ge, cc_eq, cc_ne, cc_eqb, cc_eqs, ll_len, ll_lent, ll_list, ll_listt, ll_max2, ll_min2, toD_fr, toD_ow, lstR_ok, neg_i, erR_0, erR_S, catch_nx, catch_rt, catch_xc, sfin_rt, sfin_nx, noEr_n, noEr_f, noEr_o, noEr_0, no_int, no_list, no_tuple, no_none, no_bool, no_str, isiD, List.set_cons_zero, List.set_cons_succ, decide_true, decide_false, Bool.not_true, Bool.not_false, if_true, if_false, Bool.false_eq_true, reduceIte, d7, f4, e]
theorem f7l (n : Nat) (l : List Int) (hl : l.length < 2 ^ 62) : md.Phi (n + 3) 7 [.list (l.map .int), .list (l.map .int)] = .ok (.fr (.bool true)) := by
  refine Phi_rt (d := d7) (env := [some (.fr (.list (l.map .int))), some (.fr (.list (l.map .int))), none]) rfl rfl rfl ?_
  have e : decide (((l.map PyData.int).length : Int) = ((l.map PyData.int).length : Int)) = true := decide_eq_true rfl
  have hn : numR (.int ((l.map PyData.int).length : Int)) = .ok ((l.map PyData.int).length : Int) := numR_ok (by rw [List.length_map]; omega)
  have lp := floop_go (f := fun d env => xs SS md.sub (md.Phi (n + 2)) md.L (.cons (.ifs (.nt (.call 7 (.ix (.var 0) (.var 2)) (.cons (.ix (.var 1) (.var 2)) .nil))) (.cons (.ret (.cB false)) .nil) .nil) .nil) (env.set 2 (some (.fr d)))) (fun i => [some (.fr (.list (l.map .int))), some (.fr (.list (l.map .int))), if i = 0 then none else some (.fr (.int ((i : Int) - 1)))]) (rangeD 0 (l.map PyData.int).length) 0 (fun j d hd => by
    obtain ⟨hj, rfl⟩ := rangeD_get hd
    rw [List.length_map] at hj
    have hx : ixR (.list (l.map .int)) (.int (0 + (j : Int))) = .ok (.int l[j]) := by
      rw [Int.zero_add]
      exact ix_l (by rw [List.getElem?_map, List.getElem?_eq_getElem hj]; rfl)
    simp -implicitDefEqProofs only [Q.xs, Q.xs1, ev, evs, evI, evC, evJ, bind_ok, bind_exc, exR_ok, exR_exc, seq_nx, seq_rt, seq_xc, varR_0, varR_S, bb_add, bb_sub, bb_mul2, bb_and, cc_lt, cc_le, cc_gt, cc_ge, cc_eq, cc_ne, cc_eqb, cc_eqs, ll_len, ll_lent, ll_list, ll_listt, ll_max2, ll_min2, toD_fr, toD_ow, lstR_ok, neg_i, erR_0, erR_S, catch_nx, catch_rt, catch_xc, sfin_rt, sfin_nx, noEr_n, noEr_f, noEr_o, noEr_0, no_int, no_list, no_tuple, no_none, no_bool, no_str, isiD, List.set_cons_zero, List.set_cons_succ, decide_true, decide_false, Bool.not_true, Bool.not_false, if_true, if_false, Bool.false_eq_true, reduceIte, hx, f7i]
    rw [if_neg (by omega), show ((0 + j + 1 : Nat) : Int) - 1 = 0 + (j : Int) by omega])
  rw [if_pos rfl] at lp
  simp -implicitDefEqProofs only [Q.xs, Q.xs1, ev, evs, evI, evC, evJ, bind_ok, bind_exc, exR_ok, exR_exc, seq_nx, seq_rt, seq_xc, varR_0, varR_S, bb_add, bb_sub, bb_mul2, bb_and, cc_lt, cc_le, cc_gt, cc_ge, cc_eq, cc_ne, cc_eqb, cc_eqs, ll_len, ll_lent, ll_list, ll_listt, ll_max2, ll_min2, toD_fr, toD_ow, lstR_ok, neg_i, erR_0, erR_S, catch_nx, catch_rt, catch_xc, sfin_rt, sfin_nx, noEr_n, noEr_f, noEr_o, noEr_0, no_int, no_list, no_tuple, no_none, no_bool, no_str, isiD, List.set_cons_zero, List.set_cons_succ, decide_true, decide_false, Bool.not_true, Bool.not_false, if_true, if_false, Bool.false_eq_true, reduceIte] at lp
  simp -implicitDefEqProofs only [Q.xs, Q.xs1, ev, evs, evI, evC, evJ, bind_ok, bind_exc, exR_ok, exR_exc, seq_nx, seq_rt, seq_xc, varR_0, varR_S, bb_add, bb_sub, bb_mul2, bb_and, cc_lt, cc_le, cc_gt, cc_ge, cc_eq, cc_ne, cc_eqb, cc_eqs, ll_len, ll_lent, ll_list, ll_listt, ll_max2, ll_min2, toD_fr, toD_ow, lstR_ok, neg_i, erR_0, erR_S, catch_nx, catch_rt, catch_xc, sfin_rt, sfin_nx, noEr_n, noEr_f, noEr_o, noEr_0, no_int, no_list, no_tuple, no_none, no_bool, no_str, isiD, List.set_cons_zero, List.set_cons_succ, decide_true, decide_false, Bool.not_true, Bool.not_false, if_true, if_false, Bool.false_eq_true, reduceIte, d7, e, hn, Int.toNat_natCast, lp]
theorem f7w (n : Nat) (x : Int) (w : Nat) (hw : w ≤ 1000000) : md.Phi (n + 3) 7 [.list (wr x w), .list (wr x w)] = .ok (.fr (.bool true)) := by
  rw [wr_is]
  exact f7l n _ (by rw [List.length_reverse, lowI_len]; omega)
theorem f8 (n : Nat) (x : Int) (w : Nat) (hw : w < 65) (h : ¬ (0 ≤ x ∧ x < 2 ^ w)) : md.Phi (n + 3) 8 [.int x, .int w] = .ok (.fr (.bool true)) := by
  refine Phi_rt (d := d8) (env := [some (.fr (.int x)), some (.fr (.int w)), none]) rfl rfl rfl ?_
  have e := f1x n x w hw h
  have s0 : md.sub 0 0 = true := by decide
  have k0 : isK 0 [(0, false)] = .ok (.bool false) := rfl
  have k1 : isK 0 [(0, true)] = .ok (.bool true) := rfl
  have k2 : isA 0 [[(0, false)], [(0, false)], [(0, false)], [(0, false)]] = .ok (.bool false) := rfl
  simp -implicitDefEqProofs only [Q.xs, Q.xs1, ev, evs, evI, evC, evJ, bind_ok, bind_exc, exR_ok, exR_exc, seq_nx, seq_rt, seq_xc, varR_0, varR_S, bb_add, bb_sub, bb_mul2, bb_and, cc_lt, cc_le, cc_gt, cc_ge, cc_eq, cc_ne, cc_eqb, cc_eqs, ll_len, ll_lent, ll_list, ll_listt, ll_max2, ll_min2, toD_fr, toD_ow, lstR_ok, neg_i, erR_0, erR_S, catch_nx, catch_rt, catch_xc, sfin_rt, sfin_nx, noEr_n, noEr_f, noEr_o, noEr_0, no_int, no_list, no_tuple, no_none, no_bool, no_str, isiD, List.set_cons_zero, List.set_cons_succ, decide_true, decide_false, Bool.not_true, Bool.not_false, if_true, if_false, Bool.false_eq_true, reduceIte, d8, e, s0, k0, k1, k2]
theorem f9 (n : Nat) (ns : List Int) : md.Phi (n + 4) 9 [.list (ns.map .int)] = .ok (.fr (.bool true)) := by
  refine Phi_rt (d := d9) (env := [some (.fr (.list (ns.map .int))), none, none, none, none, none]) rfl rfl rfl ?_
  have c3 : md.Phi (n + 3) 3 [.list (ns.map .int), .int 3] = .ok (.fr (.int (cell ns 3))) := f3 (n + 2) ns 3
  have c4 : md.Phi (n + 3) 3 [.list (ns.map .int), .int 4] = .ok (.fr (.int (cell ns 4))) := f3 (n + 2) ns 4
  have c5 : md.Phi (n + 3) 3 [.list (ns.map .int), .int 5] = .ok (.fr (.int (cell ns 5))) := f3 (n + 2) ns 5
  have m70 : binD .mod (.int (cell ns 3)) (.int 70) = .ok (.int (cell ns 3 % 70)) := bb_mod (by decide)
  have m4 : binD .mod (.int (cell ns 5)) (.int 4) = .ok (.int (cell ns 5 % 4)) := bb_mod (by decide)
  have m531 : binD .mod (.int (cell ns 3)) (.int 531) = .ok (.int (cell ns 3 % 531)) := bb_mod (by decide)
  have pw : ∀ w : Nat, (0 : Int) < 2 ^ w := fun w => Int.pow_pos (by decide)
  have mw : ∀ w : Nat, binD .mod (.int (cell ns 4)) (.int (2 ^ w)) = .ok (.int (cell ns 4 % 2 ^ w)) := fun w => bb_mod (pw w)
  have tail : ∀ (w : Nat) (x : Int), w ≤ 601 → 0 ≤ x → x < 2 ^ w → md.Phi (n + 3) 5 [.int w] = .ok (.fr (.int (2 ^ w))) ∧ md.Phi (n + 3) 6 [.int x, .int w] = .ok (.fr (.list (wr x w))) ∧ md.Phi (n + 3) 2 [.list (wr x w)] = .ok (.fr (.int x)) ∧ md.Phi (n + 3) 4 [.int x] = .ok (.fr (.bool true)) ∧
      md.Phi (n + 3) 7 [.list (wr x w), .list (wr x w)] = .ok (.fr (.bool true)) ∧ decide (x = x) = true := fun w x h1 h2 h3 => ⟨f5 _ w (by omega), f6 _ x w (by omega), f2w _ x w h2 h3, f4 _ x, f7w _ x w (by omega), decide_eq_true rfl⟩
  by_cases q3 : cell ns 5 % 4 = 3
  · obtain ⟨w, hw, hwl⟩ : ∃ w : Nat, 70 + cell ns 3 % 531 = (w : Int) ∧ w ≤ 601 := ⟨(70 + cell ns 3 % 531).toNat, by omega, by omega⟩
    obtain ⟨x, hx, hx0, hx1⟩ : ∃ x : Int, cell ns 4 % 2 ^ w = x ∧ 0 ≤ x ∧ x < 2 ^ w := ⟨_, rfl, Int.emod_nonneg _ (by have := pw w; omega), Int.emod_lt_of_pos _ (pw w)⟩
    obtain ⟨t1, t2, t3, t4, t5, t6⟩ := tail w x hwl hx0 hx1
    have d3 : decide (cell ns 5 % 4 = 3) = true := decide_eq_true q3
    have d1' : decide (cell ns 5 % 4 = 1) = false := decide_eq_false (by omega)
    have d2' : decide (cell ns 5 % 4 = 2) = false := decide_eq_false (by omega)
    simp -implicitDefEqProofs only [Q.xs, Q.xs1, ev, evs, evI, evC, evJ, bind_ok, bind_exc, exR_ok, exR_exc, seq_nx, seq_rt, seq_xc, varR_0, varR_S, bb_add, bb_sub, bb_mul2, bb_and, cc_lt, cc_le, cc_gt, cc_ge, cc_eq, cc_ne, cc_eqb, cc_eqs, ll_len, ll_lent, ll_list, ll_listt, ll_max2, ll_min2, toD_fr, toD_ow, lstR_ok, neg_i, erR_0, erR_S, catch_nx, catch_rt, catch_xc, sfin_rt, sfin_nx, noEr_n, noEr_f, noEr_o, noEr_0, no_int, no_list, no_tuple, no_none, no_bool, no_str, isiD, List.set_cons_zero, List.set_cons_succ, decide_true, decide_false, Bool.not_true, Bool.not_false, if_true, if_false, Bool.false_eq_true, reduceIte, d9, c3, c4, c5, m70, m4, m531, mw, hw, hx, t1, t2, t3, t4, t5, t6, d3, d1', d2']
  · have d3 : decide (cell ns 5 % 4 = 3) = false := decide_eq_false q3
    obtain ⟨w, hw, hwl⟩ : ∃ w : Nat, cell ns 3 % 70 = (w : Int) ∧ w ≤ 601 := ⟨(cell ns 3 % 70).toNat, by omega, by omega⟩
    by_cases q1 : cell ns 5 % 4 = 1
    · have d1' : decide (cell ns 5 % 4 = 1) = true := decide_eq_true q1
      have d2' : decide (cell ns 5 % 4 = 2) = false := decide_eq_false (by omega)
      obtain ⟨x, hx, hx0, hx1⟩ : ∃ x : Int, 2 ^ w - 1 = x ∧ 0 ≤ x ∧ x < 2 ^ w := ⟨_, rfl, by have := pw w; omega, by omega⟩
      obtain ⟨t1, t2, t3, t4, t5, t6⟩ := tail w x hwl hx0 hx1
      simp -implicitDefEqProofs only [Q.xs, Q.xs1, ev, evs, evI, evC, evJ, bind_ok, bind_exc, exR_ok, exR_exc, seq_nx, seq_rt, seq_xc, varR_0, varR_S, bb_add, bb_sub, bb_mul2, bb_and, cc_lt, cc_le, cc_gt, cc_ge, cc_eq, cc_ne, cc_eqb, cc_eqs, ll_len, ll_lent, ll_list, ll_listt, ll_max2, ll_min2, toD_fr, toD_ow, lstR_ok, neg_i, erR_0, erR_S, catch_nx, catch_rt, catch_xc, sfin_rt, sfin_nx, noEr_n, noEr_f, noEr_o, noEr_0, no_int, no_list, no_tuple, no_none, no_bool, no_str, isiD, List.set_cons_zero, List.set_cons_succ, decide_true, decide_false, Bool.not_true, Bool.not_false, if_true, if_false, Bool.false_eq_true, reduceIte, d9, c3, c4, c5, m70, m4, m531, mw, hw, hx, t1, t2, t3, t4, t5, t6, d3, d1', d2']
    · have d1' : decide (cell ns 5 % 4 = 1) = false := decide_eq_false q1
      by_cases q2 : cell ns 5 % 4 = 2
      · have d2' : decide (cell ns 5 % 4 = 2) = true := decide_eq_true q2
        have hd : binD .fdiv (.int (2 ^ w)) (.int 8) = .ok (.int (2 ^ w / 8)) := bb_fdiv (by decide) (by decide)
        have hp : 0 < 1 + (2 : Int) ^ w / 8 := by have := pw w; omega
        have hm : binD .mod (.int (cell ns 4)) (.int (1 + 2 ^ w / 8)) = .ok (.int (cell ns 4 % (1 + 2 ^ w / 8))) := bb_mod hp
        obtain ⟨x, hx, hx0, hx1⟩ : ∃ x : Int, cell ns 4 % (1 + 2 ^ w / 8) = x ∧ 0 ≤ x ∧ x < 2 ^ w := ⟨_, rfl, Int.emod_nonneg _ (by omega), by
          have h1 := Int.emod_lt_of_pos (cell ns 4) hp
          have := pw w
          omega⟩
        obtain ⟨t1, t2, t3, t4, t5, t6⟩ := tail w x hwl hx0 hx1
        simp -implicitDefEqProofs only [Q.xs, Q.xs1, ev, evs, evI, evC, evJ, bind_ok, bind_exc, exR_ok, exR_exc, seq_nx, seq_rt, seq_xc, varR_0, varR_S, bb_add, bb_sub, bb_mul2, bb_and, cc_lt, cc_le, cc_gt, cc_ge, cc_eq, cc_ne, cc_eqb, cc_eqs, ll_len, ll_lent, ll_list, ll_listt, ll_max2, ll_min2, toD_fr, toD_ow, lstR_ok, neg_i, erR_0, erR_S, catch_nx, catch_rt, catch_xc, sfin_rt, sfin_nx, noEr_n, noEr_f, noEr_o, noEr_0, no_int, no_list, no_tuple, no_none, no_bool, no_str, isiD, List.set_cons_zero, List.set_cons_succ, decide_true, decide_false, Bool.not_true, Bool.not_false, if_true, if_false, Bool.false_eq_true, reduceIte, d9, c3, c4, c5, m70, m4, m531, mw, hw, hd, hm, hx, t1, t2, t3, t4, t5, t6, d3, d1', d2']
      · have d2' : decide (cell ns 5 % 4 = 2) = false := decide_eq_false q2
        obtain ⟨x, hx, hx0, hx1⟩ : ∃ x : Int, cell ns 4 % 2 ^ w = x ∧ 0 ≤ x ∧ x < 2 ^ w := ⟨_, rfl, Int.emod_nonneg _ (by have := pw w; omega), Int.emod_lt_of_pos _ (pw w)⟩
        obtain ⟨t1, t2, t3, t4, t5, t6⟩ := tail w x hwl hx0 hx1
        simp -implicitDefEqProofs only [Q.xs, Q.xs1, ev, evs, evI, evC, evJ, bind_ok, bind_exc, exR_ok, exR_exc, seq_nx, seq_rt, seq_xc, varR_0, varR_S, bb_add, bb_sub, bb_mul2, bb_and, cc_lt, cc_le, cc_gt, cc_ge, cc_eq, cc_ne, cc_eqb, cc_eqs, ll_len, ll_lent, ll_list, ll_listt, ll_max2, ll_min2, toD_fr, toD_ow, lstR_ok, neg_i, erR_0, erR_S, catch_nx, catch_rt, catch_xc, sfin_rt, sfin_nx, noEr_n, noEr_f, noEr_o, noEr_0, no_int, no_list, no_tuple, no_none, no_bool, no_str, isiD, List.set_cons_zero, List.set_cons_succ, decide_true, decide_false, Bool.not_true, Bool.not_false, if_true, if_false, Bool.false_eq_true, reduceIte, d9, c3, c4, c5, m70, m4, m531, mw, hw, hx, t1, t2, t3, t4, t5, t6, d3, d1', d2']
theorem dd_0_1 : decide ((0 : Int) = 1) = false := by decide
theorem dd_0_2 : decide ((0 : Int) = 2) = false := by decide
theorem dd_0_3 : decide ((0 : Int) = 3) = false := by decide
theorem dd_0_4 : decide ((0 : Int) = 4) = false := by decide
theorem nin_0 : cmpR SS .nin (.int 0) (.tuple [.int 2, .int 3, .int 4]) = .ok (!false) := nin_in ((in_tup ⟨rfl, rfl⟩).trans (by simp [PyData.eqv]))
theorem dd_1_1 : decide ((1 : Int) = 1) = true := by decide
theorem dd_1_2 : decide ((1 : Int) = 2) = false := by decide
theorem dd_1_3 : decide ((1 : Int) = 3) = false := by decide
theorem dd_1_4 : decide ((1 : Int) = 4) = false := by decide
theorem nin_1 : cmpR SS .nin (.int 1) (.tuple [.int 2, .int 3, .int 4]) = .ok (!false) := nin_in ((in_tup ⟨rfl, rfl⟩).trans (by simp [PyData.eqv]))
theorem dd_2_1 : decide ((2 : Int) = 1) = false := by decide
theorem dd_2_2 : decide ((2 : Int) = 2) = true := by decide
theorem dd_2_3 : decide ((2 : Int) = 3) = false := by decide
theorem dd_2_4 : decide ((2 : Int) = 4) = false := by decide
theorem nin_2 : cmpR SS .nin (.int 2) (.tuple [.int 2, .int 3, .int 4]) = .ok (!true) := nin_in ((in_tup ⟨rfl, rfl⟩).trans (by simp [PyData.eqv]))
theorem dd_3_1 : decide ((3 : Int) = 1) = false := by decide
theorem dd_3_2 : decide ((3 : Int) = 2) = false := by decide
theorem dd_3_3 : decide ((3 : Int) = 3) = true := by decide
theorem dd_3_4 : decide ((3 : Int) = 4) = false := by decide
theorem nin_3 : cmpR SS .nin (.int 3) (.tuple [.int 2, .int 3, .int 4]) = .ok (!true) := nin_in ((in_tup ⟨rfl, rfl⟩).trans (by simp [PyData.eqv]))
theorem dd_4_1 : decide ((4 : Int) = 1) = false := by decide
theorem dd_4_2 : decide ((4 : Int) = 2) = false := by decide
theorem dd_4_3 : decide ((4 : Int) = 3) = false := by decide
theorem dd_4_4 : decide ((4 : Int) = 4) = true := by decide
theorem nin_4 : cmpR SS .nin (.int 4) (.tuple [.int 2, .int 3, .int 4]) = .ok (!true) := nin_in ((in_tup ⟨rfl, rfl⟩).trans (by simp [PyData.eqv]))
theorem dd_5_1 : decide ((5 : Int) = 1) = false := by decide
theorem dd_5_2 : decide ((5 : Int) = 2) = false := by decide
theorem dd_5_3 : decide ((5 : Int) = 3) = false := by decide
theorem dd_5_4 : decide ((5 : Int) = 4) = false := by decide
theorem nin_5 : cmpR SS .nin (.int 5) (.tuple [.int 2, .int 3, .int 4]) = .ok (!false) := nin_in ((in_tup ⟨rfl, rfl⟩).trans (by simp [PyData.eqv]))
theorem dd_6_1 : decide ((6 : Int) = 1) = false := by decide
theorem dd_6_2 : decide ((6 : Int) = 2) = false := by decide
theorem dd_6_3 : decide ((6 : Int) = 3) = false := by decide
theorem dd_6_4 : decide ((6 : Int) = 4) = false := by decide
theorem nin_6 : cmpR SS .nin (.int 6) (.tuple [.int 2, .int 3, .int 4]) = .ok (!false) := nin_in ((in_tup ⟨rfl, rfl⟩).trans (by simp [PyData.eqv]))
theorem f10 (n : Nat) (ns : List Int) : md.Phi (n + 5) 10 [.list (ns.map .int)] = .ok (.fr (.bool true)) := by
  refine Phi_rt (d := d10) (env := [some (.fr (.list (ns.map .int))), none, none, none, none, none, none, none, none]) rfl rfl rfl ?_
  have e9 := f9 n ns
  have c0 : md.Phi (n + 4) 3 [.list (ns.map .int), .int 0] = .ok (.fr (.int (cell ns 0))) := f3 (n + 3) ns 0
  have c1 : md.Phi (n + 4) 3 [.list (ns.map .int), .int 1] = .ok (.fr (.int (cell ns 1))) := f3 (n + 3) ns 1
  have c2 : md.Phi (n + 4) 3 [.list (ns.map .int), .int 2] = .ok (.fr (.int (cell ns 2))) := f3 (n + 3) ns 2
  have m65 : binD .mod (.int (cell ns 0)) (.int 65) = .ok (.int (cell ns 0 % 65)) := bb_mod (by decide)
  have m7 : binD .mod (.int (cell ns 1)) (.int 7) = .ok (.int (cell ns 1 % 7)) := bb_mod (by decide)
  obtain ⟨P, hp, hP⟩ : ∃ P : Int, binD .pow (.int 10) (.int 30) = .ok (.int P) ∧ 0 < P := ⟨_, bb_pow (by decide), Int.pow_pos (by decide)⟩
  have mp : binD .mod (.int (cell ns 2)) (.int P) = .ok (.int (cell ns 2 % P)) := bb_mod hP
  obtain ⟨far, hf, hf0⟩ : ∃ far : Int, cell ns 2 % P = far ∧ 0 ≤ far := ⟨_, rfl, Int.emod_nonneg _ (by omega)⟩
  obtain ⟨w, hw, hwl⟩ : ∃ w : Nat, cell ns 0 % 65 = (w : Int) ∧ w < 65 := ⟨(cell ns 0 % 65).toNat, by omega, by omega⟩
  have pw : (0 : Int) < 2 ^ w := Int.pow_pos (by decide)
  have mw : binD .mod (.int (cell ns 2)) (.int (2 ^ w)) = .ok (.int (cell ns 2 % 2 ^ w)) := bb_mod pw
  have t0 : md.Phi (n + 4) 5 [.int w] = .ok (.fr (.int (2 ^ w))) := f5 _ w (by omega)
  have l3 : (([.int 2, .int 3, .int 4] : List PyData).length ≤ szl) = True := eq_true (by decide)
  have s01 : md.sub 0 1 = true := by decide
  have h7 : cell ns 1 % 7 = 0 ∨ cell ns 1 % 7 = 1 ∨ cell ns 1 % 7 = 2 ∨ cell ns 1 % 7 = 3 ∨ cell ns 1 % 7 = 4 ∨ cell ns 1 % 7 = 5 ∨ cell ns 1 % 7 = 6 := by omega
  rcases h7 with q | q | q | q | q | q | q
  · -- 0
    obtain ⟨x, hx, hx0, hx1⟩ : ∃ x : Int, cell ns 2 % 2 ^ w = x ∧ 0 ≤ x ∧ x < 2 ^ w := ⟨_, rfl, Int.emod_nonneg _ (by omega), Int.emod_lt_of_pos _ pw⟩
    have e1 : md.Phi (n + 4) 1 [.int x, .int w] = .ok (.fr (.list (wr x w))) := f1 (n + 2) x w (by omega) hx0 hx1
    have e6 : md.Phi (n + 4) 6 [.int x, .int w] = .ok (.fr (.list (wr x w))) := f6 (n + 3) x w (by omega)
    have e7 : md.Phi (n + 4) 7 [.list (wr x w), .list (wr x w)] = .ok (.fr (.bool true)) := f7w (n + 1) x w (by omega)
    simp -implicitDefEqProofs only [Q.xs, Q.xs1, ev, evs, evI, evC, evJ, bind_ok, bind_exc, exR_ok, exR_exc, seq_nx, seq_rt, seq_xc, varR_0, varR_S, bb_add, bb_sub, bb_mul2, bb_and, cc_lt, cc_le, cc_gt, cc_ge, cc_eq, cc_ne, cc_eqb, cc_eqs, ll_len, ll_lent, ll_list, ll_listt, ll_max2, ll_min2, toD_fr, toD_ow, lstR_ok, neg_i, erR_0, erR_S, catch_nx, catch_rt, catch_xc, sfin_rt, sfin_nx, noEr_n, noEr_f, noEr_o, noEr_0, no_int, no_list, no_tuple, no_none, no_bool, no_str, isiD, List.set_cons_zero, List.set_cons_succ, decide_true, decide_false, Bool.not_true, Bool.not_false, if_true, if_false, Bool.false_eq_true, reduceIte, d10, e9, c0, c1, c2, m65, m7, mp, mw, hp, hw, hf, t0, q, hx, e1, e6, e7, l3, dd_0_1, dd_0_2, dd_0_3, dd_0_4, nin_0]
  · -- 1
    obtain ⟨x, hx, hx0, hx1⟩ : ∃ x : Int, 2 ^ w - 1 = x ∧ 0 ≤ x ∧ x < 2 ^ w := ⟨_, rfl, by omega, by omega⟩
    have e1 : md.Phi (n + 4) 1 [.int x, .int w] = .ok (.fr (.list (wr x w))) := f1 (n + 2) x w (by omega) hx0 hx1
    have e6 : md.Phi (n + 4) 6 [.int x, .int w] = .ok (.fr (.list (wr x w))) := f6 (n + 3) x w (by omega)
    have e7 : md.Phi (n + 4) 7 [.list (wr x w), .list (wr x w)] = .ok (.fr (.bool true)) := f7w (n + 1) x w (by omega)
    simp -implicitDefEqProofs only [Q.xs, Q.xs1, ev, evs, evI, evC, evJ, bind_ok, bind_exc, exR_ok, exR_exc, seq_nx, seq_rt, seq_xc, varR_0, varR_S, bb_add, bb_sub, bb_mul2, bb_and, cc_lt, cc_le, cc_gt, cc_ge, cc_eq, cc_ne, cc_eqb, cc_eqs, ll_len, ll_lent, ll_list, ll_listt, ll_max2, ll_min2, toD_fr, toD_ow, lstR_ok, neg_i, erR_0, erR_S, catch_nx, catch_rt, catch_xc, sfin_rt, sfin_nx, noEr_n, noEr_f, noEr_o, noEr_0, no_int, no_list, no_tuple, no_none, no_bool, no_str, isiD, List.set_cons_zero, List.set_cons_succ, decide_true, decide_false, Bool.not_true, Bool.not_false, if_true, if_false, Bool.false_eq_true, reduceIte, d10, e9, c0, c1, c2, m65, m7, mp, mw, hp, hw, hf, t0, q, hx, e1, e6, e7, l3, dd_1_1, dd_1_2, dd_1_3, dd_1_4, nin_1]
  · -- 2
    have hx0 : ¬ ((0 : Int) ≤ 2 ^ w ∧ (2 : Int) ^ w < 2 ^ w) := by omega
    have e1 : md.Phi (n + 4) 1 [.int (2 ^ w), .int w] = .exc 0 := f1x (n + 2) _ w hwl hx0
    have e8 : md.Phi (n + 4) 8 [.int (2 ^ w), .int w] = .ok (.fr (.bool true)) := f8 (n + 1) _ w hwl hx0
    simp -implicitDefEqProofs only [Q.xs, Q.xs1, ev, evs, evI, evC, evJ, bind_ok, bind_exc, exR_ok, exR_exc, seq_nx, seq_rt, seq_xc, varR_0, varR_S, bb_add, bb_sub, bb_mul2, bb_and, cc_lt, cc_le, cc_gt, cc_ge, cc_eq, cc_ne, cc_eqb, cc_eqs, ll_len, ll_lent, ll_list, ll_listt, ll_max2, ll_min2, toD_fr, toD_ow, lstR_ok, neg_i, erR_0, erR_S, catch_nx, catch_rt, catch_xc, sfin_rt, sfin_nx, noEr_n, noEr_f, noEr_o, noEr_0, no_int, no_list, no_tuple, no_none, no_bool, no_str, isiD, List.set_cons_zero, List.set_cons_succ, decide_true, decide_false, Bool.not_true, Bool.not_false, if_true, if_false, Bool.false_eq_true, reduceIte, d10, e9, c0, c1, c2, m65, m7, mp, mw, hp, hw, hf, t0, q, e1, e8, l3, s01, dd_2_1, dd_2_2, dd_2_3, dd_2_4, nin_2]
  · -- 3
    obtain ⟨x, hx, hx0⟩ : ∃ x : Int, 2 ^ w + far = x ∧ ¬ (0 ≤ x ∧ x < 2 ^ w) := ⟨_, rfl, by omega⟩
    have e1 : md.Phi (n + 4) 1 [.int x, .int w] = .exc 0 := f1x (n + 2) x w hwl hx0
    have e8 : md.Phi (n + 4) 8 [.int x, .int w] = .ok (.fr (.bool true)) := f8 (n + 1) x w hwl hx0
    simp -implicitDefEqProofs only [Q.xs, Q.xs1, ev, evs, evI, evC, evJ, bind_ok, bind_exc, exR_ok, exR_exc, seq_nx, seq_rt, seq_xc, varR_0, varR_S, bb_add, bb_sub, bb_mul2, bb_and, cc_lt, cc_le, cc_gt, cc_ge, cc_eq, cc_ne, cc_eqb, cc_eqs, ll_len, ll_lent, ll_list, ll_listt, ll_max2, ll_min2, toD_fr, toD_ow, lstR_ok, neg_i, erR_0, erR_S, catch_nx, catch_rt, catch_xc, sfin_rt, sfin_nx, noEr_n, noEr_f, noEr_o, noEr_0, no_int, no_list, no_tuple, no_none, no_bool, no_str, isiD, List.set_cons_zero, List.set_cons_succ, decide_true, decide_false, Bool.not_true, Bool.not_false, if_true, if_false, Bool.false_eq_true, reduceIte, d10, e9, c0, c1, c2, m65, m7, mp, mw, hp, hw, hf, t0, q, hx, e1, e8, l3, s01, dd_3_1, dd_3_2, dd_3_3, dd_3_4, nin_3]
  · -- 4
    obtain ⟨x, hx, hx0⟩ : ∃ x : Int, -1 - far = x ∧ ¬ (0 ≤ x ∧ x < 2 ^ w) := ⟨_, rfl, by omega⟩
    have e1 : md.Phi (n + 4) 1 [.int x, .int w] = .exc 0 := f1x (n + 2) x w hwl hx0
    have e8 : md.Phi (n + 4) 8 [.int x, .int w] = .ok (.fr (.bool true)) := f8 (n + 1) x w hwl hx0
    simp -implicitDefEqProofs only [Q.xs, Q.xs1, ev, evs, evI, evC, evJ, bind_ok, bind_exc, exR_ok, exR_exc, seq_nx, seq_rt, seq_xc, varR_0, varR_S, bb_add, bb_sub, bb_mul2, bb_and, cc_lt, cc_le, cc_gt, cc_ge, cc_eq, cc_ne, cc_eqb, cc_eqs, ll_len, ll_lent, ll_list, ll_listt, ll_max2, ll_min2, toD_fr, toD_ow, lstR_ok, neg_i, erR_0, erR_S, catch_nx, catch_rt, catch_xc, sfin_rt, sfin_nx, noEr_n, noEr_f, noEr_o, noEr_0, no_int, no_list, no_tuple, no_none, no_bool, no_str, isiD, List.set_cons_zero, List.set_cons_succ, decide_true, decide_false, Bool.not_true, Bool.not_false, if_true, if_false, Bool.false_eq_true, reduceIte, d10, e9, c0, c1, c2, m65, m7, mp, mw, hp, hw, hf, t0, q, hx, e1, e8, l3, s01, dd_4_1, dd_4_2, dd_4_3, dd_4_4, nin_4]
  · -- 5
    obtain ⟨x, hx, hx0, hx1⟩ : ∃ x : Int, cell ns 2 % 2 ^ w = x ∧ 0 ≤ x ∧ x < 2 ^ w := ⟨_, rfl, Int.emod_nonneg _ (by omega), Int.emod_lt_of_pos _ pw⟩
    have e1 : md.Phi (n + 4) 1 [.int x, .int w] = .ok (.fr (.list (wr x w))) := f1 (n + 2) x w (by omega) hx0 hx1
    have e6 : md.Phi (n + 4) 6 [.int x, .int w] = .ok (.fr (.list (wr x w))) := f6 (n + 3) x w (by omega)
    have e7 : md.Phi (n + 4) 7 [.list (wr x w), .list (wr x w)] = .ok (.fr (.bool true)) := f7w (n + 1) x w (by omega)
    simp -implicitDefEqProofs only [Q.xs, Q.xs1, ev, evs, evI, evC, evJ, bind_ok, bind_exc, exR_ok, exR_exc, seq_nx, seq_rt, seq_xc, varR_0, varR_S, bb_add, bb_sub, bb_mul2, bb_and, cc_lt, cc_le, cc_gt, cc_ge, cc_eq, cc_ne, cc_eqb, cc_eqs, ll_len, ll_lent, ll_list, ll_listt, ll_max2, ll_min2, toD_fr, toD_ow, lstR_ok, neg_i, erR_0, erR_S, catch_nx, catch_rt, catch_xc, sfin_rt, sfin_nx, noEr_n, noEr_f, noEr_o, noEr_0, no_int, no_list, no_tuple, no_none, no_bool, no_str, isiD, List.set_cons_zero, List.set_cons_succ, decide_true, decide_false, Bool.not_true, Bool.not_false, if_true, if_false, Bool.false_eq_true, reduceIte, d10, e9, c0, c1, c2, m65, m7, mp, mw, hp, hw, hf, t0, q, hx, e1, e6, e7, l3, dd_5_1, dd_5_2, dd_5_3, dd_5_4, nin_5]
  · -- 6
    obtain ⟨x, hx, hx0, hx1⟩ : ∃ x : Int, cell ns 2 % 2 ^ w = x ∧ 0 ≤ x ∧ x < 2 ^ w := ⟨_, rfl, Int.emod_nonneg _ (by omega), Int.emod_lt_of_pos _ pw⟩
    have e1 : md.Phi (n + 4) 1 [.int x, .int w] = .ok (.fr (.list (wr x w))) := f1 (n + 2) x w (by omega) hx0 hx1
    have e6 : md.Phi (n + 4) 6 [.int x, .int w] = .ok (.fr (.list (wr x w))) := f6 (n + 3) x w (by omega)
    have e7 : md.Phi (n + 4) 7 [.list (wr x w), .list (wr x w)] = .ok (.fr (.bool true)) := f7w (n + 1) x w (by omega)
    simp -implicitDefEqProofs only [Q.xs, Q.xs1, ev, evs, evI, evC, evJ, bind_ok, bind_exc, exR_ok, exR_exc, seq_nx, seq_rt, seq_xc, varR_0, varR_S, bb_add, bb_sub, bb_mul2, bb_and, cc_lt, cc_le, cc_gt, cc_ge, cc_eq, cc_ne, cc_eqb, cc_eqs, ll_len, ll_lent, ll_list, ll_listt, ll_max2, ll_min2, toD_fr, toD_ow, lstR_ok, neg_i, erR_0, erR_S, catch_nx, catch_rt, catch_xc, sfin_rt, sfin_nx, noEr_n, noEr_f, noEr_o, noEr_0, no_int, no_list, no_tuple, no_none, no_bool, no_str, isiD, List.set_cons_zero, List.set_cons_succ, decide_true, decide_false, Bool.not_true, Bool.not_false, if_true, if_false, Bool.false_eq_true, reduceIte, d10, e9, c0, c1, c2, m65, m7, mp, mw, hp, hw, hf, t0, q, hx, e1, e6, e7, l3, dd_6_1, dd_6_2, dd_6_3, dd_6_4, nin_6]
theorem law_is : ∀ ns : List Int, ns.length ≤ 63 → md.Phi 64 10 [.list (ns.map .int)] = .ok (.fr (.bool true)) := fun ns _ => f10 59 ns
end QKk01

set_option Elab.async false
set_option linter.all false
set_option maxRecDepth 100000
set_option maxHeartbeats 8000000
namespace QKk01
open PySem PySem.Spec PyProof.Rows L2 Q

def pl (i : Nat) : Stmt := PySem.Challenge.pw_bitpack_k01_numbers_written.main.body.getD i (.Pass ⟨0, 0, 0, 0⟩)
theorem sc0 : FnScope d0.N (d0.N.take d0.ar) (defScope (pl 9)) := ⟨rfl, rfl, rfl, by decide +kernel, rfl, by decide +kernel, by decide +kernel⟩
theorem ck0 : chkSs (md.cfg d0.N) d0.bd (defScope (pl 9)) (defBody (pl 9)) = true := by decide +kernel
theorem sc1 : FnScope d1.N (d1.N.take d1.ar) (defScope (pl 10)) := ⟨rfl, rfl, rfl, by decide +kernel, rfl, by decide +kernel, by decide +kernel⟩
theorem ck1 : chkSs (md.cfg d1.N) d1.bd (defScope (pl 10)) (defBody (pl 10)) = true := by decide +kernel
theorem sc2 : FnScope d2.N (d2.N.take d2.ar) (defScope (pl 11)) := ⟨rfl, rfl, rfl, by decide +kernel, rfl, by decide +kernel, by decide +kernel⟩
theorem ck2 : chkSs (md.cfg d2.N) d2.bd (defScope (pl 11)) (defBody (pl 11)) = true := by decide +kernel
theorem sc3 : FnScope d3.N (d3.N.take d3.ar) (defScope (pl 13)) := ⟨rfl, rfl, rfl, by decide +kernel, rfl, by decide +kernel, by decide +kernel⟩
theorem ck3 : chkSs (md.cfg d3.N) d3.bd (defScope (pl 13)) (defBody (pl 13)) = true := by decide +kernel
theorem sc4 : FnScope d4.N (d4.N.take d4.ar) (defScope (pl 14)) := ⟨rfl, rfl, rfl, by decide +kernel, rfl, by decide +kernel, by decide +kernel⟩
theorem ck4 : chkSs (md.cfg d4.N) d4.bd (defScope (pl 14)) (defBody (pl 14)) = true := by decide +kernel
theorem sc5 : FnScope d5.N (d5.N.take d5.ar) (defScope (pl 15)) := ⟨rfl, rfl, rfl, by decide +kernel, rfl, by decide +kernel, by decide +kernel⟩
theorem ck5 : chkSs (md.cfg d5.N) d5.bd (defScope (pl 15)) (defBody (pl 15)) = true := by decide +kernel
theorem sc6 : FnScope d6.N (d6.N.take d6.ar) (defScope (pl 16)) := ⟨rfl, rfl, rfl, by decide +kernel, rfl, by decide +kernel, by decide +kernel⟩
theorem ck6 : chkSs (md.cfg d6.N) d6.bd (defScope (pl 16)) (defBody (pl 16)) = true := by decide +kernel
theorem sc7 : FnScope d7.N (d7.N.take d7.ar) (defScope (pl 17)) := ⟨rfl, rfl, rfl, by decide +kernel, rfl, by decide +kernel, by decide +kernel⟩
theorem ck7 : chkSs (md.cfg d7.N) d7.bd (defScope (pl 17)) (defBody (pl 17)) = true := by decide +kernel
theorem sc8 : FnScope d8.N (d8.N.take d8.ar) (defScope (pl 18)) := ⟨rfl, rfl, rfl, by decide +kernel, rfl, by decide +kernel, by decide +kernel⟩
theorem ck8 : chkSs (md.cfg d8.N) d8.bd (defScope (pl 18)) (defBody (pl 18)) = true := by decide +kernel
theorem sc9 : FnScope d9.N (d9.N.take d9.ar) (defScope (pl 19)) := ⟨rfl, rfl, rfl, by decide +kernel, rfl, by decide +kernel, by decide +kernel⟩
theorem ck9 : chkSs (md.cfg d9.N) d9.bd (defScope (pl 19)) (defBody (pl 19)) = true := by decide +kernel
theorem sc10 : FnScope d10.N (d10.N.take d10.ar) (defScope (pl 20)) := ⟨rfl, rfl, rfl, by decide +kernel, rfl, by decide +kernel, by decide +kernel⟩
theorem ck10 : chkSs (md.cfg d10.N) d10.bd (defScope (pl 20)) (defBody (pl 20)) = true := by decide +kernel
theorem all_mk {l : PySem.W.OpenLaw} {w : World} {K : PySem.W.Frag} {h : Heap} {mg : Str → Option Value} {fa : Addr} (X : K.In h) (G : h.Ns mainGlobals mg) (hfa : mg "law" = some (.ref fa))
    {od0 an0 : Option Addr} {sl0 : Array (Option Value)} {oc0 kV0 dc0 pm0 cd0 ct0 : Value} {f0 : Addr}
    {od1 an1 : Option Addr} {sl1 : Array (Option Value)} {oc1 kV1 dc1 pm1 cd1 ct1 : Value} {f1 : Addr}
    {od2 an2 : Option Addr} {sl2 : Array (Option Value)} {oc2 kV2 dc2 pm2 cd2 ct2 : Value} {f2 : Addr}
    {od3 an3 : Option Addr} {sl3 : Array (Option Value)} {oc3 kV3 dc3 pm3 cd3 ct3 : Value} {f3 : Addr}
    {od4 an4 : Option Addr} {sl4 : Array (Option Value)} {oc4 kV4 dc4 pm4 cd4 ct4 : Value} {f4 : Addr}
    {od5 an5 : Option Addr} {sl5 : Array (Option Value)} {oc5 kV5 dc5 pm5 cd5 ct5 : Value} {f5 : Addr}
    {od6 an6 : Option Addr} {sl6 : Array (Option Value)} {oc6 kV6 dc6 pm6 cd6 ct6 : Value} {f6 : Addr}
    {od7 an7 : Option Addr} {sl7 : Array (Option Value)} {oc7 kV7 dc7 pm7 cd7 ct7 : Value} {f7 : Addr}
    {od8 an8 : Option Addr} {sl8 : Array (Option Value)} {oc8 kV8 dc8 pm8 cd8 ct8 : Value} {f8 : Addr}
    {od9 an9 : Option Addr} {sl9 : Array (Option Value)} {oc9 kV9 dc9 pm9 cd9 ct9 : Value} {f9 : Addr}
    {od10 an10 : Option Addr} {sl10 : Array (Option Value)} {oc10 kV10 dc10 pm10 cd10 ct10 : Value} {f10 : Addr}
    {C_TooWide : Addr}
    {C_PackError : Addr}
    {C_BadRecord : Addr}
    {C_Left : Addr}
    {C_NoBits : Addr}
    {C_Short : Addr}
    {C_Wrong : Addr}
    (a0 : PySem.W.nsIn K mainGlobals "room_of" = some (some (.ref f0)))
    (l0 : K.lookup f0 = some ⟨oc0, od0, .func (PySem.W.fnOf "room_of" "room_of" (defArgs (pl 9)) (defBody (pl 9)) (defScope (pl 9)) .none kV0 dc0 pm0 an0 cd0 ct0), sl0⟩)
    (c0 : PySem.W.codeIn K cd0 "room_of" = true)
    (k0 : PySem.W.keepIn K (.ref f0) = true)
    (a1 : PySem.W.nsIn K mainGlobals "bits_of" = some (some (.ref f1)))
    (l1 : K.lookup f1 = some ⟨oc1, od1, .func (PySem.W.fnOf "bits_of" "bits_of" (defArgs (pl 10)) (defBody (pl 10)) (defScope (pl 10)) .none kV1 dc1 pm1 an1 cd1 ct1), sl1⟩)
    (c1 : PySem.W.codeIn K cd1 "bits_of" = true)
    (k1 : PySem.W.keepIn K (.ref f1) = true)
    (a2 : PySem.W.nsIn K mainGlobals "number_of" = some (some (.ref f2)))
    (l2 : K.lookup f2 = some ⟨oc2, od2, .func (PySem.W.fnOf "number_of" "number_of" (defArgs (pl 11)) (defBody (pl 11)) (defScope (pl 11)) .none kV2 dc2 pm2 an2 cd2 ct2), sl2⟩)
    (c2 : PySem.W.codeIn K cd2 "number_of" = true)
    (k2 : PySem.W.keepIn K (.ref f2) = true)
    (a3 : PySem.W.nsIn K mainGlobals "_law_cell_at" = some (some (.ref f3)))
    (l3 : K.lookup f3 = some ⟨oc3, od3, .func (PySem.W.fnOf "_law_cell_at" "_law_cell_at" (defArgs (pl 13)) (defBody (pl 13)) (defScope (pl 13)) .none kV3 dc3 pm3 an3 cd3 ct3), sl3⟩)
    (c3 : PySem.W.codeIn K cd3 "_law_cell_at" = true)
    (k3 : PySem.W.keepIn K (.ref f3) = true)
    (a4 : PySem.W.nsIn K mainGlobals "_law_whole" = some (some (.ref f4)))
    (l4 : K.lookup f4 = some ⟨oc4, od4, .func (PySem.W.fnOf "_law_whole" "_law_whole" (defArgs (pl 14)) (defBody (pl 14)) (defScope (pl 14)) .none kV4 dc4 pm4 an4 cd4 ct4), sl4⟩)
    (c4 : PySem.W.codeIn K cd4 "_law_whole" = true)
    (k4 : PySem.W.keepIn K (.ref f4) = true)
    (a5 : PySem.W.nsIn K mainGlobals "_law_room" = some (some (.ref f5)))
    (l5 : K.lookup f5 = some ⟨oc5, od5, .func (PySem.W.fnOf "_law_room" "_law_room" (defArgs (pl 15)) (defBody (pl 15)) (defScope (pl 15)) .none kV5 dc5 pm5 an5 cd5 ct5), sl5⟩)
    (c5 : PySem.W.codeIn K cd5 "_law_room" = true)
    (k5 : PySem.W.keepIn K (.ref f5) = true)
    (a6 : PySem.W.nsIn K mainGlobals "_law_written" = some (some (.ref f6)))
    (l6 : K.lookup f6 = some ⟨oc6, od6, .func (PySem.W.fnOf "_law_written" "_law_written" (defArgs (pl 16)) (defBody (pl 16)) (defScope (pl 16)) .none kV6 dc6 pm6 an6 cd6 ct6), sl6⟩)
    (c6 : PySem.W.codeIn K cd6 "_law_written" = true)
    (k6 : PySem.W.keepIn K (.ref f6) = true)
    (a7 : PySem.W.nsIn K mainGlobals "_law_alike" = some (some (.ref f7)))
    (l7 : K.lookup f7 = some ⟨oc7, od7, .func (PySem.W.fnOf "_law_alike" "_law_alike" (defArgs (pl 17)) (defBody (pl 17)) (defScope (pl 17)) .none kV7 dc7 pm7 an7 cd7 ct7), sl7⟩)
    (c7 : PySem.W.codeIn K cd7 "_law_alike" = true)
    (k7 : PySem.W.keepIn K (.ref f7) = true)
    (a8 : PySem.W.nsIn K mainGlobals "_law_refused_by_any" = some (some (.ref f8)))
    (l8 : K.lookup f8 = some ⟨oc8, od8, .func (PySem.W.fnOf "_law_refused_by_any" "_law_refused_by_any" (defArgs (pl 18)) (defBody (pl 18)) (defScope (pl 18)) .none kV8 dc8 pm8 an8 cd8 ct8), sl8⟩)
    (c8 : PySem.W.codeIn K cd8 "_law_refused_by_any" = true)
    (k8 : PySem.W.keepIn K (.ref f8) = true)
    (a9 : PySem.W.nsIn K mainGlobals "_law_as_a_number" = some (some (.ref f9)))
    (l9 : K.lookup f9 = some ⟨oc9, od9, .func (PySem.W.fnOf "_law_as_a_number" "_law_as_a_number" (defArgs (pl 19)) (defBody (pl 19)) (defScope (pl 19)) .none kV9 dc9 pm9 an9 cd9 ct9), sl9⟩)
    (c9 : PySem.W.codeIn K cd9 "_law_as_a_number" = true)
    (k9 : PySem.W.keepIn K (.ref f9) = true)
    (a10 : PySem.W.nsIn K mainGlobals "law" = some (some (.ref f10)))
    (l10 : K.lookup f10 = some ⟨oc10, od10, .func (PySem.W.fnOf "law" "law" (defArgs (pl 20)) (defBody (pl 20)) (defScope (pl 20)) .none kV10 dc10 pm10 an10 cd10 ct10), sl10⟩)
    (c10 : PySem.W.codeIn K cd10 "law" = true)
    (k10 : PySem.W.keepIn K (.ref f10) = true)
    (z_len : PySem.W.nsIn K mainGlobals "len" = some none)
    (z_list : PySem.W.nsIn K mainGlobals "list" = some none)
    (z_abs : PySem.W.nsIn K mainGlobals "abs" = some none)
    (z_min : PySem.W.nsIn K mainGlobals "min" = some none)
    (z_max : PySem.W.nsIn K mainGlobals "max" = some none)
    (z_int : PySem.W.nsIn K mainGlobals "int" = some none)
    (z_sum : PySem.W.nsIn K mainGlobals "sum" = some none)
    (z_tuple : PySem.W.nsIn K mainGlobals "tuple" = some none)
    (z_isinstance : PySem.W.nsIn K mainGlobals "isinstance" = some none)
    (z_bool : PySem.W.nsIn K mainGlobals "bool" = some none)
    (z_str : PySem.W.nsIn K mainGlobals "str" = some none)
    (z_range : PySem.W.nsIn K mainGlobals "range" = some none)
    (z_reversed : PySem.W.nsIn K mainGlobals "reversed" = some none)
    (z_zip : PySem.W.nsIn K mainGlobals "zip" = some none)
    (z_enumerate : PySem.W.nsIn K mainGlobals "enumerate" = some none)
    (z_all : PySem.W.nsIn K mainGlobals "all" = some none)
    (aC_TooWide : PySem.W.nsIn K mainGlobals "TooWide" = some (some (.ref C_TooWide)))
    (bC_TooWide : PySem.W.subIn K (.ref C_TooWide) (.type "BaseException") = some true)
    (tC_TooWide : PySem.W.typeIn K (.ref C_TooWide) = some (.type "type"))
    (hC_TooWide : PySem.W.hasDictIn K C_TooWide = true)
    (sC_TooWide : PySem.W.subIn K (.ref C_TooWide) (.ref C_TooWide) = some true)
    (aC_PackError : PySem.W.nsIn K mainGlobals "PackError" = some (some (.ref C_PackError)))
    (bC_PackError : PySem.W.subIn K (.ref C_PackError) (.type "BaseException") = some true)
    (tC_PackError : PySem.W.typeIn K (.ref C_PackError) = some (.type "type"))
    (hC_PackError : PySem.W.hasDictIn K C_PackError = true)
    (sC_PackError : PySem.W.subIn K (.ref C_PackError) (.ref C_PackError) = some true)
    (aC_BadRecord : PySem.W.nsIn K mainGlobals "BadRecord" = some (some (.ref C_BadRecord)))
    (bC_BadRecord : PySem.W.subIn K (.ref C_BadRecord) (.type "BaseException") = some true)
    (tC_BadRecord : PySem.W.typeIn K (.ref C_BadRecord) = some (.type "type"))
    (hC_BadRecord : PySem.W.hasDictIn K C_BadRecord = true)
    (sC_BadRecord : PySem.W.subIn K (.ref C_BadRecord) (.ref C_BadRecord) = some true)
    (aC_Left : PySem.W.nsIn K mainGlobals "Left" = some (some (.ref C_Left)))
    (bC_Left : PySem.W.subIn K (.ref C_Left) (.type "BaseException") = some true)
    (tC_Left : PySem.W.typeIn K (.ref C_Left) = some (.type "type"))
    (hC_Left : PySem.W.hasDictIn K C_Left = true)
    (sC_Left : PySem.W.subIn K (.ref C_Left) (.ref C_Left) = some true)
    (aC_NoBits : PySem.W.nsIn K mainGlobals "NoBits" = some (some (.ref C_NoBits)))
    (bC_NoBits : PySem.W.subIn K (.ref C_NoBits) (.type "BaseException") = some true)
    (tC_NoBits : PySem.W.typeIn K (.ref C_NoBits) = some (.type "type"))
    (hC_NoBits : PySem.W.hasDictIn K C_NoBits = true)
    (sC_NoBits : PySem.W.subIn K (.ref C_NoBits) (.ref C_NoBits) = some true)
    (aC_Short : PySem.W.nsIn K mainGlobals "Short" = some (some (.ref C_Short)))
    (bC_Short : PySem.W.subIn K (.ref C_Short) (.type "BaseException") = some true)
    (tC_Short : PySem.W.typeIn K (.ref C_Short) = some (.type "type"))
    (hC_Short : PySem.W.hasDictIn K C_Short = true)
    (sC_Short : PySem.W.subIn K (.ref C_Short) (.ref C_Short) = some true)
    (aC_Wrong : PySem.W.nsIn K mainGlobals "Wrong" = some (some (.ref C_Wrong)))
    (bC_Wrong : PySem.W.subIn K (.ref C_Wrong) (.type "BaseException") = some true)
    (tC_Wrong : PySem.W.typeIn K (.ref C_Wrong) = some (.type "type"))
    (hC_Wrong : PySem.W.hasDictIn K C_Wrong = true)
    (sC_Wrong : PySem.W.subIn K (.ref C_Wrong) (.ref C_Wrong) = some true)
    (zt_ValueError : PySem.W.nsIn K mainGlobals "ValueError" = some none)
    (xC_TooWide : PySem.W.excIn K C_TooWide [.type "ValueError", .type "Exception", .type "BaseException", .type "object"] "ValueError.__new__" = true)
    (kC_TooWide : PySem.W.keepIn K (.ref C_TooWide) = true)
    (eg_TooWide : PySem.W.findIn K (.ref C_TooWide) "__getattribute__" = some (some (.builtin "BaseException.__getattribute__")))
    (ek_TooWide : PySem.W.findIn K (.ref C_TooWide) "__getattr__" = some none)
    (ea_TooWide : PySem.W.findIn K (.ref C_TooWide) "__class__" = some (some (.builtin "object.__class__")))
    (em_TooWide : PySem.W.mroIn K C_TooWide (.type "object") = some true)
    (s_TooWide_PackError : PySem.W.subIn K (.ref C_TooWide) (.ref C_PackError) = some true)
    (s_TooWide_BadRecord : PySem.W.subIn K (.ref C_TooWide) (.ref C_BadRecord) = some false)
    (s_TooWide_Left : PySem.W.subIn K (.ref C_TooWide) (.ref C_Left) = some false)
    (s_TooWide_NoBits : PySem.W.subIn K (.ref C_TooWide) (.ref C_NoBits) = some false)
    (s_TooWide_Short : PySem.W.subIn K (.ref C_TooWide) (.ref C_Short) = some false)
    (s_TooWide_Wrong : PySem.W.subIn K (.ref C_TooWide) (.ref C_Wrong) = some false)
    (s_TooWide_ValueError : PySem.W.subIn K (.ref C_TooWide) (.type "ValueError") = some true)
    (en : PySem.W.specialIn K (.builtin "object.__class__") "__get__" = some (some (.builtin "getset_descriptor.__get__")))
    (et : PySem.W.takesIn K (.builtin "object.__class__") = some true)
    : ∃ (cls : Nat → Value) (fd : FuncData), (∀ (s : Shared) (v : Value), BindsTo s fd ⟨[v], []⟩ [("_law_script", v)]) ∧ ∀ base : Heap, K.In base → base.Ns mainGlobals mg → FnOk l.prog w K mg base (L2.CX l.prog w) 64 fa fd ["_law_script"] (spF K cls 1 (md.Phi 64 10)) := by
  have e := hfa.symm.trans (PySem.W.mg_of X G a10)
  cases e
  have F0 := fun_mk (st := pl 9) l0 c0 k0
  have b0 := F0.binds (ps := d0.N.take d0.ar) fun _ _ _ _ _ _ us hl => match us, hl with | [_], _ => rfl
  have D0 : Fd md K mg d0 (pl 9) f0 _ := ⟨F0, PySem.W.mg_of X G a0, b0, sc0, by decide, ck0⟩
  have F1 := fun_mk (st := pl 10) l1 c1 k1
  have b1 := F1.binds (ps := d1.N.take d1.ar) fun _ _ _ _ _ _ us hl => match us, hl with | [_, _], _ => rfl
  have D1 : Fd md K mg d1 (pl 10) f1 _ := ⟨F1, PySem.W.mg_of X G a1, b1, sc1, by decide, ck1⟩
  have F2 := fun_mk (st := pl 11) l2 c2 k2
  have b2 := F2.binds (ps := d2.N.take d2.ar) fun _ _ _ _ _ _ us hl => match us, hl with | [_], _ => rfl
  have D2 : Fd md K mg d2 (pl 11) f2 _ := ⟨F2, PySem.W.mg_of X G a2, b2, sc2, by decide, ck2⟩
  have F3 := fun_mk (st := pl 13) l3 c3 k3
  have b3 := F3.binds (ps := d3.N.take d3.ar) fun _ _ _ _ _ _ us hl => match us, hl with | [_, _], _ => rfl
  have D3 : Fd md K mg d3 (pl 13) f3 _ := ⟨F3, PySem.W.mg_of X G a3, b3, sc3, by decide, ck3⟩
  have F4 := fun_mk (st := pl 14) l4 c4 k4
  have b4 := F4.binds (ps := d4.N.take d4.ar) fun _ _ _ _ _ _ us hl => match us, hl with | [_], _ => rfl
  have D4 : Fd md K mg d4 (pl 14) f4 _ := ⟨F4, PySem.W.mg_of X G a4, b4, sc4, by decide, ck4⟩
  have F5 := fun_mk (st := pl 15) l5 c5 k5
  have b5 := F5.binds (ps := d5.N.take d5.ar) fun _ _ _ _ _ _ us hl => match us, hl with | [_], _ => rfl
  have D5 : Fd md K mg d5 (pl 15) f5 _ := ⟨F5, PySem.W.mg_of X G a5, b5, sc5, by decide, ck5⟩
  have F6 := fun_mk (st := pl 16) l6 c6 k6
  have b6 := F6.binds (ps := d6.N.take d6.ar) fun _ _ _ _ _ _ us hl => match us, hl with | [_, _], _ => rfl
  have D6 : Fd md K mg d6 (pl 16) f6 _ := ⟨F6, PySem.W.mg_of X G a6, b6, sc6, by decide, ck6⟩
  have F7 := fun_mk (st := pl 17) l7 c7 k7
  have b7 := F7.binds (ps := d7.N.take d7.ar) fun _ _ _ _ _ _ us hl => match us, hl with | [_, _], _ => rfl
  have D7 : Fd md K mg d7 (pl 17) f7 _ := ⟨F7, PySem.W.mg_of X G a7, b7, sc7, by decide, ck7⟩
  have F8 := fun_mk (st := pl 18) l8 c8 k8
  have b8 := F8.binds (ps := d8.N.take d8.ar) fun _ _ _ _ _ _ us hl => match us, hl with | [_, _], _ => rfl
  have D8 : Fd md K mg d8 (pl 18) f8 _ := ⟨F8, PySem.W.mg_of X G a8, b8, sc8, by decide, ck8⟩
  have F9 := fun_mk (st := pl 19) l9 c9 k9
  have b9 := F9.binds (ps := d9.N.take d9.ar) fun _ _ _ _ _ _ us hl => match us, hl with | [_], _ => rfl
  have D9 : Fd md K mg d9 (pl 19) f9 _ := ⟨F9, PySem.W.mg_of X G a9, b9, sc9, by decide, ck9⟩
  have F10 := fun_mk (st := pl 20) l10 c10 k10
  have b10 := F10.binds (ps := d10.N.take d10.ar) fun _ _ _ _ _ _ us hl => match us, hl with | [_], _ => rfl
  have D10 : Fd md K mg d10 (pl 20) fa _ := ⟨F10, PySem.W.mg_of X G a10, b10, sc10, by decide, ck10⟩
  have FX : Fx md K mg (fun j => ([.ref C_TooWide] : List Value).getD j (.ref C_TooWide)) := by
    refine ⟨?_, ?_, ?_, ?_, ?_, ?_⟩
    · intro x hx
      simp only [bnames, List.mem_cons, List.not_mem_nil, or_false] at hx
      rcases hx with rfl | rfl | rfl | rfl | rfl | rfl | rfl | rfl | rfl | rfl | rfl | rfl | rfl | rfl | rfl | rfl
      · exact PySem.W.mg_none_of X G z_len
      · exact PySem.W.mg_none_of X G z_list
      · exact PySem.W.mg_none_of X G z_abs
      · exact PySem.W.mg_none_of X G z_min
      · exact PySem.W.mg_none_of X G z_max
      · exact PySem.W.mg_none_of X G z_int
      · exact PySem.W.mg_none_of X G z_sum
      · exact PySem.W.mg_none_of X G z_tuple
      · exact PySem.W.mg_none_of X G z_isinstance
      · exact PySem.W.mg_none_of X G z_bool
      · exact PySem.W.mg_none_of X G z_str
      · exact PySem.W.mg_none_of X G z_range
      · exact PySem.W.mg_none_of X G z_reversed
      · exact PySem.W.mg_none_of X G z_zip
      · exact PySem.W.mg_none_of X G z_enumerate
      · exact PySem.W.mg_none_of X G z_all
    · intro k x hx
      match k, hx with
      | 0, hx =>
        cases hx
        refine ⟨by decide, .ref C_PackError, .inl (PySem.W.mg_of X G aC_PackError), fun j => ?_⟩
        match j with
        | 0 => exact PySem.W.exm_ref bC_PackError hC_PackError tC_PackError s_TooWide_PackError
        | _ + 1 => exact PySem.W.exm_ref bC_PackError hC_PackError tC_PackError s_TooWide_PackError
      | 1, hx =>
        cases hx
        refine ⟨by decide, .ref C_TooWide, .inl (PySem.W.mg_of X G aC_TooWide), fun j => ?_⟩
        match j with
        | 0 => exact PySem.W.exm_ref bC_TooWide hC_TooWide tC_TooWide sC_TooWide
        | _ + 1 => exact PySem.W.exm_ref bC_TooWide hC_TooWide tC_TooWide sC_TooWide
      | _ + 2, hx => cases hx
    · intro k x hx
      match k, hx with
      | 0, hx =>
        cases hx
        exact ⟨C_TooWide, _, _, _, _, rfl, PySem.W.mg_of X G aC_TooWide, PySem.F.excBase_ValueError, xC_TooWide, kC_TooWide, bC_TooWide, tC_TooWide⟩
      | _ + 1, hx => cases hx
    · intro k0 x hx k
      match k with
      | 0 => exact ⟨C_TooWide, rfl, eg_TooWide, ek_TooWide, bC_TooWide, hC_TooWide, ea_TooWide, en, et, em_TooWide⟩
      | _ + 1 => exact ⟨C_TooWide, rfl, eg_TooWide, ek_TooWide, bC_TooWide, hC_TooWide, ea_TooWide, en, et, em_TooWide⟩
    · intro x i hx
      cases hx
    · intro y tb hx
      obtain hx := lookup_mem hx
      simp only [md, List.mem_cons, List.not_mem_nil, or_false, Prod.mk.injEq] at hx
      rcases hx with ⟨rfl, rfl⟩ | ⟨rfl, rfl⟩ | ⟨rfl, rfl⟩ | ⟨rfl, rfl⟩ | ⟨rfl, rfl⟩ | ⟨rfl, rfl⟩
      · refine ⟨.ref C_BadRecord, .ref C_BadRecord, .inl (PySem.W.mg_of X G aC_BadRecord), rfl, fun u r => r, fun k b hk => ?_⟩
        match k, hk with
        | 0, hk =>
          cases hk
          exact kit_ref hC_BadRecord tC_BadRecord sC_BadRecord s_TooWide_BadRecord
        | _ + 1, hk => cases hk
      · refine ⟨.ref C_Left, .ref C_Left, .inl (PySem.W.mg_of X G aC_Left), rfl, fun u r => r, fun k b hk => ?_⟩
        match k, hk with
        | 0, hk =>
          cases hk
          exact kit_ref hC_Left tC_Left sC_Left s_TooWide_Left
        | _ + 1, hk => cases hk
      · refine ⟨.ref C_NoBits, .ref C_NoBits, .inl (PySem.W.mg_of X G aC_NoBits), rfl, fun u r => r, fun k b hk => ?_⟩
        match k, hk with
        | 0, hk =>
          cases hk
          exact kit_ref hC_NoBits tC_NoBits sC_NoBits s_TooWide_NoBits
        | _ + 1, hk => cases hk
      · refine ⟨.ref C_Short, .ref C_Short, .inl (PySem.W.mg_of X G aC_Short), rfl, fun u r => r, fun k b hk => ?_⟩
        match k, hk with
        | 0, hk =>
          cases hk
          exact kit_ref hC_Short tC_Short sC_Short s_TooWide_Short
        | _ + 1, hk => cases hk
      · refine ⟨.ref C_Wrong, .ref C_Wrong, .inl (PySem.W.mg_of X G aC_Wrong), rfl, fun u r => r, fun k b hk => ?_⟩
        match k, hk with
        | 0, hk =>
          cases hk
          exact kit_ref hC_Wrong tC_Wrong sC_Wrong s_TooWide_Wrong
        | _ + 1, hk => cases hk
      · refine ⟨.ty "ValueError", .type "ValueError", .inr ⟨PySem.W.mg_none_of X G zt_ValueError, by decide +kernel⟩, rfl, fun u r => r, fun k b hk => ?_⟩
        match k, hk with
        | 0, hk =>
          cases hk
          exact kit_ty (by decide +kernel) s_TooWide_ValueError
        | _ + 1, hk => cases hk
  refine ⟨(fun j => ([.ref C_TooWide] : List Value).getD j (.ref C_TooWide)), PySem.W.fnOf "law" "law" (defArgs (pl 20)) (defBody (pl 20)) (defScope (pl 20)) .none kV10 dc10 pm10 an10 cd10 ct10, fun s v => .of_eq rfl, fun base _ _ => ?_⟩
  exact Md.ok FX (fun j d hd => by
    match j, hd with
    | 0, hd => cases hd; exact ⟨_, _, _, D0⟩
    | 1, hd => cases hd; exact ⟨_, _, _, D1⟩
    | 2, hd => cases hd; exact ⟨_, _, _, D2⟩
    | 3, hd => cases hd; exact ⟨_, _, _, D3⟩
    | 4, hd => cases hd; exact ⟨_, _, _, D4⟩
    | 5, hd => cases hd; exact ⟨_, _, _, D5⟩
    | 6, hd => cases hd; exact ⟨_, _, _, D6⟩
    | 7, hd => cases hd; exact ⟨_, _, _, D7⟩
    | 8, hd => cases hd; exact ⟨_, _, _, D8⟩
    | 9, hd => cases hd; exact ⟨_, _, _, D9⟩
    | 10, hd => cases hd; exact ⟨_, _, _, D10⟩
    | _ + 11, hd => cases hd) 64 10 d10 (pl 20) fa _ rfl D10
end QKk01
open PySem PySem.W PyProof.Rows
set_option maxRecDepth 100000 in
set_option maxHeartbeats 0 in
theorem PySem.Challenge.cw_bitpack_k01_numbers_written_holds : PySem.Challenge.rw_bitpack_k01_numbers_written.Holds := by
  w_on; o_law; k_head; (case hw => w_witness2)
  k_fill
  refine Q.walk (l := PySem.Challenge.rw_bitpack_k01_numbers_written) (k := 64) (x := "_law_script") rfl rfl ⟨rfl, by decide, by decide⟩ (fun w h Y => PySem.W.kIn_of Y) ?F
  case F =>
    intro w mg fa h KX G hmg
    refine Q.law_at (QKk01.law_is) ?_
    refine' QKk01.all_mk (l := PySem.Challenge.rw_bitpack_k01_numbers_written) KX G hmg ?a0 ?l0 ?c0 ?k0 ?a1 ?l1 ?c1 ?k1 ?a2 ?l2 ?c2 ?k2 ?a3 ?l3 ?c3 ?k3 ?a4 ?l4 ?c4 ?k4 ?a5 ?l5 ?c5 ?k5 ?a6 ?l6 ?c6 ?k6 ?a7 ?l7 ?c7 ?k7 ?a8 ?l8 ?c8 ?k8 ?a9 ?l9 ?c9 ?k9 ?a10 ?l10 ?c10 ?k10 ?z_len ?z_list ?z_abs ?z_min ?z_max ?z_int ?z_sum ?z_tuple ?z_isinstance ?z_bool ?z_str ?z_range ?z_reversed ?z_zip ?z_enumerate ?z_all ?aC_TooWide ?bC_TooWide ?tC_TooWide ?hC_TooWide ?sC_TooWide ?aC_PackError ?bC_PackError ?tC_PackError ?hC_PackError ?sC_PackError ?aC_BadRecord ?bC_BadRecord ?tC_BadRecord ?hC_BadRecord ?sC_BadRecord ?aC_Left ?bC_Left ?tC_Left ?hC_Left ?sC_Left ?aC_NoBits ?bC_NoBits ?tC_NoBits ?hC_NoBits ?sC_NoBits ?aC_Short ?bC_Short ?tC_Short ?hC_Short ?sC_Short ?aC_Wrong ?bC_Wrong ?tC_Wrong ?hC_Wrong ?sC_Wrong ?zt_ValueError ?xC_TooWide ?kC_TooWide ?eg_TooWide ?ek_TooWide ?ea_TooWide ?em_TooWide ?s_TooWide_PackError ?s_TooWide_BadRecord ?s_TooWide_Left ?s_TooWide_NoBits ?s_TooWide_Short ?s_TooWide_Wrong ?s_TooWide_ValueError ?en ?et
    (case a0 => k_is)
    (case l0 => k_is)
    (case c0 => k_is)
    (case k0 => k_is)
    (case a1 => k_is)
    (case l1 => k_is)
    (case c1 => k_is)
    (case k1 => k_is)
    (case a2 => k_is)
    (case l2 => k_is)
    (case c2 => k_is)
    (case k2 => k_is)
    (case a3 => k_is)
    (case l3 => k_is)
    (case c3 => k_is)
    (case k3 => k_is)
    (case a4 => k_is)
    (case l4 => k_is)
    (case c4 => k_is)
    (case k4 => k_is)
    (case a5 => k_is)
    (case l5 => k_is)
    (case c5 => k_is)
    (case k5 => k_is)
    (case a6 => k_is)
    (case l6 => k_is)
    (case c6 => k_is)
    (case k6 => k_is)
    (case a7 => k_is)
    (case l7 => k_is)
    (case c7 => k_is)
    (case k7 => k_is)
    (case a8 => k_is)
    (case l8 => k_is)
    (case c8 => k_is)
    (case k8 => k_is)
    (case a9 => k_is)
    (case l9 => k_is)
    (case c9 => k_is)
    (case k9 => k_is)
    (case a10 => k_is)
    (case l10 => k_is)
    (case c10 => k_is)
    (case k10 => k_is)
    (case z_len => k_is)
    (case z_list => k_is)
    (case z_abs => k_is)
    (case z_min => k_is)
    (case z_max => k_is)
    (case z_int => k_is)
    (case z_sum => k_is)
    (case z_tuple => k_is)
    (case z_isinstance => k_is)
    (case z_bool => k_is)
    (case z_str => k_is)
    (case z_range => k_is)
    (case z_reversed => k_is)
    (case z_zip => k_is)
    (case z_enumerate => k_is)
    (case z_all => k_is)
    (case aC_TooWide => k_is)
    (case bC_TooWide => k_is)
    (case tC_TooWide => k_is)
    (case hC_TooWide => k_is)
    (case sC_TooWide => k_is)
    (case aC_PackError => k_is)
    (case bC_PackError => k_is)
    (case tC_PackError => k_is)
    (case hC_PackError => k_is)
    (case sC_PackError => k_is)
    (case aC_BadRecord => k_is)
    (case bC_BadRecord => k_is)
    (case tC_BadRecord => k_is)
    (case hC_BadRecord => k_is)
    (case sC_BadRecord => k_is)
    (case aC_Left => k_is)
    (case bC_Left => k_is)
    (case tC_Left => k_is)
    (case hC_Left => k_is)
    (case sC_Left => k_is)
    (case aC_NoBits => k_is)
    (case bC_NoBits => k_is)
    (case tC_NoBits => k_is)
    (case hC_NoBits => k_is)
    (case sC_NoBits => k_is)
    (case aC_Short => k_is)
    (case bC_Short => k_is)
    (case tC_Short => k_is)
    (case hC_Short => k_is)
    (case sC_Short => k_is)
    (case aC_Wrong => k_is)
    (case bC_Wrong => k_is)
    (case tC_Wrong => k_is)
    (case hC_Wrong => k_is)
    (case sC_Wrong => k_is)
    (case zt_ValueError => k_is)
    (case xC_TooWide => k_exc)
    (case kC_TooWide => k_is)
    (case eg_TooWide => k_is)
    (case ek_TooWide => k_is)
    (case ea_TooWide => k_is)
    (case em_TooWide => k_is)
    (case s_TooWide_PackError => k_is)
    (case s_TooWide_BadRecord => k_is)
    (case s_TooWide_Left => k_is)
    (case s_TooWide_NoBits => k_is)
    (case s_TooWide_Short => k_is)
    (case s_TooWide_Wrong => k_is)
    (case s_TooWide_ValueError => k_is)
    (case en => k_is)
    (case et => k_is)
#print axioms PySem.Challenge.cw_bitpack_k01_numbers_written_holds
