/- A program that runs Go code without arguments on a memory of its own, to be worked out by the kernel; and what it is made from the code by. Nothing here speaks of one program. -/
import Derived.Orders
import Derived.Laws.Tables
import Derived.Laws.Cells
import Derived.Below
import Derived.Laws.CopyRow
import Derived.Laws.AppendOwn
import Derived.Laws.StructEq
set_option linter.unusedVariables false
namespace Go.Ex

/-! ## Numerals and tries -/
inductive Pt where
  | z | l (p : Pt) | r (p : Pt)
  deriving Inhabited, DecidableEq

@[reducible] noncomputable def Pt.inc (p : Pt) : Pt := Pt.rec (.l .z) (fun p _ => .r p) (fun _ q => .l q) p
/-- k of the next one, which is worked out first. -/
@[reducible] noncomputable def Pt.incK {β : Type} (p : Pt) (k : Pt → β) : β :=
  Pt.rec (motive := fun _ => (Pt → β) → β) (fun k => k (.l .z)) (fun p _ k => k (.r p)) (fun _ g k => g fun q => k (.l q)) p k
noncomputable def Pt.num (p : Pt) : Nat := Pt.rec 0 (fun _ n => 2 * n + 1) (fun _ n => 2 * n + 2) p

def Pt.ofNatF : Nat → Nat → Pt
  | 0, _ => .z
  | f + 1, k => bif Nat.beq k 0 then .z else bif Nat.beq (k % 2) 1 then .l (Pt.ofNatF f (k / 2)) else .r (Pt.ofNatF f (k / 2 - 1))
def Pt.ofNat (k : Nat) : Pt := Pt.ofNatF k k

inductive T (α : Type) where
  | e
  | n (l : T α) (v : Option α) (r : T α)
  deriving Inhabited

@[reducible] noncomputable def T.get {α : Type} (t : T α) (p : Pt) : Option α :=
  Pt.rec (motive := fun _ => T α → Option α) (fun t => T.rec none (fun _ v _ _ _ => v) t)
    (fun _ g t => T.rec none (fun l _ _ _ _ => g l) t) (fun _ g t => T.rec none (fun _ _ r _ _ => g r) t) p t

@[reducible] noncomputable def T.set {α : Type} (v : Option α) (t : T α) (p : Pt) : T α :=
  Pt.rec (motive := fun _ => T α → T α) (fun t => T.rec (.n .e v .e) (fun l _ r _ _ => .n l v r) t)
    (fun _ g t => T.rec (.n (g .e) none .e) (fun l u r _ _ => .n (g l) u r) t)
    (fun _ g t => T.rec (.n .e none (g .e)) (fun l u r _ _ => .n l u (g r)) t) p t
@[reducible] noncomputable def T.put {α : Type} (t : T α) (p : Pt) (v : α) : T α := T.set (some v) t p
@[reducible] noncomputable def T.del {α : Type} (t : T α) (p : Pt) : T α := T.set none t p
/-- A list's elements from p on. -/
@[reducible] noncomputable def T.putL {α : Type} (l : List α) (t : T α) (p : Pt) : T α :=
  List.rec (motive := fun _ => T α → Pt → T α) (fun t _ => t) (fun v _ g t p => g (t.put p v) p.inc) l t p
noncomputable def T.ofList {α : Type} (l : List α) : T α := T.putL l .e .z

/-! ## Values -/
/-- A value; 'es': a slice without elements, wherever it lies; 'rs', 'rp': a slice and a pointer into memory that was there at the beginning, and that nobody changes, by what it holds ('full': its capacity is its length); 'sl .. z': a slice with at least so much room; z = 0: with just so much; z = k + 1: its block, of elements of k cells, ends where it does. -/
inductive X where
  | bool (b : Bool)
  | int (k : IntKind) (n : Int)
  | str (s : List UInt8)
  | nilp | nilm | nilf | nili | nils
  | es
  | ptr (id : Pt) (off : Nat)
  | sl (id : Pt) (off len cap z : Nat)
  | map (id : Pt)
  | fn (f : FuncId) (caps : List X)
  | fb (f : FuncId) (first caps : List X)
  | ifc (t : TypeId) (x : X)
  | agg (cs : List X)
  | tup (cs : List X)
  | rs (full : Bool) (z : Nat) (es : List (List X))
  | rp (cs : List X)
  deriving Inhabited

inductive O where
  | cells (cs : List X)
  | map (es : List (Int × X)) (k : IntKind)
  | mapA (es : List (List Int × X)) (ks : List IntKind)
  deriving Inhabited

abbrev H := T O

/-- An operand. -/
inductive D where
  | t (p : Pt)
  | c (x : X)
  deriving Inhabited

/-- The kind of a cell that is compared: an integer, a truth value, a string. -/
inductive CK where
  | i (k : IntKind) | b | s
  deriving Inhabited, DecidableEq
/-- Operations that look at values alone. -/
inductive IP where
  | mov (x : D)
  | pick (c a b : D)
  | build (zs : List X) (ps : List (Nat × Nat × D))
  | nilc (x : D)
  | bin (op : BinOp) (x y : D)
  | binb (op : BinOp) (x y : D)
  | eqa (neg : Bool) (ks : List IntKind) (x y : D)
  | isnilS (neg : Bool) (x : D)
  | isnilP (neg : Bool) (x : D)
  | isnilF (neg : Bool) (x : D)
  | not (x : D)
  | neg (x : D)
  | conv (k : IntKind) (x : D)
  | mkF (f : FuncId) (b : List D)
  | slS (z : Nat) (x : D) (lo hi mx : Option D)
  | faddr (o : Nat) (x : D)
  | fld (agg : Bool) (o size : Nat) (x : D)
  | iaddrA (n z : Nat) (x i : D)
  | iaddrS (z : Nat) (x i : D)
  | ext (x : D) (i : Nat)
  | len (x : D)
  | max (x y : D)
  | min (x y : D)
  | sbin (op : BinOp) (x y : D)
  | sidx (x i : D)
  | sslc (x : D) (lo hi : Option D)
  | slen (x : D)
  | capn (x : D)
  | slA (n z : Nat) (x : D) (lo hi : Option D)
  | mkFb (f : FuncId) (a b : List D)
  | mkI (t : TypeId) (x : D)
  | eqx (neg : Bool) (ks : List (Option IntKind)) (x y : D)
  | idxA (agg : Bool) (m z : Nat) (x i : D)
  | eqp (neg : Bool) (ks : List CK) (x y : D)
  | bad
  deriving Inhabited
/-- Operations that look into memory. -/
inductive IR where
  | load1 (a : D)
  | loadA (size : Nat) (a : D)
  | look (zero : X) (ok : Bool) (m k : D)
  | b2s (x : D)
  | lookA (zero : X) (ok : Bool) (ks : List IntKind) (m k : D)
  deriving Inhabited
/-- Operations that make a block. -/
inductive IA where
  | new (zs : List X)
  | box (x : D)
  | buildS (zs : List X) (len : Nat) (ps : List (Nat × Nat × D))
  | mkM (k : IntKind)
  | mkMA (ks : List IntKind)
  | mkS (zs : List X) (bytes : Nat) (l c : D)
  deriving Inhabited
/-- Operations that may change what was there. -/
inductive IW where
  | store (size : Nat) (a x : D)
  | upd (m k v : D)
  | call (f : FuncId) (args : List D)
  | callv (f : D) (args : List D)
  | app (z bytes : Nat) (s x : D)
  | copy (z : Nat) (d s : D)
  | clr (zs : List X) (z : Nat) (x : D)
  | appz (zs : List X) (z bytes : Nat) (s x : D)
  | updA (ks : List IntKind) (m k v : D)
  | calli (fs : List (TypeId × FuncId)) (x : D) (args : List D)
  | s2b (x : D)
  deriving Inhabited

inductive J where
  | p (d : Pt) (i : IP)
  | r (d : Pt) (i : IR)
  | a (d : Pt) (i : IA)
  | w (d : Option Pt) (i : IW)
  | g (p : Pt) (want : Bool) (d : Option Pt) (j : J)
  deriving Inhabited

inductive K where
  | skip
  | reg (l : List J)
  | draw (m : Nat) (l : List (J × List Nat))
  | seq (a b : K)
  | cond (c : D) (a b : K)
  | block (id : Nat) (b : K)
  | loop (b : K)
  | exit (id : Nat)
  | scope (b : K) (l : Nat) (rest : K)
  | label
  | goto (l : Nat)
  | ret
  | bad
  deriving Inhabited

inductive R where
  | tmp (p : Pt)
  | cell1 (p : Pt)
  | cellA (p : Pt) (size : Nat)
  deriving Inhabited

structure FI where
  code : K
  results : List R
  nt : Nat

/-! ## Running -/
@[reducible] noncomputable def ev (t : T X) (d : D) : Option X := D.rec (motive := fun _ => Option X) (fun p => t.get p) (fun x => some x) d
noncomputable def evL (t : T X) (l : List D) : Option (List X) :=
  List.rec (some []) (fun d _ r => match ev t d with
    | none => none
    | some x => match r with
      | none => none
      | some xs => some (x :: xs)) l

def X.cells : X → List X
  | .agg cs => cs
  | x => [x]
/-- Is it the value of one cell? -/
def X.one : X → Bool
  | .agg _ => false
  | .tup _ => false
  | _ => true

def quoI (k : IntKind) (a b : Int) : Option X := bif decide (b = 0) then none else some (.int k (k.wrap (a.tdiv b)))
def remI (k : IntKind) (a b : Int) : Option X := bif decide (b = 0) then none else some (.int k (a.tmod b))
def shlI (k : IntKind) (a b : Int) : Option X := bif decide (b < 0) then none else some (.int k (k.wrap (a * 2 ^ (Nat.min b.toNat k.bits))))
def shrI (k : IntKind) (a b : Int) : Option X := bif decide (b < 0) then none else some (.int k (a.fdiv (2 ^ (Nat.min b.toNat k.bits))))
def bitI (f : (w : Nat) → BitVec w → BitVec w → BitVec w) (k : IntKind) (a b : Int) : Option X :=
  some (.int k (k.wrap (f k.bits (BitVec.ofInt k.bits a) (BitVec.ofInt k.bits b)).toNat))

def binI (op : BinOp) (k : IntKind) (a b : Int) : Option X :=
  match op with
  | .add => some (.int k (k.wrap (a + b)))
  | .sub => some (.int k (k.wrap (a - b)))
  | .mul => some (.int k (k.wrap (a * b)))
  | .quo => quoI k a b
  | .rem => remI k a b
  | .eql => some (.bool (decide (a = b)))
  | .neq => some (.bool (!decide (a = b)))
  | .lss => some (.bool (decide (a < b)))
  | .leq => some (.bool (decide (a ≤ b)))
  | .gtr => some (.bool (decide (b < a)))
  | .geq => some (.bool (decide (b ≤ a)))
  | .shl => shlI k a b
  | .shr => shrI k a b
  | .and => bitI (fun _ a b => a &&& b) k a b
  | .or => bitI (fun _ a b => a ||| b) k a b
  | .xor => bitI (fun _ a b => a ^^^ b) k a b
  | .andNot => bitI (fun _ a b => a &&& ~~~b) k a b

def binB (op : BinOp) (a b : Bool) : Option X :=
  match op with
  | .eql => some (.bool (a == b))
  | .neq => some (.bool (!(a == b)))
  | _ => none

noncomputable def rMov (x : D) (t : T X) : Option X := ev t x
noncomputable def rPick (c a b : D) (t : T X) : Option X := match ev t c with
  | some (.bool true) => ev t a
  | some (.bool false) => ev t b
  | _ => none
def lput (cs : List X) (off : Nat) (new : List X) : Option (List X) :=
  bif Nat.ble (off + new.length) cs.length then some (cs.take off ++ new ++ cs.drop (off + new.length)) else none
def lput1 : List X → Nat → X → Option (List X)
  | [], _, _ => none
  | _ :: cs, 0, x => some (x :: cs)
  | c :: cs, n + 1, x => match lput1 cs n x with
    | none => none
    | some cs => some (c :: cs)
def lgetL (cs : List X) (off n : Nat) : Option (List X) := bif Nat.ble (off + n) cs.length then some ((cs.drop off).take n) else none
/-- The cells of a value that goes into memory. -/
def inCells (x : X) : Option (List X) := match x with
  | .agg cs => some cs
  | .tup _ => none
  | x => some [x]
noncomputable def fillX (t : T X) : List (Nat × Nat × D) → List X → Option (List X)
  | [], cs => some cs
  | (off, size, d) :: l, cs => match ev t d with
    | none => none
    | some v => match inCells v with
      | none => none
      | some vc => bif Nat.beq vc.length size then match lput cs off vc with
          | none => none
          | some cs => fillX t l cs
        else none
noncomputable def rBuild (zs : List X) (ps : List (Nat × Nat × D)) (t : T X) : Option X := match fillX t ps zs with
  | none => none
  | some cs => some (.agg cs)
noncomputable def rNilc (x : D) (t : T X) : Option X := match ev t x with
  | some (.ptr id off) => some (.ptr id off)
  | some (.fn f caps) => some (.fn f caps)
  | some (.rp cs) => some (.rp cs)
  | _ => none
noncomputable def rBin (op : BinOp) (x y : D) (t : T X) : Option X := match ev t x with
  | some (.int k a) => match ev t y with
    | some (.int k' b) => bif decide (k = k') then binI op k a b else (match op with | .shl => shlI k a b | .shr => shrI k a b | _ => none)
    | _ => none
  | _ => none
noncomputable def rBinb (op : BinOp) (x y : D) (t : T X) : Option X := match ev t x with
  | some (.bool a) => match ev t y with
    | some (.bool b) => binB op a b
    | _ => none
  | _ => none
def intsOf : List IntKind → List X → Option (List Int)
  | [], [] => some []
  | k :: ks, .int k' n :: xs => bif decide (k = k') then (match intsOf ks xs with | some l => some (n :: l) | none => none) else none
  | _, _ => none
noncomputable def rEqa (neg : Bool) (ks : List IntKind) (x y : D) (t : T X) : Option X := match ev t x with
  | some (.agg a) => match ev t y with
    | some (.agg b) => match intsOf ks a, intsOf ks b with
      | some m, some n => some (.bool (bif neg then !decide (m = n) else decide (m = n)))
      | _, _ => none
    | _ => none
  | _ => none
/-- x == nil, of a slice, a pointer, a function -/
noncomputable def rIsnilS (neg : Bool) (x : D) (t : T X) : Option X := match ev t x with
  | some .nils => some (.bool !neg)
  | some (.sl _ _ _ _ _) => some (.bool neg)
  | some .es => some (.bool neg)
  | some (.rs _ _ _) => some (.bool neg)
  | _ => none
noncomputable def rIsnilP (neg : Bool) (x : D) (t : T X) : Option X := match ev t x with
  | some .nilp => some (.bool !neg)
  | some (.ptr _ _) => some (.bool neg)
  | some (.rp _) => some (.bool neg)
  | _ => none
noncomputable def rIsnilF (neg : Bool) (x : D) (t : T X) : Option X := match ev t x with
  | some .nilf => some (.bool !neg)
  | some (.fn _ _) => some (.bool neg)
  | _ => none
noncomputable def rNot (x : D) (t : T X) : Option X := match ev t x with
  | some (.bool b) => some (.bool !b)
  | _ => none
noncomputable def rNeg (x : D) (t : T X) : Option X := match ev t x with
  | some (.int k a) => some (.int k (k.wrap (0 - a)))
  | _ => none
noncomputable def rConv (k : IntKind) (x : D) (t : T X) : Option X := match ev t x with
  | some (.int _ a) => some (.int k (k.wrap a))
  | _ => none
noncomputable def rMkF (f : FuncId) (b : List D) (t : T X) : Option X := match evL t b with
  | some b => some (.fn f b)
  | none => none
def asI : X → Option Nat
  | .int _ (.ofNat m) => some m
  | _ => none
noncomputable def bnd (t : T X) (d : Option D) (dflt : Nat) : Option Nat := match d with
  | none => some dflt
  | some d => match ev t d with
    | some x => asI x
    | none => none
/-- s[l:h] or s[l:h:m]. -/
def slX (z0 : Nat) (id : Pt) (off cap z l h : Nat) (m : Option Nat) : Option X :=
  match m with
  | some m => bif Nat.ble m cap && Nat.ble h m && Nat.ble l h then some (.sl id (bif Nat.beq m l then off else off + l * z0) (h - l) (m - l) 0) else none
  | none => bif Nat.ble h cap && Nat.ble l h then
      bif Nat.beq z 0 then some (.sl id (bif Nat.beq cap l then off else off + l * z0) (h - l) (cap - l) 0)
      else bif Nat.beq l 0 then some (.sl id off h cap z)
      else bif Nat.blt l cap && Nat.beq z (z0 + 1) then some (.sl id (off + l * z0) (h - l) (cap - l) z)
      else bif Nat.beq l h then some .es else none
    else none
noncomputable def rSlS (z : Nat) (x : D) (lo hi mx : Option D) (t : T X) : Option X := match ev t x with
  | some (.sl id off len cap z') => match bnd t lo 0, bnd t hi len with
    | some l, some hh => match mx with
      | none => slX z id off cap z' l hh none
      | some _ => match hi with
        | none => none
        | some _ => match bnd t mx 0 with
          | some m => slX z id off cap z' l hh (some m)
          | none => none
    | _, _ => none
  | some .nils => match bnd t lo 0, bnd t hi 0, mx with
    | some l, some hh, none => bif Nat.beq l 0 && Nat.beq hh 0 then some .nils else none
    | _, _, _ => none
  | some (.rs full z' es) => match bnd t lo 0, bnd t hi es.length with
    | some l, some hh => match mx with
      | none => bif Nat.beq z' z && (Nat.ble l hh && Nat.ble hh es.length) then some (.rs (full && Nat.beq hh es.length) z' ((es.take hh).drop l)) else none
      | some _ => match hi with
        | none => none
        | some _ => match bnd t mx 0 with
          | some m => bif Nat.beq z' z && (Nat.ble l hh && (Nat.ble hh m && Nat.ble m es.length)) then some (.rs (Nat.beq hh m) z' ((es.take hh).drop l)) else none
          | none => none
    | _, _ => none
  | _ => none
noncomputable def rFaddr (o : Nat) (x : D) (t : T X) : Option X := match ev t x with
  | some (.ptr id off) => some (.ptr id (off + o))
  | some (.rp cs) => some (.rp (cs.drop o))
  | _ => none
def partX (agg : Bool) (o size : Nat) (cs : List X) : Option X := match agg with
  | true => match lgetL cs o size with
    | some l => some (.agg l)
    | none => none
  | false => cs[o]?
noncomputable def rFld (agg : Bool) (o size : Nat) (x : D) (t : T X) : Option X := match ev t x with
  | some (.agg cs) => partX agg o size cs
  | _ => none
noncomputable def rIaddrA (m z : Nat) (x i : D) (t : T X) : Option X := match ev t x, ev t i with
  | some (.ptr id off), some i => match asI i with
    | some i => bif Nat.blt i m then some (.ptr id (off + i * z)) else none
    | none => none
  | some (.rp cs), some i => match asI i with
    | some i => bif Nat.blt i m then some (.rp (cs.drop (i * z))) else none
    | none => none
  | _, _ => none
noncomputable def rIaddrS (z : Nat) (x i : D) (t : T X) : Option X := match ev t x, ev t i with
  | some (.sl id off len _ _), some i => match asI i with
    | some i => bif Nat.blt i len then some (.ptr id (off + i * z)) else none
    | none => none
  | some (.rs _ z' es), some i => match asI i with
    | some i => bif Nat.beq z' z then (match es[i]? with
      | some e => some (.rp e)
      | none => none) else none
    | none => none
  | _, _ => none
noncomputable def rExt (x : D) (i : Nat) (t : T X) : Option X := match ev t x with
  | some (.tup vs) => vs[i]?
  | _ => none
noncomputable def rLen (x : D) (t : T X) : Option X := match ev t x with
  | some (.sl _ _ n _ _) => some (.int .i64 (.ofNat n))
  | some .nils => some (.int .i64 (.ofNat 0))
  | some .es => some (.int .i64 (.ofNat 0))
  | some (.rs _ _ es) => some (.int .i64 (.ofNat es.length))
  | _ => none
noncomputable def rMax (x y : D) (t : T X) : Option X := match ev t x, ev t y with
  | some (.int k a), some (.int _ b) => some (.int k (bif decide (a < b) then b else a))
  | _, _ => none
noncomputable def rMin (x y : D) (t : T X) : Option X := match ev t x, ev t y with
  | some (.int k a), some (.int _ b) => some (.int k (bif decide (b < a) then b else a))
  | _, _ => none

def strB (op : BinOp) (a b : List UInt8) : Option X := match op with
  | .add => bif Nat.ble (a.length + b.length) 1000000 then some (.str (a ++ b)) else none
  | .eql => some (.bool (decide (a = b)))
  | .neq => some (.bool (!decide (a = b)))
  | .lss => some (.bool (Op.bytesLess a b))
  | .leq => some (.bool (Op.bytesLess a b || decide (a = b)))
  | .gtr => some (.bool (!(Op.bytesLess a b || decide (a = b))))
  | .geq => some (.bool (!Op.bytesLess a b))
  | _ => none
noncomputable def rSbin (op : BinOp) (x y : D) (t : T X) : Option X := match ev t x, ev t y with
  | some (.str a), some (.str b) => strB op a b
  | _, _ => none
noncomputable def rSidx (x i : D) (t : T X) : Option X := match ev t x, ev t i with
  | some (.str s), some i => match asI i with
    | some i => match s[i]? with
      | some b => some (.int .u8 (.ofNat b.toNat))
      | none => none
    | none => none
  | _, _ => none
noncomputable def rSslc (x : D) (lo hi : Option D) (t : T X) : Option X := match ev t x with
  | some (.str s) => match bnd t lo 0, bnd t hi s.length with
    | some l, some hh => bif Nat.ble l hh && Nat.ble hh s.length then some (.str ((s.drop l).take (hh - l))) else none
    | _, _ => none
  | _ => none
noncomputable def rSlen (x : D) (t : T X) : Option X := match ev t x with
  | some (.str s) => some (.int .i64 (.ofNat s.length))
  | _ => none
noncomputable def rCapn (x : D) (t : T X) : Option X := match ev t x with
  | some .nils => some (.int .i64 (.ofNat 0))
  | some (.sl _ _ _ c z) => bif Nat.beq z 0 then some (.int .i64 (.ofNat c)) else none
  | some (.rs full _ es) => bif full then some (.int .i64 (.ofNat es.length)) else none
  | _ => none
/-- k rows of z cells each. -/
def rowsOf (z : Nat) : Nat → List X → Option (List (List X))
  | 0, _ => some []
  | k + 1, cs => bif Nat.ble z cs.length then (match rowsOf z k (cs.drop z) with
    | some l => some (cs.take z :: l)
    | none => none) else none
noncomputable def rSlA (n z : Nat) (x : D) (lo hi : Option D) (t : T X) : Option X := match ev t x with
  | some (.ptr id off) => match bnd t lo 0, bnd t hi n with
    | some l, some hh => bif Nat.ble l hh && Nat.ble hh n then some (.sl id (bif Nat.beq n l then off else off + l * z) (hh - l) (n - l) 0) else none
    | _, _ => none
  | some (.rp cs) => match bnd t lo 0, bnd t hi n with
    | some l, some hh => bif Nat.ble l hh && Nat.ble hh n then (match rowsOf z (hh - l) (cs.drop (l * z)) with
      | some es => some (.rs (Nat.beq hh n) z es)
      | none => none) else none
    | _, _ => none
  | _ => none
noncomputable def rMkFb (f : FuncId) (a b : List D) (t : T X) : Option X := match evL t a, evL t b with
  | some a, some b => some (.fb f a b)
  | _, _ => none
noncomputable def rMkI (ty : TypeId) (x : D) (t : T X) : Option X := match ev t x with
  | some x => some (.ifc ty x)
  | none => none
/-- Cells that are integers or truth values (none), as numbers. -/
def mixOf : List (Option IntKind) → List X → Option (List Int)
  | [], [] => some []
  | some k :: ks, .int k' n :: xs => bif decide (k = k') then (match mixOf ks xs with | some l => some (n :: l) | none => none) else none
  | none :: ks, .bool b :: xs => match mixOf ks xs with | some l => some ((bif b then 1 else 0) :: l) | none => none
  | _, _ => none
noncomputable def rEqx (neg : Bool) (ks : List (Option IntKind)) (x y : D) (t : T X) : Option X := match ev t x, ev t y with
  | some (.agg a), some (.agg b) => match mixOf ks a, mixOf ks b with
    | some m, some n => some (.bool (bif neg then !decide (m = n) else decide (m = n)))
    | _, _ => none
  | _, _ => none

noncomputable def rIdxA (agg : Bool) (m z : Nat) (x i : D) (t : T X) : Option X := match ev t x, ev t i with
  | some (.agg cs), some i => match asI i with
    | some i => bif Nat.blt i m then partX agg (i * z) z cs else none
    | none => none
  | _, _ => none
/-- Cells of such kinds: are they the same? -/
def samX : List CK → List X → List X → Option Bool
  | [], [], [] => some true
  | .i k :: ks, .int k1 a :: xs, .int k2 b :: ys => bif decide (k = k1) && decide (k = k2) then (match samX ks xs ys with | some r => some (decide (a = b) && r) | none => none) else none
  | .b :: ks, .bool a :: xs, .bool b :: ys => match samX ks xs ys with | some r => some ((a == b) && r) | none => none
  | .s :: ks, .str a :: xs, .str b :: ys => match samX ks xs ys with | some r => some (decide (a = b) && r) | none => none
  | _, _, _ => none
noncomputable def rEqp (neg : Bool) (ks : List CK) (x y : D) (t : T X) : Option X := match ev t x, ev t y with
  | some (.agg a), some (.agg b) => match samX ks a b with
    | some r => some (.bool (bif neg then !r else r))
    | none => none
  | _, _ => none

noncomputable def opP (i : IP) : T X → Option X :=
  IP.rec (motive := fun _ => T X → Option X) rMov rPick rBuild rNilc rBin rBinb rEqa rIsnilS rIsnilP rIsnilF rNot rNeg rConv rMkF rSlS rFaddr rFld rIaddrA rIaddrS rExt rLen rMax rMin rSbin rSidx rSslc rSlen rCapn rSlA rMkFb rMkI rEqx rIdxA rEqp (fun _ => none) i

noncomputable def rLoad1 (a : D) (t : T X) (h : H) : Option X := match ev t a with
  | some (.ptr id off) => match h.get id with
    | some (.cells cs) => cs[off]?
    | _ => none
  | some (.rp cs) => cs[0]?
  | _ => none
noncomputable def rLoadA (size : Nat) (a : D) (t : T X) (h : H) : Option X := match ev t a with
  | some (.ptr id off) => match h.get id with
    | some (.cells cs) => match lgetL cs off size with
      | some l => some (.agg l)
      | none => none
    | _ => none
  | some (.rp cs) => match lgetL cs 0 size with
    | some l => some (.agg l)
    | none => none
  | _ => none
def mget (k : Int) : List (Int × X) → Option X
  | [] => none
  | (k', v) :: es => bif decide (k = k') then some v else mget k es
def mset (k : Int) (v : X) : List (Int × X) → List (Int × X)
  | [] => [(k, v)]
  | (k', v') :: es => bif decide (k = k') then (k, v) :: es else (k', v') :: mset k v es
def lookR (zero : X) (ok : Bool) (r : Option X) : X := match ok, r with
  | true, some v => .tup [v, .bool true]
  | true, none => .tup [zero, .bool false]
  | false, some v => v
  | false, none => zero
noncomputable def rLook (zero : X) (ok : Bool) (m k : D) (t : T X) (h : H) : Option X := match ev t m, ev t k with
  | some (.map id), some (.int ki k) => match h.get id with
    | some (.map es kj) => bif decide (ki = kj) then some (lookR zero ok (mget k es)) else none
    | _ => none
  | _, _ => none
def bytesOf : List X → Option (List UInt8)
  | [] => some []
  | .int .u8 n :: l => match bytesOf l with
    | some r => some (UInt8.ofNat n.toNat :: r)
    | none => none
  | _ => none
noncomputable def rB2s (x : D) (t : T X) (h : H) : Option X := match ev t x with
  | some .nils => some (.str [])
  | some (.sl id off len _ _) => match h.get id with
    | some (.cells cs) => match lgetL cs off len with
      | some l => match bytesOf l with
        | some b => some (.str b)
        | none => none
      | none => none
    | _ => none
  | some (.rs _ z es) => bif Nat.beq z 1 then (match bytesOf es.flatten with
    | some b => some (.str b)
    | none => none) else none
  | _ => none
def mgetA (k : List Int) : List (List Int × X) → Option X
  | [] => none
  | (k', v) :: es => bif decide (k = k') then some v else mgetA k es
def msetA (k : List Int) (v : X) : List (List Int × X) → List (List Int × X)
  | [] => [(k, v)]
  | (k', v') :: es => bif decide (k = k') then (k, v) :: es else (k', v') :: msetA k v es
noncomputable def rLookA (zero : X) (ok : Bool) (ks : List IntKind) (m k : D) (t : T X) (h : H) : Option X := match ev t m, ev t k with
  | some (.map id), some (.agg cs) => match intsOf ks cs with
    | some key => match h.get id with
      | some (.mapA es ks') => bif decide (ks = ks') then some (lookR zero ok (mgetA key es)) else none
      | _ => none
    | none => none
  | _, _ => none
noncomputable def opR (i : IR) : T X → H → Option X :=
  IR.rec (motive := fun _ => T X → H → Option X) rLoad1 rLoadA rLook rB2s rLookA i

def repL (n : Nat) (l : List X) : List X := (List.replicate n l).flatten
noncomputable def rNew (zs : List X) (t : T X) (n : Pt) : Option (X × O) := some (.ptr n 0, .cells zs)
noncomputable def rBox (x : D) (t : T X) (n : Pt) : Option (X × O) := match ev t x with
  | none => none
  | some v => match inCells v with
    | none => none
    | some l => some (.ptr n 0, .cells l)
noncomputable def rBuildS (zs : List X) (len : Nat) (ps : List (Nat × Nat × D)) (t : T X) (n : Pt) : Option (X × O) :=
  match fillX t ps (repL len zs) with
  | none => none
  | some cs => some (.sl n 0 len len 0, .cells cs)
noncomputable def rMkM (k : IntKind) (t : T X) (n : Pt) : Option (X × O) := some (.map n, .map [] k)
noncomputable def rMkMA (ks : List IntKind) (t : T X) (n : Pt) : Option (X × O) := some (.map n, .mapA [] ks)
noncomputable def rMkS (zs : List X) (bytes : Nat) (l c : D) (t : T X) (n : Pt) : Option (X × O) := match ev t l, ev t c with
  | some l, some c => match asI l, asI c with
    | some l, some c => bif Nat.ble l c && (Nat.ble c 1000000 && Nat.ble (c * bytes) 1000000000) then some (.sl n 0 l c 0, .cells (repL c zs)) else none
    | _, _ => none
  | _, _ => none
noncomputable def opA (i : IA) : T X → Pt → Option (X × O) :=
  IA.rec (motive := fun _ => T X → Pt → Option (X × O)) rNew rBox rBuildS rMkM rMkMA rMkS i

abbrev Out := Option (X × H × Pt)
abbrev CallT := FuncId → List X → H → Pt → Out

noncomputable def putX (h : H) (n : Pt) (id : Pt) (off : Nat) (l : List X) (r : X) : Out := match h.get id with
  | some (.cells cs) => match lput cs off l with
    | some cs => some (r, h.put id (.cells cs), n)
    | none => none
  | _ => none
noncomputable def rStore (size : Nat) (a x : D) (call : CallT) (t : T X) (h : H) (n : Pt) : Out := match ev t a, ev t x with
  | some (.ptr id off), some v => match inCells v with
    | some l => bif Nat.beq l.length size then putX h n id off l (.tup []) else none
    | none => none
  | _, _ => none
noncomputable def rUpd (m k v : D) (call : CallT) (t : T X) (h : H) (n : Pt) : Out := match ev t m, ev t k, ev t v with
  | some (.map id), some (.int ki k), some v => match h.get id with
    | some (.map es kj) => bif decide (ki = kj) then some (.tup [], h.put id (.map (mset k v es) kj), n) else none
    | _ => none
  | _, _, _ => none
noncomputable def rCall (f : FuncId) (args : List D) (call : CallT) (t : T X) (h : H) (n : Pt) : Out := match evL t args with
  | some args => call f args h n
  | none => none
noncomputable def rCallv (f : D) (args : List D) (call : CallT) (t : T X) (h : H) (n : Pt) : Out := match ev t f, evL t args with
  | some (.fn f caps), some args => call f (args ++ caps) h n
  | some (.fb f first caps), some args => call f (first ++ args ++ caps) h n
  | _, _ => none
noncomputable def srcX (h : H) (z : Nat) (x : X) : Option (Nat × List X) := match x with
  | .nils => some (0, [])
  | .es => some (0, [])
  | .sl id off k _ _ => match h.get id with
    | some (.cells cs) => match lgetL cs off (k * z) with
      | some l => some (k, l)
      | none => none
    | _ => none
  | .rs _ z' es => bif Nat.beq z' z then some (es.length, es.flatten) else none
  | _ => none
noncomputable def appN (z bytes k : Nat) (new : List X) (h : H) (n : Pt) : Out :=
  bif Nat.ble k 1000000 && Nat.ble (k * bytes) 1000000000 then n.incK fun m => some (.sl n 0 k k (z + 1), h.put n (.cells new), m) else none
noncomputable def appX (z bytes : Nat) (k : Nat) (new : List X) (s : X) (h : H) (n : Pt) : Out := match s with
  | .nils => appN z bytes k new h n
  | .sl id off len cap z' =>
    bif Nat.ble (len + k) cap then putX h n id (off + len * z) new (.sl id off (len + k) cap z')
    else match srcX h z s with
      | none => none
      | some (_, old) => bif Nat.beq z' 0 then appN z bytes (len + k) (old ++ new) h n
        else bif Nat.beq off 0 && Nat.beq z' (z + 1) then appN z bytes (len + k) (old ++ new) (h.del id) n else none
  | _ => none
noncomputable def rApp (z bytes : Nat) (s x : D) (call : CallT) (t : T X) (h : H) (n : Pt) : Out := match ev t s, ev t x with
  | some s, some x => match srcX h z x with
    | some (k, new) => bif Nat.beq k 0 then (match s with | .nils => some (s, h, n) | .sl _ _ _ _ _ => some (s, h, n) | _ => none) else appX z bytes k new s h n
    | none => none
  | _, _ => none
def byteX (b : UInt8) : X := .int .u8 (.ofNat b.toNat)
/-- What is copied out of. -/
noncomputable def srcS (h : H) (z : Nat) (x : X) : Option (Nat × List X) := match x with
  | .str s => bif Nat.beq z 1 then some (s.length, s.map byteX) else none
  | x => srcX h z x
noncomputable def rCopy (z : Nat) (d s : D) (call : CallT) (t : T X) (h : H) (n : Pt) : Out := match ev t d, ev t s with
  | some (.sl id off k _ _), some x => match srcS h z x with
    | some (k', cs) => match lgetL cs 0 (Nat.min k' k * z) with
      | some l => putX h n id off l (.int .i64 (.ofNat (Nat.min k' k)))
      | none => none
    | none => none
  | some .nils, some x => match srcS h z x with
    | some _ => some (.int .i64 (.ofNat 0), h, n)
    | none => none
  | some .es, some x => match srcS h z x with
    | some _ => some (.int .i64 (.ofNat 0), h, n)
    | none => none
  | _, _ => none
noncomputable def rS2b (x : D) (call : CallT) (t : T X) (h : H) (n : Pt) : Out := match ev t x with
  | some (.str s) => bif Nat.ble s.length 1000000 then n.incK fun m => some (.sl n 0 s.length s.length 2, h.put n (.cells (s.map byteX)), m) else none
  | _ => none
noncomputable def rClr (zs : List X) (z : Nat) (x : D) (call : CallT) (t : T X) (h : H) (n : Pt) : Out := match ev t x with
  | some .nils => some (.tup [], h, n)
  | some (.sl id off len _ _) => bif Nat.beq len 0 then some (.tup [], h, n) else bif Nat.beq z 0 then none else putX h n id off (repL len zs) (.tup [])
  | _ => none
noncomputable def rAppz (zs : List X) (z bytes : Nat) (s x : D) (call : CallT) (t : T X) (h : H) (n : Pt) : Out := match ev t s, ev t x with
  | some .nils, some x => match asI x with
    | some k => bif Nat.beq k 0 then some (.nils, h, n) else appN z bytes k (repL k zs) h n
    | none => none
  | _, _ => none
noncomputable def rUpdA (ks : List IntKind) (m k v : D) (call : CallT) (t : T X) (h : H) (n : Pt) : Out := match ev t m, ev t k, ev t v with
  | some (.map id), some (.agg cs), some v => match intsOf ks cs with
    | some key => match h.get id with
      | some (.mapA es ks') => bif decide (ks = ks') then some (.tup [], h.put id (.mapA (msetA key v es) ks), n) else none
      | _ => none
    | none => none
  | _, _, _ => none
def findM (t : TypeId) : List (TypeId × FuncId) → Option FuncId
  | [] => none
  | (t', f) :: l => bif Nat.beq t' t then some f else findM t l
noncomputable def rCalli (fs : List (TypeId × FuncId)) (x : D) (args : List D) (call : CallT) (t : T X) (h : H) (n : Pt) : Out := match ev t x, evL t args with
  | some (.ifc ty y), some args => match findM ty fs with
    | some f => call f (y :: args) h n
    | none => none
  | _, _ => none
noncomputable def opW (i : IW) : CallT → T X → H → Pt → Out :=
  IW.rec (motive := fun _ => CallT → T X → H → Pt → Out) rStore rUpd rCall rCallv rApp rCopy rClr rAppz rUpdA rCalli rS2b i

inductive S3 where
  | no
  | ok (t : T X) (h : H) (n : Pt)

@[reducible] noncomputable def putO (t : T X) (d : Option Pt) (x : X) : T X := Option.rec t (fun d => t.put d x) d
noncomputable def stP (d : Pt) (i : IP) (call : CallT) (t : T X) (h : H) (n : Pt) : S3 :=
  Option.rec .no (fun x => .ok (t.put d x) h n) (opP i t)
noncomputable def stR (d : Pt) (i : IR) (call : CallT) (t : T X) (h : H) (n : Pt) : S3 :=
  Option.rec .no (fun x => .ok (t.put d x) h n) (opR i t h)
noncomputable def stA (d : Pt) (i : IA) (call : CallT) (t : T X) (h : H) (n : Pt) : S3 :=
  Option.rec .no (fun q => Prod.rec (fun x o => n.incK fun m => .ok (t.put d x) (h.put n o) m) q) (opA i t n)
noncomputable def stW (d : Option Pt) (i : IW) (call : CallT) (t : T X) (h : H) (n : Pt) : S3 :=
  Option.rec .no (fun q => Prod.rec (fun x q => Prod.rec (fun h n => .ok (putO t d x) h n) q) q) (opW i call t h n)
noncomputable def stG (p : Pt) (want : Bool) (d : Option Pt) (j : J) (st : CallT → T X → H → Pt → S3) (call : CallT) (t : T X) (h : H) (n : Pt) : S3 :=
  match t.get p with
  | some (.bool b) => bif b == want then st call t h n else .ok (putO t d (.tup [])) h n
  | some (.tup []) => .ok (putO t d (.tup [])) h n
  | _ => .no
noncomputable def step (j : J) : CallT → T X → H → Pt → S3 :=
  J.rec (motive := fun _ => CallT → T X → H → Pt → S3) stP stR stA stW stG j

inductive E where
  | normal | exit (id : Nat) | ret | goto (l : Nat)

inductive Res where
  | no
  | go (e : E) (t : T X) (h : H) (n : Pt)

noncomputable def opsX (call : CallT) (l : List J) : T X → H → Pt → Res :=
  List.rec (motive := fun _ => T X → H → Pt → Res) (fun t h n => .go .normal t h n)
    (fun o _ rest t h n => S3.rec .no (fun t h n => rest t h n) (step o call t h n)) l

/-! ### Regions of any order -/
/-- 0: values alone, 1: looks into memory, 2: makes a block, 3: may change what was there -/
noncomputable def J.kind (j : J) : Nat := J.rec (fun _ _ => 0) (fun _ _ => 1) (fun _ _ => 2) (fun _ _ => 3) (fun _ _ _ _ k => k) j
def beqX1 : X → X → Bool
  | .bool a, .bool b => a == b
  | .int k a, .int k' b => decide (k = k') && decide (a = b)
  | .nilp, .nilp => true
  | .nilm, .nilm => true
  | .nilf, .nilf => true
  | .nili, .nili => true
  | .nils, .nils => true
  | .ptr i o, .ptr j p => decide (i = j) && Nat.beq o p
  | .sl i o l c z, .sl j o' l' c' z' => decide (i = j) && (Nat.beq o o' && (Nat.beq l l' && (Nat.beq c c' && Nat.beq z z')))
  | .map i, .map j => decide (i = j)
  | .tup [], .tup [] => true
  | .fn f [], .fn g [] => Nat.beq f g
  | .str a, .str b => decide (a = b)
  | .es, .es => true
  | _, _ => false
def beqL : List X → List X → Bool
  | [], [] => true
  | x :: xs, y :: ys => beqX1 x y && beqL xs ys
  | _, _ => false
def beqX0 : X → X → Bool
  | .agg a, .agg b => beqL a b
  | .fn f a, .fn g b => Nat.beq f g && beqL a b
  | .tup a, .tup b => beqL a b
  | x, y => beqX1 x y
/-- The same; where the quick look does not say so, the kernel is stuck. -/
noncomputable def beqX (x y : X) : Bool := beqX0 x y || @decide (x = y) (Classical.propDecidable _)
def beqO0 : O → O → Bool
  | .cells a, .cells b => beqL a b
  | .map [] k, .map [] k' => decide (k = k')
  | .mapA [] k, .mapA [] k' => decide (k = k')
  | _, _ => false
noncomputable def beqO (x y : O) : Bool := beqO0 x y || @decide (x = y) (Classical.propDecidable _)

/-- The run of a region in the order of the text: what the temporaries and the memory hold; the next number for blocks that calls make, and for those that the region's own operations make; how many operations have come (i), and how many when the last one came that may change memory (q); the memories behind those. -/
structure DS where
  t : T X
  h : H
  n : Pt
  na : Pt
  i : Nat
  q : Nat
  hs : List (Nat × H)
noncomputable def dPure (call : CallT) (j : J) (s : DS) : Option DS := match step j call s.t s.h s.n with
  | .ok t _ _ => some ⟨t, s.h, s.n, s.na, s.i + 1, s.q, s.hs⟩
  | .no => none
noncomputable def dAlc (call : CallT) (j : J) (s : DS) : Option DS := match step j call s.t s.h s.na with
  | .ok t h na => some ⟨t, h, s.n, na, s.i + 1, s.q, s.hs⟩
  | .no => none
noncomputable def dWr (call : CallT) (j : J) (s : DS) : Option DS := match step j call s.t s.h s.n with
  | .ok t h n => some ⟨t, h, n, s.na, s.i + 1, s.i + 1, (s.i + 1, h) :: s.hs⟩
  | .no => none
noncomputable def dStep (call : CallT) (j : J) (s : DS) : Option DS :=
  J.rec (motive := fun _ => J → DS → Option DS) (fun _ _ => dPure call) (fun _ _ => dPure call) (fun _ _ => dAlc call) (fun _ _ => dWr call) (fun _ _ _ _ f => f) j j s
noncomputable def drawGo (call : CallT) (l : List (J × List Nat)) (s : DS) : Option DS :=
  List.rec (motive := fun _ => DS → Option DS) (fun s => some s) (fun q _ rest s => match dStep call q.1 s with | some s => rest s | none => none) l s
/-- What it does, told anew with all temporaries known, on another memory. -/
noncomputable def reR (call : CallT) (j : J) (d : Option Pt) (t : T X) (h : H) : Bool := match d with
  | none => false
  | some d => match t.get d, step j call t h .z with
    | some x, .ok t' _ _ => match t'.get d with
      | some y => beqX y x
      | none => false
    | _, _ => false
noncomputable def J.dst (j : J) : Option Pt := match j with
  | .p d _ => some d
  | .r d _ => some d
  | .a d _ => some d
  | .w d _ => d
  | .g _ _ d _ => d
/-- The block m is, in another memory, as it was made. -/
noncomputable def reA (m : Pt) (c : O) (h : H) : Bool := match h.get m with
  | some o => beqO c o
  | none => false
noncomputable def reAll (f : H → Bool) (ok : Nat → Bool) : List (Nat × H) → Bool
  | [] => true
  | (q, h) :: hs => (bif ok q then f h else true) && reAll f ok hs
def memN (q : Nat) : List Nat → Bool
  | [] => false
  | x :: l => Nat.beq q x || memN q l
/-- The check behind the run: hs: the memories that it went through; s: the run once more. -/
noncomputable def drawRe (call : CallT) (hs : List (Nat × H)) (l : List (J × List Nat)) (s : DS) : Bool :=
  List.rec (motive := fun _ => DS → Bool) (fun s => true) (fun p _ rest s => match dStep call p.1 s with
    | none => false
    | some s' => (match p.1.kind with
      | 1 => reAll (reR call p.1 p.1.dst s'.t) (fun q => memN q p.2 && !Nat.beq q s.q) hs
      | 2 => match s'.h.get s.na with
        | some c => reAll (reA s.na c) (fun q => memN q p.2 && Nat.blt s.q q) hs
        | none => true
      | _ => true) && rest s') l s
noncomputable def skipN (n : Pt) (m : Nat) : Pt := Nat.rec n (fun _ q => q.inc) m
noncomputable def drawX (call : CallT) (m : Nat) (l : List (J × List Nat)) (t : T X) (h : H) (n : Pt) : Res :=
  match drawGo call l ⟨t, h, skipN n m, n, 0, 0, [(0, h)]⟩ with
  | none => .no
  | some s => bif drawRe call s.hs l ⟨t, h, skipN n m, n, 0, 0, [(0, h)]⟩ then .go .normal s.t s.h s.n else .no

/-! ### Code -/
noncomputable def thenR (r : Res) (k : T X → H → Pt → Res) : Res := match r with
  | .go .normal t h n => k t h n
  | r => r
noncomputable def blockR (id : Nat) (r : Res) : Res := match r with
  | .go (.exit i) t h n => bif Nat.beq i id then .go .normal t h n else .go (.exit i) t h n
  | r => r
noncomputable def condR (t : T X) (c : D) (a b : Res) : Res := match ev t c with
  | some (.bool true) => a
  | some (.bool false) => b
  | _ => .no
noncomputable def loopX (body : T X → H → Pt → Res) (f : Nat) : T X → H → Pt → Res :=
  Nat.rec (fun _ _ _ => .no) (fun _ g t h n => thenR (body t h n) g) f
noncomputable def scopeR (l : Nat) (r : Res) (k : T X → H → Pt → Res) : Res := match r with
  | .go (.goto l') t h n => bif Nat.beq l' l then (match k t h n with
      | .go (.goto _) _ _ _ => .no
      | r => r) else .no
  | r => r
noncomputable def codeX (call : CallT) (fuel : Nat) (c : K) : T X → H → Pt → Res :=
  K.rec (motive := fun _ => T X → H → Pt → Res) (fun t h n => .go .normal t h n) (fun l => opsX call l) (fun m l => drawX call m l) (fun _ _ a b t h n => thenR (a t h n) b)
    (fun c _ _ a b t h n => condR t c (a t h n) (b t h n)) (fun id _ b t h n => blockR id (b t h n)) (fun _ b => loopX b fuel) (fun i t h n => .go (.exit i) t h n)
    (fun _ l _ b r t h n => scopeR l (b t h n) r) (fun t h n => .go .normal t h n) (fun l t h n => .go (.goto l) t h n) (fun t h n => .go .ret t h n) (fun _ _ _ => .no) c

noncomputable def resX (t : T X) (h : H) : List R → Option (List X)
  | [] => some []
  | .tmp i :: rs => match t.get i, resX t h rs with
    | some x, some xs => some (x :: xs)
    | _, _ => none
  | .cell1 a :: rs => match rLoad1 (.t a) t h, resX t h rs with
    | some x, some xs => some (x :: xs)
    | _, _ => none
  | .cellA a size :: rs => match rLoadA size (.t a) t h, resX t h rs with
    | some x, some xs => some (x :: xs)
    | _, _ => none
def packX : List X → X
  | [x] => x
  | xs => .tup xs
noncomputable def outR (rs : List R) (r : Res) : Out := match r with
  | .go e t h n => match e with
    | .normal => match resX t h rs with
      | some xs => some (packX xs, h, n)
      | none => none
    | .ret => match resX t h rs with
      | some xs => some (packX xs, h, n)
      | none => none
    | _ => none
  | .no => none
/-- fu: how many rounds a loop may have; d: how deep calls may be. -/
noncomputable def callG (fns : T FI) (fu : Nat) (d : Nat) : CallT :=
  Nat.rec (motive := fun _ => CallT) (fun _ _ _ _ => none) (fun _ rec f args h n => match fns.get (.ofNat f) with
    | none => none
    | some fi => bif Nat.ble args.length fi.nt then outR fi.results (codeX rec fu fi.code (T.ofList args) h n) else none) d
noncomputable abbrev callF (fns : T FI) (d : Nat) : CallT := callG fns 1000000 d

end Go.Ex

/- Numerals and tries: what is put is found. Nothing here speaks of one program. -/
set_option linter.unusedSimpArgs false
set_option linter.unusedVariables false
namespace Go.Ex

theorem num_z : Pt.z.num = 0 := rfl
theorem num_l (p : Pt) : (Pt.l p).num = 2 * p.num + 1 := rfl
theorem num_r (p : Pt) : (Pt.r p).num = 2 * p.num + 2 := rfl
theorem num_inc : ∀ p : Pt, p.inc.num = p.num + 1 := by
  intro p
  induction p with
  | z => rfl
  | l p ih => show (Pt.r p).num = (Pt.l p).num + 1; rw [num_l, num_r]
  | r p ih => show (Pt.l p.inc).num = _; rw [num_l, num_r, ih]; omega
theorem num_inj : ∀ p q : Pt, p.num = q.num → p = q := by
  intro p
  induction p with
  | z => intro q h; cases q with
    | z => rfl
    | l q => rw [num_z, num_l] at h; omega
    | r q => rw [num_z, num_r] at h; omega
  | l p ih => intro q h; cases q with
    | z => rw [num_z, num_l] at h; omega
    | l q => rw [num_l, num_l] at h; rw [ih q (by omega)]
    | r q => rw [num_l, num_r] at h; omega
  | r p ih => intro q h; cases q with
    | z => rw [num_z, num_r] at h; omega
    | l q => rw [num_l, num_r] at h; omega
    | r q => rw [num_r, num_r] at h; rw [ih q (by omega)]
theorem num_ofNatF : ∀ f k, k ≤ f → (Pt.ofNatF f k).num = k := by
  intro f
  induction f with
  | zero => intro k h; have : k = 0 := by omega
            subst this; rfl
  | succ f ih =>
    intro k h
    unfold Pt.ofNatF
    cases h0 : Nat.beq k 0 with
    | true => have := Nat.eq_of_beq_eq_true h0; subst this; rfl
    | false =>
      have hk : k ≠ 0 := Nat.ne_of_beq_eq_false h0
      cases h1 : Nat.beq (k % 2) 1 with
      | true =>
        have := Nat.eq_of_beq_eq_true h1
        show (Pt.l _).num = k
        rw [num_l, ih _ (by omega)]; omega
      | false =>
        have := Nat.ne_of_beq_eq_false h1
        show (Pt.r _).num = k
        rw [num_r, ih _ (by omega)]; omega
theorem num_ofNat (k : Nat) : (Pt.ofNat k).num = k := num_ofNatF k k (Nat.le_refl _)
theorem ofNat_inj {i j : Nat} (h : Pt.ofNat i = Pt.ofNat j) : i = j := by rw [← num_ofNat i, ← num_ofNat j, h]

theorem incK_eq {β : Type} : ∀ (p : Pt) (k : Pt → β), p.incK k = k p.inc := by
  intro p
  induction p with
  | z => intro k; rfl
  | l p ih => intro k; rfl
  | r p ih => intro k; exact ih _

section
variable {α : Type}
theorem get_e : ∀ p : Pt, (T.e : T α).get p = none := by intro p; cases p <;> rfl
theorem get_z (l r : T α) (v : Option α) : (T.n l v r).get .z = v := rfl
theorem get_l (l r : T α) (v : Option α) (p : Pt) : (T.n l v r).get (.l p) = l.get p := rfl
theorem get_r (l r : T α) (v : Option α) (p : Pt) : (T.n l v r).get (.r p) = r.get p := rfl
theorem get_set (v : Option α) : ∀ (p : Pt) (t : T α) (q : Pt), (T.set v t p).get q = if q = p then v else t.get q := by
  intro p
  induction p with
  | z =>
    intro t q
    cases t with
    | e => cases q with
      | z => rfl
      | l q => show (T.e : T α).get q = _; rw [get_e, get_e]; simp
      | r q => show (T.e : T α).get q = _; rw [get_e, get_e]; simp
    | n l u r => cases q with
      | z => rfl
      | l q => show l.get q = _; rw [if_neg (by intro h; cases h)]
      | r q => show r.get q = _; rw [if_neg (by intro h; cases h)]
  | l p ih =>
    intro t q
    cases t with
    | e => cases q with
      | z => show none = _; rw [if_neg (by intro h; cases h), get_e]
      | l q => show (T.set v T.e p).get q = _; rw [ih]; simp [get_e]
      | r q => show (T.e : T α).get q = _; rw [if_neg (by intro h; cases h), get_e, get_e]
    | n l u r => cases q with
      | z => rfl
      | l q => show (T.set v l p).get q = _; rw [ih]; simp [get_l]
      | r q => show r.get q = _; rw [if_neg (by intro h; cases h)]
  | r p ih =>
    intro t q
    cases t with
    | e => cases q with
      | z => show none = _; rw [if_neg (by intro h; cases h), get_e]
      | r q => show (T.set v T.e p).get q = _; rw [ih]; simp [get_e]
      | l q => show (T.e : T α).get q = _; rw [if_neg (by intro h; cases h), get_e, get_e]
    | n l u r => cases q with
      | z => rfl
      | r q => show (T.set v r p).get q = _; rw [ih]; simp [get_r]
      | l q => show l.get q = _; rw [if_neg (by intro h; cases h)]
theorem get_put (t : T α) (p : Pt) (v : α) (q : Pt) : (t.put p v).get q = if q = p then some v else t.get q := get_set _ _ _ _
theorem get_del (t : T α) (p q : Pt) : (t.del p).get q = if q = p then none else t.get q := get_set _ _ _ _
theorem get_putL : ∀ (l : List α) (t : T α) (p q : Pt), (T.putL l t p).get q = if p.num ≤ q.num ∧ q.num < p.num + l.length then l[q.num - p.num]? else t.get q := by
  intro l
  induction l with
  | nil => intro t p q; rw [if_neg (by simp only [List.length_nil]; omega)]
  | cons v l ih =>
    intro t p q
    show (T.putL l (t.put p v) p.inc).get q = _
    rw [ih, num_inc, get_put]
    simp only [List.length_cons]
    by_cases h : q = p
    · subst h
      rw [if_neg (by omega), if_pos rfl, if_pos (by omega)]
      simp
    · have hne : q.num ≠ p.num := fun e => h (num_inj _ _ e)
      rw [if_neg h]
      by_cases h2 : p.num + 1 ≤ q.num ∧ q.num < p.num + 1 + l.length
      · rw [if_pos h2, if_pos (by omega)]
        obtain ⟨k, hk⟩ : ∃ k, q.num - p.num = k + 1 := ⟨q.num - p.num - 1, by omega⟩
        rw [hk, List.getElem?_cons_succ]
        congr 1; omega
      · rw [if_neg h2, if_neg (by omega)]
theorem get_ofList (l : List α) (i : Nat) : (T.ofList l).get (.ofNat i) = l[i]? := by
  unfold T.ofList
  rw [get_putL, num_ofNat, num_z]
  by_cases h : i < l.length
  · rw [if_pos (by omega)]; simp
  · rw [if_neg (by omega), get_e, List.getElem?_eq_none (by omega)]
end
end Go.Ex

/- How the memory of the run by hand lies in the model's. Nothing here speaks of one program. -/
set_option linter.unusedVariables false
namespace Go.Ex

/-- What is known of package variables: their cells. -/
abbrev GEnv := List (Nat × List Value)
def gfind (g : Nat) : GEnv → Option (List Value)
  | [] => none
  | (k, vs) :: l => bif Nat.beq k g then some vs else gfind g l
/-- A world in which they hold so. -/
def GOk (G : GEnv) (w : World) : Prop := ∀ g vs, gfind g G = some vs → ∀ (j : Nat) v, vs[j]? = some v → w.cell? ⟨g, j, none⟩ = some v

/-- Where the blocks lie, and of how many cells they are; and the world at the beginning. -/
structure Pl (G : GEnv) where
  f : Pt → Option (Nat × Nat)
  W : World
  ok : GOk G W
instance {G : GEnv} : CoeFun (Pl G) (fun _ => Pt → Option (Nat × Nat)) := ⟨Pl.f⟩
variable {G : GEnv}

inductive VR {G : GEnv} (φ : Pl G) : X → Value → Prop
  | bool (b : Bool) : VR φ (.bool b) (.bool b)
  | int (k : IntKind) (n : Int) : VR φ (.int k n) (.int k n)
  | str (s : ByteArray) : VR φ (.str s.data.toList) (.string s)
  | nilp : VR φ .nilp (.pointer none)
  | nilm : VR φ .nilm (.map none)
  | nilf : VR φ .nilf .nilFunc
  | nili : VR φ .nili .nilIface
  | nils : VR φ .nils (.slice none 0 0)
  | es (a : Addr) (c : Nat) : VR φ .es (.slice (some a) 0 c)
  | ptr (id : Pt) (off b s : Nat) (h : φ id = some (b, s)) : VR φ (.ptr id off) (.pointer (some ⟨b, off, none⟩))
  | sl0 (id : Pt) (off len cap b s : Nat) (h : φ id = some (b, s)) (h1 : len ≤ cap) : VR φ (.sl id off len cap 0) (.slice (some ⟨b, off, none⟩) len cap)
  | sl1 (id : Pt) (off len c z cap b s : Nat) (h : φ id = some (b, s)) (h1 : len ≤ c) (h2 : c ≤ cap) (h3 : off + cap * z = s) (h4 : cap ≤ maxLen) : VR φ (.sl id off len c (z + 1)) (.slice (some ⟨b, off, none⟩) len cap)
  | map (id : Pt) (b s : Nat) (h : φ id = some (b, s)) : VR φ (.map id) (.map (some b))
  | fn (f : FuncId) (cs : List X) (vs : List Value) (hl : cs.length = vs.length)
      (h : ∀ (i : Nat) c v, cs[i]? = some c → vs[i]? = some v → VR φ c v) : VR φ (.fn f cs) (.func (.func f) #[] vs.toArray)
  | fb (f : FuncId) (as : List X) (us : List Value) (cs : List X) (vs : List Value) (hl1 : as.length = us.length) (h1 : ∀ (i : Nat) c v, as[i]? = some c → us[i]? = some v → VR φ c v) (hl2 : cs.length = vs.length)
      (h2 : ∀ (i : Nat) c v, cs[i]? = some c → vs[i]? = some v → VR φ c v) : VR φ (.fb f as cs) (.func (.func f) us.toArray vs.toArray)
  | ifc (t : TypeId) (x : X) (v : Value) (h : VR φ x v) : VR φ (.ifc t x) (.iface t v)
  | agg (cs : List X) (vs : List Value) (hl : cs.length = vs.length) (h1 : ∀ v ∈ vs, v.oneCell' = true)
      (h : ∀ (i : Nat) c v, cs[i]? = some c → vs[i]? = some v → VR φ c v) : VR φ (.agg cs) (.agg vs.toArray)
  | tup (cs : List X) (vs : List Value) (hl : cs.length = vs.length)
      (h : ∀ (i : Nat) c v, cs[i]? = some c → vs[i]? = some v → VR φ c v) : VR φ (.tup cs) (.tuple vs.toArray)
  | rs (full : Bool) (z : Nat) (es : List (List X)) (b off cap : Nat) (vs : Nat → Nat → Value) (hz : ∀ e ∈ es, e.length = z) (hcap : es.length ≤ cap) (hf : full = true → cap = es.length)
      (hc : ∀ (i : Nat) e (j : Nat) c, es[i]? = some e → e[j]? = some c → φ.W.cell? ⟨b, off + (i * z + j), none⟩ = some (vs i j) ∧ (vs i j).oneCell' = true)
      (h : ∀ (i : Nat) e (j : Nat) c, es[i]? = some e → e[j]? = some c → VR φ c (vs i j)) : VR φ (.rs full z es) (.slice (some ⟨b, off, none⟩) es.length cap)
  | rp (cs : List X) (b off : Nat) (vs : Nat → Value) (hc : ∀ (j : Nat) c, cs[j]? = some c → φ.W.cell? ⟨b, off + j, none⟩ = some (vs j) ∧ (vs j).oneCell' = true)
      (h : ∀ (j : Nat) c, cs[j]? = some c → VR φ c (vs j)) : VR φ (.rp cs) (.pointer (some ⟨b, off, none⟩))

def VRL (φ : Pl G) (cs : List X) (vs : List Value) : Prop := cs.length = vs.length ∧ ∀ (i : Nat) c v, cs[i]? = some c → vs[i]? = some v → VR φ c v

def Ex (φ φ' : Pl G) : Prop := φ'.W = φ.W ∧ ∀ id p, φ id = some p → φ' id = some p
theorem Ex.refl (φ : Pl G) : Ex φ φ := ⟨rfl, fun _ _ h => h⟩
theorem Ex.trans {φ φ' φ'' : Pl G} (h : Ex φ φ') (h' : Ex φ' φ'') : Ex φ φ'' := ⟨h'.1.trans h.1, fun id p hp => h'.2 id p (h.2 id p hp)⟩

theorem VR.mono {φ φ' : Pl G} {x v} (h : VR φ x v) (he : Ex φ φ') : VR φ' x v := by
  induction h with
  | bool b => exact .bool b
  | int k n => exact .int k n
  | str s => exact .str s
  | nilp => exact .nilp
  | nilm => exact .nilm
  | nilf => exact .nilf
  | nili => exact .nili
  | nils => exact .nils
  | es a c => exact .es a c
  | ptr id off b s h => exact .ptr id off b s (he.2 _ _ h)
  | sl0 id off len cap b s h h1 => exact .sl0 id off len cap b s (he.2 _ _ h) h1
  | sl1 id off len c z cap b s h h1 h2 h3 h4 => exact .sl1 id off len c z cap b s (he.2 _ _ h) h1 h2 h3 h4
  | map id b s h => exact .map id b s (he.2 _ _ h)
  | fn f cs vs hl _ ih => exact .fn f cs vs hl ih
  | fb f as us cs vs hl1 _ hl2 _ ih1 ih2 => exact .fb f as us cs vs hl1 ih1 hl2 ih2
  | ifc t x v _ ih => exact .ifc t x v ih
  | agg cs vs hl h1 _ ih => exact .agg cs vs hl h1 ih
  | tup cs vs hl _ ih => exact .tup cs vs hl ih
  | rs full z es b off cap vs hz hcap hf hc _ ih => exact .rs full z es b off cap vs hz hcap hf (by rw [he.1]; exact hc) ih
  | rp cs b off vs hc _ ih => exact .rp cs b off vs (by rw [he.1]; exact hc) ih
theorem VRL.mono {φ φ' : Pl G} {cs vs} (h : VRL φ cs vs) (he : Ex φ φ') : VRL φ' cs vs := ⟨h.1, fun i c v hc hv => (h.2 i c v hc hv).mono he⟩
theorem VRL.nil {φ : Pl G} : VRL φ [] [] := ⟨rfl, fun i c v h => by simp at h⟩
theorem VRL.cons {φ : Pl G} {c v cs vs} (h : VR φ c v) (h' : VRL φ cs vs) : VRL φ (c :: cs) (v :: vs) := ⟨by simp [h'.1], fun i c' v' hc hv => by
  cases i with
  | zero => simp at hc hv; subst hc; subst hv; exact h
  | succ i => simp at hc hv; exact h'.2 i c' v' hc hv⟩
theorem VRL.append {φ : Pl G} {cs vs ds ws} (h : VRL φ cs vs) (h' : VRL φ ds ws) : VRL φ (cs ++ ds) (vs ++ ws) := ⟨by simp [h.1, h'.1], fun i c v hc hv => by
  by_cases hi : i < cs.length
  · rw [List.getElem?_append_left hi] at hc
    rw [List.getElem?_append_left (by rw [← h.1]; exact hi)] at hv
    exact h.2 i c v hc hv
  · rw [List.getElem?_append_right (by omega)] at hc
    rw [List.getElem?_append_right (by rw [← h.1]; omega), ← h.1] at hv
    exact h'.2 _ c v hc hv⟩
theorem VRL.drop {φ : Pl G} {cs vs} (h : VRL φ cs vs) (n : Nat) : VRL φ (cs.drop n) (vs.drop n) := ⟨by simp [h.1], fun i c v hc hv => by
  rw [List.getElem?_drop] at hc hv; exact h.2 _ c v hc hv⟩
theorem VRL.take {φ : Pl G} {cs vs} (h : VRL φ cs vs) (n : Nat) : VRL φ (cs.take n) (vs.take n) := ⟨by simp [h.1], fun i c v hc hv => by
  rw [List.getElem?_take] at hc hv
  split at hc
  · rename_i hi; rw [if_pos hi] at hv; exact h.2 i c v hc hv
  · cases hc⟩
/-- .. and each the value of one cell. -/
def CR (φ : Pl G) (cs : List X) (vs : List Value) : Prop := VRL φ cs vs ∧ ∀ v ∈ vs, v.oneCell' = true
theorem CR.mono {φ φ' : Pl G} {cs vs} (h : CR φ cs vs) (he : Ex φ φ') : CR φ' cs vs := ⟨h.1.mono he, h.2⟩
theorem CR.append {φ : Pl G} {cs vs ds ws} (h : CR φ cs vs) (h' : CR φ ds ws) : CR φ (cs ++ ds) (vs ++ ws) := ⟨h.1.append h'.1, fun v hv => by
  rcases List.mem_append.1 hv with h2 | h2
  · exact h.2 v h2
  · exact h'.2 v h2⟩
theorem CR.drop {φ : Pl G} {cs vs} (h : CR φ cs vs) (n : Nat) : CR φ (cs.drop n) (vs.drop n) := ⟨h.1.drop n, fun v hv => h.2 v (List.mem_of_mem_drop hv)⟩
theorem CR.take {φ : Pl G} {cs vs} (h : CR φ cs vs) (n : Nat) : CR φ (cs.take n) (vs.take n) := ⟨h.1.take n, fun v hv => h.2 v (List.mem_of_mem_take hv)⟩
theorem CR.rep {φ : Pl G} {cs vs} (h : CR φ cs vs) : ∀ n, CR φ (List.replicate n cs).flatten (List.replicate n vs).flatten := by
  intro n
  induction n with
  | zero => exact ⟨VRL.nil, fun v hv => by simp at hv⟩
  | succ n ih => simp only [List.replicate_succ, List.flatten_cons]; exact h.append ih

def intVals : List IntKind → List Int → List Value
  | k :: ks, n :: ns => .int k n :: intVals ks ns
  | _, _ => []
def ObjR (φ : Pl G) (w : World) (b s : Nat) : O → Prop
  | .cells cs => ∃ vs ty fz, w.heap[b]? = some (.cells vs ty fz) ∧ (fz.2 = 0 ∨ vs.size ≤ fz.1) ∧ vs.size = s ∧ cs.length ≤ s ∧ CR φ cs (vs.toList.take cs.length)
  | .map es k => ∃ res clock, w.heap[b]? = some (.map res clock) ∧ res.size = es.length ∧
      ∀ (i : Nat) e r, es[i]? = some e → res[i]? = some r → r.key = .int k e.1 ∧ VR φ e.2 r.val
  | .mapA es ks => ∃ res clock, w.heap[b]? = some (.map res clock) ∧ res.size = es.length ∧
      ∀ (i : Nat) e r, es[i]? = some e → res[i]? = some r → r.key = .agg (intVals ks e.1).toArray ∧ e.1.length = ks.length ∧ VR φ e.2 r.val

/-- The block belongs to the memory h. -/
def Live (φ : Pl G) (h : H) (b : Nat) : Prop := ∃ id s, φ id = some (b, s) ∧ (h.get id).isSome = true

/-- Blocks of which T does not say so are as they were. -/
structure Kept (w : World) (T : Nat → Prop) (w' : World) : Prop where
  os : w'.os = w.os
  tape : w'.tape = w.tape
  output : w'.output = w.output
  size : w.heap.size ≤ w'.heap.size
  block : ∀ k, k < w.heap.size → ¬ T k → w'.heap[k]? = w.heap[k]?
theorem Kept.refl (w : World) (T : Nat → Prop) : Kept w T w := ⟨rfl, rfl, rfl, Nat.le_refl _, fun _ _ _ => rfl⟩
theorem Kept.drew {w w' : World} {T : Nat → Prop} (h : Kept w T w') : Kept w T { w' with drawn := w'.drawn + 1 } := ⟨h.os, h.tape, h.output, h.size, h.block⟩

/-- What was there at the beginning is as it was, and no part of h. -/
structure Ro (φ : Pl G) (h : H) (w : World) : Prop where
  size : φ.W.heap.size ≤ w.heap.size
  old : ∀ k, k < φ.W.heap.size → w.heap[k]? = φ.W.heap[k]?
  live : ∀ b, Live φ h b → φ.W.heap.size ≤ b
theorem Ro.of {φ φ' : Pl G} {h h' : H} {w w' : World} (hr : Ro φ h w) (hk : Kept w (Live φ h) w') (hm : ∀ b, Live φ' h' b → w.heap.size ≤ b ∨ Live φ h b) (hW : φ'.W = φ.W) : Ro φ' h' w' where
  size := by rw [hW]; exact Nat.le_trans hr.size hk.size
  old k hlt := by
    rw [hW] at hlt ⊢
    rw [hk.block k (Nat.lt_of_lt_of_le hlt hr.size) fun hl => by have := hr.live k hl; omega]
    exact hr.old k hlt
  live b hb := by
    rw [hW]
    rcases hm b hb with h1 | h1
    · exact Nat.le_trans hr.size h1
    · exact hr.live b h1
theorem Ro.cell {φ : Pl G} {h : H} {w : World} (hr : Ro φ h w) {b off : Nat} {v : Value} (hc : φ.W.cell? ⟨b, off, none⟩ = some v) : w.cell? ⟨b, off, none⟩ = some v := by
  have hb : b < φ.W.heap.size := by
    rcases Nat.lt_or_ge b φ.W.heap.size with h1 | h1
    · exact h1
    · exfalso; simp [World.cell?, Array.getElem?_eq_none h1] at hc
  have e := hr.old b hb
  simp only [World.cell?] at hc ⊢
  rw [e]; exact hc

/-- The memory h, whose blocks are numbered below n, lies in w. -/
structure Hp (h : H) (n : Pt) (w : World) (φ : Pl G) : Prop where
  lt : ∀ id b s, φ id = some (b, s) → b < w.heap.size
  fresh : ∀ id p, φ id = some p → id.num < n.num
  dom : ∀ id o, h.get id = some o → id.num < n.num
  inj : ∀ id id' b s s', φ id = some (b, s) → φ id' = some (b, s') → (h.get id).isSome = true → (h.get id').isSome = true → id = id'
  obj : ∀ id b s o, φ id = some (b, s) → h.get id = some o → ObjR φ w b s o
  ro : Ro φ h w

/-- From one state of the memory to another: what is new is numbered from n on; what was there and is no part of h is as it was. -/
structure Step (φ : Pl G) (h : H) (n : Pt) (w : World) (φ' : Pl G) (h' : H) (n' : Pt) (w' : World) : Prop where
  ex : Ex φ φ'
  new : ∀ id p, φ' id = some p → φ id = some p ∨ n.num ≤ id.num
  le : n.num ≤ n'.num
  hp : Hp h' n' w' φ'
  kept : Kept w (Live φ h) w'
  mine : ∀ b, Live φ' h' b → w.heap.size ≤ b ∨ Live φ h b
  grow : ∀ id o, h'.get id = some o → (h.get id).isSome = true ∨ n.num ≤ id.num

theorem Step.refl {φ : Pl G} {h n w} (hp : Hp h n w φ) : Step φ h n w φ h n w := ⟨Ex.refl _, fun _ _ h => .inl h, Nat.le_refl _, hp, Kept.refl _ _, fun _ h => .inr h, fun id o h => .inl (by rw [h]; rfl)⟩
theorem Step.trans {φ φ' φ'' : Pl G} {h n w h' n' w' h'' n'' w''} (s : Step φ h n w φ' h' n' w') (t : Step φ' h' n' w' φ'' h'' n'' w'') : Step φ h n w φ'' h'' n'' w'' where
  ex := s.ex.trans t.ex
  new id p hp := by
    rcases t.new id p hp with h1 | h1
    · exact s.new id p h1
    · exact .inr (Nat.le_trans s.le h1)
  le := Nat.le_trans s.le t.le
  hp := t.hp
  kept := ⟨t.kept.os.trans s.kept.os, t.kept.tape.trans s.kept.tape, t.kept.output.trans s.kept.output, Nat.le_trans s.kept.size t.kept.size, fun k hk hl => by
    rw [t.kept.block k (Nat.lt_of_lt_of_le hk s.kept.size) fun hl' => ?_, s.kept.block k hk hl]
    rcases s.mine k hl' with h1 | h1
    · omega
    · exact hl h1⟩
  mine b hb := by
    rcases t.mine b hb with h1 | h1
    · exact .inl (Nat.le_trans s.kept.size h1)
    · exact s.mine b h1
  grow id o ho := by
    rcases t.grow id o ho with h1 | h1
    · obtain ⟨o', h2⟩ := Option.isSome_iff_exists.1 h1
      exact s.grow id o' h2
    · exact .inr (Nat.le_trans s.le h1)
theorem Hp.drew {h n w} {φ : Pl G} (hp : Hp h n w φ) : Hp h n { w with drawn := w.drawn + 1 } φ := ⟨hp.lt, hp.fresh, hp.dom, hp.inj, fun id b s o h1 h2 => by
  have := hp.obj id b s o h1 h2
  cases o with
  | cells cs => exact this
  | map es k => exact this
  | mapA es k => exact this, ⟨hp.ro.size, hp.ro.old, hp.ro.live⟩⟩
theorem Step.drew {φ : Pl G} {h n w} (hp : Hp h n w φ) : Step φ h n w φ h n { w with drawn := w.drawn + 1 } := { Step.refl hp with hp := hp.drew, kept := (Kept.refl _ _).drew }

/-- What is told of an object holds whatever becomes of other blocks. -/
theorem ObjR.mono {φ φ' : Pl G} {w w' : World} {b s : Nat} {o : O} (h : ObjR φ w b s o) (he : Ex φ φ') (hb : w'.heap[b]? = w.heap[b]?) : ObjR φ' w' b s o := by
  cases o with
  | cells cs => obtain ⟨vs, ty, fz, h1, h0, h2, h3, h4⟩ := h; exact ⟨vs, ty, fz, by rw [hb]; exact h1, h0, h2, h3, h4.mono he⟩
  | mapA es k => obtain ⟨res, clock, h1, h2, h3⟩ := h; exact ⟨res, clock, by rw [hb]; exact h1, h2, fun i e r h4 h5 => ⟨(h3 i e r h4 h5).1, (h3 i e r h4 h5).2.1, (h3 i e r h4 h5).2.2.mono he⟩⟩
  | map es k => obtain ⟨res, clock, h1, h2, h3⟩ := h; exact ⟨res, clock, by rw [hb]; exact h1, h2, fun i e r h4 h5 => ⟨(h3 i e r h4 h5).1, (h3 i e r h4 h5).2.mono he⟩⟩

theorem heap_new (w : World) (o : Obj) : (w.alloc o).heap[w.heap.size]? = some o := heap_alloc_new w o
theorem heap_old (w : World) (o : Obj) {b : Nat} (h : b < w.heap.size) : (w.alloc o).heap[b]? = w.heap[b]? := heap_alloc_old w o b h

def addPl (φ : Pl G) (n : Pt) (p : Nat × Nat) : Pl G := ⟨fun id => if id = n then some p else φ id, φ.W, φ.ok⟩
theorem addPl_eq (φ : Pl G) (n : Pt) (p : Nat × Nat) (id : Pt) : addPl φ n p id = if id = n then some p else φ id := rfl
theorem addPl_ex {φ : Pl G} {n : Pt} {p} (hn : φ n = none) : Ex φ (addPl φ n p) := ⟨rfl, fun id q h => by
  rw [addPl_eq, if_neg (fun e => by subst e; rw [hn] at h; cases h)]; exact h⟩
theorem Hp.none {h n w} {φ : Pl G} (hp : Hp h n w φ) {m : Pt} (hm : n.num ≤ m.num) : φ m = none := by
  cases h1 : φ m with
  | none => rfl
  | some p => have := hp.fresh m p h1; omega

/-- A block is made. -/
theorem Step.alloc {φ : Pl G} {h n w} (hp : Hp h n w φ) {m : Pt} (hm : n.num ≤ m.num) {k : Pt} (hk : m.num < k.num) {o : O} {obj : Obj} {s : Nat}
    (ho : ∀ φ', Ex φ φ' → ObjR φ' (w.alloc obj) w.heap.size s o) : Step φ h n w (addPl φ m (w.heap.size, s)) (h.put m o) k (w.alloc obj) := by
  have hn := hp.none hm
  have hex : Ex φ (addPl φ m (w.heap.size, s)) := addPl_ex hn
  have hcase : ∀ id p, addPl φ m (w.heap.size, s) id = some p → (id = m ∧ p = (w.heap.size, s)) ∨ (id ≠ m ∧ φ id = some p) := fun id p h1 => by
    rw [addPl_eq] at h1
    split at h1
    · rename_i h2; exact .inl ⟨h2, by cases h1; rfl⟩
    · rename_i h2; exact .inr ⟨h2, h1⟩
  have hlive : ∀ id, id ≠ m → (h.put m o).get id = h.get id := fun id h1 => by rw [get_put, if_neg h1]
  have hkept : Kept w (Live φ h) (w.alloc obj) := ⟨rfl, rfl, rfl, by simp, fun k hk _ => heap_old w obj hk⟩
  have hmine : ∀ b, Live (addPl φ m (w.heap.size, s)) (h.put m o) b → w.heap.size ≤ b ∨ Live φ h b := fun b ⟨id, s', h1, h2⟩ => by
    rcases hcase id _ h1 with ⟨_, g2⟩ | ⟨g1, g2⟩
    · cases g2; exact .inl (Nat.le_refl _)
    · rw [hlive id g1] at h2; exact .inr ⟨id, s', g2, h2⟩
  refine ⟨hex, fun id p h1 => ?_, by omega, ⟨fun id b s' h1 => ?_, fun id p h1 => ?_, fun id o' h1 => ?_, fun id id' b s1 s2 h1 h2 h3 h4 => ?_, fun id b s' o' h1 h2 => ?_, Ro.of hp.ro hkept hmine rfl⟩, hkept, hmine, fun id o' h1 => ?_⟩
  · rcases hcase id p h1 with ⟨h2, _⟩ | ⟨_, h2⟩
    · subst h2; exact .inr hm
    · exact .inl h2
  · rcases hcase id _ h1 with ⟨_, h2⟩ | ⟨_, h2⟩
    · cases h2; simp
    · have := hp.lt id b s' h2; simp; omega
  · rcases hcase id p h1 with ⟨h2, _⟩ | ⟨_, h2⟩
    · subst h2; exact hk
    · have := hp.fresh id p h2; omega
  · by_cases h2 : id = m
    · subst h2; exact hk
    · rw [hlive id h2] at h1
      have := hp.dom id o' h1; omega
  · rcases hcase id _ h1 with ⟨g1, g2⟩ | ⟨g1, g2⟩
    · rcases hcase id' _ h2 with ⟨g3, g4⟩ | ⟨g3, g4⟩
      · rw [g1, g3]
      · cases g2; have := hp.lt id' _ _ g4; omega
    · rcases hcase id' _ h2 with ⟨g3, g4⟩ | ⟨g3, g4⟩
      · cases g4; have := hp.lt id _ _ g2; omega
      · rw [hlive id g1] at h3; rw [hlive id' g3] at h4
        exact hp.inj id id' b s1 s2 g2 g4 h3 h4
  · rcases hcase id _ h1 with ⟨g1, g2⟩ | ⟨g1, g2⟩
    · subst g1; cases g2
      rw [get_put, if_pos rfl] at h2
      cases h2
      exact ho _ hex
    · rw [hlive id g1] at h2
      exact (hp.obj id b s' o' g2 h2).mono hex (heap_old w obj (hp.lt id b s' g2))
  · by_cases h2 : id = m
    · subst h2; exact .inr hm
    · rw [hlive id h2] at h1; exact .inl (by rw [h1]; rfl)

/-- A block holds something else. -/
theorem Step.change {φ : Pl G} {h n w} (hp : Hp h n w φ) {id : Pt} {b s : Nat} (hb : φ id = some (b, s)) (hl : (h.get id).isSome = true) {o : O} {w' : World}
    (hos : w'.os = w.os) (htape : w'.tape = w.tape) (hout : w'.output = w.output) (hsize : w'.heap.size = w.heap.size) (hother : ∀ k, k ≠ b → w'.heap[k]? = w.heap[k]?)
    (ho : ObjR φ w' b s o) : Step φ h n w φ (h.put id o) n w' := by
  have hal : ∀ id', ((h.put id o).get id').isSome = true → (h.get id').isSome = true := fun id' h1 => by
    rw [get_put] at h1
    split at h1
    · rename_i h2; subst h2; exact hl
    · exact h1
  have hkept : Kept w (Live φ h) w' := ⟨hos, htape, hout, by omega, fun k hk hlive => hother k fun e => hlive ⟨id, s, by rw [e]; exact hb, hl⟩⟩
  have hmine : ∀ b, Live φ (h.put id o) b → w.heap.size ≤ b ∨ Live φ h b := fun b ⟨id', s', h1, h2⟩ => .inr ⟨id', s', h1, hal _ h2⟩
  refine ⟨Ex.refl _, fun _ _ h => .inl h, Nat.le_refl _, ⟨fun id b s h1 => by rw [hsize]; exact hp.lt id b s h1, hp.fresh, fun id' o' h1 => (by obtain ⟨o2, h2⟩ := Option.isSome_iff_exists.1 (hal id' (by rw [h1]; rfl)); exact hp.dom id' o2 h2), fun id id' b s s' h1 h2 h3 h4 => hp.inj id id' b s s' h1 h2 (hal _ h3) (hal _ h4), fun id' b' s' o' h1 h2 => ?_, Ro.of hp.ro hkept hmine rfl⟩,
    hkept, hmine, fun id' o' h1 => .inl (hal id' (by rw [h1]; rfl))⟩
  rw [get_put] at h2
  split at h2
  · rename_i h3
    subst h3
    cases h2
    have : (b', s') = (b, s) := Option.some.inj (h1.symm.trans hb)
    cases this
    exact ho
  · rename_i h3
    have hne : b' ≠ b := fun e => h3 (by subst e; exact hp.inj id' id b' s' s h1 hb (by rw [h2]; rfl) hl)
    exact (hp.obj id' b' s' o' h1 h2).mono (Ex.refl _) (hother b' hne)
end Go.Ex

/- What the run by hand is made from: types, operands, operations, code. Nothing here speaks of one program. -/
set_option linter.unusedVariables false
namespace Go.Ex
variable {G : GEnv}

/-- What is known of a program's types: those whose values are compared, and what stands behind methods that are called through interfaces. -/
structure Env where
  eq : List (TypeId × List IntKind)
  ms : List (TypeId × String × FuncId)
  mx : List (TypeId × List (Option IntKind)) := []
  gs : GEnv := []
  px : List (TypeId × List CK) := []

inductive TK where
  | bool | ptr | func | int (k : IntKind) | slice (e : TypeId) | array (len : Nat) (e : TypeId) | map (k e : TypeId) | struct (fs : List (Nat × TypeId)) | str | other
structure TI where
  size : Nat
  bytes : Nat
  agg : Bool
  kind : TK
  zero : Option (List X)
  zv : Option X
abbrev Tab := T TI

def ofV1 : Value → Option X
  | .bool b => some (.bool b)
  | .int k n => some (.int k n)
  | .string s => some (.str s.data.toList)
  | .pointer none => some .nilp
  | .slice none 0 0 => some .nils
  | .map none => some .nilm
  | .nilFunc => some .nilf
  | .nilIface => some .nili
  | _ => none
def ofVL : List Value → Option (List X)
  | [] => some []
  | v :: vs => match ofV1 v, ofVL vs with
    | some x, some xs => some (x :: xs)
    | _, _ => none
def ofV : Value → Option X
  | .agg cs => match ofVL cs.toList with
    | some l => some (.agg l)
    | none => none
  | .tuple ⟨[]⟩ => some (.tup [])
  | v => ofV1 v

theorem ofV1_ok {v : Value} {x : X} (h : ofV1 v = some x) (φ : Pl G) : VR φ x v ∧ v.oneCell' = true := by
  unfold ofV1 at h
  split at h <;> first | (cases h; refine ⟨?_, rfl⟩; constructor) | cases h
theorem ofVL_ok {φ : Pl G} : ∀ {vs : List Value} {xs : List X}, ofVL vs = some xs → CR φ xs vs := by
  intro vs
  induction vs with
  | nil => intro xs h; simp [ofVL] at h; subst h; exact ⟨VRL.nil, fun v hv => by cases hv⟩
  | cons v vs ih =>
    intro xs h
    unfold ofVL at h
    split at h
    · rename_i x xs' h1 h2
      cases h
      obtain ⟨g1, g2⟩ := ofV1_ok h1 φ
      obtain ⟨g3, g4⟩ := ih h2
      refine ⟨g3.cons g1, fun u hu => ?_⟩
      rcases List.mem_cons.1 hu with h5 | h5
      · subst h5; exact g2
      · exact g4 u h5
    · cases h
theorem ofV_ok {v : Value} {x : X} (h : ofV v = some x) (φ : Pl G) : VR φ x v := by
  unfold ofV at h
  split at h
  · rename_i cs
    split at h
    · rename_i l h1
      cases h
      obtain ⟨g1, g2⟩ := ofVL_ok (φ := φ) h1
      have := VR.agg (φ := φ) l cs.toList g1.1 g2 g1.2
      simpa using this
    · cases h
  · cases h; exact .tup [] [] rfl (fun i c v h => by simp at h)
  · exact (ofV1_ok h φ).1

def kindOf : TypeDesc → TK
  | .bool => .bool
  | .pointer _ => .ptr
  | .func _ _ _ => .func
  | .int k => .int k
  | .slice e => .slice e
  | .array n e => .array n e
  | .map k e => .map k e
  | .struct fs => .struct (fs.toList.map fun f => (f.offset, f.type))
  | .string => .str
  | _ => .other
def aggOf : TypeDesc → Bool
  | .struct _ => true
  | .array _ _ => true
  | _ => false
def zeroX : Option Value → Option (List X)
  | none => none
  | some v => ofVL v.cells.toList
def zvX : Option Value → Option X
  | none => none
  | some v => ofV v
def tiOf (i : TypeInfo) (u : TypeDesc) : TI := ⟨i.size, i.bytes, aggOf u, kindOf u, zeroX i.zero, zvX i.zero⟩

noncomputable def mkTabGo (P : Program) : List TypeInfo → Nat → Tab → Tab
  | [], _, t => t
  | i :: is, k, t => mkTabGo P is (k + 1) (match P.underlying k with | some u => t.put (.ofNat k) (tiOf i u) | none => t)
noncomputable def mkTab (P : Program) : Tab := mkTabGo P P.types.toList 0 .e

def TabOk (P : Program) (tab : Tab) : Prop := ∀ t ti, tab.get (.ofNat t) = some ti → ∃ i u, P.info? t = some i ∧ P.underlying t = some u ∧ ti = tiOf i u

theorem mkTabGo_ok (P : Program) : ∀ (l : List TypeInfo) (k : Nat) (t : Tab), (∀ j i, l[j]? = some i → P.types[k + j]? = some i) → TabOk P t → TabOk P (mkTabGo P l k t) := by
  intro l
  induction l with
  | nil => intro k t _ h; exact h
  | cons i l ih =>
    intro k t hl h
    unfold mkTabGo
    refine ih (k + 1) _ (fun j i' h1 => by rw [Nat.add_assoc, Nat.add_comm 1 j]; exact hl (j + 1) i' (by simpa using h1)) ?_
    have h0 := hl 0 i rfl
    cases hu : P.underlying k with
    | none => exact h
    | some u =>
      intro t' ti ht
      simp only at ht
      rw [get_put] at ht
      split at ht
      · rename_i he
        have := ofNat_inj he
        subst this
        cases ht
        have h0' : P.types[t']? = some i := by simpa using h0
        have hlt : t' < P.types.size := (Array.getElem?_eq_some_iff.1 h0').1
        exact ⟨i, u, by unfold Tables.info?; rw [if_pos hlt]; exact h0', hu, rfl⟩
      · exact h t' ti ht
theorem mkTab_ok (P : Program) : TabOk P (mkTab P) := mkTabGo_ok P _ 0 _ (fun j i h => by simpa using h) fun t ti h => by rw [get_e] at h; cases h

section
variable (tab : Tab) (eqs : Env)
noncomputable def ty (t : TypeId) : Option TI := tab.get (.ofNat t)
def cD (G : GEnv) : Operand → Option D
  | .tmp i => some (.t (.ofNat i))
  | .const v => match ofV v with | some x => some (.c x) | none => none
  | .global g => match gfind g G with
    | some vs => match ofVL vs with
      | some xs => some (.c (.rp xs))
      | none => none
    | none => none
  | .func f => some (.c (.fn f []))
def cDL (G : GEnv) : List Operand → Option (List D)
  | [] => some []
  | o :: os => match cD G o, cDL G os with
    | some x, some xs => some (x :: xs)
    | _, _ => none
def cDO (G : GEnv) : Option Operand → Option (Option D)
  | none => some none
  | some o => match cD G o with | some d => some (some d) | none => none
noncomputable def cPs (G : GEnv) (place : Nat → Option (Nat × Nat)) : List (Nat × Operand) → Option (List (Nat × Nat × D))
  | [] => some []
  | (i, o) :: os => match place i, cD G o, cPs G place os with
    | some (off, size), some d, some l => some ((off, size, d) :: l)
    | _, _, _ => none

inductive CI where
  | p (i : IP) | r (i : IR) | a (i : IA) | w (i : IW)

/-- The beginning and the size of a struct's field. -/
noncomputable def place (fs : List (Nat × TypeId)) (i : Nat) : Option (Nat × Nat) := match fs[i]? with
  | some (off, ft) => match ty tab ft with
    | some fi => some (off, fi.size)
    | none => none
  | none => none
/-- Every field's type is known. -/
noncomputable def allTy : List (Nat × TypeId) → Bool
  | [] => true
  | f :: fs => (match ty tab f.2 with | some _ => true | none => false) && allTy fs
noncomputable def cBuild (e : TypeId) (ps : List (Nat × Operand)) : Option CI := match ty tab e with
  | some ⟨_, _, _, .struct fs, some zs, _⟩ => match cPs eqs.gs (place tab fs) ps with
    | some l => bif allTy tab fs then some (.p (.build zs l)) else none
    | none => none
  | some ⟨_, _, _, .array _ el, some zs, _⟩ => match ty tab el with
    | some ei => match cPs eqs.gs (fun i => some (i * ei.size, ei.size)) ps with
      | some l => some (.p (.build zs l))
      | none => none
    | none => none
  | _ => none
noncomputable def cBuildS (e : TypeId) (len : Nat) (ps : List (Nat × Operand)) : Option CI := match ty tab e with
  | some ⟨_, _, _, .slice el, _, _⟩ => match ty tab el with
    | some ⟨size, _, _, _, some zs, _⟩ => match cPs eqs.gs (fun i => some (i * size, size)) ps with
      | some l => bif Nat.ble (len * size) 1000000 && (Nat.beq zs.length size && Nat.blt 0 size) then some (.a (.buildS zs len l)) else none
      | none => none
    | _ => none
  | _ => none
noncomputable def cBuiltin (b : Builtin) (tys : List TypeId) (args : List Operand) : Option CI := match b, tys, args with
  | .len, [t], [x] => match ty tab t, cD eqs.gs x with
    | some ⟨_, _, _, .slice _, _, _⟩, some x => some (.p (.len x))
    | _, _ => none
  | .append, [t, u], [s, x] => match ty tab t, cD eqs.gs s, cD eqs.gs x with
    | some ⟨_, _, _, .slice el, _, _⟩, some s, some x => match ty tab el with
      | some ⟨size, bytes, _, _, some zs, _⟩ => bif Nat.beq t u && (Nat.beq zs.length size && Nat.blt 0 size) then some (.w (.app size bytes s x)) else none
      | _ => none
    | _, _, _ => none
  | .copy, [t, u], [s, x] => match ty tab t, cD eqs.gs s, cD eqs.gs x with
    | some ⟨_, _, _, .slice el, _, _⟩, some s, some x => match ty tab el with
      | some ei => some (.w (.copy ei.size s x))
      | none => none
    | _, _, _ => none
  | .max, [_, _], [x, y] => match cD eqs.gs x, cD eqs.gs y with
    | some x, some y => some (.p (.max x y))
    | _, _ => none
  | .min, [_, _], [x, y] => match cD eqs.gs x, cD eqs.gs y with
    | some x, some y => some (.p (.min x y))
    | _, _ => none
  | _, _, _ => none
noncomputable def cSlice (e : TypeId) (x : Operand) (lo hi mx : Option Operand) : Option CI := match ty tab e, cD eqs.gs x, cDO eqs.gs lo, cDO eqs.gs hi, cDO eqs.gs mx with
  | some ⟨_, _, _, .slice el, _, _⟩, some x, some lo, some hi, some mx => match ty tab el with
    | some ei => some (.p (.slS ei.size x lo hi mx))
    | none => none
  | _, _, _, _, _ => none
noncomputable def cOp0 : Op → Option CI
  | .move x => match cD eqs.gs x with | some x => some (.p (.mov x)) | none => none
  | .assign x => match cD eqs.gs x with | some x => some (.p (.mov x)) | none => none
  | .pick c a b => match cD eqs.gs c, cD eqs.gs a, cD eqs.gs b with
    | some c, some a, some b => some (.p (.pick c a b))
    | _, _, _ => none
  | .alloc e => match ty tab e with
    | some ⟨_, _, _, _, some zs, _⟩ => some (.a (.new zs))
    | _ => none
  | .box e x => match cD eqs.gs x with | some x => some (.a (.box x)) | none => none
  | .build e ps => cBuild tab eqs e ps.toList
  | .buildSlice e len ps => cBuildS tab eqs e len ps.toList
  | .load e a => match ty tab e, cD eqs.gs a with
    | some ti, some a => some (.r (bif ti.agg then .loadA ti.size a else .load1 a))
    | _, _ => none
  | .store e a x => match ty tab e, cD eqs.gs a, cD eqs.gs x with
    | some ti, some a, some x => some (.w (.store ti.size a x))
    | _, _, _ => none
  | .nilCheck x => match cD eqs.gs x with | some x => some (.p (.nilc x)) | none => none
  | .binOp op t x y _ => match ty tab t, cD eqs.gs x, cD eqs.gs y with
    | some ⟨_, _, _, .int _, _, _⟩, some x, some y => some (.p (.bin op x y))
    | some ⟨_, _, _, .bool, _, _⟩, some x, some y => some (.p (.binb op x y))
    | some ⟨_, _, _, .slice _, _, _⟩, some x, some (.c .nils) => match op with
      | .eql => some (.p (.isnilS false x))
      | .neq => some (.p (.isnilS true x))
      | _ => none
    | some ⟨_, _, _, .ptr, _, _⟩, some x, some (.c .nilp) => match op with
      | .eql => some (.p (.isnilP false x))
      | .neq => some (.p (.isnilP true x))
      | _ => none
    | some ⟨_, _, _, .func, _, _⟩, some x, some (.c .nilf) => match op with
      | .eql => some (.p (.isnilF false x))
      | .neq => some (.p (.isnilF true x))
      | _ => none
    | some _, some x, some y => match eqs.eq.find? (fun q => Nat.beq q.1 t) with
      | some (_, ks) => match op with
        | .eql => some (.p (.eqa false ks x y))
        | .neq => some (.p (.eqa true ks x y))
        | _ => none
      | none => none
    | _, _, _ => none
  | .unOp .not _ x => match cD eqs.gs x with | some x => some (.p (.not x)) | none => none
  | .unOp .neg _ x => match cD eqs.gs x with | some x => some (.p (.neg x)) | none => none
  | .convert s dst x => match ty tab s, ty tab dst, cD eqs.gs x with
    | some ⟨_, _, _, .int _, _, _⟩, some ⟨_, _, _, .int k, _, _⟩, some x => some (.p (.conv k x))
    | _, _, _ => none
  | .makeFunc (.func f) ⟨[]⟩ b => match cDL eqs.gs b.toList with
    | some b => some (.p (.mkF f b))
    | none => none
  | .makeMap t none => match ty tab t with
    | some ⟨_, _, _, .map k _, _, _⟩ => match ty tab k with
      | some ⟨_, _, _, .int k, _, _⟩ => some (.a (.mkM k))
      | some _ => match eqs.eq.find? (fun q => Nat.beq q.1 k) with
        | some (_, ks) => some (.a (.mkMA ks))
        | none => none
      | none => none
    | _ => none
  | .makeSlice e l c => match ty tab e, cD eqs.gs l, cD eqs.gs c with
    | some ⟨_, _, _, .slice el, _, _⟩, some l, some c => match ty tab el with
      | some ⟨size, bytes, _, _, some zs, _⟩ => bif Nat.beq zs.length size && Nat.blt 0 size then some (.a (.mkS zs bytes l c)) else none
      | _ => none
    | _, _, _ => none
  | .slice e x lo hi mx => cSlice tab eqs e x lo hi mx
  | .fieldAddr e x f => match ty tab e, cD eqs.gs x with
    | some ⟨_, _, _, .struct fs, _, _⟩, some x => match place tab fs f with
      | some (o, size) => bif Nat.blt 0 size then some (.p (.faddr o x)) else none
      | none => none
    | _, _ => none
  | .field e x f => match ty tab e, cD eqs.gs x with
    | some ⟨_, _, _, .struct fs, _, _⟩, some x => match fs[f]? with
      | some (o, ft) => match ty tab ft with
        | some fi => some (.p (.fld fi.agg o fi.size x))
        | none => none
      | none => none
    | _, _ => none
  | .indexAddr e x i => match ty tab e, cD eqs.gs x, cD eqs.gs i with
    | some ⟨_, _, _, .array n el, _, _⟩, some x, some i => match ty tab el with
      | some ei => some (.p (.iaddrA n ei.size x i))
      | none => none
    | some ⟨_, _, _, .slice el, _, _⟩, some x, some i => match ty tab el with
      | some ei => some (.p (.iaddrS ei.size x i))
      | none => none
    | _, _, _ => none
  | .lookup e m k ok => match ty tab e, cD eqs.gs m, cD eqs.gs k with
    | some ⟨_, _, _, .map kt el, _, _⟩, some m, some k => match ty tab kt, ty tab el with
      | some ⟨_, _, _, .int _, _, _⟩, some ⟨_, _, _, _, _, some z⟩ => some (.r (.look z ok m k))
      | _, _ => none
    | _, _, _ => none
  | .mapUpdate e m k v => match ty tab e, cD eqs.gs m, cD eqs.gs k, cD eqs.gs v with
    | some ⟨_, _, _, .map kt _, _, _⟩, some m, some k, some v => match ty tab kt with
      | some ⟨_, _, _, .int _, _, _⟩ => some (.w (.upd m k v))
      | _ => none
    | _, _, _, _ => none
  | .extract x i => match cD eqs.gs x with | some x => some (.p (.ext x i)) | none => none
  | .call ⟨.value (.func f), args, _⟩ => match cDL eqs.gs args.toList with
    | some args => some (.w (.call f args))
    | none => none
  | .call ⟨.value f, args, _⟩ => match cD eqs.gs f, cDL eqs.gs args.toList with
    | some f, some args => some (.w (.callv f args))
    | _, _ => none
  | .call ⟨.builtin b, args, tys⟩ => cBuiltin tab eqs b tys.toList args.toList
  | _ => none

noncomputable def cNewB (b : Builtin) (tys : List TypeId) (args : List Operand) : Option CI := match b, tys, args with
  | .len, [t], [x] => match ty tab t, cD eqs.gs x with
    | some ⟨_, _, _, .str, _, _⟩, some x => some (.p (.slen x))
    | _, _ => none
  | .cap, [t], [x] => match ty tab t, cD eqs.gs x with
    | some ⟨_, _, _, .slice _, _, _⟩, some x => some (.p (.capn x))
    | _, _ => none
  | .clear, [t], [x] => match ty tab t, cD eqs.gs x with
    | some ⟨_, _, _, .slice el, _, _⟩, some x => match ty tab el with
      | some ⟨size, _, _, _, some zs, _⟩ => bif Nat.beq zs.length size && Nat.blt 0 size then some (.w (.clr zs size x)) else none
      | _ => none
    | _, _ => none
  | .append, [t, u], [s, x] => match ty tab t, ty tab u, cD eqs.gs s, cD eqs.gs x with
    | some ⟨_, _, _, .slice el, _, _⟩, some ⟨_, _, _, .int _, _, _⟩, some s, some x => match ty tab el with
      | some ⟨size, bytes, _, _, some zs, _⟩ => bif Nat.beq zs.length size && Nat.blt 0 size then some (.w (.appz zs size bytes s x)) else none
      | _ => none
    | _, _, _, _ => none
  | _, _, _ => none
def msOf (name : String) : List (TypeId × String × FuncId) → List (TypeId × FuncId)
  | [] => []
  | (t, m, f) :: l => if m = name then (t, f) :: msOf name l else msOf name l
noncomputable def cNew : Op → Option CI
  | .binOp op t x y _ => match cD eqs.gs x, cD eqs.gs y with
    | some x, some y => match eqs.mx.find? (fun q => Nat.beq q.1 t) with
      | some (_, ks) => match op with
        | .eql => some (.p (.eqx false ks x y))
        | .neq => some (.p (.eqx true ks x y))
        | _ => none
      | none => match eqs.px.find? (fun q => Nat.beq q.1 t) with
        | some (_, ks) => match op with
          | .eql => some (.p (.eqp false ks x y))
          | .neq => some (.p (.eqp true ks x y))
          | _ => none
        | none => some (.p (.sbin op x y))
    | _, _ => none
  | .index e x i => match ty tab e, cD eqs.gs x, cD eqs.gs i with
    | some ⟨_, _, _, .str, _, _⟩, some x, some i => some (.p (.sidx x i))
    | some ⟨_, _, _, .array m el, _, _⟩, some x, some i => match ty tab el with
      | some ei => some (.p (.idxA ei.agg m ei.size x i))
      | none => none
    | _, _, _ => none
  | .slice e x lo hi none => match ty tab e, cD eqs.gs x, cDO eqs.gs lo, cDO eqs.gs hi with
    | some ⟨_, _, _, .str, _, _⟩, some x, some lo, some hi => some (.p (.sslc x lo hi))
    | some ⟨_, _, _, .array n el, _, _⟩, some x, some lo, some hi => match ty tab el with
      | some ei => some (.p (.slA n ei.size x lo hi))
      | none => none
    | _, _, _, _ => none
  | .convert s dst x => match ty tab s, ty tab dst, cD eqs.gs x with
    | some ⟨_, _, _, .slice e, _, _⟩, some ⟨_, _, _, .str, _, _⟩, some x => match ty tab e with
      | some ⟨_, _, _, .int .u8, _, _⟩ => some (.r (.b2s x))
      | _ => none
    | some ⟨_, _, _, .str, _, _⟩, some ⟨_, _, _, .slice e, _, _⟩, some x => match ty tab e with
      | some ⟨_, _, _, .int .u8, _, _⟩ => some (.w (.s2b x))
      | _ => none
    | _, _, _ => none
  | .lookup e m k ok => match ty tab e, cD eqs.gs m, cD eqs.gs k with
    | some ⟨_, _, _, .map kt el, _, _⟩, some m, some k => match eqs.eq.find? (fun q => Nat.beq q.1 kt), ty tab el with
      | some (_, ks), some ⟨_, _, _, _, _, some z⟩ => some (.r (.lookA z ok ks m k))
      | _, _ => none
    | _, _, _ => none
  | .mapUpdate e m k v => match ty tab e, cD eqs.gs m, cD eqs.gs k, cD eqs.gs v with
    | some ⟨_, _, _, .map kt _, _, _⟩, some m, some k, some v => match eqs.eq.find? (fun q => Nat.beq q.1 kt) with
      | some (_, ks) => some (.w (.updA ks m k v))
      | none => none
    | _, _, _, _ => none
  | .makeFunc (.func f) a b => match cDL eqs.gs a.toList, cDL eqs.gs b.toList with
    | some a, some b => some (.p (.mkFb f a b))
    | _, _ => none
  | .makeInterface t x => match ty tab t, cD eqs.gs x with
    | some ⟨_, _, _, .struct _, _, _⟩, some x => some (.p (.mkI t x))
    | _, _ => none
  | .call ⟨.invoke x name, args, _⟩ => match cD eqs.gs x, cDL eqs.gs args.toList with
    | some x, some args => some (.w (.calli (msOf name eqs.ms) x args))
    | _, _ => none
  | .call ⟨.builtin b, args, tys⟩ => cNewB tab eqs b tys.toList args.toList
  | _ => none
noncomputable def cOp (o : Op) : Option CI := match cOp0 tab eqs o with
  | some i => some i
  | none => cNew tab eqs o

def okD (nt : Nat) (d : Option Tmp) : Bool := match d with | some d => Nat.blt d nt | none => true
noncomputable def cJ0 (nt : Nat) (o : Oper) : Option J := match cOp tab eqs o.op with
  | some (.p i) => match o.dst with
    | some d => bif Nat.blt d nt then some (.p (.ofNat d) i) else none
    | none => none
  | some (.r i) => match o.dst with
    | some d => bif Nat.blt d nt then some (.r (.ofNat d) i) else none
    | none => none
  | some (.a i) => match o.dst with
    | some d => bif Nat.blt d nt then some (.a (.ofNat d) i) else none
    | none => none
  | some (.w i) => match o.dst with
    | some d => bif Nat.blt d nt then some (.w (some (.ofNat d)) i) else none
    | none => some (.w none i)
  | none => none
noncomputable def cJ1 (nt : Nat) (ops : Array Oper) (o : Oper) : Option J := match o.guard with
  | none => cJ0 tab eqs nt o
  | some (j, want) => match (ops[j]?).bind (·.dst), cJ0 tab eqs nt o with
    | some g, some i => match o.dst with
      | some d => bif Nat.blt g nt && Nat.blt d nt then some (.g (.ofNat g) want (some (.ofNat d)) i) else none
      | none => bif Nat.blt g nt then some (.g (.ofNat g) want none i) else none
    | _, _ => none
/-- What is made of an operation; what is not known here is refused when it is run. -/
noncomputable def cJ (nt : Nat) (ops : Array Oper) (o : Oper) : J := match cJ1 tab eqs nt ops o with
  | some j => j
  | none => .p .z .bad
noncomputable def cJL (nt : Nat) (ops : Array Oper) : List Oper → List J
  | [] => []
  | o :: os => cJ tab eqs nt ops o :: cJL nt ops os
end
end Go.Ex

/- Operations that look at values alone. Nothing here speaks of one program. -/
set_option linter.unusedVariables false
set_option linter.unusedSimpArgs false
namespace Go.Ex
variable {G : GEnv}

/-- What the temporaries hold. -/
def TmR (φ : Pl G) (t : T X) (a : Act) : Prop := ∀ i x, t.get (.ofNat i) = some x → VR φ x (a.tmps.getD i undef)

theorem TmR.mono {φ φ' : Pl G} {t a} (h : TmR φ t a) (he : Ex φ φ') : TmR φ' t a := fun i x hx => (h i x hx).mono he

theorem getD_put (a : Act) (d i : Nat) (v : Value) (hd : d < a.tmps.size) : (a.put (some d) v).tmps.getD i undef = if i = d then v else a.tmps.getD i undef := by
  simp only [Act.put]
  by_cases h : i = d
  · subst h; simp [Array.getD, hd]
  · simp only [Array.getD_eq_getD_getElem?, Array.getElem?_setIfInBounds, if_neg h]
    rw [if_neg (Ne.symm h)]

theorem TmR.put {φ : Pl G} {t a} (h : TmR φ t a) {d : Nat} (hd : d < a.tmps.size) {x : X} {v : Value} (hv : VR φ x v) : TmR φ (t.put (.ofNat d) x) (a.put (some d) v) := fun i y hy => by
  rw [getD_put a d i v hd]
  rw [get_put] at hy
  split at hy
  · rename_i he
    rw [if_pos (ofNat_inj he)]
    cases hy; exact hv
  · rename_i he
    rw [if_neg (fun e => he (by rw [e]))]
    exact h i y hy

section
variable {φ : Pl G} {t : T X} {a : Act}
theorem ev_ok (h : TmR φ t a) {o : Operand} {d : D} {x : X} (hc : cD G o = some d) (hx : ev t d = some x) : VR φ x (a.eval o) := by
  cases o with
  | tmp i => simp [cD] at hc; subst hc; exact h i x hx
  | const v =>
    simp only [cD] at hc
    split at hc
    · rename_i y hy
      cases hc
      have : y = x := Option.some.inj hx
      subst this
      exact ofV_ok hy φ
    · cases hc
  | global g =>
    simp only [cD] at hc
    split at hc
    · rename_i vs hvs
      split at hc
      · rename_i xs hxs
        cases hc
        have : X.rp xs = x := Option.some.inj hx
        subst this
        have hcr := ofVL_ok (φ := φ) hxs
        have hlt : ∀ (j : Nat) c, xs[j]? = some c → ∃ v, vs[j]? = some v := fun j c hj => by
          have : j < vs.length := by rw [← hcr.1.1]; exact (List.getElem?_eq_some_iff.1 hj).1
          exact ⟨_, List.getElem?_eq_getElem this⟩
        refine .rp xs g 0 (fun j => vs.getD j undef) (fun j c hj => ?_) fun j c hj => ?_
        · obtain ⟨v, hv⟩ := hlt j c hj
          rw [List.getD_eq_getElem?_getD, hv, Nat.zero_add]
          exact ⟨φ.ok g vs hvs j v hv, hcr.2 _ (List.mem_of_getElem? hv)⟩
        · obtain ⟨v, hv⟩ := hlt j c hj
          rw [List.getD_eq_getElem?_getD, hv]
          exact hcr.1.2 j c v hj hv
      · cases hc
    · cases hc
  | func f =>
    simp [cD] at hc; subst hc
    have : X.fn f [] = x := Option.some.inj hx
    subst this
    exact .fn f [] [] rfl (fun i c v h => by simp at h)

theorem evL_ok (h : TmR φ t a) : ∀ {l : List Operand} {ds : List D} {xs : List X}, cDL G l = some ds → evL t ds = some xs → VRL φ xs (l.map a.eval) := by
  intro l
  induction l with
  | nil => intro ds xs hc hx; simp [cDL] at hc; subst hc; have : [] = xs := Option.some.inj hx; subst this; exact VRL.nil
  | cons o l ih =>
    intro ds xs hc hx
    unfold cDL at hc
    split at hc
    · rename_i d ds' h1 h2
      cases hc
      have hx' : (match ev t d with | none => none | some x => match evL t ds' with | none => none | some xs => some (x :: xs)) = some xs := hx
      split at hx'
      · cases hx'
      · rename_i x h3
        split at hx'
        · cases hx'
        · rename_i xs' h4
          cases hx'
          exact (ih h2 h4).cons (ev_ok h h1 h3)
    · cases hc

theorem run_value {P : Program} {w w' : World} {s : Sem Value} {cv : Value} (h : s.run P w = .ok cv w') :
    (do pure (.value (← s)) : Sem Next).run P w = .ok (.value cv) w' := by
  simp [h, Result.andThen]

/-- The operation gives a value that x tells. -/
def Pure (P : Program) (φ : Pl G) (a : Act) (o : Oper) (x : X) : Prop := ∀ w, ∃ v, (execOp a.eval o).run P w = .ok (.value v) w ∧ VR φ x v

variable {P : Program} {tab : Tab} {dst : Option Tmp} {type : TypeId} {pos : String} {after : Array Edge} {guard : Option (Nat × Bool)}

theorem inv_int {k n v} (h : VR φ (.int k n) v) : v = .int k n := by cases h; rfl
theorem inv_bool {b v} (h : VR φ (.bool b) v) : v = .bool b := by cases h; rfl
theorem inv_ptr {id off v} (h : VR φ (.ptr id off) v) : ∃ b s, φ id = some (b, s) ∧ v = .pointer (some ⟨b, off, none⟩) := by cases h; exact ⟨_, _, ‹_›, rfl⟩
theorem inv_map {id v} (h : VR φ (.map id) v) : ∃ b s, φ id = some (b, s) ∧ v = .map (some b) := by cases h; exact ⟨_, _, ‹_›, rfl⟩
theorem inv_sl {id off len cap z v} (h : VR φ (.sl id off len cap z) v) : ∃ b s c, φ id = some (b, s) ∧ v = .slice (some ⟨b, off, none⟩) len c ∧ len ≤ cap ∧ cap ≤ c ∧ (z = 0 → c = cap) ∧ ∀ k, z = k + 1 → off + c * k = s ∧ c ≤ maxLen := by
  cases h with
  | sl0 _ _ _ _ b s h h1 => exact ⟨b, s, _, h, rfl, h1, Nat.le_refl _, fun _ => rfl, fun k hk => by omega⟩
  | sl1 _ _ _ _ z cap b s h h1 h2 h3 h4 => exact ⟨b, s, cap, h, rfl, h1, h2, fun h => by omega, fun k hk => by cases hk; exact ⟨h3, h4⟩⟩
theorem inv_rs {full z es v} (h : VR φ (.rs full z es) v) : ∃ b off cap, ∃ vs : Nat → Nat → Value, v = .slice (some ⟨b, off, none⟩) es.length cap ∧ (∀ e ∈ es, e.length = z) ∧ es.length ≤ cap ∧ (full = true → cap = es.length) ∧
    (∀ (i : Nat) e (j : Nat) c, es[i]? = some e → e[j]? = some c → φ.W.cell? ⟨b, off + (i * z + j), none⟩ = some (vs i j) ∧ (vs i j).oneCell' = true) ∧ ∀ (i : Nat) e (j : Nat) c, es[i]? = some e → e[j]? = some c → VR φ c (vs i j) := by
  cases h with
  | rs _ _ _ b off cap vs hz hcap hf hc h => exact ⟨b, off, cap, vs, rfl, hz, hcap, hf, hc, h⟩
theorem inv_rp {cs v} (h : VR φ (.rp cs) v) : ∃ b off, ∃ vs : Nat → Value, v = .pointer (some ⟨b, off, none⟩) ∧ (∀ (j : Nat) c, cs[j]? = some c → φ.W.cell? ⟨b, off + j, none⟩ = some (vs j) ∧ (vs j).oneCell' = true) ∧ ∀ (j : Nat) c, cs[j]? = some c → VR φ c (vs j) := by
  cases h with
  | rp _ b off vs hc h => exact ⟨b, off, vs, rfl, hc, h⟩
/-- A pointer further on. -/
theorem VR.rp_drop {cs : List X} {b off : Nat} {vs : Nat → Value} (hc : ∀ (j : Nat) c, cs[j]? = some c → φ.W.cell? ⟨b, off + j, none⟩ = some (vs j) ∧ (vs j).oneCell' = true) (h : ∀ (j : Nat) c, cs[j]? = some c → VR φ c (vs j)) (o : Nat) : VR φ (.rp (cs.drop o)) (.pointer (some ⟨b, off + o, none⟩)) :=
  .rp _ b (off + o) (fun j => vs (o + j)) (fun j c hj => by rw [List.getElem?_drop] at hj; rw [Nat.add_assoc]; exact hc _ c hj) (fun j c hj => by rw [List.getElem?_drop] at hj; exact h _ c hj)
theorem inv_nils {v} (h : VR φ .nils v) : v = .slice none 0 0 := by cases h; rfl
theorem inv_es {v} (h : VR φ .es v) : ∃ a c, v = .slice (some a) 0 c := by cases h; exact ⟨_, _, rfl⟩
theorem inv_fn {f cs v} (h : VR φ (.fn f cs) v) : ∃ vs, VRL φ cs vs ∧ v = .func (.func f) #[] vs.toArray := by cases h; exact ⟨_, ⟨‹_›, ‹_›⟩, rfl⟩
theorem inv_fb {f as cs v} (h : VR φ (.fb f as cs) v) : ∃ us vs, VRL φ as us ∧ VRL φ cs vs ∧ v = .func (.func f) us.toArray vs.toArray := by cases h; exact ⟨_, _, ⟨‹_›, ‹_›⟩, ⟨‹_›, ‹_›⟩, rfl⟩
theorem inv_ifc {t x v} (h : VR φ (.ifc t x) v) : ∃ u, VR φ x u ∧ v = .iface t u := by cases h; exact ⟨_, ‹_›, rfl⟩
theorem inv_agg {cs v} (h : VR φ (.agg cs) v) : ∃ vs, CR φ cs vs ∧ v = .agg vs.toArray := by cases h; exact ⟨_, ⟨⟨‹_›, ‹_›⟩, ‹_›⟩, rfl⟩
theorem inv_tup {cs v} (h : VR φ (.tup cs) v) : ∃ vs, VRL φ cs vs ∧ v = .tuple vs.toArray := by cases h; exact ⟨_, ⟨‹_›, ‹_›⟩, rfl⟩
theorem VR.agg' {cs vs} (h : CR φ cs vs) : VR φ (.agg cs) (.agg vs.toArray) := .agg cs vs h.1.1 h.2 h.1.2
theorem VR.tup' {cs vs} (h : VRL φ cs vs) : VR φ (.tup cs) (.tuple vs.toArray) := .tup cs vs h.1 h.2

theorem run_underlying' {t : TypeId} {u : TypeDesc} (h : P.underlying t = some u) (w : World) : (underlying t).run P w = .ok u w := by
  simp [underlying, h]
theorem addr_add (b off j : Nat) : (⟨b, off, none⟩ : Addr).add j = ⟨b, off + j, none⟩ := by
  unfold Addr.add; split <;> simp_all

/-! ### What a row of the table says -/
theorem kind_slice {u e} (h : kindOf u = .slice e) : u = .slice e := by cases u <;> simp_all [kindOf]
theorem kind_array {u n e} (h : kindOf u = .array n e) : u = .array n e := by cases u <;> simp_all [kindOf]
theorem kind_int {u k} (h : kindOf u = .int k) : u = .int k := by cases u <;> simp_all [kindOf]
theorem kind_map {u k e} (h : kindOf u = .map k e) : u = .map k e := by cases u <;> simp_all [kindOf]
theorem kind_struct {u fs} (h : kindOf u = .struct fs) : ∃ fa, u = .struct fa ∧ fs = fa.toList.map fun f => (f.offset, f.type) := by
  cases u <;> simp_all [kindOf]
structure TyR (P : Program) (t : TypeId) (ti : TI) (i : TypeInfo) (u : TypeDesc) : Prop where
  info : P.info? t = some i
  under : P.underlying t = some u
  eq : ti = tiOf i u
theorem ty_ok (ht : TabOk P tab) {e : TypeId} {ti : TI} (h : ty tab e = some ti) : ∃ i u, TyR P e ti i u := by
  obtain ⟨i, u, h1, h2, h3⟩ := ht e ti h
  exact ⟨i, u, h1, h2, h3⟩
theorem TyR.size {e ti i u} (h : TyR P e ti i u) (w : World) : (sizeOf e).run P w = .ok ti.size w := by
  simp [sizeOf, typeInfo, h.info, h.eq, tiOf]
theorem TyR.isAgg {e ti i u} (h : TyR P e ti i u) (w : World) : (isAgg e).run P w = .ok ti.agg w := by
  have := h.under
  rw [h.eq]
  cases u <;> simp [Go.isAgg, run_underlying' this, tiOf, aggOf, Result.andThen]
theorem TyR.zero {e ti i u} (h : TyR P e ti i u) {zs : List X} (hz : ti.zero = some zs) : ∃ zv, i.zero = some zv ∧ (∀ {G : GEnv} (φ : Pl G), CR φ zs zv.cells.toList) ∧ ∀ w, (zeroValue e).run P w = .ok zv w := by
  rw [h.eq] at hz
  simp only [tiOf, zeroX] at hz
  split at hz
  · cases hz
  · rename_i zv h1
    exact ⟨zv, h1, fun {_} φ => ofVL_ok hz, fun w => by simp [zeroValue, typeInfo, h.info, h1]⟩

theorem TyR.zv {e ti i u} (h : TyR P e ti i u) {z : X} (hz : ti.zv = some z) : ∃ zv, (∀ {G : GEnv} (φ : Pl G), VR φ z zv) ∧ ∀ w, (zeroValue e).run P w = .ok zv w := by
  rw [h.eq] at hz
  simp only [tiOf, zvX] at hz
  split at hz
  · cases hz
  · rename_i zv h1
    exact ⟨zv, fun {_} φ => ofV_ok hz φ, fun w => by simp [zeroValue, typeInfo, h.info, h1]⟩

theorem mov_ok (h : TmR φ t a) {x : Operand} {d : D} {y : X} (hc : cD G x = some d) (hx : ev t d = some y) : Pure P φ a ⟨dst, .move x, type, pos, after, guard⟩ y :=
  fun w => ⟨a.eval x, rfl, ev_ok h hc hx⟩
theorem asg_ok (h : TmR φ t a) {x : Operand} {d : D} {y : X} (hc : cD G x = some d) (hx : ev t d = some y) : Pure P φ a ⟨dst, .assign x, type, pos, after, guard⟩ y :=
  fun w => ⟨a.eval x, rfl, ev_ok h hc hx⟩

theorem pick_ok (h : TmR φ t a) {c x y : Operand} {dc dx dy : D} {r : X} (hc : cD G c = some dc) (hx : cD G x = some dx) (hy : cD G y = some dy) (hr : rPick dc dx dy t = some r) :
    Pure P φ a ⟨dst, .pick c x y, type, pos, after, guard⟩ r := fun w => by
  unfold rPick at hr
  split at hr
  · rename_i h1
    have := inv_bool (ev_ok h hc h1)
    exact ⟨a.eval x, by simp [execOp, this, asBool], ev_ok h hx hr⟩
  · rename_i h1
    have := inv_bool (ev_ok h hc h1)
    exact ⟨a.eval y, by simp [execOp, this, asBool], ev_ok h hy hr⟩
  · cases hr

theorem nilc_ok (h : TmR φ t a) {x : Operand} {d : D} {r : X} (hc : cD G x = some d) (hr : rNilc d t = some r) : Pure P φ a ⟨dst, .nilCheck x, type, pos, after, guard⟩ r := fun w => by
  unfold rNilc at hr
  split at hr
  · rename_i id off h1
    cases hr
    have h2 := ev_ok h hc h1
    obtain ⟨b, s, h3, h4⟩ := inv_ptr h2
    exact ⟨a.eval x, by simp only [execOp, h4]; rfl, h2⟩
  · rename_i f cs h1
    cases hr
    have h2 := ev_ok h hc h1
    obtain ⟨vs, h3, h4⟩ := inv_fn h2
    exact ⟨a.eval x, by simp only [execOp, h4]; rfl, h2⟩
  · rename_i cs h1
    cases hr
    have h2 := ev_ok h hc h1
    obtain ⟨b, off, vs, h4, _⟩ := inv_rp h2
    exact ⟨a.eval x, by simp only [execOp, h4]; rfl, h2⟩
  · cases hr

theorem not_ok (h : TmR φ t a) {x : Operand} {d : D} {r : X} {ty : TypeId} (hc : cD G x = some d) (hr : rNot d t = some r) : Pure P φ a ⟨dst, .unOp .not ty x, type, pos, after, guard⟩ r := fun w => by
  unfold rNot at hr
  split at hr
  · rename_i b h1
    cases hr
    have h2 := inv_bool (ev_ok h hc h1)
    exact ⟨.bool !b, by simp [execOp, h2, Op.unary], .bool _⟩
  · cases hr
theorem neg_ok (h : TmR φ t a) {x : Operand} {d : D} {r : X} {ty : TypeId} (hc : cD G x = some d) (hr : rNeg d t = some r) : Pure P φ a ⟨dst, .unOp .neg ty x, type, pos, after, guard⟩ r := fun w => by
  unfold rNeg at hr
  split at hr
  · rename_i k n h1
    cases hr
    have h2 := inv_int (ev_ok h hc h1)
    exact ⟨.int k (k.wrap (0 - n)), by simp [execOp, h2, Op.unary, Op.intArith], .int _ _⟩
  · cases hr

theorem conv_ok (h : TmR φ t a) {x : Operand} {d : D} {r : X} {s e : TypeId} {k k' : IntKind} (hs : P.underlying s = some (.int k')) (he : P.underlying e = some (.int k)) (hc : cD G x = some d) (hr : rConv k d t = some r) :
    Pure P φ a ⟨dst, .convert s e x, type, pos, after, guard⟩ r := fun w => by
  unfold rConv at hr
  split at hr
  · rename_i k2 n h1
    cases hr
    have h2 := inv_int (ev_ok h hc h1)
    exact ⟨.int k (k.wrap n), by simp [execOp, h2, convert, run_underlying' hs, run_underlying' he, Result.andThen, Conv.intToInt], .int _ _⟩
  · cases hr

theorem ext_ok (h : TmR φ t a) {x : Operand} {d : D} {r : X} {i : Nat} (hc : cD G x = some d) (hr : rExt d i t = some r) : Pure P φ a ⟨dst, .extract x i, type, pos, after, guard⟩ r := fun w => by
  unfold rExt at hr
  split at hr
  · rename_i vs h1
    obtain ⟨us, h2, h3⟩ := inv_tup (ev_ok h hc h1)
    have hi : i < us.length := by rw [← h2.1]; exact (List.getElem?_eq_some_iff.1 hr).1
    exact ⟨us[i], by simp [execOp, h3, Instr.extract, hi], h2.2 i r _ hr (List.getElem?_eq_getElem hi)⟩
  · cases hr

theorem mkF_ok (h : TmR φ t a) {f : FuncId} {b : Array Operand} {ds : List D} {r : X} (hc : cDL G b.toList = some ds) (hr : rMkF f ds t = some r) : Pure P φ a ⟨dst, .makeFunc (.func f) #[] b, type, pos, after, guard⟩ r := fun w => by
  unfold rMkF at hr
  split at hr
  · rename_i xs h1
    cases hr
    have h2 := evL_ok h hc h1
    refine ⟨_, by simp [execOp, Instr.makeFunc, Result.andThen]; rfl, ?_⟩
    have := VR.fn (φ := φ) f xs (b.toList.map a.eval) h2.1 h2.2
    have he : (b.toList.map a.eval).toArray = b.map a.eval := by apply Array.ext'; simp
    rw [he] at this
    exact this
  · cases hr

theorem len_ok (h : TmR φ t a) {x : Operand} {d : D} {r : X} {ty el : TypeId} (hu : P.underlying ty = some (.slice el)) (hc : cD G x = some d) (hr : rLen d t = some r) :
    Pure P φ a ⟨dst, .call ⟨.builtin .len, #[x], #[ty]⟩, type, pos, after, guard⟩ r := fun w => by
  unfold rLen at hr
  split at hr
  · rename_i id off n c z h1
    cases hr
    obtain ⟨b, s, c', h2, h3, _⟩ := inv_sl (ev_ok h hc h1)
    exact ⟨.int .i64 n, by simp [execOp, resolve, invoke, builtin, Builtin.len_, run_underlying' hu, h3, Result.andThen, goInt], .int _ _⟩
  · rename_i h1
    cases hr
    have h3 := inv_nils (ev_ok h hc h1)
    exact ⟨.int .i64 0, by simp [execOp, resolve, invoke, builtin, Builtin.len_, run_underlying' hu, h3, Result.andThen, goInt], .int _ _⟩
  · rename_i h1
    cases hr
    obtain ⟨a0, c0, h3⟩ := inv_es (ev_ok h hc h1)
    exact ⟨.int .i64 0, by simp [execOp, resolve, invoke, builtin, Builtin.len_, run_underlying' hu, h3, Result.andThen, goInt], .int _ _⟩
  · rename_i full z es h1
    cases hr
    obtain ⟨b, off, cap, vs, h3, _⟩ := inv_rs (ev_ok h hc h1)
    exact ⟨.int .i64 es.length, by simp [execOp, resolve, invoke, builtin, Builtin.len_, run_underlying' hu, h3, Result.andThen, goInt], .int _ _⟩
  · cases hr

theorem max_ok (h : TmR φ t a) {x y : Operand} {dx dy : D} {r : X} {t1 t2 : TypeId} (hx : cD G x = some dx) (hy : cD G y = some dy) (hr : rMax dx dy t = some r) :
    Pure P φ a ⟨dst, .call ⟨.builtin .max, #[x, y], #[t1, t2]⟩, type, pos, after, guard⟩ r := fun w => by
  unfold rMax at hr
  split at hr
  · rename_i k m k' n h1 h2
    cases hr
    have h3 := inv_int (ev_ok h hx h1)
    have h4 := inv_int (ev_ok h hy h2)
    refine ⟨_, by simp [execOp, resolve, invoke, builtin, h3, h4, Result.andThen, Builtin.max_, Builtin.max2]; rfl, ?_⟩
    by_cases hlt : m < n
    · simp [hlt]; exact .int _ _
    · simp [hlt]; exact .int _ _
  · cases hr
theorem min_ok (h : TmR φ t a) {x y : Operand} {dx dy : D} {r : X} {t1 t2 : TypeId} (hx : cD G x = some dx) (hy : cD G y = some dy) (hr : rMin dx dy t = some r) :
    Pure P φ a ⟨dst, .call ⟨.builtin .min, #[x, y], #[t1, t2]⟩, type, pos, after, guard⟩ r := fun w => by
  unfold rMin at hr
  split at hr
  · rename_i k m k' n h1 h2
    cases hr
    have h3 := inv_int (ev_ok h hx h1)
    have h4 := inv_int (ev_ok h hy h2)
    refine ⟨_, by simp [execOp, resolve, invoke, builtin, h3, h4, Result.andThen, Builtin.min_, Builtin.min2]; rfl, ?_⟩
    by_cases hlt : n < m
    · simp [hlt]; exact .int _ _
    · simp [hlt]; exact .int _ _
  · cases hr

theorem faddr_ok (h : TmR φ t a) (ht : TabOk P tab) {x : Operand} {d : D} {r : X} {e : TypeId} {f o size : Nat} {fs : List (Nat × TypeId)} {z1 z2 z3 z4 z5} (he : ty tab e = some ⟨z1, z2, z3, .struct fs, z4, z5⟩) (hp : place tab fs f = some (o, size)) (hs : Nat.blt 0 size = true)
    (hc : cD G x = some d) (hr : rFaddr o d t = some r) : Pure P φ a ⟨dst, .fieldAddr e x f, type, pos, after, guard⟩ r := fun w => by
  have key : ∀ (b off : Nat), a.eval x = .pointer (some ⟨b, off, none⟩) → (execOp a.eval ⟨dst, .fieldAddr e x f, type, pos, after, guard⟩).run P w = .ok (.value (.pointer (some ⟨b, off + o, none⟩))) w := fun b off h3 => by
    obtain ⟨i, u, ht1⟩ := ty_ok ht he
    have hk := congrArg TI.kind ht1.eq
    obtain ⟨fa, g1, g2⟩ := kind_struct hk.symm
    unfold place at hp
    split at hp
    · rename_i off' ft h4
      split at hp
      · rename_i fi h5
        cases hp
        obtain ⟨i2, u2, ht2⟩ := ty_ok ht h5
        rw [g2, List.getElem?_map, Option.map_eq_some_iff] at h4
        obtain ⟨fd, h6, h7⟩ := h4
        cases h7
        have hu := ht1.under
        rw [g1] at hu
        have hs' : fi.size ≠ 0 := by have := Nat.lt_of_lt_of_eq (Nat.le_of_ble_eq_true hs) rfl; omega
        have h6' : fa[f]? = some fd := by simpa using h6
        simp [execOp, h3, Instr.fieldAt, run_underlying' hu, h6', Instr.sureAddr, fieldPlace, ht2.size, hs', Result.andThen, addr_add]
      · cases hp
    · cases hp
  unfold rFaddr at hr
  split at hr
  · rename_i id off h1
    cases hr
    obtain ⟨b, s, h2, h3⟩ := inv_ptr (ev_ok h hc h1)
    exact ⟨_, key b off h3, .ptr id _ b s h2⟩
  · rename_i cs h1
    cases hr
    obtain ⟨b, off, vs, h3, h4, h5⟩ := inv_rp (ev_ok h hc h1)
    exact ⟨_, key b off h3, VR.rp_drop h4 h5 o⟩
  · cases hr

theorem asI_ok {x : X} {n : Nat} (h : asI x = some n) {v : Value} (hv : VR φ x v) : ∃ k, v = .int k n := by
  unfold asI at h
  split at h
  · rename_i k m
    cases h
    exact ⟨k, inv_int hv⟩
  · cases h

theorem iaddrA_ok (h : TmR φ t a) (ht : TabOk P tab) {x i : Operand} {d di : D} {r : X} {e el : TypeId} {n : Nat} {ei : TI} {z1 z2 z3 z4 z5} (he : ty tab e = some ⟨z1, z2, z3, .array n el, z4, z5⟩) (hel : ty tab el = some ei)
    (hc : cD G x = some d) (hi : cD G i = some di) (hr : rIaddrA n ei.size d di t = some r) : Pure P φ a ⟨dst, .indexAddr e x i, type, pos, after, guard⟩ r := fun w => by
  have key : ∀ (b off m : Nat) (k : IntKind), a.eval x = .pointer (some ⟨b, off, none⟩) → a.eval i = .int k m → m < n → (execOp a.eval ⟨dst, .indexAddr e x i, type, pos, after, guard⟩).run P w = .ok (.value (.pointer (some ⟨b, off + m * ei.size, none⟩))) w := fun b off m k h4 h5 hlt => by
    obtain ⟨i1, u1, ht1⟩ := ty_ok ht he
    have hu := ht1.under
    rw [kind_array (congrArg TI.kind ht1.eq).symm] at hu
    obtain ⟨i2, u2, ht2⟩ := ty_ok ht hel
    simp only [execOp, h4, h5]
    refine run_value ?_
    have hlt' : (m : Int) < n := by omega
    simp [Instr.indexAt, asIntOf, run_underlying' hu, ht2.size, hlt, Result.andThen, addr_add, Instr.sureAddr]
  unfold rIaddrA at hr
  split at hr
  · rename_i id off y h1 h1'
    split at hr
    · rename_i m h2
      cases hb : Nat.blt m n with
      | false => rw [hb] at hr; cases hr
      | true =>
        rw [hb] at hr
        cases hr
        have hlt : m < n := Nat.le_of_ble_eq_true hb
        obtain ⟨b, s, h3, h4⟩ := inv_ptr (ev_ok h hc h1)
        obtain ⟨k, h5⟩ := asI_ok h2 (ev_ok h hi h1')
        exact ⟨_, key b off m k h4 h5 hlt, .ptr id _ b s h3⟩
    · cases hr
  · rename_i cs y h1 h1'
    split at hr
    · rename_i m h2
      cases hb : Nat.blt m n with
      | false => rw [hb] at hr; cases hr
      | true =>
        rw [hb] at hr
        cases hr
        have hlt : m < n := Nat.le_of_ble_eq_true hb
        obtain ⟨b, off, vs, h4, g1, g2⟩ := inv_rp (ev_ok h hc h1)
        obtain ⟨k, h5⟩ := asI_ok h2 (ev_ok h hi h1')
        exact ⟨_, key b off m k h4 h5 hlt, VR.rp_drop g1 g2 _⟩
    · cases hr
  · cases hr
theorem iaddrS_ok (h : TmR φ t a) (ht : TabOk P tab) {x i : Operand} {d di : D} {r : X} {e el : TypeId} {ei : TI} {z1 z2 z3 z4 z5} (he : ty tab e = some ⟨z1, z2, z3, .slice el, z4, z5⟩) (hel : ty tab el = some ei)
    (hc : cD G x = some d) (hi : cD G i = some di) (hr : rIaddrS ei.size d di t = some r) : Pure P φ a ⟨dst, .indexAddr e x i, type, pos, after, guard⟩ r := fun w => by
  have key : ∀ (b off n c' m : Nat) (k : IntKind), a.eval x = .slice (some ⟨b, off, none⟩) n c' → a.eval i = .int k m → m < n → (execOp a.eval ⟨dst, .indexAddr e x i, type, pos, after, guard⟩).run P w = .ok (.value (.pointer (some ⟨b, off + m * ei.size, none⟩))) w := fun b off n c' m k h4 h5 hlt => by
    obtain ⟨i1, u1, ht1⟩ := ty_ok ht he
    have hu := ht1.under
    rw [kind_slice (congrArg TI.kind ht1.eq).symm] at hu
    obtain ⟨i2, u2, ht2⟩ := ty_ok ht hel
    simp only [execOp, h4, h5]
    refine run_value ?_
    simp [Instr.indexAt, asIntOf, run_underlying' hu, ht2.size, hlt, Result.andThen, addr_add]
  unfold rIaddrS at hr
  split at hr
  · rename_i id off n c z y h1 h1'
    split at hr
    · rename_i m h2
      cases hb : Nat.blt m n with
      | false => rw [hb] at hr; cases hr
      | true =>
        rw [hb] at hr
        cases hr
        have hlt : m < n := Nat.le_of_ble_eq_true hb
        obtain ⟨b, s, c', h3, h4, _⟩ := inv_sl (ev_ok h hc h1)
        obtain ⟨k, h5⟩ := asI_ok h2 (ev_ok h hi h1')
        exact ⟨_, key b off n c' m k h4 h5 hlt, .ptr id _ b s h3⟩
    · cases hr
  · rename_i full z es y h1 h1'
    split at hr
    · rename_i m h2
      cases hz : Nat.beq z ei.size with
      | false => rw [hz] at hr; cases hr
      | true =>
        rw [hz] at hr
        simp only [cond_true] at hr
        split at hr
        · rename_i el' hel'
          cases hr
          have hzz := Nat.eq_of_beq_eq_true hz
          have hlt : m < es.length := (List.getElem?_eq_some_iff.1 hel').1
          obtain ⟨b, off, cap, vs, h4, g1, g2, g3, g4, g5⟩ := inv_rs (ev_ok h hc h1)
          obtain ⟨k, h5⟩ := asI_ok h2 (ev_ok h hi h1')
          refine ⟨_, key b off es.length cap m k h4 h5 hlt, .rp el' b _ (vs m) (fun j c hj => ?_) fun j c hj => g5 m el' j c hel' hj⟩
          rw [← hzz, Nat.add_assoc]
          exact g4 m el' j c hel' hj
        · cases hr
    · cases hr
  · cases hr
end
end Go.Ex

/- Operations that look at values alone, second part. Nothing here speaks of one program. -/
set_option linter.unusedVariables false
set_option linter.unusedSimpArgs false
namespace Go.Ex

theorem foldl_set (off : Nat) : ∀ (l : List Value) (s : Nat) (cells : Array Value),
    ((l.zipIdx s).foldl (fun cs (c : Value × Nat) => cs.setIfInBounds (off + c.2) c.1) cells).size = cells.size ∧
    ∀ k, ((l.zipIdx s).foldl (fun cs (c : Value × Nat) => cs.setIfInBounds (off + c.2) c.1) cells)[k]? =
      if off + s ≤ k ∧ k < off + s + l.length ∧ k < cells.size then l[k - off - s]? else cells[k]? := by
  intro l
  induction l with
  | nil => intro s cells; refine ⟨rfl, fun k => ?_⟩; rw [if_neg (by simp; omega)]; rfl
  | cons v l ih =>
    intro s cells
    simp only [List.zipIdx_cons, List.foldl_cons]
    obtain ⟨h1, h2⟩ := ih (s + 1) (cells.setIfInBounds (off + s) v)
    refine ⟨by rw [h1]; simp, fun k => ?_⟩
    rw [h2]
    simp only [Array.size_setIfInBounds, List.length_cons, Array.getElem?_setIfInBounds]
    by_cases c1 : k = off + s
    · subst c1
      rw [if_neg (by omega), if_pos rfl]
      by_cases c2 : off + s < cells.size
      · rw [if_pos c2, if_pos (by omega)]
        have : off + s - off - s = 0 := by omega
        rw [this]; rfl
      · rw [if_neg c2, if_neg (by omega)]
        rw [Array.getElem?_eq_none (by omega)]
    · rw [if_neg (fun h : off + s = k => c1 h.symm)]
      by_cases c3 : off + (s + 1) ≤ k ∧ k < off + (s + 1) + l.length ∧ k < cells.size
      · rw [if_pos c3, if_pos (by omega)]
        obtain ⟨q, hq⟩ : ∃ q, k - off - s = q + 1 := ⟨k - off - s - 1, by omega⟩
        rw [hq, List.getElem?_cons_succ]
        congr 1
        omega
      · rw [if_neg c3, if_neg (by omega)]

/-- What writes a part's cells. -/
theorem foldl_put (off : Nat) (v : Array Value) (cells : Array Value) (h : off + v.size ≤ cells.size) :
    (v.zipIdx.foldl (fun cs (c : Value × Nat) => cs.setIfInBounds (off + c.2) c.1) cells).toList = cells.toList.take off ++ v.toList ++ cells.toList.drop (off + v.size) := by
  rw [← Array.foldl_toList]
  have hz : v.zipIdx.toList = v.toList.zipIdx 0 := by simp
  rw [hz]
  obtain ⟨h1, h2⟩ := foldl_set off v.toList 0 cells
  apply List.ext_getElem?
  intro k
  rw [Array.getElem?_toList, h2 k]
  simp only [Array.length_toList, List.getElem?_append, List.length_append, List.length_take, List.getElem?_take, List.getElem?_drop, Array.getElem?_toList]
  have hm : min off cells.size = off := by omega
  simp only [hm]
  by_cases c1 : k < off
  · rw [if_neg (by omega), if_pos (by omega), if_pos c1, if_pos c1]
  · by_cases c2 : k < off + v.size
    · rw [if_pos (by omega), if_pos c2, if_neg c1]; simp
    · rw [if_neg (by omega), if_neg c2]; congr 1; omega

theorem beq_ff {i d : Nat} (h : i ≠ d) : Nat.beq i d = false := by
  cases hb : Nat.beq i d with
  | false => rfl
  | true => exact absurd (Nat.eq_of_beq_eq_true hb) h
section
variable {eqs : Env} {φ : Pl eqs.gs}  {t : T X} {a : Act} {P : Program} {tab : Tab} {dst : Option Tmp} {type : TypeId} {pos : String} {after : Array Edge} {guard : Option (Nat × Bool)}

theorem inCells_ok {x : X} {l : List X} (h : inCells x = some l) {v : Value} (hv : VR φ x v) : CR φ l v.cells.toList := by
  have one : ∀ {x v}, VR φ x v → (∀ cs, x ≠ .agg cs) → (∀ cs, x ≠ .tup cs) → CR φ [x] v.cells.toList := fun {x v} hv h1 h2 => by
    cases hv with
    | agg cs => exact absurd rfl (h1 cs)
    | tup cs => exact absurd rfl (h2 cs)
    | _ => refine ⟨VRL.nil.cons (by constructor <;> assumption), fun u hu => ?_⟩; simp [Value.cells] at hu; subst hu; rfl
  unfold inCells at h
  split at h
  · cases h
    obtain ⟨vs, h1, h2⟩ := inv_agg hv
    subst h2
    simpa [Value.cells] using h1
  · cases h
  · rename_i h1 h2
    cases h
    exact one hv h1 h2

theorem lput_ok {cs new cs' : List X} {off : Nat} (h : lput cs off new = some cs') {vs nv : List Value} (hc : CR φ cs vs) (hn : CR φ new nv) :
    off + nv.length ≤ vs.length ∧ CR φ cs' (vs.take off ++ nv ++ vs.drop (off + nv.length)) := by
  unfold lput at h
  cases hb : Nat.ble (off + new.length) cs.length with
  | false => rw [hb] at h; cases h
  | true =>
    rw [hb] at h
    cases h
    have := Nat.le_of_ble_eq_true hb
    rw [hn.1.1, hc.1.1] at this
    refine ⟨this, ((hc.take off).append hn).append ?_⟩
    rw [hn.1.1]; exact hc.drop _

theorem fill_ok (h : TmR φ t a) {place place' : Nat → Option (Nat × Nat)} : ∀ {parts : List (Nat × Operand)} {ps : List (Nat × Nat × D)} {cs cs' : List X} {vs : Array Value},
    (∀ i q, place i = some q → place' i = some q) → cPs eqs.gs place parts = some ps → fillX t ps cs = some cs' → CR φ cs vs.toList →
    ∃ vs', Instr.fill place' vs (parts.map fun p => (p.1, a.eval p.2)) = some vs' ∧ CR φ cs' vs'.toList := by
  intro parts
  induction parts with
  | nil =>
    intro ps cs cs' vs _ hc hf hv
    simp [cPs] at hc; subst hc
    simp [fillX] at hf; subst hf
    exact ⟨vs, rfl, hv⟩
  | cons p parts ih =>
    intro ps cs cs' vs hpl hc hf hv
    obtain ⟨i, o⟩ := p
    unfold cPs at hc
    split at hc
    · rename_i off size d l h1 h2 h3
      cases hc
      unfold fillX at hf
      split at hf
      · cases hf
      · rename_i x h4
        split at hf
        · cases hf
        · rename_i xc h5
          have hx := inCells_ok h5 (ev_ok h h2 h4)
          cases hb : Nat.beq xc.length size with
          | false => rw [hb] at hf; cases hf
          | true =>
            rw [hb] at hf
            have hsz := Nat.eq_of_beq_eq_true hb
            simp only [cond_true] at hf
            split at hf
            · cases hf
            · rename_i cs1 h6
              obtain ⟨g1, g2⟩ := lput_ok h6 hv hx
              have hlen : (a.eval o).cells.size = size := by rw [← hsz, hx.1.1, Array.length_toList]
              rw [Array.length_toList, Array.length_toList] at g1
              rw [Array.length_toList] at g2
              rw [← foldl_put off _ _ g1] at g2
              obtain ⟨vs', g3, g4⟩ := ih hpl h3 hf g2
              refine ⟨vs', ?_, g4⟩
              simp only [List.map_cons, Instr.fill, hpl i _ h1]
              rw [if_neg (by simp only [ne_eq, hlen, not_true_eq_false, decide_false, Bool.false_or, decide_eq_true_eq, Nat.not_lt, gt_iff_lt]; omega)]
              exact g3
    · cases hc

theorem run_places (ht : TabOk P tab) (w : World) : ∀ (fs : List Field), allTy tab (fs.map fun f => (f.offset, f.type)) = true →
    ∃ l : List (Nat × Nat), (fs.mapM fun f => do pure (f.offset, ← sizeOf f.type) : Sem (List (Nat × Nat))).run P w = .ok l w ∧
      ∀ i q, place tab (fs.map fun f => (f.offset, f.type)) i = some q → l[i]? = some q := by
  intro fs
  induction fs with
  | nil => intro _; exact ⟨[], rfl, fun i q h => by simp [place] at h⟩
  | cons f fs ih =>
    intro hall
    simp only [List.map_cons, allTy, Bool.and_eq_true] at hall
    obtain ⟨l, h1, h2⟩ := ih hall.2
    have hf := hall.1
    split at hf
    · rename_i ti h3
      obtain ⟨i0, u0, ht0⟩ := ty_ok ht h3
      refine ⟨(f.offset, ti.size) :: l, ?_, fun i q hq => ?_⟩
      · rw [List.mapM_cons]
        simp only [Sem.run_bind, ht0.size, h1, Result.andThen_ok, Sem.run_pure]
      · cases i with
        | zero => simp [place, h3] at hq; subst hq; rfl
        | succ i => simp [place] at hq ⊢; exact h2 i q (by simpa [place] using hq)
    · cases hf

theorem build_ok (h : TmR φ t a) (ht : TabOk P tab) {e : TypeId} {parts : Array (Nat × Operand)} {zs : List X} {ps : List (Nat × Nat × D)} {r : X}
    (hc : cBuild tab eqs e parts.toList = some (.p (.build zs ps))) (hr : rBuild zs ps t = some r) : Pure P φ a ⟨dst, .build e parts, type, pos, after, guard⟩ r := fun w => by
  unfold rBuild at hr
  split at hr
  · cases hr
  · rename_i cs hfill
    cases hr
    have hmap : (parts.map fun p => (p.1, a.eval p.2)).toList = parts.toList.map fun p => (p.1, a.eval p.2) := by simp
    unfold cBuild at hc
    split at hc
    · rename_i fs zs' zvv he
      split at hc
      · rename_i l hps
        cases hall : allTy tab fs with
        | false => rw [hall] at hc; cases hc
        | true =>
          rw [hall] at hc
          cases hc
          obtain ⟨i, u, hti⟩ := ty_ok ht he
          obtain ⟨fa, g1, g2⟩ := kind_struct (congrArg TI.kind hti.eq).symm
          obtain ⟨zv, _, hz2, hz3⟩ := hti.zero (zs := zs) rfl
          have hu := hti.under
          rw [g1] at hu
          subst g2
          obtain ⟨l, hl1, hl2⟩ := run_places (P := P) ht w fa.toList hall
          obtain ⟨vs', k1, k2⟩ := fill_ok h (place' := fun i => l.toArray[i]?) (fun i q hq => by simpa using hl2 i q hq) hps hfill (hz2 φ)
          have hl1' : (fa.mapM fun f => do pure (f.offset, ← sizeOf f.type) : Sem (Array (Nat × Nat))).run P w = .ok l.toArray w := by
            rw [Array.mapM_eq_mapM_toList]
            simp only [Sem.run_map, hl1]
            rfl
          refine ⟨.agg vs', ?_, by have := VR.agg' k2; simpa using this⟩
          simp only [execOp]
          refine run_value ?_
          simp only [Instr.build, Sem.run_bind, hz3, Result.andThen_ok, run_underlying' hu, hl1', hmap, k1, Sem.run_pure]
      · cases hc
    · rename_i n el zs' zvv he
      split at hc
      · rename_i ei hel
        split at hc
        · rename_i l hps
          cases hc
          obtain ⟨i, u, hti⟩ := ty_ok ht he
          obtain ⟨i2, u2, ht2⟩ := ty_ok ht hel
          obtain ⟨zv, _, hz2, hz3⟩ := hti.zero (zs := zs) rfl
          have hu := hti.under
          rw [kind_array (congrArg TI.kind hti.eq).symm] at hu
          obtain ⟨vs', k1, k2⟩ := fill_ok h (place' := fun i => some (i * ei.size, ei.size)) (fun i q hq => hq) hps hfill (hz2 φ)
          refine ⟨.agg vs', ?_, by have := VR.agg' k2; simpa using this⟩
          simp only [execOp]
          refine run_value ?_
          simp only [Instr.build, Sem.run_bind, hz3, Result.andThen_ok, run_underlying' hu, ht2.size, hmap, k1, Sem.run_pure]
        · cases hc
      · cases hc
    · cases hc

theorem lgetL_ok {cs l : List X} {off n : Nat} (h : lgetL cs off n = some l) {vs : List Value} (hc : CR φ cs vs) : off + n ≤ vs.length ∧ CR φ l ((vs.drop off).take n) := by
  unfold lgetL at h
  cases hb : Nat.ble (off + n) cs.length with
  | false => rw [hb] at h; cases h
  | true =>
    rw [hb] at h
    cases h
    have := Nat.le_of_ble_eq_true hb
    rw [hc.1.1] at this
    exact ⟨this, (hc.drop off).take n⟩

theorem part_ok {e : TypeId} {ti : TI} {i u} (hti : TyR P e ti i u) {o : Nat} {cs : List X} {r : X} (hr : partX ti.agg o ti.size cs = some r) {vs : List Value} (hc : CR φ cs vs) (w : World) :
    ∃ v, (part e vs.toArray o).run P w = .ok v w ∧ VR φ r v := by
  unfold partX at hr
  split at hr
  · rename_i hag
    split at hr
    · rename_i l hl
      cases hr
      obtain ⟨h1, h2⟩ := lgetL_ok hl hc
      refine ⟨.agg ((vs.drop o).take ti.size).toArray, ?_, VR.agg' h2⟩
      have ha := hti.isAgg w
      rw [hag] at ha
      simp only [part, Sem.run_bind, ha, hti.size, Result.andThen, if_true, Sem.run_pure]
      congr 2
      apply Array.ext'
      simp [List.extract_eq_take_drop]
    · cases hr
  · rename_i hag
    have ha := hti.isAgg w
    rw [hag] at ha
    have hlt : o < vs.length := by rw [← hc.1.1]; exact (List.getElem?_eq_some_iff.1 hr).1
    exact ⟨vs[o], by simp [part, ha, Result.andThen, hlt], hc.1.2 o r _ hr (List.getElem?_eq_getElem hlt)⟩

theorem fld_ok (h : TmR φ t a) (ht : TabOk P tab) {x : Operand} {d : D} {r : X} {e : TypeId} {f o : Nat} {ft : TypeId} {fi : TI} {fs : List (Nat × TypeId)} {z1 z2 z3 z4 z5} (he : ty tab e = some ⟨z1, z2, z3, .struct fs, z4, z5⟩) (hp : fs[f]? = some (o, ft)) (hft : ty tab ft = some fi)
    (hc : cD eqs.gs x = some d) (hr : rFld fi.agg o fi.size d t = some r) : Pure P φ a ⟨dst, .field e x f, type, pos, after, guard⟩ r := fun w => by
  unfold rFld at hr
  split at hr
  · rename_i cs h1
    obtain ⟨vs, h2, h3⟩ := inv_agg (ev_ok h hc h1)
    obtain ⟨i, u, hti⟩ := ty_ok ht he
    obtain ⟨fa, g1, g2⟩ := kind_struct (congrArg TI.kind hti.eq).symm
    have hu := hti.under
    rw [g1] at hu
    obtain ⟨i2, u2, ht2⟩ := ty_ok ht hft
    rw [g2, List.getElem?_map, Option.map_eq_some_iff] at hp
    obtain ⟨fd, h6, h7⟩ := hp
    cases h7
    have h6' : fa[f]? = some fd := by simpa using h6
    obtain ⟨v, k1, k2⟩ := part_ok ht2 hr h2 w
    refine ⟨v, ?_, k2⟩
    simp only [execOp, h3]
    exact run_value (by simp [Instr.field, run_underlying' hu, h6', asAgg, Result.andThen, k1])
  · cases hr

theorem bnd_ok (h : TmR φ t a) {o : Option Operand} {d : Option D} {n dflt : Nat} (hc : cDO eqs.gs o = some d) (hb : bnd t d dflt = some n) :
    (o = none ∧ n = dflt) ∨ ∃ x k, o = some x ∧ a.eval x = .int k n := by
  cases o with
  | none =>
    simp [cDO] at hc; subst hc
    simp [bnd] at hb; exact .inl ⟨rfl, hb.symm⟩
  | some x =>
    simp only [cDO] at hc
    split at hc
    · rename_i d' h1
      cases hc
      simp only [bnd] at hb
      split at hb
      · rename_i y h2
        obtain ⟨k, h3⟩ := asI_ok hb (ev_ok h h1 h2)
        exact .inr ⟨x, k, rfl, h3⟩
      · cases hb
    · cases hc
theorem run_bound {k : IntKind} {n y : Nat} (hn : n ≤ y) (code : BoundsCode) (w : World) : (Instr.sliceBound (.int k n) y code).run P w = .ok n w := by
  have : (n : Int) ≤ y := by omega
  simp [Instr.sliceBound, asIntOf, this, hn]

/-- Part of a slice that nobody changes. -/
theorem VR.rs_sub {z : Nat} {es : List (List X)} {b off : Nat} {vs : Nat → Nat → Value} (hz : ∀ e ∈ es, e.length = z)
    (hc : ∀ (i : Nat) e (j : Nat) c, es[i]? = some e → e[j]? = some c → φ.W.cell? ⟨b, off + (i * z + j), none⟩ = some (vs i j) ∧ (vs i j).oneCell' = true)
    (hv : ∀ (i : Nat) e (j : Nat) c, es[i]? = some e → e[j]? = some c → VR φ c (vs i j)) {l hh C : Nat} (h1 : l ≤ hh) (h2 : hh ≤ es.length) (h3 : hh ≤ C) {full : Bool} (hf : full = true → C = hh) :
    VR φ (.rs full z ((es.take hh).drop l)) (.slice (some (if C = l then ⟨b, off, none⟩ else ⟨b, off + l * z, none⟩)) (hh - l) (C - l)) := by
  have hlen : ((es.take hh).drop l).length = hh - l := by simp; omega
  have hget : ∀ i e, ((es.take hh).drop l)[i]? = some e → es[l + i]? = some e := fun i e he => by
    rw [List.getElem?_drop, List.getElem?_take] at he
    split at he
    · exact he
    · cases he
  have hmem : ∀ e ∈ (es.take hh).drop l, e.length = z := fun e he => hz e (List.mem_of_mem_take (List.mem_of_mem_drop he))
  rw [← hlen]
  by_cases hcl : C = l
  · have h0 : (es.take hh).drop l = [] := List.eq_nil_of_length_eq_zero (by omega)
    rw [if_pos hcl, h0]
    exact .rs full z [] b off _ (fun _ _ => undef) (fun e he => by cases he) (Nat.zero_le _) (fun _ => by rw [hcl]; simp) (fun i e j c he => by simp at he) fun i e j c he => by simp at he
  · rw [if_neg hcl]
    refine .rs full z _ b _ _ (fun i j => vs (l + i) j) hmem (by omega) (fun hfull => by rw [hf hfull]; omega) (fun i e j c he hj => ?_) fun i e j c he hj => hv _ e j c (hget i e he) hj
    have := hc _ e j c (hget i e he) hj
    rw [Nat.add_mul] at this
    rw [show off + l * z + (i * z + j) = off + (l * z + i * z + j) by omega]
    exact this

theorem slS_ok (h : TmR φ t a) (ht : TabOk P tab) {x : Operand} {lo hi mx : Option Operand} {d : D} {dl dh dm : Option D} {r : X} {e el : TypeId} {ei : TI} {z1 z2 z3 z4 z5} (he : ty tab e = some ⟨z1, z2, z3, .slice el, z4, z5⟩) (hel : ty tab el = some ei)
    (hc : cD eqs.gs x = some d) (hl : cDO eqs.gs lo = some dl) (hh : cDO eqs.gs hi = some dh) (hm : cDO eqs.gs mx = some dm) (hr : rSlS ei.size d dl dh dm t = some r) :
    Pure P φ a ⟨dst, .slice e x lo hi mx, type, pos, after, guard⟩ r := fun w => by
  obtain ⟨i, u, hti⟩ := ty_ok ht he
  have hu := hti.under
  rw [kind_slice (congrArg TI.kind hti.eq).symm] at hu
  obtain ⟨i2, u2, ht2⟩ := ty_ok ht hel
  unfold rSlS at hr
  split at hr
  · rename_i id off len cap z hx
    obtain ⟨b, s, c, h1, h2, h3, h4, h5, h6⟩ := inv_sl (ev_ok h hc hx)
    split at hr
    · rename_i l hh' hbl hbh
      have hlo := bnd_ok h hl hbl
      have hhi := bnd_ok h hh hbh
      split at hr
      · -- two bounds
        have hmx : mx = none := by
          cases mx with
          | none => rfl
          | some o => simp only [cDO] at hm; split at hm <;> cases hm
        subst hmx
        unfold slX at hr
        simp only at hr
        cases hb : Nat.ble hh' cap && Nat.ble l hh' with
        | false => rw [hb] at hr; cases hr
        | true =>
          rw [hb] at hr
          simp only [cond_true] at hr
          simp only [Bool.and_eq_true] at hb
          have hb1 := Nat.le_of_ble_eq_true hb.1
          have hb2 := Nat.le_of_ble_eq_true hb.2
          have hB : (Instr.sliceBounds true len c (lo.map a.eval) (hi.map a.eval) none).run P w = .ok (l, hh', c) w := by
            rcases hlo with ⟨rfl, rfl⟩ | ⟨o, k, rfl, ho⟩ <;> rcases hhi with ⟨rfl, rfl⟩ | ⟨o', k', rfl, ho'⟩ <;>
              simp_all [Instr.sliceBounds, run_bound, Result.andThen, Nat.le_trans hb1 h4]
          have hrun : (execOp a.eval ⟨dst, .slice e x lo hi none, type, pos, after, guard⟩).run P w =
              .ok (.value (.slice (some (if c = l then ⟨b, off, none⟩ else ⟨b, off + l * ei.size, none⟩)) (hh' - l) (c - l))) w := by
            simp only [execOp, h2]
            refine run_value ?_
            have : ∀ (q : Prop) [Decidable q], (if q then some (⟨b, off, none⟩ : Addr) else (some (⟨b, off, none⟩ : Addr)).map (·.add (l * ei.size))) = some (if q then ⟨b, off, none⟩ else ⟨b, off + l * ei.size, none⟩) := fun q _ => by
              split <;> simp [addr_add]
            simp only [Option.map_none, Instr.sliceAt, Sem.run_bind, run_underlying' hu, Result.andThen_ok, Instr.slice, hB, ht2.size, this, Sem.run_pure]
          refine ⟨_, hrun, ?_⟩
          cases hz : Nat.beq z 0 with
          | true =>
            have hz0 := Nat.eq_of_beq_eq_true hz
            rw [hz] at hr
            simp only [cond_true] at hr
            have hcc := h5 hz0
            subst hcc
            by_cases hcl : c = l
            · subst hcl
              simp at hr
              subst hr
              rw [if_pos rfl, Nat.sub_self]
              exact .sl0 id off _ _ b s h1 (by omega)
            · rw [beq_ff hcl] at hr
              simp only [cond_false] at hr
              cases hr
              rw [if_neg hcl]
              exact .sl0 id _ _ _ b s h1 (by omega)
          | false =>
            have hz0 := Nat.ne_of_beq_eq_false hz
            rw [hz] at hr
            simp only [cond_false] at hr
            obtain ⟨k, hk⟩ : ∃ k, z = k + 1 := ⟨z - 1, by omega⟩
            obtain ⟨g1, g2⟩ := h6 k hk
            subst hk
            cases hl0 : Nat.beq l 0 with
            | true =>
              have := Nat.eq_of_beq_eq_true hl0
              subst this
              simp at hr
              subst hr
              have hif : (if c = 0 then (⟨b, off, none⟩ : Addr) else ⟨b, off + 0 * ei.size, none⟩) = ⟨b, off, none⟩ := by simp
              rw [hif]
              exact .sl1 id off hh' cap k c b s h1 hb1 h4 g1 g2
            | false =>
              have hl1 := Nat.ne_of_beq_eq_false hl0
              rw [hl0] at hr
              simp only [cond_false] at hr
              cases hlast : Nat.blt l cap && Nat.beq (k + 1) (ei.size + 1) with
              | false =>
                rw [hlast] at hr
                simp only [cond_false] at hr
                cases hlh : Nat.beq l hh' with
                | false => rw [hlh] at hr; cases hr
                | true =>
                  rw [hlh] at hr
                  cases hr
                  have hlh' := Nat.eq_of_beq_eq_true hlh
                  subst hlh'
                  rw [Nat.sub_self]
                  exact .es _ _
              | true =>
                rw [hlast] at hr
                cases hr
                simp only [Bool.and_eq_true] at hlast
                have hlt : l < cap := Nat.le_of_ble_eq_true hlast.1
                have hke := Nat.eq_of_beq_eq_true hlast.2
                have hke' : k = ei.size := by omega
                subst hke'
                rw [if_neg (by omega)]
                refine .sl1 id _ _ _ ei.size (c - l) b s h1 (by omega) (by omega) ?_ (by omega)
                rw [Nat.sub_mul]
                have : l * ei.size ≤ c * ei.size := Nat.mul_le_mul_right _ (by omega)
                omega
      · -- three
        rename_i dmx
        split at hr
        · cases hr
        · rename_i dhi
          split at hr
          · rename_i m hbm
            obtain ⟨hm1, km, hm2, hm3⟩ : ∃ o k, mx = some o ∧ a.eval o = .int k m := by
              rcases bnd_ok h hm hbm with ⟨g1, g2⟩ | g
              · subst g1; simp [cDO] at hm
              · obtain ⟨o, k, g1, g2⟩ := g; exact ⟨o, k, g1, g2⟩
            obtain ⟨hh1, kh, hh2, hh3⟩ : ∃ o k, hi = some o ∧ a.eval o = .int k hh' := by
              rcases bnd_ok h hh hbh with ⟨g1, g2⟩ | g
              · subst g1; simp [cDO] at hh
              · obtain ⟨o, k, g1, g2⟩ := g; exact ⟨o, k, g1, g2⟩
            subst hm2; subst hh2
            unfold slX at hr
            simp only at hr
            cases hb : Nat.ble m cap && Nat.ble hh' m && Nat.ble l hh' with
            | false => rw [hb] at hr; cases hr
            | true =>
              rw [hb] at hr
              simp only [cond_true] at hr
              simp only [Bool.and_eq_true] at hb
              have hb1 := Nat.le_of_ble_eq_true hb.1.1
              have hb2 := Nat.le_of_ble_eq_true hb.1.2
              have hb3 := Nat.le_of_ble_eq_true hb.2
              have hB : (Instr.sliceBounds true len c (lo.map a.eval) (some (a.eval hh1)) (some (a.eval hm1))).run P w = .ok (l, hh', m) w := by
                have hM := run_bound (P := P) (k := km) (n := m) (y := c) (by omega) .slice3Acap w
                have hH := run_bound (P := P) (k := kh) (n := hh') (y := m) hb2 .slice3B w
                rcases hlo with ⟨rfl, rfl⟩ | ⟨o, k, rfl, ho⟩
                · simp [Instr.sliceBounds, hm3, hh3, hM, hH, Result.andThen]
                · simp [Instr.sliceBounds, hm3, hh3, hM, hH, Result.andThen, ho, run_bound hb3]
              have hrun : (execOp a.eval ⟨dst, .slice e x lo (some hh1) (some hm1), type, pos, after, guard⟩).run P w =
                  .ok (.value (.slice (some (if m = l then ⟨b, off, none⟩ else ⟨b, off + l * ei.size, none⟩)) (hh' - l) (m - l))) w := by
                simp only [execOp, h2]
                refine run_value ?_
                by_cases hml : m = l
                · simp [Instr.sliceAt, run_underlying' hu, Result.andThen, Instr.slice, hB, ht2.size, hml]
                · simp [Instr.sliceAt, run_underlying' hu, Result.andThen, Instr.slice, hB, ht2.size, hml, addr_add]
              refine ⟨_, hrun, ?_⟩
              cases hr
              by_cases hml : m = l
              · subst hml
                simp
                exact .sl0 id _ _ _ b s h1 (by omega)
              · rw [beq_ff hml, if_neg hml]
                exact .sl0 id _ _ _ b s h1 (by omega)
          · cases hr
    · cases hr
  · rename_i hx
    have h2 := inv_nils (ev_ok h hc hx)
    split at hr
    · rename_i l hh' hbl hbh
      have hlo := bnd_ok h hl hbl
      have hhi := bnd_ok h hh hbh
      have hmx : mx = none := by
        cases mx with
        | none => rfl
        | some o => simp only [cDO] at hm; split at hm <;> cases hm
      subst hmx
      cases hb : Nat.beq l 0 && Nat.beq hh' 0 with
      | false => rw [hb] at hr; cases hr
      | true =>
        rw [hb] at hr
        simp only [cond_true, Option.some.injEq] at hr
        subst hr
        simp only [Bool.and_eq_true] at hb
        have e1 := Nat.eq_of_beq_eq_true hb.1
        have e2 := Nat.eq_of_beq_eq_true hb.2
        subst e1; subst e2
        have hB : (Instr.sliceBounds true 0 0 (lo.map a.eval) (hi.map a.eval) none).run P w = .ok (0, 0, 0) w := by
          have hrb : ∀ (k : IntKind) (code : BoundsCode), (Instr.sliceBound (.int k 0) 0 code).run P w = .ok 0 w := fun k code => run_bound (P := P) (k := k) (n := 0) (y := 0) (Nat.le_refl 0) code w
          rcases hlo with ⟨rfl, _⟩ | ⟨o, k, rfl, ho⟩ <;> rcases hhi with ⟨rfl, _⟩ | ⟨o', k', rfl, ho'⟩ <;>
            simp_all [Instr.sliceBounds, Result.andThen]
        refine ⟨.slice none 0 0, ?_, .nils⟩
        simp only [execOp, h2]
        refine run_value ?_
        simp [Instr.sliceAt, run_underlying' hu, Result.andThen, Instr.slice, hB, ht2.size]
    · cases hr
  · rename_i full z' es hx
    obtain ⟨b, off, c, vs, h2, g1, g2, g3, g4, g5⟩ := inv_rs (ev_ok h hc hx)
    split at hr
    · rename_i l hh' hbl hbh
      have hlo := bnd_ok h hl hbl
      have hhi := bnd_ok h hh hbh
      split at hr
      · have hmx : mx = none := by
          cases mx with
          | none => rfl
          | some o => simp only [cDO] at hm; split at hm <;> cases hm
        subst hmx
        cases hb : (Nat.beq z' ei.size && (Nat.ble l hh' && Nat.ble hh' es.length)) with
        | false => rw [hb] at hr; cases hr
        | true =>
          rw [hb] at hr
          simp only [cond_true, Option.some.injEq] at hr
          subst hr
          simp only [Bool.and_eq_true] at hb
          have hb0 := Nat.eq_of_beq_eq_true hb.1
          have hb2 := Nat.le_of_ble_eq_true hb.2.1
          have hb1 := Nat.le_of_ble_eq_true hb.2.2
          have hB : (Instr.sliceBounds true es.length c (lo.map a.eval) (hi.map a.eval) none).run P w = .ok (l, hh', c) w := by
            rcases hlo with ⟨rfl, rfl⟩ | ⟨o, k, rfl, ho⟩ <;> rcases hhi with ⟨rfl, rfl⟩ | ⟨o', k', rfl, ho'⟩ <;>
              simp_all [Instr.sliceBounds, run_bound, Result.andThen, Nat.le_trans hb1 g2]
          refine ⟨_, ?_, VR.rs_sub g1 g4 g5 hb2 hb1 (C := c) (Nat.le_trans hb1 g2) (full := full && Nat.beq hh' es.length) (fun hfull => ?_)⟩
          · simp only [execOp, h2]
            refine run_value ?_
            have : ∀ (q : Prop) [Decidable q], (if q then some (⟨b, off, none⟩ : Addr) else (some (⟨b, off, none⟩ : Addr)).map (·.add (l * ei.size))) = some (if q then ⟨b, off, none⟩ else ⟨b, off + l * ei.size, none⟩) := fun q _ => by
              split <;> simp [addr_add]
            simp only [Option.map_none, Instr.sliceAt, Sem.run_bind, run_underlying' hu, Result.andThen_ok, Instr.slice, hB, ht2.size, this, Sem.run_pure, hb0]
          · simp only [Bool.and_eq_true] at hfull
            rw [g3 hfull.1, Nat.eq_of_beq_eq_true hfull.2]
      · rename_i dmx
        split at hr
        · cases hr
        · rename_i dhi
          split at hr
          · rename_i m hbm
            obtain ⟨hm1, km, hm2, hm3⟩ : ∃ o k, mx = some o ∧ a.eval o = .int k m := by
              rcases bnd_ok h hm hbm with ⟨g1, g2⟩ | g
              · subst g1; simp [cDO] at hm
              · obtain ⟨o, k, g1, g2⟩ := g; exact ⟨o, k, g1, g2⟩
            obtain ⟨hh1, kh, hh2, hh3⟩ : ∃ o k, hi = some o ∧ a.eval o = .int k hh' := by
              rcases bnd_ok h hh hbh with ⟨g1, g2⟩ | g
              · subst g1; simp [cDO] at hh
              · obtain ⟨o, k, g1, g2⟩ := g; exact ⟨o, k, g1, g2⟩
            subst hm2; subst hh2
            cases hb : (Nat.beq z' ei.size && (Nat.ble l hh' && (Nat.ble hh' m && Nat.ble m es.length))) with
            | false => rw [hb] at hr; cases hr
            | true =>
              rw [hb] at hr
              simp only [cond_true, Option.some.injEq] at hr
              subst hr
              simp only [Bool.and_eq_true] at hb
              have hb0 := Nat.eq_of_beq_eq_true hb.1
              have hb3 := Nat.le_of_ble_eq_true hb.2.1
              have hb2 := Nat.le_of_ble_eq_true hb.2.2.1
              have hb1 := Nat.le_of_ble_eq_true hb.2.2.2
              have hB : (Instr.sliceBounds true es.length c (lo.map a.eval) (some (a.eval hh1)) (some (a.eval hm1))).run P w = .ok (l, hh', m) w := by
                have hM := run_bound (P := P) (k := km) (n := m) (y := c) (by omega) .slice3Acap w
                have hH := run_bound (P := P) (k := kh) (n := hh') (y := m) hb2 .slice3B w
                rcases hlo with ⟨rfl, rfl⟩ | ⟨o, k, rfl, ho⟩
                · simp [Instr.sliceBounds, hm3, hh3, hM, hH, Result.andThen]
                · simp [Instr.sliceBounds, hm3, hh3, hM, hH, Result.andThen, ho, run_bound hb3]
              refine ⟨_, ?_, VR.rs_sub g1 g4 g5 hb3 (Nat.le_trans hb2 hb1) (C := m) hb2 (full := Nat.beq hh' m) (fun hfull => (Nat.eq_of_beq_eq_true hfull).symm)⟩
              simp only [execOp, h2]
              refine run_value ?_
              by_cases hml : m = l
              · simp [Instr.sliceAt, run_underlying' hu, Result.andThen, Instr.slice, hB, ht2.size, hml]
              · simp [Instr.sliceAt, run_underlying' hu, Result.andThen, Instr.slice, hB, ht2.size, hml, addr_add, hb0]
          · cases hr
    · cases hr
  · cases hr
end
end Go.Ex

/- Comparisons and reckoning; all operations that look at values alone. Nothing here speaks of one program. -/
set_option linter.unusedVariables false
set_option linter.unusedSimpArgs false
namespace Go.Ex
section
variable {eqs : Env} {φ : Pl eqs.gs} {t : T X} {a : Act} {P : Program} {tab : Tab}  {dst : Option Tmp} {type : TypeId} {pos : String} {after : Array Edge} {guard : Option (Nat × Bool)}

theorem run_guard_int (op : BinOp) (ty : TypeId) (x y : Operand) (k k' : IntKind) (m n : Int) (w : World) : (eqGuard op ty x y (.int k m) (.int k' n)).run P w = .ok () w := by
  cases op <;> rfl
theorem run_guard_bool (op : BinOp) (ty : TypeId) (x y : Operand) (m n : Bool) (w : World) : (eqGuard op ty x y (.bool m) (.bool n)).run P w = .ok () w := by
  cases op <;> rfl

theorem shl_ok {k k' : IntKind} {m n : Int} {r : X} (hr : shlI k m n = some r) (ty : TypeId) (w : World) : ∃ v, (binOp .shl ty (.int k m) (.int k' n)).run P w = .ok v w ∧ VR φ r v := by
  unfold shlI at hr
  by_cases hn : n < 0
  · simp [hn] at hr
  · simp [hn] at hr
    subst hr
    exact ⟨_, by simp [binOp, Op.shift, hn], .int _ _⟩
theorem shr_ok {k k' : IntKind} {m n : Int} {r : X} (hr : shrI k m n = some r) (ty : TypeId) (w : World) : ∃ v, (binOp .shr ty (.int k m) (.int k' n)).run P w = .ok v w ∧ VR φ r v := by
  unfold shrI at hr
  by_cases hn : n < 0
  · simp [hn] at hr
  · simp [hn] at hr
    subst hr
    exact ⟨_, by simp [binOp, Op.shift, hn], .int _ _⟩

theorem binI_ok {op : BinOp} {k : IntKind} {m n : Int} {r : X} (hr : binI op k m n = some r) (ty : TypeId) (w : World) : ∃ v, (binOp op ty (.int k m) (.int k n)).run P w = .ok v w ∧ VR φ r v := by
  cases op with
  | shl => exact shl_ok hr ty w
  | shr => exact shr_ok hr ty w
  | quo =>
    have hr' : quoI k m n = some r := hr
    unfold quoI at hr'
    by_cases hn : n = 0
    · simp [hn] at hr'
    · simp [hn] at hr'
      subst hr'
      exact ⟨_, by simp [binOp, Op.intDiv, hn], .int _ _⟩
  | rem =>
    have hr' : remI k m n = some r := hr
    unfold remI at hr'
    by_cases hn : n = 0
    · simp [hn] at hr'
    · simp [hn] at hr'
      subst hr'
      exact ⟨_, by simp [binOp, Op.intDiv, hn], .int _ _⟩
  | add => cases hr; exact ⟨_, by simp [binOp, Op.intArith], .int _ _⟩
  | sub => cases hr; exact ⟨_, by simp [binOp, Op.intArith], .int _ _⟩
  | mul => cases hr; exact ⟨_, by simp [binOp, Op.intArith], .int _ _⟩
  | eql => cases hr; exact ⟨.bool (decide (m = n)), by simp [binOp, Op.intCmp]; by_cases h : m = n <;> simp [h], .bool _⟩
  | neq => cases hr; exact ⟨.bool (!decide (m = n)), by simp [binOp, Op.intCmp]; by_cases h : m = n <;> simp [h, bne], .bool _⟩
  | lss => cases hr; exact ⟨_, by simp [binOp, Op.intCmp], .bool _⟩
  | leq => cases hr; exact ⟨_, by simp [binOp, Op.intCmp], .bool _⟩
  | gtr => cases hr; exact ⟨_, by simp [binOp, Op.intCmp], .bool _⟩
  | geq => cases hr; exact ⟨_, by simp [binOp, Op.intCmp], .bool _⟩
  | and => cases hr; exact ⟨_, by simp [binOp, Op.intBits], .int _ _⟩
  | or => cases hr; exact ⟨_, by simp [binOp, Op.intBits], .int _ _⟩
  | xor => cases hr; exact ⟨_, by simp [binOp, Op.intBits], .int _ _⟩
  | andNot => cases hr; exact ⟨_, by simp [binOp, Op.intBits], .int _ _⟩

theorem bin_ok (h : TmR φ t a) {op : BinOp} {x y : Operand} {dx dy : D} {r : X} {e e' : TypeId} (hx : cD eqs.gs x = some dx) (hy : cD eqs.gs y = some dy) (hr : rBin op dx dy t = some r) :
    Pure P φ a ⟨dst, .binOp op e x y e', type, pos, after, guard⟩ r := fun w => by
  unfold rBin at hr
  split at hr
  · rename_i k m h1
    split at hr
    · rename_i k' n h2
      have h3 := inv_int (ev_ok h hx h1)
      have h4 := inv_int (ev_ok h hy h2)
      have key : ∀ v, (binOp op e (.int k m) (.int k' n)).run P w = .ok v w → (execOp a.eval ⟨dst, .binOp op e x y e', type, pos, after, guard⟩).run P w = .ok (.value v) w := fun v hv => by
        simp only [execOp, h3, h4]
        refine run_value ?_
        simp only [Sem.run_bind, run_guard_int, Result.andThen_ok, hv]
      by_cases hk : k = k'
      · subst hk
        simp only [decide_true, cond_true] at hr
        obtain ⟨v, g1, g2⟩ := binI_ok (P := P) (φ := φ) hr e w
        exact ⟨v, key v g1, g2⟩
      · simp only [hk, decide_false, cond_false] at hr
        split at hr
        · obtain ⟨v, g1, g2⟩ := shl_ok (P := P) (φ := φ) (k' := k') hr e w
          exact ⟨v, key v g1, g2⟩
        · obtain ⟨v, g1, g2⟩ := shr_ok (P := P) (φ := φ) (k' := k') hr e w
          exact ⟨v, key v g1, g2⟩
        · cases hr
    · cases hr
  · cases hr

theorem binb_ok (h : TmR φ t a) {op : BinOp} {x y : Operand} {dx dy : D} {r : X} {e e' : TypeId} (hu : P.underlying e = some .bool) (hx : cD eqs.gs x = some dx) (hy : cD eqs.gs y = some dy) (hr : rBinb op dx dy t = some r) :
    Pure P φ a ⟨dst, .binOp op e x y e', type, pos, after, guard⟩ r := fun w => by
  unfold rBinb at hr
  split at hr
  · rename_i m h1
    split at hr
    · rename_i n h2
      have h3 := inv_bool (ev_ok h hx h1)
      have h4 := inv_bool (ev_ok h hy h2)
      have key : ∀ v, (binOp op e (.bool m) (.bool n)).run P w = .ok v w → (execOp a.eval ⟨dst, .binOp op e x y e', type, pos, after, guard⟩).run P w = .ok (.value v) w := fun v hv => by
        simp only [execOp, h3, h4]
        refine run_value ?_
        simp only [Sem.run_bind, run_guard_bool, Result.andThen_ok, hv]
      have hb : (Op.equal e (.bool m) (.bool n)).run P w = .ok (m == n) w := run_equalIn_bool' w 9999 e m n hu
      unfold binB at hr
      split at hr
      · cases hr
        exact ⟨_, key _ (by simp [binOp, hb, Result.andThen]), .bool _⟩
      · cases hr
        exact ⟨_, key _ (by simp [binOp, hb, Result.andThen]), .bool _⟩
      · cases hr
    · cases hr
  · cases hr

/-- Values of the type that hold integers of such kinds alone are compared integer by integer. -/
def EqT (P : Program) (e : TypeId) (ks : List IntKind) : Prop := ∀ (m n : List Int) (x y : Operand) (w : World), m.length = ks.length → n.length = ks.length →
  (Op.equal e (.agg (intVals ks m).toArray) (.agg (intVals ks n).toArray)).run P w = .ok (decide (m = n)) w ∧ ∀ op, (eqGuard op e x y (.agg (intVals ks m).toArray) (.agg (intVals ks n).toArray)).run P w = .ok () w
/-- Values of the type e serve as keys of a map. -/
def KeyT (P : Program) (e : TypeId) (ks : List IntKind) : Prop := (∃ u, P.underlying e = some u ∧ ∀ a b, Instr.sameNow u (.agg a) b = none) ∧ ∀ (m : List Int) (b : Bool) (w : World), m.length = ks.length →
  (Instr.checkKey b 10000 e (.agg (intVals ks m).toArray)).run P w = .ok () w ∧ Instr.sameBits 10000 (.agg (intVals ks m).toArray) (.agg (intVals ks m).toArray) = true
def mixVals : List (Option IntKind) → List Int → List Value
  | some k :: ks, n :: l => .int k n :: mixVals ks l
  | none :: ks, n :: l => .bool (decide (n = 1)) :: mixVals ks l
  | _, _ => []
def mixOk : List (Option IntKind) → List Int → Prop
  | [], [] => True
  | some _ :: ks, _ :: l => mixOk ks l
  | none :: ks, n :: l => (n = 0 ∨ n = 1) ∧ mixOk ks l
  | _, _ => False
def EqM (P : Program) (e : TypeId) (ks : List (Option IntKind)) : Prop := ∀ (m n : List Int) (x y : Operand) (w : World), mixOk ks m → mixOk ks n →
  (Op.equal e (.agg (mixVals ks m).toArray) (.agg (mixVals ks n).toArray)).run P w = .ok (decide (m = n)) w ∧ ∀ op, (eqGuard op e x y (.agg (mixVals ks m).toArray) (.agg (mixVals ks n).toArray)).run P w = .ok () w
theorem mixOf_ok {φ : Pl eqs.gs} : ∀ {ks : List (Option IntKind)} {xs : List X} {ns : List Int}, mixOf ks xs = some ns → ∀ {vs : List Value}, VRL φ xs vs → vs = mixVals ks ns ∧ mixOk ks ns := by
  intro ks
  induction ks with
  | nil =>
    intro xs ns h vs hv
    cases xs with
    | nil => simp [mixOf] at h; subst h; exact ⟨List.length_eq_zero_iff.1 (by have := hv.1; simpa using this.symm), trivial⟩
    | cons x xs => simp [mixOf] at h
  | cons k ks ih =>
    intro xs ns h vs hv
    cases xs with
    | nil => cases k <;> simp [mixOf] at h
    | cons x xs =>
      cases vs with
      | nil => have := hv.1; simp at this
      | cons v vs =>
        have hv0 := hv.2 0 x v rfl rfl
        have hvt : VRL φ xs vs := ⟨by have := hv.1; simpa using this, fun i c u h1 h2 => hv.2 (i + 1) c u (by simpa using h1) (by simpa using h2)⟩
        cases k with
        | some k =>
          cases x with
          | int k2 n =>
            simp only [mixOf] at h
            by_cases hkk : k = k2
            · subst hkk
              simp only [decide_true, cond_true] at h
              cases hl : mixOf ks xs with
              | none => rw [hl] at h; cases h
              | some l =>
                rw [hl] at h; cases h
                obtain ⟨g1, g2⟩ := ih hl hvt
                exact ⟨by rw [inv_int hv0, g1]; rfl, g2⟩
            · simp [hkk] at h
          | _ => simp [mixOf] at h
        | none =>
          cases x with
          | bool b =>
            simp only [mixOf] at h
            cases hl : mixOf ks xs with
            | none => rw [hl] at h; cases h
            | some l =>
              rw [hl] at h; cases h
              obtain ⟨g1, g2⟩ := ih hl hvt
              refine ⟨by rw [inv_bool hv0, g1]; cases b <;> rfl, ?_, g2⟩
              cases b
              · exact .inl rfl
              · exact .inr rfl
          | _ => simp [mixOf] at h
/-- A struct's method, with its value as receiver. -/
def MethT (P : Program) (m : TypeId × String × FuncId) : Prop := ∃ ti r fs, P.info? m.1 = some ti ∧ ti.methods.find? (·.name == m.2.1) = some r ∧ r.path = #[] ∧ r.func = some (m.2.2, false) ∧ P.underlying m.1 = some (.struct fs)
def ckOk : List CK → List Value → Prop
  | [], [] => True
  | .i k :: ks, v :: vs => (∃ n, v = .int k n) ∧ ckOk ks vs
  | .b :: ks, v :: vs => (∃ b, v = .bool b) ∧ ckOk ks vs
  | .s :: ks, v :: vs => (∃ s, v = .string s) ∧ ckOk ks vs
  | _, _ => False
def samV : List CK → List Value → List Value → Bool
  | .i _ :: ks, .int _ a :: us, .int _ b :: vs => decide (a = b) && samV ks us vs
  | .b :: ks, .bool a :: us, .bool b :: vs => (a == b) && samV ks us vs
  | .s :: ks, .string a :: us, .string b :: vs => decide (a.data.toList = b.data.toList) && samV ks us vs
  | _, _, _ => true
/-- Values of the type are compared cell by cell. -/
def EqPx (P : Program) (e : TypeId) (ks : List CK) : Prop := ∀ (us vs : List Value) (x y : Operand) (w : World), ckOk ks us → ckOk ks vs →
  (Op.equal e (.agg us.toArray) (.agg vs.toArray)).run P w = .ok (samV ks us vs) w ∧ ∀ op, (eqGuard op e x y (.agg us.toArray) (.agg vs.toArray)).run P w = .ok () w
def EqsOk (P : Program) (eqs : Env) : Prop := (∀ q ∈ eqs.eq, EqT P q.1 q.2 ∧ KeyT P q.1 q.2) ∧ (∀ m ∈ eqs.ms, MethT P m) ∧ (∀ q ∈ eqs.mx, EqM P q.1 q.2) ∧ ∀ q ∈ eqs.px, EqPx P q.1 q.2

theorem intsOf_ok : ∀ {ks : List IntKind} {xs : List X} {ns : List Int}, intsOf ks xs = some ns → ∀ {vs : List Value}, VRL φ xs vs → vs = intVals ks ns ∧ ns.length = ks.length := by
  intro ks
  induction ks with
  | nil =>
    intro xs ns h vs hv
    cases xs with
    | nil => simp [intsOf] at h; subst h; exact ⟨List.eq_nil_of_length_eq_zero hv.1.symm, rfl⟩
    | cons x xs => simp [intsOf] at h
  | cons k ks ih =>
    intro xs ns h vs hv
    unfold intsOf at h
    split at h
    · rename_i h1; cases h1
    · rename_i k0 ks0 k' n xs' h1
      cases h1
      by_cases hk : k = k'
      · subst hk
        simp only [decide_true, cond_true] at h
        split at h
        · rename_i l hl
          cases h
          cases vs with
          | nil => have := hv.1; simp at this
          | cons v vs =>
            have h2 := inv_int (hv.2 0 _ _ rfl rfl)
            obtain ⟨g1, g2⟩ := ih hl (vs := vs) ⟨by simpa using hv.1, fun i c v hc hv' => hv.2 (i + 1) c v (by simpa using hc) (by simpa using hv')⟩
            subst h2
            exact ⟨by rw [g1]; rfl, by simp [g2]⟩
        · cases h
      · simp [hk] at h
    · cases h

theorem eqa_ok (h : TmR φ t a) {neg : Bool} {ks : List IntKind} {x y : Operand} {dx dy : D} {r : X} {e e' : TypeId} (he : EqT P e ks) (hx : cD eqs.gs x = some dx) (hy : cD eqs.gs y = some dy) (hr : rEqa neg ks dx dy t = some r) :
    Pure P φ a ⟨dst, .binOp (bif neg then .neq else .eql) e x y e', type, pos, after, guard⟩ r := fun w => by
  unfold rEqa at hr
  split at hr
  · rename_i xs h1
    split at hr
    · rename_i ys h2
      split at hr
      · rename_i m n h3 h4
        cases hr
        obtain ⟨us, g1, g2⟩ := inv_agg (ev_ok h hx h1)
        obtain ⟨vs, g3, g4⟩ := inv_agg (ev_ok h hy h2)
        obtain ⟨g5, g6⟩ := intsOf_ok h3 g1.1
        obtain ⟨g7, g8⟩ := intsOf_ok h4 g3.1
        subst g5; subst g7
        obtain ⟨k1, k2⟩ := he m n x y w g6 g8
        cases neg with
        | false =>
          refine ⟨_, ?_, .bool _⟩
          simp only [execOp, g2, g4]
          refine run_value ?_
          simp only [cond_false, Sem.run_bind, k2, Result.andThen_ok]
          simp [binOp, k1, Result.andThen]
        | true =>
          refine ⟨_, ?_, .bool _⟩
          simp only [execOp, g2, g4]
          refine run_value ?_
          simp only [cond_true, Sem.run_bind, k2, Result.andThen_ok]
          simp [binOp, k1, Result.andThen]
      · cases hr
    · cases hr
  · cases hr

theorem run_guard_slice (op : BinOp) (ty : TypeId) (x y : Operand) (a b : Option Addr) (m n c d : Nat) (w : World) : (eqGuard op ty x y (.slice a m c) (.slice b n d)).run P w = .ok () w := by
  cases op <;> rfl
theorem run_guard_ptr (op : BinOp) (ty : TypeId) (x y : Operand) (a b : Option Addr) (w : World) : (eqGuard op ty x y (.pointer a) (.pointer b)).run P w = .ok () w := by
  cases op <;> rfl
theorem run_guard_nf (op : BinOp) (ty : TypeId) (x y : Operand) (w : World) : (eqGuard op ty x y .nilFunc .nilFunc).run P w = .ok () w := by
  cases op <;> rfl
theorem run_guard_f (op : BinOp) (ty : TypeId) (x y : Operand) (f : Fn) (c d : Array Value) (w : World) : (eqGuard op ty x y (.func f c d) .nilFunc).run P w = .ok () w := by
  cases op <;> rfl
theorem nilv {y : Operand} {v : X} (h : cD eqs.gs y = some (.c v)) : VR φ v (a.eval y) := ev_ok (t := T.e) (fun i x h => by rw [get_e] at h; cases h) h rfl

theorem isnilS_ok (h : TmR φ t a) {neg : Bool} {x y : Operand} {dx : D} {r : X} {e e' el : TypeId} (hu : P.underlying e = some (.slice el)) (hx : cD eqs.gs x = some dx) (hy : cD eqs.gs y = some (.c .nils)) (hr : rIsnilS neg dx t = some r) :
    Pure P φ a ⟨dst, .binOp (bif neg then .neq else .eql) e x y e', type, pos, after, guard⟩ r := fun w => by
  have h4 := inv_nils (nilv (φ := φ) (a := a) hy)
  have e1 : ∀ (b : Option Addr) (m c : Nat), (Op.equal e (.slice b m c) (.slice none 0 0)).run P w = .ok b.isNone w := fun b m c => by
    have key : ∀ d, (Op.equalIn (d + 1) e (.slice b m c) (.slice none 0 0)).run P w = .ok b.isNone w := fun d => by
      unfold Op.equalIn
      simp only [Sem.run_bind, run_underlying' hu, Result.andThen_ok]
      cases b <;> rfl
    exact key 9999
  unfold rIsnilS at hr
  split at hr
  · rename_i h1
    have h3 := inv_nils (ev_ok h hx h1)
    cases hr
    cases neg <;> exact ⟨_, by simp only [execOp, h3, h4]; exact run_value (by simp only [Sem.run_bind, run_guard_slice, Result.andThen_ok]; simp [binOp, e1, Result.andThen]), .bool _⟩
  · rename_i h1
    obtain ⟨b, s, c, _, h3, _⟩ := inv_sl (ev_ok h hx h1)
    cases hr
    cases neg <;> exact ⟨_, by simp only [execOp, h3, h4]; exact run_value (by simp only [Sem.run_bind, run_guard_slice, Result.andThen_ok]; simp [binOp, e1, Result.andThen]), .bool _⟩
  · rename_i h1
    obtain ⟨b, c, h3⟩ := inv_es (ev_ok h hx h1)
    cases hr
    cases neg <;> exact ⟨_, by simp only [execOp, h3, h4]; exact run_value (by simp only [Sem.run_bind, run_guard_slice, Result.andThen_ok]; simp [binOp, e1, Result.andThen]), .bool _⟩
  · rename_i h1
    obtain ⟨b, off, c, vs, h3, _⟩ := inv_rs (ev_ok h hx h1)
    cases hr
    cases neg <;> exact ⟨_, by simp only [execOp, h3, h4]; exact run_value (by simp only [Sem.run_bind, run_guard_slice, Result.andThen_ok]; simp [binOp, e1, Result.andThen]), .bool _⟩
  · cases hr
theorem isnilP_ok (h : TmR φ t a) {neg : Bool} {x y : Operand} {dx : D} {r : X} {e e' el : TypeId} (hu : P.underlying e = some (.pointer el)) (hx : cD eqs.gs x = some dx) (hy : cD eqs.gs y = some (.c .nilp)) (hr : rIsnilP neg dx t = some r) :
    Pure P φ a ⟨dst, .binOp (bif neg then .neq else .eql) e x y e', type, pos, after, guard⟩ r := fun w => by
  have h4 : a.eval y = .pointer none := by have := nilv (φ := φ) (a := a) hy; generalize a.eval y = v at this; cases this; rfl
  have e1 : ∀ (b : Option Addr), (Op.equal e (.pointer b) (.pointer none)).run P w = .ok b.isNone w := fun b => by
    have key : ∀ d, (Op.equalIn (d + 1) e (.pointer b) (.pointer none)).run P w = .ok b.isNone w := fun d => by
      unfold Op.equalIn
      simp only [Sem.run_bind, run_underlying' hu, Result.andThen_ok]
      cases b <;> rfl
    exact key 9999
  unfold rIsnilP at hr
  split at hr
  · rename_i h1
    have h3 : a.eval x = .pointer none := by have := ev_ok h hx h1; generalize a.eval x = v at this; cases this; rfl
    cases hr
    cases neg <;> exact ⟨_, by simp only [execOp, h3, h4]; exact run_value (by simp only [Sem.run_bind, run_guard_ptr, Result.andThen_ok]; simp [binOp, e1, Result.andThen]), .bool _⟩
  · rename_i h1
    obtain ⟨b, s, _, h3⟩ := inv_ptr (ev_ok h hx h1)
    cases hr
    cases neg <;> exact ⟨_, by simp only [execOp, h3, h4]; exact run_value (by simp only [Sem.run_bind, run_guard_ptr, Result.andThen_ok]; simp [binOp, e1, Result.andThen]), .bool _⟩
  · rename_i h1
    obtain ⟨b, off, vs, h3, _⟩ := inv_rp (ev_ok h hx h1)
    cases hr
    cases neg <;> exact ⟨_, by simp only [execOp, h3, h4]; exact run_value (by simp only [Sem.run_bind, run_guard_ptr, Result.andThen_ok]; simp [binOp, e1, Result.andThen]), .bool _⟩
  · cases hr
theorem isnilF_ok (h : TmR φ t a) {neg : Bool} {x y : Operand} {dx : D} {r : X} {e e' : TypeId} {p q v} (hu : P.underlying e = some (.func p q v)) (hx : cD eqs.gs x = some dx) (hy : cD eqs.gs y = some (.c .nilf)) (hr : rIsnilF neg dx t = some r) :
    Pure P φ a ⟨dst, .binOp (bif neg then .neq else .eql) e x y e', type, pos, after, guard⟩ r := fun w => by
  have h4 : a.eval y = .nilFunc := by have := nilv (φ := φ) (a := a) hy; generalize a.eval y = v at this; cases this; rfl
  have e1 : (Op.equal e .nilFunc .nilFunc).run P w = .ok true w := by
    have key : ∀ d, (Op.equalIn (d + 1) e .nilFunc .nilFunc).run P w = .ok true w := fun d => by
      unfold Op.equalIn
      simp only [Sem.run_bind, run_underlying' hu, Result.andThen_ok]
      rfl
    exact key 9999
  have e2 : ∀ f c d, (Op.equal e (.func f c d) .nilFunc).run P w = .ok false w := fun f c d' => by
    have key : ∀ d, (Op.equalIn (d + 1) e (.func f c d') .nilFunc).run P w = .ok false w := fun d => by
      unfold Op.equalIn
      simp only [Sem.run_bind, run_underlying' hu, Result.andThen_ok]
      rfl
    exact key 9999
  unfold rIsnilF at hr
  split at hr
  · rename_i h1
    have h3 : a.eval x = .nilFunc := by have := ev_ok h hx h1; generalize a.eval x = v at this; cases this; rfl
    cases hr
    cases neg <;> exact ⟨_, by simp only [execOp, h3, h4]; exact run_value (by simp only [Sem.run_bind, run_guard_nf, Result.andThen_ok]; simp [binOp, e1, Result.andThen]), .bool _⟩
  · rename_i h1
    obtain ⟨vs, _, h3⟩ := inv_fn (ev_ok h hx h1)
    cases hr
    cases neg <;> exact ⟨_, by simp only [execOp, h3, h4]; exact run_value (by simp only [Sem.run_bind, run_guard_f, Result.andThen_ok]; simp [binOp, e2, Result.andThen]), .bool _⟩
  · cases hr
end
end Go.Ex

/- All operations that look at values alone. Nothing here speaks of one program. -/
set_option linter.unusedVariables false
set_option linter.unusedSimpArgs false
namespace Go.Ex
section
variable {eqs : Env} {φ : Pl eqs.gs} {t : T X} {a : Act} {P : Program} {tab : Tab}  {dst : Option Tmp} {type : TypeId} {pos : String} {after : Array Edge} {guard : Option (Nat × Bool)}

theorem find_mem {t : TypeId} {q : TypeId × List IntKind} : ∀ {l : List (TypeId × List IntKind)}, l.find? (fun q => Nat.beq q.1 t) = some q → q ∈ l ∧ q.1 = t := by
  intro l h
  exact ⟨List.mem_of_find?_eq_some h, Nat.eq_of_beq_eq_true (by have := List.find?_some h; simpa using this)⟩

theorem builtinP_ok (ht : TabOk P tab) (h : TmR φ t a) {b : Builtin} {tys : Array TypeId} {args : Array Operand} {i : IP} {r : X} (hc : cBuiltin tab eqs b tys.toList args.toList = some (.p i)) (hr : opP i t = some r) :
    Pure P φ a ⟨dst, .call ⟨.builtin b, args, tys⟩, type, pos, after, guard⟩ r := by
  unfold cBuiltin at hc
  split at hc
  · rename_i t1 x ht1 hx1
    have e1 : tys = #[t1] := by apply Array.ext'; simpa using ht1
    have e2 : args = #[x] := by apply Array.ext'; simpa using hx1
    subst e1; subst e2
    split at hc
    · rename_i he hx
      cases hc
      obtain ⟨i, u, hti⟩ := ty_ok ht he
      have hu := hti.under
      rw [kind_slice (congrArg TI.kind hti.eq).symm] at hu
      exact len_ok h hu hx hr
    · cases hc
  · repeat' split at hc
    all_goals first | (cases hc; done) | skip
    all_goals (rename_i hb; revert hc; cases (Nat.beq _ _ && (Nat.beq _ _ && Nat.blt _ _)) <;> intro hc <;> cases hc)
  · repeat' split at hc
    all_goals cases hc
  · rename_i t1 t2 x y ht1 hx1
    have e1 : tys = #[t1, t2] := by apply Array.ext'; simpa using ht1
    have e2 : args = #[x, y] := by apply Array.ext'; simpa using hx1
    subst e1; subst e2
    split at hc
    · rename_i hx hy
      cases hc
      exact max_ok h hx hy hr
    · cases hc
  · rename_i t1 t2 x y ht1 hx1
    have e1 : tys = #[t1, t2] := by apply Array.ext'; simpa using ht1
    have e2 : args = #[x, y] := by apply Array.ext'; simpa using hx1
    subst e1; subst e2
    split at hc
    · rename_i hx hy
      cases hc
      exact min_ok h hx hy hr
    · cases hc
  · cases hc

theorem opP0_ok (ht : TabOk P tab) (he : EqsOk P eqs) (h : TmR φ t a) {op : Op} {i : IP} {r : X} (hc : cOp0 tab eqs op = some (.p i)) (hr : opP i t = some r) :
    Pure P φ a ⟨dst, op, type, pos, after, guard⟩ r := by
  unfold cOp0 at hc
  split at hc
  · split at hc
    · rename_i hx; cases hc; exact mov_ok h hx hr
    · cases hc
  · split at hc
    · rename_i hx; cases hc; exact asg_ok h hx hr
    · cases hc
  · split at hc
    · rename_i h1 h2 h3; cases hc; exact pick_ok h h1 h2 h3 hr
    · cases hc
  · split at hc <;> cases hc
  · split at hc <;> cases hc
  · -- build
    rename_i e ps
    have : ∃ zs l, i = .build zs l := by
      unfold cBuild at hc
      repeat' split at hc
      all_goals first | (cases hc; done) | (cases hc; exact ⟨_, _, rfl⟩) | skip
      all_goals (revert hc; cases (allTy tab _) <;> intro hc <;> cases hc; exact ⟨_, _, rfl⟩)
    obtain ⟨zs, l, rfl⟩ := this
    exact build_ok h ht hc hr
  · -- buildSlice
    exfalso
    unfold cBuildS at hc
    repeat' split at hc
    all_goals first | (cases hc; done) | skip
    all_goals (revert hc; cases (Nat.ble _ _ && (Nat.beq _ _ && Nat.blt _ _)) <;> intro hc <;> cases hc)
  · split at hc <;> cases hc
  · split at hc <;> cases hc
  · split at hc
    · rename_i h1; cases hc; exact nilc_ok h h1 hr
    · cases hc
  · -- binOp
    split at hc
    · rename_i h0 h1 h2; cases hc; exact bin_ok h h1 h2 hr
    · rename_i h0 h1 h2; cases hc
      obtain ⟨i, u, hti⟩ := ty_ok ht h0
      have hu := hti.under
      have hk := (congrArg TI.kind hti.eq).symm
      have : u = .bool := by cases u <;> simp_all [kindOf, tiOf]
      rw [this] at hu
      exact binb_ok h hu h1 h2 hr
    · rename_i h0 h1 h2
      obtain ⟨i, u, hti⟩ := ty_ok ht h0
      have hu := hti.under
      rw [kind_slice (congrArg TI.kind hti.eq).symm] at hu
      split at hc
      · cases hc; exact isnilS_ok (neg := false) h hu h1 h2 hr
      · cases hc; exact isnilS_ok (neg := true) h hu h1 h2 hr
      · cases hc
    · rename_i h0 h1 h2
      obtain ⟨i, u, hti⟩ := ty_ok ht h0
      have hu := hti.under
      have hk := (congrArg TI.kind hti.eq).symm
      obtain ⟨el, rfl⟩ : ∃ el, u = .pointer el := by cases u <;> simp_all [kindOf, tiOf]
      split at hc
      · cases hc; exact isnilP_ok (neg := false) h hu h1 h2 hr
      · cases hc; exact isnilP_ok (neg := true) h hu h1 h2 hr
      · cases hc
    · rename_i h0 h1 h2
      obtain ⟨i, u, hti⟩ := ty_ok ht h0
      have hu := hti.under
      have hk := (congrArg TI.kind hti.eq).symm
      obtain ⟨p, q, v, rfl⟩ : ∃ p q v, u = .func p q v := by cases u <;> simp_all [kindOf, tiOf]
      split at hc
      · cases hc; exact isnilF_ok (neg := false) h hu h1 h2 hr
      · cases hc; exact isnilF_ok (neg := true) h hu h1 h2 hr
      · cases hc
    · rename_i h0 h1 h2
      split at hc
      · rename_i t' ks hf
        obtain ⟨g1, g2⟩ := find_mem hf
        have hE := he.1 _ g1
        simp only at g2
        subst g2
        split at hc
        · cases hc; exact eqa_ok (neg := false) h hE.1 h1 h2 hr
        · cases hc; exact eqa_ok (neg := true) h hE.1 h1 h2 hr
        · cases hc
      · cases hc
    · cases hc
  · split at hc
    · rename_i h1; cases hc; exact not_ok h h1 hr
    · cases hc
  · split at hc
    · rename_i h1; cases hc; exact neg_ok h h1 hr
    · cases hc
  · split at hc
    · rename_i h1 h2 h3; cases hc
      obtain ⟨i1, u1, hti1⟩ := ty_ok ht h1
      obtain ⟨i2, u2, hti2⟩ := ty_ok ht h2
      have hu1 := hti1.under
      have hu2 := hti2.under
      rw [kind_int (congrArg TI.kind hti1.eq).symm] at hu1
      rw [kind_int (congrArg TI.kind hti2.eq).symm] at hu2
      exact conv_ok h hu1 hu2 h3 hr
    · cases hc
  · split at hc
    · rename_i h1; cases hc; exact mkF_ok h h1 hr
    · cases hc
  · repeat' split at hc
    all_goals cases hc
  · repeat' split at hc
    all_goals first | (cases hc; done) | skip
    all_goals (revert hc; cases (Nat.beq _ _ && Nat.blt _ _) <;> intro hc <;> cases hc)
  · -- slice
    unfold cSlice at hc
    split at hc
    · rename_i h1 h2 h3 h4 h5
      split at hc
      · rename_i h6; cases hc
        exact slS_ok h ht h1 h6 h2 h3 h4 h5 hr
      · cases hc
    · cases hc
  · split at hc
    · rename_i h1 h2
      split at hc
      · rename_i o size hp
        cases hb : Nat.blt 0 size with
        | false => rw [hb] at hc; cases hc
        | true => rw [hb] at hc; cases hc; exact faddr_ok h ht h1 hp hb h2 hr
      · cases hc
    · cases hc
  · split at hc
    · rename_i h1 h2
      split at hc
      · rename_i o ft hp
        split at hc
        · rename_i h3; cases hc; exact fld_ok h ht h1 hp h3 h2 hr
        · cases hc
      · cases hc
    · cases hc
  · split at hc
    · rename_i h1 h2 h3
      split at hc
      · rename_i h4; cases hc; exact iaddrA_ok h ht h1 h4 h2 h3 hr
      · cases hc
    · rename_i h1 h2 h3
      split at hc
      · rename_i h4; cases hc; exact iaddrS_ok h ht h1 h4 h2 h3 hr
      · cases hc
    · cases hc
  · repeat' split at hc
    all_goals cases hc
  · repeat' split at hc
    all_goals cases hc
  · split at hc
    · rename_i h1; cases hc; exact ext_ok h h1 hr
    · cases hc
  · split at hc <;> cases hc
  · split at hc <;> cases hc
  · exact builtinP_ok ht h hc hr
  · cases hc
end
end Go.Ex

