/- A program that runs Go code without arguments on a memory of its own, to be worked out by the kernel; and what it is made from the code by. Nothing here speaks of one program. -/
import Derived.Orders
set_option linter.unusedVariables false
namespace Go.Ex

/-! ## Numerals and tries -/
inductive Pt where
  | z | l (p : Pt) | r (p : Pt)
  deriving Inhabited, DecidableEq

@[reducible] noncomputable def Pt.inc (p : Pt) : Pt := Pt.rec (.l .z) (fun p _ => .r p) (fun _ q => .l q) p
/-- k of the next one, which is worked out first. -/
@[reducible] noncomputable def Pt.incK {β : Type} (p : Pt) (k : Pt → β) : β :=
  Pt.rec (motive := fun _ => (Pt → β) → β) (fun k => k (.l .z)) (fun p _ k => k (.r p)) (fun _ g k => g fun q => k (.l q)) p k
noncomputable def Pt.num (p : Pt) : Nat := Pt.rec 0 (fun _ n => 2 * n + 1) (fun _ n => 2 * n + 2) p

def Pt.ofNatF : Nat → Nat → Pt
  | 0, _ => .z
  | f + 1, k => bif Nat.beq k 0 then .z else bif Nat.beq (k % 2) 1 then .l (Pt.ofNatF f (k / 2)) else .r (Pt.ofNatF f (k / 2 - 1))
def Pt.ofNat (k : Nat) : Pt := Pt.ofNatF k k

inductive T (α : Type) where
  | e
  | n (l : T α) (v : Option α) (r : T α)
  deriving Inhabited

@[reducible] noncomputable def T.get {α : Type} (t : T α) (p : Pt) : Option α :=
  Pt.rec (motive := fun _ => T α → Option α) (fun t => T.rec none (fun _ v _ _ _ => v) t)
    (fun _ g t => T.rec none (fun l _ _ _ _ => g l) t) (fun _ g t => T.rec none (fun _ _ r _ _ => g r) t) p t

@[reducible] noncomputable def T.set {α : Type} (v : Option α) (t : T α) (p : Pt) : T α :=
  Pt.rec (motive := fun _ => T α → T α) (fun t => T.rec (.n .e v .e) (fun l _ r _ _ => .n l v r) t)
    (fun _ g t => T.rec (.n (g .e) none .e) (fun l u r _ _ => .n (g l) u r) t)
    (fun _ g t => T.rec (.n .e none (g .e)) (fun l u r _ _ => .n l u (g r)) t) p t
@[reducible] noncomputable def T.put {α : Type} (t : T α) (p : Pt) (v : α) : T α := T.set (some v) t p
@[reducible] noncomputable def T.del {α : Type} (t : T α) (p : Pt) : T α := T.set none t p
/-- A list's elements from p on. -/
@[reducible] noncomputable def T.putL {α : Type} (l : List α) (t : T α) (p : Pt) : T α :=
  List.rec (motive := fun _ => T α → Pt → T α) (fun t _ => t) (fun v _ g t p => g (t.put p v) p.inc) l t p
noncomputable def T.ofList {α : Type} (l : List α) : T α := T.putL l .e .z

/-! ## Values -/
/-- A value; 'sl .. z': a slice with at least so much room; z = 0: with just so much; z = k + 1: its block, of elements of k cells, ends where it does. -/
inductive X where
  | bool (b : Bool)
  | int (k : IntKind) (n : Int)
  | str (s : List UInt8)
  | nilp | nilm | nilf | nili | nils
  | ptr (id : Pt) (off : Nat)
  | sl (id : Pt) (off len cap z : Nat)
  | map (id : Pt)
  | fn (f : FuncId) (caps : List X)
  | ifc (t : TypeId) (x : X)
  | agg (cs : List X)
  | tup (cs : List X)
  deriving Inhabited

inductive O where
  | cells (cs : List X)
  | map (es : List (Int × X)) (k : IntKind)
  | mapA (es : List (List Int × X)) (ks : List IntKind)
  deriving Inhabited

abbrev H := T O

/-- An operand. -/
inductive D where
  | t (p : Pt)
  | c (x : X)
  deriving Inhabited

/-- Operations that look at values alone. -/
inductive IP where
  | mov (x : D)
  | pick (c a b : D)
  | build (zs : List X) (ps : List (Nat × Nat × D))
  | nilc (x : D)
  | bin (op : BinOp) (x y : D)
  | binb (op : BinOp) (x y : D)
  | eqa (neg : Bool) (ks : List IntKind) (x y : D)
  | isnilS (neg : Bool) (x : D)
  | isnilP (neg : Bool) (x : D)
  | isnilF (neg : Bool) (x : D)
  | not (x : D)
  | neg (x : D)
  | conv (k : IntKind) (x : D)
  | mkF (f : FuncId) (b : List D)
  | slS (z : Nat) (x : D) (lo hi mx : Option D)
  | faddr (o : Nat) (x : D)
  | fld (agg : Bool) (o size : Nat) (x : D)
  | iaddrA (n z : Nat) (x i : D)
  | iaddrS (z : Nat) (x i : D)
  | ext (x : D) (i : Nat)
  | len (x : D)
  | max (x y : D)
  | min (x y : D)
  | bad
  deriving Inhabited
/-- Operations that look into memory. -/
inductive IR where
  | load1 (a : D)
  | loadA (size : Nat) (a : D)
  | look (zero : X) (ok : Bool) (m k : D)
  deriving Inhabited
/-- Operations that make a block. -/
inductive IA where
  | new (zs : List X)
  | box (x : D)
  | buildS (zs : List X) (len : Nat) (ps : List (Nat × Nat × D))
  | mkM (k : IntKind)
  | mkMA (ks : List IntKind)
  | mkS (zs : List X) (bytes : Nat) (l c : D)
  deriving Inhabited
/-- Operations that may change what was there. -/
inductive IW where
  | store (size : Nat) (a x : D)
  | upd (m k v : D)
  | call (f : FuncId) (args : List D)
  | callv (f : D) (args : List D)
  | app (z bytes : Nat) (s x : D)
  | copy (z : Nat) (d s : D)
  deriving Inhabited

inductive J where
  | p (d : Pt) (i : IP)
  | r (d : Pt) (i : IR)
  | a (d : Pt) (i : IA)
  | w (d : Option Pt) (i : IW)
  | g (p : Pt) (want : Bool) (d : Option Pt) (j : J)
  deriving Inhabited

inductive K where
  | skip
  | reg (l : List J)
  | draw (m : Nat) (l : List (J × List Nat))
  | seq (a b : K)
  | cond (c : D) (a b : K)
  | block (id : Nat) (b : K)
  | loop (b : K)
  | exit (id : Nat)
  | scope (b : K) (l : Nat) (rest : K)
  | label
  | goto (l : Nat)
  | ret
  | bad
  deriving Inhabited

inductive R where
  | tmp (p : Pt)
  | cell1 (p : Pt)
  | cellA (p : Pt) (size : Nat)
  deriving Inhabited

structure FI where
  code : K
  results : List R
  nt : Nat

/-! ## Running -/
@[reducible] noncomputable def ev (t : T X) (d : D) : Option X := D.rec (motive := fun _ => Option X) (fun p => t.get p) (fun x => some x) d
noncomputable def evL (t : T X) (l : List D) : Option (List X) :=
  List.rec (some []) (fun d _ r => match ev t d with
    | none => none
    | some x => match r with
      | none => none
      | some xs => some (x :: xs)) l

def X.cells : X → List X
  | .agg cs => cs
  | x => [x]
/-- Is it the value of one cell? -/
def X.one : X → Bool
  | .agg _ => false
  | .tup _ => false
  | _ => true

def quoI (k : IntKind) (a b : Int) : Option X := bif decide (b = 0) then none else some (.int k (k.wrap (a.tdiv b)))
def remI (k : IntKind) (a b : Int) : Option X := bif decide (b = 0) then none else some (.int k (a.tmod b))
def shlI (k : IntKind) (a b : Int) : Option X := bif decide (b < 0) then none else some (.int k (k.wrap (a * 2 ^ (Nat.min b.toNat k.bits))))
def shrI (k : IntKind) (a b : Int) : Option X := bif decide (b < 0) then none else some (.int k (a.fdiv (2 ^ (Nat.min b.toNat k.bits))))
def bitI (f : (w : Nat) → BitVec w → BitVec w → BitVec w) (k : IntKind) (a b : Int) : Option X :=
  some (.int k (k.wrap (f k.bits (BitVec.ofInt k.bits a) (BitVec.ofInt k.bits b)).toNat))

def binI (op : BinOp) (k : IntKind) (a b : Int) : Option X :=
  match op with
  | .add => some (.int k (k.wrap (a + b)))
  | .sub => some (.int k (k.wrap (a - b)))
  | .mul => some (.int k (k.wrap (a * b)))
  | .quo => quoI k a b
  | .rem => remI k a b
  | .eql => some (.bool (decide (a = b)))
  | .neq => some (.bool (!decide (a = b)))
  | .lss => some (.bool (decide (a < b)))
  | .leq => some (.bool (decide (a ≤ b)))
  | .gtr => some (.bool (decide (b < a)))
  | .geq => some (.bool (decide (b ≤ a)))
  | .shl => shlI k a b
  | .shr => shrI k a b
  | .and => bitI (fun _ a b => a &&& b) k a b
  | .or => bitI (fun _ a b => a ||| b) k a b
  | .xor => bitI (fun _ a b => a ^^^ b) k a b
  | .andNot => bitI (fun _ a b => a &&& ~~~b) k a b

def binB (op : BinOp) (a b : Bool) : Option X :=
  match op with
  | .eql => some (.bool (a == b))
  | .neq => some (.bool (!(a == b)))
  | _ => none

noncomputable def rMov (x : D) (t : T X) : Option X := ev t x
noncomputable def rPick (c a b : D) (t : T X) : Option X := match ev t c with
  | some (.bool true) => ev t a
  | some (.bool false) => ev t b
  | _ => none
def lput (cs : List X) (off : Nat) (new : List X) : Option (List X) :=
  bif Nat.ble (off + new.length) cs.length then some (cs.take off ++ new ++ cs.drop (off + new.length)) else none
def lput1 : List X → Nat → X → Option (List X)
  | [], _, _ => none
  | _ :: cs, 0, x => some (x :: cs)
  | c :: cs, n + 1, x => match lput1 cs n x with
    | none => none
    | some cs => some (c :: cs)
def lgetL (cs : List X) (off n : Nat) : Option (List X) := bif Nat.ble (off + n) cs.length then some ((cs.drop off).take n) else none
/-- The cells of a value that goes into memory. -/
def inCells (x : X) : Option (List X) := match x with
  | .agg cs => some cs
  | .tup _ => none
  | x => some [x]
noncomputable def fillX (t : T X) : List (Nat × Nat × D) → List X → Option (List X)
  | [], cs => some cs
  | (off, size, d) :: l, cs => match ev t d with
    | none => none
    | some v => match inCells v with
      | none => none
      | some vc => bif Nat.beq vc.length size then match lput cs off vc with
          | none => none
          | some cs => fillX t l cs
        else none
noncomputable def rBuild (zs : List X) (ps : List (Nat × Nat × D)) (t : T X) : Option X := match fillX t ps zs with
  | none => none
  | some cs => some (.agg cs)
noncomputable def rNilc (x : D) (t : T X) : Option X := match ev t x with
  | some (.ptr id off) => some (.ptr id off)
  | some (.fn f caps) => some (.fn f caps)
  | _ => none
noncomputable def rBin (op : BinOp) (x y : D) (t : T X) : Option X := match ev t x with
  | some (.int k a) => match ev t y with
    | some (.int k' b) => bif decide (k = k') then binI op k a b else (match op with | .shl => shlI k a b | .shr => shrI k a b | _ => none)
    | _ => none
  | _ => none
noncomputable def rBinb (op : BinOp) (x y : D) (t : T X) : Option X := match ev t x with
  | some (.bool a) => match ev t y with
    | some (.bool b) => binB op a b
    | _ => none
  | _ => none
def intsOf : List IntKind → List X → Option (List Int)
  | [], [] => some []
  | k :: ks, .int k' n :: xs => bif decide (k = k') then (match intsOf ks xs with | some l => some (n :: l) | none => none) else none
  | _, _ => none
noncomputable def rEqa (neg : Bool) (ks : List IntKind) (x y : D) (t : T X) : Option X := match ev t x with
  | some (.agg a) => match ev t y with
    | some (.agg b) => match intsOf ks a, intsOf ks b with
      | some m, some n => some (.bool (bif neg then !decide (m = n) else decide (m = n)))
      | _, _ => none
    | _ => none
  | _ => none
/-- x == nil, of a slice, a pointer, a function -/
noncomputable def rIsnilS (neg : Bool) (x : D) (t : T X) : Option X := match ev t x with
  | some .nils => some (.bool !neg)
  | some (.sl _ _ _ _ _) => some (.bool neg)
  | _ => none
noncomputable def rIsnilP (neg : Bool) (x : D) (t : T X) : Option X := match ev t x with
  | some .nilp => some (.bool !neg)
  | some (.ptr _ _) => some (.bool neg)
  | _ => none
noncomputable def rIsnilF (neg : Bool) (x : D) (t : T X) : Option X := match ev t x with
  | some .nilf => some (.bool !neg)
  | some (.fn _ _) => some (.bool neg)
  | _ => none
noncomputable def rNot (x : D) (t : T X) : Option X := match ev t x with
  | some (.bool b) => some (.bool !b)
  | _ => none
noncomputable def rNeg (x : D) (t : T X) : Option X := match ev t x with
  | some (.int k a) => some (.int k (k.wrap (0 - a)))
  | _ => none
noncomputable def rConv (k : IntKind) (x : D) (t : T X) : Option X := match ev t x with
  | some (.int _ a) => some (.int k (k.wrap a))
  | _ => none
noncomputable def rMkF (f : FuncId) (b : List D) (t : T X) : Option X := match evL t b with
  | some b => some (.fn f b)
  | none => none
def asI : X → Option Nat
  | .int _ (.ofNat m) => some m
  | _ => none
noncomputable def bnd (t : T X) (d : Option D) (dflt : Nat) : Option Nat := match d with
  | none => some dflt
  | some d => match ev t d with
    | some x => asI x
    | none => none
/-- s[l:h] or s[l:h:m]. -/
def slX (z0 : Nat) (id : Pt) (off cap z l h : Nat) (m : Option Nat) : Option X :=
  match m with
  | some m => bif Nat.ble m cap && Nat.ble h m && Nat.ble l h then some (.sl id (bif Nat.beq m l then off else off + l * z0) (h - l) (m - l) 0) else none
  | none => bif Nat.ble h cap && Nat.ble l h then
      bif Nat.beq z 0 then some (.sl id (bif Nat.beq cap l then off else off + l * z0) (h - l) (cap - l) 0)
      else bif Nat.beq l 0 then some (.sl id off h cap z)
      else bif Nat.blt l cap && Nat.beq z (z0 + 1) then some (.sl id (off + l * z0) (h - l) (cap - l) z)
      else none
    else none
noncomputable def rSlS (z : Nat) (x : D) (lo hi mx : Option D) (t : T X) : Option X := match ev t x with
  | some (.sl id off len cap z') => match bnd t lo 0, bnd t hi len with
    | some l, some hh => match mx with
      | none => slX z id off cap z' l hh none
      | some _ => match hi with
        | none => none
        | some _ => match bnd t mx 0 with
          | some m => slX z id off cap z' l hh (some m)
          | none => none
    | _, _ => none
  | _ => none
noncomputable def rFaddr (o : Nat) (x : D) (t : T X) : Option X := match ev t x with
  | some (.ptr id off) => some (.ptr id (off + o))
  | _ => none
def partX (agg : Bool) (o size : Nat) (cs : List X) : Option X := match agg with
  | true => match lgetL cs o size with
    | some l => some (.agg l)
    | none => none
  | false => cs[o]?
noncomputable def rFld (agg : Bool) (o size : Nat) (x : D) (t : T X) : Option X := match ev t x with
  | some (.agg cs) => partX agg o size cs
  | _ => none
noncomputable def rIaddrA (m z : Nat) (x i : D) (t : T X) : Option X := match ev t x, ev t i with
  | some (.ptr id off), some i => match asI i with
    | some i => bif Nat.blt i m then some (.ptr id (off + i * z)) else none
    | none => none
  | _, _ => none
noncomputable def rIaddrS (z : Nat) (x i : D) (t : T X) : Option X := match ev t x, ev t i with
  | some (.sl id off len _ _), some i => match asI i with
    | some i => bif Nat.blt i len then some (.ptr id (off + i * z)) else none
    | none => none
  | _, _ => none
noncomputable def rExt (x : D) (i : Nat) (t : T X) : Option X := match ev t x with
  | some (.tup vs) => vs[i]?
  | _ => none
noncomputable def rLen (x : D) (t : T X) : Option X := match ev t x with
  | some (.sl _ _ n _ _) => some (.int .i64 (.ofNat n))
  | some .nils => some (.int .i64 (.ofNat 0))
  | _ => none
noncomputable def rMax (x y : D) (t : T X) : Option X := match ev t x, ev t y with
  | some (.int k a), some (.int _ b) => some (.int k (bif decide (a < b) then b else a))
  | _, _ => none
noncomputable def rMin (x y : D) (t : T X) : Option X := match ev t x, ev t y with
  | some (.int k a), some (.int _ b) => some (.int k (bif decide (b < a) then b else a))
  | _, _ => none

noncomputable def opP (i : IP) : T X → Option X :=
  IP.rec (motive := fun _ => T X → Option X) rMov rPick rBuild rNilc rBin rBinb rEqa rIsnilS rIsnilP rIsnilF rNot rNeg rConv rMkF rSlS rFaddr rFld rIaddrA rIaddrS rExt rLen rMax rMin (fun _ => none) i

noncomputable def rLoad1 (a : D) (t : T X) (h : H) : Option X := match ev t a with
  | some (.ptr id off) => match h.get id with
    | some (.cells cs) => cs[off]?
    | _ => none
  | _ => none
noncomputable def rLoadA (size : Nat) (a : D) (t : T X) (h : H) : Option X := match ev t a with
  | some (.ptr id off) => match h.get id with
    | some (.cells cs) => match lgetL cs off size with
      | some l => some (.agg l)
      | none => none
    | _ => none
  | _ => none
def mget (k : Int) : List (Int × X) → Option X
  | [] => none
  | (k', v) :: es => bif decide (k = k') then some v else mget k es
def mset (k : Int) (v : X) : List (Int × X) → List (Int × X)
  | [] => [(k, v)]
  | (k', v') :: es => bif decide (k = k') then (k, v) :: es else (k', v') :: mset k v es
def lookR (zero : X) (ok : Bool) (r : Option X) : X := match ok, r with
  | true, some v => .tup [v, .bool true]
  | true, none => .tup [zero, .bool false]
  | false, some v => v
  | false, none => zero
noncomputable def rLook (zero : X) (ok : Bool) (m k : D) (t : T X) (h : H) : Option X := match ev t m, ev t k with
  | some (.map id), some (.int ki k) => match h.get id with
    | some (.map es kj) => bif decide (ki = kj) then some (lookR zero ok (mget k es)) else none
    | _ => none
  | _, _ => none
noncomputable def opR (i : IR) : T X → H → Option X :=
  IR.rec (motive := fun _ => T X → H → Option X) rLoad1 rLoadA rLook i

def repL (n : Nat) (l : List X) : List X := (List.replicate n l).flatten
noncomputable def rNew (zs : List X) (t : T X) (n : Pt) : Option (X × O) := some (.ptr n 0, .cells zs)
noncomputable def rBox (x : D) (t : T X) (n : Pt) : Option (X × O) := match ev t x with
  | none => none
  | some v => match inCells v with
    | none => none
    | some l => some (.ptr n 0, .cells l)
noncomputable def rBuildS (zs : List X) (len : Nat) (ps : List (Nat × Nat × D)) (t : T X) (n : Pt) : Option (X × O) :=
  match fillX t ps (repL len zs) with
  | none => none
  | some cs => some (.sl n 0 len len 0, .cells cs)
noncomputable def rMkM (k : IntKind) (t : T X) (n : Pt) : Option (X × O) := some (.map n, .map [] k)
noncomputable def rMkMA (ks : List IntKind) (t : T X) (n : Pt) : Option (X × O) := some (.map n, .mapA [] ks)
noncomputable def rMkS (zs : List X) (bytes : Nat) (l c : D) (t : T X) (n : Pt) : Option (X × O) := match ev t l, ev t c with
  | some l, some c => match asI l, asI c with
    | some l, some c => bif Nat.ble l c && (Nat.ble c 1000000 && Nat.ble (c * bytes) 1000000000) then some (.sl n 0 l c 0, .cells (repL c zs)) else none
    | _, _ => none
  | _, _ => none
noncomputable def opA (i : IA) : T X → Pt → Option (X × O) :=
  IA.rec (motive := fun _ => T X → Pt → Option (X × O)) rNew rBox rBuildS rMkM rMkMA rMkS i

abbrev Out := Option (X × H × Pt)
abbrev CallT := FuncId → List X → H → Pt → Out

noncomputable def putX (h : H) (n : Pt) (id : Pt) (off : Nat) (l : List X) (r : X) : Out := match h.get id with
  | some (.cells cs) => match lput cs off l with
    | some cs => some (r, h.put id (.cells cs), n)
    | none => none
  | _ => none
noncomputable def rStore (size : Nat) (a x : D) (call : CallT) (t : T X) (h : H) (n : Pt) : Out := match ev t a, ev t x with
  | some (.ptr id off), some v => match inCells v with
    | some l => bif Nat.beq l.length size then putX h n id off l (.tup []) else none
    | none => none
  | _, _ => none
noncomputable def rUpd (m k v : D) (call : CallT) (t : T X) (h : H) (n : Pt) : Out := match ev t m, ev t k, ev t v with
  | some (.map id), some (.int ki k), some v => match h.get id with
    | some (.map es kj) => bif decide (ki = kj) then some (.tup [], h.put id (.map (mset k v es) kj), n) else none
    | _ => none
  | _, _, _ => none
noncomputable def rCall (f : FuncId) (args : List D) (call : CallT) (t : T X) (h : H) (n : Pt) : Out := match evL t args with
  | some args => call f args h n
  | none => none
noncomputable def rCallv (f : D) (args : List D) (call : CallT) (t : T X) (h : H) (n : Pt) : Out := match ev t f, evL t args with
  | some (.fn f caps), some args => call f (args ++ caps) h n
  | _, _ => none
noncomputable def srcX (h : H) (z : Nat) (x : X) : Option (Nat × List X) := match x with
  | .nils => some (0, [])
  | .sl id off k _ _ => match h.get id with
    | some (.cells cs) => match lgetL cs off (k * z) with
      | some l => some (k, l)
      | none => none
    | _ => none
  | _ => none
noncomputable def appN (z bytes k : Nat) (new : List X) (h : H) (n : Pt) : Out :=
  bif Nat.ble k 1000000 && Nat.ble (k * bytes) 1000000000 then n.incK fun m => some (.sl n 0 k k (z + 1), h.put n (.cells new), m) else none
noncomputable def appX (z bytes : Nat) (k : Nat) (new : List X) (s : X) (h : H) (n : Pt) : Out := match s with
  | .nils => appN z bytes k new h n
  | .sl id off len cap z' =>
    bif Nat.ble (len + k) cap then putX h n id (off + len * z) new (.sl id off (len + k) cap z')
    else match srcX h z s with
      | none => none
      | some (_, old) => bif Nat.beq z' 0 then appN z bytes (len + k) (old ++ new) h n
        else bif Nat.beq off 0 && Nat.beq z' (z + 1) then appN z bytes (len + k) (old ++ new) (h.del id) n else none
  | _ => none
noncomputable def rApp (z bytes : Nat) (s x : D) (call : CallT) (t : T X) (h : H) (n : Pt) : Out := match ev t s, ev t x with
  | some s, some x => match srcX h z x with
    | some (k, new) => bif Nat.beq k 0 then (match s with | .nils => some (s, h, n) | .sl _ _ _ _ _ => some (s, h, n) | _ => none) else appX z bytes k new s h n
    | none => none
  | _, _ => none
noncomputable def rCopy (z : Nat) (d s : D) (call : CallT) (t : T X) (h : H) (n : Pt) : Out := match ev t d, ev t s with
  | some (.sl id off k _ _), some (.sl id' off' k' _ _) => match h.get id' with
    | some (.cells cs) => match lgetL cs off' (Nat.min k' k * z) with
      | some l => putX h n id off l (.int .i64 (.ofNat (Nat.min k' k)))
      | none => none
    | _ => none
  | _, _ => none
noncomputable def opW (i : IW) : CallT → T X → H → Pt → Out :=
  IW.rec (motive := fun _ => CallT → T X → H → Pt → Out) rStore rUpd rCall rCallv rApp rCopy i

inductive S3 where
  | no
  | ok (t : T X) (h : H) (n : Pt)

@[reducible] noncomputable def putO (t : T X) (d : Option Pt) (x : X) : T X := Option.rec t (fun d => t.put d x) d
noncomputable def stP (d : Pt) (i : IP) (call : CallT) (t : T X) (h : H) (n : Pt) : S3 :=
  Option.rec .no (fun x => .ok (t.put d x) h n) (opP i t)
noncomputable def stR (d : Pt) (i : IR) (call : CallT) (t : T X) (h : H) (n : Pt) : S3 :=
  Option.rec .no (fun x => .ok (t.put d x) h n) (opR i t h)
noncomputable def stA (d : Pt) (i : IA) (call : CallT) (t : T X) (h : H) (n : Pt) : S3 :=
  Option.rec .no (fun q => Prod.rec (fun x o => n.incK fun m => .ok (t.put d x) (h.put n o) m) q) (opA i t n)
noncomputable def stW (d : Option Pt) (i : IW) (call : CallT) (t : T X) (h : H) (n : Pt) : S3 :=
  Option.rec .no (fun q => Prod.rec (fun x q => Prod.rec (fun h n => .ok (putO t d x) h n) q) q) (opW i call t h n)
noncomputable def stG (p : Pt) (want : Bool) (d : Option Pt) (j : J) (st : CallT → T X → H → Pt → S3) (call : CallT) (t : T X) (h : H) (n : Pt) : S3 :=
  match t.get p with
  | some (.bool b) => bif b == want then st call t h n else .ok (putO t d (.tup [])) h n
  | some (.tup []) => .ok (putO t d (.tup [])) h n
  | _ => .no
noncomputable def step (j : J) : CallT → T X → H → Pt → S3 :=
  J.rec (motive := fun _ => CallT → T X → H → Pt → S3) stP stR stA stW stG j

inductive E where
  | normal | exit (id : Nat) | ret | goto (l : Nat)

inductive Res where
  | no
  | go (e : E) (t : T X) (h : H) (n : Pt)

noncomputable def opsX (call : CallT) (l : List J) : T X → H → Pt → Res :=
  List.rec (motive := fun _ => T X → H → Pt → Res) (fun t h n => .go .normal t h n)
    (fun o _ rest t h n => S3.rec .no (fun t h n => rest t h n) (step o call t h n)) l

/-! ### Regions of any order -/
/-- 0: values alone, 1: looks into memory, 2: makes a block, 3: may change what was there -/
noncomputable def J.kind (j : J) : Nat := J.rec (fun _ _ => 0) (fun _ _ => 1) (fun _ _ => 2) (fun _ _ => 3) (fun _ _ _ _ k => k) j
def beqX1 : X → X → Bool
  | .bool a, .bool b => a == b
  | .int k a, .int k' b => decide (k = k') && decide (a = b)
  | .nilp, .nilp => true
  | .nilm, .nilm => true
  | .nilf, .nilf => true
  | .nili, .nili => true
  | .nils, .nils => true
  | .ptr i o, .ptr j p => decide (i = j) && Nat.beq o p
  | .sl i o l c z, .sl j o' l' c' z' => decide (i = j) && (Nat.beq o o' && (Nat.beq l l' && (Nat.beq c c' && Nat.beq z z')))
  | .map i, .map j => decide (i = j)
  | .tup [], .tup [] => true
  | .fn f [], .fn g [] => Nat.beq f g
  | _, _ => false
def beqL : List X → List X → Bool
  | [], [] => true
  | x :: xs, y :: ys => beqX1 x y && beqL xs ys
  | _, _ => false
def beqX : X → X → Bool
  | .agg a, .agg b => beqL a b
  | .fn f a, .fn g b => Nat.beq f g && beqL a b
  | .tup a, .tup b => beqL a b
  | x, y => beqX1 x y
def beqO : O → O → Bool
  | .cells a, .cells b => beqL a b
  | .map [] k, .map [] k' => decide (k = k')
  | .mapA [] k, .mapA [] k' => decide (k = k')
  | _, _ => false

/-- The run of a region in the order of the text: what the temporaries and the memory hold; the next number for blocks that calls make, and for those that the region's own operations make; how many operations have come (i), and how many when the last one came that may change memory (q); the memories behind those. -/
structure DS where
  t : T X
  h : H
  n : Pt
  na : Pt
  i : Nat
  q : Nat
  hs : List (Nat × H)
noncomputable def dPure (call : CallT) (j : J) (s : DS) : Option DS := match step j call s.t s.h s.n with
  | .ok t _ _ => some ⟨t, s.h, s.n, s.na, s.i + 1, s.q, s.hs⟩
  | .no => none
noncomputable def dAlc (call : CallT) (j : J) (s : DS) : Option DS := match step j call s.t s.h s.na with
  | .ok t h na => some ⟨t, h, s.n, na, s.i + 1, s.q, s.hs⟩
  | .no => none
noncomputable def dWr (call : CallT) (j : J) (s : DS) : Option DS := match step j call s.t s.h s.n with
  | .ok t h n => some ⟨t, h, n, s.na, s.i + 1, s.i + 1, (s.i + 1, h) :: s.hs⟩
  | .no => none
noncomputable def dStep (call : CallT) (j : J) (s : DS) : Option DS :=
  J.rec (motive := fun _ => J → DS → Option DS) (fun _ _ => dPure call) (fun _ _ => dPure call) (fun _ _ => dAlc call) (fun _ _ => dWr call) (fun _ _ _ _ f => f) j j s
noncomputable def drawGo (call : CallT) (l : List (J × List Nat)) (s : DS) : Option DS :=
  List.rec (motive := fun _ => DS → Option DS) (fun s => some s) (fun q _ rest s => match dStep call q.1 s with | some s => rest s | none => none) l s
/-- What it does, told anew with all temporaries known, on another memory. -/
noncomputable def reR (call : CallT) (j : J) (d : Option Pt) (t : T X) (h : H) : Bool := match d with
  | none => false
  | some d => match t.get d, step j call t h .z with
    | some x, .ok t' _ _ => match t'.get d with
      | some y => beqX y x
      | none => false
    | _, _ => false
noncomputable def J.dst (j : J) : Option Pt := match j with
  | .p d _ => some d
  | .r d _ => some d
  | .a d _ => some d
  | .w d _ => d
  | .g _ _ d _ => d
/-- The block m is, in another memory, as it was made. -/
noncomputable def reA (m : Pt) (c : O) (h : H) : Bool := match h.get m with
  | some o => beqO c o
  | none => false
noncomputable def reAll (f : H → Bool) (ok : Nat → Bool) : List (Nat × H) → Bool
  | [] => true
  | (q, h) :: hs => (bif ok q then f h else true) && reAll f ok hs
def memN (q : Nat) : List Nat → Bool
  | [] => false
  | x :: l => Nat.beq q x || memN q l
/-- The check behind the run: hs: the memories that it went through; s: the run once more. -/
noncomputable def drawRe (call : CallT) (hs : List (Nat × H)) (l : List (J × List Nat)) (s : DS) : Bool :=
  List.rec (motive := fun _ => DS → Bool) (fun s => true) (fun p _ rest s => match dStep call p.1 s with
    | none => false
    | some s' => (match p.1.kind with
      | 1 => reAll (reR call p.1 p.1.dst s'.t) (fun q => memN q p.2 && !Nat.beq q s.q) hs
      | 2 => match s'.h.get s.na with
        | some c => reAll (reA s.na c) (fun q => memN q p.2 && Nat.blt s.q q) hs
        | none => true
      | _ => true) && rest s') l s
noncomputable def skipN (n : Pt) (m : Nat) : Pt := Nat.rec n (fun _ q => q.inc) m
noncomputable def drawX (call : CallT) (m : Nat) (l : List (J × List Nat)) (t : T X) (h : H) (n : Pt) : Res :=
  match drawGo call l ⟨t, h, skipN n m, n, 0, 0, [(0, h)]⟩ with
  | none => .no
  | some s => bif drawRe call s.hs l ⟨t, h, skipN n m, n, 0, 0, [(0, h)]⟩ then .go .normal s.t s.h s.n else .no

/-! ### Code -/
noncomputable def thenR (r : Res) (k : T X → H → Pt → Res) : Res := match r with
  | .go .normal t h n => k t h n
  | r => r
noncomputable def blockR (id : Nat) (r : Res) : Res := match r with
  | .go (.exit i) t h n => bif Nat.beq i id then .go .normal t h n else .go (.exit i) t h n
  | r => r
noncomputable def condR (t : T X) (c : D) (a b : Res) : Res := match ev t c with
  | some (.bool true) => a
  | some (.bool false) => b
  | _ => .no
noncomputable def loopX (body : T X → H → Pt → Res) (f : Nat) : T X → H → Pt → Res :=
  Nat.rec (fun _ _ _ => .no) (fun _ g t h n => thenR (body t h n) g) f
noncomputable def scopeR (l : Nat) (r : Res) (k : T X → H → Pt → Res) : Res := match r with
  | .go (.goto l') t h n => bif Nat.beq l' l then (match k t h n with
      | .go (.goto _) _ _ _ => .no
      | r => r) else .no
  | r => r
noncomputable def codeX (call : CallT) (fuel : Nat) (c : K) : T X → H → Pt → Res :=
  K.rec (motive := fun _ => T X → H → Pt → Res) (fun t h n => .go .normal t h n) (fun l => opsX call l) (fun m l => drawX call m l) (fun _ _ a b t h n => thenR (a t h n) b)
    (fun c _ _ a b t h n => condR t c (a t h n) (b t h n)) (fun id _ b t h n => blockR id (b t h n)) (fun _ b => loopX b fuel) (fun i t h n => .go (.exit i) t h n)
    (fun _ l _ b r t h n => scopeR l (b t h n) r) (fun t h n => .go .normal t h n) (fun l t h n => .go (.goto l) t h n) (fun t h n => .go .ret t h n) (fun _ _ _ => .no) c

noncomputable def resX (t : T X) (h : H) : List R → Option (List X)
  | [] => some []
  | .tmp i :: rs => match t.get i, resX t h rs with
    | some x, some xs => some (x :: xs)
    | _, _ => none
  | .cell1 a :: rs => match rLoad1 (.t a) t h, resX t h rs with
    | some x, some xs => some (x :: xs)
    | _, _ => none
  | .cellA a size :: rs => match rLoadA size (.t a) t h, resX t h rs with
    | some x, some xs => some (x :: xs)
    | _, _ => none
def packX : List X → X
  | [x] => x
  | xs => .tup xs
noncomputable def outR (rs : List R) (r : Res) : Out := match r with
  | .go e t h n => match e with
    | .normal => match resX t h rs with
      | some xs => some (packX xs, h, n)
      | none => none
    | .ret => match resX t h rs with
      | some xs => some (packX xs, h, n)
      | none => none
    | _ => none
  | .no => none
noncomputable def callF (fns : T FI) (d : Nat) : CallT :=
  Nat.rec (motive := fun _ => CallT) (fun _ _ _ _ => none) (fun _ rec f args h n => match fns.get (.ofNat f) with
    | none => none
    | some fi => bif Nat.ble args.length fi.nt then outR fi.results (codeX rec 1000000 fi.code (T.ofList args) h n) else none) d

end Go.Ex
