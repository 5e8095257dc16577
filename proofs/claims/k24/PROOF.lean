import PyProof.Rows.All
import Wide.All
import OpenK.AllK
import Wide.FinOn
import Lean
import PyProof.EqAt
import PyProof.EqKinds
import PyProof.TupleCall
import PySem.Challenge.RW_driftwood_k24_wants_written
set_option linter.all false
set_option Elab.async false
set_option maxRecDepth 100000
set_option maxHeartbeats 4000000
namespace Dw
open PySem
structure Kn where
 c:Nat
 ns:List Str
 deriving DecidableEq,Inhabited
inductive D where
 | non|bl (b:Bool)|int (i:Int)|str (x:Str)|tup (ds:List D)|lst (ds:List D)
  | dct (m:Bool) (ks:List Int)
  | obj (ns:Kn) (ds:List D)
 deriving Inhabited
inductive BOp where|add|sub|mul|fdiv|mod|pow|shl|shr|band|bor|bxor
 deriving DecidableEq,Inhabited
inductive COp where|eq|ne|lt|le|gt|ge|isin|notin
 deriving DecidableEq,Inhabited
inductive BI where|len|abs|min|max|sum|all|tuple|list|int|any|str|sorted
 deriving DecidableEq,Inhabited
inductive Ty where|int|bool|tuple|list|str
 deriving DecidableEq,Inhabited
inductive Tg where|one (i:Nat)|two (i j:Nat)|many (is:List Nat)
 deriving DecidableEq,Inhabited
inductive Ar where|pos (i:Nat)|kw (i:Nat)|dft (j:Nat) (d:D)
 deriving Inhabited
inductive C where
 | v (i:Nat)
 | k (d:D)
 | bin (o:BOp) (a b:C)
 | neg (a:C)
 | cmp (o:COp) (a b:C)
 | isC (neg:Bool) (a:C) (d:D)
 | inV (neg:Bool) (a:C) (i:Nat)
 | and (a b:C)|or (a b:C)|not (a:C)
 | ix (a b:C)
 | sl (a:C) (lo hi:Option C)
 | tup (as:List C)|lst (as:List C)
 | call (f:Nat) (as:List C)
 | bi (b:BI) (as:List C)
 | isi (a:C) (t:Ty)
 | bitl (a:C)
 | ifx (c a b:C)
 | rev (a:C)
 | join (a b:C)
 | fstr (as:List C)
 | chn (o p:COp) (a b c:C)
 | callP (f:Nat) (as ks:List C) (pl:List Ar)
 | compS (e:C) (nl:Nat) (ks:List Nat) (tg:Tg) (src:C)
 | compR (e:C) (nl:Nat) (ks:List Nat) (tg:Tg) (rs:List C)
 | compZ (e:C) (nl:Nat) (ks:List Nat) (tg:Tg) (a b:C)
 | compE (e:C) (nl:Nat) (ks:List Nat) (tg:Tg) (a:C)
 | compF (e c:C) (nl:Nat) (ks:List Nat) (tg:Tg) (src:C)
 | compG (e c:C) (nl:Nat) (ks:List Nat) (tg:Tg) (rs:List C)
 | fld (a:C) (j:Nat) (f:Str)
 | mk (kn:Kn) (as:List C)
 | mc (a:C) (m:Str) (tb:List (Nat×Nat)) (bs:List C)
 | iso (a:C) (tb:List (Nat×Bool))
 | cntT (a:C)
 | fmt (a:C)
 deriving Inhabited
inductive S where
 | frz (is:List Nat)
 | set (i:Nat) (keep:Bool) (e:C)
 | dnew (i:Nat)
 | aug (i:Nat) (e:C)
 | popE (i:Nat)
 | setIx (i:Nat) (k e:C)
 | hnd (i f:Nat) (as:List C)
 | forO (i x:Nat) (c:C) (body:List S)
 | app (i:Nat) (e:C)
 | ret (e:C)
 | ite (c:C) (a b:List S)
 | forS (tg:Tg) (src:C) (body:List S)
 | forR (tg:Tg) (rs:List C) (body:List S)
 | forZ (tg:Tg) (a b:C) (body:List S)
 | forE (tg:Tg) (a:C) (body:List S)
 | forV (tg:Tg) (rs:List C) (body:List S)
 | ext (i:Nat) (e:C)
 | asgT (tg:Tg) (e:C)
 | pop (tg:Tg) (i:Nat)
 | whl (c:C) (body:List S)
 | brk
 | cnt
 | stk
 deriving Inhabited
noncomputable abbrev R:=Bool×D
noncomputable abbrev En:=List (Option R)
mutual
@[simp] noncomputable def eqD:D->D->Bool
 | .non,.non=>true
 | .bl a,.bl b=>a == b
 | .bl a,.int b=>(if a then (1:Int) else 0) == b
 | .int a,.bl b=>a == (if b then (1:Int) else 0)
 | .int a,.int b=>a == b
 | .str a,.str b=>a == b
 | .tup xs,.tup ys=>qLK xs ys
 | .lst xs,.lst ys=>qLK xs ys
 | .dct a ks,.dct b js=>a == b&&ks == js
 | .obj a xs,.obj b ys=>a == b&&qLK xs ys
 | _,_=>false
@[simp] noncomputable def qLK:List D->List D->Bool
 | [],[]=>true
 | x::xs,y::ys=>eqD x y&&qLK xs ys
 | _,_=>false
end
mutual
@[simp] noncomputable def qCn:Nat->D->Bool
 | 0,.tup _=>false
 | 0,.lst _=>false
 | n+1,.tup ds=>qIK n ds
 | n+1,.lst ds=>qIK n ds
 | _,_=>true
@[simp] noncomputable def qIK:Nat->List D->Bool
 | _,[]=>true
 | n,d::ds=>qCn n d&&qIK n ds
end
mutual
@[simp] noncomputable def nob:D->Bool
 | .tup ds=>qD9 ds
 | .lst ds=>qD9 ds
 | .obj _ _=>false
 | _=>true
@[simp] noncomputable def qD9:List D->Bool
 | []=>true
 | d::ds=>nob d&&qD9 ds
end
@[simp] noncomputable def qOv:D->D->Option Bool
 | .lst xs,.lst []=>some xs.isEmpty
 | _,_=>none
noncomputable def HX:Nat:=1000000
noncomputable def lim:Nat:=2^24
noncomputable def big:Nat:=2^4000
noncomputable def qCX:Nat:=2^1048576
noncomputable def qBX (a b:Int):Bool:=decide ((a.natAbs<2^240/\b.natAbs<2^240)∨a.natAbs<2^64∨b.natAbs<2^64∨(a.natAbs<qCX/\b.natAbs<qCX))
noncomputable def qAU (b:Int):Bool:=decide (b≠0/\(b.natAbs<2^240∨b.natAbs<big))
noncomputable def qIJ (a b:Int):Bool:=decide (0<=b/\b<=1000/\a.natAbs<2^64)
noncomputable def qCu (a b:Int):Bool:=decide (a.natAbs<2^240/\0<=b/\b<=200)
noncomputable def qPS (is:List Int):List Int:=is.mergeSort (λa b=>decide (a<=b))
noncomputable def qBo (i:Int):Str:=Str.ofString (toString i)
noncomputable def qCv (sep:Str) (ts:List Str):Str:=⟨(ts.drop 1).foldl (λacc p=>acc++sep.cps++p.cps) (ts.headD Str.empty).cps⟩
@[simp] noncomputable def qBk:List D->Option (List Str)
 | []=>some []
 | .str i::r=>(qBk r).map (i::·)
 | _=>none
noncomputable def qDk (sep:Str) (ts:List Str):Bool:=decide (ts.toArray.foldl (λn t=>n+t.length+sep.length) 0<=lim/\(qCv sep ts).length<=lim)
@[simp] noncomputable def qLw:D->D->Option R
 | .str sep,.lst xs=>(qBk xs).bind λts=>if qDk sep ts then some (false,.str (qCv sep ts)) else none
 | _,_=>none
noncomputable def qE5 (acc:Str):List Str->Option Str
 | []=>some acc
 | t::r=>if (acc++t).length<=lim then qE5 (acc++t) r else none
@[simp] noncomputable def qPU:D->Option R
 | .tup xs=>some (false,.tup xs.reverse)
 | _=>none
noncomputable def qEK:BOp->D->D->Option R
 | .add,.int a,.int b=>some (false,.int (a+b))
 | .sub,.int a,.int b=>some (false,.int (a - b))
 | .mul,.int a,.int b=>if qBX a b then some (false,.int (a * b)) else none
 | .fdiv,.int a,.int b=>if qAU b then some (false,.int (a.fdiv b)) else none
 | .mod,.int a,.int b=>if qAU b then some (false,.int (a.fmod b)) else none
 | .pow,.int a,.int b=>if qCu a b then some (false,.int (a^b.toNat)) else none
 | .shl,.int a,.int b=>if qIJ a b then some (false,.int (a * 2^b.toNat)) else none
 | .shr,.int a,.int b=>if 0<=b then some (false,.int (a / 2^b.toNat)) else none
 | .band,.int a,.int b=>if 0<=a/\0<=b then some (false,.int ((a.toNat &&& b.toNat:Nat):Int)) else none
 | .bor,.int a,.int b=>if 0<=a/\0<=b then some (false,.int ((a.toNat ||| b.toNat:Nat):Int)) else none
 | .bxor,.int a,.int b=>if 0<=a/\0<=b then some (false,.int (((a.toNat ||| b.toNat:Nat):Int) - ((a.toNat &&& b.toNat:Nat):Int))) else none
 | .add,.lst a,.lst b=>if a.length+b.length<=lim then some (true,.lst (a++b)) else none
 | .add,.str a,.str b=>if a.length+b.length<=lim then some (false,.str (a++b)) else none
 | .add,.tup [],.tup b=>some (false,.tup b)
 | .add,.tup (x::a),.tup b=>if a.length+1+b.length<=lim then some (false,.tup (x::a++b)) else none
 | .mul,.lst a,.int b=>if a.length * b.toNat<=lim/\-(2^62)<b/\b<2^62 then some (true,.lst (List.replicate b.toNat a).flatten) else none
 | _,_,_=>none
@[simp] noncomputable def qCV:List D->Option (List Int)
 | []=>some []
 | .int i::r=>(qCV r).map (i::·)
 | _=>none
noncomputable def qEL (ys:List D) (x:D):Bool:=ys.any λy=>eqD y x
@[simp] noncomputable def inD (n:Bool):D->D->Option R
 | x,.tup ys=>if qCn 19 x&&(nob x&&qD9 ys) then some (false,.bl (if n then !(qEL ys x) else qEL ys x)) else none
 | x,.lst ys=>if qCn 19 x&&(nob x&&qD9 ys) then some (false,.bl (if n then !(qEL ys x) else qEL ys x)) else none
 | _,_=>none
@[simp] noncomputable def qGe:COp->D->D->Option R
 | .isin,a,b=>inD false a b
 | .notin,a,b=>inD true a b
 | .eq,a,b=>if (qCn 20 a||qCn 20 b)&&(nob a&&nob b) then some (false,.bl (eqD a b)) else none
 | .ne,a,b=>if (qCn 20 a||qCn 20 b)&&(nob a&&nob b) then some (false,.bl (!eqD a b)) else (qOv a b).map λe=>(false,.bl (!e))
 | .lt,.int a,.int b=>some (false,.bl (decide (a<b)))
 | .le,.int a,.int b=>some (false,.bl (decide (a<=b)))
 | .gt,.int a,.int b=>some (false,.bl (decide (b<a)))
 | .ge,.int a,.int b=>some (false,.bl (decide (b<=a)))
 | _,_,_=>none
@[simp] noncomputable def ixN (n:Nat) (i:Int):Option Nat:=if 0<=i then (if i<n then some i.toNat else none) else if -(n:Int)<=i then some (i+n).toNat else none
@[simp] noncomputable def ixD (xs:List D) (i:Int):Option D:=(ixN xs.length i).bind λj=>xs[j]?
@[simp] noncomputable def cutAt (n d:Nat):Option Int->Nat
 | none=>d
 | some v=>if v<0 then (v+n).toNat else min v.toNat n
@[simp] noncomputable def qJr (xs:List D) (lo hi:Option Int):List D:=(xs.drop (cutAt xs.length 0 lo)).take (cutAt xs.length xs.length hi - cutAt xs.length 0 lo)
@[simp] noncomputable def qDV:List D->Option (List Bool)
 | []=>some []
 | .bl i::r=>(qDV r).map (i::·)
 | _=>none
noncomputable def mnL:List Int->Option Int
 | []=>none
 | a::r=>some (r.foldl (λm x=>if x<m then x else m) a)
noncomputable def mxL:List Int->Option Int
 | []=>none
 | a::r=>some (r.foldl (λm x=>if m<x then x else m) a)
noncomputable def qO6 (xs:List D):Option R:=match qCV xs with
 | some is=>(mnL is).map λm=>(false,.int m)
 | none=>none
noncomputable def biD:BI->List D->Option R
 | .len,[.tup xs]=>some (false,.int xs.length)
 | .len,[.lst xs]=>some (false,.int xs.length)
 | .abs,[.int i]=>some (false,.int (if i<0 then -i else i))
 | .min,[.int i,.int j]=>some (false,.int (if j<i then j else i))
 | .max,[.int i,.int j]=>some (false,.int (if j > i then j else i))
 | .max,[.int i,.int j,.int k]=>some (false,.int (if k > (if j > i then j else i) then k else (if j > i then j else i)))
 | .min,[.lst xs]=>qO6 xs
 | .max,[.lst xs]=>(qCV xs).bind λis=>(mxL is).map λm=>(false,.int m)
 | .sum,[.lst xs]=>(qCV xs).map λis=>(false,.int is.sum)
 | .all,[.lst xs]=>(qDV xs).map λbs=>(false,.bl (bs.all id))
 | .sorted,[.lst xs]=>(qCV xs).bind λis=>if is.length<64 then some (true,.lst ((qPS is).map .int)) else none
 | .any,[.lst xs]=>(qDV xs).map λbs=>(false,.bl (bs.any id))
 | .str,[.int i]=>if i.natAbs<2^240 then some (false,.str (qBo i)) else none
 | .tuple,[.lst xs]=>some (false,.tup xs)
 | .tuple,[.tup xs]=>some (false,.tup xs)
 | .list,[.lst xs]=>some (true,.lst xs)
 | .list,[.tup xs]=>some (true,.lst xs)
 | .int,[.bl b]=>some (false,.int (if b then 1 else 0))
 | .int,[.int i]=>some (false,.int i)
 | _,_=>none
@[simp] noncomputable def tyD:Ty->D->Bool
 | .int,.int _=>true
 | .int,.bl _=>true
 | .bool,.bl _=>true
 | .tuple,.tup _=>true
 | .list,.lst _=>true
 | .str,.str _=>true
 | _,_=>false
@[simp] noncomputable def tyR (t:Ty):D->Option R
 | .obj _ _=>none
 | d=>some (false,.bl (tyD t d))
@[simp] noncomputable def isD (neg:Bool):D->D->Option R
 | .obj _ _,_=>none
 | .non,.non=>some (false,.bl (!neg))
 | _,.non=>some (false,.bl neg)
 | .bl a,.bl b=>some (false,.bl (if a == b then !neg else neg))
 | _,.bl _=>some (false,.bl neg)
 | _,_=>none
@[simp] noncomputable def qAf (σ:En) (i:Nat):Option R:=(σ[i]?).join
noncomputable def qD7 (σ:En):List Nat->List D->Option En
 | [],[]=>some σ
 | i::is,d::ds=>qD7 (σ.set i (some (false,d))) is ds
 | _,_=>none
noncomputable def qBy (σ:En):Tg->D->Option En
 | .one i,d=>some (σ.set i (some (false,d)))
 | .two i j,.tup [x,y]=>some ((σ.set i (some (false,x))).set j (some (false,y)))
 | .many is,.tup ds=>qD7 σ is ds
 | _,_=>none
noncomputable def qFX (a b c:Int):Int:=if c > 0 then if a<b then (b - a - 1) / c+1 else 0 else if a > b then (a - b - 1) / -c+1 else 0
@[simp] noncomputable def qEQ:List D->Option (List D)
 | [.int n]=>if -(2^62)<=n/\n<2^62 then some ((List.range n.toNat).map λi=>.int (i:Nat)) else none
 | [.int a,.int b]=>some ((List.range (b - a).toNat).map λi=>.int (a+(i:Nat)))
 | [.int a,.int b,.int c]=>if -(2^62)<=a/\a<2^62/\-(2^62)<=b/\b<2^62/\c≠0/\c.natAbs<2^30 then some ((List.range (qFX a b c).toNat).map λi=>.int (a+(i:Nat) * c)) else none
 | _=>none
@[simp] noncomputable def rvD:List D->Option (List D)
 | [.int n]=>if -(2^62)<=n/\n<2^62 then some ((List.range n.toNat).map λi=>.int ((n.toNat:Int) - 1 - (i:Nat))) else none
 | _=>none
@[simp] noncomputable def qDy:D->Option (List D)
 | .lst xs=>some xs
 | .tup xs=>some xs
 | _=>none
@[simp] noncomputable def qPm:D->Option (List D)
 | .tup xs=>some xs
 | .lst xs=>some xs
 | _=>none
noncomputable def qLL:Nat->List D->List D
 | _,[]=>[]
 | n,x::r=>.tup [.int (n:Nat),x]::qLL (n+1) r
noncomputable def qPl (a b:List D):List D:=List.zipWith (λx y=>.tup [x,y]) a b
noncomputable def qDn (f:En->Option R) (σ:En) (tg:Tg):List D->Option (List D)
 | []=>some []
 | x::r=>(qBy σ tg x).bind fun σ'=>(f σ').bind λy=>(qDn f σ tg r).bind λys=>some (y.2::ys)
noncomputable def qPv (a b:Option (List D)):R->Option (List D)
 | (_,.bl true)=>a
 | (_,.bl false)=>b
 | _=>none
noncomputable def qC6 (c f:En->Option R) (σ:En) (tg:Tg):List D->Option (List D)
 | []=>some []
 | x::r=>(qBy σ tg x).bind fun σ'=>(c σ').bind (qPv ((f σ').bind λy=>(qC6 c f σ tg r).bind λys=>some (y.2::ys)) (qC6 c f σ tg r))
@[simp] noncomputable def qBj (σ:En) (nl:Nat) (ks:List Nat):En:=List.replicate nl none++ks.map λj=>qAf σ j
@[simp] noncomputable def pkR:R->Option D
 | (false,d)=>some d
 | (true,.lst ds)=>some (.lst ds)
 | _=>none
@[simp] noncomputable def pk (σ:En) (c:C) (r:Option R):Option D:=match c with
 | .v i=>(qAf σ i).bind pkR
 | _=>r.map (·.2)
@[simp] noncomputable def agR:R->Option D
 | (false,d)=>some d
 | (true,.dct _ ks)=>some (.dct false ks)
 | _=>none
@[simp] noncomputable def ag (σ:En) (c:C) (r:Option R):Option D:=match c with
 | .v i=>(qAf σ i).bind agR
 | _=>r.map (·.2)
@[simp] noncomputable def inR (n:Bool):D->R->Option R
 | .int k,(true,.dct _ ks)=>some (false,.bl (if n then !(ks.any (· == k)) else ks.any (· == k)))
 | .bl b,(true,.lst ds)=>(qDV ds).map λbs=>(false,.bl (if n then !(bs.any (· == b)) else bs.any (· == b)))
 | x,(false,d)=>inD n x d
 | _,_=>none
noncomputable def mtb (m:Str) (tb:List (Nat×Nat)):D->Option Nat
 | .obj kn _=>if kn.ns.all (λf=>f != m) then tb.lookup kn.c else none
 | _=>none
noncomputable def qNG (tb:List (Nat×Bool)):D->Option R
 | .obj kn _=>(tb.lookup kn.c).map λb=>(false,.bl b)
 | _=>none
noncomputable def qNO:D->Option R
 | .int i=>if i.natAbs<2^240 then some (false,.str (qBo i)) else none
 | .str x=>if x.length<=lim then some (false,.str x) else none
 | _=>none
noncomputable def qOy:R->Option R
 | (true,.lst xs)=>(qDV xs).map λbs=>(false,.int ((bs.countP id:Nat):Int))
 | _=>none
noncomputable def qDZ (j:Nat) (f:Str):D->Option R
 | .obj ns ds=>if ns.ns[j]?=some f then (ds[j]?).map (false,·) else none
 | _=>none
@[simp] noncomputable def qNh:D->Option (Option Int)
 | .int i=>some (some i)
 | _=>none
@[simp] noncomputable def qPs:D->Option R
 | .int i=>some (false,.int (-i))
 | _=>none
@[simp] noncomputable def ixx:D->D->Option R
 | .lst xs,.int i=>(ixD xs i).map (false,·)
 | .tup xs,.int i=>(ixD xs i).map (false,·)
 | _,_=>none
@[simp] noncomputable def slx (l h:Option Int):D->Option R
 | .lst xs=>some (true,.lst (qJr xs l h))
 | .tup xs=>some (false,.tup (qJr xs l h))
 | _=>none
@[simp] noncomputable def qPk (k:Option R):R->Option R
 | (_,.bl true)=>k
 | (_,.bl false)=>some (false,.bl false)
 | _=>none
@[simp] noncomputable def orK (k:Option R):R->Option R
 | (_,.bl true)=>some (false,.bl true)
 | (_,.bl false)=>k
 | _=>none
@[simp] noncomputable def qPr:R->Option R
 | (_,.bl c)=>some (false,.bl (!c))
 | _=>none
noncomputable def qQf (i:Int):Int:=if i=0 then 0 else ((i.natAbs.log2+1:Nat):Int)
@[simp] noncomputable def qQg:D->Option R
 | .int i=>some (false,.int (qQf i))
 | _=>none
@[simp] noncomputable def ifK (a b:Option R):R->Option R
 | (_,.bl true)=>a
 | (_,.bl false)=>b
 | _=>none
@[simp] noncomputable def qA2:Option R->Option R
 | some (false,d)=>some (false,d)
 | _=>none
noncomputable def arD (xs zs:List D):Ar->Option D
 | .pos i=>xs[i]?
 | .kw i=>zs[i]?
 | .dft _ d=>some d
noncomputable def plD (xs zs:List D):List Ar->Option (List D)
 | []=>some []
 | a::r=>(arD xs zs a).bind λx=>(plD xs zs r).bind λys=>some (x::ys)
section
variable (call:Nat->List D->Option R)
mutual
noncomputable def evE (σ:En):C->Option R
 | .v i=>qA2 (qAf σ i)
 | .k d=>some (false,d)
 | .bin o a b=>(pk σ a (evE σ a)).bind λx=>(pk σ b (evE σ b)).bind λy=>qEK o x y
 | .neg a=>(pk σ a (evE σ a)).bind qPs
 | .cmp o a b=>(pk σ a (evE σ a)).bind λx=>(pk σ b (evE σ b)).bind λy=>qGe o x y
 | .isC n a d=>(pk σ a (evE σ a)).bind λx=>isD n x d
 | .and a b=>(evE σ a).bind (qPk (evE σ b))
 | .or a b=>(evE σ a).bind (orK (evE σ b))
 | .not a=>(evE σ a).bind qPr
 | .ix a b=>(pk σ a (evE σ a)).bind λx=>(pk σ b (evE σ b)).bind λy=>ixx x y
 | .sl a lo hi=>(pk σ a (evE σ a)).bind λx=>(evO σ lo).bind λl=>(evO σ hi).bind λh=>slx l h x
 | .tup as=>(evA σ as).bind λxs=>if xs.length<=lim then some (false,.tup xs) else none
 | .lst as=>(evA σ as).bind λxs=>if xs.length<=lim then some (true,.lst xs) else none
 | .call f as=>(evG σ as).bind λxs=>call f xs
 | .inV n a i=>(pk σ a (evE σ a)).bind λx=>(qAf σ i).bind λy=>inR n x y
 | .bi b as=>(qCj σ as).bind λxs=>biD b xs
 | .isi a t=>(pk σ a (evE σ a)).bind (tyR t)
 | .bitl a=>(pk σ a (evE σ a)).bind qQg
 | .ifx c a b=>(evE σ c).bind (ifK (evE σ a) (evE σ b))
 | .rev a=>(pk σ a (evE σ a)).bind qPU
 | .join a b=>(pk σ a (evE σ a)).bind λx=>(pk σ b (evE σ b)).bind λy=>qLw x y
 | .fstr as=>(evA σ as).bind λxs=>(qBk xs).bind λts=>(qE5 Str.empty ts).map λz=>(false,.str z)
 | .chn o p a b c=>(pk σ a (evE σ a)).bind λx=>(pk σ b (evE σ b)).bind λy=>(qGe o x y).bind (qPk ((pk σ c (evE σ c)).bind λz=>qGe p y z))
 | .callP f as ks pl=>(evA σ as).bind λxs=>(evA σ ks).bind λzs=>(plD xs zs pl).bind λds=>call f ds
 | .compS e nl ks tg src=>(evE σ src).bind λx=>(qDy x.2).bind λits=>(qDn (fun σ'=>evE σ' e) (qBj σ nl ks) tg its).bind λys=>some (true,.lst ys)
 | .compR e nl ks tg rs=>(qCj σ rs).bind λx=>(qEQ x).bind λits=>if its.length<=lim then (qDn (fun σ'=>evE σ' e) (qBj σ nl ks) tg its).bind λys=>some (true,.lst ys) else none
 | .compZ e nl ks tg a b=>(evE σ a).bind λx=>(evE σ b).bind λy=>(qDy x.2).bind λxs=>(qPm y.2).bind λys =>
   (qDn (fun σ'=>evE σ' e) (qBj σ nl ks) tg (qPl xs ys)).bind λzs=>some (true,.lst zs)
 | .compE e nl ks tg a=>(evE σ a).bind λx=>(qDy x.2).bind λxs=>(qDn (fun σ'=>evE σ' e) (qBj σ nl ks) tg (qLL 0 xs)).bind λzs=>some (true,.lst zs)
 | .compF e c nl ks tg src=>(evE σ src).bind λx=>(qDy x.2).bind λits=>(qC6 (fun σ'=>evE σ' c) (fun σ'=>evE σ' e) (qBj σ nl ks) tg its).bind λys=>some (true,.lst ys)
 | .compG e c nl ks tg rs=>(qCj σ rs).bind λx=>(qEQ x).bind λits=>if its.length<=lim then (qC6 (fun σ'=>evE σ' c) (fun σ'=>evE σ' e) (qBj σ nl ks) tg its).bind λys=>some (true,.lst ys) else none
 | .fld a j f=>(evE σ a).bind λx=>qDZ j f x.2
 | .mk kn as=>(evA σ as).bind λxs=>if xs.length=kn.ns.length then some (false,.obj kn xs) else none
 | .mc a m tb bs=>(evE σ a).bind λx=>(mtb m tb x.2).bind λf=>(evA σ bs).bind λys=>call f (x.2::ys)
 | .iso a tb=>(evE σ a).bind λx=>qNG tb x.2
 | .cntT a=>(evE σ a).bind qOy
 | .fmt a=>(pk σ a (evE σ a)).bind qNO
termination_by structural c=>c
noncomputable def evA (σ:En):List C->Option (List D)
 | []=>some []
 | a::r=>(evE σ a).bind λx=>(evA σ r).bind λxs=>some (x.2::xs)
termination_by structural c=>c
noncomputable def qCj (σ:En):List C->Option (List D)
 | []=>some []
 | a::r=>(pk σ a (evE σ a)).bind λx=>(qCj σ r).bind λxs=>some (x::xs)
termination_by structural c=>c
noncomputable def evG (σ:En):List C->Option (List D)
 | []=>some []
 | a::r=>(ag σ a (evE σ a)).bind λx=>(evG σ r).bind λxs=>some (x::xs)
termination_by structural c=>c
noncomputable def evO (σ:En):Option C->Option (Option Int)
 | none=>some none
 | some c=>(pk σ c (evE σ c)).bind qNh
termination_by structural c=>c
end
inductive Ou where|nx (σ:En)|rt (r:R)|bk (σ:En)|ct (σ:En)
@[simp] noncomputable def frz1 (σ:En) (i:Nat):En:=match qAf σ i with|some (true,.lst ds)=>σ.set i (some (false,.lst ds))|_=>σ
@[simp] noncomputable def qAF (keep:Bool) (r:R):R:=(keep&&r.1,r.2)
noncomputable def qEi (f:En->Option Ou) (tg:Tg):List D->En->Option Ou
 | [],σ=>some (.nx σ)
 | x::r,σ=>(qBy σ tg x).bind fun σ1=>(f σ1).bind λo=>match o with
   | .nx σ2=>qEi f tg r σ2
   | .ct σ2=>qEi f tg r σ2
   | .bk σ2=>some (.nx σ2)
   | .rt v=>some (.rt v)
@[simp] noncomputable def qPt (a b:Option Ou):R->Option Ou
 | (_,.bl true)=>a
 | (_,.bl false)=>b
 | _=>none
@[simp] noncomputable def qMH (σ:En) (i:Nat) (k e:D):Option Ou:=match qAf σ i,k with
 | some (true,.lst xs),.int n=>(ixN xs.length n).bind λj=>some (.nx (σ.set i (some (true,.lst (xs.set j e)))))
 | some (true,.dct true ks),.int n=>match e with
  | .bl true=>if ks.length<lim then some (.nx (σ.set i (some (true,.dct true (if ks.any (· == n) then ks else ks++[n]))))) else none
  | _=>none
 | _,_=>none
@[simp] noncomputable def qJC (σ:En) (i:Nat) (e:D):Option Ou:=match qAf σ i with
 | some (true,.lst xs)=>if xs.length<lim then some (.nx (σ.set i (some (true,.lst (xs++[e]))))) else none
 | _=>none
@[simp] noncomputable def rtR:R->Option R
 | (false,d)=>some (false,d)
 | (true,.lst ds)=>some (true,.lst ds)
 | _=>none
@[simp] noncomputable def qBO (σ:En) (c:C) (r:Option R):Option R:=match c with
 | .v i=>(qAf σ i).bind rtR
 | _=>r
@[simp] noncomputable def qKr (k:En->Option Ou):Ou->Option Ou
 | .nx σ=>k σ
 | .rt r=>some (.rt r)
 | .bk σ=>some (.bk σ)
 | .ct σ=>some (.ct σ)
@[simp] noncomputable def qI8 (k:En->Option Ou):Ou->Option Ou
 | .nx σ=>k σ
 | .ct σ=>k σ
 | .bk σ=>some (.nx σ)
 | .rt r=>some (.rt r)
@[simp] noncomputable def qOB (σ:En) (k:Option Ou):R->Option Ou
 | (_,.bl true)=>k
 | (_,.bl false)=>some (.nx σ)
 | _=>none
noncomputable def qDq (c:En->Option R) (b:En->Option Ou):Nat->En->Option Ou
 | 0,_=>none
 | n+1,σ=>(c σ).bind (qOB σ ((b σ).bind (qI8 (qDq c b n))))
@[simp] noncomputable def qP8 (σ:En) (i:Nat):R->Option Ou
 | (true,.lst ys)=>match qAf σ i with
  | some (true,.lst xs)=>if xs.length+ys.length<=lim then some (.nx (σ.set i (some (true,.lst (xs++ys))))) else none
  | _=>none
 | (false,.tup ys)=>match qAf σ i with
  | some (true,.lst xs)=>if xs.length+ys.length<=lim then some (.nx (σ.set i (some (true,.lst (xs++ys))))) else none
  | _=>none
 | _=>none
@[simp] noncomputable def qQi (σ:En) (tg:Tg):R->Option Ou
 | (false,d)=>(qBy σ tg d).map .nx
 | _=>none
@[simp] noncomputable def qOt (σ:En) (tg:Tg) (i:Nat):Option Ou:=match qAf σ i with
 | some (true,.lst xs)=>(xs.getLast?).bind λd=>(qBy (σ.set i (some (true,.lst xs.dropLast))) tg d).map .nx
 | _=>none
@[simp] noncomputable def qQh (σ:En) (i:Nat) (y:D):Option Ou:=match qAf σ i,y with
 | some (false,.int a),.int b=>some (.nx (σ.set i (some (false,.int (a+b)))))
 | _,_=>none
@[simp] noncomputable def qOT (σ:En) (i:Nat):Option Ou:=match qAf σ i with
 | some (true,.lst xs)=>(xs.getLast?).bind λ_=>some (.nx (σ.set i (some (true,.lst xs.dropLast))))
 | _=>none
@[simp] noncomputable def qIl:R->Option (List D)
 | (true,.lst xs)=>some xs
 | _=>none
@[simp] noncomputable def qPu (σ:En) (i:Nat):R->Option Ou
 | (_,.lst ys)=>some (.nx (σ.set i (some (true,.lst ys))))
 | _=>none
noncomputable def qON:Option Ou->Option Ou
 | some (.rt r)=>some (.rt r)
 | _=>none
noncomputable def foK (a b:Option Ou):R->Option Ou
 | (_,.bl true)=>qON a
 | (_,.bl false)=>b
 | _=>none
noncomputable def qCb (f:En->Option R) (g:En->Option Ou) (x:Nat):List D->En->Option Ou
 | [],σ=>some (.nx σ)
 | d::r,σ=>(f (σ.set x (some (false,d)))).bind (foK (g (σ.set x (some (false,d)))) (qCb f g x r (σ.set x (some (false,d)))))
noncomputable def qLZ (i:Nat) (xs:List D):Ou->Option Ou
 | .nx σ=>some (.nx (σ.set i (some (true,.lst xs))))
 | .rt r=>some (.rt r)
 | _=>none
mutual
noncomputable def evS (σ:En):S->Option Ou
 | .frz is=>some (.nx (is.foldl frz1 σ))
 | .set i keep e=>(evE call σ e).bind λr=>some (.nx (σ.set i (some (qAF keep r))))
 | .aug i e=>(pk σ e (evE call σ e)).bind (qQh σ i)
 | .popE i=>qOT σ i
 | .dnew i=>some (.nx (σ.set i (some (true,.dct true []))))
 | .setIx i k e=>(evE call σ e).bind λx=>(pk σ k (evE call σ k)).bind λn=>qMH σ i n x.2
 | .hnd i f as=>(qAf σ i).bind λr=>(qIl r).bind λxs=>(evA call σ as).bind λys=>(call (f+HX) (.lst xs::ys)).bind (qPu σ i)
 | .forO i x c body=>(qAf σ i).bind λr=>(qIl r).bind λxs=>if i=x then none else (qCb (fun σ'=>evE call σ' c) (fun σ'=>qAp σ' body) x xs (σ.set i none)).bind (qLZ i xs)
 | .app i e=>(evE call σ e).bind λx=>qJC σ i x.2
 | .ret e=>(qBO σ e (evE call σ e)).bind λr=>some (.rt r)
 | .ite c a b=>(evE call σ c).bind (qPt (qAp σ a) (qAp σ b))
 | .forS tg src body=>(evE call σ src).bind λx=>(qDy x.2).bind λits=>qEi (fun σ'=>qAp σ' body) tg its σ
 | .forR tg rs body=>(qCj call σ rs).bind λx=>(qEQ x).bind λits=>qEi (fun σ'=>qAp σ' body) tg its σ
 | .forV tg rs body=>(qCj call σ rs).bind λx=>(rvD x).bind λits=>qEi (fun σ'=>qAp σ' body) tg its σ
 | .ext i e=>(evE call σ e).bind (qP8 σ i)
 | .asgT tg e=>(evE call σ e).bind (qQi σ tg)
 | .pop tg i=>qOt σ tg i
 | .whl c body=>qDq (fun σ'=>evE call σ' c) (fun σ'=>qAp σ' body) big σ
 | .brk=>some (.bk σ)
 | .cnt=>some (.ct σ)
 | .stk=>none
 | .forZ tg a b body=>(evE call σ a).bind λx=>(evE call σ b).bind λy=>(qDy x.2).bind λxs=>(qPm y.2).bind λys=>qEi (fun σ'=>qAp σ' body) tg (qPl xs ys) σ
 | .forE tg a body=>(evE call σ a).bind λx=>(qDy x.2).bind λxs=>qEi (fun σ'=>qAp σ' body) tg (qLL 0 xs) σ
termination_by structural c=>c
noncomputable def qAp (σ:En):List S->Option Ou
 | []=>some (.nx σ)
 | a::r=>(evS σ a).bind (qKr fun σ'=>qAp σ' r)
termination_by structural c=>c
end
end
@[simp] theorem qH7 (σ:En) (i d):qBy σ (.one i) d=some (σ.set i (some (false,d))):=rfl
section
variable (call:Nat->List D->Option R) (σ:En)
noncomputable def qAT (e:C) (σ:En) (tg:Tg) (its:List D):Option (List D):=qDn (fun σ'=>evE call σ' e) σ tg its
noncomputable def qBx (c e:C) (σ:En) (tg:Tg) (its:List D):Option (List D):=qC6 (fun σ'=>evE call σ' c) (fun σ'=>evE call σ' e) σ tg its
noncomputable def qBp (body:List S) (tg:Tg) (its:List D) (σ:En):Option Ou:=qEi (fun σ'=>qAp call σ' body) tg its σ
@[simp] theorem qNP (i):evE call σ (.v i)=qA2 (qAf σ i):=rfl
@[simp] theorem qPf (d):evE call σ (.k d)=some (false,d):=rfl
@[simp] theorem qHI (o a b):evE call σ (.bin o a b)=(pk σ a (evE call σ a)).bind λx=>(pk σ b (evE call σ b)).bind λy=>qEK o x y:=rfl
@[simp] theorem qLJ (a):evE call σ (.neg a)=(pk σ a (evE call σ a)).bind qPs:=rfl
@[simp] theorem qE3 (o a b):evE call σ (.cmp o a b)=(pk σ a (evE call σ a)).bind λx=>(pk σ b (evE call σ b)).bind λy=>qGe o x y:=rfl
@[simp] theorem qE1 (n a d):evE call σ (.isC n a d)=(pk σ a (evE call σ a)).bind λx=>isD n x d:=rfl
@[simp] theorem qHK (a b):evE call σ (.and a b)=(evE call σ a).bind (qPk (evE call σ b)):=rfl
@[simp] theorem qKb (a b):evE call σ (.or a b)=(evE call σ a).bind (orK (evE call σ b)):=rfl
@[simp] theorem qHC (a):evE call σ (.not a)=(evE call σ a).bind qPr:=rfl
@[simp] theorem qKe (a b):evE call σ (.ix a b)=(pk σ a (evE call σ a)).bind λx=>(pk σ b (evE call σ b)).bind λy=>ixx x y:=rfl
@[simp] theorem qKa (a lo hi):evE call σ (.sl a lo hi)=(pk σ a (evE call σ a)).bind λx=>(evO call σ lo).bind λl=>(evO call σ hi).bind λh=>slx l h x:=rfl
@[simp] theorem qHB (as):evE call σ (.tup as)=(evA call σ as).bind λxs=>if xs.length<=lim then some (false,.tup xs) else none:=rfl
@[simp] theorem qHD (as):evE call σ (.lst as)=(evA call σ as).bind λxs=>if xs.length<=lim then some (true,.lst xs) else none:=rfl
@[simp] theorem qFB (f as):evE call σ (.call f as)=(evG call σ as).bind λxs=>call f xs:=rfl
@[simp] theorem qAz:evG call σ []=some []:=rfl
@[simp] theorem qFx (a r):evG call σ (a::r)=(ag σ a (evE call σ a)).bind λx=>(evG call σ r).bind λxs=>some (x::xs):=rfl
@[simp] theorem qHJ (b as):evE call σ (.bi b as)=(qCj call σ as).bind λxs=>biD b xs:=rfl
@[simp] theorem qHF (a t):evE call σ (.isi a t)=(pk σ a (evE call σ a)).bind (tyR t):=rfl
@[simp] theorem qE2 (c a b):evE call σ (.ifx c a b)=(evE call σ c).bind (ifK (evE call σ a) (evE call σ b)):=rfl
@[simp] theorem qFy (a b):evE call σ (.join a b)=(pk σ a (evE call σ a)).bind λx=>(pk σ b (evE call σ b)).bind λy=>qLw x y:=rfl
@[simp] theorem qFz (as):evE call σ (.fstr as)=(evA call σ as).bind λxs=>(qBk xs).bind λts=>(qE5 Str.empty ts).map λz=>(false,.str z):=rfl
@[simp] theorem qCZ (e nl ks tg src):evE call σ (.compS e nl ks tg src)=(evE call σ src).bind λx=>(qDy x.2).bind λits=>(qAT call e (qBj σ nl ks) tg its).bind λys=>some (true,.lst ys):=rfl
@[simp] theorem qC0 (e nl ks tg rs):evE call σ (.compR e nl ks tg rs)=(qCj call σ rs).bind λx=>(qEQ x).bind λits=>if its.length<=lim then (qAT call e (qBj σ nl ks) tg its).bind λys=>some (true,.lst ys) else none:=rfl
@[simp] theorem qEs (e c nl ks tg src):evE call σ (.compF e c nl ks tg src)=(evE call σ src).bind λx=>(qDy x.2).bind λits=>(qBx call c e (qBj σ nl ks) tg its).bind λys=>some (true,.lst ys):=rfl
@[simp] theorem qEr (e c nl ks tg rs):evE call σ (.compG e c nl ks tg rs)=(qCj call σ rs).bind λx=>(qEQ x).bind λits=>if its.length<=lim then (qBx call c e (qBj σ nl ks) tg its).bind λys=>some (true,.lst ys) else none:=rfl
@[simp] theorem qHH (a j f):evE call σ (.fld a j f)=(evE call σ a).bind λx=>qDZ j f x.2:=rfl
@[simp] theorem qKc (kn as):evE call σ (.mk kn as)=(evA call σ as).bind λxs=>if xs.length=kn.ns.length then some (false,.obj kn xs) else none:=rfl
@[simp] theorem qKd (a m tb bs):evE call σ (.mc a m tb bs)=(evE call σ a).bind λx=>(mtb m tb x.2).bind λf=>(evA call σ bs).bind λys=>call f (x.2::ys):=rfl
@[simp] theorem qHE (a tb):evE call σ (.iso a tb)=(evE call σ a).bind λx=>qNG tb x.2:=rfl
@[simp] theorem qHG (a):evE call σ (.fmt a)=(pk σ a (evE call σ a)).bind qNO:=rfl
@[simp] theorem qFA (a):evE call σ (.cntT a)=(evE call σ a).bind qOy:=rfl
@[simp] theorem qAr:evA call σ []=some []:=rfl
@[simp] theorem qCe (a r):evA call σ (a::r)=(evE call σ a).bind λx=>(evA call σ r).bind λxs=>some (x.2::xs):=rfl
@[simp] theorem qAA:qCj call σ []=some []:=rfl
@[simp] theorem qC2 (a r):qCj call σ (a::r)=(pk σ a (evE call σ a)).bind λx=>(qCj call σ r).bind λxs=>some (x::xs):=rfl
@[simp] theorem qJl:evO call σ none=some none:=rfl
@[simp] theorem qFw (c):evO call σ (some c)=(pk σ c (evE call σ c)).bind qNh:=rfl
@[simp] theorem qHv (i keep e):evS call σ (.set i keep e)=(evE call σ e).bind λr=>some (.nx (σ.set i (some (qAF keep r)))):=rfl
@[simp] theorem qHy (i f as):evS call σ (.hnd i f as)=(qAf σ i).bind λr=>(qIl r).bind λxs=>(evA call σ as).bind λys=>(call (f+HX) (.lst xs::ys)).bind (qPu σ i):=rfl
@[simp] theorem qFv (i x c body):evS call σ (.forO i x c body)=(qAf σ i).bind λr=>(qIl r).bind λxs=>if i=x then none else (qCb (fun σ'=>evE call σ' c) (fun σ'=>qAp call σ' body) x xs (σ.set i none)).bind (qLZ i xs):=rfl
@[simp] theorem qHz (i e):evS call σ (.app i e)=(evE call σ e).bind λx=>qJC σ i x.2:=rfl
@[simp] theorem qE0 (e):evS call σ (.ret e)=(qBO σ e (evE call σ e)).bind λr=>some (.rt r):=rfl
@[simp] theorem qHx (c a b):evS call σ (.ite c a b)=(evE call σ c).bind (qPt (qAp call σ a) (qAp call σ b)):=rfl
@[simp] theorem qFt (tg src body):evS call σ (.forS tg src body)=(evE call σ src).bind λx=>(qDy x.2).bind λits=>qBp call body tg its σ:=rfl
@[simp] theorem qFu (tg rs body):evS call σ (.forR tg rs body)=(qCj call σ rs).bind λx=>(qEQ x).bind λits=>qBp call body tg its σ:=rfl
@[simp] theorem qHw (tg i):evS call σ (.pop tg i)=qOt σ tg i:=rfl
@[simp] theorem qHu (c body):evS call σ (.whl c body)=qDq (fun σ'=>evE call σ' c) (fun σ'=>qAp call σ' body) big σ:=rfl
@[simp] theorem qJk:qAp call σ []=some (.nx σ):=rfl
@[simp] theorem qAP (a r):qAp call σ (a::r)=(evS call σ a).bind (qKr fun σ'=>qAp call σ' r):=rfl
@[simp] theorem qHA (body tg):qBp call body tg [] σ=some (.nx σ):=rfl
theorem qBV (body tg x r):qBp call body tg (x::r) σ=(qBy σ tg x).bind fun σ1=>(qAp call σ1 body).bind λo=>qI8 (qBp call body tg r) o:=by
 show (qBy σ tg x).bind _=(qBy σ tg x).bind _
 congr
theorem qC1 (e tg x r):qAT call e σ tg (x::r)=(qBy σ tg x).bind fun σ1=>(evE call σ1 e).bind λy=>(qAT call e σ tg r).bind λys=>some (y.2::ys):=rfl
theorem qEt (c e tg x r):qBx call c e σ tg (x::r)=(qBy σ tg x).bind fun σ1=>(evE call σ1 c).bind (qPv ((evE call σ1 e).bind λy=>(qBx call c e σ tg r).bind λys=>some (y.2::ys)) (qBx call c e σ tg r)):=rfl
theorem qBa {α:Type}{e:C}{tg:Tg}(enc g:α->D):∀(l:List α),(∀x∈l,∃σ' b,qBy σ tg (enc x)=some σ'/\evE call σ' e=some (b,g x))->qAT call e σ tg (l.map enc)=some (l.map g)
 | [],_=>rfl
 | x::r,h=>by
  obtain⟨σ',b,h1,h2⟩:=h x List.mem_cons_self
  simp [qC1,h1,h2,qBa enc g r λy hy=>h y (List.mem_cons_of_mem _ hy)]
end
theorem qEB {α:Type}(f:α->Bool):∀l:List α,qDV (l.map λx=>.bl (f x))=some (l.map f)
 | []=>rfl
 | x::r=>by simp [qEB f r]
structure Fd where
 np:Nat
 ns:Nat
 body:List S
@[simp] noncomputable def qP9:Ou->Option R
 | .nx _=>some (false,.non)
 | .rt r=>some r
 | _=>none
@[simp] noncomputable def agE:Bool->List D->En
 | _,[]=>[]
 | true,.dct _ _::r=>none::agE true r
 | false,.dct m ks::r=>some (true,.dct m ks)::agE true r
 | b,d::r=>some (false,d)::agE b r
noncomputable def qL7 (call:Nat->List D->Option R) (fd:Fd) (as:List D):Option R:=
 if as.length=fd.np then (qAp call (agE false as++List.replicate (fd.ns - fd.np) none) fd.body).bind qP9 else none
@[simp] noncomputable def qPw:Ou->Option R
 | .nx σ=>(qAf σ 0).bind λr=>(qIl r).map λxs=>(true,.lst xs)
 | _=>none
noncomputable def qOr (call:Nat->List D->Option R) (fd:Fd):List D->Option R
 | .lst xs::as=>if as.length+1=fd.np then (qAp call (some (true,.lst xs)::as.map (λd=>some (false,d))++List.replicate (fd.ns - fd.np) none) fd.body).bind qPw else none
 | _=>none
noncomputable def qAH (tab:List Fd):Nat->Nat->List D->Option R
 | 0,_,_=>none
 | n+1,f,as=>match tab[f]? with
  | some fd=>qL7 (qAH tab n) fd as
  | none=>if HX<=f then (match tab[f - HX]? with|some fd=>qOr (qAH tab n) fd as|none=>none) else none
theorem qDT {tab:List Fd}{f:Nat}{fd:Fd}(h:tab[f]?=some fd) (n:Nat) (as:List D):qAH tab (n+1) f as=qL7 (qAH tab n) fd as:=by
 rw [qAH,h]
theorem qDU {tab:List Fd}{f:Nat}{fd:Fd}(hT:tab.length<=HX) (h:tab[f]?=some fd) (n:Nat) (as:List D):qAH tab (n+1) (f+HX) as=qOr (qAH tab n) fd as:=by
 rw [qAH,List.getElem?_eq_none (by omega)]
 show (if HX<=f+HX then _ else _)=_
 rw [if_pos (Nat.le_add_left _ _),Nat.add_sub_cancel,h]
end Dw
namespace Dw
open PySem
structure Uc where
 f:Str
 i:Nat
 np:Nat
 ks:List Str
 pl:List Ar
structure Mt where
 c:Str
 kn:Kn
 m:Str
 i:Nat
structure Gx where
 defs:List (Str×Nat)
 cons:List (Str×Int):=[]
 ucal:List Uc:=[]
 meth:List Mt:=[]
 flds:List (Str×Nat):=[]
 isa:List (Str×List (Nat×Bool)):=[]
noncomputable def qOh (x:Str) (n:Nat):Option BI:=
 if x=Str.ofString "str" then (if n=1 then some .str else none) else none
noncomputable def qPi (x:Str) (n:Nat):Option BI:=
 if x=Str.ofString "len" then (if n=1 then some .len else none) else
 if x=Str.ofString "min" then (if n=2∨n=1 then some .min else none) else
 if x=Str.ofString "max" then (if n=2∨n=3∨n=1 then some .max else none) else
 if x=Str.ofString "sum" then (if n=1 then some .sum else none) else
 if x=Str.ofString "tuple" then (if n=1 then some .tuple else none) else
 qOh x n
noncomputable def qOo (x:Str):Option Ty:=
 if x=Str.ofString "int" then some .int else
 if x=Str.ofString "bool" then some .bool else
 if x=Str.ofString "tuple" then some .tuple else
 if x=Str.ofString "list" then some .list else
 if x=Str.ofString "str" then some .str else none
noncomputable def qN9:Operator->Option BOp
 | .Add=>some .add|.Sub=>some .sub|.Mult=>some .mul|.FloorDiv=>some .fdiv|.Mod=>some .mod|.Pow=>some .pow|.LShift=>some .shl|.RShift=>some .shr|.BitAnd=>some .band|.BitOr=>some .bor|.BitXor=>some .bxor|_=>none
noncomputable def qNW:CmpOp->Option COp
 | .Eq=>some .eq|.NotEq=>some .ne|.Lt=>some .lt|.LtE=>some .le|.Gt=>some .gt|.GtE=>some .ge|.In=>some .isin|.NotIn=>some .notin|_=>none
noncomputable def kOf:Const->Option D
 | .int i=>some (.int i)|.bool b=>some (.bl b)|.none=>some .non|.str x=>some (.str x)|_=>none
noncomputable def qAN (N:List Str) (x:Str):Option Nat:=N.findIdx? (· == x)
noncomputable def qL5 (sc:Scope) (x:Str):Bool:=sc.names.lookup x == some .local||sc.names.lookup x == some .cell||sc.names.lookup x == some .free
noncomputable def glB (sc:Scope) (x:Str):Bool:=sc.names.lookup x == some .globalImplicit
noncomputable def qAM (x:Str):Bool:=x != Str.ofString "__debug__"&&x != Str.ofString "__classdict__"&&x != Str.ofString "__name__"
noncomputable def qBh (sc:Scope) (N:List Str) (x:Str):Option Nat:=if qL5 sc x&&qAM x then qAN N x else none
noncomputable def qL9 (sc:Scope) (x:Str):Bool:=sc.names.lookup x == some .cell||sc.names.lookup x == some .free
noncomputable def qBY (sc:Scope) (N:List Str) (x:Str):Option Nat:=if qL9 sc x then qBh sc N x else none
noncomputable def qAO (sc:Scope):List Str:=(sc.names.filter λp=>p.2 == .local&&p.1 != Str.ofString ".0").map (·.1)
noncomputable def qAu (sc:Scope):List Str:=(sc.names.filter λp=>p.2 == .free).map (·.1)
noncomputable def qDz (sc:Scope):Bool:=sc.kind == .function&&sc.names.all (λp=>p.2 != .cell)&&decide ((sc.names.map (·.1)).Nodup)&&(qAO sc++qAu sc).all qAM
noncomputable def qAS {α β:Type}(f:α->Option β):List α->Option (List β)
 | []=>some []
 | a::r=>(f a).bind λx=>(qAS f r).bind λxs=>some (x::xs)
noncomputable def qJ4 (sc:Scope) (N:List Str):Expr->Option Nat
 | .Name x _=>if sc.names.lookup x == some .local||sc.names.lookup x == some .cell then qAN N x else none
 | _=>none
noncomputable def qDs (sc:Scope) (N:List Str):Expr->Option Tg
 | .Name x _=>if sc.names.lookup x == some .local||sc.names.lookup x == some .cell then (qAN N x).map .one else none
 | .Tuple [.Name x _,.Name y _] _ _=>if (sc.names.lookup x == some .local||sc.names.lookup x == some .cell)&&(sc.names.lookup y == some .local||sc.names.lookup y == some .cell)&&x != y then
   (qAN N x).bind λi=>(qAN N y).bind λj=>some (.two i j) else none
 | _=>none
noncomputable def tgM (sc:Scope) (N:List Str) (e:Expr):Option Tg:=match qDs sc N e with
 | some t=>some t
 | none=>match e with
  | .Tuple es _ _=>(qAS (qJ4 sc N) es).map .many
  | _=>none
inductive Sr where|seq (e:Expr)|rng (es:List Expr)|zip (a b:Expr)|rev (es:List Expr)|enm (a:Expr)
noncomputable def qIk (sc:Scope):Expr->Sr
 | .Call (.Name f p) as [] pos =>
  if glB sc f&&f == Str.ofString "range"&&(as.length == 1||as.length == 2||as.length == 3) then .rng as else
  if glB sc f&&f == Str.ofString "zip" then (match as with|[a,b]=>.zip a b|_=>.seq (.Call (.Name f p) as [] pos)) else
  if glB sc f&&f == Str.ofString "reversed" then (match as with
   | [.Call (.Name h _) [a] [] _]=>if glB sc h&&h == Str.ofString "range" then .rev [a] else .seq (.Call (.Name f p) as [] pos)
   | _=>.seq (.Call (.Name f p) as [] pos)) else
  if glB sc f&&f == Str.ofString "enumerate" then (match as with|[a]=>.enm a|_=>.seq (.Call (.Name f p) as [] pos)) else .seq (.Call (.Name f p) as [] pos)
 | e=>.seq e
variable (G:Gx)
noncomputable def qLp (c:Str):Option Mt:=G.meth.find? λu=>u.c == c
noncomputable def tbM (m:Str):List (Nat×Nat):=(G.meth.filter λu=>u.m == m).map λu=>(u.kn.c,u.i)
noncomputable def qEG:Expr->Bool
 | .Name _ _=>true
 | .Attribute _ _ _=>true
 | .Subscript _ _ _=>true
 | _=>false
noncomputable def qLX:Expr->Bool
 | .Call (.Name _ _) (_::_) _ _=>true
 | _=>false
noncomputable def isT:List Expr->Bool
 | [.Constant (.bool true) _ _]=>true
 | _=>false
noncomputable def cGl (sc:Scope) (x:Str):Option C:=if glB sc x&&qAM x then (G.cons.lookup x).map λi=>.k (.int i) else none
mutual
noncomputable def cE:Nat->Scope->List Str->Expr->Option C
 | 0,_,_,_=>none
 | n+1,sc,N,e=>match e with
  | .Name x _=>match qBh sc N x with|some i=>some (.v i)|none=>cGl G sc x
  | .Constant c _ _=>(kOf c).map .k
  | .BinOp a op b _=>(qN9 op).bind λo=>(cE n sc N a).bind λx=>(cE n sc N b).bind λy=>some (.bin o x y)
  | .UnaryOp .USub a _=>(cE n sc N a).map .neg
  | .UnaryOp .Not a _=>(cE n sc N a).map .not
  | .BoolOp .And es _=>if 2<=es.length then qMa n sc N es else none
  | .BoolOp .Or es _=>if 2<=es.length then cOr n sc N es else none
  | .Compare a [.Is] [.Constant c _ _] _=>(kOf c).bind λd=>(cE n sc N a).bind λx=>some (.isC false x d)
  | .Compare a [.IsNot] [.Constant c _ _] _=>(kOf c).bind λd=>(cE n sc N a).bind λx=>some (.isC true x d)
  | .Compare a [op] [b] _=>(qNW op).bind λo=>(cE n sc N a).bind λx=>(cE n sc N b).bind λy=>some (.cmp o x y)
  | .Subscript a (.Slice lo hi none _) _=>(cE n sc N a).bind λx=>(cO n sc N lo).bind λl=>(cO n sc N hi).bind λh=>some (.sl x l h)
  | .Subscript a b _=>(cE n sc N a).bind λx=>(cE n sc N b).bind λy=>some (.ix x y)
  | .Tuple es _ _=>(cEs n sc N es).map .tup
  | .List es _=>(cEs n sc N es).map .lst
  | .Call (.Name f _) as [] _=>if glB sc f&&qAM f then qLS n sc N f as else none
  | .Call (.Attribute (.Constant (.str x) _ _) m p2) [e] [] p3=>if m == Str.ofString "join"&&p2.endLine == p3.line then (cE n sc N e).map λc=>.join (.k (.str x)) c else none
  | .JoinedStr (a::b::es) _=>(cJ n sc N (a::b::es)).map .fstr
  | .IfExp t a b _=>(cE n sc N t).bind λc=>(cE n sc N a).bind λx=>(cE n sc N b).bind λy=>some (.ifx c x y)
  | .ListComp e [⟨tg,it,[],0⟩] sc' _ =>
   if qDz sc' then
    (qDs sc' (qAO sc'++qAu sc') tg).bind λt=>(qAS (qBY sc N) (qAu sc')).bind λks=>(cE n sc' (qAO sc'++qAu sc') e).bind λc =>
     match qIk sc it with
     | .seq s=>(cE n sc N s).bind λx=>some (.compS c (qAO sc').length ks t x)
     | .rng rs=>(cEs n sc N rs).bind λxs=>some (.compR c (qAO sc').length ks t xs)
     | .zip _ _=>none
     | .rev _=>none
     | .enm _=>none
   else none
  | e=>cX n sc N e
noncomputable def cX:Nat->Scope->List Str->Expr->Option C
 | 0,_,_,_=>none
 | n+1,sc,N,e=>match e with
  | .ListComp e [⟨tg,it,[cd],0⟩] sc' _ =>
   if qDz sc' then
    (qDs sc' (qAO sc'++qAu sc') tg).bind λt=>(qAS (qBY sc N) (qAu sc')).bind λks=>(cE n sc' (qAO sc'++qAu sc') e).bind λc=>(cE n sc' (qAO sc'++qAu sc') cd).bind λcc =>
     match qIk sc it with
     | .seq s=>(cE n sc N s).bind λx=>some (.compF c cc (qAO sc').length ks t x)
     | .rng rs=>(cEs n sc N rs).bind λxs=>some (.compG c cc (qAO sc').length ks t xs)
     | _=>none
   else none
  | .Attribute a f _=>if qEG a then (G.flds.lookup f).bind λj=>(cE n sc N a).map λx=>.fld x j f else none
  | .Call (.Attribute a m p2) bs [] p3=>if m == Str.ofString "count"&&isT bs&&qLX a&&(p2.endLine == p3.line) then (cE n sc N a).map .cntT else if qEG a&&(p2.endLine == p3.line)&&decide (bs.length<30) then (cE n sc N a).bind λx=>(cEs n sc N bs).map λys=>.mc x m (tbM G m) ys else none
  | _=>none
noncomputable def qLS:Nat->Scope->List Str->Str->List Expr->Option C
 | 0,_,_,_,_=>none
 | n+1,sc,N,f,as=>match G.defs.lookup f with
  | some i=>if as.isEmpty then none else (cEs n sc N as).map (.call i)
  | none=>match qLp G f with
   | some u=>(cEs n sc N as).map (.mk u.kn)
   | none=>match f == Str.ofString "isinstance",as with
   | true,[a,.Name t _]=>match G.isa.lookup t with
    | some tb=>if glB sc t&&qAM t then (cE n sc N a).bind λx=>some (.iso x tb) else none
    | none=>if glB sc t&&(G.defs.lookup t).isNone then (qOo t).bind λty=>(cE n sc N a).bind λx=>some (.isi x ty) else none
   | false,as=>(qPi f as.length).bind λb=>(cEs n sc N as).map (.bi b)
   | _,_=>none
noncomputable def cEs:Nat->Scope->List Str->List Expr->Option (List C)
 | 0,_,_,_=>none
 | n+1,sc,N,es=>match es with
  | []=>some []
  | a::r=>(cE n sc N a).bind λx=>(cEs n sc N r).bind λxs=>some (x::xs)
noncomputable def cO:Nat->Scope->List Str->Option Expr->Option (Option C)
 | 0,_,_,_=>none
 | n+1,sc,N,o=>match o with
  | none=>some none
  | some e=>(cE n sc N e).map some
noncomputable def cJ:Nat->Scope->List Str->List Expr->Option (List C)
 | 0,_,_,_=>none
 | n+1,sc,N,es=>match es with
  | []=>some []
  | .Constant (.str x) _ _::r=>(cJ n sc N r).map λxs=>.k (.str x)::xs
  | .FormattedValue e (-1) none _::r=>(cE n sc N e).bind λx=>(cJ n sc N r).bind λxs=>some (.fmt x::xs)
  | _=>none
noncomputable def qMa:Nat->Scope->List Str->List Expr->Option C
 | 0,_,_,_=>none
 | n+1,sc,N,es=>match es with
  | [a]=>cE n sc N a
  | a::b::r=>(cE n sc N a).bind λx=>(qMa n sc N (b::r)).bind λy=>some (.and x y)
  | []=>none
noncomputable def cOr:Nat->Scope->List Str->List Expr->Option C
 | 0,_,_,_=>none
 | n+1,sc,N,es=>match es with
  | [a]=>cE n sc N a
  | a::b::r=>(cE n sc N a).bind λx=>(cOr n sc N (b::r)).bind λy=>some (.or x y)
  | []=>none
end
noncomputable def qIm:Nat->List Str->List Stmt->List Nat
 | 0,_,_=>[]
 | _+1,_,[]=>[]
 | n+1,N,st::r=>(match st with
  | .Assign [.Subscript (.Name x _) _ _] _ _=>(qAN N x).toList
  | .Expr (.Call (.Attribute (.Name x _) m _) _ _ _) _=>if m == Str.ofString "append"||m == Str.ofString "extend"||m == Str.ofString "pop" then (qAN N x).toList else []
  | .Assign _ (.Call (.Attribute (.Name x _) m _) _ _ _) _=>if m == Str.ofString "pop" then (qAN N x).toList else []
  | .Expr (.Call (.Name _ _) (.Name x _::_) _ _) _=>(qAN N x).toList
  | .If _ a b _=>qIm n N a++qIm n N b
  | .For _ _ b _ _=>qIm n N b
  | .While _ b _ _=>qIm n N b
  | _=>[])++qIm n N r
noncomputable def alK (c:C) (r:List Nat):List Nat:=match c with
 | .v _=>[]
 | _=>r
mutual
noncomputable def alC:C->List Nat
 | .v i=>[i]
 | .k _=>[]
 | .bin _ a b=>alK a (alC a)++alK b (alC b)
 | .neg a=>alK a (alC a)
 | .cmp _ a b=>alK a (alC a)++alK b (alC b)
 | .isC _ a _=>alK a (alC a)
 | .inV _ a _=>alK a (alC a)
 | .and a b=>alC a++alC b
 | .or a b=>alC a++alC b
 | .not a=>alC a
 | .ix a b=>alK a (alC a)++alK b (alC b)
 | .sl a _ _=>alK a (alC a)
 | .tup as=>qIn as
 | .lst as=>qIn as
 | .call _ as=>qIn as
 | .bi _ as=>qOj as
 | .isi a _=>alK a (alC a)
 | .bitl a=>alK a (alC a)
 | .ifx c a b=>alC c++alC a++alC b
 | .rev a=>alK a (alC a)
 | .join a b=>alK a (alC a)++alK b (alC b)
 | .fstr as=>qIn as
 | .callP _ as ks _=>qIn as++qIn ks
 | .chn _ _ a b c=>alK a (alC a)++alK b (alC b)++alK c (alC c)
 | .compS e nl ks _ s=>alC s++(alC e).filterMap λj=>if nl<=j then ks[j - nl]? else none
 | .compR e nl ks _ rs=>qOj rs++(alC e).filterMap λj=>if nl<=j then ks[j - nl]? else none
 | .compZ e nl ks _ a b=>alC a++alC b++(alC e).filterMap λj=>if nl<=j then ks[j - nl]? else none
 | .compE e nl ks _ a=>alC a++(alC e).filterMap λj=>if nl<=j then ks[j - nl]? else none
 | .compF e c nl ks _ a=>alC a++(alC e++alC c).filterMap λj=>if nl<=j then ks[j - nl]? else none
 | .compG e c nl ks _ rs=>qOj rs++(alC e++alC c).filterMap λj=>if nl<=j then ks[j - nl]? else none
 | .fld a _ _=>alC a
 | .mk _ as=>qIn as
 | .mc a _ _ bs=>alC a++qIn bs
 | .iso a _=>alC a
 | .cntT a=>alC a
 | .fmt a=>alK a (alC a)
termination_by structural c=>c
noncomputable def qIn:List C->List Nat
 | []=>[]
 | a::r=>alC a++qIn r
termination_by structural c=>c
noncomputable def qOj:List C->List Nat
 | []=>[]
 | a::r=>alK a (alC a)++qOj r
termination_by structural c=>c
end
noncomputable def qCD (mt:List Nat) (is:List Nat) (s:S):List S:=match is.filter (mt.contains ·) with
 | []=>[s]
 | js=>[.frz js,s]
noncomputable def qOz (n:Nat) (sc:Scope) (N:List Str) (mt:List Nat) (x:Str) (e:Expr):Option (List S):=
 if sc.names.lookup x == some .local||sc.names.lookup x == some .cell then (qAN N x).bind λi=>if i == 0&&mt.contains i then none else (cE G n sc N e).bind λc=>some (qCD mt (alC c) (.set i (mt.contains i) c)) else none
noncomputable def qNl:Expr->Option Str
 | .Name x _=>some x
 | _=>none
noncomputable def qLH (mt:List Nat) (sc:Scope) (N:List Str):Expr->Expr->List Stmt->Option (Nat×Nat×Expr×List Stmt)
 | .Name x _,.Name l _,[.If t a [] _]=>(qBh sc N l).bind λi=>if mt.contains i&&(sc.names.lookup x == some .local||sc.names.lookup x == some .cell) then (qAN N x).bind λj=>some (i,j,t,a) else none
 | _,_,_=>none
mutual
noncomputable def cS:Nat->Scope->List Str->List Nat->Stmt->Option (List S)
 | 0,_,_,_,_=>none
 | n+1,sc,N,mt,st=>match st with
  | .Assign [tg] (.Call (.Attribute (.Name x px) m p2) [] [] p3) _=>if m == Str.ofString "pop"&&p2.endLine == p3.line then (tgM sc N tg).bind λt=>(qBh sc N x).bind λi=>some [.pop t i] else (qNl tg).bind λy=>qOz G n sc N mt y (.Call (.Attribute (.Name x px) m p2) [] [] p3)
  | .Assign [.Name x _] e _=>qOz G n sc N mt x e
  | .Expr (.Call (.Attribute (.Name x _) m p2) [e] [] p3) _=>if m == Str.ofString "append"&&p2.endLine == p3.line then (qBh sc N x).bind λi=>(cE G n sc N e).bind λc=>some (qCD mt (alC c) (.app i c)) else none
  | .While t body [] _=>(cE G n sc N t).bind λc=>(cSs n sc N mt body).bind λb=>some (qCD mt (alC c) (.whl c b))
  | .Expr (.Call (.Name f _) (.Name x _::as) [] _) _=>if glB sc f&&qAM f then (G.defs.lookup f).bind λfi=>(qBh sc N x).bind λi=>(cEs G n sc N as).bind λcs=>some (qCD mt (qIn cs) (.hnd i fi cs)) else none
  | .Return (some e) _=>(cE G n sc N e).bind λc=>some (qCD mt (alK c (alC c)) (.ret c))
  | .If t a b _=>(cE G n sc N t).bind λc=>(cSs n sc N mt a).bind λx=>(cSs n sc N mt b).bind λy=>some (qCD mt (alC c) (.ite c x y))
  | .For tg it body [] _=>match qLH mt sc N tg it body with
   | some (i,j,t,a)=>(cE G n sc N t).bind λc=>(cSs n sc N mt a).bind λb=>some (qCD mt (alC c) (.forO i j c b))
   | none=>(tgM sc N tg).bind λt=>(cSs n sc N mt body).bind λb=>match qIk sc it with
   | .seq s=>(cE G n sc N s).bind λx=>some (qCD mt (alC x) (.forS t x b))
   | .rng rs=>(cEs G n sc N rs).bind λxs=>some (qCD mt (qOj xs) (.forR t xs b))
   | .zip _ _=>none
   | .rev _=>none
   | .enm _=>none
  | _=>none
noncomputable def cSs:Nat->Scope->List Str->List Nat->List Stmt->Option (List S)
 | 0,_,_,_,_=>none
 | n+1,sc,N,mt,st=>match st with
  | []=>some []
  | a::r=>(cS n sc N mt a).bind λx=>(cSs n sc N mt r).bind λy=>some (x++y)
end
noncomputable def qAx (sc:Scope):List Str:=(sc.names.filter λp=>p.2 == .local||p.2 == .cell).map (·.1)
end Dw
namespace L2
open PySem PySem.Spec PyProof.Rows
noncomputable abbrev Key:=Sum Int Str
noncomputable def qNx:Key->Value->Bool
 | .inl k,v=>Value.isInt k v
 | .inr x,v=>Value.isStrOf x v
noncomputable def qP6 (w:World):Key->Int
 | .inl k=>hashInt k
 | .inr x=>hashStr w x
theorem qAQ:∀{k:Key}{v:Value},qNx k v=true->(∃i t,k=Sum.inl i/\v=Value.int i t)∨(∃x t,k=Sum.inr x/\v=Value.str x t)
 | .inl i,v,h=>by
  obtain⟨t,e⟩:=Value.isInt_shape (k:=i) (v:=v) h
  exact .inl ⟨i,t,rfl,e⟩
 | .inr x,v,h=>by
  obtain⟨t,e⟩:=Value.isStrOf_shape (x:=x) (v:=v) h
  exact .inr ⟨x,t,rfl,e⟩
theorem qNw (a b:Int):decide ((Sum.inl a:Key)=Sum.inl b)=(a == b):=by
 by_cases e:a=b
 ·subst e;simp
 ·have h:¬(Sum.inl a:Key)=Sum.inl b:=λq=>e (Sum.inl.inj q)
  rw [decide_eq_false h]
  exact (beq_eq_false_iff_ne.mpr e).symm
theorem qNt (a b:Str):decide ((Sum.inr a:Key)=Sum.inr b)=decide (a=b):=by
 by_cases e:a=b
 ·subst e;simp
 ·have h:¬(Sum.inr a:Key)=Sum.inr b:=λq=>e (Sum.inr.inj q)
  rw [decide_eq_false h,decide_eq_false e]
theorem qNv (a:Int) (b:Str):decide ((Sum.inl a:Key)=Sum.inr b)=false:=decide_eq_false (λq=>nomatch q)
theorem qNu (a:Str) (b:Int):decide ((Sum.inr a:Key)=Sum.inl b)=false:=decide_eq_false (λq=>nomatch q)
noncomputable def qG4 (prog:Program) (w:World):PySem.KeyKind prog w Key where
 is:=qNx
 hash:=qP6 w
 inj:=λv a b ha hb=>by
  rcases qAQ ha with ⟨i,t,rfl,rfl⟩|⟨x,t,rfl,rfl⟩
  ·rcases qAQ hb with ⟨j,u,rfl,e⟩|⟨y,u,rfl,e⟩
   ·injection e with e1 _;rw [e1]
   ·exact nomatch e
  ·rcases qAQ hb with ⟨j,u,rfl,e⟩|⟨y,u,rfl,e⟩
   ·exact nomatch e
   ·injection e with e1 _;rw [e1]
 byValue:=λk v h=>by
  rcases qAQ h with ⟨i,t,rfl,rfl⟩|⟨x,t,rfl,rfl⟩<;>rfl
 pyHash:=λhv h=>by
  rcases qAQ hv with ⟨i,t,rfl,rfl⟩|⟨x,t,rfl,rfl⟩
  ·exact wpAny_pyHash_int h
  ·exact wpAny_pyHash_str h
 eqBool:=λhu hv h=>by
  rcases qAQ hu with ⟨i,t,rfl,rfl⟩|⟨x,t,rfl,rfl⟩
  ·rcases qAQ hv with ⟨j,u,rfl,rfl⟩|⟨y,u,rfl,rfl⟩
   ·rw [qNw] at h;exact wpAny_eqBool_int h
   ·rw [qNv] at h;exact SeqAt.EqAt.int_str i t y u _ _ _ _ h
  ·rcases qAQ hv with ⟨j,u,rfl,rfl⟩|⟨y,u,rfl,rfl⟩
   ·rw [qNu] at h;exact SeqAt.EqAt.str_int x t j u _ _ _ _ h
   ·rw [qNt] at h;exact wpAny_eqBool_str h
 «strs»:=λk x t v h=>by
  rcases qAQ h with ⟨i,u,rfl,e⟩|⟨y,u,rfl,e⟩
  ·exact nomatch e
  ·injection e with e1 _
   subst e1
   cases v<;>rfl
end L2
namespace L2
open PySem PySem.Spec PyProof.Rows
inductive V where
 | non|bl (b:Bool)|int (i:Int)|str (x:Str)|byt (b:Array UInt8)|flt (b:UInt64)|ref (a:Addr)|ty (n:String)
 deriving DecidableEq
noncomputable def RelV:V->Value->Prop
 | .non,u=>u=Value.none
 | .bl b,u=>u=Value.bool b
 | .int i,u=>∃t,u=Value.int i t
 | .str x,u=>∃t,u=Value.str x t
 | .byt b,u=>∃t,u=Value.bytes b t
 | .flt b,u=>∃t,u=Value.float b t
 | .ref a,u=>u=Value.ref a
 | .ty n,u=>u=Value.type n
noncomputable abbrev Vals:List V->List Value->Prop:=Paired RelV
theorem Vals.length {xs:List V}{us:List Value}(r:Vals xs us):xs.length=us.length:=Paired.length r
theorem Vals.get:∀{xs:List V}{us:List Value}{i:Nat}{x:V},Vals xs us->xs[i]?=some x->∃u,us[i]?=some u/\RelV x u
 | _,_,_,_,.nil,e=>by simp at e
 | _,_,0,_,.cons r _,e=>by simp at e;subst e;exact⟨_,rfl,r⟩
 | _,_,i+1,x,.cons _ t,e=>by
  obtain⟨u,h1,h2⟩:=Vals.get (i:=i) (x:=x) t (by simpa using e)
  exact⟨u,by simpa using h1,h2⟩
theorem Vals.set {x:V}{u:Value}(r:RelV x u):∀{xs:List V}{us:List Value}(i:Nat),Vals xs us->Vals (xs.set i x) (us.set i u)
 | _,_,_,.nil=>.nil
 | _,_,0,.cons _ t=>.cons r t
 | _,_,i+1,.cons q t=>.cons q (Vals.set r i t)
theorem Vals.append:∀{xs ys:List V}{us ws:List Value},Vals xs us->Vals ys ws->Vals (xs++ys) (us++ws)
 | _,_,_,_,.nil,s=>s
 | _,_,_,_,.cons r t,s=>.cons r (Vals.append t s)
theorem Vals.take:∀{xs:List V}{us:List Value}(n:Nat),Vals xs us->Vals (xs.take n) (us.take n)
 | _,_,0,_=>.nil
 | _,_,_+1,.nil=>.nil
 | _,_,n+1,.cons r t=>.cons r (Vals.take n t)
theorem Vals.drop:∀{xs:List V}{us:List Value}(n:Nat),Vals xs us->Vals (xs.drop n) (us.drop n)
 | _,_,0,r=>r
 | _,_,_+1,.nil=>.nil
 | _,_,n+1,.cons _ t=>Vals.drop n t
theorem Vals.none_of:∀{xs:List V}{us:List Value}{i:Nat},Vals xs us->xs[i]?=none->us[i]?=none:=λ{xs us i} r e=>by
 have h1:=r.length
 have h2:xs.length<=i:=List.getElem?_eq_none_iff.mp e
 exact List.getElem?_eq_none_iff.mpr (by omega)
noncomputable def RelO:Option V->Option Value->Prop
 | some v,some u=>RelV v u
 | none,none=>True
 | _,_=>False
noncomputable def KV {κ:Type}:List (κ×V)->List (κ×Value)->Prop:=Paired λ(p:κ×V) (q:κ×Value)=>p.1=q.1/\RelV p.2 q.2
noncomputable def kV:Key->V
 | .inl i=>.int i
 | .inr x=>.str x
inductive HO where
  | lst (xs:List V)
  | tup (xs:List V)
  | dK (kvs:List (Key×V))|dT (kvs:List (List Key×V))
  | set (S:Int->Bool) (n:Nat)
  | ins (C dx:Addr) (fs:List (Str×V))
  | own (x:Addr)
  | xd (fs:List (Str×V))
  | met (f x:Addr)
  | rng (lo hi:Int)
  | frz (o:Obj) (u:HO)
  | tbl (ps:Array Value)
  | ext (φ:Heap->Prop)
noncomputable abbrev Hp:=Addr->Option HO
noncomputable def upd (H:Hp) (a:Addr) (o:HO):Hp:=λb=>if b=a then some o else H b
theorem qAG {H:Hp}{a:Addr}{o:HO}:upd H a o a=some o:=by unfold upd;rw [if_pos rfl]
theorem qAl {H:Hp}{a b:Addr}{o:HO}(h:b≠a):upd H a o b=H b:=by unfold upd;rw [if_neg h]
theorem qGp {H:Hp}{a:Addr}{o u:HO}:upd (upd H a o) a u=upd H a u:=by
 funext b;unfold upd;split<;>rfl
theorem qAL {H:Hp}{a b:Addr}{o:HO}(h:H a=some o) (h':H b=none):a≠b:=by
 intro e;subst e;rw [h] at h';cases h'
section
variable (P:Program) (w:World)
noncomputable def ObjOk (H:Hp) (h:Heap) (a:Addr):HO->Prop
 | .lst xs=>xs.length<=sizeLine/\∃(its:List Value) (n:Nat),Vals xs its/\h.get? a=some { cls:=.type "list",data:=.seq its.toArray n }
 | .tup xs=>xs.length<=sizeLine/\∃its:List Value,Vals xs its/\IsTup h a its.toArray
 | .dK kvs=>kvs.length<=sizeLine/\(a == sysModules)=false/\∃vs,KV kvs vs/\h.DictOf (qG4 P w) a vs
 | .dT kvs=>kvs.length<=sizeLine/\(a == sysModules)=false/\∃xs:List (List Key×Addr×Value),
   Paired (λ(p:List Key×V) (q:List Key×Addr×Value)=>p.1=q.1/\H q.2.1=some (.tup (p.1.map kV))/\RelV p.2 q.2.2) kvs xs /\
   ∃o es ep,h.get? a=some o/\o.ExactDict/\o.data=.dict es ep/\es.toList=xs.map (entryOfKey (tupleKind (qG4 P w)))/\(xs.map (·.1)).Nodup
 | .set S n=>h.SetOf (intKind P w) a S n
 | .ins C dx fs=>H dx=some (.own a)/\fs.length<=1000/\dx≠a/\h.get? a=some (PySem.W.instObj C dx) /\
   ∃mA,h.Ns1 dx mA/\(∀f,RelO (fs.lookup f) (mA f))/\PySem.Within mA (fs.map (·.1))
 | .own _=>∃o,h.get? a=some o
 | .xd fs=>∃mA,h.Ns1 a mA/\∀f,RelO (fs.lookup f) (mA f)
 | .rng lo hi=>∃t u v,h.get? a=some { cls:=.type "range",data:=.fields #[.int lo t,.int hi u,.int 1 v] }
 | .frz o u=>h.get? a=some o/\ObjOk H h a u
 | .tbl ps=>h.get? a=some { cls:=.none,data:=.fields ps }
 | .met f x=>h.get? a=some (PySem.W.methodObj (.ref f) (.ref x))
 | .ext φ=>φ h/\(∃o,h.get? a=some o)/\∀h1 h2:Heap,φ h1->(∀o,h1.get? a=some o->h2.get? a=some o)->φ h2
noncomputable def HOk (H:Hp) (h:Heap):Prop:=∀a o,H a=some o->ObjOk P w H h a o
end
section
variable {P:Program}{w:World}{H H':Hp}{h h':Heap}{a:Addr}{o:HO}
theorem ObjOk.lt (x:ObjOk P w H h a o):a<h.objs.size:=by
 cases o with
 | lst xs=>obtain⟨_,_,_,_,e⟩:=x;exact Heap.lt_size e
 | tup xs=>obtain⟨_,_,_,p⟩:=x;exact p.lt
 | dK kvs=>obtain⟨_,_,_,_,o,_,_,e,_⟩:=x;exact Heap.lt_size e
 | dT kvs=>obtain⟨_,_,_,_,o,_,_,e,_⟩:=x;exact Heap.lt_size e
 | set S n=>obtain⟨o,_,_,_,e,_⟩:=x;exact Heap.lt_size e
 | ins C dx fs=>obtain⟨_,_,_,e,_⟩:=x;exact Heap.lt_size e
 | own y=>obtain⟨_,e⟩:=x;exact Heap.lt_size e
 | xd fs=>obtain⟨_,⟨_,_,_,e,_⟩,_⟩:=x;exact Heap.lt_size e
 | rng lo hi=>obtain⟨_,_,_,e⟩:=x;exact Heap.lt_size e
 | frz ob u=>obtain⟨e,_⟩:=x;exact Heap.lt_size e
 | tbl ps=>exact Heap.lt_size (show h.get? a=some _ from x)
 | met f y=>exact Heap.lt_size (show h.get? a=some _ from x)
 | ext φ=>obtain⟨_,⟨_,e⟩,_⟩:=x;exact Heap.lt_size e
theorem Paired.mapP {α β:Type}{F G:α->β->Prop}:∀{l₁:List α}{l₂:List β},Paired F l₁ l₂->(∀a b,F a b->G a b)->Paired G l₁ l₂
 | _,_,.nil,_=>.nil
 | _,_,.cons r t,f=>.cons (f _ _ r) (Paired.mapP t f)
theorem ObjOk.stay (x:ObjOk P w H h a o) (k:∀b u,(b=a∨H b=some (.own a))->h.get? b=some u->h'.get? b=some u)
  (ho:∀b,H b=some (.own a)->H' b=some (.own a)) (ht:∀b xs,H b=some (.tup xs)->H' b=some (.tup xs)):ObjOk P w H' h' a o:=by
 induction o with
 | lst xs=>obtain⟨z,its,n,r,e⟩:=x;exact⟨z,its,n,r,k _ _ (.inl rfl) e⟩
 | tup xs=>obtain⟨z,its,r,ob,e,c⟩:=x;exact⟨z,its,r,ob,k _ _ (.inl rfl) e,c⟩
 | dK kvs=>obtain⟨z,y,vs,r,ob,es,ep,e,c⟩:=x;exact⟨z,y,vs,r,ob,es,ep,k _ _ (.inl rfl) e,c⟩
 | dT kvs =>
  obtain⟨z,y,xs,r,ob,es,ep,e,c⟩:=x
  exact⟨z,y,xs,Paired.mapP r λp q z=>⟨z.1,ht _ _ z.2.1,z.2.2⟩,ob,es,ep,k _ _ (.inl rfl) e,c⟩
 | set S n=>obtain⟨ob,es,ep,t,e,c⟩:=x;exact⟨ob,es,ep,t,k _ _ (.inl rfl) e,c⟩
 | ins C dx fs =>
  obtain⟨d,z,ne,e,mA,⟨od,es,ep,e2,c⟩,r⟩:=x
  exact⟨ho _ d,z,ne,k _ _ (.inl rfl) e,mA,⟨od,es,ep,k _ _ (.inr d) e2,c⟩,r⟩
 | own y=>obtain⟨ob,e⟩:=x;exact⟨ob,k _ _ (.inl rfl) e⟩
 | xd fs=>obtain⟨mA,⟨od,es,ep,e,c⟩,r⟩:=x;exact⟨mA,⟨od,es,ep,k _ _ (.inl rfl) e,c⟩,r⟩
 | rng lo hi=>obtain⟨t,u,v,e⟩:=x;exact⟨t,u,v,k _ _ (.inl rfl) e⟩
 | frz ob u ih=>obtain⟨e,q⟩:=x;exact⟨k _ _ (.inl rfl) e,ih q⟩
 | tbl ps =>
  have e:h.get? a=some { cls:=.none,data:=.fields ps }:=x
  show h'.get? a=some { cls:=.none,data:=.fields ps }
  exact k a _ (.inl rfl) e
 | met f y =>
  have e:h.get? a=some (PySem.W.methodObj (.ref f) (.ref y)):=x
  show h'.get? a=some (PySem.W.methodObj (.ref f) (.ref y))
  exact k a _ (.inl rfl) e
 | ext φ=>obtain⟨p,⟨o,e⟩,st⟩:=x;exact⟨st _ _ p λo q=>k _ _ (.inl rfl) q,⟨o,k _ _ (.inl rfl) e⟩,st⟩
theorem HOk.lt (x:HOk P w H h) (e:H a=some o):a<h.objs.size:=(x a o e).lt
theorem HOk.fresh (x:HOk P w H h) (e:h.objs.size<=a):H a=none:=by
 cases q:H a with
 | none=>rfl
 | some u=>exact absurd (Nat.lt_of_lt_of_le (x.lt q) e) (Nat.lt_irrefl _)
theorem HOk.kept (x:HOk P w H h) (k:∀b u,h.get? b=some u->h'.get? b=some u):HOk P w H h':=λa o e =>
 (x a o e).stay (λb u _ q=>k b u q) (λ_ q=>q) λ_ _ q=>q
theorem HOk.laid (x:HOk P w H h) (k:∀b u,h.get? b=some u->h'.get? b=some u) (hp:h.objs.size<=a) (new:ObjOk P w (upd H a o) h' a o):HOk P w (upd H a o) h':=λb u e=>by
 have hn:=x.fresh hp
 by_cases hb:b=a
 ·subst hb;rw [qAG] at e;cases e;exact new
 ·rw [qAl hb] at e
  exact (x b u e).stay (λc v _ q=>k c v q) (λc q=>by rw [qAl (qAL q hn)];exact q) λc xs q=>by rw [qAl (qAL q hn)];exact q
end
noncomputable def Rd (H:Hp) (a:Addr) (u:HO):Prop:=H a=some u∨∃o,H a=some (.frz o u)
theorem Rd.of {H:Hp}{a:Addr}{u:HO}(h:H a=some u):Rd H a u:=.inl h
theorem Rd.ok {P:Program}{w:World}{H:Hp}{h:Heap}{a:Addr}{u:HO}(r:Rd H a u) (x:HOk P w H h):ObjOk P w H h a u:=by
 rcases r with r|⟨o,r⟩
 ·exact x a u r
 ·obtain⟨_,q⟩:=x a _ r
  exact q
noncomputable def Mut:Option HO->Prop
 | some (.lst _)=>True
 | some (.dK _)=>True
 | some (.dT _)=>True
 | some (.set _ _)=>True
 | some (.ins _ _ _)=>True
 | some (.ext _)=>True
 | _=>False
section
variable {P:Program}{w:World}{H:Hp}{h h':Heap}{x e:Addr}{o':HO}
theorem HOk.write (ok:HOk P w H h) (mu:Mut (H x)) (he:e=x∨H e=some (.own x)) (k:∀b u,b≠e->h.get? b=some u->h'.get? b=some u) (heo:∃u,h'.get? e=some u)
  (new:ObjOk P w (upd H x o') h' x o'):HOk P w (upd H x o') h':=λb u q=>by
 have nown:∀c y,H c=some (.own y)->c≠x:=λc y r z=>by subst z;rw [r] at mu;exact mu
 have ntup:∀c xs,H c=some (.tup xs)->c≠x:=λc xs r z=>by subst z;rw [r] at mu;exact mu
 by_cases hb:b=x
 ·subst hb;rw [qAG] at q;cases q;exact new
 ·rw [qAl hb] at q
  by_cases hbe:b=e
  ·have q':H b=some (.own x):=by
    rcases he with z|z
    ·exact absurd (hbe.trans z) hb
    ·rw [hbe];exact z
   rw [q] at q';cases q'
   obtain⟨v,hv⟩:=heo
   exact⟨v,by rw [hbe];exact hv⟩
  ·refine (ok b u q).stay (λc v hc r=>k c v ?_ r) (λc r=>by rw [qAl (nown c b r)];exact r) λc xs r=>by rw [qAl (ntup c xs r)];exact r
   rcases hc with rfl|hc
   ·exact hbe
   ·rintro rfl
    rcases he with z|z
    ·exact nown c b hc z
    ·rw [hc] at z;cases z;exact hb rfl
end
structure Un (fs ex:List Addr) (H H':Hp) (h h':Heap):Prop where
 keep:∀b o,h.get? b=some o->H b=none->b∉fs->b∉ex->h'.get? b=some o
 slot:∀b o,h.get? b=some o->H b=none->b∈fs->b∉ex->∃sl,h'.get? b=some { o with slots:=sl }
 free:∀b o,h.get? b=some o->H b=none->b∉ex->H' b=none
 there:∀b o,h.get? b=some o->b∉ex->∃o',h'.get? b=some o'
 tups:∀b xs,H b=some (.tup xs)->H' b=some (.tup xs)
 frzs:∀b o u,H b=some (.frz o u)->H' b=some (.frz o u)
 tbls:∀b ps,H b=some (.tbl ps)->∃more,H' b=some (.tbl (ps++more))
section
variable {fs fs' ex ex':List Addr}{H H1 H2:Hp}{h h1 h2 h':Heap}{a x e:Addr}{o:HO}
theorem Un.any (u:Un fs ex H H1 h h1) {b:Addr}{ob:Obj}(q:h.get? b=some ob) (n:H b=none) (hx:b∉ex):∃sl,h1.get? b=some { ob with slots:=sl }:=by
 by_cases hb:b∈fs
 ·exact u.slot b ob q n hb hx
 ·exact⟨ob.slots,u.keep b ob q n hb hx⟩
theorem Un.trans (a:Un fs ex H H1 h h1) (b:Un fs ex H1 H2 h1 h2):Un fs ex H H2 h h2 where
 keep:=λc ob q n hc hx=>b.keep c ob (a.keep c ob q n hc hx) (a.free c ob q n hx) hc hx
 slot:=λc ob q n hc hx=>by
  obtain⟨sl,e1⟩:=a.slot c ob q n hc hx
  obtain⟨sl',e2⟩:=b.slot c _ e1 (a.free c ob q n hx) hc hx
  exact⟨sl',e2⟩
 free:=λc ob q n hx=>by
  obtain⟨o',e1⟩:=a.there c ob q hx
  exact b.free c o' e1 (a.free c ob q n hx) hx
 there:=λc ob q hx=>by
  obtain⟨o',e1⟩:=a.there c ob q hx
  exact b.there c o' e1 hx
 tups:=λc xs q=>b.tups c xs (a.tups c xs q)
 frzs:=λc ob xs q=>b.frzs c ob xs (a.frzs c ob xs q)
 tbls:=λc ps q=>by
  obtain⟨m1,e1⟩:=a.tbls c ps q
  obtain⟨m2,e2⟩:=b.tbls c _ e1
  exact⟨m1++m2,by rw [e2,Array.append_assoc]⟩
theorem Un.kept (k:∀b u,h.get? b=some u->h'.get? b=some u):Un fs ex H H h h':=
 ⟨λb ob q _ _ _=>k b ob q,λb ob q _ _ _=>⟨ob.slots,k b ob q⟩,λ_ _ _ n _=>n,λb ob q _=>⟨ob,k b ob q⟩,λ_ _ q=>q,λ_ _ _ q=>q,λ_ ps q=>⟨#[],by rw [q];simp⟩⟩
theorem Un.refl:Un fs ex H H h h:=Un.kept λ_ _ q=>q
theorem Un.laid (k:∀b u,h.get? b=some u->h'.get? b=some u) (hp:h.objs.size<=a) (hn:H a=none):Un fs ex H (upd H a o) h h' where
 keep:=λb u q _ _ _=>k b u q
 slot:=λb u q _ _ _=>⟨u.slots,k b u q⟩
 free:=λb u q n _=>by rw [qAl (Nat.ne_of_lt (Nat.lt_of_lt_of_le (Heap.lt_size q) hp))];exact n
 there:=λb u q _=>⟨u,k b u q⟩
 tups:=λb xs q=>by rw [qAl (qAL q hn)];exact q
 frzs:=λb u xs q=>by rw [qAl (qAL q hn)];exact q
 tbls:=λb ps q=>⟨#[],by rw [qAl (qAL q hn),q];simp⟩
theorem Un.write (mu:Mut (H x)) (he:e=x∨H e=some (.own x)) (k:∀b u,b≠e->h.get? b=some u->h'.get? b=some u) (heo:∃u,h'.get? e=some u):Un fs ex H (upd H x o) h h':=by
 have hx:∀b,H b=none->b≠x:=λb n z=>by subst z;rw [n] at mu;exact mu
 have hb:∀b,H b=none->b≠e:=λb n z=>by
  subst z
  rcases he with r|r
  ·exact hx b n r
  ·rw [n] at r;cases r
 have hm:∀b u,H b=some u->¬Mut (some u)->b≠x:=λb u q nm z=>by subst z;rw [q] at mu;exact nm mu
 refine⟨λb u q n _ _=>k b u (hb b n) q,λb u q n _ _=>⟨u.slots,k b u (hb b n) q⟩,λb u q n _=>by rw [qAl (hx b n)];exact n,λb u q _=>?_,
  λb xs q=>by rw [qAl (hm b _ q λz=>z)];exact q,λb u xs q=>by rw [qAl (hm b _ q λz=>z)];exact q,λb ps q=>⟨#[],by rw [qAl (hm b _ q λz=>z),q];simp⟩⟩
 by_cases hbe:b=e
 ·subst hbe;exact heo
 ·exact⟨u,k b u hbe q⟩
theorem Un.mono (u:Un fs ex H H1 h h1) (hs:∀b∈fs,b∈fs') (hx:∀b∈ex,b∈ex'):Un fs' ex' H H1 h h1:=
 ⟨λb ob q n hb he=>u.keep b ob q n (λz=>hb (hs b z)) λz=>he (hx b z),λ_ _ q n _ he=>u.any q n λz=>he (hx _ z),λb ob q n he=>u.free b ob q n λz=>he (hx b z),λb ob q he=>u.there b ob q λz=>he (hx b z),u.tups,u.frzs,u.tbls⟩
end
noncomputable def trk (h:Heap) (H:Hp):List Addr:=(List.range h.objs.size).filter λa=>(H a).isSome
noncomputable def qJg (h:Heap) (H:Hp):Heap:=PySem.W.hideAll h (trk h H)
theorem qHk (h:Heap) (H:Hp):(qJg h H).objs.size=h.objs.size:=PySem.W.hideAll_size _ _
theorem qJf {h:Heap}{H:Hp}{b:Addr}{o:Obj}(e:h.get? b=some o) (n:H b=none):(qJg h H).get? b=some o:=
 PySem.W.hideAll_get _ e λhm=>by
  have q:(H b).isSome=true:=(List.mem_filter.mp hm).2
  rw [n] at q;simp at q
theorem qLl {h:Heap}{H:Hp}{b:Addr}{o:Obj}(e:(qJg h H).get? b=some o):h.get? b=some o/\H b=none:=by
 have e':h.get? b=some o:=PySem.W.of_hideAll (trk h H) e
 refine⟨e',?_⟩
 cases q:H b with
 | none=>rfl
 | some x =>
  have hm:b∈trk h H:=List.mem_filter.mpr ⟨List.mem_range.mpr (Heap.lt_size e'),by simp [q]⟩
  have z:(qJg h H).get? b=none:=PySem.W.hideAll_none (trk h H) hm
  rw [z] at e;cases e
noncomputable def qL2 (g h:Heap) (L:Addr):List (Addr×Obj):=(List.range h.objs.size).filterMap λa=>if a=L∨(g.get? a).isSome=true then none else (h.get? a).map λo=>(a,o)
noncomputable def rest (g h:Heap) (L d:Addr):List (Addr×Obj):=(qL2 g h L).filter λp=>decide (p.1≠d)
end L2
namespace L2
open PySem PySem.Spec PyProof.Rows
structure Mod (K:PySem.W.Frag) (mg:Str->Option Value) (base:Heap):Prop where
 kin:K.In base
 glob:base.Ns mainGlobals mg
 blt:∃mb,base.Ns builtinsNs mb/\∀x:Str,x≠"__name__"->mb x=bootBuiltins x
 nolimit:base.NoLimit
structure Cx where
 prog:Program
 w:World
 K:PySem.W.Frag
 mg:Str->Option Value
 base:Heap
 A:Around
 N:List Str
 s₀:Shared
 H₀:Hp
 env:Env
 outer:List Env
 stack:List Env
 ex:List Addr
 fn:Str->Bool
 calm:Bool
 pn:List (Addr×Obj)
 xe:Value->Shared->Prop
noncomputable def frs (l:List Env):List Addr:=l.filterMap (·.frame)
noncomputable abbrev Cx.fs (X:Cx):List Addr:=frs X.outer
noncomputable def Vis (sc:Scope) (x:Str):Prop:=sc.names.lookup x=some .local∨sc.names.lookup x=some .cell∨sc.names.lookup x=some .free
noncomputable def Loc (sc:Scope) (x:Str):Prop:=sc.names.lookup x=some .local∨sc.names.lookup x=some .cell
noncomputable def qQl (env:Env) (h:Heap) (m:Str->Option Value) (x:Str) (u:Value):Prop:=
 (env.kindOf x=some .local/\m x=some u)∨((env.kindOf x=some .cell∨env.kindOf x=some .free)/\∃c,env.cells.lookup x=some c/\h.IsCell c (some u))
structure Cx.Ok (X:Cx):Prop where
 mod:Mod X.K X.mg X.base
 kind:X.env.scope.kind=.function
 glob:X.env.globals=mainGlobals
 blt:X.env.builtins=builtinsNs
 above:X.s₀.heap.objs.size<=X.env.locals
 inj:∀x y c,X.env.cells.lookup x=some c->X.env.cells.lookup y=some c->x=y
 has:∀x,(X.env.kindOf x=some .cell∨X.env.kindOf x=some .free)->∃c,X.env.cells.lookup x=some c
 cab:∀x c,X.fn x=true->X.env.cells.lookup x=some c->X.s₀.heap.objs.size<=c
 hd:X.calm=true->X.A.handled=none
 frames:X.A.frames=some X.stack
 stk:X.stack=X.outer∨(X.stack=X.env::X.outer/\X.env.frame=some X.env.locals)
 exf:∀b∈X.ex,b≠X.env.locals/\∀x c,X.env.cells.lookup x=some c->c≠b
 bs:∀b o,X.base.get? b=some o->X.s₀.heap.get? b=some o/\X.H₀ b=none
 bsz:X.base.objs.size<=X.s₀.heap.objs.size
 noex:∀b o,X.base.get? b=some o->b∉X.ex
 exfs:∀b∈X.ex,b∉X.fs
 funs:X.s₀.heap.FunFrames X.base X.outer
 frf:∀b∈X.fs,X.H₀ b=none
structure Inv (X:Cx) (pins:List (Addr×Obj)) (σ:List (Option V)) (H:Hp) (s:Shared):Prop where
 ok:X.Ok
 os:s.os=X.s₀.os
 bare:AllBare s.gens
 base:Un X.fs X.ex X.H₀ H X.s₀.heap s.heap
 loc:∃m,s.heap.Ns X.env.locals m/\∀(i:Nat) (x:Str) (v:V),X.N[i]?=some x->σ[i]?=some (some v)->Vis X.env.scope x->∃u,RelV v u/\qQl X.env s.heap m x u
 cell:∀x c,X.env.cells.lookup x=some c->∃v,s.heap.IsCell c v
 free:H X.env.locals=none
 freeC:∀x c,X.env.cells.lookup x=some c->H c=none
 pin:∀p∈X.pn++pins,s.heap.get? p.1=some p.2/\H p.1=none/\p.1≠X.env.locals/\p.1∉X.fs/\∀v,p.2.data≠.cell v
 hok:HOk X.prog X.w H s.heap
 len:σ.length=X.N.length
section
variable {X:Cx}{pins:List (Addr×Obj)}{σ:List (Option V)}{H H':Hp}{s:Shared}{h':Heap}
theorem Cx.Ok.nofr (ok:X.Ok) {b:Addr}{o:Obj}(e:X.base.get? b=some o):b∉X.fs:=λhb=>by
 have:=(ok.funs.mem hb).1
 rw [e] at this;cases this
theorem Inv.bs (I:Inv X pins σ H s):∀b o,X.base.get? b=some o->s.heap.get? b=some o/\H b=none:=λb o e =>
 ⟨I.base.keep b o (I.ok.bs b o e).1 (I.ok.bs b o e).2 (I.ok.nofr e) (I.ok.noex b o e),I.base.free b o (I.ok.bs b o e).1 (I.ok.bs b o e).2 (I.ok.noex b o e)⟩
theorem Inv.bk (I:Inv X pins σ H s):∀b o,X.base.get? b=some o->s.heap.get? b=some o:=λb o e=>(I.bs b o e).1
theorem Inv.mod (I:Inv X pins σ H s):Mod X.K X.mg X.base:=I.ok.mod
theorem Inv.kIn (I:Inv X pins σ H s):X.K.In s.heap:=I.ok.mod.kin.keeps I.bk
theorem Inv.nolimit (I:Inv X pins σ H s):s.heap.NoLimit:=I.ok.mod.nolimit.keeps I.bk
theorem Inv.fr (I:Inv X pins σ H s):∃m,Fr X.base X.env.locals s.heap m:=
 let ⟨m,hn,_⟩:=I.loc
 ⟨m,hn,I.bk,Nat.le_trans I.ok.bsz I.ok.above⟩
theorem Inv.lt (I:Inv X pins σ H s):X.env.locals<s.heap.objs.size:=let ⟨_,hn,_⟩:=I.loc;hn.lt
theorem Inv.sz (I:Inv X pins σ H s):X.s₀.heap.objs.size<=s.heap.objs.size:=Nat.le_trans I.ok.above (Nat.le_of_lt I.lt)
theorem Inv.nofs (I:Inv X pins σ H s) {a:Addr}(h:s.heap.objs.size<=a):a∉X.fs:=λhb=>by
 obtain⟨_,o,ho,_⟩:=I.ok.funs.mem hb
 exact absurd (Nat.lt_of_lt_of_le (Heap.lt_size ho) (Nat.le_trans I.sz h)) (Nat.lt_irrefl _)
theorem Inv.cne (I:Inv X pins σ H s):∀x c,X.env.cells.lookup x=some c->c≠X.env.locals:=λx c e z=>by
 obtain⟨v,o,ho,hd⟩:=I.cell x c e
 obtain⟨m,⟨o',es,ep,ho',hd',_⟩,_⟩:=I.loc
 rw [z,ho'] at ho;cases ho;rw [hd'] at hd;cases hd
theorem Inv.funs (I:Inv X pins σ H s):s.heap.FunFrames X.base X.outer:=by
 have all:∀(l:List Env),(∀b∈frs l,b∈X.fs)->X.s₀.heap.FunFrames X.base l->s.heap.FunFrames X.base l:=by
  intro l
  induction l with
  | nil=>intro _ _;trivial
  | cons env r ih =>
   intro hs hl
   obtain⟨hk,⟨L,o,hf,hn,ho,hd⟩,hr⟩:=hl
   have hL:L∈X.fs:=hs L (by unfold frs;rw [List.filterMap_cons,hf];exact List.mem_cons_self)
   obtain⟨sl,e⟩:=I.base.slot L o ho (I.ok.frf L hL) hL λz=>I.ok.exfs L z hL
   exact⟨hk,⟨L,_,hf,hn,e,hd⟩,ih (λb hb=>hs b (by unfold frs;rw [List.filterMap_cons,hf];exact List.mem_cons_of_mem _ hb)) hr⟩
 exact all X.outer (λ_ hb=>hb) I.ok.funs
theorem Inv.stack (I:Inv X pins σ H s):s.heap.FunFrames X.base X.stack:=by
 rcases I.ok.stk with e|⟨e,hf⟩
 ·rw [e];exact I.funs
 ·rw [e]
  obtain⟨m,hn,_⟩:=I.loc
  refine .cons (by rw [I.ok.kind];decide) hf hn ?_ I.funs
  exact Heap.get?_none_of_le (Nat.le_trans I.ok.bsz I.ok.above)
theorem Inv.stkSub (I:Inv X pins σ H s):∀b∈frs X.stack,b∈X.env.locals::X.fs:=λb hb=>by
 rcases I.ok.stk with e|⟨e,hf⟩
 ·rw [e] at hb;exact List.mem_cons_of_mem _ hb
 ·rw [e] at hb
  unfold frs at hb
  rw [List.filterMap_cons,hf] at hb
  exact hb
theorem Inv.stkFree (I:Inv X pins σ H s):∀b∈frs X.stack,H b=none:=λb hb=>by
 rcases List.mem_cons.mp (I.stkSub b hb) with e|hb
 ·rw [e];exact I.free
 ·obtain⟨_,o,ho,_⟩:=I.ok.funs.mem hb
  exact I.base.free b o ho (I.ok.frf b hb) λz=>I.ok.exfs b z hb
theorem Inv.step {g':Array GenState}{t':Nat}{d':Drawn}{ch:List Addr}(I:Inv X pins σ H s)
  (hch:∀b∈ch,(b∈X.ex∨X.s₀.heap.objs.size<=b)/\b≠X.env.locals/\(∀x c,X.env.cells.lookup x=some c->c≠b)/\∀p∈X.pn++pins,p.1≠b)
  (keep:∀b o,b≠X.env.locals->b∉X.fs->b∉ch->s.heap.get? b=some o->H b=none->h'.get? b=some o)
  (slot:∀b o,b≠X.env.locals->b∈X.fs->b∉ch->s.heap.get? b=some o->H b=none->∃sl,h'.get? b=some { o with slots:=sl }) (free:∀b o,b∉ch->s.heap.get? b=some o->H b=none->H' b=none)
  (there:∀b o,b∉ch->s.heap.get? b=some o->∃o',h'.get? b=some o')
  (tups:∀b xs,H b=some (.tup xs)->H' b=some (.tup xs)) (frzs:∀b o u,H b=some (.frz o u)->H' b=some (.frz o u)) (tbls:∀b ps,H b=some (.tbl ps)->∃more,H' b=some (.tbl (ps++more)))
  (ns:∀m,s.heap.Ns X.env.locals m->h'.Ns X.env.locals m) (hok:HOk X.prog X.w H' h') (hg:AllBare g') :
  Inv X pins σ H' { s with heap:=h',gens:=g',drawn:=d',toks:=t' }:=by
 have neL:∀b o,X.s₀.heap.get? b=some o->b≠X.env.locals:=λb o e=>Nat.ne_of_lt (Nat.lt_of_lt_of_le (Heap.lt_size e) I.ok.above)
 have neC:∀b o,X.s₀.heap.get? b=some o->b∉X.ex->b∉ch:=λb o e hx hb=>by
  rcases (hch b hb).1 with z|z
  ·exact hx z
  ·exact absurd (Nat.lt_of_lt_of_le (Heap.lt_size e) z) (Nat.lt_irrefl _)
 have cellK:∀x c,X.env.cells.lookup x=some c->∀v,s.heap.IsCell c v->h'.IsCell c v:=λx c e v ⟨o,ho,hd⟩=>by
  have nch:c∉ch:=λz=>(hch c z).2.2.1 x c e rfl
  by_cases hc:c∈X.fs
  ·obtain⟨sl,q⟩:=slot c o (I.cne x c e) hc nch ho (I.freeC x c e)
   exact⟨_,q,hd⟩
  ·exact⟨o,keep c o (I.cne x c e) hc nch ho (I.freeC x c e),hd⟩
 refine⟨I.ok,I.os,hg,⟨λb o e n hb hx=>?_,λb o e n hb hx=>?_,λb o e n hx=>?_,λb o e hx=>?_,λb xs e=>tups b xs (I.base.tups b xs e),λb o xs e=>frzs b o xs (I.base.frzs b o xs e),λb ps e=>?_⟩,?_,λx c e=>?_,?_,λx c e=>?_,λp hp=>?_,hok,I.len⟩
 ·exact keep b o (neL b o e) hb (neC b o e hx) (I.base.keep b o e n hb hx) (I.base.free b o e n hx)
 ·obtain⟨sl,e1⟩:=I.base.slot b o e n hb hx
  obtain⟨sl',e2⟩:=slot b _ (neL b o e) hb (neC b o e hx) e1 (I.base.free b o e n hx)
  exact⟨sl',e2⟩
 ·obtain⟨o',e1⟩:=I.base.there b o e hx
  exact free b o' (neC b o e hx) e1 (I.base.free b o e n hx)
 ·obtain⟨o',e1⟩:=I.base.there b o e hx
  exact there b o' (neC b o e hx) e1
 ·obtain⟨m1,e1⟩:=I.base.tbls b ps e
  obtain⟨m2,e2⟩:=tbls b _ e1
  exact⟨m1++m2,by rw [e2,Array.append_assoc]⟩
 ·obtain⟨m,hn,hl⟩:=I.loc
  refine⟨m,ns m hn,λi x v e1 e2 e3=>?_⟩
  obtain⟨u,r,l⟩:=hl i x v e1 e2 e3
  refine⟨u,r,?_⟩
  rcases l with l|⟨k,c,e,z⟩
  ·exact .inl l
  ·exact .inr ⟨k,c,e,cellK x c e _ z⟩
 ·obtain⟨v,z⟩:=I.cell x c e
  exact⟨v,cellK x c e v z⟩
 ·obtain⟨m,⟨o,_,_,ho,_⟩,_⟩:=I.loc
  exact free _ o (λz=>(hch _ z).2.1 rfl) ho I.free
 ·obtain⟨v,o,ho,hd⟩:=I.cell x c e
  exact free c o (λz=>(hch c z).2.2.1 x c e rfl) ho (I.freeC x c e)
 ·obtain⟨e,n,ne,nf,d⟩:=I.pin p hp
  have nch:p.1∉ch:=λz=>(hch p.1 z).2.2.2 p hp rfl
  exact⟨keep p.1 p.2 ne nf nch e n,free p.1 p.2 nch e n,ne,nf,d⟩
theorem Inv.un {t':Nat}(I:Inv X pins σ H s) (u:Un X.fs [] H H' s.heap h') (hok:HOk X.prog X.w H' h'):Inv X pins σ H' { s with heap:=h',toks:=t' }:=by
 obtain⟨m,⟨o,es,ep,ho,r⟩,_⟩:=id I.loc
 obtain⟨sl,hL⟩:=u.any ho I.free (by simp)
 exact I.step (g':=s.gens) (d':=s.drawn) (ch:=[]) (λ_ z=>nomatch z) (λb o _ hb _ e n=>u.keep b o e n hb (by simp)) (λb o _ hb _ e n=>u.slot b o e n hb (by simp)) (λb o _ e n=>u.free b o e n (by simp)) (λb o _ e=>u.there b o e (by simp)) u.tups u.frzs u.tbls (λm' hm=>by
  obtain⟨o',es',ep',ho',r'⟩:=hm
  rw [ho] at ho';cases ho'
  exact⟨_,es',ep',hL,r'⟩) hok I.bare
theorem Inv.call {g':Array GenState}{t':Nat}{d':Drawn}{ch:List Addr}(I:Inv X pins σ H s) (u:Un (frs X.stack) ch H H' s.heap h') (hok:HOk X.prog X.w H' h') (hg:AllBare g')
  (hch:∀b∈ch,(b∈X.ex∨X.s₀.heap.objs.size<=b)/\b≠X.env.locals/\(∀x c,X.env.cells.lookup x=some c->c≠b)/\∀p∈X.pn++pins,p.1≠b) :
  Inv X pins σ H' { s with heap:=h',gens:=g',drawn:=d',toks:=t' }:=by
 obtain⟨m,⟨o,es,ep,ho,r⟩,_⟩:=id I.loc
 obtain⟨sl,hL⟩:=u.any ho I.free λz=>(hch _ z).2.1 rfl
 exact I.step (ch:=ch) hch (λb o hL hb hc e n=>u.keep b o e n (λz=>(List.mem_cons.mp (I.stkSub b z)).elim hL hb) hc) (λb o _ _ hc e n=>u.any e n hc) (λb o hc e n=>u.free b o e n hc) (λb o hc e=>u.there b o e hc) u.tups u.frzs u.tbls (λm' hm=>by
  obtain⟨o',es',ep',ho',r'⟩:=hm
  rw [ho] at ho';cases ho'
  exact⟨_,es',ep',hL,r'⟩) hok hg
theorem Inv.turned {t':Nat}{it:Addr}(I:Inv X pins σ H s) (k:∀b o,b≠it->s.heap.get? b=some o->h'.get? b=some o) (hn:H it=none) (hL:it≠X.env.locals)
  (h1:it∈X.ex∨X.s₀.heap.objs.size<=it) (h2:∀x c,X.env.cells.lookup x=some c->c≠it) (h3:∀p∈X.pn++pins,p.1≠it):Inv X pins σ H { s with heap:=h',toks:=t' }:=by
 have nit:∀b u,H b=some u->b≠it:=λb u e z=>by rw [z,hn] at e;cases e
 refine I.step (g':=s.gens) (d':=s.drawn) (ch:=[it]) (λb hb=>?_) (λb o _ _ hc e _=>k b o (λz=>hc (by simp [z])) e) (λb o _ _ hc e _=>⟨o.slots,k b o (λz=>hc (by simp [z])) e⟩) (λ_ _ _ _ n=>n)
  (λb o hc e=>⟨o,k b o (λz=>hc (by simp [z])) e⟩) (λ_ _ e=>e) (λ_ _ _ e=>e) (λb ps e=>⟨#[],by rw [e];simp⟩) (λm hm=>?_) (λb u e=>?_) I.bare
 ·have e:b=it:=by simpa using hb
  subst e
  exact⟨h1,hL,h2,h3⟩
 ·obtain⟨o,es,ep,ho,r⟩:=hm
  exact⟨o,es,ep,k _ o (Ne.symm hL) ho,r⟩
 ·refine (I.hok b u e).stay (λc v hc q=>k c v ?_ q) (λ_ q=>q) λ_ _ q=>q
  rcases hc with z|z
  ·rw [z];exact nit b u e
  ·exact nit c _ z
theorem Inv.tok (I:Inv X pins σ H s) (t:Nat):Inv X pins σ H { s with toks:=t }:=I.un (h':=s.heap) (t':=t) Un.refl I.hok
theorem Inv.kept {t':Nat}(I:Inv X pins σ H s) (k:∀b u,s.heap.get? b=some u->h'.get? b=some u):Inv X pins σ H { s with heap:=h',toks:=t' }:=I.un (Un.kept k) (I.hok.kept k)
theorem Inv.laid {a:Addr}{o:HO}{t':Nat}(I:Inv X pins σ H s) (k:∀b u,s.heap.get? b=some u->h'.get? b=some u) (hp:s.heap.objs.size<=a) (new:ObjOk X.prog X.w (upd H a o) h' a o) :
  Inv X pins σ (upd H a o) { s with heap:=h',toks:=t' }:=I.un (Un.laid k hp (I.hok.fresh hp)) (I.hok.laid k hp new)
theorem Inv.write {x e:Addr}{o:HO}{t':Nat}(I:Inv X pins σ H s) (mu:Mut (H x)) (he:e=x∨H e=some (.own x)) (k:∀b u,b≠e->s.heap.get? b=some u->h'.get? b=some u) (heo:∃u,h'.get? e=some u)
  (new:ObjOk X.prog X.w (upd H x o) h' x o):Inv X pins σ (upd H x o) { s with heap:=h',toks:=t' }:=I.un (Un.write mu he k heo) (I.hok.write mu he k heo new)
theorem Inv.pins_of {pins':List (Addr×Obj)}(I:Inv X pins σ H s) (h:∀p∈pins',s.heap.get? p.1=some p.2/\H p.1=none/\p.1≠X.env.locals/\p.1∉X.fs/\∀v,p.2.data≠.cell v):Inv X pins' σ H s:=
 ⟨I.ok,I.os,I.bare,I.base,I.loc,I.cell,I.free,I.freeC,λp hp=>(List.mem_append.mp hp).elim (λz=>I.pin p (List.mem_append_left _ z)) (h p),I.hok,I.len⟩
theorem qDH {N:List Str}(hN:N.Nodup) {i j:Nat}{x:Str}(a:N[i]?=some x) (b:N[j]?=some x):i=j:=by
 obtain⟨h1,e1⟩:=List.getElem?_eq_some_iff.mp a
 obtain⟨h2,e2⟩:=List.getElem?_eq_some_iff.mp b
 exact (List.getElem_inj hN).mp (e1.trans e2.symm)
theorem qCE {M:Model}{A:Around}{E:Value->Shared->Prop}{i:Nat}{x:Str}{v:V}{u:Value}{Q:Unit->Shared->Prop}(I:Inv X pins σ H s) (hN:X.N.Nodup) (hi:X.N[i]?=some x) (hx:Loc X.env.scope x) (r:RelV v u)
  (h:∀s',Inv X pins (σ.set i (some v)) H s'->(∃a,Heap.SameBut a s.heap s'.heap/\(a=X.env.locals∨X.env.cells.lookup x=some a))->Q () s') (hf:X.fn x=true∨X.env.scope.names.lookup x=some .local:=by first|exact .inl rfl|exact .inr rfl|assumption):wpAny M A (storeName X.env x u) Q E s:=by
 obtain⟨m,hn,hl⟩:=id I.loc
 have hcls:(X.env.scope.kind == .class||(X.env.scope.kind == .module&&X.env.locals != X.env.globals))=false:=by rw [I.ok.kind];rfl
 have hiσ:i<σ.length:=by rw [I.len];exact (List.getElem?_eq_some_iff.mp hi).1
 have cne:=I.cne
 have tracked:∀{a:Addr} {h':Heap},(∃o,s.heap.get? a=some o/\H a=none)->Heap.SameBut a s.heap h'->HOk X.prog X.w H h':=λ{a h'} ha hs b ob e=>by
  obtain⟨_,_,hfree⟩:=ha
  refine (I.hok b ob e).stay (λc w' hc q=>(hs.2 c ?_).trans q) (λ_ q=>q) λ_ _ q=>q
  rintro rfl
  rcases hc with rfl|hc
  ·rw [hfree] at e;cases e
  ·rw [hfree] at hc;cases hc
 rcases hx with hk|hk
 ·refine wpAny_storeName_local hk hn (λh' hn' hs=>?_) hcls
  obtain⟨oL,_,_,hoL,_⟩:=id hn
  refine h _ ⟨I.ok,I.os,I.bare,⟨λb o e n hb hx=>?_,λb o e n hb hx=>?_,I.base.free,λb o e hx=>?_,I.base.tups,I.base.frzs,I.base.tbls⟩,⟨_,hn',λj y v' e1 e2 e3=>?_⟩,λy c e=>?_,I.free,I.freeC,λp hp=>?_,tracked ⟨oL,hoL,I.free⟩ hs,by simpa using I.len⟩ ⟨_,hs,.inl rfl⟩
  ·exact (hs.2 b (Nat.ne_of_lt (Nat.lt_of_lt_of_le (Heap.lt_size e) I.ok.above))).trans (I.base.keep b o e n hb hx)
  ·obtain⟨sl,e1⟩:=I.base.slot b o e n hb hx
   exact⟨sl,(hs.2 b (Nat.ne_of_lt (Nat.lt_of_lt_of_le (Heap.lt_size e) I.ok.above))).trans e1⟩
  ·obtain⟨o',e1⟩:=I.base.there b o e hx
   exact⟨o',(hs.2 b (Nat.ne_of_lt (Nat.lt_of_lt_of_le (Heap.lt_size e) I.ok.above))).trans e1⟩
  ·by_cases hj:j=i
   ·subst hj
    rw [hi] at e1;cases e1
    rw [List.getElem?_set_self hiσ] at e2
    cases e2
    exact⟨u,r,.inl ⟨hk,by simp⟩⟩
   ·rw [List.getElem?_set_ne (Ne.symm hj)] at e2
    obtain⟨u',r',q⟩:=hl j y v' e1 e2 e3
    refine⟨u',r',?_⟩
    rcases q with ⟨k,e⟩|⟨k,c,e,z⟩
    ·refine .inl ⟨k,?_⟩
     have:y≠x:=λe=>hj (qDH hN e1 (e▸hi))
     simp [this,e]
    ·exact .inr ⟨k,c,e,z.sameBut hs (cne y c e)⟩
  ·obtain⟨w',z⟩:=I.cell y c e
   exact⟨w',z.sameBut hs (cne y c e)⟩
  ·obtain⟨e,n,ne,nf,d⟩:=I.pin p hp
   exact⟨(hs.2 p.1 ne).trans e,n,ne,nf,d⟩
 ·have hfn:X.fn x=true:=by
   rcases hf with z|z
   ·exact z
   ·rw [z] at hk;cases hk
  obtain⟨c,hc⟩:=I.ok.has x (.inl hk)
  obtain⟨w',z⟩:=I.cell x c hc
  refine wpAny_storeName_cell I.ok.kind hk hc z (λh' hc' hs=>?_)
  obtain⟨oc,hoc,hocd⟩:=id z
  refine h { s with heap:=h' } ⟨I.ok,I.os,I.bare,⟨λb o e n hb hx=>?_,λb o e n hb hx=>?_,I.base.free,λb o e hx=>?_,I.base.tups,I.base.frzs,I.base.tbls⟩,⟨m,hn.sameBut hs (Ne.symm (cne x c hc)),λj y v' e1 e2 e3=>?_⟩,λy c' e=>?_,I.free,I.freeC,λp hp=>?_,tracked ⟨oc,hoc,I.freeC x c hc⟩ hs,by simpa using I.len⟩ ⟨c,hs,.inr hc⟩
  ·exact (hs.2 b (Nat.ne_of_lt (Nat.lt_of_lt_of_le (Heap.lt_size e) (I.ok.cab x c hfn hc)))).trans (I.base.keep b o e n hb hx)
  ·obtain⟨sl,e1⟩:=I.base.slot b o e n hb hx
   exact⟨sl,(hs.2 b (Nat.ne_of_lt (Nat.lt_of_lt_of_le (Heap.lt_size e) (I.ok.cab x c hfn hc)))).trans e1⟩
  ·obtain⟨o',e1⟩:=I.base.there b o e hx
   exact⟨o',(hs.2 b (Nat.ne_of_lt (Nat.lt_of_lt_of_le (Heap.lt_size e) (I.ok.cab x c hfn hc)))).trans e1⟩
  ·by_cases hj:j=i
   ·subst hj
    rw [hi] at e1;cases e1
    rw [List.getElem?_set_self hiσ] at e2
    cases e2
    exact⟨u,r,.inr ⟨.inl hk,c,hc,hc'⟩⟩
   ·rw [List.getElem?_set_ne (Ne.symm hj)] at e2
    obtain⟨u',r',q⟩:=hl j y v' e1 e2 e3
    refine⟨u',r',?_⟩
    rcases q with q|⟨k,c',e,z'⟩
    ·exact .inl q
    ·refine .inr ⟨k,c',e,z'.sameBut hs ?_⟩
     rintro rfl
     exact hj (qDH hN e1 (I.ok.inj _ _ _ e hc▸hi))
  ·by_cases hcc:c'=c
   ·subst hcc;exact⟨_,hc'⟩
   ·obtain⟨w2,z2⟩:=I.cell y c' e
    exact⟨w2,z2.sameBut hs hcc⟩
  ·obtain⟨e,n,ne,nf,d⟩:=I.pin p hp
   refine⟨(hs.2 p.1 ?_).trans e,n,ne,nf,d⟩
   intro q
   rw [q,hoc] at e
   have q':oc=p.2:=Option.some.inj e
   exact d w' (by rw [<-q'];exact hocd)
theorem qFh {M:Model}{A:Around}{E:Value->Shared->Prop}{i:Nat}{x:Str}{v:V}{u:Value}{Q:Unit->Shared->Prop}(I:Inv X pins σ H s) (hN:X.N.Nodup) (hi:X.N[i]?=some x) (hx:Loc X.env.scope x) (r:RelV v u)
  (h:∀s',Inv X pins (σ.set i (some v)) H s'->Q () s') (hf:X.fn x=true∨X.env.scope.names.lookup x=some .local:=by first|exact .inl rfl|exact .inr rfl|assumption):wpAny M A (storeName X.env x u) Q E s:=
 qCE I hN hi hx r (λs' I' _=>h s' I') hf
theorem Inv.call' {s':Shared}{ch:List Addr}(I:Inv X pins σ H s) (ho:s'.os=s.os) (u:Un (frs X.stack) ch H H' s.heap s'.heap) (hok:HOk X.prog X.w H' s'.heap) (hg:AllBare s'.gens)
  (hch:∀b∈ch,(b∈X.ex∨X.s₀.heap.objs.size<=b)/\b≠X.env.locals/\(∀x c,X.env.cells.lookup x=some c->c≠b)/\∀p∈X.pn++pins,p.1≠b):Inv X pins σ H' s':=by
 obtain⟨h',g',d',t',o'⟩:=s'
 have e:o'=s.os:=ho
 subst e
 exact I.call (g':=g') (t':=t') (d':=d') u hok hg hch
end
noncomputable abbrev XK:=Value->Option Addr->Hp->Prop
noncomputable abbrev St:=List (Option V)
noncomputable abbrev VK:=V->Hp->Prop
noncomputable abbrev TE:=St->Hp->VK->Prop
noncomputable abbrev TT:=St->Hp->(Bool->Hp->Prop)->Prop
noncomputable abbrev TA:=St->Hp->(List V->Hp->Prop)->Prop
structure Ends where
 nx:St->Hp->Prop
 rt:VK
 bk:St->Hp->Prop:=λ_ _=>False
 ct:St->Hp->Prop:=λ_ _=>False
noncomputable abbrev TS:=Ends->St->Hp->Prop
noncomputable def EP (X:Cx) (pins:List (Addr×Obj)) (σ:St) (Q:VK) (u:Value) (s':Shared):Prop:=∃v H',Inv X pins σ H' s'/\RelV v u/\Q v H'
noncomputable def TP (X:Cx) (pins:List (Addr×Obj)) (σ:St) (Q:Bool->Hp->Prop) (b:Bool) (s':Shared):Prop:=∃H',Inv X pins σ H' s'/\Q b H'
noncomputable def AP (X:Cx) (pins:List (Addr×Obj)) (σ:St) (Q:List V->Hp->Prop) (us:List Value) (s':Shared):Prop:=∃vs H',Inv X pins σ H' s'/\Vals vs us/\Q vs H'
noncomputable def SP (X:Cx) (pins:List (Addr×Obj)) (D:Ends) (f:Flow) (s':Shared):Prop:=
 match f with
 | .next=>∃σ' H',Inv X pins σ' H' s'/\D.nx σ' H'
 | .brk=>∃σ' H',Inv X pins σ' H' s'/\D.bk σ' H'
 | .cont=>∃σ' H',Inv X pins σ' H' s'/\D.ct σ' H'
 | .ret u=>∃v σ' H',Inv X pins σ' H' s'/\RelV v u/\D.rt v H'
noncomputable def PE (X:Cx) (e:Expr) (t:TE):Prop:=
 ∀(pins:List (Addr×Obj)) (s:Shared) (σ:St) (H:Hp) (Q:VK),Inv X pins σ H s->t σ H Q->wpAny (model X.prog X.w) X.A (eval e X.env) (EP X pins σ Q) X.xe s
noncomputable def PT (X:Cx) (e:Expr) (t:TT):Prop:=
 ∀(pins:List (Addr×Obj)) (s:Shared) (σ:St) (H:Hp) (Q:Bool->Hp->Prop),Inv X pins σ H s->t σ H Q->wpAny (model X.prog X.w) X.A (isTrue e X.env (eval e X.env)) (TP X pins σ Q) X.xe s
noncomputable def PW (X:Cx) (e:Expr) (t:TT):Prop:=
 ∀(whole:Sem Value) (pins:List (Addr×Obj)) (s:Shared) (σ:St) (H:Hp) (Q:Bool->Hp->Prop),Inv X pins σ H s->t σ H Q->wpAny (model X.prog X.w) X.A (isTrue e X.env whole) (TP X pins σ Q) X.xe s
theorem PW.pt {X:Cx}{e:Expr}{t:TT}(h:PW X e t):PT X e t:=h _
noncomputable def PA (X:Cx) (es:List Expr) (t:TA):Prop:=
 ∀(pos:Pos) (pins:List (Addr×Obj)) (s:Shared) (σ:St) (H:Hp) (Q:List V->Hp->Prop),Inv X pins σ H s->t σ H Q->wpAny (model X.prog X.w) X.A (spliced (backTo pos (starEach es X.env))) (AP X pins σ Q) X.xe s
noncomputable def PS (X:Cx) (st:Stmt) (t:TS):Prop:=
 ∀(pins:List (Addr×Obj)) (s:Shared) (σ:St) (H:Hp) (D:Ends),Inv X pins σ H s->t D σ H->wpAny (model X.prog X.w) X.A (exec st X.env) (SP X pins D) X.xe s
noncomputable def PSs (X:Cx) (st:List Stmt) (t:TS):Prop:=
 ∀(pins:List (Addr×Obj)) (s:Shared) (σ:St) (H:Hp) (D:Ends),Inv X pins σ H s->t D σ H->wpAny (model X.prog X.w) X.A (execs st X.env) (SP X pins D) X.xe s
theorem thn {α:Type}{t:Sem α}{Q Q':α->Shared->Prop}{M:Model}{A:Around}{E:Value->Shared->Prop}{s:Shared}(h:wpAny M A t Q E s) (hQ:∀a s,Q a s->Q' a s):wpAny M A t Q' E s:=wpAny_mono h hQ λ_ _ x=>x
end L2
namespace L2
open PySem PySem.Spec PyProof.Rows
section
variable {X:Cx}
theorem bin {a b:Expr}{ta tb:TE}(ha:PE X a ta) (hb:PE X b tb) {pins:List (Addr×Obj)}{s:Shared}{σ:St}{H:Hp}{R:V->V->Hp->Prop}(I:Inv X pins σ H s) (h:ta σ H λx H1=>tb σ H1 λy H2=>R x y H2)
  {α:Type} {Q:α->Shared->Prop} {f:Value->Value->Sem α}
  (hf:∀v u s2 x y H2,Inv X pins σ H2 s2->RelV x v->RelV y u->R x y H2->wpAny (model X.prog X.w) X.A (f v u) Q X.xe s2) :
  wpAny (model X.prog X.w) X.A (eval a X.env) (λv s₁=>wpAny (model X.prog X.w) X.A (eval b X.env) (λu s₂=>wpAny (model X.prog X.w) X.A (f v u) Q X.xe s₂) X.xe s₁) X.xe s:=by
 refine thn (ha pins s σ H _ I h) λv s1 ⟨x,H1,I1,r1,q1⟩=>?_
 refine thn (hb pins s1 σ H1 _ I1 q1) λu s2 ⟨y,H2,I2,r2,q2⟩=>?_
 exact hf v u s2 x y H2 I2 r1 r2 q2
noncomputable def qOp (i:Nat):TE:=fun σ H Q=>∃v,σ[i]?=some (some v)/\Q v H
noncomputable def tC (v:V):TE:=λ_ H Q=>Q v H
theorem qB1 {i:Nat}{x:Str}{pos:Pos}(hN:X.N[i]?=some x) (hv:Vis X.env.scope x) (hd:(x == ("__debug__":Str))=false:=by decide) (hcd:(x == ("__classdict__":Str))=false:=by decide):PE X (.Name x pos) (qOp i):=by
 intro pins s σ H Q I h
 obtain⟨v,e,h⟩:=h
 obtain⟨m,hn,hl⟩:=I.loc
 obtain⟨u,r,l⟩:=hl i x v hN e hv
 have fin:EP X pins σ Q u s:=⟨v,H,I,r,h⟩
 rcases l with ⟨hk,hm⟩|⟨hk,c,hc,hcell⟩
 ·exact wpAny_Name (wpAny_loadName_local I.ok.kind hk hn hm fin) hd
 ·rcases hk with hk|hk
  ·exact wpAny_Name (wpAny_loadName_cell I.ok.kind hk hc hcell fin) hd
  ·exact wpAny_Name (wpAny_loadName_free I.ok.kind hk hc hcell fin hcd) hd
theorem qM3 {i j pos}:PE X (.Constant (.int i) j pos) (tC (.int i)):=λ_ _ _ H _ I h=>wpAny_Constant_int ⟨.int i,H,I.tok _,⟨_,rfl⟩,h⟩
theorem qM6 {b j pos}:PE X (.Constant (.bool b) j pos) (tC (.bl b)):=λ_ _ _ H _ I h=>Constant_bool ⟨.bl b,H,I,rfl,h⟩
theorem qM1 {j pos}:PE X (.Constant .none j pos) (tC .non):=λ_ _ _ H _ I h=>Constant_none ⟨.non,H,I,rfl,h⟩
theorem qJ0 {x j pos}:PE X (.Constant (.str x) j pos) (tC (.str x)):=λ_ _ _ H _ I h=>Calls.Constant_str ⟨.str x,H,I.tok _,⟨_,rfl⟩,h⟩
noncomputable def Gl (X:Cx) (x:Str):Prop:=X.env.kindOf x=some .globalImplicit
theorem qCR {E:Value->Shared->Prop}{pins:List (Addr×Obj)}{s:Shared}{σ:St}{H:Hp}{x:Str}{u:Value}{pos:Pos}{Q:Value->Shared->Prop}(I:Inv X pins σ H s) (hg:Gl X x) (hm:X.mg x=some u) (h:Q u s)
  (hd:(x == ("__debug__":Str))=false:=by decide):wpAny (model X.prog X.w) X.A (eval (.Name x pos) X.env) Q E s:=
 Calls.Name_function_global I.ok.kind hg (Calls.loadGlobal_global (by rw [I.ok.glob];exact I.mod.glob.keeps I.bk) hm h) hd
theorem qDj {E:Value->Shared->Prop}{pins:List (Addr×Obj)}{s:Shared}{σ:St}{H:Hp}{x:Str}{u:Value}{pos:Pos}{Q:Value->Shared->Prop}(I:Inv X pins σ H s) (hg:Gl X x) (hm:X.mg x=none) (hv:bootBuiltins x=some u) (h:Q u s)
  (hn:x≠"__name__":=by decide) (hd:(x == ("__debug__":Str))=false:=by decide):wpAny (model X.prog X.w) X.A (eval (.Name x pos) X.env) Q E s:=by
 obtain⟨mb,h1,h2⟩:=I.mod.blt
 exact Calls.Name_function_global I.ok.kind hg (Calls.loadGlobal_builtin (by rw [I.ok.glob];exact I.mod.glob.keeps I.bk) hm (by rw [I.ok.blt];exact h1.keeps I.bk) ((h2 x hn).trans hv) h) hd
theorem qGX {x:Str}{v:V}{u:Value}{pos:Pos}(hg:Gl X x) (hm:X.mg x=some u) (r:RelV v u) (hd:(x == ("__debug__":Str))=false:=by decide):PE X (.Name x pos) (tC v):=
 λ_ _ _ H _ I h=>qCR I hg hm ⟨v,H,I,r,h⟩ hd
theorem qK7 {x:Str}{v:V}{u:Value}{pos:Pos}(hg:Gl X x) (hm:X.mg x=none) (hv:bootBuiltins x=some u) (r:RelV v u) (hn:x≠"__name__":=by decide) (hd:(x == ("__debug__":Str))=false:=by decide):PE X (.Name x pos) (tC v):=
 λ_ _ _ H _ I h=>qDj I hg hm hv ⟨v,H,I,r,h⟩ hn hd
variable {a b:Expr}{ta tb:TE}{pos:Pos}
noncomputable def tB (t:TE):TT:=fun σ H Q=>t σ H λx H1=>∃c,x=.bl c/\Q c H1
theorem qMO {e:Expr}{t:TE}(h:PE X e t) (he:∀whole,isTrue e X.env whole=(do let v <-whole;standAt e.pos;holding [v] (truthy v)):=by intro _;rfl):PT X e (tB t):=by
 intro pins s σ H Q I hw
 refine isTrue_plain (thn (h pins s σ H _ I hw) λv s1 ⟨x,H1,I1,r1,q1⟩=>?_) (he _)
 obtain⟨d,rfl,q⟩:=q1
 cases r1
 exact wpAny_truthy_bool ⟨H1,I1,q⟩
variable {tA tB':TT}{rest:List Expr}
noncomputable def qPR (t u:TT):TT:=fun σ H Q=>t σ H λc H1=>if c=true then u σ H1 Q else Q false H1
noncomputable def tOr (t u:TT):TT:=fun σ H Q=>t σ H λc H1=>if c=true then Q true H1 else u σ H1 Q
noncomputable def qPK (t:TT):TT:=fun σ H Q=>t σ H λc H1=>Q (!c) H1
theorem qKY (ha:PT X a tA):PW X (.BoolOp .And [a] pos) tA:=by
 intro wh pins s σ H Q I h
 refine isTrue_and (thn (ha pins s σ H Q I h) λc s1 e=>?_)
 cases c with
 | true=>exact isTrue_and_nil e
 | false=>exact e
theorem qMM (ha:PT X a tA):PW X (.BoolOp .Or [a] pos) tA:=by
 intro wh pins s σ H Q I h
 refine isTrue_or (thn (ha pins s σ H Q I h) λc s1 e=>?_)
 cases c with
 | false=>exact isTrue_or_nil e
 | true=>exact e
theorem qMN (ha:PT X a tA) (hb:PW X (.BoolOp .And (b::rest) pos) tB'):PW X (.BoolOp .And (a::b::rest) pos) (qPR tA tB'):=by
 intro wh pins s σ H Q I h
 refine isTrue_and (thn (ha pins s σ H _ I h) λc s1 ⟨H1,I1,q1⟩=>?_)
 cases c with
 | true=>exact hb wh pins s1 σ H1 Q I1 q1
 | false=>exact⟨H1,I1,q1⟩
theorem qOS (ha:PT X a tA) (hb:PW X (.BoolOp .Or (b::rest) pos) tB'):PW X (.BoolOp .Or (a::b::rest) pos) (tOr tA tB'):=by
 intro wh pins s σ H Q I h
 refine isTrue_or (thn (ha pins s σ H _ I h) λc s1 ⟨H1,I1,q1⟩=>?_)
 cases c with
 | true=>exact⟨H1,I1,q1⟩
 | false=>exact hb wh pins s1 σ H1 Q I1 q1
theorem qMP (ha:PT X a tA):PT X (.UnaryOp .Not a pos) (qPK tA):=by
 intro pins s σ H Q I h
 exact isTrue_not (ha pins s σ H (λc H1=>Q (!c) H1) I h)
noncomputable def qOJ (ta tb:TE):TE:=fun σ H Q=>ta σ H λx H1=>∃c,x=.bl c/\if c=true then tb σ H1 Q else Q (.bl false) H1
noncomputable def qPJ (ta tb:TE):TE:=fun σ H Q=>ta σ H λx H1=>∃c,x=.bl c/\if c=true then Q (.bl true) H1 else tb σ H1 Q
noncomputable def qOF (ta:TE):TE:=fun σ H Q=>ta σ H λx H1=>∃c,x=.bl c/\Q (.bl (!c)) H1
theorem qMZ {op}{t:TE}(h:PE X a t):PE X (.BoolOp op [a] pos) t:=λpins s σ H Q I hw=>BoolOp_one (h pins s σ H Q I hw)
theorem qM8 (ha:PE X a ta) (hb:PE X (.BoolOp .And (b::rest) pos) tb):PE X (.BoolOp .And (a::b::rest) pos) (qOJ ta tb):=by
 intro pins s σ H Q I h
 refine BoolOp_and (thn (ha pins s σ H _ I h) λv s1 ⟨x,H1,I1,r1,q1⟩=>?_)
 obtain⟨c,rfl,q1⟩:=q1
 cases r1
 refine wpAny_truthy_bool ?_
 cases c with
 | true=>exact hb pins s1 σ H1 Q I1 q1
 | false=>exact⟨.bl false,H1,I1,rfl,q1⟩
theorem qOV (ha:PE X a ta) (hb:PE X (.BoolOp .Or (b::rest) pos) tb):PE X (.BoolOp .Or (a::b::rest) pos) (qPJ ta tb):=by
 intro pins s σ H Q I h
 refine BoolOp_or (thn (ha pins s σ H _ I h) λv s1 ⟨x,H1,I1,r1,q1⟩=>?_)
 obtain⟨c,rfl,q1⟩:=q1
 cases r1
 refine wpAny_truthy_bool ?_
 cases c with
 | false=>exact hb pins s1 σ H1 Q I1 q1
 | true=>exact⟨.bl true,H1,I1,rfl,q1⟩
theorem qM0 (ha:PE X a ta):PE X (.UnaryOp .Not a pos) (qOF ta):=by
 intro pins s σ H Q I h
 refine UnaryOp_ (thn (ha pins s σ H _ I h) λv s1 ⟨x,H1,I1,r1,q1⟩=>?_)
 obtain⟨c,rfl,q1⟩:=q1
 cases r1
 exact not_of (wpAny_truthy_bool ⟨.bl (!c),H1,I1,rfl,q1⟩)
noncomputable def tIf (t:TT) (ta tb:TE):TE:=fun σ H Q=>t σ H λc H1=>if c=true then ta σ H1 Q else tb σ H1 Q
theorem qIT {c:Expr}(hc:PT X c tA) (ha:PE X a ta) (hb:PE X b tb):PE X (.IfExp c a b pos) (tIf tA ta tb):=by
 intro pins s σ H Q I h
 refine wpAny_IfExp (thn (hc pins s σ H _ I h) λd s1 ⟨H1,I1,q1⟩=>?_)
 cases d with
 | true=>exact ha pins s1 σ H1 Q I1 q1
 | false=>exact hb pins s1 σ H1 Q I1 q1
end
end L2
namespace L2
open PySem PySem.Spec PyProof.Rows
noncomputable def SqL (K:PySem.W.Frag) (H:Hp) (a:Addr) (xs:List V):Prop:=
 Rd H a (.lst xs) ∨
  ∃(o:Obj) (its:Array Value) (n:Nat),K.lookup a=some o/\o.cls=.type "list"/\o.dict=none/\o.data=.seq its n/\its.size<=sizeLine/\Vals xs its.toList
noncomputable def SqT (K:PySem.W.Frag) (H:Hp) (a:Addr) (xs:List V):Prop:=
 Rd H a (.tup xs) ∨
  ∃(o:Obj) (its:Array Value) (n:Nat),K.lookup a=some o/\o.cls=.type "tuple"/\o.data=.seq its n/\its.size<=sizeLine/\Vals xs its.toList
noncomputable def qQj:Value->Option V
 | .none=>some .non
 | .bool b=>some (.bl b)
 | .int i _=>some (.int i)
 | .str x _=>some (.str x)
 | .bytes b _=>some (.byt b)
 | .float b _=>some (.flt b)
 | .ref a=>some (.ref a)
 | .type n=>some (.ty n)
 | _=>none
theorem RelV.abs {x:V}{u:Value}(r:RelV x u):qQj u=some x:=by
 cases x with
 | non=>cases r;rfl
 | bl _=>cases r;rfl
 | int _=>obtain⟨t,rfl⟩:=r;rfl
 | str _=>obtain⟨t,rfl⟩:=r;rfl
 | byt _=>obtain⟨t,rfl⟩:=r;rfl
 | flt _=>obtain⟨t,rfl⟩:=r;rfl
 | ref _=>cases r;rfl
 | ty _=>cases r;rfl
theorem RelV.inj {x y:V}{u:Value}(r:RelV x u) (q:RelV y u):x=y:=Option.some.inj (r.abs.symm.trans q.abs)
theorem Vals.inj:∀{xs ys:List V}{us:List Value},Vals xs us->Vals ys us->xs=ys
 | _,_,_,.nil,.nil=>rfl
 | _,_,_,.cons r t,.cons r' t'=>by rw [r.inj r',Vals.inj t t']
section
variable {X:Cx}{pins:List (Addr×Obj)}{σ:St}{H:Hp}{s:Shared}{a:Addr}{xs ys:List V}
theorem SqL.of {K:PySem.W.Frag}(h:H a=some (.lst xs)):SqL K H a xs:=.inl (.inl h)
theorem SqT.of {K:PySem.W.Frag}(h:H a=some (.tup xs)):SqT K H a xs:=.inl (.inl h)
theorem Inv.list (I:Inv X pins σ H s) (h:SqL X.K H a xs):∃its:List Value,Vals xs its/\PlainL s.heap a its.toArray/\xs.length<=sizeLine:=by
 rcases h with h|⟨o,its,n,hk,hc,hd,hs,hz,r⟩
 ·obtain⟨z,its,n,r,e⟩:=h.ok I.hok
  exact⟨its,r,⟨_,n,e,rfl,rfl,rfl⟩,z⟩
 ·refine⟨its.toList,r,⟨o,n,I.kIn a o hk,hc,hd,by simpa using hs⟩,?_⟩
  have e:=r.length
  simp only [Array.length_toList] at e
  omega
theorem Inv.tuple (I:Inv X pins σ H s) (h:SqT X.K H a xs):∃its:List Value,Vals xs its/\IsTup s.heap a its.toArray/\xs.length<=sizeLine:=by
 rcases h with h|⟨o,its,n,hk,hc,hs,hz,r⟩
 ·obtain⟨z,its,r,p⟩:=h.ok I.hok
  exact⟨its,r,p,z⟩
 ·refine⟨its.toList,r,⟨o,I.kIn a o hk,hc,n,by simpa using hs⟩,?_⟩
  have e:=r.length
  simp only [Array.length_toList] at e
  omega
theorem Inv.list_inj (I:Inv X pins σ H s) (h:SqL X.K H a xs) (h':SqL X.K H a ys):xs=ys:=by
 obtain⟨its,r,⟨o,n,e,_,_,d⟩,_⟩:=I.list h
 obtain⟨its',r',⟨o',n',e',_,_,d'⟩,_⟩:=I.list h'
 rw [e] at e';cases e'
 rw [d] at d'
 injection d' with d1 _
 have:its=its':=by simpa using congrArg Array.toList d1
 subst this
 exact r.inj r'
theorem Inv.tuple_inj (I:Inv X pins σ H s) (h:SqT X.K H a xs) (h':SqT X.K H a ys):xs=ys:=by
 obtain⟨its,r,⟨o,e,_,n,d⟩,_⟩:=I.tuple h
 obtain⟨its',r',⟨o',e',_,n',d'⟩,_⟩:=I.tuple h'
 rw [e] at e';cases e'
 rw [d] at d'
 injection d' with d1 _
 have:its=its':=by simpa using congrArg Array.toList d1
 subst this
 exact r.inj r'
end
noncomputable abbrev Cx.wish (X:Cx) (E:Value->Shared->Prop):Cx:={ X with xe:=E }
noncomputable abbrev Cx.nox (X:Cx):Cx:=X.wish λ_ _=>False
theorem Cx.Ok.wish {X:Cx}(ok:X.Ok) (E:Value->Shared->Prop):(X.wish E).Ok:=
 ⟨ok.mod,ok.kind,ok.glob,ok.blt,ok.above,ok.inj,ok.has,ok.cab,ok.hd,ok.frames,ok.stk,ok.exf,ok.bs,ok.bsz,ok.noex,ok.exfs,ok.funs,ok.frf⟩
theorem Cx.Ok.unwish {X:Cx}{E:Value->Shared->Prop}(ok:(X.wish E).Ok):X.Ok:=
 ⟨ok.mod,ok.kind,ok.glob,ok.blt,ok.above,ok.inj,ok.has,ok.cab,ok.hd,ok.frames,ok.stk,ok.exf,ok.bs,ok.bsz,ok.noex,ok.exfs,ok.funs,ok.frf⟩
section
variable {X:Cx}{pins:List (Addr×Obj)}{σ:St}{H:Hp}{s:Shared}{E:Value->Shared->Prop}
theorem Inv.wish (I:Inv X pins σ H s) (E:Value->Shared->Prop):Inv (X.wish E) pins σ H s:=⟨I.ok.wish E,I.os,I.bare,I.base,I.loc,I.cell,I.free,I.freeC,I.pin,I.hok,I.len⟩
theorem Inv.unwish (I:Inv (X.wish E) pins σ H s):Inv X pins σ H s:=⟨I.ok.unwish,I.os,I.bare,I.base,I.loc,I.cell,I.free,I.freeC,I.pin,I.hok,I.len⟩
theorem SP.unwish {D:Ends}{f:Flow}{s':Shared}(h:SP (X.wish E) pins D f s'):SP X pins D f s':=by
 cases f with
 | next=>obtain⟨σ',H',I,q⟩:=h;exact⟨σ',H',I.unwish,q⟩
 | brk=>obtain⟨σ',H',I,q⟩:=h;exact⟨σ',H',I.unwish,q⟩
 | cont=>obtain⟨σ',H',I,q⟩:=h;exact⟨σ',H',I.unwish,q⟩
 | ret u=>obtain⟨v,σ',H',I,r,q⟩:=h;exact⟨v,σ',H',I.unwish,r,q⟩
theorem PE.nox {e:Expr}{t:TE}(h:PE X.nox e t):PE X e t:=λpins s σ H Q I hw =>
 wpAny_mono (h pins s σ H Q (I.wish _) hw) (λ_ _ ⟨v,H',I',r,q⟩=>⟨v,H',I'.unwish,r,q⟩) λ_ _ z=>False.elim z
theorem PT.nox {e:Expr}{t:TT}(h:PT X.nox e t):PT X e t:=λpins s σ H Q I hw =>
 wpAny_mono (h pins s σ H Q (I.wish _) hw) (λ_ _ ⟨H',I',q⟩=>⟨H',I'.unwish,q⟩) λ_ _ z=>False.elim z
theorem PSs.nox {st:List Stmt}{t:TS}(h:PSs X.nox st t):PSs X st t:=λpins s σ H D I hw =>
 wpAny_mono (h pins s σ H D (I.wish _) hw) (λ_ _ q=>q.unwish) λ_ _ z=>False.elim z
end
section
variable {X:Cx}{st:Stmt}{rest:List Stmt}{t u:TS}{e:Expr}{te:TE}{pos:Pos}
noncomputable def qOG:TS:=λD σ H=>D.nx σ H
noncomputable def qPH (t u:TS):TS:=λD σ H=>t { D with nx:=u D } σ H
theorem qES:PSs X [] qOG:=λ_ _ σ H _ I h=>wpAny_execs_nil ⟨σ,H,I,h⟩
theorem qFp (h1:PS X st t) (h2:PSs X rest u):PSs X (st::rest) (qPH t u):=by
 intro pins s σ H D I h
 refine wpAny_execs_cons (thn (h1 pins s σ H { D with nx:=u D } I h) λf s1 q=>?_)
 cases f with
 | next =>
  obtain⟨σ',H',I',q⟩:=q
  exact h2 pins s1 σ' H' D I' q
 | ret v=>exact q
 | brk=>exact q
 | cont=>exact q
theorem qKZ (h1:PS X st t):PSs X [st] t:=by
 intro pins s σ H D I h
 refine wpAny_execs_cons (thn (h1 pins s σ H D I h) λf s1 q=>?_)
 cases f with
 | next=>exact wpAny_execs_nil q
 | ret v=>exact q
 | brk=>exact q
 | cont=>exact q
theorem Inv.quiet {pins:List (Addr×Obj)}{σ:St}{H:Hp}{s:Shared}(I:Inv X pins σ H s):interactive X.env=false:=by simp [interactive,I.ok.kind]
noncomputable def qOH (te:TE):TS:=λD σ H=>te σ H λ_ H1=>D.nx σ H1
theorem qGR (he:PE X e te) (hs:swapsWith e none pos.line X.env=pure false:=by rfl):PS X (.Expr e pos) (qOH te):=by
 intro pins s σ H D I h
 exact wpAny_Expr_any (thn (he pins s σ H _ I h) λv s1 ⟨x,H1,I1,r1,q1⟩=>⟨σ,H1,I1,q1⟩) I.quiet hs
noncomputable def qPI (te:TE):TS:=λD σ H=>te σ H D.rt
theorem qJW (he:PE X e te):PS X (.Return (some e) pos) (qPI te):=by
 intro pins s σ H D I h
 exact wpAny_Return_some (thn (he pins s σ H _ I h) λv s1 ⟨x,H1,I1,r1,q1⟩=>⟨x,σ,H1,I1,r1,q1⟩)
noncomputable def qPM (c:TT) (t u:TS):TS:=λD σ H=>c σ H λb H1=>if b=true then t D σ H1 else u D σ H1
theorem qMS {c:Expr}{a b:List Stmt}{tc:TT}(hc:PT X c tc) (ha:PSs X a t) (hb:PSs X b u):PS X (.If c a b pos) (qPM tc t u):=by
 intro pins s σ H D I h
 refine wpAny_If (thn (hc pins s σ H _ I h) λd s1 ⟨H1,I1,q1⟩=>?_)
 cases d with
 | true=>exact ha pins s1 σ H1 D I1 q1
 | false=>exact hb pins s1 σ H1 D I1 q1
end
noncomputable abbrev TG:=V->St->Hp->(St->Hp->Prop)->Prop
noncomputable abbrev TGs:=List V->St->Hp->(St->Hp->Prop)->Prop
noncomputable def PG (X:Cx) (target:Expr) (t:TG):Prop:=
 ∀(pins:List (Addr×Obj)) (s:Shared) (σ:St) (H:Hp) (v:V) (u:Value) (Q:St->Hp->Prop),Inv X pins σ H s->RelV v u->t v σ H Q ->
   wpAny (model X.prog X.w) X.A (assign target X.env u) (λ_ s'=>∃σ' H',Inv X pins σ' H' s'/\Q σ' H') X.xe s
noncomputable def PGs (X:Cx) (ts:List Expr) (t:TGs):Prop:=
 ∀(pins:List (Addr×Obj)) (s:Shared) (σ:St) (H:Hp) (vs:List V) (us:List Value) (Q:St->Hp->Prop),Inv X pins σ H s->Vals vs us->t vs σ H Q ->
   wpAny (model X.prog X.w) X.A (assignInOrder ((assignEach ts X.env).map (·.2)) us) (λ_ s'=>∃σ' H',Inv X pins σ' H' s'/\Q σ' H') X.xe s
section
variable {X:Cx}{pos:Pos}
noncomputable def qEg (i:Nat):TG:=λv σ H Q=>Q (σ.set i (some v)) H
theorem qCL {i:Nat}{x:Str}(hN:X.N.Nodup) (hi:X.N[i]?=some x) (hx:Loc X.env.scope x) (hf:X.fn x=true∨X.env.scope.names.lookup x=some .local:=by first|exact .inl rfl|exact .inr rfl|assumption):PG X (.Name x pos) (qEg i):=by
 intro pins s σ H v u Q I r h
 exact wpAny_assign_Name (qFh I hN hi hx r (λs' I'=>⟨_,H,I',h⟩) hf)
noncomputable def qPe:TGs:=λvs σ H Q=>vs=[]/\Q σ H
noncomputable def qJi (t:TG) (u:TGs):TGs:=λvs σ H Q=>∃v r,vs=v::r/\t v σ H fun σ' H'=>u r σ' H' Q
theorem qGV:PGs X [] qPe:=by
 intro pins s σ H vs us Q I r h
 obtain⟨e,h⟩:=h
 subst e
 cases r
 exact assignInOrder_nil ⟨σ,H,I,h⟩
theorem qDD {e:Expr}{es:List Expr}{t:TG}{u:TGs}(h1:PG X e t) (h2:PGs X es u)
  (hs:(assignEach (e::es) X.env).map (·.2)=assign e X.env::(assignEach es X.env).map (·.2):=by rfl):PGs X (e::es) (qJi t u):=by
 intro pins s σ H vs us Q I r h
 obtain⟨v,vr,e1,h⟩:=h
 subst e1
 cases r with
 | cons r rr =>
  rw [hs]
  refine assignInOrder_cons (thn (h1 pins s σ H _ _ _ I r h) λ_ s1 ⟨σ1,H1,I1,q1⟩=>?_)
  exact h2 pins s1 σ1 H1 _ _ Q I1 rr q1
noncomputable def qPd (K:PySem.W.Frag) (n:Nat) (t:TGs):TG:=λv σ H Q=>∃a xs,v=.ref a/\SqT K H a xs/\xs.length=n/\t xs σ H Q
theorem qJZ {es:List Expr}{k:Nat}{t:TGs}{n:Nat}(hc:X.calm=true) (h:PGs X es t)
  (hn:(assignEach es X.env).length=n:=by rfl) (hst:(assignEach es X.env).findIdx? (·.1)=none:=by rfl):PG X (.Tuple es k pos) (qPd X.K n t):=by
 intro pins s σ H v u Q I r hw
 obtain⟨a,xs,e1,hq,hl,hw⟩:=hw
 subst e1
 cases r
 obtain⟨its,rv,ht,hz⟩:=I.tuple hq
 refine assign_Tuple_tuple (I.ok.hd hc) ht (by simp [hn,<-hl,rv.length]) hst λh' hx=>?_
 have I1:Inv X pins σ H { s with heap:=h' }:=I.kept (t':=s.toks) λb o e=>hx b o (Nat.ne_of_lt (Heap.lt_size e)) e
 exact h pins _ σ H xs _ Q I1 (by simpa using rv) hw
noncomputable def qPp (te:TE) (g:TG):TS:=λD σ H=>te σ H λx H1=>g x σ H1 D.nx
theorem qMU {tg e:Expr}{te:TE}{g:TG}(he:PE X e te) (hg:PG X tg g) (hs:swapsWithSole [tg] e pos.line X.env=pure false:=by rfl) (hw:swappedStores [tg] e X.env=pure none:=by rfl)
  (h1:(assignEach [tg] X.env).map (·.2)=[assign tg X.env]:=by rfl):PS X (.Assign [tg] e pos) (qPp te g):=by
 intro pins s σ H D I h
 refine wpAny_Assign_stores (thn (he pins s σ H _ I h) λv s1 ⟨x,H1,I1,r1,q1⟩=>?_) hs hw
 rw [h1]
 exact thn (hg pins s1 σ H1 x v _ I1 r1 q1) λ_ s2 q=>q
theorem qMR {i:Nat}{x:Str}{e:Expr}{te:TE}{pos':Pos}(hN:X.N.Nodup) (hi:X.N[i]?=some x) (hx:Loc X.env.scope x) (he:PE X e te) (hs:swapsWith e (some (.Name x pos')) pos.line X.env=pure false:=by rfl) (hf:X.fn x=true∨X.env.scope.names.lookup x=some .local:=by first|exact .inl rfl|exact .inr rfl|assumption) :
  PS X (.Assign [.Name x pos'] e pos) (qPp te (qEg i)):=by
 intro pins s σ H D I h
 refine wpAny_Assign_Name (thn (he pins s σ H _ I h) λv s1 ⟨y,H1,I1,r1,q1⟩=>?_) hs
 exact qFh I1 hN hi hx r1 (λs2 I2=>⟨_,H1,I2,q1⟩) hf
end
section
variable {X:Cx}{pos:Pos}
noncomputable def qMs (c:TT) (tb:TS):TS:=λD σ H=>∃W:Nat->St->Hp->Prop,(∃m,W m σ H)/\∀m σ H,W m σ H ->
 c σ H λb H1=>if b=true then ∃N:St->Hp->Prop,(∀σ' H',N σ' H'->∃m',m'<m/\W m' σ' H')/\tb { D with nx:=N,ct:=N,bk:=D.nx } σ H1 else D.nx σ H1
theorem qIM {c:Expr}{body:List Stmt}{tc:TT}{tb:TS}(hp:PassesOwn (model X.prog X.w) X.A X.env X.xe) (hc:PT X c tc) (hb:PSs X body tb):PS X (.While c body [] pos) (qMs tc tb):=by
 intro pins s σ H D I h
 obtain⟨W,⟨m0,w0⟩,turn⟩:=h
 refine wpAny_While (codeAny_whileLoop (λn s'=>∃σ' H',Inv X pins σ' H' s'/\W n σ' H') ?_ m0 ⟨σ,H,I,w0⟩)
 rintro n s1 ⟨σ1,H1,I1,w1⟩
 refine wpAny_passesOwn hp (thn (hc pins s1 σ1 H1 _ I1 (turn n σ1 H1 w1)) λb s2 ⟨H2,I2,q2⟩=>?_)
 cases b with
 | true =>
  obtain⟨N,hN,q2⟩:=q2
  rw [if_pos rfl]
  refine wpAny_passesOwn hp (thn (hb pins s2 σ1 H2 _ I2 q2) λf s3 q3=>?_)
  cases f with
  | next =>
   obtain⟨σ3,H3,I3,n3⟩:=q3
   obtain⟨m',hm,w3⟩:=hN σ3 H3 n3
   exact⟨m',hm,σ3,H3,I3,w3⟩
  | cont =>
   obtain⟨σ3,H3,I3,n3⟩:=q3
   obtain⟨m',hm,w3⟩:=hN σ3 H3 n3
   exact⟨m',hm,σ3,H3,I3,w3⟩
  | brk=>exact q3
  | ret v=>exact q3
 | false =>
  rw [if_neg Bool.false_ne_true]
  exact wpAny_execs_nil ⟨σ1,H2,I2,q2⟩
end
structure It where
 go:Nat->Hp->Prop
 yld:Nat->Hp->V->Hp->Prop
 stop:Nat->Hp->Prop
noncomputable def qFL (X:Cx) (pins:List (Addr×Obj)) (H:Hp) (b:Addr):Prop:=
 H b=none/\b≠X.env.locals/\b∉X.fs/\(b∈X.ex∨X.s₀.heap.objs.size<=b)/\(∀x c,X.env.cells.lookup x=some c->c≠b)/\∀p∈X.pn++pins,p.1≠b
theorem Inv.fpOk {X:Cx}{pins:List (Addr×Obj)}{σ:St}{H H':Hp}{s:Shared}{b:Addr}(I:Inv X pins σ H s) (hb:s.heap.objs.size<=b) (hn:H' b=none):qFL X pins H' b:=by
 refine⟨hn,Nat.ne_of_gt (Nat.lt_of_lt_of_le I.lt hb),I.nofs hb,.inr (Nat.le_trans I.sz hb),λx c e z=>?_,λp hp z=>?_⟩
 ·obtain⟨v,q⟩:=I.cell x c e
  exact absurd (Nat.lt_of_lt_of_le q.lt (by rw [z];exact hb)) (Nat.lt_irrefl _)
 ·exact absurd (Nat.lt_of_lt_of_le (Heap.lt_size (I.pin p hp).1) (by rw [z];exact hb)) (Nat.lt_irrefl _)
structure Turn (P:Program) (w:World) (K:PySem.W.Frag) (tg:Expr) (J:It) (fp:List Addr) (it:Addr) (tn:Nat->Heap->Prop):Prop where
 mem:it∈fp
 obj:∀i h,tn i h->∀b∈fp,∃o,h.get? b=some o/\∀v,o.data≠.cell v
 keep:∀i h h',tn i h->(∀b∈fp,∀o,h.get? b=some o->h'.get? b=some o)->tn i h'
 item:∀(X:Cx),X.prog=P->X.w=w->X.K=K->X.calm=true->∀(i:Nat) (pins:List (Addr×Obj)) (s:Shared) (σ:St) (H:Hp) (E:Value->Shared->Prop),Inv X pins σ H s->(∀b∈fp,qFL X pins H b)->tn i s.heap->J.go i H ->
  wpAny (model P w) X.A (pyNext (.ref it)) (λr s1=>∃u,r=some u /\
   wpAny (model P w) X.A (letOwnedTupleGo tg (.ref it) u) (λ_ s2=>∃x H',Inv X pins σ H' s2/\RelV x u/\J.yld i H x H'/\tn (i+1) s2.heap/\∀b∈fp,H' b=none) E s1) E s
 done:∀(X:Cx),X.prog=P->X.w=w->X.K=K->X.calm=true->∀(i:Nat) (pins:List (Addr×Obj)) (s:Shared) (σ:St) (H:Hp) (E:Value->Shared->Prop),Inv X pins σ H s->(∀b∈fp,qFL X pins H b)->tn i s.heap->J.stop i H ->
  wpAny (model P w) X.A (pyNext (.ref it)) (λr s1=>r=none/\Inv X pins σ H s1) E s
 self:∀(A:Around) (i:Nat) (s:Shared) (Q:Value->Shared->Prop) (E:Value->Shared->Prop),tn i s.heap->Q (.ref it) s->wpAny (model P w) A (pyIter (.ref it)) Q E s
noncomputable abbrev TI:=St->Hp->(It->Hp->Prop)->Prop
noncomputable def PIE (X:Cx) (pins:List (Addr×Obj)) (σ:St) (tg:Expr) (R:It->Hp->Prop) (itv:Value) (s2:Shared):Prop:=
 ∃(it:Addr) (fp:List Addr) (tn:Nat->Heap->Prop) (J:It) (H':Hp),itv=.ref it/\Inv X pins σ H' s2/\Turn X.prog X.w X.K tg J fp it tn/\tn 0 s2.heap/\(∀b∈fp,qFL X pins H' b)/\R J H'
noncomputable def PI (X:Cx) (tg iter:Expr) (wi:TI):Prop:=
 ∀(pins:List (Addr×Obj)) (s:Shared) (σ:St) (H:Hp) (R:It->Hp->Prop),Inv X pins σ H s->wi σ H R ->
   wpAny (model X.prog X.w) X.A (eval iter X.env) (λv s1=>wpAny (model X.prog X.w) X.A (pyIter v) (PIE X pins σ tg R) X.xe s1) X.xe s
theorem qHm {M:Model}{A:Around}{E:Value->Shared->Prop}{s:Shared}{tg:Expr}{it:Addr}{u:Value}{o:Obj}{n:String}{vs:Array Value}{Q:Unit->Shared->Prop}(ho:s.heap.get? it=some o) (hc:o.cls=.type n) (hd:o.data=.fields vs)
  (hn:["enumerate","zip","dict_itemiterator","dict_reverseitemiterator","odict_iterator","itertools.zip_longest","itertools.pairwise"].contains n=false) (hQ:Q () s):wpAny M A (letOwnedTupleGo tg (.ref it) u) Q E s:=by
 unfold letOwnedTupleGo
 cases tg<;>first
  | exact wpAny_pure hQ
  | (cases u<;>first
    | exact wpAny_pure hQ
    | (refine wpAny_bind (wpAny_load ho ?_)
       rw [hc,hd]
       show wpAny M A (if (["enumerate","zip","dict_itemiterator","dict_reverseitemiterator","odict_iterator","itertools.zip_longest","itertools.pairwise"].contains n&&vs[0]? == some (rawInt _))=true then _ else _) Q E s
       rw [if_neg (by intro h;rw [hn,Bool.false_and] at h;cases h)]
       exact wpAny_pure hQ))
noncomputable def Itl (K:PySem.W.Frag) (a:Addr):It:=
 ⟨λi H=>∃xs x,SqL K H a xs/\xs[i]?=some x,λi H x H'=>H'=H/\∀xs,SqL K H a xs->xs[i]?=some x,λi H=>∃xs,SqL K H a xs/\xs.length<=i⟩
noncomputable def Itt (K:PySem.W.Frag) (a:Addr):It:=
 ⟨λi H=>∃xs x,SqT K H a xs/\xs[i]?=some x,λi H x H'=>H'=H/\∀xs,SqT K H a xs->xs[i]?=some x,λi H=>∃xs,SqT K H a xs/\xs.length<=i⟩
noncomputable def Itr (lo:Int) (n:Nat):It:=⟨λi _=>i<n,λi H x H'=>H'=H/\x=.int (lo+i),λi _=>n<=i⟩
theorem qGr {P:Program}{w:World}{K:PySem.W.Frag}{tg:Expr}(a it:Addr):Turn P w K tg (Itl K a) [it] it (λi h=>h.IsListIter it a i) where
 mem:=by simp
 obj:=λi h st b hb=>by
  have e:b=it:=by simpa using hb
  subst e
  obtain⟨o,e,c,d⟩:=st
  exact⟨o,e,λv z=>by rw [d] at z;cases z⟩
 keep:=λi h h' st k=>st.at λo e=>k it (by simp) o e
 item:=by
  intro X hP hw hK hc i pins s σ H E I hf st hg
  subst hP hw hK
  obtain⟨xs,x,hq,hx⟩:=hg
  obtain⟨its,rv,p,hz⟩:=I.list hq
  obtain⟨u,hu,ru⟩:=rv.get hx
  obtain⟨f0,f1,f2,f3,f4,f5⟩:=hf it (by simp)
  refine wpAny_pyNext_list_item st p.isList (x:=u) (by simpa using hu) λh' st' sb=>?_
  have I1:Inv X pins σ H { s with heap:=h' }:=I.turned (t':=s.toks) (λb o hb e=>(sb.2 b hb).trans e) f0 f1 f3 f4 f5
  obtain⟨o,e,c,d⟩:=id st'
  exact⟨u,rfl,qHm (s:={ s with heap:=h' }) e c d (by decide) ⟨x,H,I1,ru,⟨rfl,λys hy=>by rw [I.list_inj hy hq];exact hx⟩,st',λb hb=>(hf b hb).1⟩⟩
 done:=by
  intro X hP hw hK hc i pins s σ H E I hf st hg
  subst hP hw hK
  obtain⟨xs,hq,hx⟩:=hg
  obtain⟨its,rv,p,hz⟩:=I.list hq
  obtain⟨f0,f1,f2,f3,f4,f5⟩:=hf it (by simp)
  have hl:=rv.length
  exact wpAny_pyNext_list_end (I.ok.hd hc) st p.isList (by simp;omega) λh' eb=>⟨rfl,I.turned (t':=s.toks) (λb o hb e=>eb b o hb e) f0 f1 f3 f4 f5⟩
 self:=λ_ _ _ _ _ st h=>wpAny_pyIter_listiter st h
theorem qFP {P:Program}{w:World}{K:PySem.W.Frag}{tg:Expr}(a it:Addr):Turn P w K tg (Itt K a) [it] it (λi h=>h.IsTupleIter it a i) where
 mem:=by simp
 obj:=λi h st b hb=>by
  have e:b=it:=by simpa using hb
  subst e
  obtain⟨o,e,c,d⟩:=st
  exact⟨o,e,λv z=>by rw [d] at z;cases z⟩
 keep:=λi h h' st k=>st.at λo e=>k it (by simp) o e
 item:=by
  intro X hP hw hK hc i pins s σ H E I hf st hg
  subst hP hw hK
  obtain⟨xs,x,hq,hx⟩:=hg
  obtain⟨its,rv,p,hz⟩:=I.tuple hq
  obtain⟨u,hu,ru⟩:=rv.get hx
  obtain⟨f0,f1,f2,f3,f4,f5⟩:=hf it (by simp)
  refine wpAny_pyNext_tuple_item st (show s.heap.IsTuple a its.toArray from p) (x:=u) (by simpa using hu) λh' st' sb=>?_
  have I1:Inv X pins σ H { s with heap:=h' }:=I.turned (t':=s.toks) (λb o hb e=>(sb.2 b hb).trans e) f0 f1 f3 f4 f5
  obtain⟨o,e,c,d⟩:=id st'
  exact⟨u,rfl,qHm (s:={ s with heap:=h' }) e c d (by decide) ⟨x,H,I1,ru,⟨rfl,λys hy=>by rw [I.tuple_inj hy hq];exact hx⟩,st',λb hb=>(hf b hb).1⟩⟩
 done:=by
  intro X hP hw hK hc i pins s σ H E I hf st hg
  subst hP hw hK
  obtain⟨xs,hq,hx⟩:=hg
  obtain⟨its,rv,p,hz⟩:=I.tuple hq
  obtain⟨f0,f1,f2,f3,f4,f5⟩:=hf it (by simp)
  have hl:=rv.length
  exact wpAny_pyNext_tuple_end (I.ok.hd hc) st (show s.heap.IsTuple a its.toArray from p) (by simp;omega) λh' eb=>⟨rfl,I.turned (t':=s.toks) (λb o hb e=>eb b o hb e) f0 f1 f3 f4 f5⟩
 self:=λ_ _ _ _ _ st h=>wpAny_pyIter_tupleiter st h
theorem qFQ {P:Program}{w:World}{K:PySem.W.Frag}{tg:Expr}(it:Addr) (lo:Int) (n:Nat):Turn P w K tg (Itr lo n) [it] it (λi h=>IsRangeIter h it (lo+(i:Nat) * 1) ((n:Int) - (i:Nat)) 1) where
 mem:=by simp
 obj:=λi h st b hb=>by
  have e:b=it:=by simpa using hb
  subst e
  exact⟨_,st,λv z=>by
   have z':Data.fields _=Data.cell v:=z
   cases z'⟩
 keep:=λi h h' st k=>k it (by simp) _ st
 item:=by
  intro X hP hw hK hc i pins s σ H E I hf st hg
  subst hP hw hK
  obtain⟨f0,f1,f2,f3,f4,f5⟩:=hf it (by simp)
  have W:=Walks.range (prog:=X.prog) (w:=X.w) (I.ok.hd hc) it lo 1 n
  refine W.item i s _ _ hg st λv h' tk hv st' kk=>?_
  obtain⟨t,rfl⟩:=hv
  have I1:Inv X pins σ H { s with heap:=h',toks:=tk }:=I.turned (λb o hb e=>kk b o (by simpa using hb) e) f0 f1 f3 f4 f5
  refine⟨_,rfl,qHm (s:={ s with heap:=h',toks:=tk }) (n:="range_iterator") st' rfl rfl (by decide) ⟨.int (lo+i),H,I1,⟨t,?_⟩,⟨rfl,rfl⟩,st',λb hb=>(hf b hb).1⟩⟩
  rw [Int.mul_one]
 done:=by
  intro X hP hw hK hc i pins s σ H E I hf st hg
  subst hP hw hK
  obtain⟨f0,f1,f2,f3,f4,f5⟩:=hf it (by simp)
  exact wpAny_pyNext_range_end (I.ok.hd hc) st (by have:n<=i:=hg;omega) λh' eb=>⟨rfl,I.turned (t':=s.toks) (λb o hb e=>eb b o hb e) f0 f1 f3 f4 f5⟩
 self:=λ_ _ _ _ _ st h=>wpAny_pyIter_rangeiter st h
end L2
namespace L2
open PySem PySem.Spec PyProof.Rows
section
variable {X:Cx}{tg:Expr}
theorem qIL {pins:List (Addr×Obj)}{σ:St}{H:Hp}{s:Shared}{R:It->Hp->Prop}{E:Value->Shared->Prop}{lo hi:Int}{t u v:Tok}{tk:Nat}(I:Inv X pins σ H s) (h1:-(2^62)<=lo) (h2:lo<2^62) (h3:-(2^62)<=hi) (h4:hi<2^62)
  (q:R (Itr lo (hi - lo).toNat) H):wpAny (model X.prog X.w) X.A (pyIter (.ref s.heap.objs.size)) (PIE X pins σ tg R) E { s with heap:=s.heap.push { cls:=.type "range",data:=.fields #[.int lo t,.int hi u,.int 1 v] },toks:=tk }:=by
 refine wpAny_pyIter_range (IsRange.new ..) (small_one h1 h2 h3 h4) ?_
 have I1:Inv X pins σ H { s with heap:=s.heap.push { cls:=.type "range",data:=.fields #[.int lo t,.int hi u,.int 1 v] },toks:=tk }:=I.kept λb o e=>Heap.get?_push_of_some _ e
 refine⟨(s.heap.push { cls:=.type "range",data:=.fields #[.int lo t,.int hi u,.int 1 v] }).objs.size,[(s.heap.push { cls:=.type "range",data:=.fields #[.int lo t,.int hi u,.int 1 v] }).objs.size],_,_,H,rfl,
  I1.kept (t':=tk) λb o e=>Heap.get?_push_of_some _ e,qFQ _ lo (hi - lo).toNat,?_,λb hb=>?_,q⟩
 ·have e1:lo+((0:Nat):Int) * 1=lo:=by simp
  have e2:(((hi - lo).toNat:Nat):Int) - ((0:Nat):Int)=Builtin.Range.rangeSize lo hi 1:=by rw [rangeSize_one];split<;>omega
  show IsRangeIter _ _ (lo+((0:Nat):Int) * 1) ((((hi - lo).toNat:Nat):Int) - ((0:Nat):Int)) 1
  rw [e1,e2]
  exact Heap.get?_push_size _ rfl
 ·have e:b=(s.heap.push { cls:=.type "range",data:=.fields #[.int lo t,.int hi u,.int 1 v] }).objs.size:=by simpa using hb
  subst e
  exact I1.fpOk (Nat.le_refl _) (I1.hok.fresh (Nat.le_refl _))
noncomputable def qPb (ta:TA):TI:=fun σ H R=>ta σ H λvs H1=>∃j:Int,vs=[.int j]/\-(2^62)<=j/\j<2^62/\R (Itr 0 j.toNat) H1
theorem qGU {a:Expr}{ta:TA}{p pos:Pos}(hg:Gl X "range") (hm:X.mg "range"=none) (ha:PA X [a] ta) (hs:starEach [a] X.env=[(false,eval a X.env)]:=by rfl):PI X tg (.Call (.Name "range" p) [a] [] pos) (qPb ta):=by
 intro pins s σ H R I h
 refine Call_ (qDj I hg hm boot_range (PyProof.Rows.callWith_type1 (thn (ha pos pins s σ H _ I h) λus s1 ⟨vs,H1,I1,r1,q1⟩=>?_) hs rfl))
 obtain⟨j,e,q1,q2,q⟩:=q1
 subst e
 cases r1 with
 | cons r rr =>
  cases rr
  obtain⟨t,rfl⟩:=r
  exact call_range_1 (qIL I1 (by omega) (by omega) q1 q2 (by simpa using q))
noncomputable def qPN (wi:TI) (g:TG) (tb:TS):TS:=λD σ H=>wi σ H λJ H1=>∃W:Nat->Nat->St->Hp->Prop,(∃m,W 0 m σ H1)/\∀i m σ H,W i m σ H ->
 (J.stop i H/\D.nx σ H)∨(J.go i H/\∃N:St->Hp->Prop,(∀σ' H',N σ' H'->∃m',m'<m/\W (i+1) m' σ' H')/\∀x H',J.yld i H x H'->g x σ H' fun σ2 H2=>tb { D with nx:=N,ct:=N,bk:=D.nx } σ2 H2)
noncomputable def qFq (fp:List Addr) (h:Heap):List (Addr×Obj):=fp.filterMap λb=>(h.get? b).map λo=>(b,o)
theorem qAZ {fp:List Addr}{h:Heap}{b:Addr}{o:Obj}(hb:b∈fp) (e:h.get? b=some o):(b,o)∈qFq fp h:=List.mem_filterMap.mpr ⟨b,hb,by rw [e];rfl⟩
theorem qG2 {fp:List Addr}{h:Heap}{p:Addr×Obj}(hp:p∈qFq fp h):p.1∈fp/\h.get? p.1=some p.2:=by
 obtain⟨b,hb,e⟩:=List.mem_filterMap.mp hp
 cases q:h.get? b with
 | none=>rw [q] at e;cases e
 | some o =>
  rw [q] at e
  have e':(b,o)=p:=Option.some.inj e
  subst e'
  exact⟨hb,q⟩
theorem Inv.pinned {pins:List (Addr×Obj)}{σ:St}{H:Hp}{s:Shared}{fp:List Addr}(I:Inv X pins σ H s) (hf:∀b∈fp,qFL X pins H b) (ho:∀b∈fp,∃o,s.heap.get? b=some o/\∀v,o.data≠.cell v):Inv X (pins++qFq fp s.heap) σ H s:=
 I.pins_of λp hp=>(List.mem_append.mp hp).elim (λz=>I.pin p (List.mem_append_right _ z)) λz=>by
  obtain⟨hb,e⟩:=qG2 z
  obtain⟨f0,f1,f2,_⟩:=hf p.1 hb
  obtain⟨o,e',d⟩:=ho p.1 hb
  rw [e] at e';cases e'
  exact⟨e,f0,f1,f2,d⟩
theorem Inv.unpinned {pins pl:List (Addr×Obj)}{σ:St}{H:Hp}{s:Shared}(I:Inv X (pins++pl) σ H s):Inv X pins σ H s:=I.pins_of λp hp=>I.pin p (List.mem_append_right _ (List.mem_append_left _ hp))
theorem qJX {iter:Expr}{body:List Stmt}{wi:TI}{g:TG}{tb:TS}{pos:Pos}(hp:PassesOwn (model X.prog X.w) X.A X.env X.xe) (hc:X.calm=true) (hi:PI X tg iter wi) (hg:PG X tg g) (hb:PSs X body tb)
  (hs:∀x,foldedSetIterable iter X.env x=pure x:=by intro _;rfl):PS X (.For tg iter body [] pos) (qPN wi g tb):=by
 intro pins s σ H D I h
 refine wpAny_For (thn (hi pins s σ H _ I h) λv s1 h1=>thn h1 λitv s2 h2=>?_) hs
 obtain⟨it,fp,tn,J,H2,e,I2,T,st2,f2,W,⟨m0,w0⟩,turn⟩:=h2
 subst e
 have stat:∀{H':Hp},(∀b∈fp,H' b=none)->∀b∈fp,qFL X pins H' b:=λhn b hb=>⟨hn b hb,(f2 b hb).2⟩
 refine codeAny_forLoop_any (λn s'=>∃i σ' H',Inv X pins σ' H' s'/\tn i s'.heap/\(∀b∈fp,H' b=none)/\W i n σ' H') ?_ m0 ⟨0,σ,H2,I2,st2,λb hb=>(f2 b hb).1,w0⟩
 rintro n s3 ⟨i,σ3,H3,I3,st3,fr3,w3⟩
 rcases turn i n σ3 H3 w3 with ⟨stop,qn⟩|⟨go,N,hN,step⟩
 ·refine wpAny_passesOwn hp (thn (T.done X rfl rfl rfl hc i pins s3 σ3 H3 X.xe I3 (stat fr3) st3 stop) λr s4 ⟨hr,I4⟩=>?_)
  subst hr
  exact wpAny_execs_nil ⟨σ3,H3,I4,qn⟩
 ·refine wpAny_passesOwn hp (thn (T.item X rfl rfl rfl hc i pins s3 σ3 H3 X.xe I3 (stat fr3) st3 go) λr s4 ⟨u,hr,h4⟩=>?_)
  subst hr
  refine wpAny_passesOwn hp (thn h4 λ_ s5 ⟨x,H5,I5,r5,y5,st5,fr5⟩=>?_)
  have I5':=I5.pinned (stat fr5) (T.obj _ _ st5)
  refine wpAny_passesOwn hp (thn (hg _ s5 σ3 H5 x u _ I5' r5 (step x H5 y5)) λ_ s6 ⟨σ6,H6,I6,q6⟩=>?_)
  refine wpAny_passesOwn hp (thn (hb _ s6 σ6 H6 _ I6 q6) λf s7 q7=>?_)
  have again:∀{σ7:St} {H7:Hp},Inv X (pins++qFq fp s5.heap) σ7 H7 s7->N σ7 H7->∃m,m<n/\∃i σ' H',Inv X pins σ' H' s7/\tn i s7.heap/\(∀b∈fp,H' b=none)/\W i m σ' H':=λ{σ7 H7} I7 n7=>by
   obtain⟨m',hm,w7⟩:=hN σ7 H7 n7
   refine⟨m',hm,i+1,σ7,H7,I7.unpinned,T.keep _ _ _ st5 λb hb o e=>(I7.pin (b,o) (List.mem_append_right _ (List.mem_append_right _ (qAZ hb e)))).1,λb hb=>?_,w7⟩
   obtain⟨o,e,d⟩:=T.obj _ _ st5 b hb
   exact (I7.pin (b,o) (List.mem_append_right _ (List.mem_append_right _ (qAZ hb e)))).2.1
  cases f with
  | next=>obtain⟨σ7,H7,I7,n7⟩:=q7;exact again I7 n7
  | cont=>obtain⟨σ7,H7,I7,n7⟩:=q7;exact again I7 n7
  | brk=>obtain⟨σ7,H7,I7,q7⟩:=q7;exact⟨σ7,H7,I7.unpinned,q7⟩
  | ret v=>obtain⟨x7,σ7,H7,I7,r7,q7⟩:=q7;exact⟨x7,σ7,H7,I7.unpinned,r7,q7⟩
end
end L2
namespace L2
open PySem PySem.Spec PyProof.Rows
noncomputable abbrev R2:=V->V->Hp->VK->Prop
noncomputable def OpR (X:Cx) (f:Value->Value->Sem Value) (r:R2):Prop:=
 ∀(pins:List (Addr×Obj)) (s:Shared) (σ:St) (H:Hp) (x y:V) (v u:Value) (Q:VK),Inv X pins σ H s->RelV x v->RelV y u->r x y H Q ->
   wpAny (model X.prog X.w) X.A (f v u) (EP X pins σ Q) X.xe s
noncomputable def UnR (X:Cx) (f:Value->Sem Value) (r:V->Hp->VK->Prop):Prop:=
 ∀(pins:List (Addr×Obj)) (s:Shared) (σ:St) (H:Hp) (x:V) (v:Value) (Q:VK),Inv X pins σ H s->RelV x v->r x H Q ->
   wpAny (model X.prog X.w) X.A (f v) (EP X pins σ Q) X.xe s
noncomputable def CallR (X:Cx) (f:Value) (r:List V->Hp->VK->Prop):Prop:=
 ∀(pins:List (Addr×Obj)) (s:Shared) (σ:St) (H:Hp) (xs:List V) (us:List Value) (Q:VK),Inv X pins σ H s->Vals xs us->r xs H Q ->
   wpAny (model X.prog X.w) X.A (call f us) (EP X pins σ Q) X.xe s
noncomputable def tOp (r:R2) (ta tb:TE):TE:=fun σ H Q=>ta σ H λx H1=>tb σ H1 λy H2=>r x y H2 Q
noncomputable def tUn (r:V->Hp->VK->Prop) (ta:TE):TE:=fun σ H Q=>ta σ H λx H1=>r x H1 Q
noncomputable def rI (C:Int->Int->Prop) (g:Int->Int->V):R2:=λx y H Q=>∃i j,x=.int i/\y=.int j/\C i j/\Q (g i j) H
noncomputable def rI0 (g:Int->Int->V):R2:=λx y H Q=>∃i j,x=.int i/\y=.int j/\Q (g i j) H
noncomputable def rU (g:Int->V):V->Hp->VK->Prop:=λx H Q=>∃i,x=.int i/\Q (g i) H
section
variable {X:Cx}{a b c:Expr}{ta tb tc:TE}{pos:Pos}
theorem qPh (ha:PE X a ta) (hb:PE X b tb) {pins:List (Addr×Obj)}{s:Shared}{σ:St}{H:Hp}{R:V->V->Hp->Prop}(I:Inv X pins σ H s)
  (h:ta σ H λx H1=>tb σ H1 λy H2=>R x y H2) {Q:Value->Shared->Prop}{f:Value->Value->Sem Value}
  (hf:∀v u s2 x y H2,Inv X pins σ H2 s2->RelV x v->RelV y u->R x y H2->wpAny (model X.prog X.w) X.A (f v u) Q X.xe s2) :
  wpAny (model X.prog X.w) X.A (eval a X.env) (λv s₁=>wpAny (model X.prog X.w) X.A (eval b X.env) (λu s₂=>wpAny (model X.prog X.w) X.A (f v u) Q X.xe s₂) X.xe s₁) X.xe s:=by
 refine thn (ha pins s σ H _ I h) λv s1 ⟨x,H1,I1,r1,q1⟩=>?_
 refine thn (hb pins s1 σ H1 _ I1 q1) λu s2 ⟨y,H2,I2,r2,q2⟩=>?_
 exact hf v u s2 x y H2 I2 r1 r2 q2
theorem qOW {op:Operator}{r:R2}(ho:OpR X (binaryOp op) r) (ha:PE X a ta) (hb:PE X b tb):PE X (.BinOp a op b pos) (tOp r ta tb):=by
 intro pins s σ H Q I h
 exact wpAny_BinOp (qPh ha hb I h λv u s2 x y H2 I2 rx ry q=>ho pins s2 σ H2 x y v u Q I2 rx ry q)
theorem qOU {op:UnaryOp}{r:V->Hp->VK->Prop}(ho:UnR X (unaryOp op) r) (ha:PE X a ta):PE X (.UnaryOp op a pos) (tUn r ta):=by
 intro pins s σ H Q I h
 exact UnaryOp_ (thn (ha pins s σ H _ I h) λv s1 ⟨x,H1,I1,r1,q1⟩=>ho pins s1 σ H1 x v Q I1 r1 q1)
theorem opI {f:Value->Value->Sem Value}{C:Int->Int->Prop}{g:Int->Int->Int}
  (rule:∀(i j:Int) (t u:Tok) (s:Shared) (Q:Value->Shared->Prop) (E:Value->Shared->Prop),C i j->Q (.int (g i j) s.toks) { s with toks:=s.toks+1 }->wpAny (model X.prog X.w) X.A (f (.int i t) (.int j u)) Q E s) :
  OpR X f (rI C λi j=>.int (g i j)):=by
 intro pins s σ H x y v u Q I rx ry h
 obtain⟨i,j,rfl,rfl,hc,q⟩:=h
 obtain⟨t,rfl⟩:=rx
 obtain⟨t',rfl⟩:=ry
 exact rule i j t t' s _ _ hc ⟨.int (g i j),H,I.tok _,⟨_,rfl⟩,q⟩
theorem qPq {f:Value->Value->Sem Value}{g:Int->Int->Int}
  (rule:∀(i j:Int) (t u:Tok) (s:Shared) (Q:Value->Shared->Prop) (E:Value->Shared->Prop),Q (.int (g i j) s.toks) { s with toks:=s.toks+1 }->wpAny (model X.prog X.w) X.A (f (.int i t) (.int j u)) Q E s) :
  OpR X f (rI0 λi j=>.int (g i j)):=by
 intro pins s σ H x y v u Q I rx ry h
 obtain⟨i,j,rfl,rfl,q⟩:=h
 obtain⟨t,rfl⟩:=rx
 obtain⟨t',rfl⟩:=ry
 exact rule i j t t' s _ _ ⟨.int (g i j),H,I.tok _,⟨_,rfl⟩,q⟩
theorem qOu {f:Value->Value->Sem Value}{g:Int->Int->Bool}
  (rule:∀(i j:Int) (t u:Tok) (s:Shared) (Q:Value->Shared->Prop) (E:Value->Shared->Prop),Q (.bool (g i j)) s->wpAny (model X.prog X.w) X.A (f (.int i t) (.int j u)) Q E s) :
  OpR X f (rI0 λi j=>.bl (g i j)):=by
 intro pins s σ H x y v u Q I rx ry h
 obtain⟨i,j,rfl,rfl,q⟩:=h
 obtain⟨t,rfl⟩:=rx
 obtain⟨t',rfl⟩:=ry
 exact rule i j t t' s _ _ ⟨.bl (g i j),H,I,rfl,q⟩
noncomputable def qQn (i j:Int):Prop:=0<=j/\j<=1000000/\i.natAbs<2^64
noncomputable def CMul (i j:Int):Prop:=(-(2^64)<i/\i<2^64)∨(-(2^64)<j/\j<2^64)
theorem CMul.ok {i j:Int}(h:CMul i j):IntMulOk i j:=by
 rcases h with ⟨h1,h2⟩|⟨h1,h2⟩
 ·exact .of_left (intBits_le_64 h1 h2)
 ·exact .of_right (intBits_le_64 h1 h2)
theorem qFO (k:Nat):(0:Int)<=2^k:=by
 rw [two_pow_cast]
 exact Int.natCast_nonneg _
theorem op_add:OpR X (binaryOp .Add) (rI0 λi j=>.int (i+j)):=qPq λ_ _ _ _ _ _ _ q=>add_int q
theorem qNa:OpR X (binaryOp .Sub) (rI0 λi j=>.int (i - j)):=qPq λ_ _ _ _ _ _ _ q=>sub_int q
theorem qNc:OpR X (binaryOp .LShift) (rI qQn λi j=>.int (i * 2^j.toNat)):=opI λ_ _ _ _ _ _ _ hc q=>lshift_int_small hc.1 hc.2.1 hc.2.2 q
theorem qNb:OpR X (binaryOp .RShift) (rI (λ_ j=>0<=j) λi j=>.int (i / 2^j.toNat)):=opI λi j _ _ _ _ _ hc q =>
 rshift_int hc (by rw [Int.fdiv_eq_ediv_of_nonneg i (qFO _)];exact q)
theorem unI {f:Value->Sem Value}{g:Int->Int}
  (rule:∀(i:Int) (t:Tok) (s:Shared) (Q:Value->Shared->Prop) (E:Value->Shared->Prop),Q (.int (g i) s.toks) { s with toks:=s.toks+1 }->wpAny (model X.prog X.w) X.A (f (.int i t)) Q E s) :
  UnR X f (rU λi=>.int (g i)):=by
 intro pins s σ H x v Q I rx h
 obtain⟨i,rfl,q⟩:=h
 obtain⟨t,rfl⟩:=rx
 exact rule i t s _ _ ⟨.int (g i),H,I.tok _,⟨_,rfl⟩,q⟩
theorem qMh:UnR X (unaryOp .USub) (rU λi=>.int (-i)):=unI λ_ _ _ _ _ q=>neg_int q
end
section
variable {X:Cx}{a b c:Expr}{ta tb tc:TE}{pos:Pos}
theorem qO0:OpR X (compareOp .Lt) (rI0 λi j=>.bl (decide (i<j))):=qOu λ_ _ _ _ _ _ _ q=>lt_int q
theorem qO1:OpR X (compareOp .LtE) (rI0 λi j=>.bl (decide (i<=j))):=qOu λ_ _ _ _ _ _ _ q=>le_int q
theorem qO2:OpR X (compareOp .Gt) (rI0 λi j=>.bl (decide (j<i))):=qOu λ_ _ _ _ _ _ _ q=>gt_int q
theorem qO3:OpR X (compareOp .GtE) (rI0 λi j=>.bl (decide (j<=i))):=qOu λ_ _ _ _ _ _ _ q=>ge_int q
theorem OpR.or {f:Value->Value->Sem Value}{r r':R2}(h:OpR X f r) (h':OpR X f r'):OpR X f (λx y H Q=>r x y H Q∨r' x y H Q):=by
 intro pins s σ H x y v u Q I rx ry q
 rcases q with q|q
 ·exact h pins s σ H x y v u Q I rx ry q
 ·exact h' pins s σ H x y v u Q I rx ry q
theorem qNi (b:Expr) {op:CmpOp}(h:op≠.In:=by decide) (h2:op≠.NotIn:=by decide):behindInMarks op b=false:=by
 have e1:(op == CmpOp.In)=false:=by cases op<;>first|rfl|exact absurd rfl h
 have e2:(op == CmpOp.NotIn)=false:=by cases op<;>first|rfl|exact absurd rfl h2
 cases b<;>simp [behindInMarks,e1,e2]
theorem qGY {op:CmpOp}{r:R2}(ho:OpR X (compareOp op) r) (ha:PE X a ta) (hb:PE X b tb) (hm:behindInMarks op b=false):PE X (.Compare a [op] [b] pos) (tOp r ta tb):=by
 intro pins s σ H Q I h
 exact wpAny_Compare1 (qPh ha hb I h λv u s2 x y H2 I2 rx ry q=>ho pins s2 σ H2 x y v u Q I2 rx ry q) hm
noncomputable def qOD (t:TE):TT:=fun σ H Q=>t σ H λx H'=>∃k,x=.bl k/\Q k H'
theorem qGQ {op:CmpOp}{r:R2}(ho:OpR X (compareOp op) r) (ha:PE X a ta) (hb:PE X b tb) (hm:behindInMarks op b=false):PT X (.Compare a [op] [b] pos) (qOD (tOp r ta tb)):=by
 intro pins s σ H Q I h
 refine wpAny_isTrue_Compare1 (thn (ha pins s σ H _ I h) λv s1 ⟨x,H1,I1,r1,q1⟩=>thn (hb pins s1 σ H1 _ I1 q1) λu s2 ⟨y,H2,I2,r2,q2⟩ =>
  thn (ho pins s2 σ H2 x y v u _ I2 r1 r2 q2) λc s3 ⟨z,H3,I3,r3,k,e,q3⟩=>?_) hm
 subst e
 cases r3
 exact wpAny_truthy_bool ⟨H3,I3,q3⟩
theorem qHa:(sizeLine:Nat)<2^63:=by rw [sizeLine_eq];decide
theorem qF1:OpR X (binaryOp .Add) (λx y H Q=>∃i j,x=.str i/\y=.str j/\i.length+j.length<=sizeLine/\Q (.str (i++j)) H):=by
 intro pins s σ H x y v u Q I rx ry h
 obtain⟨i,j,rfl,rfl,hz,q⟩:=h
 obtain⟨t,rfl⟩:=rx
 obtain⟨t',rfl⟩:=ry
 exact add_str (λt' tk=>⟨.str (i++j),H,I.tok _,⟨_,rfl⟩,q⟩) hz
theorem qFN {x:V}{us:List Value}(r:Vals [x] us):∃u,us=[u]/\RelV x u:=by
 cases r with
 | cons r1 r2=>cases r2;exact⟨_,rfl,r1⟩
theorem qIo {x y:V}{us:List Value}(r:Vals [x,y] us):∃u w',us=[u,w']/\RelV x u/\RelV y w':=by
 cases r with
 | cons r1 r2 =>
  cases r2 with
  | cons r3 r4=>cases r4;exact⟨_,_,rfl,r1,r3⟩
theorem qHX (hc:X.calm=true):CallR X (.builtin "max") (λxs H Q=>∃i j,xs=[.int i,.int j]/\Q (.int (if j > i then j else i)) H):=by
 intro pins s σ H xs us Q I r h
 obtain⟨i,j,rfl,q⟩:=h
 obtain⟨u,w',rfl,⟨t,rfl⟩,⟨t',rfl⟩⟩:=qIo r
 refine max_two_ints (I.ok.hd hc) λh' tk k=>⟨_,H,I.kept k,?_,q⟩
 by_cases hj:j > i
 ·rw [if_pos hj,if_pos hj];exact⟨_,rfl⟩
 ·rw [if_neg hj,if_neg hj];exact⟨_,rfl⟩
theorem qHU (hc:X.calm=true):CallR X (.builtin "min") (λxs H Q=>∃i j,xs=[.int i,.int j]/\Q (.int (if j<i then j else i)) H):=by
 intro pins s σ H xs us Q I r h
 obtain⟨i,j,rfl,q⟩:=h
 obtain⟨u,w',rfl,⟨t,rfl⟩,⟨t',rfl⟩⟩:=qIo r
 refine min_two_ints (I.ok.hd hc) λh' tk k=>⟨_,H,I.kept k,?_,q⟩
 by_cases hj:j<i
 ·rw [if_pos hj,if_pos hj];exact⟨_,rfl⟩
 ·rw [if_neg hj,if_neg hj];exact⟨_,rfl⟩
theorem qEz:CallR X (.type "str") (λxs H Q=>∃i,xs=[.int i]/\i.natAbs.log2<1920/\Q (.str (toString i)) H):=by
 intro pins s σ H xs us Q I r h
 obtain⟨i,rfl,hz,q⟩:=h
 obtain⟨u,rfl,t,rfl⟩:=qFN r
 exact PySem.P.str_of_int hz ⟨.str _,H,I.tok _,⟨_,rfl⟩,q⟩
end
end L2
namespace L2
open PySem PySem.Spec PyProof.Rows
structure ObjM (h:Heap) (x dx C:Addr) (mA:Str->Option Value):Prop where
 obj:h.get? x=some (PySem.W.instObj C dx)
 ns:h.Ns1 dx mA
 ne:dx≠x
theorem qG8 {h:Heap}{dx:Addr}{mA:Str->Option Value}(n:h.Ns1 dx mA):∃od,h.get? dx=some od/\∀name,PySem.W.lookIn name od=some (mA name):=by
 obtain⟨o,es,ep,ho,hd,hk,_,hm⟩:=n
 refine⟨o,ho,λname=>?_⟩
 have e:=hm name
 unfold nsFind findBy at e
 rw [<-Array.find?_toList] at e
 unfold PySem.W.lookIn
 rw [hd]
 dsimp only
 split
 ·rename_i y q
  rw [q] at e
  exact congrArg some e
 ·rename_i q
  rw [q] at e
  have a:es.toList.any (·.refKey)=false:=by
   rw [List.any_eq_false]
   intro y hy
   obtain⟨z,t,hkey⟩:=hk y (Array.mem_toList_iff.mp hy)
   simp [DictEntry.refKey,hkey]
  have a':¬es.toList.any (·.refKey)=true:=by rw [a];exact Bool.false_ne_true
  rw [if_neg a']
  exact congrArg some e
theorem ObjM.look {h:Heap}{x dx C:Addr}{mA:Str->Option Value}(I:ObjM h x dx C mA):∃od,PySem.W.InstAt h x (PySem.W.instObj C dx) C (some od)/\∀name,PySem.W.lookIn name od=some (mA name):=
 let ⟨od,ho,hl⟩:=qG8 I.ns
 ⟨od,⟨I.obj,rfl,rfl,ho⟩,hl⟩
section
variable {prog:Program}{w:World}{A:Around}{E:Value->Shared->Prop}{s:Shared}{K:PySem.W.Frag}{x dx C f:Addr}{mA:Str->Option Value}{name:Str}{v:Value}
theorem qLG {expr:Bool}{Q:Value->Shared->Prop}(X:K.In s.heap) (I:ObjM s.heap x dx C mA) (hg:PySem.W.plainGet K C name=true) (hh:PySem.W.hasDictIn K C=true)
  (ha:PySem.W.findIn K (.ref C) name=some none) (hv:mA name=some v) (hv':PySem.W.handedIn v=true) (h:Q v { s with toks:=s.toks+1 }) :
  wpAny (model prog w) A (getAttr (.ref x) name expr) Q E s:=by
 obtain⟨od,J,hl⟩:=I.look
 exact PySem.W.get_value X J (PySem.W.plainGet_of hg).1 (PySem.W.findObj_own hh ha rfl (by rw [hl,hv])) hv' h
theorem qJh {pl:Sem Bool}{Q:Value×List Value->Shared->Prop}(X:K.In s.heap) (I:ObjM s.heap x dx C mA) (hg:PySem.W.plainGet K C name=true)
  (hf:PySem.W.findIn K (.ref C) name=some (some (.ref f))) (ht:PySem.W.isFn K (.ref f)=true) (hv:mA name=none) (h:Q (.ref f,[.ref x]) s) :
  wpAny (model prog w) A (getMethod (.ref x) name pl) Q E s:=by
 obtain⟨od,J,hl⟩:=I.look
 exact PySem.W.method_fn X J (PySem.W.plainGet_of hg).1 (PySem.W.plainGet_of hg).2 hf (beq_iff_eq.mp ht) (by show (PySem.W.lookIn name od).map (·.isSome)=some false;rw [hl,hv];rfl) h
theorem qKU {ns:List Str}{Q:Unit->Shared->Prop}(X:K.In s.heap) (I:ObjM s.heap x dx C mA)
  (hs:PySem.W.findIn K (.ref C) "__setattr__"=some (some (.builtin "object.__setattr__"))) (hp:PySem.W.plainOver K C=true) (ht:PySem.W.takerIn K C name=some none) (hh:PySem.W.hasDictIn K C=true)
  (hw:PySem.Within mA ns) (hsz:ns.length<=sizeLine)
  (h:∀h',ObjM h' x dx C (λy=>if y=name then some v else mA y)->Heap.SameBut dx s.heap h'->Q () { s with heap:=h',toks:=s.toks+2 }) :
  wpAny (model prog w) A (setAttr (.ref x) name v) Q E s:=by
 obtain⟨od,J,hl⟩:=I.look
 refine PySem.W.set_plain X J hs (PySem.W.osa_open (s:={ s with toks:=s.toks+1 }) (r:=none) X J hp ht λb=>?_)
 obtain⟨cd,hc,hd'⟩:=PySem.W.any_some hh
 have hx:s.heap.get? x=some ⟨.ref C,some dx,.plain,#[]⟩:=I.obj
 refine wpAny_bind (wpAny_pure (wpAny_bind (wpAny_bind (wpAny_loadPart hx (wpAny_bind (PySem.W.Looks.here (s:={ s with toks:=s.toks+1 }) (PySem.W.looks_clsIn X hc) ?_))))))
 rw [hd']
 refine wpAny_pure (a:=some dx) (wpAny_bind (wpAny_pure (wpAny_bind ?_)))
 refine wpAny_nsSet1 (s:={ s with toks:=s.toks+1 }) I.ns λh' hn2 hs2=>?_
 obtain⟨oD,esD,epD,hoD,hdD,hcD⟩:=hn2.count (PySem.Within.cons name v hw)
 refine wpAny_bind (wpAny_lookBehind hoD (by rw [hdD];exact pastItsLine_dict (Nat.le_trans hcD (by rw [List.length_cons];omega))) ?_)
 exact wpAny_pure (h _ ⟨(hs2.2 _ (Ne.symm I.ne)).trans I.obj,hn2,I.ne⟩ hs2)
theorem qI6 {R:Result->Shared->Prop}{vs:List Value}{kw:List (Str×Value)}(X:K.In s.heap) (hm:PySem.W.makesIn K C=true)
  (hi:PySem.W.findIn K (.ref C) "__init__"=some (some (.ref f))) (hf:PySem.W.typeIn K (.ref f)=some (.type "function"))
  (h:codeAny (model prog w) (A.under (.builtin "type.__call__" ⟨.ref C::vs,kw⟩)) (.call (.ref f) ⟨.ref (s.heap.objs.size+1)::vs,kw⟩) (PySem.W.InitBack (s.heap.objs.size+1) R)
   { s with heap:=(s.heap.push PySem.W.emptyDict).push (PySem.W.instObj C s.heap.objs.size) }) :
  codeAny (model prog w) A (.call (.ref C) ⟨vs,kw⟩) R s:=by
 obtain⟨hh,g,d,t,os⟩:=s
 exact PySem.W.make_core (PySem.W.makes_of X hm) (PySem.W.looks_findIn X hi) (λself=>PySem.W.bind_fn X self hf) (.inl rfl) h
theorem qG6 {R:Result->Shared->Prop}(X:K.In s.heap) (hm:PySem.W.makesIn K C=true)
  (hi:PySem.W.findIn K (.ref C) "__init__"=some (some (.builtin "object.__init__")))
  (hb:∀self,PySem.W.Looks (model prog w) s.heap (bindSpecial (.builtin "object.__init__") self) (.builtin "object.__init__",[self]))
  (h:codeAny (model prog w) (A.under (.builtin "type.__call__" ⟨[.ref C],[]⟩)) (.call (.builtin "object.__init__") ⟨[.ref (s.heap.objs.size+1)],[]⟩) (PySem.W.InitBack (s.heap.objs.size+1) R)
   { s with heap:=(s.heap.push PySem.W.emptyDict).push (PySem.W.instObj C s.heap.objs.size) }) :
  codeAny (model prog w) A (.call (.ref C) ⟨[],[]⟩) R s:=by
 obtain⟨hh,g,d,t,os⟩:=s
 exact PySem.W.make_core (PySem.W.makes_of X hm) (PySem.W.looks_findIn X hi) hb (.inr ⟨rfl,rfl⟩) h
end
noncomputable def qCx (f:Str) (v:V):List (Str×V)->List (Str×V)
 | []=>[(f,v)]
 | (g,x)::r=>if g=f then (g,v)::r else (g,x)::qCx f v r
theorem qBG (f g:Str) (v:V):∀fs:List (Str×V),(qCx f v fs).lookup g=if g=f then some v else fs.lookup g
 | []=>by
  show List.lookup g [(f,v)]=_
  by_cases h:g=f
  ·have hb:(g == f)=true:=beq_iff_eq.mpr h
   simp only [List.lookup,hb,if_pos h]
  ·have hb:(g == f)=false:=beq_eq_false_iff_ne.mpr h
   simp only [List.lookup,hb,if_neg h]
 | (k,x)::r=>by
  have ih:=qBG f g v r
  rw [show qCx f v ((k,x)::r)=(if k=f then (k,v)::r else (k,x)::qCx f v r) from rfl]
  by_cases hk:k=f
  ·rw [if_pos hk]
   by_cases h:g=k
   ·have hb:(g == k)=true:=beq_iff_eq.mpr h
    simp only [List.lookup,hb,if_pos (h.trans hk)]
   ·have hb:(g == k)=false:=beq_eq_false_iff_ne.mpr h
    simp only [List.lookup,hb,if_neg (λe:g=f=>h (e.trans hk.symm))]
  ·rw [if_neg hk]
   by_cases h:g=k
   ·have hb:(g == k)=true:=beq_iff_eq.mpr h
    simp only [List.lookup,hb,if_neg (λe:g=f=>hk (h.symm.trans e))]
   ·have hb:(g == k)=false:=beq_eq_false_iff_ne.mpr h
    simp only [List.lookup,hb]
    exact ih
theorem qCS (f:Str) (v:V):∀fs:List (Str×V),f∈(qCx f v fs).map (·.1)/\∀g,g∈fs.map (·.1)->g∈(qCx f v fs).map (·.1)
 | []=>⟨by simp [qCx],λg h=>by simp at h⟩
 | (k,x)::r=>by
  obtain⟨i1,i2⟩:=qCS f v r
  rw [show qCx f v ((k,x)::r)=(if k=f then (k,v)::r else (k,x)::qCx f v r) from rfl]
  by_cases hk:k=f
  ·rw [if_pos hk]
   subst hk
   exact⟨by simp,λg h=>by simpa using h⟩
  ·rw [if_neg hk]
   refine⟨?_,λg h=>?_⟩
   ·rw [List.map_cons]
    exact List.mem_cons_of_mem _ i1
   ·rw [List.map_cons] at h ⊢
    rcases List.mem_cons.mp h with e|e
    ·exact List.mem_cons.mpr (.inl e)
    ·exact List.mem_cons_of_mem _ (i2 g e)
theorem qCQ (f:Str) (v:V):∀fs:List (Str×V),(qCx f v fs).length<=fs.length+1
 | []=>by simp [qCx]
 | (k,x)::r=>by
  have ih:=qCQ f v r
  rw [show qCx f v ((k,x)::r)=(if k=f then (k,v)::r else (k,x)::qCx f v r) from rfl]
  by_cases hk:k=f
  ·rw [if_pos hk,List.length_cons,List.length_cons];omega
  ·rw [if_neg hk,List.length_cons,List.length_cons];omega
theorem RelO.some_of {v:V}{o:Option Value}(r:RelO (some v) o):∃u,o=some u/\RelV v u:=by
 cases o with
 | none=>exact (show False from r).elim
 | some u=>exact⟨u,rfl,r⟩
theorem RelO.none_of {o:Option Value}(r:RelO none o):o=none:=by
 cases o with
 | none=>rfl
 | some u=>exact (show False from r).elim
theorem qHl {v:V}{u:Value}(r:RelV v u):PySem.W.handedIn u=true:=by
 cases v with
 | non=>cases (show u=Value.none from r);rfl
 | bl b=>cases (show u=Value.bool b from r);rfl
 | int i=>obtain⟨t,e⟩:=(show ∃t,u=Value.int i t from r);cases e;rfl
 | str x=>obtain⟨t,e⟩:=(show ∃t,u=Value.str x t from r);cases e;rfl
 | byt b=>obtain⟨t,e⟩:=(show ∃t,u=Value.bytes b t from r);cases e;rfl
 | flt b=>obtain⟨t,e⟩:=(show ∃t,u=Value.float b t from r);cases e;rfl
 | ref a=>cases (show u=Value.ref a from r);rfl
 | ty n=>cases (show u=Value.type n from r);rfl
section
variable {P:Program}{w:World}{H H':Hp}{h h':Heap}{a C dx:Addr}{fs fs':List (Str×V)}
theorem qDK (hok:HOk P w H h) (e:H a=some (.ins C dx fs)):∃mA,ObjM h a dx C mA/\(∀f,RelO (fs.lookup f) (mA f))/\PySem.Within mA (fs.map (·.1))/\fs.length<=1000/\H dx=some (.own a):=by
 obtain⟨d,z,ne,ob,mA,n,r,q⟩:=(show ObjOk P w H h a (.ins C dx fs) from hok a _ e)
 exact⟨mA,⟨ob,n,ne⟩,r,q,z,d⟩
end
structure Cls (K:PySem.W.Frag) (C:Addr):Prop where
 pg:PySem.W.plainGet K C Str.empty=true
 hd:PySem.W.hasDictIn K C=true
 po:PySem.W.plainOver K C=true
 sa:PySem.W.findIn K (.ref C) "__setattr__"=some (some (.builtin "object.__setattr__"))
theorem Cls.get {K:PySem.W.Frag}{C:Addr}(c:Cls K C) (f:Str):PySem.W.plainGet K C f=true:=c.pg
noncomputable def NoAttr (K:PySem.W.Frag) (C:Addr) (f:Str):Prop:=PySem.W.findIn K (.ref C) f=some none
theorem NoAttr.taker {K:PySem.W.Frag}{C:Addr}{f:Str}(n:NoAttr K C f):PySem.W.takerIn K C f=some none:=by
 unfold PySem.W.takerIn
 rw [show PySem.W.findIn K (.ref C) f=some none from n]
 rfl
structure Con (K:PySem.W.Frag) (C:Addr) (f:Str) (v:V) (u:Value):Prop where
 at_:PySem.W.findIn K (.ref C) f=some (some u)
 rel:RelV v u
 get:PySem.W.specialIn K u "__get__"=some none
 cp:PySem.W.copiedNames.contains f=false
structure Meth (K:PySem.W.Frag) (C:Addr) (m:Str) (f:Addr):Prop where
 at_:PySem.W.findIn K (.ref C) m=some (some (.ref f))
 fn:PySem.W.isFn K (.ref f)=true
 kp:PySem.W.keepIn K (.ref f)=true
section
variable {X:Cx}{pins:List (Addr×Obj)}{σ:St}{H:Hp}{s:Shared}{a C dx:Addr}{fs:List (Str×V)}{f:Str}{v:V}{A:Around}{E:Value->Shared->Prop}
theorem qF6 {b:Bool}{Q:Value->Shared->Prop}(I:Inv X pins σ H s) (e:H a=some (.ins C dx fs)) (c:Cls X.K C) (n:NoAttr X.K C f) (l:fs.lookup f=some v)
  (h:∀u s',Inv X pins σ H s'->RelV v u->Q u s'):wpAny (model X.prog X.w) A (getAttr (.ref a) f b) Q E s:=by
 obtain⟨mA,O,r,_,_,_⟩:=qDK I.hok e
 obtain⟨u,hu,ru⟩:=RelO.some_of (v:=v) (o:=mA f) (by rw [<-l];exact r f)
 exact qLG I.kIn O (c.get f) c.hd n hu (qHl ru) (h u _ (I.tok _) ru)
theorem qDl {m:Str}{g:Addr}{pl:Sem Bool}{Q:Value×List Value->Shared->Prop}(I:Inv X pins σ H s) (e:H a=some (.ins C dx fs)) (c:Cls X.K C) (k:Meth X.K C m g) (l:fs.lookup m=none)
  (h:Q (.ref g,[.ref a]) s):wpAny (model X.prog X.w) A (getMethod (.ref a) m pl) Q E s:=by
 obtain⟨mA,O,r,_,_,_⟩:=qDK I.hok e
 have hn:mA m=none:=RelO.none_of (by rw [<-l];exact r m)
 exact qJh I.kIn O (c.get m) k.at_ k.fn hn h
theorem qFW {y:V}{u:Value}{Q:Unit->Shared->Prop}(I:Inv X pins σ H s) (e:H a=some (.ins C dx fs)) (c:Cls X.K C) (n:NoAttr X.K C f) (hl:fs.length<1000) (ry:RelV y u)
  (h:∀s',Inv X pins σ (upd H a (.ins C dx (qCx f y fs))) s'->Q () s'):wpAny (model X.prog X.w) A (setAttr (.ref a) f u) Q E s:=by
 obtain⟨mA,O,r,wi,_,ho⟩:=qDK I.hok e
 have hz:(fs.map (·.1)).length<=sizeLine:=by rw [List.length_map,sizeLine_eq];omega
 refine qKU I.kIn O c.sa c.po n.taker c.hd wi hz λh' O' sb=>h _ ?_
 have hd:∃o,h'.get? dx=some o:=let ⟨o,_,_,e',_⟩:=O'.ns;⟨o,e'⟩
 refine I.write (x:=a) (e:=dx) (by rw [e];exact True.intro) (.inr ho) (λb q hb z=>(sb.2 b hb).trans z) hd ?_
 refine⟨by rw [qAl O.ne];exact ho,?_,O.ne,O'.obj,_,O'.ns,λg=>?_,λg hg=>?_⟩
 ·have:=qCQ f y fs;omega
 ·show RelO ((qCx f y fs).lookup g) (if g=f then some u else mA g)
  rw [qBG]
  by_cases q:g=f
  ·rw [if_pos q,if_pos q];exact ry
  ·rw [if_neg q,if_neg q];exact r g
 ·by_cases q:g=f
  ·rw [q];exact (qCS f y fs).1
  ·refine (qCS f y fs).2 g (wi g λz=>hg ?_)
   show (if g=f then some u else mA g)=none
   rw [if_neg q];exact z
theorem Inv.made (I:Inv X pins σ H s):Inv X pins σ (upd (upd H s.heap.objs.size (.own (s.heap.objs.size+1))) (s.heap.objs.size+1) (.ins C s.heap.objs.size []))
  { s with heap:=(s.heap.push PySem.W.emptyDict).push (PySem.W.instObj C s.heap.objs.size) }:=by
 have e1:(s.heap.push PySem.W.emptyDict).get? s.heap.objs.size=some PySem.W.emptyDict:=Heap.get?_push_size s.heap rfl
 have e2:((s.heap.push PySem.W.emptyDict).push (PySem.W.instObj C s.heap.objs.size)).get? (s.heap.objs.size+1)=some (PySem.W.instObj C s.heap.objs.size):=by
  have:=Heap.get?_push_size (s.heap.push PySem.W.emptyDict) (o:=PySem.W.instObj C s.heap.objs.size) rfl
  rwa [Heap.size_push] at this
 have e3:(s.heap.push PySem.W.emptyDict).Ns s.heap.objs.size (λ_=>none):=⟨PySem.W.emptyDict,#[],_,e1,rfl,(λe he=>absurd he (by simp)),λ_=>rfl⟩
 have I1:=I.laid (a:=s.heap.objs.size) (o:=.own (s.heap.objs.size+1)) (h':=s.heap.push PySem.W.emptyDict) (t':=s.toks) (λb u q=>Heap.get?_push_of_some _ q) (Nat.le_refl _) ⟨_,e1⟩
 refine I1.laid (a:=s.heap.objs.size+1) (o:=.ins C s.heap.objs.size []) (t':=s.toks) (λb u q=>Heap.get?_push_of_some _ q) (Nat.le_of_eq (Heap.size_push _ _)) ?_
 have ne:s.heap.objs.size≠s.heap.objs.size+1:=Nat.ne_of_lt (Nat.lt_succ_self _)
 refine⟨by rw [qAl ne,qAG],Nat.zero_le _,ne,e2,λ_=>none,(Heap.Ns1.of_empty e3).at λo q=>Heap.get?_push_of_some _ q,λ_=>True.intro,λy hy=>absurd rfl hy⟩
theorem qL0 {prog:Program}{w:World}{env:Env}{e:Expr}{f:Str}{pos:Pos}{s:Shared}{Q:Value->Shared->Prop}(hb:attributeBase e f env (eval e env)=eval e env)
  (h:wpAny (model prog w) A (eval e env) (λo s₁=>wpAny (model prog w) A (getAttr o f true) Q E s₁) E s):wpAny (model prog w) A (eval (.Attribute e f pos) env) Q E s:=
 Attribute_any_ h (by rw [arm_eval_Attribute,hb])
end
noncomputable def qPO (K:PySem.W.Frag) (ta:TE) (f:Str):TE:=fun σ H Q=>ta σ H λx H1=>∃a C dx fs v,x=.ref a/\H1 a=some (.ins C dx fs)/\Cls K C/\NoAttr K C f/\fs.lookup f=some v/\Q v H1
noncomputable def qPT (K:PySem.W.Frag) (ta tv:TE) (f:Str):TS:=λD σ H=>tv σ H λy H1=>ta σ H1 λx H2=>∃a C dx fs,x=.ref a/\H2 a=some (.ins C dx fs)/\Cls K C/\NoAttr K C f/\fs.length<1000 /\
 D.nx σ (upd H2 a (.ins C dx (qCx f y fs)))
section
variable {X:Cx}{o e value:Expr}{f:Str}{pos pos' tpos:Pos}{ta tv:TE}
theorem qM4 (he:PE X e ta) (hb:attributeBase e f X.env (eval e X.env)=eval e X.env):PE X (.Attribute e f pos) (qPO X.K ta f):=by
 intro pins s σ H Q I h
 refine qL0 hb (thn (he pins s σ H _ I h) λu s1 ⟨x,H1,I1,rx,a,C,dx,fs,v,ex,ea,c,n,l,q⟩=>?_)
 subst ex
 obtain rfl:u=Value.ref a:=rx
 exact qF6 I1 ea c n l λu' s2 I2 ru=>⟨v,H1,I2,ru,q⟩
theorem qMT (ha:PE X o ta) (hv:PE X value tv) (hs:swapsWith value (some (.Attribute o f pos')) pos.line X.env=pure false):PS X (.Assign [.Attribute o f pos'] value pos) (qPT X.K ta tv f):=by
 intro pins s σ H D I h
 refine plainObj_wpAny_Assign_Attribute (thn (hv pins s σ H _ I h) λu s1 ⟨y,H1,I1,ry,q⟩=>thn (ha pins s1 σ H1 _ I1 q) λov s2 ⟨x,H2,I2,rx,a,C,dx,fs,ex,ea,c,n,l,q2⟩=>?_) hs
 subst ex
 obtain rfl:ov=Value.ref a:=rx
 exact qFW I2 ea c n l ry λs3 I3=>⟨σ,_,I3,q2⟩
end
section
variable {X:Cx}{pins:List (Addr×Obj)}{σ:St}{H:Hp}{s:Shared}{A:Around}{E:Value->Shared->Prop}{Q:Value->Shared->Prop}{c:Value}{b:Bool}
inductive TyOf (K:PySem.W.Frag) (H:Hp):V->Value->Prop where
 | non:TyOf K H .non (.type "NoneType")
 | bl (x:Bool):TyOf K H (.bl x) (.type "bool")
 | int (i:Int):TyOf K H (.int i) (.type "int")
 | str (x:Str):TyOf K H (.str x) (.type "str")
 | flt (x:UInt64):TyOf K H (.flt x) (.type "float")
 | lst {a:Addr} {xs:List V} (e:H a=some (.lst xs)):TyOf K H (.ref a) (.type "list")
 | frz {a:Addr} {o:Obj} {xs:List V} (e:H a=some (.frz o (.lst xs))):TyOf K H (.ref a) (.type "list")
 | tup {a:Addr} {xs:List V} (e:H a=some (.tup xs)):TyOf K H (.ref a) (.type "tuple")
 | dK {a:Addr} {kvs:List (Key×V)} (e:H a=some (.dK kvs)):TyOf K H (.ref a) (.type "dict")
 | dT {a:Addr} {kvs:List (List Key×V)} (e:H a=some (.dT kvs)):TyOf K H (.ref a) (.type "dict")
 | ins {a C dx:Addr} {fs:List (Str×V)} (e:H a=some (.ins C dx fs)) (cl:Cls K C) (ha:PySem.W.findIn K (.ref C) "__class__"=some (some (.builtin "object.__class__")))
   (hn:PySem.W.specialIn K (.builtin "object.__class__") "__get__"=some (some (.builtin "getset_descriptor.__get__"))) (htk:PySem.W.takesIn K (.builtin "object.__class__")=some true)
   (hm:PySem.W.mroIn K C (.type "object")=some true):TyOf K H (.ref a) (.ref C)
theorem qHh {x:V}{u t:Value}(I:Inv X pins σ H s) (rx:RelV x u) (ty:TyOf X.K H x t) (e:PySem.W.kitOne X.K t c=some b) (h:∀tk,Q (.bool b) { s with toks:=tk }) :
  wpAny (model X.prog X.w) A (call (.builtin "isinstance") [u,c]) Q E s:=by
 cases ty with
 | non=>cases (show u=Value.none from rx);exact PySem.W.kia_one PySem.W.kitx_none I.kIn True.intro e (λz=>nomatch z) h
 | bl y=>cases (show u=Value.bool y from rx);exact PySem.W.kia_one PySem.W.kitx_bool I.kIn True.intro e (λz=>nomatch z) h
 | int i=>obtain⟨t,q⟩:=(show ∃t,u=Value.int i t from rx);cases q;exact PySem.W.kia_one PySem.W.kitx_int I.kIn True.intro e (λz=>nomatch z) h
 | str y=>obtain⟨t,q⟩:=(show ∃t,u=Value.str y t from rx);cases q;exact PySem.W.kia_one PySem.W.kitx_str I.kIn True.intro e (λz=>nomatch z) h
 | flt y=>obtain⟨t,q⟩:=(show ∃t,u=Value.float y t from rx);cases q;exact PySem.W.kia_one PySem.W.kitx_float I.kIn True.intro e (λz=>nomatch z) h
 | @lst a xs ea =>
  cases (show u=Value.ref a from rx)
  obtain⟨_,_,n,_,h1⟩:=(show ObjOk X.prog X.w H s.heap a (.lst xs) from I.hok a _ ea)
  exact PySem.W.kia_one PySem.W.kitx_list I.kIn ⟨_,h1,rfl⟩ e (λz=>nomatch z) h
 | @frz a ob xs ea =>
  cases (show u=Value.ref a from rx)
  obtain⟨_,_,_,n,_,h1⟩:=(show ObjOk X.prog X.w H s.heap a (.frz ob (.lst xs)) from I.hok a _ ea)
  exact PySem.W.kia_one PySem.W.kitx_list I.kIn ⟨_,h1,rfl⟩ e (λz=>nomatch z) h
 | @tup a xs ea =>
  cases (show u=Value.ref a from rx)
  obtain⟨_,_,_,p⟩:=(show ObjOk X.prog X.w H s.heap a (.tup xs) from I.hok a _ ea)
  obtain⟨o,h1,h2,_⟩:=p
  exact PySem.W.kia_one PySem.W.kitx_tuple I.kIn ⟨o,h1,h2⟩ e (λz=>nomatch z) h
 | @dK a kvs ea =>
  cases (show u=Value.ref a from rx)
  obtain⟨_,_,vs,_,p⟩:=(show ObjOk X.prog X.w H s.heap a (.dK kvs) from I.hok a _ ea)
  obtain⟨o,es,ep,h1,h2,_⟩:=p
  exact PySem.W.kia_one PySem.W.kitx_dict I.kIn ⟨o,h1,h2.1⟩ e (λz=>nomatch z) h
 | @dT a kvs ea =>
  cases (show u=Value.ref a from rx)
  obtain⟨_,_,xs,_,o,es,ep,h1,h2,_⟩:=(show ObjOk X.prog X.w H s.heap a (.dT kvs) from I.hok a _ ea)
  exact PySem.W.kia_one PySem.W.kitx_dict I.kIn ⟨o,h1,h2.1⟩ e (λz=>nomatch z) h
 | @ins a C dx fs ea cl ha hn htk hm =>
  cases (show u=Value.ref a from rx)
  obtain⟨mA,O,_⟩:=qDK I.hok ea
  obtain⟨od,J,_⟩:=O.look
  exact PySem.W.kia_one (PySem.W.kitx_own (cl.get _) cl.hd ha hn htk hm) I.kIn J e (λz=>nomatch z) h
end
end L2
namespace L2
open PySem PySem.Spec PyProof.Rows
structure Room (k:Nat) (A:Around):Prop where
 hd:A.handled=none
 dp:A.depth+3 * k+5<recursionLimit
 un:A.units+16 * k+200<cLine
theorem Room.mono {j k:Nat}{A:Around}(r:Room k A) (h:j<=k):Room j A:=⟨r.hd,by have:=r.dp;omega,by have:=r.un;omega⟩
theorem Room.deeper {k:Nat}{A:Around}(r:Room (k+1) A) (env:Env):Room k (A.deeper env):=
 ⟨r.hd,by have:=r.dp;show A.depth+1+3 * k+5<_;omega,by have:=r.un;show A.units+3+16 * k+200<_;omega⟩
theorem Room.in1 {k:Nat}{A:Around}(r:Room (k+1) A):Room k A.in1:=
 ⟨r.hd,by have:=r.dp;show A.depth+3 * k+5<_;omega,by have:=r.un;show A.units+1+16 * k+200<_;omega⟩
theorem qF3 {A:Around}{C:Addr}{us:List Value}{kw:List (Str×Value)}:(A.under (.builtin "type.__call__" ⟨.ref C::us,kw⟩)).depth=A.depth+1:=by
 first|rfl|simp [Around.under,Code.weight,Code.isCreation,Code.isGuard,Code.isCaller,Code.frames,Code.isFrame,guardIds]
theorem qF2 {A:Around}{C:Addr}{us:List Value}{kw:List (Str×Value)}:(A.under (.builtin "type.__call__" ⟨.ref C::us,kw⟩)).units=A.units+1:=by
 first|rfl|simp [Around.under,Code.cUnits,Code.frames,Code.isFrame]
theorem Room.make {k:Nat}{A:Around}(r:Room (k+1) A) (C:Addr) (us:List Value) (kw:List (Str×Value)):Room k (A.under (.builtin "type.__call__" ⟨.ref C::us,kw⟩)):=
 ⟨r.hd,by have:=r.dp;rw [qF3];omega,by have:=r.un;rw [qF2];omega⟩
theorem Room.depth {k:Nat}{A:Around}(r:Room k A):A.depth<recursionLimit:=by have:=r.dp;omega
theorem Room.units {k:Nat}{A:Around}(r:Room k A):A.units+64<cLine:=by have:=r.un;omega
noncomputable def qOq:TA:=λ_ H Q=>Q [] H
noncomputable def qMv (ta:TE) (tr:TA):TA:=fun σ H Q=>ta σ H λx H1=>tr σ H1 λxs H2=>Q (x::xs) H2
section
variable {X:Cx}{e:Expr}{es:List Expr}{te:TE}{t:TA}{pos:Pos}
theorem qCo:PA X [] qOq:=λ_ _ _ _ H Q I h=>Calls.spliced_nil ⟨[],H,I,.nil,h⟩
theorem qBl (ha:PE X e te) (hr:PA X es t) (hs:starEach (e::es) X.env=(false,eval e X.env)::starEach es X.env:=by rfl):PA X (e::es) (qMv te t):=by
 intro pos pins s σ H Q I h
 rw [hs]
 show wpAny _ _ (spliced ((false,eval e X.env)::backTo pos (starEach es X.env))) _ _ s
 refine Calls.spliced_cons (thn (ha pins s σ H _ I h) λu s1 ⟨x,H1,I1,r1,q1⟩=>?_)
 exact thn (hr pos pins s1 σ H1 _ I1 q1) λus s2 ⟨xs,H2,I2,r2,q2⟩=>⟨x::xs,H2,I2,.cons r1 r2,q2⟩
noncomputable def qPG (t:TA):TE:=fun σ H Q=>t σ H λxs H1=>xs.length<=sizeLine/\∀p,H1 p=none->Q (.ref p) (upd H1 p (.tup xs))
noncomputable def qPL (t:TA):TE:=fun σ H Q=>t σ H λxs H1=>xs.length<=sizeLine/\∀p,H1 p=none->Q (.ref p) (upd H1 p (.lst xs))
theorem qMY {x1}(h:PA X es t):PE X (.Tuple es x1 pos) (qPG t):=by
 intro pins s σ H Q I hq
 refine wpAny_Tuple_spliced (thn (h pos pins s σ H _ I hq) λus s1 ⟨xs,H1,I1,r,z,q⟩=>⟨by rw [<-r.length];exact z,?_⟩)
 have hf:H1 s1.heap.objs.size=none:=I1.hok.fresh (Nat.le_refl _)
 refine⟨.ref s1.heap.objs.size,upd H1 s1.heap.objs.size (.tup xs),I1.laid (t':=s1.toks) (λb u e=>Heap.get?_push_of_some _ e) (Nat.le_refl _) ?_,rfl,q _ hf⟩
 exact⟨z,us,r,⟨_,Heap.get?_push_size _ rfl,rfl,_,rfl⟩⟩
theorem qM2 (h:PA X es t):PE X (.List es pos) (qPL t):=by
 intro pins s σ H Q I hq
 refine wpAny_List_spliced (thn (h pos pins s σ H _ I hq) λus s1 ⟨xs,H1,I1,r,z,q⟩=>⟨by rw [<-r.length];exact z,?_⟩)
 have hf:H1 s1.heap.objs.size=none:=I1.hok.fresh (Nat.le_refl _)
 refine⟨.ref s1.heap.objs.size,upd H1 s1.heap.objs.size (.lst xs),I1.laid (t':=s1.toks) (λb u e=>Heap.get?_push_of_some _ e) (Nat.le_refl _) ?_,rfl,q _ hf⟩
 exact⟨z,us,0,r,Heap.get?_push_size _ rfl⟩
end
noncomputable abbrev Sp:=List V->Hp->VK->XK->Prop
noncomputable abbrev CXT:=List Env->Hp->Shared->XK->Value->Shared->Prop
structure Env0 (P:Program) (w:World) (K:PySem.W.Frag) (mg:Str->Option Value) (base:Heap) (A:Around) (outer:List Env) (s:Shared) (H:Hp):Prop where
 frames:A.frames=some outer
 mod:Mod K mg base
 bs:∀b o,base.get? b=some o->s.heap.get? b=some o/\H b=none
 bsz:base.objs.size<=s.heap.objs.size
 funs:s.heap.FunFrames base outer
 frf:∀b∈frs outer,H b=none
 hok:HOk P w H s.heap
 bare:AllBare s.gens
noncomputable def CE (outer:List Env) (P:Program) (w:World) (H:Hp) (s:Shared) (Q:VK) (u:Value) (s':Shared):Prop:=
 ∃v H',s'.os=s.os/\AllBare s'.gens/\Un (frs outer) [] H H' s.heap s'.heap/\HOk P w H' s'.heap/\RelV v u/\Q v H'
noncomputable def CR (CX:CXT) (outer:List Env) (P:Program) (w:World) (H:Hp) (s:Shared) (Q:VK) (E:XK) (r:Result) (s':Shared):Prop:=
 match r with
 | .ok (.ret u)=>CE outer P w H s Q u s'
 | .ok _=>False
 | .error e=>CX outer H s E e s'
structure FnOk (P:Program) (w:World) (K:PySem.W.Frag) (mg:Str->Option Value) (base:Heap) (CX:CXT) (k:Nat) (f:Addr) (fd:FuncData) (ps:List Str) (sp:Sp):Prop where
 len:∀vs H Q E,sp vs H Q E->vs.length=ps.length
 run:∀(A:Around) (outer:List Env) (s:Shared) (H:Hp) (args:Args) (us:List Value) (vs:List V) (Q:VK) (E:XK),Room k A->Env0 P w K mg base A outer s H->BindsTo s fd args (ps.zip us)->Vals vs us->sp vs H Q E ->
  codeAny (model P w) A (.call (.ref f) args) (CR CX outer P w H s Q E) s
theorem FnOk.mono {P:Program}{w:World}{K:PySem.W.Frag}{mg:Str->Option Value}{base:Heap}{CX:CXT}{j k:Nat}{f:Addr}{fd:FuncData}{ps:List Str}{sp:Sp}(F:FnOk P w K mg base CX j f fd ps sp) (h:j<=k) :
  FnOk P w K mg base CX k f fd ps sp:=⟨F.len,λA outer s H args us vs Q E hr=>F.run A outer s H args us vs Q E (hr.mono h)⟩
theorem FnOk.imp {P:Program}{w:World}{K:PySem.W.Frag}{mg:Str->Option Value}{base:Heap}{CX:CXT}{k:Nat}{f:Addr}{fd:FuncData}{ps:List Str}{sp sp':Sp}(F:FnOk P w K mg base CX k f fd ps sp)
  (h:∀vs H Q E,sp' vs H Q E->sp vs H Q E):FnOk P w K mg base CX k f fd ps sp':=
 ⟨λvs H Q E q=>F.len vs H Q E (h _ _ _ _ q),λA outer s H args us vs Q E hr he hb hv hs=>F.run A outer s H args us vs Q E hr he hb hv (h _ _ _ _ hs)⟩
theorem Env0.make {P:Program}{w:World}{K:PySem.W.Frag}{mg:Str->Option Value}{base:Heap}{A:Around}{outer:List Env}{s:Shared}{H:Hp}(e:Env0 P w K mg base A outer s H) (C:Addr) (us:List Value) (kw:List (Str×Value)) :
  Env0 P w K mg base (A.under (.builtin "type.__call__" ⟨.ref C::us,kw⟩)) outer s H:=⟨by first|exact e.frames|(simpa [Around.under,Code.envs,Code.isFrame,pushEnvs] using e.frames),e.mod,e.bs,e.bsz,e.funs,e.frf,e.hok,e.bare⟩
theorem Env0.in1 {P:Program}{w:World}{K:PySem.W.Frag}{mg:Str->Option Value}{base:Heap}{A:Around}{outer:List Env}{s:Shared}{H:Hp}(e:Env0 P w K mg base A outer s H) :
  Env0 P w K mg base A.in1 outer s H:=⟨e.frames,e.mod,e.bs,e.bsz,e.funs,e.frf,e.hok,e.bare⟩
section
variable {X:Cx}{pins:List (Addr×Obj)}{σ:St}{H:Hp}{s s':Shared}
theorem Inv.env0 (I:Inv X pins σ H s):Env0 X.prog X.w X.K X.mg X.base X.A X.stack s H:=
 ⟨I.ok.frames,I.ok.mod,I.bs,Nat.le_trans I.ok.bsz I.sz,I.stack,I.stkFree,I.hok,I.bare⟩
theorem Inv.after {Q:VK}{u:Value}(I:Inv X pins σ H s) (h:CE X.stack X.prog X.w H s Q u s'):EP X pins σ Q u s':=by
 obtain⟨v,H',os,bare,un,hok,r,q⟩:=h
 obtain⟨hh,g,d,t,os'⟩:=s'
 obtain rfl:os'=s.os:=os
 exact⟨v,H',I.call (h':=hh) (g':=g) (d':=d) (t':=t) (ch:=[]) un hok bare (λb z=>absurd z (by simp)),r,q⟩
end
noncomputable def qOI (sp:Sp) (dvs:List V) (E:XK) (t:TA):TE:=fun σ H Q=>t σ H λvs H1=>sp (vs++dvs) H1 Q E
noncomputable def qMt (C:Addr) (m:Str) (sp:Sp) (dvs:List V) (E:XK) (ta:TE) (t:TA):TE:=fun σ H Q=>ta σ H λx H1=>∃a dx fs,x=.ref a/\H1 a=some (.ins C dx fs)/\fs.lookup m=none /\
 t σ H1 λvs H2=>sp (x::(vs++dvs)) H2 Q E
noncomputable def qMu (C:Addr) (sp:Sp) (dvs:List V) (E:XK) (t:TA):TE:=fun σ H Q=>t σ H λvs H1=>∀x dx,H1 x=none->H1 dx=none->dx≠x ->
 sp (.ref x::(vs++dvs)) (upd (upd H1 dx (.own x)) x (.ins C dx [])) (λv H2=>v=.non/\Q (.ref x) H2) E
noncomputable def Binds (K:PySem.W.Frag) (fd:FuncData) (ps:List Str) (ds:List Value):Prop:=
 ∀(s:Shared) (us:List Value),K.In s.heap->(us++ds).length=ps.length->BindsTo s fd ⟨us,[]⟩ (ps.zip (us++ds))
theorem Binds.all {K:PySem.W.Frag}{fd:FuncData}{ps:List Str}(h:∀us:List Value,us.length=ps.length->bindArgs fd ⟨us,[]⟩=pure (ps.zip us)):Binds K fd ps []:=λs us _ hl=>by
 rw [List.append_nil] at hl ⊢
 exact .of_eq (h us hl)
noncomputable def qCs (CX:CXT) (X:Cx) (E:XK):Prop:=∀(pins:List (Addr×Obj)) (σ:St) (H:Hp) (s:Shared) (e:Value) (s':Shared),Inv X pins σ H s->CX X.stack H s E e s'->X.xe e s'
section
variable {X:Cx}{CX:CXT}{k:Nat}{f C:Addr}{fd:FuncData}{ps:List Str}{sp:Sp}{dvs:List V}{ds:List Value}{E:XK}{x m:Str}{p pos apos:Pos}{e o:Expr}{es:List Expr}{ta:TE}{t:TA}
theorem qGN {pins:List (Addr×Obj)}{σ:St}{H:Hp}{s:Shared}{Q:VK}{us:List Value}{vs:List V}(F:FnOk X.prog X.w X.K X.mg X.base CX k f fd ps sp) (hr:Room k X.A) (hb:Binds X.K fd ps ds) (hd:Vals dvs ds) (hx:qCs CX X E)
  (I:Inv X pins σ H s) (r:Vals vs us) (h:sp (vs++dvs) H Q E):wpAny (model X.prog X.w) X.A (call (.ref f) us) (EP X pins σ Q) X.xe s:=by
 have r2:Vals (vs++dvs) (us++ds):=r.append hd
 have hl:(us++ds).length=ps.length:=by rw [<-r2.length];exact F.len _ _ _ _ h
 refine wpAny_call (codeAny_mono (F.run X.A X.stack s H ⟨us,[]⟩ (us++ds) (vs++dvs) Q E hr I.env0 (hb s us I.kIn hl) r2 h) λr s' hq=>?_)
 cases r with
 | error e=>exact hx pins σ H s e s' I hq
 | ok fl =>
  cases fl with
  | ret u=>exact I.after hq
  | next=>exact False.elim hq
  | brk=>exact False.elim hq
  | cont=>exact False.elim hq
theorem qG0 (F:FnOk X.prog X.w X.K X.mg X.base CX k f fd ps sp) (hr:Room k X.A) (hg:Gl X x) (hm:X.mg x=some (.ref f)) (hk:PySem.W.keepIn X.K (.ref f)=true) (hb:Binds X.K fd ps ds) (hd:Vals dvs ds) (hx:qCs CX X E)
  (ha:PA X (e::es) t) (hdb:(x == ("__debug__":Str))=false:=by decide) (he:starEach (e::es) X.env=(false,eval e X.env)::starEach es X.env:=by rfl) (hpl:(backTo pos (starEach es X.env)).any (·.1)=false:=by rfl) :
  PE X (.Call (.Name x p) (e::es) [] pos) (qOI sp dvs E t):=by
 intro pins s σ H Q I h
 refine wpAny_Call_Name_kw (qCR I hg hm ?_ hdb)
 refine PySem.W.callWith_K (h₀:=X.base) I.ok.mod.kin hk (thn (ha pos pins s σ H _ I h) λus s1 ⟨vs,H1,I1,r,q⟩=>⟨I1.kIn,?_⟩) he hpl
 exact qGN F hr hb hd hx I1 r q
theorem qK4 {pl:Sem Bool}(he:PE X o ta) (c:Cls X.K C) (hm:Meth X.K C m f) (F:FnOk X.prog X.w X.K X.mg X.base CX k f fd ps sp) (hr:Room k X.A) (hb:Binds X.K fd ps ds) (hd:Vals dvs ds) (hx:qCs CX X E) (ha:PA X (e::es) t)
  (hst:starEach (e::es) X.env=(false,eval e X.env)::starEach es X.env:=by rfl) (hpl:(backTo pos (starEach es X.env)).any (·.1)=false:=by rfl)
  (ht:eval (.Call (.Attribute o m apos) (e::es) [] pos) X.env=(do
   let ov <-eval o X.env
   standAt apos.atName
   let (f,first) <-holding [ov] (getMethod ov m pl)
   callWith pos f first (backTo pos (starEach (e::es) X.env)) (backToKw pos (keywordEach [] X.env))):=by rfl) :
  PE X (.Call (.Attribute o m apos) (e::es) [] pos) (qMt C m sp dvs E ta t):=by
 intro pins s σ H Q I h
 refine PySem.W.methodCall_KW (pl:=pl) (thn (he pins s σ H _ I h) λu s1 ⟨x,H1,I1,rx,a,dx,fs,ex,ea,l,q⟩=>?_) ht
 subst ex
 obtain rfl:u=Value.ref a:=rx
 refine qDl I1 ea c hm l ?_
 refine PySem.W.callWith_K (first:=[.ref a]) (h₀:=X.base) I.ok.mod.kin hm.kp (thn (ha pos pins s1 σ H1 _ I1 q) λus s2 ⟨vs,H2,I2,r,q2⟩=>⟨I2.kIn,?_⟩) hst hpl
 exact qGN (us:=.ref a::us) (vs:=.ref a::vs) F hr hb hd hx I2 (.cons rfl r) q2
theorem qIQ {pl:Sem Bool}(he:PE X o ta) (c:Cls X.K C) (hm:Meth X.K C m f) (F:FnOk X.prog X.w X.K X.mg X.base CX k f fd ps sp) (hr:Room k X.A) (hb:Binds X.K fd ps ds) (hd:Vals dvs ds) (hx:qCs CX X E)
  (ht:eval (.Call (.Attribute o m apos) [] [] pos) X.env=(do
   let ov <-eval o X.env
   standAt apos.atName
   let (f,first) <-holding [ov] (getMethod ov m pl)
   callWith pos f first (backTo pos (starEach [] X.env)) (backToKw pos (keywordEach [] X.env))):=by rfl) :
  PE X (.Call (.Attribute o m apos) [] [] pos) (qMt C m sp dvs E ta qOq):=by
 intro pins s σ H Q I h
 refine PySem.W.methodCall_KW (pl:=pl) (thn (he pins s σ H _ I h) λu s1 ⟨x,H1,I1,rx,a,dx,fs,ex,ea,l,q⟩=>?_) ht
 subst ex
 obtain rfl:u=Value.ref a:=rx
 refine qDl I1 ea c hm l ?_
 exact PySem.W.callWith_K0 (first:=[.ref a]) I1.kIn hm.kp (qGN (us:=[.ref a]) (vs:=[.ref a]) F hr hb hd hx I1 (.cons rfl .nil) q)
structure Mk (K:PySem.W.Frag) (C f:Addr):Prop where
 makes:PySem.W.makesIn K C=true
 init:PySem.W.findIn K (.ref C) "__init__"=some (some (.ref f))
 fn:PySem.W.isFn K (.ref f)=true
 kp:PySem.W.keepIn K (.ref C)=true
theorem qFn {pins:List (Addr×Obj)}{σ:St}{H:Hp}{s:Shared}{Q:VK}{us:List Value}{vs:List V}(M:Mk X.K C f) (F:FnOk X.prog X.w X.K X.mg X.base CX k f fd ps sp) (hr:Room (k+1) X.A) (hb:Binds X.K fd ps ds) (hd:Vals dvs ds)
  (hx:qCs CX X E) (I:Inv X pins σ H s) (r:Vals vs us)
  (h:∀x dx,H x=none->H dx=none->dx≠x->sp (.ref x::(vs++dvs)) (upd (upd H dx (.own x)) x (.ins C dx [])) (λv H2=>v=.non/\Q (.ref x) H2) E) :
  wpAny (model X.prog X.w) X.A (call (.ref C) us) (EP X pins σ Q) X.xe s:=by
 have hq:=h (s.heap.objs.size+1) s.heap.objs.size (I.hok.fresh (Nat.le_succ _)) (I.hok.fresh (Nat.le_refl _)) (Nat.ne_of_lt (Nat.lt_succ_self _))
 have I2:=Inv.made (C:=C) I
 have r2:Vals (V.ref (s.heap.objs.size+1)::(vs++dvs)) (Value.ref (s.heap.objs.size+1)::(us++ds)):=.cons rfl (r.append hd)
 have hl:(Value.ref (s.heap.objs.size+1)::us++ds).length=ps.length:=by
  have e:=r2.length
  rw [F.len _ _ _ _ hq] at e
  exact e.symm
 refine wpAny_call (qI6 (f:=f) I.kIn M.makes M.init (beq_iff_eq.mp M.fn) (codeAny_mono (F.run _ X.stack _ _ ⟨Value.ref (s.heap.objs.size+1)::us,[]⟩ (Value.ref (s.heap.objs.size+1)::(us++ds)) _ _ E (hr.make C us [])
  (I2.env0.make C us []) (hb _ (Value.ref (s.heap.objs.size+1)::us) I2.kIn hl) r2 hq) λr s' hq'=>?_))
 cases r with
 | error e=>exact hx pins σ _ _ e s' I2 hq'
 | ok fl =>
  cases fl with
  | ret u =>
   obtain⟨v,H',I3,rv,ev,q3⟩:=I2.after hq'
   subst ev
   exact⟨rv,⟨V.ref (s.heap.objs.size+1),H',I3,rfl,q3⟩⟩
  | next=>exact False.elim hq'
  | brk=>exact False.elim hq'
  | cont=>exact False.elim hq'
theorem qK5 (M:Mk X.K C f) (F:FnOk X.prog X.w X.K X.mg X.base CX k f fd ps sp) (hr:Room (k+1) X.A) (hg:Gl X x) (hm:X.mg x=some (.ref C)) (hb:Binds X.K fd ps ds) (hd:Vals dvs ds) (hx:qCs CX X E)
  (ha:PA X (e::es) t) (hdb:(x == ("__debug__":Str))=false:=by decide) (he:starEach (e::es) X.env=(false,eval e X.env)::starEach es X.env:=by rfl) (hpl:(backTo pos (starEach es X.env)).any (·.1)=false:=by rfl) :
  PE X (.Call (.Name x p) (e::es) [] pos) (qMu C sp dvs E t):=by
 intro pins s σ H Q I h
 refine wpAny_Call_Name_kw (qCR I hg hm ?_ hdb)
 refine PySem.W.callWith_K (h₀:=X.base) I.ok.mod.kin M.kp (thn (ha pos pins s σ H _ I h) λus s1 ⟨vs,H1,I1,r,q⟩=>⟨I1.kIn,?_⟩) he hpl
 exact qFn M F hr hb hd hx I1 r q
theorem qIS (M:Mk X.K C f) (F:FnOk X.prog X.w X.K X.mg X.base CX k f fd ps sp) (hr:Room (k+1) X.A) (hg:Gl X x) (hm:X.mg x=some (.ref C)) (hb:Binds X.K fd ps ds) (hd:Vals dvs ds) (hx:qCs CX X E)
  (hdb:(x == ("__debug__":Str))=false:=by decide):PE X (.Call (.Name x p) [] [] pos) (qMu C sp dvs E qOq):=by
 intro pins s σ H Q I h
 refine wpAny_Call_Name_kw (qCR I hg hm ?_ hdb)
 exact PySem.W.callWith_K0 I.kIn M.kp (qFn (us:=[]) M F hr hb hd hx I .nil h)
end
noncomputable def PK (X:Cx) (kws:List Keyword) (t:TA):Prop:=
 ∀(pos:Pos) (pins:List (Addr×Obj)) (s:Shared) (σ:St) (H:Hp) (Q:List V->Hp->Prop),Inv X pins σ H s->t σ H Q->wpAny (model X.prog X.w) X.A (evalAll ((backToKw pos (keywordEach kws X.env)).map (·.2))) (AP X pins σ Q) X.xe s
section
variable {X:Cx}{CX:CXT}{k:Nat}{f C:Addr}{fd:FuncData}{ps ks:List Str}{sp:Sp}{E:XK}{x m:Str}{p pos apos kpos:Pos}{e o:Expr}{es:List Expr}{kws:List Keyword}{te ta:TE}{t tk:TA}{nm:Option Str}
theorem qMV:PK X [] qOq:=λ_ _ _ _ H Q I h=>wpAny_evalAll_nil ⟨[],H,I,.nil,h⟩
theorem qK2 (ha:PE X e te) (hr:PK X kws t):PK X (⟨nm,e,kpos⟩::kws) (qMv te t):=by
 intro pos pins s σ H Q I h
 show wpAny _ _ (evalAll ((do let v <-eval e X.env;standAt pos;pure v)::(backToKw pos (keywordEach kws X.env)).map (·.2))) _ _ s
 refine wpAny_evalAll_cons (wpAny_bind (thn (ha pins s σ H _ I h) λu s1 ⟨x,H1,I1,r1,q1⟩=>wpAny_bind (wpAny_standAt (wpAny_pure ?_))))
 exact thn (hr pos pins s1 σ H1 _ I1 q1) λus s2 ⟨xs,H2,I2,r2,q2⟩=>⟨x::xs,H2,I2,.cons r1 r2,q2⟩
structure KBinds (K:PySem.W.Frag) (fd:FuncData) (ps ks:List Str) (g:List Value->List Value->List Value) (gV:List V->List V->List V):Prop where
 to:∀(s:Shared) (us ws:List Value),K.In s.heap->(g us ws).length=ps.length->BindsTo s fd ⟨us,ks.zip ws⟩ (ps.zip (g us ws))
 rel:∀{vs:List V} {us:List Value} {zs:List V} {ws:List Value},Vals vs us->Vals zs ws->Vals (gV vs zs) (g us ws)
variable {g:List Value->List Value->List Value}{gV:List V->List V->List V}
end
structure FnScope (N P:List Str) (sc:Scope):Prop where
 kind:sc.kind=.function
 co:sc.isCoroutine=false
 gen:sc.isGenerator=false
 nd:N.Nodup
 pre:N.take P.length=P
 par:∀x∈P,sc.names.lookup x=some .local∨sc.names.lookup x=some .cell
 nofree:∀y∈sc.names,y.2≠.free
theorem qEC {kindOf:Str->Option NameKind}{x:Str}:∀{binds:List (Str×Value)}{m:Str->Option Value},(∀v,(x,v)∉binds)->bindL kindOf binds m x=m x
 | [],_,_=>rfl
 | (n,v)::r,m,h=>by
  unfold bindL
  rw [qEC λw hw=>h w (List.mem_cons_of_mem _ hw)]
  split
  ·have:x≠n:=by rintro rfl;exact h v List.mem_cons_self
   simp [this]
  ·rfl
theorem qEE {kindOf:Str->Option NameKind}{x:Str}:∀{binds:List (Str×Value)}{m:Str->Option Value},(∀v,(x,v)∉binds)->bindC kindOf binds m x=m x
 | [],_,_=>rfl
 | (n,v)::r,m,h=>by
  unfold bindC
  rw [qEE λw hw=>h w (List.mem_cons_of_mem _ hw)]
  split
  ·rfl
  ·have:x≠n:=by rintro rfl;exact h v List.mem_cons_self
   simp [this]
theorem qED {kindOf:Str->Option NameKind}{x:Str}{v:Value}:∀{P:List Str}{vs:List Value}{i:Nat}{m:Str->Option Value},P.Nodup->P[i]?=some x->vs[i]?=some v->kindOf x=some .local ->
  bindL kindOf (P.zip vs) m x=some v
 | [],_,_,_,_,h,_,_=>by simp at h
 | _::_,[],_,_,_,_,h,_=>by simp at h
 | p::P,w::vs,0,m,nd,h1,h2,hk=>by
  simp at h1 h2;subst h1;subst h2
  show bindL kindOf ((p,w)::P.zip vs) m p=_
  unfold bindL
  rw [qEC λv hv=>(List.nodup_cons.mp nd).1 (List.of_mem_zip hv).1,if_pos hk]
  simp
 | p::P,w::vs,i+1,m,nd,h1,h2,hk=>by
  show bindL kindOf ((p,w)::P.zip vs) m x=_
  unfold bindL
  exact qED (i:=i) (List.nodup_cons.mp nd).2 (by simpa using h1) (by simpa using h2) hk
theorem qEF {kindOf:Str->Option NameKind}{x:Str}{v:Value}:∀{P:List Str}{vs:List Value}{i:Nat}{m:Str->Option Value},P.Nodup->P[i]?=some x->vs[i]?=some v->kindOf x≠some .local ->
  bindC kindOf (P.zip vs) m x=some v
 | [],_,_,_,_,h,_,_=>by simp at h
 | _::_,[],_,_,_,_,h,_=>by simp at h
 | p::P,w::vs,0,m,nd,h1,h2,hk=>by
  simp at h1 h2;subst h1;subst h2
  show bindC kindOf ((p,w)::P.zip vs) m p=_
  unfold bindC
  rw [qEE λv hv=>(List.nodup_cons.mp nd).1 (List.of_mem_zip hv).1,if_neg hk]
  simp
 | p::P,w::vs,i+1,m,nd,h1,h2,hk=>by
  show bindC kindOf ((p,w)::P.zip vs) m x=_
  unfold bindC
  exact qEF (i:=i) (List.nodup_cons.mp nd).2 (by simpa using h1) (by simpa using h2) hk
noncomputable def start (N:List Str) (vs:List V):St:=vs.map some++List.replicate (N.length - vs.length) none
noncomputable def qJp (CX:CXT) (P:Program) (w:World) (K:PySem.W.Frag) (mg:Str->Option Value) (base:Heap) (N:List Str) (qual:Str) (scope:Scope) (f:Addr) (cd:Value) (A:Around) (outer:List Env) (s:Shared) (H:Hp) (E:XK):Cx where
 prog:=P
 w:=w
 K:=K
 mg:=mg
 base:=base
 A:=A.deeper (envOfC qual scope s.heap.objs.size f cd)
 N:=N
 s₀:=s
 H₀:=H
 env:=envOfC qual scope s.heap.objs.size f cd
 outer:=outer
 stack:=envOfC qual scope s.heap.objs.size f cd::outer
 ex:=[]
 calm:=true
 fn:=λ_=>true
 pn:=[]
 xe:=λe s'=>wpAny (model P w) (A.deeper (envOfC qual scope s.heap.objs.size f cd)) (leaving (envOfC qual scope s.heap.objs.size f cd) e) (λ_ s''=>CX outer H s E e s'') (λe' s''=>CX outer H s E e' s'') s'
theorem qFG {sc:Scope}{n:Nat}{x:Str}(h:sc.names.lookup x=some .cell):∃c,(cellsFrom n sc.names []).lookup x=some c:=by
 have q:=PySem.W.cellsFrom_some sc.names n [] (.inl h)
 exact Option.isSome_iff_exists.mp q
theorem qHi {CX:CXT}{P:Program}{w:World}{K:PySem.W.Frag}{mg:Str->Option Value}{base:Heap}{N ps:List Str}{qual:Str}{scope:Scope}{f:Addr}{cd:Value}{A:Around}{outer:List Env}{s s1:Shared}{H:Hp}{E:XK}{us:List Value}{vs:List V}
  (S:FnScope N ps scope) (hd:A.handled=none) (e0:Env0 P w K mg base A outer s H) (hl:vs.length=ps.length) (r:Vals vs us)
  (x:InCallC s s.heap.objs.size (bindL (envOfC qual scope s.heap.objs.size f cd).kindOf (ps.zip us) λ_=>none) (cellsFrom (s.heap.objs.size+1) scope.names []) (bindC (envOfC qual scope s.heap.objs.size f cd).kindOf (ps.zip us) λ_=>none) s1) :
  Inv (qJp CX P w K mg base N qual scope f cd A outer s H E) [] (start N vs) H s1:=by
 have hpl:ps.length<=N.length:=by have:=congrArg List.length S.pre;rw [List.length_take] at this;omega
 obtain⟨h1,tk,rfl,hk⟩:=x.done
 have noA:∀b:Addr,b∉(qJp CX P w K mg base N qual scope f cd A outer s H E).ex:=λb z=>absurd (show b∈([]:List Addr) from z) (by simp)
 refine⟨⟨e0.mod,S.kind,rfl,rfl,Nat.le_refl _,λy z c h1 h2=>?_,λy hy=>?_,λy c _ h=>?_,λ_=>hd,Around.frames_deeper e0.frames,.inr ⟨rfl,rfl⟩,λb z=>absurd z (noA b),e0.bs,e0.bsz,λb _ _=>noA b,λb z=>absurd z (noA b),e0.funs,e0.frf⟩,
  rfl,e0.bare,Un.kept hk,⟨_,x.toInCall.ns,λi y v h1 h2 h3=>?_⟩,λy c h=>⟨_,x.cell y c h⟩,e0.hok.fresh (Nat.le_refl _),λy c h=>?_,λp hp=>absurd (show p∈([]:List (Addr×Obj)) from hp) (by simp),e0.hok.kept hk,?_⟩
 ·exact name_of_addr x.apart (PySem.mem_of_lookup h1) (PySem.mem_of_lookup h2)
 ·have hy:scope.names.lookup y=some .cell∨scope.names.lookup y=some .free:=hy
  rcases hy with hy|hy
  ·exact qFG hy
  ·exact absurd rfl (S.nofree _ (PySem.mem_of_lookup hy))
 ·exact Nat.le_of_lt (x.above y c (PySem.mem_of_lookup h))
 ·have hi:i<vs.length:=by
   unfold start at h2
   by_cases hi:i<vs.length
   ·exact hi
   ·rw [List.getElem?_append_right (by simpa using hi)] at h2
    rw [List.getElem?_replicate] at h2
    split at h2<;>cases h2
  have ha:vs[i]?=some v:=by
   unfold start at h2
   rw [List.getElem?_append_left (by simpa using hi),List.getElem?_map] at h2
   cases e:vs[i]? with
   | none=>rw [e] at h2;cases h2
   | some a=>rw [e] at h2;cases h2;rfl
  obtain⟨u,hu,rv⟩:=r.get ha
  have hp:ps[i]?=some y:=by
   rw [<-S.pre,List.getElem?_take_of_lt (by omega)];exact h1
  have ndP:ps.Nodup:=by rw [<-S.pre];exact S.nd.sublist (List.take_sublist _ _)
  refine⟨u,rv,?_⟩
  rcases S.par y (List.mem_of_getElem? hp) with k|k
  ·exact .inl ⟨k,qED ndP hp hu k⟩
  ·obtain⟨c,e⟩:=qFG (n:=s.heap.objs.size+1) k
   refine .inr ⟨.inl k,c,e,?_⟩
   have q:=x.cell y c e
   rw [qEF ndP hp hu (by show scope.names.lookup y≠_;rw [k];decide)] at q
   exact q
 ·exact e0.hok.fresh (Nat.le_of_lt (x.above y c (PySem.mem_of_lookup h)))
 ·unfold start
  show _=N.length
  rw [List.length_append,List.length_map,List.length_replicate]
  omega
theorem qNL {CX:CXT}{P:Program}{w:World}{K:PySem.W.Frag}{mg:Str->Option Value}{base:Heap}{k:Nat}{f:Addr}{name qual:Str}{params:Arguments}{body:List Stmt}{scope:Scope}{dV kV doc pm cdv ct oc:Value}{an od:Option Addr}
  {osl:Array (Option Value)} {N ps:List Str} {sp:Sp} (lk:K.lookup f=some ⟨oc,od,.func (PySem.W.fnOf name qual params body scope dV kV doc pm an cdv ct),osl⟩) (hcd:PySem.W.codeIn K cdv qual=true) (S:FnScope N ps scope)
  (len:∀vs H Q E,sp vs H Q E->vs.length=ps.length)
  (hbody:∀(A:Around) (outer:List Env) (s:Shared) (H:Hp) (vs:List V) (Q:VK) (E:XK),Room k (A.deeper (envOfC qual scope s.heap.objs.size f cdv))->sp vs H Q E ->
   ∃t,PSs (qJp CX P w K mg base N qual scope f cdv A outer s H E) body t/\t { nx:=λ_ H'=>Q .non H',rt:=Q } (start N vs) H) :
  FnOk P w K mg base CX (k+1) f (PySem.W.fnOf name qual params body scope dV kV doc pm an cdv ct) ps sp:=by
 refine⟨len,λA outer s H args us vs Q E hr e0 hb r hsp=>?_⟩
 have hl:=len _ _ _ _ hsp
 have KX:K.In s.heap:=e0.mod.kin.keeps λb o e=>(e0.bs b o e).1
 have lim:s.heap.NoLimit:=e0.mod.nolimit.keeps λb o e=>(e0.bs b o e).1
 have hkind:∀y∈ps.zip us,scope.names.lookup y.1=some .local∨(scope.names.lookup y.1=some .cell/\((cellsFrom (s.heap.objs.size+1) scope.names []).lookup y.1).isSome=true):=λ⟨n,v⟩ hy=>by
  rcases S.par n (List.of_mem_zip hy).1 with q|q
  ·exact .inl q
  ·exact .inr ⟨q,PySem.W.cellsFrom_some _ _ _ (.inl q)⟩
 refine codeAny_call_function hr.depth (KX _ _ lk) rfl S.co S.gen rfl (PySem.W.codeRec_of KX hcd) (hb _ _ _ _ ?_)
 refine wpAny_newFunctionEnv_cells S.kind hkind λenv he s1 x=>?_
 subst he
 refine⟨lim.keeps x.toInCall.keep,codeAny_func ?_⟩
 obtain⟨t,ht,hq⟩:=hbody A outer s H vs Q E (hr.deeper _) hsp
 have I:Inv (qJp CX P w K mg base N qual scope f cdv A outer s H E) [] (start N vs) H s1:=qHi S hr.hd e0 hl r x
 refine wpAny_mono (ht [] s1 (start N vs) H _ I hq) (λfl s' hs=>?_) λe s' hs=>hs
 have fin:∀{σ':St} {H':Hp} {v:V} {u:Value},Inv (qJp CX P w K mg base N qual scope f cdv A outer s H E) [] σ' H' s'->RelV v u->Q v H'->CE outer P w H s Q u s':=
  λ{σ' H' v u} J rv q=>⟨v,H',J.os,J.bare,J.base,J.hok,rv,q⟩
 cases fl with
 | ret u =>
  obtain⟨v,σ',H',J,rv,q⟩:=hs
  exact fin J rv q
 | next =>
  obtain⟨σ',H',J,q⟩:=hs
  exact fin (v:=V.non) (u:=Value.none) J rfl q
 | brk =>
  obtain⟨_,_,_,q⟩:=hs
  exact False.elim q
 | cont =>
  obtain⟨_,_,_,q⟩:=hs
  exact False.elim q
end L2
namespace L2
open PySem PySem.Spec PyProof.Rows
section
variable {X:Cx}{x:Str}{p pos:Pos}{e:Expr}{es:List Expr}{t:TA}{id T:String}{r:List V->Hp->VK->Prop}
noncomputable def tCB (r:List V->Hp->VK->Prop) (t:TA):TE:=fun σ H Q=>t σ H λvs H1=>r vs H1 Q
theorem qDE (hc:CallR X (.builtin id) r) (hg:Gl X x) (hm:X.mg x=none) (hv:bootBuiltins x=some (.builtin id)) (ha:PA X (e::es) t) (hn:x≠"__name__":=by decide) (hdb:(x == ("__debug__":Str))=false:=by decide)
  (he:starEach (e::es) X.env=(false,eval e X.env)::starEach es X.env:=by rfl) (hpl:(backTo pos (starEach es X.env)).any (·.1)=false:=by rfl):PE X (.Call (.Name x p) (e::es) [] pos) (tCB r t):=by
 intro pins s σ H Q I h
 refine wpAny_Call_Name_kw (qDj I hg hm hv ?_ hn hdb)
 exact PyProof.Rows.callWith_builtin1 (thn (ha pos pins s σ H _ I h) λus s1 ⟨vs,H1,I1,r1,q1⟩=>hc pins s1 σ H1 vs us Q I1 r1 q1) he hpl
theorem qGZ (hc:CallR X (.type T) r) (hg:Gl X x) (hm:X.mg x=none) (hv:bootBuiltins x=some (.type T)) (ha:PA X (e::es) t) (hn:x≠"__name__":=by decide) (hdb:(x == ("__debug__":Str))=false:=by decide)
  (he:starEach (e::es) X.env=(false,eval e X.env)::starEach es X.env:=by rfl) (hpl:(backTo pos (starEach es X.env)).any (·.1)=false:=by rfl):PE X (.Call (.Name x p) (e::es) [] pos) (tCB r t):=by
 intro pins s σ H Q I h
 refine wpAny_Call_Name_kw (qDj I hg hm hv ?_ hn hdb)
 exact PyProof.Rows.callWith_type1 (thn (ha pos pins s σ H _ I h) λus s1 ⟨vs,H1,I1,r1,q1⟩=>hc pins s1 σ H1 vs us Q I1 r1 q1) he hpl
end
end L2
namespace HT
open PySem PyProof.Rows
section
open PySem.SeqAt
open PySem.AutoSeq1 (wpAny_loadPart')
open PySem.MeetsSeq PySem.MeetsSeq2 PySem.MeetsSeq3
end
section
variable {prog:Program}{w:World}{A:Around}{E:Value->Shared->Prop}{s:Shared}
theorem cat_tup {t b:Addr}{vs ws:List Value}{Q:Value->Shared->Prop}(ht:IsTup s.heap t vs.toArray) (hb:IsTup s.heap b ws.toArray) (hv:vs≠[])
  (h1:ws=[]->Q (.ref t) s) (h2:ws≠[]->Q (.ref s.heap.objs.size) { s with heap:=s.heap.push { cls:=.type "tuple",data:=.seq (vs++ws).toArray } })
  (hsz:vs.length+ws.length<=sizeLine):wpAny (model prog w) A (binaryOp .Add (.ref t) (.ref b)) Q E s:=by
 obtain⟨⟨cls,dd,data,sl⟩,ho,hc,n,hd⟩:=id ht
 obtain⟨⟨cls2,dd2,data2,sl2⟩,ho2,hc2,n2,hd2⟩:=id hb
 simp only at hc hd hc2 hd2
 subst hc hd hc2 hd2
 have e:vs.toArray++ws.toArray=(vs++ws).toArray:=by simp
 by_cases hw:ws=[]
 ·exact concat_meets ⟨_,ho,rfl⟩ ⟨_,ho2,rfl⟩ noFill_tuple_add seq_tuple_add PySem.F.slot_tuple_add PySem.F.entry_tuple_add (PySem.F.args_tuple_add_2 _ _)
   (tuple_addW1 t b vs.toArray ws.toArray n n2 dd dd2 sl sl2 (by simpa using hv) (by simp [hw])) ⟨ho,ho2,h1 hw⟩
 ·refine concat_meets ⟨_,ho,rfl⟩ ⟨_,ho2,rfl⟩ noFill_tuple_add seq_tuple_add PySem.F.slot_tuple_add PySem.F.entry_tuple_add (PySem.F.args_tuple_add_2 _ _)
   (tuple_addW2 t b vs.toArray ws.toArray n n2 dd dd2 sl sl2 (by simpa using hv) (by simpa using hw) (by rw [List.size_toArray,List.size_toArray];exact hsz)) ⟨ho,ho2,?_⟩
  rw [e]
  exact h2 hw
noncomputable def sIx (n d:Nat):Option Int->Nat
 | none=>d
 | some v=>if v<0 then (v+(n:Int)).toNat else min v.toNat n
theorem qMJ (n d:Nat) (hd:d<=n) (o:Option Int):sIx n d o<=n:=by
 cases o with
 | none=>exact hd
 | some v =>
  show (if v<0 then (v+(n:Int)).toNat else min v.toNat n)<=n
  by_cases hv:v<0
  ·rw [if_pos hv];omega
  ·rw [if_neg hv];exact Nat.min_le_right _ _
theorem clip_eq (v:Int) (n d:Nat):(if v<0 then max (v+(n:Int)) 0 else min v (n:Int))=((sIx n d (some v):Nat):Int):=by
 show (if v<0 then max (v+(n:Int)) 0 else min v (n:Int))=(((if v<0 then (v+(n:Int)).toNat else min v.toNat n):Nat):Int)
 by_cases hv:v<0
 ·simp only [if_pos hv];omega
 ·simp only [if_neg hv];omega
theorem qGf (lo hi:Option Int) (n:Nat):Builtin.Slice.sliceAdjust lo hi 1 (n:Int)=(((sIx n 0 lo:Nat):Int),((sIx n n hi:Nat):Int)):=by
 have h1:¬((1:Int)<0):=by omega
 unfold Builtin.Slice.sliceAdjust
 simp only [h1,if_false]
 refine Prod.ext ?_ ?_
 ·cases lo with
  | none=>rfl
  | some v=>exact clip_eq v n 0
 ·cases hi with
  | none=>rfl
  | some v=>exact clip_eq v n n
theorem qFZ (i j:Nat):Builtin.Slice.slicePlaces (i:Int) (j:Int) 1=j - i:=by
 unfold Builtin.Slice.slicePlaces
 have h1:(1:Int) > 0:=by omega
 simp only [h1,if_true,Int.ediv_one]
 split<;>omega
theorem qDh {v:Value}{o:Option Int}{Q:Option Int->Shared->Prop}(p:IsPart v o) (h:Q o s):wpAny (model prog w) A (Builtin.Slice.slicePartIndex v) Q E s:=by
 cases p with
 | none=>exact slicePart_none h
 | int i t=>exact slicePart_int h
theorem qBI {sl:Addr}{vl vu:Value}{lo hi:Option Int}{n:Nat}{Q:Int×Int×Nat->Shared->Prop}(hs:s.heap.IsSliceOf sl vl vu .none) (pl:IsPart vl lo) (pu:IsPart vu hi)
  (h:Q (((sIx n 0 lo:Nat):Int),1,sIx n n hi - sIx n 0 lo) s):wpAny (model prog w) A (Builtin.Slice.sliceApplied (.ref sl) (pure (n:Int))) Q E s:=by
 obtain⟨os,hos,hcs,hds⟩:=id hs
 unfold Builtin.Slice.sliceApplied Builtin.Slice.sliceFields
 refine wpAny_bind (wpAny_bind (wpAny_field hos hds (x:=vl) rfl (wpAny_bind (wpAny_field hos hds (x:=vu) rfl (wpAny_bind (wpAny_field hos hds (x:=.none) rfl (wpAny_pure ?_)))))))
 refine wpAny_bind (slicePart_none ?_)
 show wpAny _ _ (if ((1:Int) == 0)=true then _ else _) _ _ s
 rw [if_neg (by decide)]
 refine wpAny_bind (qDh pl (wpAny_bind (qDh pu (wpAny_bind (wpAny_pure ?_)))))
 show wpAny _ _ (match Builtin.Slice.sliceAdjust lo hi 1 (n:Int) with|(lo,hi)=>pure (lo,(1:Int),Builtin.Slice.slicePlaces lo hi 1)) _ _ s
 rw [qGf lo hi n]
 show wpAny _ _ (pure (((sIx n 0 lo:Nat):Int),(1:Int),Builtin.Slice.slicePlaces ((sIx n 0 lo:Nat):Int) ((sIx n n hi:Nat):Int) 1)) _ _ s
 rw [qFZ]
 exact wpAny_pure h
theorem qIO (xs:Array Value) (i k:Nat):((List.range k).filterMap λ(m:Nat)=>xs[((i:Int)+(m:Int) * 1).toNat]?).toArray=((xs.toList.drop i).take k).toArray:=by
 have e:(λ(m:Nat)=>xs[((i:Int)+(m:Int) * 1).toNat]?)=λm=>xs[i+m]?:=by
  funext m
  have:((i:Int)+(m:Int) * 1).toNat=i+m:=by omega
  rw [this]
 rw [e]
 have:=pick_run xs i k
 rw [List.filterMap_map] at this
 have e2:((λx=>xs[x]?) ∘ λx=>i+x)=λm=>xs[i+m]?:=rfl
 rw [e2] at this
 rw [this]
theorem getItem_tuple_cut {t sl:Addr}{items:Array Value}{vl vu:Value}{lo hi:Option Int}{Q:Value->Shared->Prop}(ht:IsTup s.heap t items) (hs:s.heap.IsSliceOf sl vl vu .none) (pl:IsPart vl lo) (pu:IsPart vu hi)
  (hw:¬(sIx items.size 0 lo=0/\sIx items.size items.size hi=items.size))
  (h:Q (.ref s.heap.objs.size) { s with heap:=s.heap.push { cls:=.type "tuple",data:=.seq ((items.toList.drop (sIx items.size 0 lo)).take (sIx items.size items.size hi - sIx items.size 0 lo)).toArray } })
  (hsz:items.size<=sizeLine):wpAny (model prog w) A (getItem (.ref t) (.ref sl)) Q E s:=by
 have htake:sizeOk (.seq ((items.toList.drop (sIx items.size 0 lo)).take (sIx items.size items.size hi - sIx items.size 0 lo)).toArray):=by
  show ((items.toList.drop (sIx items.size 0 lo)).take (sIx items.size items.size hi - sIx items.size 0 lo)).toArray.size<=sizeLine
  rw [List.size_toArray,List.length_take,List.length_drop,Array.length_toList]
  omega
 have hj:sIx items.size items.size hi<=items.size:=qMJ _ _ (Nat.le_refl _) hi
 obtain⟨os,hos,hcs,hds⟩:=id hs
 have hTs:s.TypeIs (.ref sl) "slice":=⟨os,hos,hcs⟩
 unfold getItem
 try with_reducible refine wpAny_holding ?_
 first|refine wpAny_bind (wpAny_pure ?_)|skip
 refine wpAny_bind (wpAny_sequenceKey ht.typeIs (by decide) ?_)
 refine wpAny_bind (wpAny_callSpecial?_slot (name:=Str.ofString "__getitem__") ht.typeIs PyProof.Rows.slot_tuple_getitem
  (wpAny_call_entry PyProof.Rows.slot_tuple_getitem ht.typeIs entry_tuple_getitem ?_ (args_tuple_getitem _ _)))
 show wpAny _ _ (Builtin.Tuple.tupleItemsOf (.ref t) >>= _) _ _ s
 refine wpAny_bind (tupleItemsOf_ ht ?_)
 refine wpAny_bind (wpAny_typeOf hTs ?_)
 rw [if_pos (by decide)]
 refine wpAny_bind (qBI hs pl pu ?_)
 have hno:¬((((sIx items.size 0 lo:Nat):Int) == 0&&(1:Int) == 1&&(sIx items.size items.size hi - sIx items.size 0 lo) == items.size)=true):=by
  intro q
  rw [Bool.and_eq_true,Bool.and_eq_true] at q
  have q1:((sIx items.size 0 lo:Nat):Int)=0:=eq_of_beq q.1.1
  have q2:sIx items.size items.size hi - sIx items.size 0 lo=items.size:=eq_of_beq q.2
  exact hw ⟨by omega,by omega⟩
 show wpAny _ _ (if (((sIx items.size 0 lo:Nat):Int) == 0&&(1:Int) == 1&&(sIx items.size items.size hi - sIx items.size 0 lo) == items.size)=true then _ else _) _ _ s
 rw [if_neg hno,qIO]
 first
  | exact wpAny_bind (m:=Builtin.Tuple.tupleExact _) (wpAny_newObj_type (wpAny_pure ⟨_,rfl,wpAny_pure h⟩) htake)
  | exact wpAny_bind (m:=Builtin.Tuple.tupleExact _) (wpAny_newObj_type (wpAny_bind (wpAny_pure (wpAny_pure ⟨_,rfl,wpAny_pure h⟩))) htake)
  | exact wpAny_bind (wpAny_bind (m:=Builtin.Tuple.tupleExact _) (wpAny_newObj_type (wpAny_pure (wpAny_pure ⟨_,rfl,wpAny_pure h⟩)) htake))
  | exact wpAny_bind (wpAny_bind (m:=Builtin.Tuple.tupleExact _) (wpAny_newObj_type (wpAny_pure ⟨_,rfl,wpAny_pure h⟩) htake))
end
end HT
namespace L2
open PySem PySem.Spec PyProof.Rows
noncomputable abbrev TO:=St->Hp->(Option Int->Hp->Prop)->Prop
noncomputable def PO (X:Cx) (e:Option Expr) (t:TO):Prop:=
 ∀(pins:List (Addr×Obj)) (s:Shared) (σ:St) (H:Hp) (Q:Option Int->Hp->Prop),Inv X pins σ H s->t σ H Q ->
   wpAny (model X.prog X.w) X.A (evalPart e X.env) (λu s'=>∃o H',Inv X pins σ H' s'/\IsPart u o/\Q o H') X.xe s
noncomputable def qKy:TO:=λ_ H Q=>Q none H
noncomputable def qOE (t:TE):TO:=fun σ H Q=>t σ H λx H1=>∃i,x=.int i/\Q (some i) H1
section
variable {X:Cx}{e:Expr}{te:TE}{lo hi:Option Expr}{tl th:TO}{pos p2:Pos}
theorem qK1:PO X none qKy:=by
 intro pins s σ H Q I h
 rw [evalPart_none]
 exact wpAny_pure ⟨none,H,I,.none,h⟩
theorem qK0 (h:PE X e te):PO X (some e) (qOE te):=by
 intro pins s σ H Q I hw
 rw [evalPart_some]
 refine thn (h pins s σ H _ I hw) λu s1 ⟨x,H1,I1,r1,q1⟩=>?_
 obtain⟨i,rfl,q⟩:=q1
 obtain⟨t,rfl⟩:=r1
 exact⟨some i,H1,I1,.int i t,q⟩
noncomputable def SlR (X:Cx) (r:V->Option Int->Option Int->Hp->VK->Prop):Prop:=
 ∀(pins:List (Addr×Obj)) (s:Shared) (σ:St) (H:Hp) (x:V) (v vl vu:Value) (lo hi:Option Int) (sl:Addr) (Q:VK),Inv X pins σ H s->RelV x v->s.heap.IsSliceOf sl vl vu .none->IsPart vl lo->IsPart vu hi->r x lo hi H Q ->
   ∃T id,typeLookup (.type T) "__getitem__"=pure (some (.builtin id))/\s.TypeIs v T/\wpAny (model X.prog X.w) X.A (getItem v (.ref sl)) (EP X pins σ Q) X.xe s
theorem SlR.or {r r':V->Option Int->Option Int->Hp->VK->Prop}(h:SlR X r) (h':SlR X r'):SlR X (λx lo hi H Q=>r x lo hi H Q∨r' x lo hi H Q):=by
 intro pins s σ H x v vl vu lo hi sl Q I rx hs pl pu q
 rcases q with q|q
 ·exact h pins s σ H x v vl vu lo hi sl Q I rx hs pl pu q
 ·exact h' pins s σ H x v vl vu lo hi sl Q I rx hs pl pu q
noncomputable def tSl (r:V->Option Int->Option Int->Hp->VK->Prop) (te:TE) (tl th:TO):TE:=fun σ H Q=>te σ H λx H1=>tl σ H1 λl H2=>th σ H2 λu H3=>r x l u H3 Q
theorem qIP {r:V->Option Int->Option Int->Hp->VK->Prop}(hr:SlR X r) (he:PE X e te) (hl:PO X lo tl) (hu:PO X hi th):PE X (.Subscript e (.Slice lo hi none p2) pos) (tSl r te tl th):=by
 intro pins s σ H Q I h
 refine Subscript_ (thn (he pins s σ H _ I h) λv s1 ⟨x,H1,I1,r1,q1⟩=>?_)
 refine wpAny_Slice (thn (hl pins s1 σ H1 _ I1 q1) λvl s2 ⟨l,H2,I2,pl,q2⟩=>thn (hu pins s2 σ H2 _ I2 q2) λvu s3 ⟨u,H3,I3,pu,q3⟩=>?_)
 rw [evalPart_none]
 refine wpAny_pure ?_
 have I4:Inv X pins σ H3 { s3 with heap:=s3.heap.push { cls:=.type "slice",data:=.fields #[vl,vu,.none] } }:=I3.kept (t':=s3.toks) λb ob q=>Heap.get?_push_of_some _ q
 obtain⟨T,id,hT,ht,hg⟩:=hr pins { s3 with heap:=s3.heap.push { cls:=.type "slice",data:=.fields #[vl,vu,.none] } } σ H3 x v vl vu l u s3.heap.objs.size Q I4 r1 (Heap.IsSliceOf.new ..) pl pu q3
 show wpAny (model X.prog X.w) X.A (subscriptTail e (.Slice lo hi none p2) v (.ref s3.heap.objs.size)) (EP X pins σ Q) X.xe { s3 with heap:=s3.heap.push { cls:=.type "slice",data:=.fields #[vl,vu,.none] } }
 exact tail_any (ops:=[.ref s3.heap.objs.size,v]) ht hT hg (by with_unfolding_all rfl)
noncomputable def qKg (xs:List V) (lo hi:Option Int):List V:=(xs.drop (HT.sIx xs.length 0 lo)).take (HT.sIx xs.length xs.length hi - HT.sIx xs.length 0 lo)
theorem qC4 (xs:List V) (lo hi:Option Int):(qKg xs lo hi).length<=xs.length:=by
 unfold qKg
 rw [List.length_take,List.length_drop]
 omega
noncomputable def qPV (K:PySem.W.Frag):V->Option Int->Option Int->Hp->VK->Prop:=λx lo hi H Q=>∃a xs,x=.ref a/\SqT K H a xs /\
 ¬(HT.sIx xs.length 0 lo=0/\HT.sIx xs.length xs.length hi=xs.length)/\∀p,H p=none->Q (.ref p) (upd H p (.tup (qKg xs lo hi)))
theorem qMF:SlR X (qPV X.K):=by
 intro pins s σ H x v vl vu lo hi sl Q I rx hs pl pu h
 obtain⟨a,xs,rfl,hx,hw,q⟩:=h
 cases rx
 obtain⟨its,r,ht,hz⟩:=I.tuple hx
 have hlen:its.toArray.size=xs.length:=by rw [List.size_toArray];exact r.length.symm
 refine⟨"tuple",_,PyProof.Rows.slot_tuple_getitem.lookup,ht.typeIs,?_⟩
 refine HT.getItem_tuple_cut ht hs pl pu (by rw [hlen];exact hw) ?_ (by rw [hlen];exact hz)
 rw [hlen]
 refine⟨.ref s.heap.objs.size,_,I.laid (t':=s.toks) (o:=.tup (qKg xs lo hi)) (λb ob q=>Heap.get?_push_of_some _ q) (Nat.le_refl _) ?_,rfl,q _ (I.hok.fresh (Nat.le_refl _))⟩
 exact⟨Nat.le_trans (qC4 xs lo hi) hz,_,(r.drop (HT.sIx xs.length 0 lo)).take (HT.sIx xs.length xs.length hi - HT.sIx xs.length 0 lo),IsTup.new _ _⟩
noncomputable def qOQ (K:PySem.W.Frag):R2:=λx y H Q=>∃a b xs ys,x=.ref a/\y=.ref b/\SqT K H a xs/\SqT K H b ys/\xs≠[]/\xs.length+ys.length<=sizeLine /\
 (ys=[]->Q (.ref a) H)/\(ys≠[]->∀p,H p=none->Q (.ref p) (upd H p (.tup (xs++ys))))
theorem Vals.nil_iff {xs:List V}{us:List Value}(r:Vals xs us):us=[]↔xs=[]:=by
 cases r with
 | nil=>simp
 | cons _ _=>simp
theorem qLj:OpR X (binaryOp .Add) (qOQ X.K):=by
 intro pins s σ H x y v u Q I rx ry h
 obtain⟨a,b,xs,ys,rfl,rfl,ha,hb,hx,hz,q1,q2⟩:=h
 cases rx
 cases ry
 obtain⟨its,r1,p1,_⟩:=I.tuple ha
 obtain⟨its2,r2,p2,_⟩:=I.tuple hb
 refine HT.cat_tup p1 p2 (λz=>hx (r1.nil_iff.mp z)) (λz=>⟨.ref a,H,I,rfl,q1 (r2.nil_iff.mp z)⟩) (λz=>?_) (by rw [<-r1.length,<-r2.length];exact hz)
 refine⟨.ref s.heap.objs.size,_,I.laid (t':=s.toks) (o:=.tup (xs++ys)) (λb ob q=>Heap.get?_push_of_some _ q) (Nat.le_refl _) ?_,rfl,q2 (λw=>z (r2.nil_iff.mpr w)) _ (I.hok.fresh (Nat.le_refl _))⟩
 exact⟨by rw [List.length_append];exact hz,_,r1.append r2,IsTup.new _ _⟩
end
end L2
namespace L2
open PySem PySem.Spec PyProof.Rows
noncomputable def ixN (n:Nat) (i:Int):Option Nat:=if 0<=i then (if i<n then some i.toNat else none) else if -(n:Int)<=i then some (i+n).toNat else none
noncomputable def atI {α:Type}(xs:List α) (i:Int):Option α:=(ixN xs.length i).bind λj=>xs[j]?
theorem qLy {n:Nat}{i:Int}{j:Nat}(h:ixN n i=some j):seqIndex? i n=some j/\j<n/\-(n:Int)<=i/\i<n:=by
 unfold ixN at h
 by_cases h0:0<=i
 ·rw [if_pos h0] at h
  by_cases h1:i<n
  ·rw [if_pos h1] at h
   have e:i.toNat=j:=Option.some.inj h
   exact⟨by rw [seqIndex_of h0 h1,e],by omega,by omega,h1⟩
  ·rw [if_neg h1] at h;cases h
 ·rw [if_neg h0] at h
  by_cases h1:-(n:Int)<=i
  ·rw [if_pos h1] at h
   have e:(i+n).toNat=j:=Option.some.inj h
   exact⟨by rw [seqIndex_neg (by omega) h1,e],by omega,h1,by omega⟩
  ·rw [if_neg h1] at h;cases h
theorem qIe {α:Type}{xs:List α}{i:Int}{v:α}(h:atI xs i=some v):∃j,seqIndex? i xs.length=some j/\xs[j]?=some v/\j<xs.length/\-(xs.length:Int)<=i/\i<xs.length:=by
 unfold atI at h
 cases e:ixN xs.length i with
 | none=>rw [e] at h;cases h
 | some j =>
  rw [e] at h
  obtain⟨h1,h2,h3,h4⟩:=qLy e
  exact⟨j,h1,h,h2,h3,h4⟩
noncomputable def qE9 (b:Expr):Prop:=∀o i,subscripted b false o i=operate [o,i] (getItem o i)
noncomputable def IxR (X:Cx) (r:R2):Prop:=
 ∀(value slice:Expr) (pins:List (Addr×Obj)) (s:Shared) (σ:St) (H:Hp) (x y:V) (v u:Value) (Q:VK),Inv X pins σ H s->RelV x v->RelV y u->r x y H Q ->
   subscripted slice false v u=operate [v,u] (getItem v u)->wpAny (model X.prog X.w) X.A (subscriptTail value slice v u) (EP X pins σ Q) X.xe s
noncomputable def MtR (X:Cx) (id:String) (r:V->List V->Hp->VK->Prop):Prop:=
 ∀(pins:List (Addr×Obj)) (s:Shared) (σ:St) (H:Hp) (x:V) (xs:List V) (v:Value) (us:List Value) (Q:VK),Inv X pins σ H s->RelV x v->Vals xs us->r x xs H Q ->
   wpAny (model X.prog X.w) X.A (call (.builtin id) (v::us)) (EP X pins σ Q) X.xe s
section
variable {X:Cx}{a b:Expr}{ta tb:TE}{pos:Pos}
theorem IxR.or {r r':R2}(h:IxR X r) (h':IxR X r'):IxR X (λx y H Q=>r x y H Q∨r' x y H Q):=by
 intro value slice pins s σ H x y v u Q I rx ry q hs
 rcases q with q|q
 ·exact h value slice pins s σ H x y v u Q I rx ry q hs
 ·exact h' value slice pins s σ H x y v u Q I rx ry q hs
theorem MtR.or {id:String}{r r':V->List V->Hp->VK->Prop}(h:MtR X id r) (h':MtR X id r'):MtR X id (λx xs H Q=>r x xs H Q∨r' x xs H Q):=by
 intro pins s σ H x xs v us Q I rx rs q
 rcases q with q|q
 ·exact h pins s σ H x xs v us Q I rx rs q
 ·exact h' pins s σ H x xs v us Q I rx rs q
theorem qOX {r:R2}(hr:IxR X r) (ha:PE X a ta) (hb:PE X b tb) (hs:qE9 b):PE X (.Subscript a b pos) (tOp r ta tb):=by
 intro pins s σ H Q I h
 exact Subscript_ (qPh ha hb I h λv u s2 x y H2 I2 rx ry q=>hr a b pins s2 σ H2 x y v u Q I2 rx ry q (hs _ _))
noncomputable def qP0 (K:PySem.W.Frag):R2:=λx y H Q=>∃p xs i v,x=.ref p/\y=.int i/\SqL K H p xs/\atI xs i=some v/\Q v H
noncomputable def qPZ (K:PySem.W.Frag):R2:=λx y H Q=>∃p xs i v,x=.ref p/\y=.int i/\SqT K H p xs/\atI xs i=some v/\Q v H
theorem ix_list:IxR X (qP0 X.K):=by
 intro value slice pins s σ H x y v u Q I rx ry h hs
 obtain⟨p,xs,i,z,rfl,rfl,hq,he,q⟩:=h
 cases rx
 obtain⟨t,rfl⟩:=ry
 obtain⟨its,r,pl,hz⟩:=I.list hq
 obtain⟨j,h1,h2,h3,h4,h5⟩:=qIe he
 obtain⟨w,ew,rw'⟩:=r.get h2
 have hl:=r.length
 have hn:=qHa
 have fin:EP X pins σ Q w s:=⟨z,H,I,rw',q⟩
 by_cases h0:0<=i
 ·have hj:i.toNat=j:=by
   rw [seqIndex_of h0 h5] at h1
   exact Option.some.inj h1
  exact item_listR pl.isList h0 (by omega) (by rw [hj];simpa using ew) fin hs
 ·have hj:(i+(its.toArray.size:Int)).toNat=j:=by
   rw [seqIndex_neg (by omega) h4] at h1
   rw [List.size_toArray,<-hl]
   exact Option.some.inj h1
  exact subscriptTail_builtinR (x:=w) pl.isList.typeIs slot_list_getitem.lookup
   (wpAny_getItem_list_neg (Q:=λr s'=>r=w/\EP X pins σ Q r s') pl.isList (by omega) (by rw [List.size_toArray]<;>omega) (by omega) (by rw [hj];simpa using ew) ⟨rfl,fin⟩) hs
theorem qNy:IxR X (qPZ X.K):=by
 intro value slice pins s σ H x y v u Q I rx ry h hs
 obtain⟨p,xs,i,z,rfl,rfl,hq,he,q⟩:=h
 cases rx
 obtain⟨t,rfl⟩:=ry
 obtain⟨its,r,pl,hz⟩:=I.tuple hq
 obtain⟨j,h1,h2,h3,h4,h5⟩:=qIe he
 obtain⟨w,ew,rw'⟩:=r.get h2
 have hl:=r.length
 have hn:=qHa
 have fin:EP X pins σ Q w s:=⟨z,H,I,rw',q⟩
 exact subscriptTail_builtinR (x:=w) pl.typeIs slot_tuple_getitem.lookup
  (getItem_tuple (j:=j) (Q:=λr s'=>r=w/\EP X pins σ Q r s') pl (by omega) (by omega) (by rw [List.size_toArray,<-hl];exact h1) (by simpa using ew) ⟨rfl,fin⟩) hs
theorem Inv.lst {pins:List (Addr×Obj)}{σ:St}{H:Hp}{s:Shared}{p:Addr}{xs:List V}(I:Inv X pins σ H s) (h:H p=some (.lst xs)) :
  ∃(its:List Value) (n:Nat),Vals xs its/\s.heap.get? p=some { cls:=.type "list",data:=.seq its.toArray n }/\xs.length<=sizeLine:=by
 obtain⟨z,its,n,r,e⟩:=I.hok p _ h
 exact⟨its,n,r,e,z⟩
theorem qD6 (lo hi:Option Int) (n:Nat):(sliceBounds lo hi none n).1=((HT.sIx n 0 lo:Nat):Int)/\(sliceBounds lo hi none n).2.1=((HT.sIx n n hi:Nat):Int)/\(sliceBounds lo hi none n).2.2=1:=by
 refine⟨?_,?_,rfl⟩
 ·cases lo with
  | none=>simp [sliceBounds,HT.sIx]
  | some i =>
   simp only [sliceBounds,HT.sIx,Option.getD_none,show (1:Int) > 0 by decide,if_true]
   by_cases h:i<0
   ·simp only [h,if_true]<;>omega
   ·simp only [h,if_false]<;>omega
 ·cases hi with
  | none=>simp [sliceBounds,HT.sIx]
  | some i =>
   simp only [sliceBounds,HT.sIx,Option.getD_none,show (1:Int) > 0 by decide,if_true]
   by_cases h:i<0
   ·simp only [h,if_true]<;>omega
   ·simp only [h,if_false]<;>omega
theorem qDv (its:List Value) (lo hi:Option Int):slicePick its.toArray lo hi none=((its.drop (HT.sIx its.length 0 lo)).take (HT.sIx its.length its.length hi - HT.sIx its.length 0 lo)).toArray:=by
 obtain⟨h1,h2,h3⟩:=qD6 lo hi its.toArray.size
 unfold slicePick
 rw [h1,h2,h3]
 simp only [sliceRange_one,pick_run,List.size_toArray]<;>rfl
noncomputable def qPW (K:PySem.W.Frag):V->Option Int->Option Int->Hp->VK->Prop:=λx lo hi H Q=>∃a xs,x=.ref a/\SqL K H a xs/\∀p,H p=none->Q (.ref p) (upd H p (.lst (qKg xs lo hi)))
theorem sl_list:SlR X (qPW X.K):=by
 intro pins s σ H x v vl vu lo hi sl Q I rx hs pl pu h
 obtain⟨a,xs,rfl,hx,q⟩:=h
 cases rx
 obtain⟨its,r,ht,hz⟩:=I.list hx
 have hlen:=r.length
 refine⟨"list",_,slot_list_getitem.lookup,ht.isList.typeIs,?_⟩
 refine wpAny_getItem_list_slice ht.isList hs pl pu .none (by simp) ?_ (by rw [List.size_toArray]<;>omega)
 rw [qDv,<-hlen]
 refine⟨.ref s.heap.objs.size,_,I.laid (t':=s.toks) (o:=.lst (qKg xs lo hi)) (λb ob q=>Heap.get?_push_of_some _ q) (Nat.le_refl _) ?_,rfl,q _ (I.hok.fresh (Nat.le_refl _))⟩
 exact⟨Nat.le_trans (qC4 xs lo hi) hz,_,0,(r.drop (HT.sIx xs.length 0 lo)).take (HT.sIx xs.length xs.length hi - HT.sIx xs.length 0 lo),Heap.get?_push_size _ rfl⟩
noncomputable def eqV:V->V->Bool
 | .non,.non=>true
 | .bl a,.bl b=>a == b
 | .bl a,.int b=>(if a then 1 else 0) == b
 | .int a,.bl b=>a == (if b then 1 else 0)
 | .int a,.int b=>a == b
 | .str a,.str b=>a == b
 | _,_=>false
noncomputable def inV (x:V) (xs:List V):Bool:=xs.any λy=>eqV y x
theorem qEA:CallR X (.builtin "len") (λxs H Q=>∃p ys,xs=[.ref p]/\(SqL X.K H p ys∨SqT X.K H p ys)/\Q (.int ys.length) H):=by
 intro pins s σ H xs us Q I r h
 obtain⟨p,ys,rfl,hq,q⟩:=h
 obtain⟨u,rfl,rx⟩:=qFN r
 cases rx
 have hn:=qHa
 rcases hq with hq|hq
 ·obtain⟨its,r',pl,hz⟩:=I.list hq
  have hlen:=r'.length
  exact Calls.call_len_list pl.isList (by simp only [List.size_toArray]<;>omega) ⟨.int ys.length,H,I.tok _,⟨s.toks+1,by rw [List.size_toArray,hlen]⟩,q⟩
 ·obtain⟨its,r',pl,hz⟩:=I.tuple hq
  have hlen:=r'.length
  exact len_tuple pl (by simp only [List.size_toArray]<;>omega) ⟨.int ys.length,H,I.tok _,⟨s.toks+1,by rw [List.size_toArray,hlen]⟩,q⟩
theorem CallR.or {f:Value}{r r':List V->Hp->VK->Prop}(h:CallR X f r) (h':CallR X f r'):CallR X f (λxs H Q=>r xs H Q∨r' xs H Q):=by
 intro pins s σ H xs us Q I rs q
 rcases q with q|q
 ·exact h pins s σ H xs us Q I rs q
 ·exact h' pins s σ H xs us Q I rs q
theorem qDS:CallR X (.type "tuple") (λxs H Q=>∃p ys,xs=[.ref p]/\((SqL X.K H p ys/\∀l,H l=none->Q (.ref l) (upd H l (.tup ys)))∨(SqT X.K H p ys/\Q (.ref p) H))):=by
 intro pins s σ H xs us Q I r h
 obtain⟨p,ys,rfl,h⟩:=h
 obtain⟨u,rfl,rx⟩:=qFN r
 cases rx
 rcases h with ⟨hq,q⟩|⟨hq,q⟩
 ·obtain⟨its,r',pl,hz⟩:=I.list hq
  have hlen:=r'.length
  refine call_tuple_list pl.isList (λh' kp=>?_) (by simp only [List.size_toArray]<;>omega)
  have I1:Inv X pins σ H { s with heap:=h' }:=I.kept (t':=s.toks) kp
  have I2:Inv X pins σ (upd H h'.objs.size (.tup ys)) { s with heap:=h'.push { cls:=.type "tuple",data:=.seq its.toArray } }:=
   I1.laid (t':=s.toks) (λb o e=>Heap.get?_push_of_some _ e) (Nat.le_refl _) (show ObjOk X.prog X.w _ _ _ (.tup ys) from ⟨hz,its,r',IsTup.new _ _⟩)
  exact⟨.ref h'.objs.size,_,I2,rfl,q _ (I1.hok.fresh (Nat.le_refl _))⟩
 ·obtain⟨its,r',pl,hz⟩:=I.tuple hq
  exact call_tuple_same pl ⟨.ref p,H,I,rfl,q⟩
noncomputable def tyV (K:PySem.W.Frag) (T:String) (x:V) (H:Hp):Prop:=match x with
 | .str _=>T="str"
 | .int _=>T="int"
 | .ref p=>(T="list"/\∃xs,SqL K H p xs)∨(T="tuple"/\∃o,K.lookup p=some o/\o.cls=.type "tuple"/\o.dict=none) ∨
   (T="dict"/\((∃kvs,H p=some (.dK kvs))∨∃kvs,H p=some (.dT kvs)))∨(T="set"/\∃S n,H p=some (.set S n))
 | _=>False
theorem qJN {pins:List (Addr×Obj)}{σ:St}{H:Hp}{s:Shared}{T:String}{x:V}{v:Value}(I:Inv X pins σ H s) (r:RelV x v) (ty:tyV X.K T x H) :
  s.TypeIs v T/\∀a,v=.ref a->∃ob,s.heap.get? a=some ob/\ob.dict=none:=by
 cases x with
 | str z =>
  obtain⟨t,rfl⟩:=r
  cases (show T="str" from ty)
  exact⟨typeIs_str s z t,λ_ e=>nomatch e⟩
 | int i =>
  obtain⟨t,rfl⟩:=r
  cases (show T="int" from ty)
  exact⟨typeIs_int s i t,λ_ e=>nomatch e⟩
 | ref p =>
  cases r
  rcases ty with ⟨rfl,xs,hq⟩|⟨rfl,o,hk,hc,hd⟩|⟨rfl,hk⟩|⟨rfl,S,n,hk⟩
  ·obtain⟨its,_,pl,_⟩:=I.list hq
   refine⟨pl.isList.typeIs,λa e=>?_⟩
   cases e
   obtain⟨o,n,e,c,hd,_⟩:=pl
   exact⟨o,e,hd⟩
  ·refine⟨⟨o,I.kIn p o hk,hc⟩,λa e=>?_⟩
   cases e
   exact⟨o,I.kIn _ o hk,hd⟩
  ·have z:∃o,s.heap.get? p=some o/\o.ExactDict:=by
    rcases hk with ⟨kvs,hk⟩|⟨kvs,hk⟩
    ·obtain⟨_,_,_,_,o,_,_,e,ex,_⟩:=I.hok p _ hk
     exact⟨o,e,ex⟩
    ·obtain⟨_,_,_,_,o,_,_,e,ex,_⟩:=I.hok p _ hk
     exact⟨o,e,ex⟩
   obtain⟨o,e,ex⟩:=z
   refine⟨⟨o,e,ex.1⟩,λa e2=>?_⟩
   cases e2
   exact⟨o,e,ex.2.1⟩
  ·obtain⟨o,_,_,_,e,ex,_⟩:=I.hok p _ hk
   refine⟨⟨o,e,ex.1⟩,λa e2=>?_⟩
   cases e2
   exact⟨o,e,ex.2.1⟩
 | _=>exact False.elim ty
noncomputable def qPP (K:PySem.W.Frag) (T:String) (r:V->List V->Hp->VK->Prop) (to:TE):TE:=fun σ H Q=>to σ H λx H1=>tyV K T x H1/\r x [] H1 Q
noncomputable def tBM (K:PySem.W.Frag) (T:String) (r:V->List V->Hp->VK->Prop) (to:TE) (t:TA):TE:=fun σ H Q=>to σ H λx H1=>tyV K T x H1/\t σ H1 λxs H2=>r x xs H2 Q
variable {o e:Expr}{es:List Expr}{to:TE}{t:TA}{name:Str}{apos cpos:Pos}{T id:String}{r:V->List V->Hp->VK->Prop}
theorem qM5 (pa:PlainAttrs T) (slot:Slot T name id) (hty:typeOf (.builtin id)=pure (.type "method_descriptor")) (hm:MtR X id r) (ho:PE X o to)
  (hbase:attributeBase o name X.env (eval o X.env)=eval o X.env:=by rfl) (hline:(apos.endLine == cpos.line)=true:=by rfl):PE X (.Call (.Attribute o name apos) [] [] cpos) (qPP X.K T r to):=by
 intro pins s σ H Q I h
 refine wpAny_Call_method0_late hbase hline (thn (ho pins s σ H _ I h) λv s1 ⟨x,H1,I1,r1,ty,q1⟩=>?_)
 obtain⟨h1,h2⟩:=qJN I1 r1 ty
 exact⟨T,id,pa,slot,hty,h1,h2,Calls.callWith_builtin rfl (PySem.evalArgs_none (hm pins s1 σ H1 x [] v [] Q I1 r1 .nil q1))⟩
theorem qK6 (pa:PlainAttrs T) (slot:Slot T name id) (hty:typeOf (.builtin id)=pure (.type "method_descriptor")) (hm:MtR X id r) (ho:PE X o to) (ha:PA X (e::es) t)
  (hbase:attributeBase o name X.env (eval o X.env)=eval o X.env:=by rfl)
  (hfew:((backTo cpos (starEach (e::es) X.env)).all (λx=>!x.1)&&(backToKw cpos (keywordEach [] X.env)).all (λx=>x.1.isSome)
   && decide ((e::es).length+([]:List Keyword).length+(if ([]:List Keyword).isEmpty then 0 else 1)<30))=true:=by rfl)
  (hline:(apos.endLine == cpos.line)=true:=by rfl) (hs:starEach (e::es) X.env=(false,eval e X.env)::starEach es X.env:=by rfl) (hplain:(backTo cpos (starEach es X.env)).any (·.1)=false:=by rfl) :
  PE X (.Call (.Attribute o name apos) (e::es) [] cpos) (tBM X.K T r to t):=by
 intro pins s σ H Q I h
 refine wpAny_Call_method_late hbase hfew hline rfl (thn (ho pins s σ H _ I h) λv s1 ⟨x,H1,I1,r1,ty,q1⟩=>?_)
 obtain⟨h1,h2⟩:=qJN I1 r1 ty
 refine⟨T,id,pa,slot,hty,h1,h2,?_⟩
 have hA:=ha cpos pins s1 σ H1 _ I1 q1
 rw [hs] at hA ⊢
 refine Calls.callWith_builtin (by show (false||(backTo cpos (starEach es X.env)).any (·.1))=false;rw [hplain]<;>rfl) (Calls.evalArgs_plain ?_)
 exact thn hA λus s2 ⟨vs,H2,I2,r2,q2⟩=>hm pins s2 σ H2 x vs v us Q I2 r1 r2 q2
end
end L2
namespace L2
open PySem PySem.Spec PyProof.Rows
noncomputable def MtM (X:Cx) (id:String) (r:V->List V->Hp->VK->Prop):Prop:=
 ∀(pins:List (Addr×Obj)) (s:Shared) (σ:St) (H:Hp) (x:V) (xs:List V) (v:Value) (us:List Value) (Q:VK),Inv X pins σ H s->RelV x v->Vals xs us->r x xs H Q ->
   wpAny (model X.prog X.w) X.A (call (.builtin id) (v::us)) (EP X pins σ Q) X.xe s
theorem Vals.one:∀{x:V}{us:List Value},Vals [x] us->∃u,us=[u]/\RelV x u
 | _,_,.cons r .nil=>⟨_,rfl,r⟩
theorem Vals.two:∀{x y:V}{us:List Value},Vals [x,y] us->∃u v,us=[u,v]/\RelV x u/\RelV y v
 | _,_,_,.cons r (.cons q .nil)=>⟨_,_,rfl,r,q⟩
theorem Vals.zero:∀{us:List Value},Vals [] us->us=[]
 | _,.nil=>rfl
theorem Vals.dropLast {xs:List V}{us:List Value}(h:Vals xs us):Vals xs.dropLast us.dropLast:=by
 induction h with
 | nil=>exact .nil
 | cons r t ih =>
  cases t with
  | nil=>exact .nil
  | cons q t'=>exact .cons r ih
theorem Vals.eraseIdx:∀{xs:List V}{us:List Value}(i:Nat),Vals xs us->Vals (xs.eraseIdx i) (us.eraseIdx i)
 | _,_,_,.nil=>.nil
 | _,_,0,.cons _ t=>t
 | _,_,i+1,.cons r t=>.cons r (Vals.eraseIdx i t)
theorem Vals.reverse {xs:List V}{us:List Value}(h:Vals xs us):Vals xs.reverse us.reverse:=by
 induction h with
 | nil=>exact .nil
 | cons r t ih=>rw [List.reverse_cons,List.reverse_cons];exact Vals.append ih (.cons r .nil)
theorem Vals.rep {xs:List V}{us:List Value}(h:Vals xs us):∀k:Nat,Vals (List.replicate k xs).flatten (List.replicate k us).flatten
 | 0=>.nil
 | k+1=>by
  rw [List.replicate_succ,List.replicate_succ,List.flatten_cons,List.flatten_cons]
  exact Vals.append h (Vals.rep h k)
theorem qGc {α:Type}(l:List α):l.eraseIdx (l.length - 1)=l.dropLast:=by
 induction l with
 | nil=>rfl
 | cons a r ih =>
  cases r with
  | nil=>rfl
  | cons b r =>
   have e:(a::b::r).length - 1=((b::r).length - 1)+1:=by
    have h1:(a::b::r).length=r.length+2:=rfl
    have h2:(b::r).length=r.length+1:=rfl
    omega
   rw [e,List.eraseIdx_cons_succ,ih]
   all_goals rfl
theorem qEj (its:List Value):∀(k:Nat) (acc:List Value),
  List.foldl (λx1 x2=>x1++x2) acc.toArray (List.replicate k its.toArray)=(acc++(List.replicate k its).flatten).toArray
 | 0,acc=>by simp
 | k+1,acc=>by
  have e:acc.toArray++its.toArray=(acc++its).toArray:=by simp
  have e2:(acc++its)++(List.replicate k its).flatten=acc++(List.replicate (k+1) its).flatten:=by
   rw [List.replicate_succ,List.flatten_cons,List.append_assoc]
  rw [<-e2,<-qEj its k (acc++its),<-e,List.replicate_succ,List.foldl_cons]
section
variable {X:Cx}{pins:List (Addr×Obj)}{σ:St}{H:Hp}{s:Shared}{l b:Addr}{xs ys zs:List V}
theorem Inv.lset {its its':List Value}{n:Nat}{f:Array Value->Array Value}{t':Nat}(I:Inv X pins σ H s) (hH:H l=some (.lst xs))
  (e:s.heap.get? l=some { cls:=.type "list",data:=.seq its.toArray n }) (hf:f its.toArray=its'.toArray) (hv:Vals ys its') (hz:ys.length<=sizeLine) :
  Inv X pins σ (upd H l (.lst ys)) { s with heap:=s.heap.update l (Obj.mapSeq f),toks:=t' }:=by
 have q:=PySem.IsL.update e f
 rw [hf] at q
 refine I.write (x:=l) (e:=l) (by rw [hH];exact trivial) (.inl rfl) (λb' u hb hu=>(Heap.get?_update_other s.heap (Obj.mapSeq f) (Ne.symm hb)).trans hu) ⟨_,q⟩ ?_
 exact⟨hz,its',_,hv,q⟩
theorem Inv.lnew {its:List Value}{t':Nat}(I:Inv X pins σ H s) (hv:Vals ys its) (hz:ys.length<=sizeLine) :
  Inv X pins σ (upd H s.heap.objs.size (.lst ys)) { s with heap:=s.heap.push { cls:=.type "list",data:=.seq its.toArray },toks:=t' }:=
 I.laid (λ_ _ q=>Heap.get?_push_of_some _ q) (Nat.le_refl _) ⟨hz,its,0,hv,Heap.get?_push_size _ rfl⟩
theorem Inv.fresh (I:Inv X pins σ H s):H s.heap.objs.size=none:=I.hok.fresh (Nat.le_refl _)
theorem Inv.lstM (I:Inv X pins σ H s) (hH:H l=some (.lst xs)):xs.length<=sizeLine/\∃(its:List Value) (n:Nat),Vals xs its/\xs.length=its.length/\s.heap.get? l=some { cls:=.type "list",data:=.seq its.toArray n }:=by
 obtain⟨z,its,n,r,e⟩:=I.hok l _ hH
 exact⟨z,its,n,r,r.length,e⟩
theorem qI0 {n:Nat}(h:n<=sizeLine):Builtin.List.listTooLong n=false:=by
 unfold Builtin.List.listTooLong
 exact decide_eq_false (by omega)
end
section
variable {X:Cx}
noncomputable def qKX:V->List V->Hp->VK->Prop:=λx vs H Q=>∃l xs y,x=.ref l/\vs=[y]/\H l=some (.lst xs)/\xs.length<sizeLine/\Q .non (upd H l (.lst (xs++[y])))
theorem qCN:MtM X "list.append" qKX:=by
 intro pins s σ H x vs v us Q I rx rv h
 obtain⟨l,xs,y,rfl,rfl,hH,hz,q⟩:=h
 cases rx
 obtain⟨u,rfl,ru⟩:=rv.one
 obtain⟨z,its,n,r,hl,e⟩:=I.lstM hH
 refine call_meets F.slot_list_append ⟨_,e,rfl⟩ F.entry_list_append (F.args_list_append_2 _ _) (PySem.list_append l its.toArray n u (by rw [List.size_toArray];omega)) ⟨e,?_⟩
 refine⟨.non,_,I.lset (its':=its++[u]) hH e (by simp) (r.append (.cons ru .nil)) ?_,rfl,q⟩
 rw [List.length_append,List.length_singleton]
 omega
noncomputable def qPY:V->List V->Hp->VK->Prop:=λx vs H Q=>∃l xs y,x=.ref l/\vs=[]/\H l=some (.lst xs)/\xs[xs.length - 1]?=some y/\Q y (upd H l (.lst xs.dropLast))
theorem qNn:MtM X "list.pop" qPY:=by
 intro pins s σ H x vs v us Q I rx rv h
 obtain⟨l,xs,y,rfl,rfl,hH,hy,q⟩:=h
 cases rx
 have hus:=rv.zero
 subst hus
 obtain⟨z,its,n,r,hl,e⟩:=I.lstM hH
 obtain⟨u,hu,ru⟩:=r.get hy
 have hy':its.toArray[its.toArray.size - 1]?=some u:=by
  show its.toArray[its.length - 1]?=some u
  rw [<-Array.getElem?_toList,<-hl]
  exact hu
 refine call_meets F.slot_list_pop ⟨_,e,rfl⟩ F.entry_list_pop (F.args_list_pop_1 _) (MeetsSeq.list_pop_last l its.toArray n u hy' (by rw [List.size_toArray];omega)) ⟨e,?_⟩
 refine⟨y,_,I.lset (its':=its.dropLast) hH e ?_ r.dropLast ?_,ru,q⟩
 ·show its.toArray.eraseIdxIfInBounds (its.toArray.size - 1)=its.dropLast.toArray
  rw [List.size_toArray,List.eraseIdxIfInBounds_toArray,qGc]
 ·rw [List.length_dropLast]
  omega
theorem qLq {α:Type}(xs:List α) (k:Nat):(List.replicate k xs).flatten.length=k * xs.length:=by
 induction k with
 | zero=>simp
 | succ k ih=>rw [List.replicate_succ,List.flatten_cons,List.length_append,ih,Nat.succ_mul,Nat.add_comm]
end
section
variable {prog:Program}{w:World}{A:Around}{E:Value->Shared->Prop}{s:Shared}
end
section
variable {X:Cx}
end
end L2
namespace Att
open PySem PySem.W PySem.Calls PyProof.Rows
theorem qCU {P:Params}{h:Heap}:∀(ns:List Int) (vs:List Value),WellAll P h vs (ns.map WData.int)->IntsAre vs ns:=by
 intro ns
 induction ns with
 | nil =>
  intro vs w
  rw [List.map_nil] at w
  cases w
  exact .nil
 | cons n ns ih =>
  intro vs w
  rw [List.map_cons] at w
  cases w with
  | cons a b =>
   cases a
   exact .cons _ _ (ih _ b)
theorem script_of {l:OpenLaw}{n:Nat}(hn:l.most=some n) {P:Params}{h:Heap}{args:List WData}{vals:List Value}
  (hpre:l.row.toRowW.claim.pre args=true) (hwl:WellAll P h vals args) :
  ∃a vs ns,vals=[Value.ref a]/\args=[WData.list (ns.map WData.int)]/\h.get? a=some { cls:=.type "list",data:=.seq vs.toArray }/\IntsAre vs ns/\ns.length<=n:=by
 have hsh:WShape.hasAll [] args [.list .int]=true:=(pre_splitW hpre).1
 have hc:l.pre.holds [] { args:=args }=true:=(pre_splitW hpre).2
 obtain⟨d,r,rfl,h1,h2⟩:=hasAllW_cons hsh
 obtain rfl:=hasAllW_nil h2
 obtain⟨xs,rfl,h3⟩:=hasW_list h1
 obtain⟨ns,rfl⟩:=items_int h3
 have hlen:ns.length<=n:=by
  unfold OpenLaw.pre at hc
  have h4:(WTm.not (.lt (.lit (.int (n:Int))) (.len (.arg 0)))).holds [] { args:=[.list (ns.map .int)] }=true:=by
   have h4:=(holds_andW hc).1
   rw [hn] at h4
   exact h4
  have h5:=condW_of h4 (w_not (w_lt w_lit (w_len_list (w_arg rfl))))
  rw [List.length_map] at h5
  refine Nat.le_of_not_lt λq=>?_
  have q':(n:Int)<((ns.length:Nat):Int):=by omega
  first
   | (rw [decide_eq_true q'] at h5;exact absurd h5 (by decide))
   | (simp at h5;omega)
 cases hwl with
 | cons w1 w2 =>
  cases w2
  cases w1 with
  | list ho hall=>exact⟨_,_,ns,rfl,rfl,ho,qCU ns _ hall,hlen⟩
theorem post_true (l:OpenLaw) (args:List WData):l.row.toRowW.claim.post args (.bool true) args=true:=
 postW_of (r:=l.row.toRowW) (X:=(true == true))
  (show WShape.has [] (.bool true) .bool=true by first|rfl|decide|simp [WShape.has,WShape.arms,WShape.armsAll])
  (show (WTm.eq .res (.lit (.bool true))).value [] { args:=args,res:=some (.bool true),after:=args }=some (.bool (true == true)) from w_eq_bool (w_res rfl) w_lit) rfl
section
variable {prog:Program}{w:World}{A:Around}{E:Value->Shared->Prop}{s:Shared}{K:Frag}
end
end Att
namespace L2
open PySem PySem.Spec PyProof.Rows
theorem qD0:∀{vs:List Value}{ns:List Int},IntsAre vs ns->Vals (ns.map V.int) vs
 | _,_,.nil=>.nil
 | _,_,.cons n t h=>.cons ⟨t,rfl⟩ (qD0 h)
noncomputable def qPC (H:Hp):Prop:=∀b,H b=none∨∃o xs,H b=some (.frz o (.lst xs))
theorem law_call {P:Program}{w:World}{K:PySem.W.Frag}{mg mb:Str->Option Value}{CX:CXT}{k:Nat}{fa a:Addr}{fd:FuncData}{x:Str}{sp:Sp}{s₁:Shared}{vs:List Value}{ns:List Int}
  (KX:K.In s₁.heap) (hns:s₁.heap.Ns mainGlobals mg) (hb:s₁.heap.Ns builtinsNs mb) (hbb:∀x:Str,x≠"__name__"->mb x=bootBuiltins x) (hlim:s₁.heap.NoLimit) (hg:s₁.gens=#[])
  (ha:s₁.heap.get? a=some { cls:=.type "list",data:=.seq vs.toArray }) (hi:IntsAre vs ns) (hl:ns.length<=sizeLine) (hr:Room k callerA)
  (F:∀base:Heap,K.In base->base.Ns mainGlobals mg->FnOk P w K mg base CX k fa fd [x] sp) (hbind:∀(s:Shared) (u:Value),BindsTo s fd ⟨[u],[]⟩ [(x,u)])
  (hsp:∀H:Hp,qPC H->SqL K H a (ns.map V.int)->sp [.ref a] H (λv _=>v=.bl true) λ_ _ _=>False)
  (hCX:∀H e s',CX [] H s₁ (λ_ _ _=>False) e s'->False) :
  codeAny (model P w) callerA (.call (.ref fa) ⟨[.ref a],[]⟩) (λr s'=>r=.ok (.ret (.bool true))/\OldK s₁.heap s'.heap/\s'.os=s₁.os/\AllBare s'.gens) s₁:=by
 have rv:=qD0 hi
 have lenV:=hi.length
 have core:∀H:Hp,qPC H->SqL K H a (ns.map V.int)->HOk P w H s₁.heap->(∀b,H b≠none->b=a)->(H a≠none->K.lookup a=none) ->
   codeAny (model P w) callerA (.call (.ref fa) ⟨[.ref a],[]⟩) (λr s'=>r=.ok (.ret (.bool true))/\OldK s₁.heap s'.heap/\s'.os=s₁.os/\AllBare s'.gens) s₁:=by
  intro H hO hS hok hA hK
  have base_of:∀{b:Addr} {o:Obj},s₁.heap.get? b=some o->H b=none->(qJg s₁.heap H).get? b=some o:=λe n=>qJf e n
  have noA:∀{b:Addr} {o:Obj} {es:Array DictEntry} {ep:Nat},s₁.heap.get? b=some o->o.data=.dict es ep->H b=none:=λ{b o es ep} e d=>by
   cases q:H b with
   | none=>rfl
   | some u =>
    have e':b=a:=hA b (by rw [q];simp)
    subst e'
    rw [ha] at e;cases e
    have d':Data.seq vs.toArray _=Data.dict es ep:=d
    cases d'
  have nsK:∀{b:Addr} {m:Str->Option Value},s₁.heap.Ns b m->(qJg s₁.heap H).Ns b m:=λ{b m} ⟨o,es,ep,e,d,r⟩=>⟨o,es,ep,base_of e (noA e d),d,r⟩
  have hKb:K.In (qJg s₁.heap H):=λb o e=>base_of (KX b o e) (by
   cases q:H b with
   | none=>rfl
   | some u =>
    have e':b=a:=hA b (by rw [q];simp)
    subst e'
    rw [hK (by rw [q];simp)] at e;cases e)
  have hM:Mod K mg (qJg s₁.heap H):=⟨hKb,nsK hns,⟨mb,nsK hb,hbb⟩,let ⟨mc,h1,h2⟩:=hlim;⟨mc,nsK h1,h2⟩⟩
  have e0:Env0 P w K mg (qJg s₁.heap H) callerA [] s₁ H:=⟨rfl,hM,λb o e=>qLl e,Nat.le_of_eq (qHk _ _),trivial,λb hb=>absurd (show b∈([]:List Addr) from hb) (by simp),hok,.of_eq hg⟩
  refine codeAny_mono ((F _ hKb (nsK hns)).run callerA [] s₁ H ⟨[.ref a],[]⟩ [.ref a] [.ref a] _ _ hr e0 (hbind s₁ (.ref a)) (.cons rfl .nil) (hsp H hO hS)) λr s' h=>?_
  cases r with
  | error e=>exact (hCX H e s' h).elim
  | ok fl =>
   cases fl with
   | next=>exact False.elim h
   | brk=>exact False.elim h
   | cont=>exact False.elim h
   | ret u =>
    obtain⟨v,H',os,bare,un,hok',r',q⟩:=h
    have q':v=.bl true:=q
    subst q'
    obtain rfl:u=Value.bool true:=r'
    refine⟨rfl,OldK.of_keep λb o e=>?_,os,bare⟩
    cases q:H b with
    | none=>exact un.keep b o e q (by intro z;exact absurd (show b∈([]:List Addr) from z) (by simp)) (by simp)
    | some u =>
     rcases hO b with z|⟨ob,xs,z⟩
     ·rw [q] at z;cases z
     ·have z2:=un.frzs b ob _ z
      obtain⟨e1,_⟩:=hok b _ z
      obtain⟨e2,_⟩:=hok' b _ z2
      rw [e] at e1;cases e1
      exact e2
 cases hk:K.lookup a with
 | some o =>
  have e:=KX a o hk
  rw [ha] at e
  cases e
  refine core (λ_=>none) (λ_=>.inl rfl) (.inr ⟨_,vs.toArray,_,hk,rfl,rfl,rfl,by rw [List.size_toArray,lenV];exact hl,by simpa using rv⟩) (λb u z=>by have z':(none:Option HO)=some u:=z;cases z') (λb z=>absurd rfl z) λz=>absurd rfl z
 | none =>
  refine core (λb=>if b=a then some (.frz { cls:=.type "list",data:=.seq vs.toArray } (.lst (ns.map V.int))) else none) (λb=>?_) (.inl (.inr ⟨{ cls:=.type "list",data:=.seq vs.toArray },if_pos rfl⟩)) (λb u z=>?_) (λb z=>?_) λ_=>hk
  ·by_cases hb:b=a
   ·exact .inr ⟨_,_,if_pos hb⟩
   ·exact .inl (if_neg hb)
  ·by_cases hb:b=a
   ·have z':=(if_pos hb).symm.trans z
    cases z'
    subst hb
    exact⟨ha,by rw [List.length_map];exact hl,vs,_,rv,ha⟩
   ·have z':=(if_neg hb).symm.trans z
    cases z'
  ·by_cases hb:b=a
   ·exact hb
   ·exact absurd (if_neg hb) z
end L2
namespace L2
open PySem PySem.Spec PyProof.Rows
end L2
namespace L2
open PySem PySem.Spec PyProof.Rows
noncomputable def qBR (s:Stmt):Arguments:=match s with
 | .FunctionDef _ a _ _ _ _ _ _ _ _=>a
 | _=>{ posonlyargs:=[],args:=[],vararg:=none,kwonlyargs:=[],kw_defaults:=[],kwarg:=none,defaults:=[] }
noncomputable def qAJ (s:Stmt):List Stmt:=match s with
 | .FunctionDef _ _ b _ _ _ _ _ _ _=>b
 | _=>[]
noncomputable def qAb (s:Stmt):Scope:=match s with
 | .FunctionDef _ _ _ _ _ _ sc _ _ _=>sc
 | _=>{ kind:=.function,names:=[],isGenerator:=false,isCoroutine:=false }
noncomputable abbrev CX0:CXT:=λ_ _ _ _ _ _=>False
noncomputable abbrev E0:XK:=λ_ _ _=>False
theorem qF0 {X:Cx}:qCs CX0 X E0:=λ_ _ _ _ _ _ _ h=>h.elim
structure Fun (K:PySem.W.Frag) (x qual:Str) (st:Stmt) (f:Addr) (fd:FuncData):Prop where
 ex:∃(oc:Value) (od:Option Addr) (kV doc pm:Value) (an:Option Addr) (cdv ct:Value) (osl:Array (Option Value)),
  fd=PySem.W.fnOf x qual (qBR st) (qAJ st) (qAb st) .none kV doc pm an cdv ct/\K.lookup f=some ⟨oc,od,.func fd,osl⟩/\PySem.W.codeIn K cdv qual=true
 kp:PySem.W.keepIn K (.ref f)=true
section
variable {P:Program}{w:World}{K:PySem.W.Frag}{mg:Str->Option Value}{base:Heap}
theorem Fun.ok {x qual:Str}{st:Stmt}{f:Addr}{fd:FuncData}{N ps:List Str}{k:Nat}{sp:Sp}(F:Fun K x qual st f fd) (S:FnScope N ps (qAb st)) (len:∀vs H Q E,sp vs H Q E->vs.length=ps.length)
  (hbody:∀(cdv:Value) (A:Around) (outer:List Env) (s:Shared) (H:Hp) (vs:List V) (Q:VK) (E:XK),Room k (A.deeper (envOfC qual (qAb st) s.heap.objs.size f cdv))->sp vs H Q E ->
   ∃t,PSs (qJp CX0 P w K mg base N qual (qAb st) f cdv A outer s H E).nox (qAJ st) t/\t { nx:=λ_ H'=>Q .non H',rt:=Q } (start N vs) H):FnOk P w K mg base CX0 (k+1) f fd ps sp:=by
 obtain⟨oc,od,kV,doc,pm,an,cdv,ct,osl,rfl,lk,hcd⟩:=F.ex
 refine qNL lk hcd S len λA outer s H vs Q E hr hsp=>?_
 obtain⟨t,h,q⟩:=hbody cdv A outer s H vs Q E hr hsp
 exact⟨t,h.nox,q⟩
theorem Fun.binds {x qual:Str}{st:Stmt}{f:Addr}{fd:FuncData}{ps:List Str}(F:Fun K x qual st f fd)
  (h:∀(kV doc pm:Value) (an:Option Addr) (cdv ct:Value) (us:List Value),us.length=ps.length->bindArgs (PySem.W.fnOf x qual (qBR st) (qAJ st) (qAb st) .none kV doc pm an cdv ct) ⟨us,[]⟩=pure (ps.zip us)):Binds K fd ps []:=by
 obtain⟨oc,od,kV,doc,pm,an,cdv,ct,osl,rfl,lk,hcd⟩:=F.ex
 exact .all (h kV doc pm an cdv ct)
theorem qEh {x qual:Str}{st:Stmt}{f:Addr}{oc:Value}{od an:Option Addr}{osl:Array (Option Value)}{kV doc pm cdv ct:Value}(l:K.lookup f=some ⟨oc,od,.func (PySem.W.fnOf x qual (qBR st) (qAJ st) (qAb st) .none kV doc pm an cdv ct),osl⟩)
  (c:PySem.W.codeIn K cdv qual=true) (k:PySem.W.keepIn K (.ref f)=true):Fun K x qual st f (PySem.W.fnOf x qual (qBR st) (qAJ st) (qAb st) .none kV doc pm an cdv ct):=⟨⟨oc,od,kV,doc,pm,an,cdv,ct,osl,rfl,l,c⟩,k⟩
end
section
variable {X:Cx}
end
theorem qNC {A B:Prop}(h:B):if false=true then A else B:=by
 rw [if_neg Bool.false_ne_true]
 exact h
theorem qNB {A B:Prop}(h:A):if true=true then A else B:=by
 rw [if_pos rfl]
 exact h
noncomputable def Same (H H':Hp):Prop:=∀b o,H b=some o->H' b=some o
theorem Same.refl (H:Hp):Same H H:=λ_ _ h=>h
theorem Same.trans {H H1 H2:Hp}(a:Same H H1) (b:Same H1 H2):Same H H2:=λc o h=>b c o (a c o h)
theorem Same.free {H H':Hp}(e:Same H H') {l:Addr}(h:H' l=Option.none):H l=Option.none:=by
 cases q:H l with
 | none=>rfl
 | some o =>
  rw [e l o q] at h
  cases h
theorem Same.seq {K:PySem.W.Frag}{H H':Hp}{a:Addr}{xs:List V}(e:Same H H') (h:SqL K H a xs):SqL K H' a xs:=by
 rcases h with (h|⟨o,h⟩)|h
 ·exact .inl (.inl (e _ _ h))
 ·exact .inl (.inr ⟨o,e _ _ h⟩)
 ·exact .inr h
end L2
namespace L2
open PySem PySem.Spec PyProof.Rows
section
variable {κ:Type} [DecidableEq κ]
noncomputable def qGk (kvs:List (κ×V)) (k:κ):Option V:=(kvs.find? λkv=>decide (kv.1=k)).map (·.2)
noncomputable def qOs (kvs:List (κ×V)) (k:κ) (v:V):List (κ×V):=
 if (kvs.any λkv=>decide (kv.1=k))=true then kvs.map (λkv=>if kv.1=k then (kv.1,v) else kv) else kvs++[(k,v)]
noncomputable def qNU (kvs:List (κ×V)) (k:κ):List (κ×V):=kvs.filter λkv=>decide (kv.1≠k)
theorem qFa {p:κ×V}{r:List (κ×V)}{k:κ}(e:p.1=k):qGk (p::r) k=some p.2:=by simp [qGk,List.find?_cons,e]
theorem qFb {p:κ×V}{r:List (κ×V)}{k:κ}(e:¬p.1=k):qGk (p::r) k=qGk r k:=by simp [qGk,List.find?_cons,e]
theorem RelO.getD {o:Option V}{u:Option Value}{d:V}{d':Value}(r:RelO o u) (rd:RelV d d'):RelV (o.getD d) (u.getD d'):=by
 cases o with
 | none=>cases u with
  | none=>exact rd
  | some _=>exact (show False from r).elim
 | some _=>cases u with
  | none=>exact (show False from r).elim
  | some _=>exact r
theorem KV.val {kvs:List (κ×V)}{vs:List (κ×Value)}(r:KV kvs vs) (k:κ):RelO (qGk kvs k) (valueAt vs k):=by
 unfold KV at r
 induction r with
 | nil=>exact True.intro
 | @cons p q ps qs h t ih =>
  obtain⟨h1,h2⟩:=h
  by_cases e:p.1=k
  ·have e':q.1=k:=h1.symm.trans e
   have b:valueAt (q::qs) k=some q.2:=by simp [valueAt,List.find?_cons,e']
   rw [qFa e,b];exact h2
  ·have e':¬q.1=k:=λz=>e (h1.trans z)
   have b:valueAt (q::qs) k=valueAt qs k:=by simp [valueAt,List.find?_cons,e']
   rw [qFb e,b];exact ih
theorem KV.any {kvs:List (κ×V)}{vs:List (κ×Value)}(r:KV kvs vs) (k:κ):(kvs.any λkv=>decide (kv.1=k))=vs.any λkv=>decide (kv.1=k):=by
 unfold KV at r
 induction r with
 | nil=>rfl
 | cons h t ih=>rw [List.any_cons,List.any_cons,ih,h.1]
theorem KV.drop {kvs:List (κ×V)}{vs:List (κ×Value)}(r:KV kvs vs) (k:κ):KV (qNU kvs k) (without vs k):=by
 unfold KV at r ⊢
 unfold qNU without
 induction r with
 | nil=>exact .nil
 | @cons p q ps qs h t ih =>
  obtain⟨h1,h2⟩:=h
  rw [List.filter_cons,List.filter_cons]
  by_cases e:p.1=k
  ·have a:¬decide (p.1≠k)=true:=by simp [e]
   have b:¬decide (q.1≠k)=true:=by simp [h1.symm.trans e]
   rw [if_neg a,if_neg b];exact ih
  ·have e':¬q.1=k:=λz=>e (h1.trans z)
   have a:decide (p.1≠k)=true:=by simp [e]
   have b:decide (q.1≠k)=true:=by simp [e']
   rw [if_pos a,if_pos b];exact .cons ⟨h1,h2⟩ ih
theorem KV.length {kvs:List (κ×V)}{vs:List (κ×Value)}(r:KV kvs vs):kvs.length=vs.length:=Paired.length r
end
noncomputable abbrev KT (H:Hp):List (List Key×V)->List (List Key×Addr×Value)->Prop:=Paired λp q=>p.1=q.1/\H q.2.1=some (.tup (p.1.map kV))/\RelV p.2 q.2.2
theorem KT.val {H:Hp}{kvs:List (List Key×V)}{xs:List (List Key×Addr×Value)}(r:KT H kvs xs) (k:List Key):RelO (qGk kvs k) ((atKey xs k).map (·.2)):=by
 induction r with
 | nil=>exact True.intro
 | @cons p q ps qs h t ih =>
  obtain⟨h1,_,h2⟩:=h
  by_cases e:p.1=k
  ·have e':q.1=k:=h1.symm.trans e
   have b:atKey (q::qs) k=some q.2:=by simp [atKey,List.find?_cons,e']
   rw [qFa e,b];exact h2
  ·have e':¬q.1=k:=λz=>e (h1.trans z)
   have b:atKey (q::qs) k=atKey qs k:=by simp [atKey,List.find?_cons,e']
   rw [qFb e,b];exact ih
theorem KT.keeps {H H':Hp}{kvs:List (List Key×V)}{xs:List (List Key×Addr×Value)}(r:KT H kvs xs) (ht:∀b ys,H b=some (.tup ys)->H' b=some (.tup ys)):KT H' kvs xs:=
 Paired.mapP r λ_ _ z=>⟨z.1,ht _ _ z.2.1,z.2.2⟩
section
variable {P:Program}{w:World}{H:Hp}{h:Heap}{a:Addr}
end
noncomputable def DGet (H:Hp) (a:Addr) (y:V) (r:Option V):Prop:=
 (∃kvs k,Rd H a (.dK kvs)/\y=kV k/\r=qGk kvs k)∨∃kvs k b,Rd H a (.dT kvs)/\y=.ref b/\H b=some (.tup (k.map kV))/\r=qGk kvs k
noncomputable def DPut (H:Hp) (a:Addr) (y v:V) (H':Hp):Prop:=
 (∃kvs k,H a=some (.dK kvs)/\y=kV k/\kvs.length<sizeLine/\H'=upd H a (.dK (qOs kvs k v))) ∨
 ∃kvs k b,H a=some (.dT kvs)/\y=.ref b/\H b=some (.tup (k.map kV))/\kvs.length<sizeLine/\H'=upd H a (.dT (qOs kvs k v))
theorem DGet.k {H:Hp}{a:Addr}{kvs:List (Key×V)}{k:Key}(e:H a=some (.dK kvs)):DGet H a (kV k) (qGk kvs k):=.inl ⟨kvs,k,.inl e,rfl,rfl⟩
theorem DGet.t {H:Hp}{a b:Addr}{kvs:List (List Key×V)}{k:List Key}(e:H a=some (.dT kvs)) (eb:H b=some (.tup (k.map kV))):DGet H a (.ref b) (qGk kvs k):=.inr ⟨kvs,k,b,.inl e,rfl,eb,rfl⟩
theorem DPut.k {H:Hp}{a:Addr}{kvs:List (Key×V)}{k:Key}{v:V}(e:H a=some (.dK kvs)) (hl:kvs.length<sizeLine):DPut H a (kV k) v (upd H a (.dK (qOs kvs k v))):=.inl ⟨kvs,k,e,rfl,hl,rfl⟩
theorem DPut.t {H:Hp}{a b:Addr}{kvs:List (List Key×V)}{k:List Key}{v:V}(e:H a=some (.dT kvs)) (eb:H b=some (.tup (k.map kV))) (hl:kvs.length<sizeLine) :
  DPut H a (.ref b) v (upd H a (.dT (qOs kvs k v))):=.inr ⟨kvs,k,b,e,rfl,eb,hl,rfl⟩
section
variable {X:Cx}{pins:List (Addr×Obj)}{σ:St}{H:Hp}{s:Shared}{a:Addr}{y v:V}{u r:Value}{o:Option V}{A:Around}{E:Value->Shared->Prop}
theorem Inv.big (I:Inv X pins σ H s):sysModules<s.heap.objs.size:=by
 have h:mainGlobals<s.heap.objs.size:=(I.mod.glob.keeps I.bk).lt
 exact Nat.lt_trans (by decide) h
end
section
variable {X:Cx}{pins:List (Addr×Obj)}{σ:St}{H:Hp}{s:Shared}{a:Addr}{kvs:List (Key×V)}{k:Key}{u:Value}{A:Around}{E:Value->Shared->Prop}
end
section
variable {X:Cx}{o i e value:Expr}{pos pos' tpos:Pos}{td ty tv:TE}
end
section
variable {X:Cx}{pos:Pos}
end
end L2
namespace Dw
open PySem PySem.Spec PyProof.Rows L2
noncomputable def Its (lo st:Int) (n:Nat):It:={ go:=λi _=>i<n,yld:=λi H x H'=>H'=H/\x=V.int (lo+(i:Nat) * st),stop:=λi _=>n<=i }
theorem qJS (a b c:Int):Builtin.Range.rangeSize a b c=qFX a b c:=rfl
theorem qJT (a b c:Int) (h:c≠0):0<=qFX a b c/\qFX a b c<=(b - a).natAbs:=by
 unfold qFX
 split
 ·split
  ·have h1:0<=(b - a - 1) / c:=Int.ediv_nonneg (by omega) (by omega)
   have h2:(b - a - 1) / c<=b - a - 1:=Int.ediv_le_self _ (by omega)
   omega
  ·omega
 ·split
  ·have h1:0<=(a - b - 1) / -c:=Int.ediv_nonneg (by omega) (by omega)
   have h2:(a - b - 1) / -c<=a - b - 1:=Int.ediv_le_self _ (by omega)
   omega
  ·omega
theorem qGO {a b c:Int}(h1:-(2^62)<=a) (h2:a<2^62) (h3:-(2^62)<=b) (h4:b<2^62) (h5:c≠0) (h6:c.natAbs<2^30):Builtin.Range.small a b c=true:=by
 have hb:=qJT a b c h5
 unfold Builtin.Range.small
 rw [qJS]
 generalize qFX a b c=z at hb
 have f:∀x:Int,-(2^63)<=x->x<2^63->Builtin.Range.rangeFitsLong x=true:=by
  intro x p q
  simp [Builtin.Range.rangeFitsLong];omega
 rw [f a (by omega) (by omega),f b (by omega) (by omega),f c (by omega) (by omega),f z (by omega) (by omega)]
 simp only [Bool.true_and,Bool.or_eq_true]
 right
 split
 ·exact f _ (by omega) (by omega)
 ·exact f _ (by omega) (by omega)
theorem qFc {P:Program}{w:World}{K:PySem.W.Frag}{tg:Expr}(j:Addr) (lo st:Int) (n:Nat):Turn P w K tg (Its lo st n) [j] j (λi h=>IsRangeIter h j (lo+(i:Nat) * st) ((n:Int) - (i:Nat)) st) where
 mem:=by simp
 obj:=λi h y b hb=>by
  have e:b=j:=by simpa using hb
  subst e
  exact⟨_,y,λv z=>by
   have z':Data.fields _=Data.cell v:=z
   cases z'⟩
 keep:=λi h h' y k=>k j (by simp) _ y
 item:=by
  intro X hP hw hK hc i pins s σ H E I hf y hg
  subst hP hw hK
  obtain⟨u0,u1,u2,u3,u4,u5⟩:=hf j (by simp)
  have W:=Walks.range (prog:=X.prog) (w:=X.w) (I.ok.hd hc) j lo st n
  refine W.item i s _ _ hg y λv h' tk hv y' kk=>?_
  obtain⟨t,rfl⟩:=hv
  have J:Inv X pins σ H { s with heap:=h',toks:=tk }:=I.turned (λb o hb e=>kk b o (by simpa using hb) e) u0 u1 u3 u4 u5
  exact⟨_,rfl,qHm (s:={ s with heap:=h',toks:=tk }) (n:="range_iterator") y' rfl rfl (by decide) ⟨.int (lo+i * st),H,J,⟨t,rfl⟩,⟨rfl,rfl⟩,y',λb hb=>(hf b hb).1⟩⟩
 done:=by
  intro X hP hw hK hc i pins s σ H E I hf y hg
  subst hP hw hK
  obtain⟨u0,u1,u2,u3,u4,u5⟩:=hf j (by simp)
  exact wpAny_pyNext_range_end (I.ok.hd hc) y (by have:n<=i:=hg;omega) λh' eb=>⟨rfl,I.turned (t':=s.toks) (λb o hb e=>eb b o hb e) u0 u1 u3 u4 u5⟩
 self:=λ_ _ _ _ _ y h=>wpAny_pyIter_rangeiter y h
section
variable {X:Cx}{tg:Expr}
theorem qMw {pins:List (Addr×Obj)}{σ:L2.St}{H:Hp}{s:Shared}{R:It->Hp->Prop}{E:Value->Shared->Prop}{lo hi st:Int}{t u v:Tok}{tk:Nat}(I:L2.Inv X pins σ H s) (h1:-(2^62)<=lo) (h2:lo<2^62) (h3:-(2^62)<=hi) (h4:hi<2^62) (h5:st≠0) (h6:st.natAbs<2^30)
  (q:R (Its lo st (qFX lo hi st).toNat) H):wpAny (model X.prog X.w) X.A (pyIter (.ref s.heap.objs.size)) (PIE X pins σ tg R) E { s with heap:=s.heap.push { cls:=.type "range",data:=.fields #[.int lo t,.int hi u,.int st v] },toks:=tk }:=by
 refine wpAny_pyIter_range (IsRange.new ..) (qGO h1 h2 h3 h4 h5 h6) ?_
 have J:Inv X pins σ H { s with heap:=s.heap.push { cls:=.type "range",data:=.fields #[.int lo t,.int hi u,.int st v] },toks:=tk }:=I.kept λb o e=>Heap.get?_push_of_some _ e
 refine⟨(s.heap.push { cls:=.type "range",data:=.fields #[.int lo t,.int hi u,.int st v] }).objs.size,[(s.heap.push { cls:=.type "range",data:=.fields #[.int lo t,.int hi u,.int st v] }).objs.size],_,_,H,rfl,
  J.kept (t':=tk) λb o e=>Heap.get?_push_of_some _ e,qFc _ lo st (qFX lo hi st).toNat,?_,λb hb=>?_,q⟩
 ·have e1:lo+((0:Nat):Int) * st=lo:=by simp
  have e2:(((qFX lo hi st).toNat:Nat):Int) - ((0:Nat):Int)=Builtin.Range.rangeSize lo hi st:=by
   have:=qJT lo hi st h5
   rw [qJS];omega
  show IsRangeIter _ _ (lo+((0:Nat):Int) * st) ((((qFX lo hi st).toNat:Nat):Int) - ((0:Nat):Int)) st
  rw [e1,e2]
  exact Heap.get?_push_size _ rfl
 ·have e:b=(s.heap.push { cls:=.type "range",data:=.fields #[.int lo t,.int hi u,.int st v] }).objs.size:=by simpa using hb
  subst e
  exact J.fpOk (Nat.le_refl _) (J.hok.fresh (Nat.le_refl _))
noncomputable def qPa (ta:TA):TI:=fun σ H R=>ta σ H λvs H1=>∃i j c:Int,vs=[.int i,.int j,.int c]/\(-(2^62)<=i/\i<2^62/\-(2^62)<=j/\j<2^62/\c≠0/\c.natAbs<2^30)/\R (Its i c (qFX i j c).toNat) H1
theorem qG3 (x y:Int) (h:y.natAbs<2^30):Builtin.divisionGoesByPylong x y=false:=by
 unfold Builtin.divisionGoesByPylong
 simp only [Bool.and_eq_false_iff,decide_eq_false_iff_not]
 left
 split
 ·decide
 ·have:y.natAbs.log2<30:=by
   by_cases h0:y.natAbs=0
   ·rw [h0];decide
   ·exact (Nat.log2_lt h0).mpr h
  omega
theorem qGT {a b c:Expr}{ta:TA}{p pos:Pos}(hg:Gl X "range") (hm:X.mg "range"=none) (ha:PA X [a,b,c] ta) (hs:starEach [a,b,c] X.env=[(false,eval a X.env),(false,eval b X.env),(false,eval c X.env)]) (hs2:starEach [b,c] X.env=[(false,eval b X.env),(false,eval c X.env)]) :
  PI X tg (.Call (.Name "range" p) [a,b,c] [] pos) (qPa ta):=by
 intro pins s σ H R I h
 refine Call_ (qDj I hg hm boot_range (PyProof.Rows.callWith_type1 (thn (ha pos pins s σ H _ I h) λus s1 ⟨vs,H1,J,r1,q1⟩=>?_) (by rw [hs,hs2]) (by rw [hs2];rfl)))
 obtain⟨i,j,k,e,⟨q1,q2,q3,q4,q5,q6⟩,q⟩:=q1
 subst e
 cases r1 with
 | cons r rr =>
  cases rr with
  | cons r' rr =>
   cases rr with
   | cons r'' rr =>
    cases rr
    obtain⟨t,rfl⟩:=r
    obtain⟨t',rfl⟩:=r'
    obtain⟨t'',rfl⟩:=r''
    exact call_range_3 q5 (qMw J q1 q2 q3 q4 q5 q6 q) (.inl (qG3 _ _ q6))
end
end Dw
namespace Dw
open PySem PySem.Spec PyProof.Rows L2
section
variable {prog:Program}{w:World}{A:Around}{E:Value->Shared->Prop}{s:Shared}
end
section
variable {X:Cx}{tg:Expr}
end
end Dw
namespace Dw
open PySem PySem.Spec PyProof.Rows L2 HT
section
variable {prog:Program}{w:World}{A:Around}{E:Value->Shared->Prop}{s:Shared}
theorem qHt {t:Addr}{items:Array Value}{Q:Bool->Shared->Prop}(ht:IsTup s.heap t items) (h:Q true s):wpAny (model prog w) A (Builtin.Tuple.tupleIsExact (.ref t)) Q E s:=by
 unfold Builtin.Tuple.tupleIsExact
 exact wpAny_bind (wpAny_typeOf ht.typeIs (wpAny_pure h))
theorem qGs {t sl:Addr}{items:Array Value}{vl vu:Value}{lo hi:Option Int}{Q:Value->Shared->Prop}(ht:IsTup s.heap t items) (hs:s.heap.IsSliceOf sl vl vu .none) (pl:IsPart vl lo) (pu:IsPart vu hi)
  (hw:sIx items.size 0 lo=0/\sIx items.size items.size hi=items.size) (h:Q (.ref t) s):wpAny (model prog w) A (getItem (.ref t) (.ref sl)) Q E s:=by
 obtain⟨os,hos,hcs,hds⟩:=id hs
 have hTs:s.TypeIs (.ref sl) "slice":=⟨os,hos,hcs⟩
 unfold getItem
 try with_reducible refine wpAny_holding ?_
 first|refine wpAny_bind (wpAny_pure ?_)|skip
 refine wpAny_bind (wpAny_sequenceKey ht.typeIs (by decide) ?_)
 refine wpAny_bind (wpAny_callSpecial?_slot (name:=Str.ofString "__getitem__") ht.typeIs PyProof.Rows.slot_tuple_getitem
  (wpAny_call_entry PyProof.Rows.slot_tuple_getitem ht.typeIs entry_tuple_getitem ?_ (args_tuple_getitem _ _)))
 show wpAny _ _ (Builtin.Tuple.tupleItemsOf (.ref t) >>= _) _ _ s
 refine wpAny_bind (tupleItemsOf_ ht (wpAny_bind (wpAny_typeOf hTs ?_)))
 rw [if_pos (by decide)]
 refine wpAny_bind (qBI hs pl pu ?_)
 have yes:(((sIx items.size 0 lo:Nat):Int) == 0&&(1:Int) == 1&&(sIx items.size items.size hi - sIx items.size 0 lo) == items.size)=true:=by
  rw [hw.1,hw.2];simp
 show wpAny _ _ (if (((sIx items.size 0 lo:Nat):Int) == 0&&(1:Int) == 1&&(sIx items.size items.size hi - sIx items.size 0 lo) == items.size)=true then _ else _) _ _ s
 rw [if_pos yes]
 refine wpAny_bind (qHt ht ?_)
 rw [if_pos rfl]
 refine wpAny_bind (wpAny_rule ?_)
 first
  | exact wpAny_bind (wpAny_pure (wpAny_pure ⟨_,rfl,wpAny_pure h⟩))
  | exact wpAny_bind (wpAny_pure ⟨_,rfl,wpAny_pure h⟩)
  | exact wpAny_pure ⟨_,rfl,wpAny_pure h⟩
end
section
variable {X:Cx}
noncomputable def qPX (K:PySem.W.Frag):V->Option Int->Option Int->Hp->VK->Prop:=λx lo hi H Q=>∃a xs,x=.ref a/\SqT K H a xs/\(HT.sIx xs.length 0 lo=0/\HT.sIx xs.length xs.length hi=xs.length)/\Q (.ref a) H
theorem qMG:SlR X (qPX X.K):=by
 intro pins s σ H x v vl vu lo hi sl Q I rx hs pl pu h
 obtain⟨a,xs,rfl,hx,hw,q⟩:=h
 cases rx
 obtain⟨its,r,ht,hz⟩:=I.tuple hx
 have hlen:its.toArray.size=xs.length:=by rw [List.size_toArray];exact r.length.symm
 exact⟨"tuple",_,PyProof.Rows.slot_tuple_getitem.lookup,ht.typeIs,qGs ht hs pl pu (by rw [hlen];exact hw) ⟨.ref a,H,I,rfl,q⟩⟩
theorem qLQ {prog:Program}{w:World}{A:Around}{E:Value->Shared->Prop}{s:Shared}{t b:Addr}{ws:Array Value}{Q:Value->Shared->Prop}(ht:IsTup s.heap t #[]) (hb:IsTup s.heap b ws) (h:Q (.ref b) s):wpAny (model prog w) A (binaryOp .Add (.ref t) (.ref b)) Q E s:=by
 obtain⟨⟨cls,dd,data,sl⟩,ho,hc,n,hd⟩:=id ht
 obtain⟨⟨cls2,dd2,data2,sl2⟩,ho2,hc2,n2,hd2⟩:=id hb
 simp only at hc hd hc2 hd2
 subst hc hd hc2 hd2
 exact concat_meets ⟨_,ho,rfl⟩ ⟨_,ho2,rfl⟩ noFill_tuple_add seq_tuple_add PySem.F.slot_tuple_add PySem.F.entry_tuple_add (PySem.F.args_tuple_add_2 _ _) (tuple_addW0 t b #[] ws n n2 dd dd2 sl sl2 rfl) ⟨ho,ho2,h⟩
theorem op_catN:OpR X (binaryOp .Add) (λx y H Q=>∃a b ys,x=.ref a/\y=.ref b/\SqT X.K H a []/\SqT X.K H b ys/\Q (.ref b) H):=by
 intro pins s σ H x y v u Q I rx ry h
 obtain⟨a,b,ys,rfl,rfl,ha,hb,q⟩:=h
 cases rx
 cases ry
 obtain⟨its,r1,p1,_⟩:=I.tuple ha
 obtain⟨its2,r2,p2,_⟩:=I.tuple hb
 cases r1
 exact qLQ p1 p2 ⟨.ref b,H,I,rfl,q⟩
end
end Dw
namespace Dw
open PySem PySem.Spec PyProof.Rows L2
section
variable {X:Cx}
theorem qDf:∀{ts:List Str}{us:List Value},Vals (ts.map V.str) us->∃l:List (Str×Tok),us=strValues l/\ts=l.map (·.1)
 | [],_,h=>by cases h;exact⟨[],rfl,rfl⟩
 | t::ts,_,h=>by
  cases h with
  | cons r rr =>
   obtain⟨k,rfl⟩:=r
   obtain⟨l,e1,e2⟩:=qDf rr
   exact⟨(t,k)::l,by rw [e1];rfl,by rw [e2];rfl⟩
noncomputable def qOP (K:PySem.W.Frag):V->List V->Hp->VK->Prop:=λx vs H Q=>∃(sep:Str) (p:Addr) (ts:List Str),x=.str sep/\vs=[.ref p]/\SqL K H p (ts.map V.str)/\ts.toArray.foldl (λn t=>n+t.length+sep.length) 0<=sizeLine/\(qCv sep ts).length<=sizeLine/\Q (.str (qCv sep ts)) H
theorem qLo:MtR X "str.join" (qOP X.K):=by
 intro pins s σ H x vs v us Q I rx rv h
 obtain⟨sep,p,ts,rfl,rfl,hq,hz,hz2,q⟩:=h
 obtain⟨tk,rfl⟩:=rx
 obtain⟨u,rfl,ru⟩:=rv.one
 cases ru
 obtain⟨its,r,pl,_⟩:=I.list hq
 obtain⟨l,rfl,rfl⟩:=qDf r
 have hl:Builtin.Str.tooLong ((l.map (·.1)).toArray.foldl (λn t=>n+t.length+sep.length) 0)=false:=by
  unfold Builtin.Str.tooLong;rw [decide_eq_false_iff_not];omega
 refine call_meets F.slot_str_join (typeIs_str _ _ _) F.entry_str_join (F.args_str_join_2 _ _) (meets_str_join_list sep tk p l hl) ⟨pl.isList,?_⟩
 match l,q,hz2 with
 | [],q,hz2=>exact⟨hz2,.str _,H,I.tok _,⟨_,rfl⟩,q⟩
 | [a],q,hz2=>exact⟨.str _,H,I,⟨_,rfl⟩,q⟩
 | a::b::r,q,hz2=>exact⟨hz2,.str _,H,I.tok _,⟨_,rfl⟩,q⟩
noncomputable def tFv (te:TE):TE:=fun σ H Q=>te σ H λx H1=>(∃i:Int,x=.int i/\i.natAbs.log2<1920/\Q (.str (Str.ofString (toString i))) H1)∨∃y:Str,x=.str y/\y.length<=sizeLine/\Q (.str y) H1
theorem qOY {e:Expr}{te:TE}{pos:Pos}(he:PE X e te):PE X (.FormattedValue e (-1) none pos) (tFv te):=by
 intro pins s σ H Q I h
 refine wpAny_FormattedValue_plain (thn (he pins s σ H _ I h) λv s1 ⟨x,H1,I1,r1,h⟩=>?_)
 rcases h with ⟨i,e1,hi,q⟩|⟨y,e1,hi,q⟩
 ·subst e1
  obtain⟨t,rfl⟩:=r1
  exact wpAny_formatField_int hi ⟨.str _,H1,(I1.tok _).tok _,⟨_,rfl⟩,q⟩
 ·subst e1
  obtain⟨t,rfl⟩:=r1
  exact wpAny_formatField_str ⟨.str _,H1,I1,⟨_,rfl⟩,q⟩ ⟨.str _,H1,I1.tok _,⟨_,rfl⟩,q⟩ hi
noncomputable abbrev TJ:=Str->L2.St->Hp->(Str->Hp->Prop)->Prop
noncomputable def PJ (X:Cx) (es:List Expr) (t:TJ):Prop:=∀(pins:List (Addr×Obj)) (s:Shared) (σ:L2.St) (H:Hp) (acc:Str) (Q:Str->Hp->Prop),Inv X pins σ H s->t acc σ H Q ->
 Joins (model X.prog X.w) X.A X.xe (evalEach es X.env) acc (λout s'=>∃H',Inv X pins σ H' s'/\Q out H') s
noncomputable def qOC:TJ:=λacc _ H Q=>Q acc H
noncomputable def qMj (te:TE) (t:TJ):TJ:=λacc σ H Q=>te σ H λx H1=>∃y,x=.str y/\(acc++y).length<=sizeLine/\t (acc++y) σ H1 Q
theorem qMX:PJ X [] qOC:=λpins s σ H acc Q I h=>⟨H,I,h⟩
theorem qK3 {e:Expr}{es:List Expr}{te:TE}{t:TJ}(he:PE X e te) (hr:PJ X es t):PJ X (e::es) (qMj te t):=by
 intro pins s σ H acc Q I h
 refine thn (he pins s σ H _ I h) λv s1 ⟨x,H1,I1,r1,y,e1,hz,q⟩=>?_
 subst e1
 obtain⟨t',rfl⟩:=r1
 exact⟨y,t',rfl,hz,hr pins s1 σ H1 _ Q I1 q⟩
theorem qF4 {M:Model}{A:Around}{E:Value->Shared->Prop}{Q Q':Str->Shared->Prop}(hm:∀o s,Q o s->Q' o s):∀(parts:List (Sem Value)) (acc:Str) (s:Shared),Joins M A E parts acc Q s->Joins M A E parts acc Q' s:=by
 intro parts
 induction parts with
 | nil=>intro acc s h;exact hm _ _ h
 | cons x r ih =>
  intro acc s h
  exact wpAny_mono h (λv s1 ⟨y,t,e,hz,h'⟩=>⟨y,t,e,hz,ih _ _ h'⟩) λ_ _ e=>e
theorem qGW {a b:Expr}{es:List Expr}{t:TJ}{pos:Pos}(h:PJ X (a::b::es) t):PE X (.JoinedStr (a::b::es) pos) (fun σ H Q=>t Str.empty σ H λout H'=>out.length<=sizeLine/\Q (.str out) H'):=by
 intro pins s σ H Q I hq
 refine wpAny_JoinedStr (qF4 ?_ _ _ _ (h pins s σ H Str.empty _ I hq))
 rintro out s1 ⟨H',I',hz,q⟩
 exact⟨hz,.str out,H',I'.tok _,⟨_,rfl⟩,q⟩
end
end Dw
namespace Dw
open PySem PySem.Spec PyProof.Rows L2
theorem qIs {P:Program}{w:World}{K:PySem.W.Frag}{tg:Expr}(j:Addr) (lo st:Int) (n:Nat):Turn P w K tg (Its lo st n) [j] j (λi h=>IsLongIter h j (lo+(i:Nat) * st) ((n:Int) - (i:Nat)) st) where
 mem:=by simp
 obj:=λi h y b hb=>by
  have e:b=j:=by simpa using hb
  subst e
  exact⟨_,y,λv z=>by
   have z':Data.fields _=Data.cell v:=z
   cases z'⟩
 keep:=λi h h' y k=>k j (by simp) _ y
 item:=by
  intro X hP hw hK hc i pins s σ H E I hf y hg
  subst hP hw hK
  obtain⟨u0,u1,u2,u3,u4,u5⟩:=hf j (by simp)
  have W:=Walks.longrange (prog:=X.prog) (w:=X.w) (I.ok.hd hc) j lo st n
  refine W.item i s _ _ hg y λv h' tk hv y' kk=>?_
  obtain⟨t,rfl⟩:=hv
  have J:Inv X pins σ H { s with heap:=h',toks:=tk }:=I.turned (λb o hb e=>kk b o (by simpa using hb) e) u0 u1 u3 u4 u5
  exact⟨_,rfl,qHm (s:={ s with heap:=h',toks:=tk }) (n:="longrange_iterator") y' rfl rfl (by decide) ⟨.int (lo+i * st),H,J,⟨t,rfl⟩,⟨rfl,rfl⟩,y',λb hb=>(hf b hb).1⟩⟩
 done:=by
  intro X hP hw hK hc i pins s σ H E I hf y hg
  subst hP hw hK
  obtain⟨u0,u1,u2,u3,u4,u5⟩:=hf j (by simp)
  exact wpAny_pyNext_long_end (I.ok.hd hc) y (by have:n<=i:=hg;omega) λh' eb=>⟨rfl,I.turned (t':=s.toks) (λb o hb e=>eb b o hb e) u0 u1 u3 u4 u5⟩
 self:=λ_ _ _ _ _ y h=>wpAny_pyIter_longiter y h
section
variable {X:Cx}{tg:Expr}
theorem qNp {pins:List (Addr×Obj)}{σ:L2.St}{H:Hp}{s:Shared}{R:It->Hp->Prop}{E:Value->Shared->Prop}{lo hi:Int}{t u v:Tok}{tk:Nat}(I:L2.Inv X pins σ H s)
  (q:R (Its lo 1 (hi - lo).toNat) H):wpAny (model X.prog X.w) X.A (pyIter (.ref s.heap.objs.size)) (PIE X pins σ tg R) E { s with heap:=s.heap.push { cls:=.type "range",data:=.fields #[.int lo t,.int hi u,.int 1 v] },toks:=tk }:=by
 have J:Inv X pins σ H { s with heap:=s.heap.push { cls:=.type "range",data:=.fields #[.int lo t,.int hi u,.int 1 v] },toks:=tk }:=I.kept λb o e=>Heap.get?_push_of_some _ e
 have e1:lo+((0:Nat):Int) * 1=lo:=by simp
 have e2:(((hi - lo).toNat:Nat):Int) - ((0:Nat):Int)=Builtin.Range.rangeSize lo hi 1:=by rw [rangeSize_one];split<;>omega
 have fp:∀b∈[(s.heap.push { cls:=.type "range",data:=.fields #[.int lo t,.int hi u,.int 1 v] }).objs.size],qFL X pins H b:=λb hb=>by
  have e:b=(s.heap.push { cls:=.type "range",data:=.fields #[.int lo t,.int hi u,.int 1 v] }).objs.size:=by simpa using hb
  subst e
  exact J.fpOk (Nat.le_refl _) (J.hok.fresh (Nat.le_refl _))
 cases hsm:Builtin.Range.small lo hi 1 with
 | true =>
  refine wpAny_pyIter_range (IsRange.new ..) hsm ⟨_,[(s.heap.push { cls:=.type "range",data:=.fields #[.int lo t,.int hi u,.int 1 v] }).objs.size],_,_,H,rfl,J.kept (t':=tk) λb o e=>Heap.get?_push_of_some _ e,qFc _ lo 1 (hi - lo).toNat,?_,fp,q⟩
  show IsRangeIter _ _ (lo+((0:Nat):Int) * 1) ((((hi - lo).toNat:Nat):Int) - ((0:Nat):Int)) 1
  rw [e1,e2]
  exact Heap.get?_push_size _ rfl
 | false =>
  refine wpAny_pyIter_longrange (IsRange.new ..) hsm ⟨_,[(s.heap.push { cls:=.type "range",data:=.fields #[.int lo t,.int hi u,.int 1 v] }).objs.size],_,_,H,rfl,J.kept (t':=tk) λb o e=>Heap.get?_push_of_some _ e,qIs _ lo 1 (hi - lo).toNat,?_,fp,q⟩
  show IsLongIter _ _ (lo+((0:Nat):Int) * 1) ((((hi - lo).toNat:Nat):Int) - ((0:Nat):Int)) 1
  rw [e1,e2]
  exact Heap.get?_push_size _ rfl
noncomputable def qO9 (ta:TA):TI:=fun σ H R=>ta σ H λvs H1=>∃i j:Int,vs=[.int i,.int j]/\R (Its i 1 (j - i).toNat) H1
theorem qGS {a b:Expr}{ta:TA}{p pos:Pos}(hg:Gl X "range") (hm:X.mg "range"=none) (ha:PA X [a,b] ta) (hs:starEach [a,b] X.env=[(false,eval a X.env),(false,eval b X.env)]) (hs2:starEach [b] X.env=[(false,eval b X.env)]) :
  PI X tg (.Call (.Name "range" p) [a,b] [] pos) (qO9 ta):=by
 intro pins s σ H R I h
 refine Call_ (qDj I hg hm boot_range (PyProof.Rows.callWith_type1 (thn (ha pos pins s σ H _ I h) λus s1 ⟨vs,H1,I1,r1,q1⟩=>?_) (by rw [hs,hs2]) (by rw [hs2];rfl)))
 obtain⟨i,j,e,q⟩:=q1
 subst e
 cases r1 with
 | cons r rr =>
  cases rr with
  | cons r' rr =>
   cases rr
   obtain⟨t,rfl⟩:=r
   obtain⟨t',rfl⟩:=r'
   exact call_range_2 (qNp I1 q)
end
end Dw
namespace Dw
open PySem PySem.Spec PyProof.Rows L2
noncomputable abbrev Fz:=Addr->Prop
noncomputable def qQm (K:PySem.W.Frag) (a:Addr) (xs:List V):Prop:=
 ∃(o:Obj) (its:Array Value) (n:Nat),K.lookup a=some o/\o.cls=.type "list"/\o.dict=none/\o.data=.seq its n/\its.size<=sizeLine/\Vals xs its.toList
noncomputable def LsR (K:PySem.W.Frag) (H:Hp) (F:Fz) (a:Addr) (xs:List V):Prop:=(F a/\Rd H a (.lst xs))∨qQm K a xs
theorem LsR.sq {K:PySem.W.Frag}{H:Hp}{F:Fz}{a:Addr}{xs:List V}(h:LsR K H F a xs):SqL K H a xs:=h.elim (λh=>.inl h.2) .inr
noncomputable def dk (ks:List Int):List (Key×V):=ks.map λk=>(Sum.inl k,V.bl true)
@[simp] noncomputable def qJ8:D->Bool
 | .dct _ _=>true
 | _=>false
noncomputable def InsR (K:PySem.W.Frag) (H:Hp) (a:Addr) (kn:Kn) (vs:List V):Prop:=
 ∃(dx:Addr) (fs:List (Str×V)),H a=some (.ins kn.c dx fs)/\Cls K kn.c/\(∀(j:Nat) (f:Str),kn.ns[j]?=some f->NoAttr K kn.c f/\∃u,fs.lookup f=some u/\vs[j]?=some u)/\∀g,g∉kn.ns->fs.lookup g=none
mutual
noncomputable def RD (K:PySem.W.Frag) (H:Hp) (F:Fz):D->V->Prop
 | .non,v=>v=.non
 | .bl b,v=>v=.bl b
 | .int i,v=>v=.int i
 | .str x,v=>v=.str x
 | .tup ds,v=>∃a vs,v=.ref a/\SqT K H a vs/\RDs K H F ds vs
 | .lst ds,v=>∃a vs,v=.ref a/\LsR K H F a vs/\RDs K H F ds vs
 | .dct _ _,_=>False
 | .obj kn ds,v=>∃a vs,v=.ref a/\InsR K H a kn vs/\RDs K H F ds vs
noncomputable def RDs (K:PySem.W.Frag) (H:Hp) (F:Fz):List D->List V->Prop
 | [],vs=>vs=[]
 | d::ds,vs=>∃v r,vs=v::r/\RD K H F d v/\RDs K H F ds r
end
structure Keep (H:Hp) (F:Fz) (H':Hp) (F':Fz):Prop where
 tups:∀a xs,Rd H a (.tup xs)->Rd H' a (.tup xs)
 lsts:∀a xs,F a->Rd H a (.lst xs)->F' a/\Rd H' a (.lst xs)
 inss:∀a C dx fs,H a=some (.ins C dx fs)->H' a=some (.ins C dx fs)
theorem InsR.mono {K:PySem.W.Frag}{H H':Hp}{a:Addr}{kn:Kn}{vs:List V}(k:∀a C dx fs,H a=some (.ins C dx fs)->H' a=some (.ins C dx fs)):InsR K H a kn vs->InsR K H' a kn vs:=
 λ⟨dx,fs,h1,h2⟩=>⟨dx,fs,k _ _ _ _ h1,h2⟩
section
variable {K:PySem.W.Frag}{H H' H'':Hp}{F F' F'':Fz}
mutual
theorem RD.mono (k:Keep H F H' F'):∀{d:D}{v:V},RD K H F d v->RD K H' F' d v
 | .non,_,h=>h
 | .bl _,_,h=>h
 | .int _,_,h=>h
 | .str _,_,h=>h
 | .tup ds,v,h=>by
  simp only [RD] at h ⊢
  obtain⟨a,vs,e,hs,hr⟩:=h
  exact⟨a,vs,e,hs.elim (λz=>.inl (k.tups _ _ z)) .inr,RDs.mono k hr⟩
 | .lst ds,v,h=>by
  simp only [RD] at h ⊢
  obtain⟨a,vs,e,hs,hr⟩:=h
  exact⟨a,vs,e,hs.elim (λz=>.inl (k.lsts _ _ z.1 z.2)) .inr,RDs.mono k hr⟩
 | .dct _ _,_,h=>by simp only [RD] at h
 | .obj kn ds,v,h=>by
  simp only [RD] at h ⊢
  obtain⟨a,vs,e,hs,hr⟩:=h
  exact⟨a,vs,e,hs.mono k.inss,RDs.mono k hr⟩
theorem RDs.mono (k:Keep H F H' F'):∀{ds:List D}{vs:List V},RDs K H F ds vs->RDs K H' F' ds vs
 | [],_,h=>h
 | d::ds,vs,h=>by
  simp only [RDs] at h ⊢
  obtain⟨v,r,e,h1,h2⟩:=h
  exact⟨v,r,e,RD.mono k h1,RDs.mono k h2⟩
end
theorem RDs.length:∀{ds:List D}{vs:List V},RDs K H F ds vs->vs.length=ds.length
 | [],_,h=>by simp only [RDs] at h;subst h;rfl
 | d::ds,vs,h=>by
  simp only [RDs] at h
  obtain⟨v,r,rfl,_,h2⟩:=h
  simp [RDs.length h2]
theorem RDs.get:∀{ds:List D}{vs:List V}{i:Nat}{d:D},RDs K H F ds vs->ds[i]?=some d->∃v,vs[i]?=some v/\RD K H F d v
 | [],_,_,_,_,e=>by simp at e
 | x::ds,vs,i,d,h,e=>by
  simp only [RDs] at h
  obtain⟨v,r,rfl,h1,h2⟩:=h
  cases i with
  | zero=>simp at e;subst e;exact⟨v,rfl,h1⟩
  | succ i=>simp at e;obtain⟨w,e1,e2⟩:=RDs.get h2 e;exact⟨w,by simpa using e1,e2⟩
theorem RDs.append:∀{ds es:List D}{vs ws:List V},RDs K H F ds vs->RDs K H F es ws->RDs K H F (ds++es) (vs++ws)
 | [],_,_,_,h,h'=>by simp only [RDs] at h;subst h;exact h'
 | d::ds,es,vs,ws,h,h'=>by
  simp only [RDs] at h
  obtain⟨v,r,rfl,h1,h2⟩:=h
  exact⟨v,r++ws,rfl,h1,RDs.append h2 h'⟩
theorem RDs.take:∀{ds:List D}{vs:List V}(n:Nat),RDs K H F ds vs->RDs K H F (ds.take n) (vs.take n)
 | _,_,0,_=>by simp [RDs]
 | [],_,n+1,h=>by simp only [RDs] at h;subst h;simp [RDs]
 | d::ds,vs,n+1,h=>by
  simp only [RDs] at h
  obtain⟨v,r,rfl,h1,h2⟩:=h
  exact⟨v,r.take n,rfl,h1,RDs.take n h2⟩
theorem RDs.drop:∀{ds:List D}{vs:List V}(n:Nat),RDs K H F ds vs->RDs K H F (ds.drop n) (vs.drop n)
 | _,_,0,h=>by simpa using h
 | [],_,n+1,h=>by simp only [RDs] at h;subst h;simp [RDs]
 | d::ds,vs,n+1,h=>by
  simp only [RDs] at h
  obtain⟨v,r,rfl,h1,h2⟩:=h
  simpa using RDs.drop n h2
theorem RDs.set {d:D}{v:V}(hd:RD K H F d v):∀{ds:List D}{vs:List V}(n:Nat),RDs K H F ds vs->RDs K H F (ds.set n d) (vs.set n v)
 | [],_,_,h=>by simp only [RDs] at h;subst h;simp [RDs]
 | x::ds,vs,n,h=>by
  simp only [RDs] at h
  obtain⟨w,r,rfl,h1,h2⟩:=h
  cases n with
  | zero=>exact⟨v,r,rfl,hd,h2⟩
  | succ n=>exact⟨w,r.set n v,rfl,h1,RDs.set hd n h2⟩
theorem RDs.rep {ds:List D}{vs:List V}(h:RDs K H F ds vs):∀n:Nat,RDs K H F (List.replicate n ds).flatten (List.replicate n vs).flatten
 | 0=>by simp [RDs]
 | n+1=>by simpa [List.replicate_succ] using RDs.append h (RDs.rep h n)
theorem RDs.ints:∀{ds:List D}{vs:List V}{is:List Int},RDs K H F ds vs->qCV ds=some is->vs=is.map V.int
 | [],_,_,h,e=>by simp only [RDs] at h;subst h;simp at e;subst e;rfl
 | d::ds,vs,is,h,e=>by
  simp only [RDs] at h
  obtain⟨v,r,rfl,h1,h2⟩:=h
  cases d with
  | int i =>
   cases q:qCV ds with
   | none=>simp [q] at e
   | some js =>
    simp [q] at e
    subst e
    have h1':v=.int i:=h1
    rw [h1',RDs.ints h2 q];rfl
  | _=>simp at e
theorem RDs.bls:∀{ds:List D}{vs:List V}{is:List Bool},RDs K H F ds vs->qDV ds=some is->vs=is.map V.bl
 | [],_,_,h,e=>by simp only [RDs] at h;subst h;simp at e;subst e;rfl
 | d::ds,vs,is,h,e=>by
  simp only [RDs] at h
  obtain⟨v,r,rfl,h1,h2⟩:=h
  cases d with
  | bl i =>
   cases q:qDV ds with
   | none=>simp [q] at e
   | some js =>
    simp [q] at e
    subst e
    have h1':v=.bl i:=h1
    rw [h1',RDs.bls h2 q];rfl
  | _=>simp at e
theorem RDs.of_ints (is:List Int):RDs K H F (is.map .int) (is.map V.int):=by
 induction is with
 | nil=>simp [RDs]
 | cons i r ih=>exact⟨_,_,rfl,rfl,ih⟩
end
structure Gr (H:Hp) (F:Fz) (H':Hp) (F':Fz):Prop where
 same:Same H H'
 sub:∀a,F a->F' a
 new:∀a,F' a->F a∨H a=none
 dom:∀a,H' a=none->¬F' a
section
variable {K:PySem.W.Frag}{H H1 H2:Hp}{F F1 F2:Fz}
theorem qGM {a:Addr}{u:HO}(s:Same H H1) (h:Rd H a u):Rd H1 a u:=h.elim (λz=>.inl (s _ _ z)) λ⟨o,z⟩=>.inr ⟨o,s _ _ z⟩
theorem Gr.keep (g:Gr H F H1 F1):Keep H F H1 F1:=⟨λ_ _ h=>qGM g.same h,λ_ _ f h=>⟨g.sub _ f,qGM g.same h⟩,λ_ _ _ _ h=>g.same _ _ h⟩
theorem Gr.refl (d:∀a,H a=none->¬F a):Gr H F H F:=⟨Same.refl H,λ_ h=>h,λ_ h=>.inl h,d⟩
theorem Gr.trans (g:Gr H F H1 F1) (g':Gr H1 F1 H2 F2):Gr H F H2 F2:=
 ⟨g.same.trans g'.same,λa h=>g'.sub a (g.sub a h),λa h=>(g'.new a h).elim (λz=>g.new a z) λz=>.inr (g.same.free z),g'.dom⟩
theorem Gr.laid {p:Addr}{o:HO}(d:∀a,H a=none->¬F a) (hp:H p=none):Gr H F (upd H p o) F:=
 ⟨λb u q=>by rw [qAl (qAL q hp)];exact q,λ_ h=>h,λ_ h=>.inl h,λa e=>by
  by_cases z:a=p
  ·subst z;exact d a hp
  ·rw [qAl z] at e;exact d a e⟩
theorem Gr.fz {p:Addr}{o:HO}(g:Gr H F H1 F1) (hp:H p=none) (h1:H1 p=some o):Gr H F H1 (λa=>a=p∨F1 a):=
 ⟨g.same,λa h=>.inr (g.sub a h),λa h=>h.elim (λz=>.inr (z▸hp)) (λz=>g.new a z),λa e h=>h.elim (λz=>by subst z;rw [h1] at e;cases e) (g.dom a e)⟩
noncomputable def RR (K:PySem.W.Frag) (H H':Hp) (F':Fz):R->V->Prop
 | (false,d),v=>RD K H' F' d v
 | (true,d),v=>∃a ds vs,d=.lst ds/\v=.ref a/\H a=none/\¬F' a/\H' a=some (.lst vs)/\RDs K H' F' ds vs
noncomputable def RP (K:PySem.W.Frag) (H:Hp) (F:Fz) (d:D) (v:V):Prop:=
 RD K H F d v∨∃a ds vs,d=.lst ds/\v=.ref a/\H a=some (.lst vs)/\RDs K H F ds vs
theorem RR.grow {r:R}{v:V}(h:RR K H H1 F1 r v) (g:Gr H1 F1 H2 F2):RR K H H2 F2 r v:=by
 obtain⟨b,d⟩:=r
 cases b with
 | false=>exact RD.mono g.keep h
 | true =>
  obtain⟨a,ds,vs,e1,e2,e3,e4,e5,e6⟩:=h
  exact⟨a,ds,vs,e1,e2,e3,(λz=>(g.new a z).elim e4 λz=>absurd (e5.symm.trans z) (by simp)),g.same _ _ e5,RDs.mono g.keep e6⟩
theorem RR.back {H0:Hp}{r:R}{v:V}(h:RR K H H1 F1 r v) (s:Same H0 H):RR K H0 H1 F1 r v:=by
 obtain⟨b,d⟩:=r
 cases b with
 | false=>exact h
 | true =>
  obtain⟨a,ds,vs,e1,e2,e3,e⟩:=h
  exact⟨a,ds,vs,e1,e2,s.free e3,e⟩
theorem RR.look {r:R}{v:V}(h:RR K H H1 F1 r v):RP K H1 F1 r.2 v:=by
 obtain⟨b,d⟩:=r
 cases b with
 | false=>exact .inl h
 | true =>
  obtain⟨a,ds,vs,e1,e2,e3,e4,e5,e6⟩:=h
  exact .inr ⟨a,ds,vs,e1,e2,e5,e6⟩
theorem RR.fz {r:R}{v:V}(h:RR K H H1 F1 r v) (g:Gr H F H1 F1):∃F2,Gr H F H1 F2/\RD K H1 F2 r.2 v:=by
 obtain⟨b,d⟩:=r
 cases b with
 | false=>exact⟨F1,g,h⟩
 | true =>
  obtain⟨a,ds,vs,rfl,rfl,e3,e4,e5,e6⟩:=h
  have g2:Keep H1 F1 H1 (λb=>b=a∨F1 b):=⟨λ_ _ h=>h,λ_ _ f h=>⟨.inr f,h⟩,λ_ _ _ _ h=>h⟩
  exact⟨λb=>b=a∨F1 b,g.fz e3 e5,⟨a,vs,rfl,.inl ⟨.inl rfl,.inl e5⟩,RDs.mono g2 e6⟩⟩
theorem RP.grow {d:D}{v:V}(h:RP K H F d v) (g:Gr H F H1 F1):RP K H1 F1 d v:=
 h.elim (λz=>.inl (RD.mono g.keep z)) λ⟨a,ds,vs,e1,e2,e3,e4⟩=>.inr ⟨a,ds,vs,e1,e2,g.same _ _ e3,RDs.mono g.keep e4⟩
theorem RP.int {i:Int}{v:V}(h:RP K H F (.int i) v):v=.int i:=h.elim (λz=>z) λ⟨_,_,_,e,_⟩=>by cases e
theorem RP.bl {i:Bool}{v:V}(h:RP K H F (.bl i) v):v=.bl i:=h.elim (λz=>z) λ⟨_,_,_,e,_⟩=>by cases e
theorem RP.non {v:V}(h:RP K H F .non v):v=.non:=h.elim (λz=>z) λ⟨_,_,_,e,_⟩=>by cases e
theorem RP.str {x:Str}{v:V}(h:RP K H F (.str x) v):v=.str x:=h.elim (λz=>z) λ⟨_,_,_,e,_⟩=>by cases e
theorem RP.tup {ds:List D}{v:V}(h:RP K H F (.tup ds) v):∃a vs,v=.ref a/\SqT K H a vs/\RDs K H F ds vs:=h.elim (λz=>z) λ⟨_,_,_,e,_⟩=>by cases e
theorem RP.noDct {m:Bool}{ks:List Int}{v:V}:¬RP K H F (.dct m ks) v:=λh=>h.elim (λz=>by simp only [RD] at z) λ⟨_,_,_,e,_⟩=>by cases e
theorem RP.obj {kn:Kn}{ds:List D}{v:V}(h:RP K H F (.obj kn ds) v):∃a vs,v=.ref a/\InsR K H a kn vs/\RDs K H F ds vs:=h.elim (λz=>by simpa only [RD] using z) λ⟨_,_,_,e,_⟩=>by cases e
theorem RP.lst {ds:List D}{v:V}(h:RP K H F (.lst ds) v):∃a vs,v=.ref a/\SqL K H a vs/\RDs K H F ds vs:=by
 rcases h with ⟨a,vs,e,h1,h2⟩|⟨a,ds',vs,e1,e2,e3,e4⟩
 ·exact⟨a,vs,e,h1.sq,h2⟩
 ·cases e1;exact⟨a,vs,e2,SqL.of e3,e4⟩
end
structure Gp where
 h:Hp
 pin:Option Addr
instance:Coe Gp Hp:=⟨Gp.h⟩
instance:CoeFun Gp λ_=>Addr->Option HO:=⟨Gp.h⟩
structure SR (K:PySem.W.Frag) (G:Gp) (H:Hp) (F:Fz) (σ:En) (τ:L2.St):Prop where
 len:σ.length=τ.length
 ent:Same G.h H
 dom:∀a,H a=none->¬F a
 val:∀i d,qAf σ i=some (false,d)->∃v,τ[i]?=some (some v)/\RD K H F d v
 own:∀i d,qAf σ i=some (true,d)->qJ8 d=false->∃a ds vs,d=.lst ds/\τ[i]?=some (some (.ref a))/\G a=none/\¬F a/\H a=some (.lst vs)/\RDs K H F ds vs
 sep:∀i j d e,qAf σ i=some (true,d)->qAf σ j=some (true,e)->τ[i]?=τ[j]?->i=j
 dct:∀i m ks,qAf σ i=some (true,.dct m ks)->∃a,τ[i]?=some (some (.ref a))/\¬F a/\H a=some (.dK (dk ks))/\(m=true->G a=none)
 pin:∀p d,G.pin=some p->qAf σ 0=some (true,d)->τ[0]?=some (some (.ref p))
theorem SR.grow {K:PySem.W.Frag}{G:Gp}{H H1:Hp}{F F1:Fz}{σ:En}{τ:L2.St}(s:SR K G H F σ τ) (g:Gr H F H1 F1):SR K G H1 F1 σ τ:=
 ⟨s.len,s.ent.trans g.same,g.dom,λi d e=>let ⟨v,h1,h2⟩:=s.val i d e;⟨v,h1,RD.mono g.keep h2⟩,
  λi d e hd=>let ⟨a,ds,vs,h1,h2,h3,h4,h5,h6⟩:=s.own i d e hd
   ⟨a,ds,vs,h1,h2,h3,(λz=>(g.new a z).elim h4 λz=>absurd (h5.symm.trans z) (by simp)),g.same _ _ h5,RDs.mono g.keep h6⟩,s.sep,
  λi m ks e=>let ⟨a,h1,h2,h3,h4⟩:=s.dct i m ks e
   ⟨a,h1,(λz=>(g.new a z).elim h2 λz=>absurd (h3.symm.trans z) (by simp)),g.same _ _ h3,h4⟩,s.pin⟩
theorem SR.addr {K:PySem.W.Frag}{G:Gp}{H:Hp}{F:Fz}{σ:En}{τ:L2.St}{i:Nat}{d:D}(s:SR K G H F σ τ) (h:qAf σ i=some (true,d)):∃a u,τ[i]?=some (some (.ref a))/\¬F a/\H a=some u:=by
 cases hd:qJ8 d with
 | false=>obtain⟨a,ds,vs,h1,h2,h3,h4,h5,h6⟩:=s.own i d h hd;exact⟨a,_,h2,h4,h5⟩
 | true =>
  cases d with
  | dct m ks=>obtain⟨a,h1,h2,h3,h4⟩:=s.dct i m ks h;exact⟨a,_,h1,h2,h3⟩
  | _=>cases hd
end Dw
namespace Dw
open PySem PySem.Spec PyProof.Rows L2
theorem qB7 {a:Int}{n:Nat}(h:a.natAbs<2^n):Builtin.Int.intBits a<=n:=by
 unfold Builtin.Int.intBits
 split
 ·exact Nat.zero_le _
 ·rename_i hz
  have h0:a.natAbs≠0:=λz=>by
   have:a=0:=Int.natAbs_eq_zero.mp z
   subst this;simp at hz
  have:=(Nat.log2_lt h0).mpr h
  omega
theorem qNm {a b:Int}(h:qBX a b=true):IntMulOk a b:=by
 have h':=of_decide_eq_true h
 rcases h' with ⟨h1,h2⟩|h1|h1|⟨h1,h2⟩
 ·exact IntMulOk.of_bits (Nat.le_trans (qB7 h1) (by decide)) (Nat.le_trans (qB7 h2) (by decide))
 ·exact IntMulOk.of_left (qB7 h1)
 ·exact IntMulOk.of_right (qB7 h1)
 ·exact IntMulOk.of_bits (qB7 h1) (qB7 h2)
section
variable {X:Cx}
theorem op_mulD:OpR X (binaryOp .Mult) (rI (λi j=>qBX i j=true) λi j=>.int (i * j)):=opI λ_ _ _ _ _ _ _ hc q=>mul_int q (qNm hc)
theorem qIX:OpR X (binaryOp .FloorDiv) (rI (λ_ j=>qAU j=true) λi j=>.int (i.fdiv j)):=opI λi j _ _ _ _ _ hc q=>by
 have h:=of_decide_eq_true hc
 refine floordiv_int h.1 q (.inl (PyProof.noPylong_of_log2 ?_))
 rcases h.2 with h2|h2
 ·have:=(Nat.log2_lt (λz=>h.1 (Int.natAbs_eq_zero.mp z))).mpr h2
  omega
 ·have:=(Nat.log2_lt (λz=>h.1 (Int.natAbs_eq_zero.mp z))).mpr h2
  omega
theorem qLi:OpR X (binaryOp .Mod) (rI (λ_ j=>qAU j=true) λi j=>.int (i.fmod j)):=opI λ_ _ _ _ _ _ _ hc q=>mod_int' (of_decide_eq_true hc).1 q
theorem qLh:OpR X (binaryOp .Pow) (rI (λi j=>qCu i j=true) λi j=>.int (i^j.toNat)):=opI λi j _ _ _ _ _ hc q=>by
 obtain⟨h1,h2,h3⟩:=of_decide_eq_true hc
 refine pow_int h2 ?_ q
 have:=qB7 h1
 calc (Builtin.Int.intBits i:Int) * j<=240 * 200:=Int.mul_le_mul (by exact_mod_cast this) h3 h2 (by decide)
  _<=2^27:=by decide
theorem qJa (l:Addr) (items:Array Value) (n:Nat) (sl:Array (Option Value)) (b:Addr) (items2:Array Value) (n2:Nat) (sl2:Array (Option Value)) (hc0:items.size+items2.size<=sizeLine) :
  Meets (Builtin.«list.__add__» ⟨[.ref l,.ref b],[]⟩) (λ_ R s=>s.heap.get? l=some ⟨.type "list",none,.seq items n,sl⟩/\s.heap.get? b=some ⟨.type "list",none,.seq items2 n2,sl2⟩ /\
   R (.ok (.ret (Value.ref s.heap.objs.size))) { s with heap:=s.heap.push { cls:=.type "list",data:=.seq (items++items2) } }):=
 .of_wp λprog w A R s h=>by
  obtain⟨hp,g,d,tk,os⟩:=s
  obtain⟨hl,hb,h⟩:=h
  have f3:=F.sub_list_list
  wp_walk using AutoSeq1.wpAny_loadPart' hl,AutoSeq1.wpAny_loadPart' hb
  exact⟨_,rfl,h⟩
theorem qI9 (l:Addr) (items:Array Value) (n:Nat) (sl:Array (Option Value)) (x:Int) (u:Tok) (hc0:¬(!Builtin.List.listFitsIndex x)=true) (hc1:¬items.size * x.toNat > (2^63 - 1) / 8) (hc2:¬Builtin.List.listTooLong (items.size * x.toNat)=true) :
  Meets (Builtin.«list.__mul__» ⟨[.ref l,.int x u],[]⟩) (λ_ R s=>s.heap.get? l=some ⟨.type "list",none,.seq items n,sl⟩ /\
   R (.ok (.ret (Value.ref s.heap.objs.size))) { s with heap:=s.heap.push { cls:=Value.type "list",data:=Data.seq (List.foldl (λx1 x2=>x1++x2) #[] (List.replicate (if items.isEmpty=true then 0 else x.toNat) items)) } }):=
 .of_wp λprog w A R s h=>by
  obtain⟨hp,g,d,tk,os⟩:=s
  obtain⟨hl,h⟩:=h
  have hsz:=AutoListH.joined_fits hc2
  wp_walk
  refine wpAny_ite_false (decide_eq_false (Nat.not_lt.mpr hsz)) ?_
  wp_walk
  exact⟨_,rfl,h⟩
theorem qOM (a:Int) (t:Tok) (l:Addr) (items:Array Value) (n:Nat) (sl:Array (Option Value)) :
  Meets (Builtin.«int.__rmul__» ⟨[.int a t,.ref l],[]⟩) (λ_ R s=>s.heap.get? l=some ⟨.type "list",none,.seq items n,sl⟩/\R (.ok (.ret Value.notImplemented)) s):=
 .of_wp λprog w A R s h=>by
  obtain⟨hp,g,d,tk,os⟩:=s
  obtain⟨hl,h⟩:=h
  wp_walk
  exact⟨_,rfl,h⟩
theorem Inv.lobj {pins:List (Addr×Obj)}{σ:L2.St}{H:Hp}{s:Shared}{a:Addr}{xs:List V}(I:Inv X pins σ H s) (h:SqL X.K H a xs) :
  ∃(its:List Value) (n:Nat) (sl:Array (Option Value)),Vals xs its/\xs.length=its.length/\s.heap.get? a=some ⟨.type "list",none,.seq its.toArray n,sl⟩/\xs.length<=sizeLine:=by
 obtain⟨its,r,⟨⟨c,dd,da,sl⟩,n,e,e1,e2,e3⟩,z⟩:=I.list h
 simp only at e1 e2 e3
 subst e1 e2 e3
 exact⟨its,n,sl,r,r.length,e,z⟩
noncomputable def qOR (K:PySem.W.Frag):R2:=λx y H Q=>∃l b xs zs,x=.ref l/\y=.ref b/\SqL K H l xs/\SqL K H b zs/\xs.length+zs.length<=sizeLine/\∀p,H p=none->Q (.ref p) (upd H p (.lst (xs++zs)))
theorem op_catD:OpR X (binaryOp .Add) (qOR X.K):=by
 intro pins s σ H x y v u Q I rx ry h
 obtain⟨l,b,xs,zs,rfl,rfl,hH,hB,hz,q⟩:=h
 cases rx
 cases ry
 obtain⟨its,n,sl,r,hl,e,z⟩:=Inv.lobj I hH
 obtain⟨its2,n2,sl2,r2,hl2,e2,z2⟩:=Inv.lobj I hB
 refine concat_meets ⟨_,e,rfl⟩ ⟨_,e2,rfl⟩ noFill_list_add seq_list_add F.slot_list_add F.entry_list_add (F.args_list_add_2 _ _)
  (qJa l its.toArray n sl b its2.toArray n2 sl2 (by rw [List.size_toArray,List.size_toArray];omega)) ⟨e,e2,?_⟩
 have ea:its.toArray++its2.toArray=(its++its2).toArray:=by simp
 rw [ea]
 exact⟨.ref _,_,I.lnew (t':=s.toks) (r.append r2) (by rw [List.length_append];omega),rfl,q _ I.fresh⟩
noncomputable def qOO (K:PySem.W.Frag):R2:=λx y H Q=>∃l k xs,x=.ref l/\y=.int k/\SqL K H l xs/\-(2^63)<=k/\k<2^63/\xs.length * k.toNat<=sizeLine /\
 ∀p,H p=none->Q (.ref p) (upd H p (.lst (List.replicate k.toNat xs).flatten))
theorem qLg:OpR X (binaryOp .Mult) (qOO X.K):=by
 intro pins s σ H x y v u Q I rx ry h
 obtain⟨l,k,xs,rfl,rfl,hH,h1,h2,hz,q⟩:=h
 cases rx
 obtain⟨t,rfl⟩:=ry
 obtain⟨its,n,sl,r,hl,e,z⟩:=Inv.lobj I hH
 have hlen:its.toArray.size * k.toNat<=sizeLine:=by rw [List.size_toArray,<-hl];exact hz
 have hcap:¬its.toArray.size * k.toNat > (2^63 - 1) / 8:=by
  have:(sizeLine:Nat)<=(2^63 - 1) / 8:=by decide
  omega
 have hfit:¬(!Builtin.List.listFitsIndex k)=true:=by rw [fitsIndex_both h1 h2];exact Bool.false_ne_true
 have hlong:¬Builtin.List.listTooLong (its.toArray.size * k.toNat)=true:=by rw [qI0 hlen];exact Bool.false_ne_true
 have hnew:List.foldl (λx1 x2=>x1++x2) #[] (List.replicate (if its.toArray.isEmpty=true then 0 else k.toNat) its.toArray)=(List.replicate k.toNat its).flatten.toArray:=by
  have f0:∀m:Nat,List.foldl (λx1 x2=>x1++x2) #[] (List.replicate m its.toArray)=(List.replicate m its).flatten.toArray:=λm=>by simpa using qEj its m []
  rw [f0]
  cases its with
  | nil=>simp
  | cons a r'=>rw [if_neg (by simp)]
 refine wpAny_binaryOp_repeat_ref (T:="list") (U:="int") (by decide) ⟨_,e,rfl⟩ (λs'=>typeIs_int s' k t) noFill_list_mul F.fills_int_mul F.slot_int_rmul repeat_list F.slot_int_index.lookup
  (call_meets F.slot_int_rmul (typeIs_int s k t) F.entry_int_rmul (F.args_int_rmul_2 _ _) (qOM k t l its.toArray n sl)
   ⟨e,rfl,⟨_,e,rfl⟩,call_meets F.slot_list_mul ⟨_,e,rfl⟩ F.entry_list_mul (F.args_list_mul_2 _ _) (qI9 l its.toArray n sl k t hfit hcap hlong) ⟨e,?_⟩⟩)
 rw [hnew]
 exact⟨.ref _,_,I.lnew (t':=s.toks) (r.rep k.toNat) (by rw [qLq,Nat.mul_comm];exact hz),rfl,q _ I.fresh⟩
theorem qHW (hc:X.calm=true):CallR X (.builtin "max") (λxs H Q=>∃i j k,xs=[.int i,.int j,.int k]/\Q (.int (if k > (if j > i then j else i) then k else (if j > i then j else i))) H):=by
 intro pins s σ H xs us Q I r h
 obtain⟨i,j,k,rfl,q⟩:=h
 obtain _|⟨⟨t,rfl⟩,_|⟨⟨t',rfl⟩,_|⟨⟨t2,rfl⟩,_|_⟩⟩⟩:=r
 refine max_three_ints (I.ok.hd hc) λh' tk hk=>?_
 have I1:Inv X pins σ H { s with heap:=h',toks:=tk }:=I.kept hk
 have fin:∀(z:Int) (tok:Tok),z=(if k > (if j > i then j else i) then k else (if j > i then j else i))->EP X pins σ Q (.int z tok) { s with heap:=h',toks:=tk }:=λz tok e=>⟨.int z,H,I1,⟨_,rfl⟩,by rw [e];exact q⟩
 by_cases hba:j > i<;>by_cases hc1:k > j<;>by_cases hc2:k > i<;>simp only [hba,hc1,hc2,if_true,if_false] at fin ⊢<;>first|exact fin _ _ rfl|exact fin _ _ (by omega)
end
end Dw
namespace Dw
open PySem PySem.Spec PyProof.Rows L2
section
variable {X:Cx}
theorem qBU:∀{is:List Int}{its:List Value},Vals (is.map V.int) its->∃xs:List (Int×Tok),its=xs.map (λp=>Value.int p.1 p.2)/\xs.map (·.1)=is
 | [],_,.nil=>⟨[],rfl,rfl⟩
 | i::is,_,.cons ⟨t,e⟩ r=>by
  obtain⟨xs,h1,h2⟩:=qBU r
  exact⟨(i,t)::xs,by rw [e,h1];rfl,by rw [List.map_cons,h2]⟩
theorem qET (xs:Array (Int×Tok)):preSum (numAt xs) xs.size=(xs.toList.map (·.1)).sum:=by
 rw [preSum_eq,List.take_of_length_le (by simp)]
theorem qHT (hc:X.calm=true):CallR X (.builtin "sum") (λxs H Q=>∃(p:Addr) (is:List Int),xs=[.ref p]/\SqL X.K H p (is.map V.int)/\Q (.int is.sum) H):=by
 intro pins s σ H xs us Q I r h
 obtain⟨p,is,rfl,hq,q⟩:=h
 obtain⟨u,rfl,ru⟩:=qFN r
 cases ru
 obtain⟨its,rv,pl,z⟩:=I.list hq
 obtain⟨ps,rfl,rfl⟩:=qBU rv
 have e:(ps.map λp=>Value.int p.1 p.2).toArray=intItems ps.toArray:=by simp [intItems]
 have hl:s.heap.IsList p (intItems ps.toArray):=by rw [<-e];exact pl.isList
 refine sum_intListG (I.ok.hd hc) hl λh' tk t' hk=>?_
 rw [qET]
 exact⟨.int _,H,I.kept hk,⟨_,rfl⟩,q⟩
theorem qI5 {is:List Int}{m:Int}(h:mnL is=some m):m∈is/\∀a∈is,m<=a:=by
 cases is with
 | nil=>cases h
 | cons a r =>
  cases h
  have:∀(l:List Int) (b:Int),(l.foldl (λm x=>if x<m then x else m) b=b∨l.foldl (λm x=>if x<m then x else m) b∈l)/\l.foldl (λm x=>if x<m then x else m) b<=b/\∀y∈l,l.foldl (λm x=>if x<m then x else m) b<=y:=by
   intro l
   induction l with
   | nil=>intro b;exact⟨.inl rfl,Int.le_refl _,λ_ h=>nomatch h⟩
   | cons x l ih =>
    intro b
    rw [List.foldl_cons]
    obtain⟨h1,h2,h3⟩:=ih (if x<b then x else b)
    generalize l.foldl (λm x=>if x<m then x else m) (if x<b then x else b)=z at h1 h2 h3
    refine⟨?_,?_,λy hy=>?_⟩
    ·rcases h1 with h1|h1
     ·split at h1
      ·exact .inr (h1▸List.mem_cons_self)
      ·exact .inl h1
     ·exact .inr (List.mem_cons_of_mem _ h1)
    ·split at h2<;>omega
    ·rcases List.mem_cons.mp hy with rfl|hy
     ·split at h2<;>omega
     ·exact h3 y hy
  obtain⟨h1,h2,h3⟩:=this r a
  exact⟨List.mem_cons.mpr h1,λy hy=>(List.mem_cons.mp hy).elim (λe=>e▸h2) (h3 y)⟩
theorem qI3 {is:List Int}{m:Int}(h:mxL is=some m):m∈is/\∀a∈is,a<=m:=by
 cases is with
 | nil=>cases h
 | cons a r =>
  cases h
  have:∀(l:List Int) (b:Int),(l.foldl (λm x=>if m<x then x else m) b=b∨l.foldl (λm x=>if m<x then x else m) b∈l)/\b<=l.foldl (λm x=>if m<x then x else m) b/\∀y∈l,y<=l.foldl (λm x=>if m<x then x else m) b:=by
   intro l
   induction l with
   | nil=>intro b;exact⟨.inl rfl,Int.le_refl _,λ_ h=>nomatch h⟩
   | cons x l ih =>
    intro b
    rw [List.foldl_cons]
    obtain⟨h1,h2,h3⟩:=ih (if b<x then x else b)
    generalize l.foldl (λm x=>if m<x then x else m) (if b<x then x else b)=z at h1 h2 h3
    refine⟨?_,?_,λy hy=>?_⟩
    ·rcases h1 with h1|h1
     ·split at h1
      ·exact .inr (h1▸List.mem_cons_self)
      ·exact .inl h1
     ·exact .inr (List.mem_cons_of_mem _ h1)
    ·split at h2<;>omega
    ·rcases List.mem_cons.mp hy with rfl|hy
     ·split at h2<;>omega
     ·exact h3 y hy
  obtain⟨h1,h2,h3⟩:=this r a
  exact⟨List.mem_cons.mpr h1,λy hy=>(List.mem_cons.mp hy).elim (λe=>e▸h2) (h3 y)⟩
theorem qHV (hc:X.calm=true):CallR X (.builtin "min") (λxs H Q=>∃(p:Addr) (is:List Int) (m:Int),xs=[.ref p]/\SqL X.K H p (is.map V.int)/\mnL is=some m/\Q (.int m) H):=by
 intro pins s σ H xs us Q I r h
 obtain⟨p,is,m,rfl,hq,hm,q⟩:=h
 obtain⟨u,rfl,ru⟩:=qFN r
 cases ru
 obtain⟨its,rv,pl,z⟩:=I.list hq
 obtain⟨ps,rfl,rfl⟩:=qBU rv
 have e:(ps.map λp=>Value.int p.1 p.2).toArray=intItems ps.toArray:=by simp [intItems]
 have hl:s.heap.IsList p (intItems ps.toArray):=by rw [<-e];exact pl.isList
 obtain⟨m1,m2⟩:=qI5 hm
 have hsz:0<ps.toArray.size:=by
  cases ps with
  | nil=>cases hm
  | cons _ _=>simp
 refine min_intList (I.ok.hd hc) hl hsz λv h' tk hv hk=>?_
 obtain⟨t,rfl⟩:=intItems_at hv
 obtain⟨h1,h2⟩:=argBest_lt (numAt ps.toArray) (ps.toArray.size - 1)
 have key:numAt ps.toArray (argBest (λi j=>decide (numAt ps.toArray i<numAt ps.toArray j)) (ps.toArray.size - 1))=m:=by
  refine Int.le_antisymm ?_ (m2 _ ?_)
  ·obtain⟨j,hj,e⟩:=List.getElem_of_mem m1
   have:=h2 j (by simp at hj ⊢;omega)
   refine Int.le_trans this (Int.le_of_eq ?_)
   rw [<-e]
   simp [numAt] at hj ⊢
   rw [List.getElem?_eq_getElem hj];rfl
  ·generalize argBest (λi j=>decide (numAt ps.toArray i<numAt ps.toArray j)) (ps.toArray.size - 1)=k at h1 ⊢
   have hk:k<ps.length:=by simp at h1 hsz;omega
   refine List.mem_map.mpr ⟨ps[k],List.getElem_mem hk,?_⟩
   simp [numAt]
   rw [List.getElem?_eq_getElem hk];rfl
 rw [key]
 exact⟨.int _,H,I.kept hk,⟨_,rfl⟩,q⟩
theorem qHY (hc:X.calm=true):CallR X (.builtin "max") (λxs H Q=>∃(p:Addr) (is:List Int) (m:Int),xs=[.ref p]/\SqL X.K H p (is.map V.int)/\mxL is=some m/\Q (.int m) H):=by
 intro pins s σ H xs us Q I r h
 obtain⟨p,is,m,rfl,hq,hm,q⟩:=h
 obtain⟨u,rfl,ru⟩:=qFN r
 cases ru
 obtain⟨its,rv,pl,z⟩:=I.list hq
 obtain⟨ps,rfl,rfl⟩:=qBU rv
 have e:(ps.map λp=>Value.int p.1 p.2).toArray=intItems ps.toArray:=by simp [intItems]
 have hl:s.heap.IsList p (intItems ps.toArray):=by rw [<-e];exact pl.isList
 obtain⟨m1,m2⟩:=qI3 hm
 have hsz:0<ps.toArray.size:=by
  cases ps with
  | nil=>cases hm
  | cons _ _=>simp
 refine max_intList (I.ok.hd hc) hl hsz λv h' tk hv hk=>?_
 obtain⟨t,rfl⟩:=intItems_at hv
 obtain⟨h1,h2⟩:=argBest_gt (numAt ps.toArray) (ps.toArray.size - 1)
 have key:numAt ps.toArray (argBest (λi j=>decide (numAt ps.toArray i > numAt ps.toArray j)) (ps.toArray.size - 1))=m:=by
  refine Int.le_antisymm (m2 _ ?_) ?_
  ·generalize argBest (λi j=>decide (numAt ps.toArray i > numAt ps.toArray j)) (ps.toArray.size - 1)=k at h1 ⊢
   have hk:k<ps.length:=by simp at h1 hsz;omega
   refine List.mem_map.mpr ⟨ps[k],List.getElem_mem hk,?_⟩
   simp [numAt]
   rw [List.getElem?_eq_getElem hk];rfl
  ·obtain⟨j,hj,e⟩:=List.getElem_of_mem m1
   have:=h2 j (by simp at hj ⊢;omega)
   refine Int.le_trans (Int.le_of_eq ?_) this
   rw [<-e]
   simp [numAt] at hj ⊢
   rw [List.getElem?_eq_getElem hj];rfl
 rw [key]
 exact⟨.int _,H,I.kept hk,⟨_,rfl⟩,q⟩
end
theorem qCW (A:Around):A.in1.units=A.units+1:=rfl
theorem qCB:∀ds es:List D,qLK ds es=((List.range (min ds.length es.length)).all (λj=>eqD (ds.getD j .non) (es.getD j .non))&&ds.length == es.length)
 | [],[]=>rfl
 | [],e::es=>by
  have h:(([]:List D).length == (e::es).length)=false:=rfl
  rw [h,Bool.and_false];rfl
 | d::ds,[]=>by
  have h:((d::ds).length == ([]:List D).length)=false:=rfl
  rw [h,Bool.and_false];rfl
 | d::ds,e::es=>by
  have h:=qCB ds es
  simp only [qLK,h,List.length_cons,Nat.succ_min_succ,List.range_succ_eq_map,List.all_cons,List.getD_cons_zero,List.all_map]
  have e2:((λj=>eqD ((d::ds).getD j .non) ((e::es).getD j .non)) ∘ Nat.succ)=λj=>eqD (ds.getD j .non) (es.getD j .non):=by funext j;simp
  rw [e2,Bool.and_assoc]
  congr 2
  simp
mutual
theorem qDR:∀d:D,eqD d d=true
 | .non=>by simp
 | .bl _=>by simp
 | .int _=>by simp
 | .str _=>by simp
 | .tup ds=>by simpa using qCf ds
 | .lst ds=>by simpa using qCf ds
 | .dct _ _=>by simp
 | .obj _ ds=>by simpa using qCf ds
theorem qCf:∀ds:List D,qLK ds ds=true
 | []=>by simp
 | d::ds=>by simp [qDR d,qCf ds]
end
section
variable {X:Cx}{pins:List (Addr×Obj)}{σ:L2.St}{H:Hp}{s:Shared}{F:Fz}
theorem qNo {a:Addr}{xs ys:List V}(I:Inv X pins σ H s) (h:SqL X.K H a xs) (h':SqT X.K H a ys):False:=by
 obtain⟨its,_,p,_⟩:=I.list h
 obtain⟨its',_,p',_⟩:=I.tuple h'
 exact SeqAt.ne_of_list_tuple p.isList (show s.heap.IsTuple a its'.toArray from p') rfl
mutual
theorem RP.inj (I:Inv X pins σ H s):∀{d e:D}{v:V},nob d=true->nob e=true->RP X.K H F d v->RP X.K H F e v->d=e
 | .non,e,v,n,n',h,h'=>by
  have:=h.non;subst this
  cases e with
  | dct _ _=>exact absurd h' RP.noDct
  | obj _ _=>exact absurd n' (by simp)
  | non=>rfl
  | bl _=>exact absurd h'.bl (by simp)
  | int _=>exact absurd h'.int (by simp)
  | str _=>exact absurd h'.str (by simp)
  | tup _=>obtain⟨_,_,q,_⟩:=h'.tup;cases q
  | lst _=>obtain⟨_,_,q,_⟩:=h'.lst;cases q
 | .bl b,e,v,n,n',h,h'=>by
  have:=h.bl;subst this
  cases e with
  | dct _ _=>exact absurd h' RP.noDct
  | obj _ _=>exact absurd n' (by simp)
  | non=>exact absurd h'.non (by simp)
  | bl _=>have:=h'.bl;cases this;rfl
  | int _=>exact absurd h'.int (by simp)
  | str _=>exact absurd h'.str (by simp)
  | tup _=>obtain⟨_,_,q,_⟩:=h'.tup;cases q
  | lst _=>obtain⟨_,_,q,_⟩:=h'.lst;cases q
 | .int b,e,v,n,n',h,h'=>by
  have:=h.int;subst this
  cases e with
  | dct _ _=>exact absurd h' RP.noDct
  | obj _ _=>exact absurd n' (by simp)
  | non=>exact absurd h'.non (by simp)
  | bl _=>exact absurd h'.bl (by simp)
  | int _=>have:=h'.int;cases this;rfl
  | str _=>exact absurd h'.str (by simp)
  | tup _=>obtain⟨_,_,q,_⟩:=h'.tup;cases q
  | lst _=>obtain⟨_,_,q,_⟩:=h'.lst;cases q
 | .str b,e,v,n,n',h,h'=>by
  have:=h.str;subst this
  cases e with
  | dct _ _=>exact absurd h' RP.noDct
  | obj _ _=>exact absurd n' (by simp)
  | non=>exact absurd h'.non (by simp)
  | bl _=>exact absurd h'.bl (by simp)
  | int _=>exact absurd h'.int (by simp)
  | str _=>have:=h'.str;cases this;rfl
  | tup _=>obtain⟨_,_,q,_⟩:=h'.tup;cases q
  | lst _=>obtain⟨_,_,q,_⟩:=h'.lst;cases q
 | .tup ds,e,v,n,n',h,h'=>by
  obtain⟨a,vs,rfl,h1,h2⟩:=h.tup
  cases e with
  | dct _ _=>exact absurd h' RP.noDct
  | obj _ _=>exact absurd n' (by simp)
  | non=>exact absurd h'.non (by simp)
  | bl _=>exact absurd h'.bl (by simp)
  | int _=>exact absurd h'.int (by simp)
  | str _=>exact absurd h'.str (by simp)
  | tup es=>obtain⟨b,ws,q,h3,h4⟩:=h'.tup;cases q;rw [I.tuple_inj h3 h1] at h4;rw [RDs.inj I (by simpa using n) (by simpa using n') h2 h4]
  | lst _=>obtain⟨b,ws,q,h3,h4⟩:=h'.lst;cases q;exact (qNo I h3 h1).elim
 | .lst ds,e,v,n,n',h,h'=>by
  obtain⟨a,vs,rfl,h1,h2⟩:=h.lst
  cases e with
  | dct _ _=>exact absurd h' RP.noDct
  | obj _ _=>exact absurd n' (by simp)
  | non=>exact absurd h'.non (by simp)
  | bl _=>exact absurd h'.bl (by simp)
  | int _=>exact absurd h'.int (by simp)
  | str _=>exact absurd h'.str (by simp)
  | lst es=>obtain⟨b,ws,q,h3,h4⟩:=h'.lst;cases q;rw [I.list_inj h3 h1] at h4;rw [RDs.inj I (by simpa using n) (by simpa using n') h2 h4]
  | tup _=>obtain⟨b,ws,q,h3,h4⟩:=h'.tup;cases q;exact (qNo I h1 h3).elim
 | .dct _ _,e,v,n,n',h,h'=>absurd h RP.noDct
 | .obj _ _,e,v,n,n',h,h'=>absurd n (by simp)
theorem RDs.inj (I:Inv X pins σ H s):∀{ds es:List D}{vs:List V},qD9 ds=true->qD9 es=true->RDs X.K H F ds vs->RDs X.K H F es vs->ds=es
 | [],es,vs,n,n',h,h'=>by
  simp only [RDs] at h;subst h
  cases es with
  | nil=>rfl
  | cons _ _=>simp only [RDs] at h';obtain⟨_,_,q,_⟩:=h';cases q
 | d::ds,es,vs,n,n',h,h'=>by
  simp only [RDs] at h
  obtain⟨v,r,rfl,h1,h2⟩:=h
  cases es with
  | nil=>simp only [RDs] at h';cases h'
  | cons e es =>
   simp only [RDs] at h'
   obtain⟨v',r',q,h3,h4⟩:=h'
   cases q
   simp only [qD9,Bool.and_eq_true] at n n'
   rw [RP.inj I n.1 n'.1 (.inl h1) (.inl h3),RDs.inj I n.2 n'.2 h2 h4]
end
theorem RDs.vals {ds:List D}{vs:List V}{us:List Value}(h:RDs X.K H F ds vs) (r:Vals vs us) (j:Nat) (hj:j<us.toArray.size) :
  ∃v,RD X.K H F (ds.getD j .non) v/\RelV v us.toArray[j]:=by
 have l1:=RDs.length h
 have l2:=r.length
 have hj':j<us.length:=by simpa using hj
 have hd:ds[j]?=some (ds.getD j .non):=by simp [List.getD,show j<ds.length by omega]
 obtain⟨v,e1,e2⟩:=RDs.get h hd
 obtain⟨u,e3,e4⟩:=r.get e1
 refine⟨v,e2,?_⟩
 have:us.toArray[j]=u:=by
  have:=List.getElem?_eq_some_iff.mp e3
  obtain⟨_,q⟩:=this
  simpa using q
 rw [this];exact e4
theorem qBt:∀{ds:List D}(j:Nat),qD9 ds=true->nob (ds.getD j .non)=true
 | [],j,_=>by simp [List.getD]
 | d::ds,0,h=>by simp at h;simpa using h.1
 | d::ds,j+1,h=>by simp at h;simpa using qBt j h.2
theorem qBN:∀{n:Nat}{ds:List D}(j:Nat),qIK n ds=true->qCn n (ds.getD j .non)=true
 | n,[],j,_=>by cases n<;>simp [List.getD]
 | n,d::ds,0,h=>by simp at h;simpa using h.1
 | n,d::ds,j+1,h=>by simp at h;simpa using qBN j h.2
noncomputable def VS (X:Cx) (H:Hp) (F:Fz) (s:Shared):D->Value->Prop
 | .non,u=>u=.none
 | .bl b,u=>u=.bool b
 | .int i,u=>∃t,u=.int i t
 | .str x,u=>∃t,u=.str x t
 | .tup ds,u=>∃a its vs,u=.ref a/\s.heap.IsTuple a its.toArray/\RDs X.K H F ds vs/\Vals vs its
 | .lst ds,u=>∃a its vs,u=.ref a/\s.heap.IsList a its.toArray/\RDs X.K H F ds vs/\Vals vs its
 | .dct _ _,_=>False
 | .obj _ _,_=>True
theorem qEM (I:Inv X pins σ H s):∀{d:D}{x:V}{u:Value},RP X.K H F d x->RelV x u->VS X H F s d u
 | .non,x,u,h,r=>by have:=h.non;subst this;exact r
 | .bl _,x,u,h,r=>by have:=h.bl;subst this;exact r
 | .int _,x,u,h,r=>by have:=h.int;subst this;exact r
 | .str _,x,u,h,r=>by have:=h.str;subst this;exact r
 | .tup ds,x,u,h,r=>by
  obtain⟨a,vs,rfl,h1,h2⟩:=h.tup
  obtain⟨its,rv,p,_⟩:=I.tuple h1
  exact⟨a,its,vs,r,p,h2,rv⟩
 | .lst ds,x,u,h,r=>by
  obtain⟨a,vs,rfl,h1,h2⟩:=h.lst
  obtain⟨its,rv,p,_⟩:=I.list h1
  exact⟨a,its,vs,r,p.isList,h2,rv⟩
 | .dct _ _,x,u,h,r=>absurd h RP.noDct
 | .obj _ _,x,u,h,r=>trivial
theorem qHM (I:Inv X pins σ H s):∀(n:Nat) (d e:D) (x y:V) (u v:Value) (A:Around),RP X.K H F d x->RP X.K H F e y->RelV x u->RelV y v->(qCn n d||qCn n e)=true->nob d=true->nob e=true->A.units+n<cLine ->
   SeqAt.EqAt A s u v (eqD d e)/\SeqAt.RcAt A s u v (eqD d e)/\SeqAt.RcNeAt A s u v (!eqD d e):=by
 intro n d e x y u v A hx hy ru rv hs hn hn' hu
 have kx:=qEM I hx ru
 have ky:=qEM I hy rv
 have hA:A.units<cLine:=by omega
 cases d with
 | dct _ _=>exact absurd hx RP.noDct
 | obj _ _=>exact absurd hn (by simp)
 | non =>
  have kx:u=.none:=kx
  subst kx
  cases e with
  | dct _ _=>exact absurd hy RP.noDct
  | obj _ _=>exact absurd hn' (by simp)
  | non=>have ky:v=.none:=ky;subst ky;exact⟨SeqAt.EqAt.same _,SeqAt.RcAt.none_none,SeqAt.RcNeAt.none_none⟩
  | bl b=>have ky:v=.bool b:=ky;subst ky;exact⟨SeqAt.EqAt.none_bool _,SeqAt.RcAt.none_bool _,SeqAt.RcNeAt.none_bool _⟩
  | int b=>obtain⟨t,rfl⟩:=ky;exact⟨SeqAt.EqAt.none_int _ _,SeqAt.RcAt.none_int _ _,SeqAt.RcNeAt.none_int _ _⟩
  | str b=>obtain⟨t,rfl⟩:=ky;exact⟨SeqAt.EqAt.none_str _ _,SeqAt.RcAt.none_str _ _,SeqAt.RcNeAt.none_str _ _⟩
  | tup es=>obtain⟨a,its,vs,rfl,p,_⟩:=ky;exact⟨SeqAt.EqAt.none_tuple p hA,SeqAt.RcAt.none_tuple p hA,SeqAt.RcNeAt.none_tuple p hA⟩
  | lst es=>obtain⟨a,its,vs,rfl,p,_⟩:=ky;exact⟨SeqAt.EqAt.none_list p hA,SeqAt.RcAt.none_list p hA,SeqAt.RcNeAt.none_list p hA⟩
 | bl c =>
  have kx:u=.bool c:=kx
  subst kx
  cases e with
  | dct _ _=>exact absurd hy RP.noDct
  | obj _ _=>exact absurd hn' (by simp)
  | non=>have ky:v=.none:=ky;subst ky;exact⟨SeqAt.EqAt.bool_none _,SeqAt.RcAt.bool_none _,SeqAt.RcNeAt.bool_none _⟩
  | bl b=>have ky:v=.bool b:=ky;subst ky;exact⟨SeqAt.EqAt.bool_bool _ _,SeqAt.RcAt.bool_bool _ _,SeqAt.RcNeAt.bool_bool _ _⟩
  | int b=>obtain⟨t,rfl⟩:=ky;exact⟨SeqAt.EqAt.bool_int _ _ _,SeqAt.RcAt.bool_int _ _ _,SeqAt.RcNeAt.bool_int _ _ _⟩
  | str b=>obtain⟨t,rfl⟩:=ky;exact⟨SeqAt.EqAt.bool_str _ _ _,SeqAt.RcAt.bool_str _ _ _,SeqAt.RcNeAt.bool_str _ _ _⟩
  | tup es=>obtain⟨a,its,vs,rfl,p,_⟩:=ky;exact⟨SeqAt.EqAt.bool_tuple _ p hA,SeqAt.RcAt.bool_tuple _ p hA,SeqAt.RcNeAt.bool_tuple _ p hA⟩
  | lst es=>obtain⟨a,its,vs,rfl,p,_⟩:=ky;exact⟨SeqAt.EqAt.bool_list _ p hA,SeqAt.RcAt.bool_list _ p hA,SeqAt.RcNeAt.bool_list _ p hA⟩
 | int c =>
  obtain⟨tc,rfl⟩:=kx
  cases e with
  | dct _ _=>exact absurd hy RP.noDct
  | obj _ _=>exact absurd hn' (by simp)
  | non=>have ky:v=.none:=ky;subst ky;exact⟨SeqAt.EqAt.int_none _ _,SeqAt.RcAt.int_none _ _,SeqAt.RcNeAt.int_none _ _⟩
  | bl b=>have ky:v=.bool b:=ky;subst ky;exact⟨SeqAt.EqAt.int_bool _ _ _,SeqAt.RcAt.int_bool _ _ _,SeqAt.RcNeAt.int_bool _ _ _⟩
  | int b=>obtain⟨t,rfl⟩:=ky;exact⟨SeqAt.EqAt.int_int _ _ _ _,SeqAt.RcAt.int_int _ _ _ _,SeqAt.RcNeAt.int_int _ _ _ _⟩
  | str b=>obtain⟨t,rfl⟩:=ky;exact⟨SeqAt.EqAt.int_str _ _ _ _,SeqAt.RcAt.int_str _ _ _ _,SeqAt.RcNeAt.int_str _ _ _ _⟩
  | tup es=>obtain⟨a,its,vs,rfl,p,_⟩:=ky;exact⟨SeqAt.EqAt.int_tuple _ _ p hA,SeqAt.RcAt.int_tuple _ _ p hA,SeqAt.RcNeAt.int_tuple _ _ p hA⟩
  | lst es=>obtain⟨a,its,vs,rfl,p,_⟩:=ky;exact⟨SeqAt.EqAt.int_list _ _ p hA,SeqAt.RcAt.int_list _ _ p hA,SeqAt.RcNeAt.int_list _ _ p hA⟩
 | str c =>
  obtain⟨tc,rfl⟩:=kx
  cases e with
  | dct _ _=>exact absurd hy RP.noDct
  | obj _ _=>exact absurd hn' (by simp)
  | non=>have ky:v=.none:=ky;subst ky;exact⟨SeqAt.EqAt.str_none _ _,SeqAt.RcAt.str_none _ _,SeqAt.RcNeAt.str_none _ _⟩
  | bl b=>have ky:v=.bool b:=ky;subst ky;exact⟨SeqAt.EqAt.str_bool _ _ _,SeqAt.RcAt.str_bool _ _ _,SeqAt.RcNeAt.str_bool _ _ _⟩
  | int b=>obtain⟨t,rfl⟩:=ky;exact⟨SeqAt.EqAt.str_int _ _ _ _,SeqAt.RcAt.str_int _ _ _ _,SeqAt.RcNeAt.str_int _ _ _ _⟩
  | str b=>obtain⟨t,rfl⟩:=ky;exact⟨SeqAt.EqAt.str_str _ _ _ _,SeqAt.RcAt.str_str _ _ _ _,SeqAt.RcNeAt.str_str _ _ _ _⟩
  | tup es=>obtain⟨a,its,vs,rfl,p,_⟩:=ky;exact⟨SeqAt.EqAt.str_tuple _ _ p hA,SeqAt.RcAt.str_tuple _ _ p hA,SeqAt.RcNeAt.str_tuple _ _ p hA⟩
  | lst es=>obtain⟨a,its,vs,rfl,p,_⟩:=ky;exact⟨SeqAt.EqAt.str_list _ _ p hA,SeqAt.RcAt.str_list _ _ p hA,SeqAt.RcNeAt.str_list _ _ p hA⟩
 | tup ds =>
  obtain⟨a,its,vs,rfl,p,hd,hv⟩:=kx
  cases e with
  | dct _ _=>exact absurd hy RP.noDct
  | obj _ _=>exact absurd hn' (by simp)
  | non=>have ky:v=.none:=ky;subst ky;exact⟨SeqAt.EqAt.tuple_none p hA,SeqAt.RcAt.tuple_none p hA,SeqAt.RcNeAt.tuple_none p hA⟩
  | bl b=>have ky:v=.bool b:=ky;subst ky;exact⟨SeqAt.EqAt.tuple_bool _ p hA,SeqAt.RcAt.tuple_bool _ p hA,SeqAt.RcNeAt.tuple_bool _ p hA⟩
  | int b=>obtain⟨t,rfl⟩:=ky;exact⟨SeqAt.EqAt.tuple_int _ _ p hA,SeqAt.RcAt.tuple_int _ _ p hA,SeqAt.RcNeAt.tuple_int _ _ p hA⟩
  | str b=>obtain⟨t,rfl⟩:=ky;exact⟨SeqAt.EqAt.tuple_str _ _ p hA,SeqAt.RcAt.tuple_str _ _ p hA,SeqAt.RcNeAt.tuple_str _ _ p hA⟩
  | tup es =>
   obtain⟨b,its2,vs2,rfl,p2,hd2,hv2⟩:=ky
   cases n with
   | zero=>simp at hs
   | succ n =>
    have l1:=RDs.length hd
    have l2:=RDs.length hd2
    have l3:=hv.length
    have l4:=hv2.length
    have hj:∀j (h1:j<its.toArray.size) (h2:j<its2.toArray.size),SeqAt.EqAt A.in1 s its.toArray[j] its2.toArray[j] (eqD (ds.getD j .non) (es.getD j .non)):=λj h1 h2=>by
     obtain⟨v1,q1,q2⟩:=RDs.vals hd hv j h1
     obtain⟨v2,q3,q4⟩:=RDs.vals hd2 hv2 j h2
     refine (qHM I n _ _ v1 v2 _ _ A.in1 (.inl q1) (.inl q3) q2 q4 ?_ (qBt j (by simpa using hn)) (qBt j (by simpa using hn')) (by rw [qCW];omega)).1
     simp only [qCn,Bool.or_eq_true] at hs ⊢
     exact hs.imp (λz=>qBN j z) (λz=>qBN j z)
    have e1:((List.range (min its.toArray.size its2.toArray.size)).all (λj=>eqD (ds.getD j .non) (es.getD j .non))&&its.toArray.size == its2.toArray.size)=eqD (.tup ds) (.tup es):=by
     simp only [eqD,qCB,List.size_toArray,<-l3,<-l4,l1,l2]
    have r1:=SeqAt.RcAt.tuples p p2 hA hj
    have r2:=SeqAt.RcNeAt.tuples p p2 hA hj
    rw [e1] at r1 r2
    refine⟨?_,r1,r2⟩
    by_cases hab:a=b
    ·subst hab
     have:D.tup ds=D.tup es:=by
      cases ru':x with
      | ref a' =>
       cases ry':y with
       | ref b' =>
        subst ru' ry'
        have z1:Value.ref a=Value.ref a':=ru
        have z2:Value.ref a=Value.ref b':=rv
        cases z1;cases z2
        exact RP.inj I hn hn' hx hy
       | _=>subst ry';obtain⟨_,_,q,_⟩:=hy.tup;cases q
      | _=>subst ru';obtain⟨_,_,q,_⟩:=hx.tup;cases q
     rw [this,qDR]
     exact SeqAt.EqAt.same _
    ·exact SeqAt.EqAt.of_refs hab r1
  | lst es=>obtain⟨b,its2,vs2,rfl,p2,_⟩:=ky;exact⟨SeqAt.EqAt.tuple_list p p2 hA,SeqAt.RcAt.tuple_list p p2 hA,SeqAt.RcNeAt.tuple_list p p2 hA⟩
 | lst ds =>
  obtain⟨a,its,vs,rfl,p,hd,hv⟩:=kx
  cases e with
  | dct _ _=>exact absurd hy RP.noDct
  | obj _ _=>exact absurd hn' (by simp)
  | non=>have ky:v=.none:=ky;subst ky;exact⟨SeqAt.EqAt.list_none p hA,SeqAt.RcAt.list_none p hA,SeqAt.RcNeAt.list_none p hA⟩
  | bl b=>have ky:v=.bool b:=ky;subst ky;exact⟨SeqAt.EqAt.list_bool _ p hA,SeqAt.RcAt.list_bool _ p hA,SeqAt.RcNeAt.list_bool _ p hA⟩
  | int b=>obtain⟨t,rfl⟩:=ky;exact⟨SeqAt.EqAt.list_int _ _ p hA,SeqAt.RcAt.list_int _ _ p hA,SeqAt.RcNeAt.list_int _ _ p hA⟩
  | str b=>obtain⟨t,rfl⟩:=ky;exact⟨SeqAt.EqAt.list_str _ _ p hA,SeqAt.RcAt.list_str _ _ p hA,SeqAt.RcNeAt.list_str _ _ p hA⟩
  | tup es=>obtain⟨b,its2,vs2,rfl,p2,_⟩:=ky;exact⟨SeqAt.EqAt.list_tuple p p2 hA,SeqAt.RcAt.list_tuple p p2 hA,SeqAt.RcNeAt.list_tuple p p2 hA⟩
  | lst es =>
   obtain⟨b,its2,vs2,rfl,p2,hd2,hv2⟩:=ky
   cases n with
   | zero=>simp at hs
   | succ n =>
    have l1:=RDs.length hd
    have l2:=RDs.length hd2
    have l3:=hv.length
    have l4:=hv2.length
    have hj:∀j (h1:j<its.toArray.size) (h2:j<its2.toArray.size),SeqAt.EqAt A.in1 s its.toArray[j] its2.toArray[j] (eqD (ds.getD j .non) (es.getD j .non)):=λj h1 h2=>by
     obtain⟨v1,q1,q2⟩:=RDs.vals hd hv j h1
     obtain⟨v2,q3,q4⟩:=RDs.vals hd2 hv2 j h2
     refine (qHM I n _ _ v1 v2 _ _ A.in1 (.inl q1) (.inl q3) q2 q4 ?_ (qBt j (by simpa using hn)) (qBt j (by simpa using hn')) (by rw [qCW];omega)).1
     simp only [qCn,Bool.or_eq_true] at hs ⊢
     exact hs.imp (λz=>qBN j z) (λz=>qBN j z)
    have both:SeqAt.RcAt A s (.ref a) (.ref b) (eqD (.lst ds) (.lst es))/\SeqAt.RcNeAt A s (.ref a) (.ref b) (!eqD (.lst ds) (.lst es)):=by
     by_cases hsz:its.toArray.size=its2.toArray.size
     ·have e1:(List.range its.toArray.size).all (λj=>eqD (ds.getD j .non) (es.getD j .non))=eqD (.lst ds) (.lst es):=by
       have hl:ds.length=es.length:=by simp only [List.size_toArray] at hsz;omega
       have hm:its.toArray.size=min ds.length es.length:=by simp only [List.size_toArray];omega
       simp only [eqD,qCB,hm,hl,beq_self_eq_true,Bool.and_true]
      have r1:=SeqAt.RcAt.lists p p2 hsz hA hj
      have r2:=SeqAt.RcNeAt.lists p p2 hsz hA hj
      rw [e1] at r1 r2
      exact⟨r1,r2⟩
     ·have hb:(its.toArray.size != its2.toArray.size)=true:=by simpa using hsz
      have e1:eqD (.lst ds) (.lst es)=false:=by
       have hl:(ds.length == es.length)=false:=by
        simp only [List.size_toArray] at hsz
        rw [beq_eq_false_iff_ne];omega
       simp only [eqD,qCB,hl,Bool.and_false]
      rw [e1]
      exact⟨SeqAt.RcAt.lists_lengths p p2 hb hA,SeqAt.RcNeAt.lists_lengths p p2 hb hA⟩
    refine⟨?_,both⟩
    by_cases hab:a=b
    ·subst hab
     have:D.lst ds=D.lst es:=by
      cases ru':x with
      | ref a' =>
       cases ry':y with
       | ref b' =>
        subst ru' ry'
        have z1:Value.ref a=Value.ref a':=ru
        have z2:Value.ref a=Value.ref b':=rv
        cases z1;cases z2
        exact RP.inj I hn hn' hx hy
       | _=>subst ry';obtain⟨_,_,q,_⟩:=hy.lst;cases q
      | _=>subst ru';obtain⟨_,_,q,_⟩:=hx.lst;cases q
     rw [this,qDR]
     exact SeqAt.EqAt.same _
    ·exact SeqAt.EqAt.of_refs hab both.1
end
end Dw
namespace Dw
open PySem PySem.Spec PyProof.Rows L2
section
variable {prog:Program}{w:World}{A:Around}{R:Result->Shared->Prop}{I:Addr}{fp wr:List Addr}{n:Nat}{P:Nat->Value->Prop}{St:Nat->Heap->Prop}
end
section
variable {prog:Program}{w:World}{A:Around}{E:Value->Shared->Prop}{s:Shared}
end
section
variable {X:Cx}
end
end Dw
namespace Dw
open PySem PySem.Spec PyProof.Rows L2
noncomputable def qD2:Ty->String
 | .int=>"int"|.bool=>"bool"|.tuple=>"tuple"|.list=>"list"|.str=>"str"
noncomputable def qJc:D->String
 | .non=>"NoneType"|.bl _=>"bool"|.int _=>"int"|.str _=>"str"|.tup _=>"tuple"|.lst _=>"list"|.dct _ _=>"NoneType"|.obj _ _=>"NoneType"
theorem qLs (K:PySem.W.Frag) (ty:Ty) (d:D):PySem.W.kitOne K (.type (qJc d)) (.type (qD2 ty))=some (tyD ty d):=by
 cases ty<;>cases d<;>kernel_rfl
section
variable {X:Cx}
theorem qH0:CallR X (.builtin "isinstance") (λxs H Q=>∃(x:V) (d:D) (F:Fz) (ty:Ty) (b:Bool),xs=[x,.ty (qD2 ty)]/\RP X.K H F d x/\tyR ty d=some (false,.bl b)/\Q (.bl b) H):=by
 intro pins s σ H xs us Q I r h
 obtain⟨x,d,F,ty,b,rfl,hx,hb,q⟩:=h
 have hb2:b=tyD ty d:=by cases d<;>first|(cases hb;rfl)|cases hb
 subst hb2
 obtain⟨u,w',rfl,ru,rw'⟩:=qIo r
 have rw'':w'=Value.type (qD2 ty):=rw'
 subst rw''
 have fin:∀tk,EP X pins σ Q (.bool (tyD ty d)) { s with toks:=tk }:=λtk=>⟨.bl _,H,I.tok tk,rfl,q⟩
 have e:=qLs X.K ty d
 have k:=qEM I hx ru
 cases d with
 | dct _ _=>exact absurd hx RP.noDct
 | obj _ _=>cases hb
 | non=>have k:u=.none:=k;subst k;exact PySem.W.kia_one PySem.W.kitx_none I.kIn True.intro e (λz=>nomatch z) fin
 | bl b=>have k:u=.bool b:=k;subst k;exact PySem.W.kia_one PySem.W.kitx_bool I.kIn True.intro e (λz=>nomatch z) fin
 | int i=>obtain⟨t,rfl⟩:=k;exact PySem.W.kia_one PySem.W.kitx_int I.kIn True.intro e (λz=>nomatch z) fin
 | str i=>obtain⟨t,rfl⟩:=k;exact PySem.W.kia_one PySem.W.kitx_str I.kIn True.intro e (λz=>nomatch z) fin
 | tup ds=>obtain⟨a,its,vs,rfl,⟨o,h1,h2,_⟩,_⟩:=k;exact PySem.W.kia_one PySem.W.kitx_tuple I.kIn ⟨o,h1,h2⟩ e (λz=>nomatch z) fin
 | lst ds=>obtain⟨a,its,vs,rfl,⟨o,h1,h2,_⟩,_⟩:=k;exact PySem.W.kia_one PySem.W.kitx_list I.kIn ⟨o,h1,h2⟩ e (λz=>nomatch z) fin
theorem qNe (neg:Bool):OpR X (compareOp (if neg then .IsNot else .Is)) (λx y H Q=>∃(d e:D) (F:Fz) (b:Bool),RP X.K H F d x/\RP X.K H F e y/\isD neg d e=some (false,.bl b)/\Q (.bl b) H):=by
 intro pins s σ H x y v u Q I rx ry h
 obtain⟨d,e,F,b,hx,hy,hb,q⟩:=h
 have kx:=qEM I hx rx
 have ky:=qEM I hy ry
 have fin:∀c:Bool,c=b->EP X pins σ Q (.bool c) s:=λc z=>⟨.bl c,H,I,rfl,by rw [z];exact q⟩
 have go:∀(c:Bool),plainIs v u=true->(v == u)=c->(if neg then !c else c)=b->wpAny (model X.prog X.w) X.A (compareOp (if neg then .IsNot else .Is) v u) (EP X pins σ Q) X.xe s:=λc hp hv hc=>by
  subst hv
  cases neg with
  | true=>exact wpAny_isNot_plain hp (fin _ hc)
  | false=>exact wpAny_is_plain hp (fin _ hc)
 have no:∀{x y:Value},x≠y->(x == y)=false:=λh=>beq_eq_false_iff_ne.mpr h
 cases e with
 | non =>
  have ky:u=.none:=ky
  subst ky
  cases d with
  | dct _ _=>exact absurd hx RP.noDct
  | obj _ _=>cases hb
  | non=>have kx:v=.none:=kx;subst kx;exact go true rfl (beq_self_eq_true _) (by cases neg<;>simp at hb ⊢<;>exact hb)
  | bl c=>have kx:v=.bool c:=kx;subst kx;exact go false rfl (no (λz=>nomatch z)) (by cases neg<;>simp at hb ⊢<;>exact hb)
  | int c=>obtain⟨t,rfl⟩:=kx;exact go false rfl (no (λz=>nomatch z)) (by cases neg<;>simp at hb ⊢<;>exact hb)
  | str c=>obtain⟨t,rfl⟩:=kx;exact go false rfl (no (λz=>nomatch z)) (by cases neg<;>simp at hb ⊢<;>exact hb)
  | tup ds=>obtain⟨a,its,vs,rfl,_⟩:=kx;exact go false rfl (no (λz=>nomatch z)) (by cases neg<;>simp at hb ⊢<;>exact hb)
  | lst ds=>obtain⟨a,its,vs,rfl,_⟩:=kx;exact go false rfl (no (λz=>nomatch z)) (by cases neg<;>simp at hb ⊢<;>exact hb)
 | bl c2 =>
  have ky:u=.bool c2:=ky
  subst ky
  cases d with
  | dct _ _=>exact absurd hx RP.noDct
  | obj _ _=>cases hb
  | non=>have kx:v=.none:=kx;subst kx;exact go false rfl (no (λz=>nomatch z)) (by cases neg<;>simp at hb ⊢<;>exact hb)
  | bl c =>
   have kx:v=.bool c:=kx
   subst kx
   by_cases hc:c=c2
   ·subst hc
    exact go true rfl (beq_self_eq_true _) (by cases neg<;>simp at hb ⊢<;>exact hb)
   ·exact go false rfl (no (λz=>hc (by injection z))) (by cases neg<;>cases c<;>cases c2<;>simp at hb hc ⊢<;>exact hb)
  | int c=>obtain⟨t,rfl⟩:=kx;exact go false rfl (no (λz=>nomatch z)) (by cases neg<;>simp at hb ⊢<;>exact hb)
  | str c=>obtain⟨t,rfl⟩:=kx;exact go false rfl (no (λz=>nomatch z)) (by cases neg<;>simp at hb ⊢<;>exact hb)
  | tup ds=>obtain⟨a,its,vs,rfl,_⟩:=kx;exact go false rfl (no (λz=>nomatch z)) (by cases neg<;>simp at hb ⊢<;>exact hb)
  | lst ds=>obtain⟨a,its,vs,rfl,_⟩:=kx;exact go false rfl (no (λz=>nomatch z)) (by cases neg<;>simp at hb ⊢<;>exact hb)
 | _=>cases d<;>simp at hb
theorem qNg (hu:X.A.units+20<cLine):OpR X (compareOp .Eq) (λx y H Q=>∃(d e:D) (F:Fz),RP X.K H F d x/\RP X.K H F e y/\(qCn 20 d||qCn 20 e)=true/\nob d=true/\nob e=true/\Q (.bl (eqD d e)) H):=by
 intro pins s σ H x y v u Q I rx ry h
 obtain⟨d,e,F,hx,hy,hs,n1,n2,q⟩:=h
 exact (qHM I 20 d e x y v u X.A hx hy rx ry hs n1 n2 hu).2.1 _ _ _ _ ⟨.bl _,H,I,rfl,q⟩
theorem qNj {pins:List (Addr×Obj)}{σ:L2.St}{H:Hp}{s:Shared}{F:Fz}{ds:List D}{x y:V}{u v:Value}{A:Around}(I:Inv X pins σ H s) (hx:RP X.K H F (.lst ds) x) (hy:RP X.K H F (.lst []) y) (ru:RelV x u) (rv:RelV y v) (hA:A.units<cLine):SeqAt.RcNeAt A s u v (!ds.isEmpty):=by
 obtain⟨a,its,vs,rfl,p,hd,hv⟩:=qEM I hx ru
 obtain⟨b,its2,vs2,rfl,p2,hd2,hv2⟩:=qEM I hy rv
 have l1:=RDs.length hd
 have l2:=RDs.length hd2
 have l3:=hv.length
 have l4:=hv2.length
 rw [List.length_nil] at l2
 by_cases hsz:its.toArray.size=its2.toArray.size
 ·simp only [List.size_toArray] at hsz
  have e:ds=[]:=List.length_eq_zero_iff.mp (by omega)
  have e0:its.length=0:=by omega
  subst e
  have r2:=SeqAt.RcNeAt.lists (e:=λ_=>true) p p2 (by simpa using hsz) hA (λj h1 h2=>absurd h1 (by simp [e0]))
  rw [show its.toArray.size=0 by simpa using e0] at r2
  exact r2
 ·have hb:(its.toArray.size != its2.toArray.size)=true:=by simpa using hsz
  simp only [List.size_toArray] at hsz
  have e:ds.isEmpty=false:=by
   cases ds with
   | nil=>rw [List.length_nil] at l1;omega
   | cons _ _=>rfl
  rw [e]
  exact SeqAt.RcNeAt.lists_lengths p p2 hb hA
theorem qNd (hu:X.A.units+20<cLine):OpR X (compareOp .NotEq) (λx y H Q=>∃(d e:D) (F:Fz) (b:Bool),RP X.K H F d x/\RP X.K H F e y/\qGe .ne d e=some (false,.bl b)/\Q (.bl b) H):=by
 intro pins s σ H x y v u Q I rx ry h
 obtain⟨d,e,F,b,hx,hy,hs,q⟩:=h
 rw [qGe] at hs
 split at hs
 ·rename_i hc
  cases hs
  simp only [Bool.and_eq_true] at hc
  exact (qHM I 20 d e x y v u X.A hx hy rx ry hc.1 hc.2.1 hc.2.2 hu).2.2 _ _ _ _ ⟨.bl _,H,I,rfl,q⟩
 ·unfold qOv at hs
  split at hs
  ·cases hs
   exact qNj I hx hy rx ry (by omega) _ _ _ _ ⟨.bl _,H,I,rfl,q⟩
  ·cases hs
theorem RDs.at_ {K:PySem.W.Frag}{H:Hp}{F:Fz}:∀{ds:List D}{vs:List V},RDs K H F ds vs->∀i,i<vs.length->RD K H F (ds.getD i .non) (vs.getD i .non)
 | [],_,h,i,hi=>by cases h;exact absurd hi (Nat.not_lt_zero _)
 | _::_,_,⟨v,r,e,h1,h2⟩,i,hi=>by
  subst e
  cases i with
  | zero=>exact h1
  | succ i=>exact RDs.at_ h2 i (Nat.lt_of_succ_lt_succ hi)
theorem qDr {vs:List V}{us:List Value}(r:Vals vs us) (i:Nat) (hi:i<vs.length):L2.RelV (vs.getD i .non) (us.getD i .none):=by
 obtain⟨u,e1,e2⟩:=r.get (i:=i) (x:=vs[i]) (List.getElem?_eq_getElem hi)
 rw [List.getD_eq_getElem?_getD,List.getElem?_eq_getElem hi,List.getD_eq_getElem?_getD,e1]
 exact e2
theorem qLC {pins:List (Addr×Obj)}{s:Shared}{σ:L2.St}{H:Hp}{F:Fz}(I:Inv X pins σ H s) (hu:X.A.units+20<cLine) {d:D}{ds:List D}{x:V}{v:Value}{vs:List V}{us:List Value}(hx:RP X.K H F d x) (rx:L2.RelV x v) (hr:RDs X.K H F ds vs) (rv:Vals vs us) (hs:qCn 19 d=true) (n1:nob d=true) (n2:qD9 ds=true) :
  ∃e:Value->Bool,(∀y,y∈us.toArray->SeqAt.EqAt X.A.in1 s y v (e y))/\us.toArray.any e=qEL ds d/\∀i,i<vs.length->e (us.getD i .none)=eqD (ds.getD i .non) d:=by
 have hl:vs.length=us.length:=rv.length
 have hd:vs.length=ds.length:=RDs.length hr
 have he:∀i,i<vs.length->SeqAt.EqAt X.A.in1 s (us.getD i .none) v (eqD (ds.getD i .non) d):=λi hi =>
  (qHM I 19 _ _ _ _ _ _ X.A.in1 (.inl (RDs.at_ hr i hi)) hx (qDr rv i hi) rx (by rw [hs,Bool.or_true]) (qBt i n2) n1 (by rw [qCW];omega)).1
 have same:∀i j,i<vs.length->j<vs.length->us.getD i .none=us.getD j .none->ds.getD i .non=ds.getD j .non:=λi j hi hj e=>by
  have a:=qDr rv i hi
  rw [e] at a
  have b:=a.inj (qDr rv j hj)
  have c:=RDs.at_ hr i hi
  rw [b] at c
  exact RP.inj I (qBt i n2) (qBt j n2) (.inl c) (.inl (RDs.at_ hr j hj))
 have val:∀i,i<vs.length->@decide (∃j,j<vs.length/\us.getD j .none=us.getD i .none/\eqD (ds.getD j .non) d=true) (Classical.propDecidable _)=eqD (ds.getD i .non) d:=λi hi'=>by
  cases hq:eqD (ds.getD i .non) d with
  | true=>exact @decide_eq_true _ (Classical.propDecidable _) ⟨i,hi',rfl,hq⟩
  | false =>
   refine @decide_eq_false _ (Classical.propDecidable _) ?_
   rintro⟨j,hj,ej,qj⟩
   rw [same j i hj hi' ej,hq] at qj
   cases qj
 refine⟨λy=>@decide (∃i,i<vs.length/\us.getD i .none=y/\eqD (ds.getD i .non) d=true) (Classical.propDecidable _),λy hy=>?_,?_,val⟩
 ·obtain⟨i,hi,rfl⟩:=List.mem_iff_getElem.mp (by simpa using hy:y∈us)
  have hi':i<vs.length:=by omega
  have g:us.getD i .none=us[i]:=by rw [List.getD_eq_getElem?_getD,List.getElem?_eq_getElem hi];rfl
  have h:=he i hi'
  rw [g] at h
  have e:=val i hi'
  rw [g] at e
  show SeqAt.EqAt X.A.in1 s us[i] v (@decide (∃j,j<vs.length/\us.getD j .none=us[i]/\eqD (ds.getD j .non) d=true) (Classical.propDecidable _))
  rw [e]
  exact h
 ·unfold qEL
  rw [List.any_toArray,Bool.eq_iff_iff,List.any_eq_true,List.any_eq_true]
  constructor
  ·rintro⟨y,_,hy⟩
   obtain⟨i,hi,_,q⟩:=@of_decide_eq_true _ (Classical.propDecidable _) hy
   rw [List.getD_eq_getElem?_getD,List.getElem?_eq_getElem (show i<ds.length by omega)] at q
   exact⟨_,List.getElem_mem (show i<ds.length by omega),q⟩
  ·rintro⟨d',hd',q⟩
   obtain⟨i,hi,rfl⟩:=List.mem_iff_getElem.mp hd'
   refine⟨us[i],List.getElem_mem (show i<us.length by omega),@decide_eq_true _ (Classical.propDecidable _) ⟨i,by omega,?_,?_⟩⟩
   ·rw [List.getD_eq_getElem?_getD,List.getElem?_eq_getElem (show i<us.length by omega)];rfl
   ·rw [List.getD_eq_getElem?_getD,List.getElem?_eq_getElem hi];exact q
theorem qNf (n:Bool) (hu:X.A.units+20<cLine):OpR X (compareOp (if n then .NotIn else .In)) (λx y H Q=>∃(d:D) (ds:List D) (F:Fz) (p:Addr) (vs:List V),RP X.K H F d x/\y=.ref p/\(SqL X.K H p vs∨SqT X.K H p vs)/\RDs X.K H F ds vs/\qCn 19 d=true/\nob d=true/\qD9 ds=true/\Q (.bl (if n then !(qEL ds d) else qEL ds d)) H):=by
 intro pins s σ H x y v u Q I rx ry h
 obtain⟨d,ds,F,p,vs,hx,rfl,hp,hr,hs,n1,n2,q⟩:=h
 cases ry
 rcases hp with hp|hp
 ·obtain⟨its,rv,ht,_⟩:=I.list hp
  obtain⟨e,he,ea,_⟩:=qLC I hu hx rx hr rv hs n1 n2
  cases n with
  | false=>exact SeqAt.in_listAt e ht.isList he ⟨.bl _,H,I,by rw [ea];rfl,q⟩
  | true=>exact SeqAt.notIn_listAt e ht.isList he ⟨.bl _,H,I,by rw [ea];rfl,q⟩
 ·obtain⟨its,rv,ht,_⟩:=I.tuple hp
  obtain⟨e,he,ea,_⟩:=qLC I hu hx rx hr rv hs n1 n2
  cases n with
  | false=>exact SeqAt.in_tupleAt e ht he ⟨.bl _,H,I,by rw [ea];rfl,q⟩
  | true=>exact SeqAt.notIn_tupleAt e ht he ⟨.bl _,H,I,by rw [ea];rfl,q⟩
end
section
variable {X:Cx}
theorem qNX {its:List Value}{bs:List Bool}{e:Value->Bool}(hl:its.length=bs.length) (h:∀i,i<bs.length->e (its.getD i .none)=bs.getD i false):its.countP e=bs.countP id:=by
 have hm:its.map e=bs:=by
  apply List.ext_getElem
  ·simpa using hl
  ·intro i h1 h2
   have:=h i h2
   rw [List.getD_eq_getElem?_getD,List.getD_eq_getElem?_getD,List.getElem?_eq_getElem (by simpa using h1),List.getElem?_eq_getElem h2] at this
   simpa using this
 rw [<-hm,List.countP_map]
 rfl
theorem qI1 (bs:List Bool):qD9 (bs.map D.bl)=true:=by
 induction bs with
 | nil=>rfl
 | cons b r ih=>show (true&&qD9 (r.map D.bl))=true;rw [ih];rfl
theorem RDs.of_bls {K:PySem.W.Frag}{H:Hp}{F:Fz}(bs:List Bool):RDs K H F (bs.map .bl) (bs.map V.bl):=by
 induction bs with
 | nil=>rfl
 | cons b r ih=>exact⟨_,_,rfl,rfl,ih⟩
theorem qI4 (hu:X.A.units+20<cLine):MtM X "list.count" (λx vs H Q=>∃(p:Addr) (bs:List Bool),x=.ref p/\vs=[.bl true]/\H p=some (.lst (bs.map V.bl))/\Q (.int ((bs.countP id:Nat):Int)) H):=by
 intro pins s σ H x vs v us Q I rx rv h
 obtain⟨p,bs,rfl,rfl,hH,q⟩:=h
 cases rx
 obtain⟨u,rfl,ru⟩:=rv.one
 obtain⟨z,its,n,r,hl,e⟩:=I.lstM hH
 obtain⟨f,he,_,hv⟩:=qLC (F:=λ_=>False) (d:=.bl true) (ds:=bs.map .bl) I hu (.inl rfl) ru (RDs.of_bls bs) r rfl rfl (qI1 bs)
 have hlen:its.length=bs.length:=by have:=r.length;simpa using this.symm
 have hc:its.countP f=bs.countP id:=qNX hlen λi hi=>by
  rw [hv i (by simpa using hi),List.getD_eq_getElem?_getD,List.getElem?_map,List.getD_eq_getElem?_getD,List.getElem?_eq_getElem hi]
  show eqD (D.bl bs[i]) (.bl true)=bs[i]
  simp
 refine call_meets PySem.F.slot_list_count ⟨_,e,rfl⟩ PySem.F.entry_list_count (PySem.F.args_list_count_2 _ _) (SeqAt.list_countAt p its.toArray n none #[] u f) ⟨e,he,?_⟩
 rw [show its.toArray.toList=its from rfl,hc]
 exact⟨.int _,H,I.kept (t':=s.toks+1) λb o eb=>eb,⟨_,rfl⟩,q⟩
end
end Dw
namespace Dw
open PySem PySem.Spec PyProof.Rows L2
noncomputable def RG (K:PySem.W.Frag) (H:Hp) (F:Fz) (d:D) (v:V):Prop:=RD K H F d v∨∃a ks,d=.dct false ks/\v=.ref a/\¬F a/\H a=some (.dK (dk ks))
noncomputable def RGs (K:PySem.W.Frag) (H:Hp) (F:Fz):List D->List V->Prop
 | [],vs=>vs=[]
 | d::ds,vs=>∃v r,vs=v::r/\RG K H F d v/\RGs K H F ds r
theorem RG.grow {K:PySem.W.Frag}{H H1:Hp}{F F1:Fz}(g:Gr H F H1 F1) {d:D}{v:V}(h:RG K H F d v):RG K H1 F1 d v:=
 h.elim (λz=>.inl (RD.mono g.keep z)) λ⟨a,ks,e1,e2,e3,e4⟩=>.inr ⟨a,ks,e1,e2,(λz=>(g.new a z).elim e3 λz=>absurd (e4.symm.trans z) (by simp)),g.same _ _ e4⟩
theorem RGs.of {K:PySem.W.Frag}{H:Hp}{F:Fz}:∀{ds:List D}{vs:List V},RDs K H F ds vs->RGs K H F ds vs
 | [],_,h=>h
 | _::_,_,⟨v,r,e,h1,h2⟩=>⟨v,r,e,.inl h1,RGs.of h2⟩
theorem RGs.length {K:PySem.W.Frag}{H:Hp}{F:Fz}:∀{ds:List D}{vs:List V},RGs K H F ds vs->vs.length=ds.length
 | [],_,h=>by rw [show _=[] from h];rfl
 | _::_,_,⟨v,r,e,h1,h2⟩=>by rw [e,List.length_cons,List.length_cons,RGs.length h2]
theorem RGs.get {K:PySem.W.Frag}{H:Hp}{F:Fz}:∀{ds:List D}{vs:List V}{i:Nat}{d:D},RGs K H F ds vs->ds[i]?=some d->∃v,vs[i]?=some v/\RG K H F d v
 | [],_,_,_,_,e=>by simp at e
 | x::ds,_,i,d,⟨v,r,e1,h1,h2⟩,e=>by
  subst e1
  cases i with
  | zero=>simp at e;subst e;exact⟨v,rfl,h1⟩
  | succ i=>simp at e;obtain⟨w,q1,q2⟩:=RGs.get h2 e;exact⟨w,by simpa using q1,q2⟩
noncomputable def spD (K:PySem.W.Frag) (n:Nat) (f:List D->Option R):Sp:=λvs H Q _=>vs.length=n/\∃(F:Fz) (ds:List D) (r:R),(∀a,H a=none->¬F a)/\RGs K H F ds vs/\f ds=some r /\
 ∀v H' F',Gr H F H' F'->RR K H H' F' r v->Q v H'
noncomputable def del (H:Hp) (a:Addr):Hp:=λb=>if b=a then none else H b
noncomputable def spH (K:PySem.W.Frag) (n:Nat) (f:List D->Option R):Sp:=λvs H Q _=>vs.length=n/\∃(F:Fz) (a:Addr) (xs ds ys:List D) (ws us:List V) (b:Bool),vs=.ref a::us/\(∀a,H a=none->¬F a)/\H a=some (.lst ws)/\¬F a/\RDs K H F xs ws/\RDs K H F ds us/\f (.lst xs::ds)=some (b,.lst ys) /\
 ∀H' F' zs,Gr (del H a) F H' F'->H' a=some (.lst zs)->¬F' a->RDs K H' F' ys zs->Q .non H'
structure Dfh (call:Nat->List D->Option R) (k:Nat) (X:Cx) (f:Str) (i:Nat):Prop where
 ex:∃(a:Addr) (fd:FuncData) (ps:List Str),X.mg f=some (.ref a)/\PySem.W.keepIn X.K (.ref a)=true/\Binds X.K fd ps []/\FnOk X.prog X.w X.K X.mg X.base CX0 k a fd ps (spH X.K ps.length (call (i+HX)))/\∀ds r,call (i+HX) ds=some r->ds.length=ps.length
structure Dfn (call:Nat->List D->Option R) (k:Nat) (X:Cx) (f:Str) (i:Nat):Prop where
 ex:∃(a:Addr) (fd:FuncData) (ps:List Str),X.mg f=some (.ref a)/\PySem.W.keepIn X.K (.ref a)=true/\Binds X.K fd ps []/\FnOk X.prog X.w X.K X.mg X.base CX0 k a fd ps (spD X.K ps.length (call i))/\∀ds r,call i ds=some r->ds.length=ps.length
noncomputable def kV:D->V
 | .int i=>.int i
 | .bl b=>.bl b
 | .str x=>.str x
 | _=>.non
noncomputable def isK:D->Bool
 | .tup _=>false
 | .lst _=>false
 | .dct _ _=>false
 | .obj _ _=>false
 | _=>true
noncomputable def arV (vs zs:List V):Ar->V
 | .pos i=>vs.getD i .non
 | .kw i=>zs.getD i .non
 | .dft _ d=>kV d
structure Dfu (call:Nat->List D->Option R) (k:Nat) (X:Cx) (u:Uc):Prop where
 ex:∃(a:Addr) (fd:FuncData) (ps:List Str) (g:List Value->List Value->List Value) (gV:List V->List V->List V),X.mg u.f=some (.ref a)/\PySem.W.keepIn X.K (.ref a)=true/\KBinds X.K fd ps u.ks g gV/\(∀vs zs,vs.length=u.np->zs.length=u.ks.length->gV vs zs=u.pl.map (arV vs zs)) /\
  (∀j d,Ar.dft j d∈u.pl->isK d=true)/\FnOk X.prog X.w X.K X.mg X.base CX0 k a fd ps (spD X.K ps.length (call u.i))/\∀ds r,call u.i ds=some r->ds.length=ps.length
noncomputable def qJV:List Str->List V->List (Str×V)->List (Str×V)
 | f::ns,v::vs,fs=>qJV ns vs (qCx f v fs)
 | _,_,fs=>fs
noncomputable def spI (K:PySem.W.Frag) (ns:List Str):Sp:=λvs H Q _=>∃(x C dx:Addr) (ws:List V),vs=.ref x::ws/\ws.length=ns.length/\H x=some (.ins C dx [])/\Cls K C/\(∀f∈ns,NoAttr K C f)/\Q .non (upd H x (.ins C dx (qJV ns ws [])))
structure Mk0 (K:PySem.W.Frag) (C:Addr):Prop where
 makes:PySem.W.makesIn K C=true
 init:PySem.W.findIn K (.ref C) "__init__"=some (some (.builtin "object.__init__"))
 kp:PySem.W.keepIn K (.ref C)=true
noncomputable def Ini (X:Cx) (C:Addr) (ns:List Str):Prop:=(∃(fi:Addr) (fdi:FuncData) (psi:List Str),Mk X.K C fi/\Binds X.K fdi psi []/\FnOk X.prog X.w X.K X.mg X.base CX0 1 fi fdi psi (spI X.K ns))∨(ns=[]/\Mk0 X.K C)
structure Dfm (call:Nat->List D->Option R) (k:Nat) (X:Cx) (ns:List Str) (c m:Str) (i:Nat) (C:Addr):Prop where
 ex:∃(fm:Addr) (fdm:FuncData) (psm:List Str),X.mg c=some (.ref C)/\Ini X C ns/\Cls X.K C/\(∀f∈ns,NoAttr X.K C f)/\Meth X.K C m fm/\Binds X.K fdm psm [] /\
  FnOk X.prog X.w X.K X.mg X.base CX0 k fm fdm psm (spD X.K psm.length (call i))/\(∀ds r,call i ds=some r->ds.length=psm.length)/\m∉ns/\ns.Nodup
noncomputable def qOn (K:PySem.W.Frag) (c C:Addr) (b:Bool):Prop:=Cls K c/\PySem.W.findIn K (.ref c) "__class__"=some (some (.builtin "object.__class__"))/\PySem.W.specialIn K (.builtin "object.__class__") "__get__"=some (some (.builtin "getset_descriptor.__get__"))/\PySem.W.takesIn K (.builtin "object.__class__")=some true /\
 PySem.W.mroIn K c (.type "object")=some true/\PySem.W.kitOne K (.ref c) (.ref C)=some b
noncomputable def Dia (K:PySem.W.Frag) (mg:Str->Option Value) (t:Str) (tb:List (Nat×Bool)):Prop:=∃C,mg t=some (.ref C)/\∀p∈tb,qOn K p.1 C p.2
noncomputable def qAI:List Str:=["len","abs","min","max","sum","all","tuple","list","int","bool","str","isinstance","range","zip","reversed","sorted","enumerate","any"].map Str.ofString
structure XG (call:Nat->List D->Option R) (G:Gx) (k:Nat) (X:Cx) (sc:Scope) (N:List Str):Prop where
 hN:X.N=N
 nd:N.Nodup
 vis:∀x,qL5 sc x=true->Vis X.env.scope x
 loc:∀x,(sc.names.lookup x == some .local||sc.names.lookup x == some .cell)=true->Loc X.env.scope x/\(X.fn x=true∨X.env.scope.names.lookup x=some .local)
 gl:∀x,glB sc x=true->Gl X x
 cap:∀x,qL9 sc x=true->X.env.kindOf x=some .cell∨X.env.kindOf x=some .free
 calm:X.calm=true
 xe:X.xe=λ_ _=>False
 room:Room k X.A
 defs:∀f i,G.defs.lookup f=some i->Dfn call k X f i
 blt:∀x,G.defs.lookup x=none->x∈qAI->X.mg x=none
 cons:∀x i,G.cons.lookup x=some i->∃t,X.mg x=some (.int i t)
 ucal:∀u∈G.ucal,Dfu call k X u
 meth:∀u∈G.meth,Dfm call k X u.kn.ns u.c u.m u.i u.kn.c
 two:G.meth≠[]->2<=k
 hnd:∀f i,G.defs.lookup f=some i->Dfh call k X f i
 isa:∀t tb,G.isa.lookup t=some tb->Dia X.K X.mg t tb
section
variable {call:Nat->List D->Option R}{G:Gx}{k:Nat}{X:Cx}{sc:Scope}{N:List Str}
variable (call X) in
noncomputable def SndE (e:Expr) (c:C):Prop:=∃t:TE,PE X e t/\∀(Ge:Gp) (H:Hp) (F:Fz) (σ:En) (τ:L2.St) (r:R) (Q:VK),evE call σ c=some r->SR X.K Ge H F σ τ->(∀v H' F',Gr H F H' F'->RR X.K H H' F' r v->Q v H')->t τ H Q
variable (call X) in
noncomputable def qEI (e:Expr) (c:C):Prop:=∃t:TE,PE X e t/\∀(Ge:Gp) (H:Hp) (F:Fz) (σ:En) (τ:L2.St) (d:D) (Q:VK),pk σ c (evE call σ c)=some d->SR X.K Ge H F σ τ->(∀v H' F',Gr H F H' F'->RP X.K H' F' d v->Q v H')->t τ H Q
variable (call X) in
noncomputable def qDe (e:Expr) (c:C):Prop:=∃t:TT,PT X e t/\∀(Ge:Gp) (H:Hp) (F:Fz) (σ:En) (τ:L2.St) (x b:Bool) (Q:Bool->Hp->Prop),evE call σ c=some (x,.bl b)->SR X.K Ge H F σ τ->(∀H' F',Gr H F H' F'->Q b H')->t τ H Q
variable (call X) in
noncomputable def qJI (es:List Expr) (cs:List C):Prop:=∃t:TA,PA X es t/\∀(Ge:Gp) (H:Hp) (F:Fz) (σ:En) (τ:L2.St) (ds:List D) (Q:List V->Hp->Prop),evA call σ cs=some ds->SR X.K Ge H F σ τ->(∀vs H' F',Gr H F H' F'->RDs X.K H' F' ds vs->Q vs H')->t τ H Q
noncomputable def RPs (K:PySem.W.Frag) (H:Hp) (F:Fz):List D->List V->Prop
 | [],vs=>vs=[]
 | d::ds,vs=>∃v r,vs=v::r/\RP K H F d v/\RPs K H F ds r
theorem RPs.grow {K:PySem.W.Frag}{H H1:Hp}{F F1:Fz}(g:Gr H F H1 F1):∀{ds:List D}{vs:List V},RPs K H F ds vs->RPs K H1 F1 ds vs
 | [],_,h=>h
 | _::_,_,⟨v,r,e,h1,h2⟩=>⟨v,r,e,h1.grow g,RPs.grow g h2⟩
variable (call X) in
noncomputable def qEJ (es:List Expr) (cs:List C):Prop:=∃t:TA,PA X es t/\∀(Ge:Gp) (H:Hp) (F:Fz) (σ:En) (τ:L2.St) (ds:List D) (Q:List V->Hp->Prop),qCj call σ cs=some ds->SR X.K Ge H F σ τ->(∀vs H' F',Gr H F H' F'->RPs X.K H' F' ds vs->Q vs H')->t τ H Q
variable (call X) in
noncomputable def qJH (e:Expr) (c:C):Prop:=∃t:TE,PE X e t/\∀(Ge:Gp) (H:Hp) (F:Fz) (σ:En) (τ:L2.St) (d:D) (Q:VK),ag σ c (evE call σ c)=some d->SR X.K Ge H F σ τ->(∀v H' F',Gr H F H' F'->RG X.K H' F' d v->Q v H')->t τ H Q
variable (call X) in
noncomputable def qIj (es:List Expr) (cs:List C):Prop:=∃t:TA,PA X es t/\∀(Ge:Gp) (H:Hp) (F:Fz) (σ:En) (τ:L2.St) (ds:List D) (Q:List V->Hp->Prop),evG call σ cs=some ds->SR X.K Ge H F σ τ->(∀vs H' F',Gr H F H' F'->RGs X.K H' F' ds vs->Q vs H')->t τ H Q
variable (call X) in
noncomputable def qOl (e:Option Expr) (c:Option C):Prop:=∃t:TO,PO X e t/\∀(Ge:Gp) (H:Hp) (F:Fz) (σ:En) (τ:L2.St) (o:Option Int) (Q:Option Int->Hp->Prop),evO call σ c=some o->SR X.K Ge H F σ τ->(∀H' F',Gr H F H' F'->Q o H')->t τ H Q
theorem SndE.look {e:Expr}{c:C}(h:SndE call X e c) (hc:∀i,c≠.v i):qEI call X e c:=by
 obtain⟨t,p,q⟩:=h
 refine⟨t,p,λGe H F σ τ d Q hd hs k=>?_⟩
 have hd':(evE call σ c).map (·.2)=some d:=by
  cases c with
  | v i=>exact absurd rfl (hc i)
  | _=>exact hd
 cases hr:evE call σ c with
 | none=>rw [hr] at hd';cases hd'
 | some r =>
  rw [hr] at hd'
  cases hd'
  exact q Ge H F σ τ r Q hr hs λv H' F' g z=>k v H' F' g z.look
theorem SndE.lend {e:Expr}{c:C}(h:SndE call X e c) (hc:∀i,c≠.v i):qJH call X e c:=by
 obtain⟨t,p,q⟩:=h
 refine⟨t,p,λGe H F σ τ d Q hd hs k=>?_⟩
 have hd':(evE call σ c).map (·.2)=some d:=by
  cases c with
  | v i=>exact absurd rfl (hc i)
  | _=>exact hd
 cases hr:evE call σ c with
 | none=>rw [hr] at hd';cases hd'
 | some r =>
  rw [hr] at hd'
  cases hd'
  refine q Ge H F σ τ r Q hr hs λv H' F' g z=>?_
  obtain⟨F2,g2,rd⟩:=z.fz g
  exact k v H' F2 g2 (.inl rd)
theorem qA1 {x:Str}{i:Nat}(h:qAN N x=some i):N[i]?=some x:=by
 unfold qAN at h
 obtain⟨h1,h2,_⟩:=List.findIdx?_eq_some_iff_getElem.mp h
 rw [List.getElem?_eq_getElem h1]
 simpa using h2
theorem qCm (g:XG call G k X sc N) {x:Str}{i:Nat}(h:qBh sc N x=some i):X.N[i]?=some x/\Vis X.env.scope x/\(x == ("__debug__":Str))=false/\(x == ("__classdict__":Str))=false:=by
 unfold qBh at h
 split at h
 ·rename_i hv
  rw [Bool.and_eq_true] at hv
  have hp:=hv.2
  unfold qAM at hp
  simp only [Bool.and_eq_true,bne_iff_ne,ne_eq] at hp
  refine⟨by rw [g.hN];exact qA1 h,g.vis x hv.1,?_,?_⟩
  ·exact beq_eq_false_iff_ne.mpr hp.1.1
  ·exact beq_eq_false_iff_ne.mpr hp.1.2
 ·cases h
theorem qIy (g:XG call G k X sc N) {x:Str}{pos:Pos}{i:Nat}(h:qBh sc N x=some i):SndE call X (.Name x pos) (.v i)/\qEI call X (.Name x pos) (.v i)/\qJH call X (.Name x pos) (.v i):=by
 obtain⟨h1,h2,h3,h4⟩:=qCm g h
 refine⟨?_,?_,?_⟩
 ·refine⟨_,qB1 h1 h2 h3 h4,λGe H F σ τ r Q hr hs k=>?_⟩
  change qA2 (qAf σ i)=some r at hr
  cases hv:qAf σ i with
  | none=>rw [hv] at hr;cases hr
  | some z =>
   obtain⟨b,d⟩:=z
   rw [hv] at hr
   cases b with
   | true=>cases hr
   | false =>
    cases hr
    obtain⟨v,e,rd⟩:=hs.val i d hv
    exact⟨v,e,k v H F (Gr.refl hs.dom) rd⟩
 ·refine⟨_,qB1 h1 h2 h3 h4,λGe H F σ τ d Q hr hs k=>?_⟩
  change (qAf σ i).bind pkR=some d at hr
  cases hv:qAf σ i with
  | none=>rw [hv] at hr;cases hr
  | some z =>
   obtain⟨b,d'⟩:=z
   rw [hv] at hr
   cases b with
   | false =>
    cases hr
    obtain⟨v,e,rd⟩:=hs.val i _ hv
    exact⟨v,e,k v H F (Gr.refl hs.dom) (.inl rd)⟩
   | true =>
    cases d' with
    | lst ds' =>
     cases hr
     obtain⟨a,ds,vs,e1,e2,e3,e4,e5,e6⟩:=hs.own i _ hv rfl
     exact⟨.ref a,e2,k _ H F (Gr.refl hs.dom) (.inr ⟨a,ds,vs,e1,rfl,e5,e6⟩)⟩
    | _=>cases hr
 ·refine⟨_,qB1 h1 h2 h3 h4,λGe H F σ τ d Q hr hs k=>?_⟩
  change (qAf σ i).bind agR=some d at hr
  cases hv:qAf σ i with
  | none=>rw [hv] at hr;cases hr
  | some z =>
   obtain⟨b,d'⟩:=z
   rw [hv] at hr
   cases b with
   | false =>
    cases hr
    obtain⟨v,e,rd⟩:=hs.val i _ hv
    exact⟨v,e,k v H F (Gr.refl hs.dom) (.inl rd)⟩
   | true =>
    cases d' with
    | dct m ks =>
     cases hr
     obtain⟨a,e1,e2,e3,e4⟩:=hs.dct i m ks hv
     exact⟨.ref a,e1,k _ H F (Gr.refl hs.dom) (.inr ⟨a,ks,rfl,rfl,e2,e3⟩)⟩
    | _=>cases hr
theorem qCH {c:Const}{d:D}{j:Nat}{pos:Pos}(h:kOf c=some d):SndE call X (.Constant c j pos) (.k d):=by
 cases c with
 | int i=>cases h;exact⟨_,qM3,λGe H F σ τ r Q hr hs k=>by cases hr;exact k _ H F (Gr.refl hs.dom) rfl⟩
 | bool i=>cases h;exact⟨_,qM6,λGe H F σ τ r Q hr hs k=>by cases hr;exact k _ H F (Gr.refl hs.dom) rfl⟩
 | str x=>cases h;exact⟨_,qJ0,λGe H F σ τ r Q hr hs k=>by cases hr;exact k _ H F (Gr.refl hs.dom) rfl⟩
 | none=>cases h;exact⟨_,qM1,λGe H F σ τ r Q hr hs k=>by cases hr;exact k _ H F (Gr.refl hs.dom) rfl⟩
 | _=>cases h
theorem qME (g:XG call G k X sc N) {x:Str}{c:C}{pos:Pos}(h:cGl G sc x=some c):SndE call X (.Name x pos) c/\∀i,c≠.v i:=by
 unfold cGl at h
 split at h
 ·rename_i hb
  rw [Bool.and_eq_true] at hb
  cases hc:G.cons.lookup x with
  | none=>rw [hc] at h;cases h
  | some i =>
   rw [hc] at h
   cases h
   obtain⟨t,ht⟩:=g.cons x i hc
   have hd:(x == ("__debug__":Str))=false:=by
    have:=hb.2
    unfold qAM at this
    simp only [Bool.and_eq_true,bne_iff_ne,ne_eq] at this
    simpa using this.1.1
   exact⟨⟨_,qGX (v:=.int i) (g.gl x hb.1) ht ⟨t,rfl⟩ hd,λGe H F σ τ r Q hr hs k=>by cases hr;exact k _ H F (Gr.refl hs.dom) rfl⟩,λi z=>nomatch z⟩
 ·cases h
noncomputable def OpD (X:Cx) (f:Value->Value->Sem Value) (b:D->D->Option R):Prop:=
 ∃r:R2,OpR X f r/\∀(H:Hp) (F:Fz) (d e:D) (x y:V) (z:R) (Q:VK),b d e=some z->(∀a,H a=none->¬F a)->RP X.K H F d x->RP X.K H F e y->(∀v H' F',Gr H F H' F'->RR X.K H H' F' z v->Q v H')->r x y H Q
theorem qJw {α β γ:Type}{a:Option α}{b:Option β}{f:α->β->Option γ}{z:γ}(h:(a.bind λx=>b.bind λy=>f x y)=some z):∃x y,a=some x/\b=some y/\f x y=some z:=by
 cases a with
 | none=>cases h
 | some x =>
  cases b with
  | none=>cases h
  | some y=>exact⟨x,y,rfl,rfl,h⟩
theorem qAa {α γ:Type}{a:Option α}{f:α->Option γ}{z:γ}(h:a.bind f=some z):∃x,a=some x/\f x=some z:=by
 cases a with
 | none=>cases h
 | some x=>exact⟨x,rfl,h⟩
theorem qFY {a b:Expr}{ca cb:C}{ta tb:TE}{Ge:Gp}{H:Hp}{F:Fz}{σ:En}{τ:L2.St}{x y:D}{R':V->V->Hp->Prop}
  (qa:∀(Ge:Gp) (H:Hp) (F:Fz) (σ:En) (τ:L2.St) (d:D) (Q:VK),pk σ ca (evE call σ ca)=some d->SR X.K Ge H F σ τ->(∀v H' F',Gr H F H' F'->RP X.K H' F' d v->Q v H')->ta τ H Q)
  (qb:∀(Ge:Gp) (H:Hp) (F:Fz) (σ:En) (τ:L2.St) (d:D) (Q:VK),pk σ cb (evE call σ cb)=some d->SR X.K Ge H F σ τ->(∀v H' F',Gr H F H' F'->RP X.K H' F' d v->Q v H')->tb τ H Q)
  (ex:pk σ ca (evE call σ ca)=some x) (ey:pk σ cb (evE call σ cb)=some y) (hs:SR X.K Ge H F σ τ)
  (h:∀v w H2 F2,Gr H F H2 F2->RP X.K H2 F2 x v->RP X.K H2 F2 y w->R' v w H2):ta τ H λv H1=>tb τ H1 λw H2=>R' v w H2:=by
 refine qa Ge H F σ τ x _ ex hs λv H1 F1 g1 r1=>?_
 refine qb Ge H1 F1 σ τ y _ ey (hs.grow g1) λw H2 F2 g2 r2=>?_
 exact h v w H2 F2 (g1.trans g2) (r1.grow g2) r2
theorem qKR {a b:Expr}{ca cb:C}{op:Operator}{o:BOp}{pos:Pos}(ho:OpD X (binaryOp op) (qEK o)) (ha:qEI call X a ca) (hb:qEI call X b cb):SndE call X (.BinOp a op b pos) (.bin o ca cb):=by
 obtain⟨r,hr,hq⟩:=ho
 obtain⟨ta,pa,qa⟩:=ha
 obtain⟨tb,pb,qb⟩:=hb
 refine⟨_,qOW hr pa pb,λGe H F σ τ z Q hz hs k=>?_⟩
 obtain⟨x,y,ex,ey,ez⟩:=qJw (by simpa only [qHI] using hz)
 refine qFY (a:=a) (b:=b) qa qb ex ey hs λv w H2 F2 g rx ry=>?_
 exact hq H2 F2 x y v w z Q ez g.dom rx ry λu H' F' g' rr=>k u H' F' (g.trans g') (rr.back g.same)
theorem qKQ {a b:Expr}{ca cb:C}{op:CmpOp}{o:COp}{pos:Pos}(ho:OpD X (compareOp op) (qGe o)) (hm:behindInMarks op b=false) (hb2:∀x y z,qGe o x y=some z->∃c,z=(false,.bl c)) (ha:qEI call X a ca) (hb:qEI call X b cb) :
  SndE call X (.Compare a [op] [b] pos) (.cmp o ca cb)/\qDe call X (.Compare a [op] [b] pos) (.cmp o ca cb):=by
 obtain⟨r,hr,hq⟩:=ho
 obtain⟨ta,pa,qa⟩:=ha
 obtain⟨tb,pb,qb⟩:=hb
 constructor
 ·refine⟨_,qGY hr pa pb hm,λGe H F σ τ z Q hz hs k=>?_⟩
  obtain⟨x,y,ex,ey,ez⟩:=qJw (by simpa only [qE3] using hz)
  refine qFY (a:=a) (b:=b) qa qb ex ey hs λv w H2 F2 g rx ry=>?_
  exact hq H2 F2 x y v w z Q ez g.dom rx ry λu H' F' g' rr=>k u H' F' (g.trans g') (rr.back g.same)
 ·refine⟨_,qGQ hr pa pb hm,λGe H F σ τ xx bb Q hz hs k=>?_⟩
  obtain⟨x,y,ex,ey,ez⟩:=qJw (by simpa only [qE3] using hz)
  refine qFY (a:=a) (b:=b) qa qb ex ey hs λv w H2 F2 g rx ry=>?_
  obtain⟨c,ec⟩:=hb2 _ _ _ ez
  cases ec
  exact hq H2 F2 x y v w _ _ ez g.dom rx ry λu H' F' g' rr=>⟨bb,rr,k H' F' (g.trans g')⟩
theorem qCz {K:PySem.W.Frag}{H:Hp}{F:Fz}{ds:List D}{vs:List V}{p:Addr}(dom:∀a,H a=none->¬F a) (hp:H p=none) (h:RDs K H F ds vs) :
  Gr H F (upd H p (.lst vs)) F/\RR K H (upd H p (.lst vs)) F (true,.lst ds) (.ref p):=by
 have g:Gr H F (upd H p (.lst vs)) F:=Gr.laid dom hp
 exact⟨g,p,ds,vs,rfl,rfl,hp,dom p hp,qAG,RDs.mono g.keep h⟩
theorem qCy {K:PySem.W.Frag}{H:Hp}{F:Fz}{ds:List D}{vs:List V}{p:Addr}(dom:∀a,H a=none->¬F a) (hp:H p=none) (h:RDs K H F ds vs) :
  Gr H F (upd H p (.tup vs)) F/\RR K H (upd H p (.tup vs)) F (false,.tup ds) (.ref p):=by
 have g:Gr H F (upd H p (.tup vs)) F:=Gr.laid dom hp
 exact⟨g,p,vs,rfl,SqT.of qAG,RDs.mono g.keep h⟩
theorem qBP {f:Value->Value->Sem Value}{b:D->D->Option R}{Cc:Int->Int->Prop}{gg:Int->Int->V}{kk:Int->Int->D}(h:OpR X f (rI Cc gg))
  (hb:∀d e z,b d e=some z->∃i j,d=.int i/\e=.int j/\Cc i j/\z=(false,kk i j)) (hk:∀(H:Hp) (F:Fz) i j,RD X.K H F (kk i j) (gg i j)):OpD X f b:=by
 refine⟨_,h,λH F d e x y z Q hz dom hx hy k=>?_⟩
 obtain⟨i,j,rfl,rfl,hc,rfl⟩:=hb d e z hz
 exact⟨i,j,hx.int,hy.int,hc,k _ H F (Gr.refl dom) (hk H F i j)⟩
theorem qB9 {f:Value->Value->Sem Value}{b:D->D->Option R}{gg:Int->Int->V}{kk:Int->Int->D}(h:OpR X f (rI0 gg))
  (hb:∀d e z,b d e=some z->∃i j,d=.int i/\e=.int j/\z=(false,kk i j)) (hk:∀(H:Hp) (F:Fz) i j,RD X.K H F (kk i j) (gg i j)):OpD X f b:=by
 refine⟨_,h,λH F d e x y z Q hz dom hx hy k=>?_⟩
 obtain⟨i,j,rfl,rfl,rfl⟩:=hb d e z hz
 exact⟨i,j,hx.int,hy.int,k _ H F (Gr.refl dom) (hk H F i j)⟩
theorem qAy {α:Type}{c:Prop} [Decidable c] {a b:α}(h:(if c then some a else none)=some b):c/\a=b:=by
 by_cases hc:c
 ·rw [if_pos hc] at h;exact⟨hc,Option.some.inj h⟩
 ·rw [if_neg hc] at h;cases h
theorem qK8:OpD X (binaryOp .Sub) (qEK .sub):=qB9 (kk:=λi j=>.int (i - j)) qNa (λd e z h=>by
 cases d<;>cases e<;>first|(cases h;exact⟨_,_,rfl,rfl,rfl⟩)|cases h) λ_ _ _ _=>rfl
theorem qIU:OpD X (binaryOp .FloorDiv) (qEK .fdiv):=qBP (kk:=λi j=>.int (i.fdiv j)) qIX (λd e z h=>by
 cases d<;>cases e<;>first|(obtain⟨h1,rfl⟩:=qAy h;exact⟨_,_,rfl,rfl,h1,rfl⟩)|cases h) λ_ _ _ _=>rfl
theorem qLd:OpD X (binaryOp .Mod) (qEK .mod):=qBP (kk:=λi j=>.int (i.fmod j)) qLi (λd e z h=>by
 cases d<;>cases e<;>first|(obtain⟨h1,rfl⟩:=qAy h;exact⟨_,_,rfl,rfl,h1,rfl⟩)|cases h) λ_ _ _ _=>rfl
theorem qLb:OpD X (binaryOp .Pow) (qEK .pow):=qBP (kk:=λi j=>.int (i^j.toNat)) qLh (λd e z h=>by
 cases d<;>cases e<;>first|(obtain⟨h1,rfl⟩:=qAy h;exact⟨_,_,rfl,rfl,h1,rfl⟩)|cases h) λ_ _ _ _=>rfl
theorem qLa:OpD X (binaryOp .LShift) (qEK .shl):=qBP (kk:=λi j=>.int (i * 2^j.toNat)) qNc (λd e z h=>by
 cases d<;>cases e<;>first|(obtain⟨h1,rfl⟩:=qAy h;have h2:=of_decide_eq_true h1;exact⟨_,_,rfl,rfl,⟨h2.1,by omega,h2.2.2⟩,rfl⟩)|cases h) λ_ _ _ _=>rfl
theorem qK9:OpD X (binaryOp .RShift) (qEK .shr):=qBP (kk:=λi j=>.int (i / 2^j.toNat)) qNb (λd e z h=>by
 cases d<;>cases e<;>first|(obtain⟨h1,rfl⟩:=qAy h;exact⟨_,_,rfl,rfl,h1,rfl⟩)|cases h) λ_ _ _ _=>rfl
theorem qIc {x y:Int}(h1:0<=x) (h2:0<=y):Builtin.bitAnd x y=((x.toNat &&& y.toNat:Nat):Int):=by
 unfold Builtin.bitAnd;rw [decide_eq_true h1,decide_eq_true h2]
theorem qKl {x y:Int}(h1:0<=x) (h2:0<=y):Builtin.bitOr x y=((x.toNat ||| y.toNat:Nat):Int):=by
 have n:∀z:Int,Builtin.bitNot z=-z - 1:=λz=>by simp only [Builtin.bitNot]<;>omega
 unfold Builtin.bitOr Builtin.bitAnd
 rw [decide_eq_false (show ¬0<=Builtin.bitNot x by rw [n];omega),decide_eq_false (show ¬0<=Builtin.bitNot y by rw [n];omega)]
 simp only
 rw [n,n,n,n,n,n]
 rw [show -(-x - 1) - 1=x by omega,show -(-y - 1) - 1=y by omega]
 omega
theorem qIZ:OpR X (binaryOp .BitAnd) (rI (λi j=>0<=i/\0<=j) λi j=>.int ((i.toNat &&& j.toNat:Nat):Int)):=opI λi j _ _ _ _ _ hc q=>and_int (by rw [qIc hc.1 hc.2];exact q)
theorem qLk:OpR X (binaryOp .BitOr) (rI (λi j=>0<=i/\0<=j) λi j=>.int ((i.toNat ||| j.toNat:Nat):Int)):=opI λi j _ _ _ _ _ hc q=>or_int (by rw [qKl hc.1 hc.2];exact q)
theorem qIW:OpD X (binaryOp .BitAnd) (qEK .band):=qBP (kk:=λi j=>.int ((i.toNat &&& j.toNat:Nat):Int)) qIZ (λd e z h=>by
 cases d<;>cases e<;>first|(obtain⟨h1,rfl⟩:=qAy h;exact⟨_,_,rfl,rfl,h1,rfl⟩)|cases h) λ_ _ _ _=>rfl
theorem qLe:OpD X (binaryOp .BitOr) (qEK .bor):=qBP (kk:=λi j=>.int ((i.toNat ||| j.toNat:Nat):Int)) qLk (λd e z h=>by
 cases d<;>cases e<;>first|(obtain⟨h1,rfl⟩:=qAy h;exact⟨_,_,rfl,rfl,h1,rfl⟩)|cases h) λ_ _ _ _=>rfl
theorem qIY:OpR X (binaryOp .BitXor) (rI (λi j=>0<=i/\0<=j) λi j=>.int (((i.toNat ||| j.toNat:Nat):Int) - ((i.toNat &&& j.toNat:Nat):Int))):=opI λi j _ _ _ _ _ hc q=>xor_int (by unfold Builtin.bitXor;rw [qKl hc.1 hc.2,qIc hc.1 hc.2];exact q)
theorem qIV:OpD X (binaryOp .BitXor) (qEK .bxor):=qBP (kk:=λi j=>.int (((i.toNat ||| j.toNat:Nat):Int) - ((i.toNat &&& j.toNat:Nat):Int))) qIY (λd e z h=>by
 cases d<;>cases e<;>first|(obtain⟨h1,rfl⟩:=qAy h;exact⟨_,_,rfl,rfl,h1,rfl⟩)|cases h) λ_ _ _ _=>rfl
theorem qLc:OpD X (binaryOp .Mult) (qEK .mul):=by
 refine⟨_,op_mulD.or qLg,λH F d e x y z Q hz dom hx hy k=>?_⟩
 cases d with
 | int i =>
  cases e with
  | int j=>obtain⟨h1,rfl⟩:=qAy hz;exact .inl ⟨i,j,hx.int,hy.int,h1,k _ H F (Gr.refl dom) rfl⟩
  | _=>cases hz
 | lst xs =>
  cases e with
  | int j =>
   obtain⟨⟨h1,h2,h3⟩,rfl⟩:=qAy hz
   obtain⟨a,vs,rfl,hl,hr⟩:=hx.lst
   refine .inr ⟨a,j,vs,rfl,hy.int,hl,by omega,by omega,by rw [RDs.length hr];exact h1,λp hp=>?_⟩
   obtain⟨g,rr⟩:=qCz dom hp (RDs.rep hr j.toNat)
   exact k _ _ _ g rr
  | _=>cases hz
 | _=>cases e<;>cases hz
theorem qLf:OpD X (binaryOp .Add) (qEK .add):=by
 refine⟨_,(op_add.or (op_catD.or qLj)).or (op_catN.or qF1),λH F d e x y z Q hz dom hx hy k=>?_⟩
 cases d with
 | int i =>
  cases e with
  | int j=>cases hz;exact .inl (.inl ⟨i,j,hx.int,hy.int,k _ H F (Gr.refl dom) rfl⟩)
  | _=>cases hz
 | str xs =>
  cases e with
  | str ys =>
   obtain⟨h1,rfl⟩:=qAy hz
   exact .inr (.inr ⟨xs,ys,hx.str,hy.str,h1,k _ H F (Gr.refl dom) rfl⟩)
  | _=>cases hz
 | lst xs =>
  cases e with
  | lst ys =>
   obtain⟨h1,rfl⟩:=qAy hz
   obtain⟨a,vs,rfl,hl,hr⟩:=hx.lst
   obtain⟨a2,vs2,rfl,hl2,hr2⟩:=hy.lst
   refine .inl (.inr (.inl ⟨a,a2,vs,vs2,rfl,rfl,hl,hl2,by rw [RDs.length hr,RDs.length hr2];exact h1,λp hp=>?_⟩))
   obtain⟨g,rr⟩:=qCz dom hp (RDs.append hr hr2)
   exact k _ _ _ g rr
  | _=>cases hz
 | tup xs =>
  cases e with
  | tup ys =>
   cases xs with
   | nil =>
    cases hz
    obtain⟨a,vs,rfl,hl,hr⟩:=hx.tup
    obtain⟨a2,vs2,rfl,hl2,hr2⟩:=hy.tup
    have hr:vs=[]:=hr
    subst hr
    exact .inr (.inl ⟨a,a2,vs2,rfl,rfl,hl,hl2,k _ H F (Gr.refl dom) ⟨a2,vs2,rfl,hl2,hr2⟩⟩)
   | cons x0 xs =>
    obtain⟨h1,rfl⟩:=qAy hz
    obtain⟨a,vs,rfl,hl,hr⟩:=hx.tup
    obtain⟨a2,vs2,rfl,hl2,hr2⟩:=hy.tup
    have hv:vs≠[]:=λz=>by have:=RDs.length hr;rw [z] at this;cases this
    refine .inl (.inr (.inr ⟨a,a2,vs,vs2,rfl,rfl,hl,hl2,hv,by rw [RDs.length hr,RDs.length hr2];exact h1,λz=>?_,λ_ p hp=>?_⟩))
    ·subst z
     have e0:ys=[]:=by have:=RDs.length hr2;exact List.length_eq_zero_iff.mp this.symm
     subst e0
     rw [List.append_nil] at k
     exact k _ H F (Gr.refl dom) ⟨a,vs,rfl,hl,hr⟩
    ·obtain⟨g,rr⟩:=qCy dom hp (RDs.append hr hr2)
     exact k _ _ _ g rr
  | _=>cases xs<;>cases hz
 | _=>cases e<;>cases hz
theorem qM9 {op:Operator}{o:BOp}(h:qN9 op=some o):OpD X (binaryOp op) (qEK o):=by
 cases op<;>first|(cases h;first|exact qLf|exact qK8|exact qLc|exact qIU|exact qLd|exact qLb|exact qLa|exact qK9|exact qIW|exact qLe|exact qIV)|cases h
theorem qJ2 (n:Bool) (hu:X.A.units+20<cLine):OpD X (compareOp (if n then .NotIn else .In)) (inD n):=by
 refine⟨_,qNf n hu,λH F d e x y z Q hz dom hx hy k=>?_⟩
 cases e with
 | tup ys =>
  obtain⟨a,vs,rfl,hl,hr⟩:=hy.tup
  obtain⟨h1,rfl⟩:=qAy (show (if (qCn 19 d&&(nob d&&qD9 ys))=true then some (false,D.bl (if n then !(qEL ys d) else qEL ys d)) else none)=some z by cases d<;>exact hz)
  simp only [Bool.and_eq_true] at h1
  exact⟨d,ys,F,a,vs,hx,rfl,.inr hl,hr,h1.1,h1.2.1,h1.2.2,k _ H F (Gr.refl dom) rfl⟩
 | lst ys =>
  obtain⟨a,vs,rfl,hl,hr⟩:=hy.lst
  obtain⟨h1,rfl⟩:=qAy (show (if (qCn 19 d&&(nob d&&qD9 ys))=true then some (false,D.bl (if n then !(qEL ys d) else qEL ys d)) else none)=some z by cases d<;>exact hz)
  simp only [Bool.and_eq_true] at h1
  exact⟨d,ys,F,a,vs,hx,rfl,.inl hl,hr,h1.1,h1.2.1,h1.2.2,k _ H F (Gr.refl dom) rfl⟩
 | _=>cases d<;>cases hz
theorem qNk {d e:D}{z:R}(h:qGe .ne d e=some z):∃c,z=(false,.bl c):=by
 rw [qGe] at h
 split at h
 ·cases h;exact⟨_,rfl⟩
 ·cases e1:qOv d e with
  | none=>rw [e1] at h;cases h
  | some c=>rw [e1] at h;cases h;exact⟨_,rfl⟩
theorem qLO {op:CmpOp}{o:COp}(hu:X.A.units+20<cLine) (h:qNW op=some o):OpD X (compareOp op) (qGe o):=by
 cases op with
 | Eq =>
  cases h
  refine⟨_,qNg hu,λH F d e x y z Q hz dom hx hy k=>?_⟩
  obtain⟨h1,rfl⟩:=qAy (show (if ((qCn 20 d||qCn 20 e)&&(nob d&&nob e))=true then some (false,D.bl (eqD d e)) else none)=some z from hz)
  simp only [Bool.and_eq_true] at h1
  exact⟨d,e,F,hx,hy,h1.1,h1.2.1,h1.2.2,k _ H F (Gr.refl dom) rfl⟩
 | NotEq =>
  cases h
  refine⟨_,qNd hu,λH F d e x y z Q hz dom hx hy k=>?_⟩
  obtain⟨c,rfl⟩:=qNk hz
  exact⟨d,e,F,c,hx,hy,hz,k _ H F (Gr.refl dom) rfl⟩
 | Lt=>cases h;exact qB9 (kk:=λi j=>.bl (decide (i<j))) qO0 (λd e z h=>by cases d<;>cases e<;>first|(cases h;exact⟨_,_,rfl,rfl,rfl⟩)|cases h) λ_ _ _ _=>rfl
 | LtE=>cases h;exact qB9 (kk:=λi j=>.bl (decide (i<=j))) qO1 (λd e z h=>by cases d<;>cases e<;>first|(cases h;exact⟨_,_,rfl,rfl,rfl⟩)|cases h) λ_ _ _ _=>rfl
 | Gt=>cases h;exact qB9 (kk:=λi j=>.bl (decide (j<i))) qO2 (λd e z h=>by cases d<;>cases e<;>first|(cases h;exact⟨_,_,rfl,rfl,rfl⟩)|cases h) λ_ _ _ _=>rfl
 | GtE=>cases h;exact qB9 (kk:=λi j=>.bl (decide (j<=i))) qO3 (λd e z h=>by cases d<;>cases e<;>first|(cases h;exact⟨_,_,rfl,rfl,rfl⟩)|cases h) λ_ _ _ _=>rfl
 | In=>cases h;exact qJ2 false hu
 | NotIn=>cases h;exact qJ2 true hu
 | _=>cases h
theorem qNI {n:Bool}{d e:D}{z:R}(h:inD n d e=some z):∃c,z=(false,.bl c):=by
 cases e with
 | tup ys=>exact⟨_,(qAy (show (if (qCn 19 d&&(nob d&&qD9 ys))=true then some (false,D.bl (if n then !(qEL ys d) else qEL ys d)) else none)=some z by cases d<;>exact h)).2.symm⟩
 | lst ys=>exact⟨_,(qAy (show (if (qCn 19 d&&(nob d&&qD9 ys))=true then some (false,D.bl (if n then !(qEL ys d) else qEL ys d)) else none)=some z by cases d<;>exact h)).2.symm⟩
 | _=>cases d<;>cases h
theorem qNY {o:COp}{d e:D}{z:R}(h:qGe o d e=some z):∃c,z=(false,.bl c):=by
 cases o with
 | eq=>obtain⟨_,rfl⟩:=qAy (show (if ((qCn 20 d||qCn 20 e)&&(nob d&&nob e))=true then some (false,D.bl (eqD d e)) else none)=some z from h);exact⟨_,rfl⟩
 | ne=>exact qNk h
 | isin=>exact qNI h
 | notin=>exact qNI h
 | _=>cases d<;>cases e<;>first|(cases h;exact⟨_,rfl⟩)|cases h
end
end Dw
namespace Dw
open PySem PySem.Spec PyProof.Rows L2
section
variable {call:Nat->List D->Option R}{G:Gx}{k:Nat}{X:Cx}{sc:Scope}{N:List Str}
theorem qNH (neg:Bool):OpD X (compareOp (if neg then .IsNot else .Is)) (isD neg):=by
 refine⟨_,qNe neg,λH F d e x y z Q hz dom hx hy k=>?_⟩
 obtain⟨b,rfl⟩:∃b,z=(false,.bl b):=by
  cases d<;>cases e<;>first|(cases hz;exact⟨_,rfl⟩)|cases hz
 exact⟨d,e,F,b,hx,hy,hz,k _ H F (Gr.refl dom) rfl⟩
theorem qO8 {neg:Bool}{d e:D}{z:R}(h:isD neg d e=some z):∃c,z=(false,.bl c):=by
 cases d<;>cases e<;>first|(cases h;exact⟨_,rfl⟩)|cases h
theorem qJR {a:Expr}{ca:C}{op:CmpOp}(neg:Bool) {c:Const}{d:D}{j:Nat}{pos pos':Pos}(hop:op=if neg then .IsNot else .Is) (hc:kOf c=some d) (ha:qEI call X a ca) :
  SndE call X (.Compare a [op] [.Constant c j pos'] pos) (.isC neg ca d)/\qDe call X (.Compare a [op] [.Constant c j pos'] pos) (.isC neg ca d):=by
 subst hop
 obtain⟨r,hr,hq⟩:=qNH (X:=X) neg
 obtain⟨ta,pa,qa⟩:=ha
 obtain⟨tb,pb,qb⟩:=(qCH (call:=call) (X:=X) (j:=j) (pos:=pos') hc).look (λi z=>nomatch z)
 have hm:behindInMarks (if neg then CmpOp.IsNot else CmpOp.Is) (.Constant c j pos')=false:=by cases neg<;>exact qNi _
 constructor
 ·refine⟨_,qGY hr pa pb hm,λGe H F σ τ z Q hz hs k=>?_⟩
  obtain⟨x,ex,ez⟩:=qAa (by simpa only [qE1] using hz)
  refine qFY (call:=call) (cb:=.k d) (a:=a) (b:=a) (y:=d) qa qb ex rfl hs λv w H2 F2 g rx ry=>?_
  exact hq H2 F2 x d v w z Q ez g.dom rx ry λu H' F' g' rr=>k u H' F' (g.trans g') (rr.back g.same)
 ·refine⟨_,qGQ hr pa pb hm,λGe H F σ τ xx bb Q hz hs k=>?_⟩
  obtain⟨x,ex,ez⟩:=qAa (by simpa only [qE1] using hz)
  refine qFY (call:=call) (cb:=.k d) (a:=a) (b:=a) (y:=d) qa qb ex rfl hs λv w H2 F2 g rx ry=>?_
  obtain⟨c,ec⟩:=qO8 ez
  cases ec
  exact hq H2 F2 x d v w _ _ ez g.dom rx ry λu H' F' g' rr=>⟨bb,rr,k H' F' (g.trans g')⟩
theorem qKJ {a:Expr}{ca:C}{pos:Pos}(ha:qEI call X a ca):SndE call X (.UnaryOp .USub a pos) (.neg ca):=by
 obtain⟨ta,pa,qa⟩:=ha
 refine⟨_,qOU qMh pa,λGe H F σ τ z Q hz hs k=>?_⟩
 obtain⟨x,ex,ez⟩:=qAa (by simpa only [qLJ] using hz)
 refine qa Ge H F σ τ x _ ex hs λv H1 F1 g rx=>?_
 cases x with
 | int i=>cases ez;exact⟨i,rx.int,k _ H1 F1 g rfl⟩
 | _=>cases ez
theorem SndE.test {e:Expr}{c:C}(h:SndE call X e c) (he:∀whole,isTrue e X.env whole=(do let v <-whole;standAt e.pos;holding [v] (truthy v))):qDe call X e c:=by
 obtain⟨t,p,q⟩:=h
 refine⟨_,qMO p he,λGe H F σ τ x b Q hz hs k=>?_⟩
 refine q Ge H F σ τ (x,.bl b) _ hz hs λv H' F' g rr=>?_
 cases x with
 | false=>exact⟨b,rr,k H' F' g⟩
 | true=>obtain⟨_,_,_,e,_⟩:=rr;cases e
theorem qKH {a:Expr}{ca:C}{pos:Pos}(ha:SndE call X a ca) (ht:qDe call X a ca):SndE call X (.UnaryOp .Not a pos) (.not ca)/\qDe call X (.UnaryOp .Not a pos) (.not ca):=by
 have inv:∀{σ:En} {z:R},evE call σ (.not ca)=some z->∃x b,evE call σ ca=some (x,.bl b)/\z=(false,.bl (!b)):=λ{σ z} hz=>by
  obtain⟨⟨x,d⟩,e1,e2⟩:=qAa (by simpa only [qHC] using hz)
  cases d with
  | bl b=>cases e2;exact⟨x,b,e1,rfl⟩
  | _=>cases e2
 constructor
 ·obtain⟨t,p,q⟩:=ha
  refine⟨_,qM0 p,λGe H F σ τ z Q hz hs k=>?_⟩
  obtain⟨x,b,e1,rfl⟩:=inv hz
  refine q Ge H F σ τ _ _ e1 hs λv H' F' g rr=>?_
  cases x with
  | false=>exact⟨b,rr,k _ H' F' g rfl⟩
  | true=>obtain⟨_,_,_,e,_⟩:=rr;cases e
 ·obtain⟨t,p,q⟩:=ht
  refine⟨_,qMP p,λGe H F σ τ x b Q hz hs k=>?_⟩
  obtain⟨x',b',e1,e2⟩:=inv hz
  cases e2
  exact q Ge H F σ τ x' b' _ e1 hs λH' F' g=>k H' F' g
variable (call X) in
noncomputable def SndW (op:BoolOp) (es:List Expr) (c:C):Prop:=∀pos:Pos,SndE call X (.BoolOp op es pos) c/\∃t:TT,PW X (.BoolOp op es pos) t /\
 ∀(Ge:Gp) (H:Hp) (F:Fz) (σ:En) (τ:L2.St) (x b:Bool) (Q:Bool->Hp->Prop),evE call σ c=some (x,.bl b)->SR X.K Ge H F σ τ->(∀H' F',Gr H F H' F'->Q b H')->t τ H Q
theorem SndW.test {op:BoolOp}{es:List Expr}{c:C}{pos:Pos}(h:SndW call X op es c):qDe call X (.BoolOp op es pos) c:=by
 obtain⟨_,t,p,q⟩:=h pos
 exact⟨t,p.pt,q⟩
theorem qGF {op:BoolOp}{a:Expr}{ca:C}(ha:SndE call X a ca) (ht:qDe call X a ca):SndW call X op [a] ca:=λpos=>by
 obtain⟨t,p,q⟩:=ha
 obtain⟨t',p',q'⟩:=ht
 refine⟨⟨t,qMZ p,q⟩,?_⟩
 cases op with
 | And=>exact⟨t',qKY p',q'⟩
 | Or=>exact⟨t',qMM p',q'⟩
theorem qOa {K:PySem.W.Frag}{H H':Hp}{F':Fz}{x b:Bool}{v:V}(h:RR K H H' F' (x,.bl b) v):v=.bl b:=by
 cases x with
 | false=>exact h
 | true=>obtain⟨_,_,_,e,_⟩:=h;cases e
theorem qKT {a b:Expr}{rest:List Expr}{ca cb:C}(ha:SndE call X a ca) (hta:qDe call X a ca) (hb:SndW call X .And (b::rest) cb):SndW call X .And (a::b::rest) (.and ca cb):=λpos=>by
 obtain⟨hb1,tb',pb',qb'⟩:=hb pos
 have inv:∀{σ:En} {z:R},evE call σ (.and ca cb)=some z->∃x c,evE call σ ca=some (x,.bl c)/\(if c=true then evE call σ cb=some z else z=(false,.bl false)):=λ{σ z} hz=>by
  obtain⟨⟨x,d⟩,e1,e2⟩:=qAa (by simpa only [qHK] using hz)
  cases d with
  | bl c=>cases c with
   | true=>exact⟨x,true,e1,e2⟩
   | false=>cases e2;exact⟨x,false,e1,rfl⟩
  | _=>cases e2
 constructor
 ·obtain⟨ta,pa,qa⟩:=ha
  obtain⟨tb,pb,qb⟩:=hb1
  refine⟨_,qM8 pa pb,λGe H F σ τ z Q hz hs k=>?_⟩
  obtain⟨x,c,e1,e2⟩:=inv hz
  refine qa Ge H F σ τ _ _ e1 hs λv H' F' g rr=>⟨c,qOa rr,?_⟩
  cases c with
  | true=>exact qb Ge H' F' σ τ z Q e2 (hs.grow g) λu H2 F2 g2 r2=>k u H2 F2 (g.trans g2) (r2.back g.same)
  | false=>have e2':z=(false,.bl false):=e2;subst e2';exact k _ H' F' g rfl
 ·obtain⟨ta,pa,qa⟩:=hta
  refine⟨_,qMN pa pb',λGe H F σ τ x b Q hz hs k=>?_⟩
  obtain⟨x',c,e1,e2⟩:=inv hz
  refine qa Ge H F σ τ x' c _ e1 hs λH' F' g=>?_
  cases c with
  | true=>exact qb' Ge H' F' σ τ x b Q e2 (hs.grow g) λH2 F2 g2=>k H2 F2 (g.trans g2)
  | false=>have e2':(x,D.bl b)=(false,.bl false):=e2;cases e2';exact k H' F' g
theorem qMz {a b:Expr}{rest:List Expr}{ca cb:C}(ha:SndE call X a ca) (hta:qDe call X a ca) (hb:SndW call X .Or (b::rest) cb):SndW call X .Or (a::b::rest) (.or ca cb):=λpos=>by
 obtain⟨hb1,tb',pb',qb'⟩:=hb pos
 have inv:∀{σ:En} {z:R},evE call σ (.or ca cb)=some z->∃x c,evE call σ ca=some (x,.bl c)/\(if c=true then z=(false,.bl true) else evE call σ cb=some z):=λ{σ z} hz=>by
  obtain⟨⟨x,d⟩,e1,e2⟩:=qAa (by simpa only [qKb] using hz)
  cases d with
  | bl c=>cases c with
   | false=>exact⟨x,false,e1,e2⟩
   | true=>cases e2;exact⟨x,true,e1,rfl⟩
  | _=>cases e2
 constructor
 ·obtain⟨ta,pa,qa⟩:=ha
  obtain⟨tb,pb,qb⟩:=hb1
  refine⟨_,qOV pa pb,λGe H F σ τ z Q hz hs k=>?_⟩
  obtain⟨x,c,e1,e2⟩:=inv hz
  refine qa Ge H F σ τ _ _ e1 hs λv H' F' g rr=>⟨c,qOa rr,?_⟩
  cases c with
  | false=>exact qb Ge H' F' σ τ z Q e2 (hs.grow g) λu H2 F2 g2 r2=>k u H2 F2 (g.trans g2) (r2.back g.same)
  | true=>have e2':z=(false,.bl true):=e2;subst e2';exact k _ H' F' g rfl
 ·obtain⟨ta,pa,qa⟩:=hta
  refine⟨_,qOS pa pb',λGe H F σ τ x b Q hz hs k=>?_⟩
  obtain⟨x',c,e1,e2⟩:=inv hz
  refine qa Ge H F σ τ x' c _ e1 hs λH' F' g=>?_
  cases c with
  | false=>exact qb' Ge H' F' σ τ x b Q e2 (hs.grow g) λH2 F2 g2=>k H2 F2 (g.trans g2)
  | true=>have e2':(x,D.bl b)=(false,.bl true):=e2;cases e2';exact k H' F' g
theorem qKN {t a b:Expr}{ct ca cb:C}{pos:Pos}(ht:qDe call X t ct) (ha:SndE call X a ca) (hb:SndE call X b cb):SndE call X (.IfExp t a b pos) (.ifx ct ca cb):=by
 obtain⟨tt,pt,qt⟩:=ht
 obtain⟨ta,pa,qa⟩:=ha
 obtain⟨tb,pb,qb⟩:=hb
 refine⟨_,qIT pt pa pb,λGe H F σ τ z Q hz hs k=>?_⟩
 obtain⟨⟨x,d⟩,e1,e2⟩:=qAa (by simpa only [qE2] using hz)
 cases d with
 | bl c =>
  refine qt Ge H F σ τ x c _ e1 hs λH' F' g=>?_
  cases c with
  | true=>exact qNB (qa Ge H' F' σ τ z Q e2 (hs.grow g) λu H2 F2 g2 r2=>k u H2 F2 (g.trans g2) (r2.back g.same))
  | false=>exact qNC (qb Ge H' F' σ τ z Q e2 (hs.grow g) λu H2 F2 g2 r2=>k u H2 F2 (g.trans g2) (r2.back g.same))
 | _=>cases e2
theorem qMQ {t a b:Expr}{tt ta tb:TT}{pos:Pos}(ht:PT X t tt) (ha:PT X a ta) (hb:PT X b tb):PT X (.IfExp t a b pos) (fun σ H Q=>tt σ H λc H1=>if c=true then ta σ H1 Q else tb σ H1 Q):=by
 intro pins s σ H Q I h
 rw [PySem.isTrue]
 refine wpAny_bind (thn (ht pins s σ H _ I h) λd s1 ⟨H1,I1,q1⟩=>?_)
 cases d with
 | true=>exact ha pins s1 σ H1 Q I1 q1
 | false=>exact hb pins s1 σ H1 Q I1 q1
theorem qIC {t a b:Expr}{ct ca cb:C}{pos:Pos}(ht:qDe call X t ct) (ha:qDe call X a ca) (hb:qDe call X b cb):qDe call X (.IfExp t a b pos) (.ifx ct ca cb):=by
 obtain⟨tt,pt,qt⟩:=ht
 obtain⟨ta,pa,qa⟩:=ha
 obtain⟨tb,pb,qb⟩:=hb
 refine⟨_,qMQ pt pa pb,λGe H F σ τ x b Q hz hs k=>?_⟩
 obtain⟨⟨x',d⟩,e1,e2⟩:=qAa (by simpa only [qE2] using hz)
 cases d with
 | bl c =>
  refine qt Ge H F σ τ x' c _ e1 hs λH' F' g=>?_
  cases c with
  | true=>exact qNB (qa Ge H' F' σ τ x b Q e2 (hs.grow g) λH2 F2 g2=>k H2 F2 (g.trans g2))
  | false=>exact qNC (qb Ge H' F' σ τ x b Q e2 (hs.grow g) λH2 F2 g2=>k H2 F2 (g.trans g2))
 | _=>cases e2
theorem qNA (n:Nat) (i:Int):Dw.ixN n i=L2.ixN n i:=rfl
theorem qHf {K:PySem.W.Frag}{H:Hp}{F:Fz}{ds:List D}{vs:List V}{i:Int}{d:D}(h:RDs K H F ds vs) (e:ixD ds i=some d):∃v,atI vs i=some v/\RD K H F d v:=by
 obtain⟨j,e1,e2⟩:=qAa e
 obtain⟨v,e3,e4⟩:=RDs.get h e2
 refine⟨v,?_,e4⟩
 unfold atI
 rw [RDs.length h,<-qNA,e1]
 exact e3
theorem qMC {a b:Expr}{ca cb:C}{pos:Pos}(hp:qE9 b) (ha:qEI call X a ca) (hb:qEI call X b cb):SndE call X (.Subscript a b pos) (.ix ca cb):=by
 obtain⟨ta,pa,qa⟩:=ha
 obtain⟨tb,pb,qb⟩:=hb
 refine⟨_,qOX (ix_list.or qNy) pa pb hp,λGe H F σ τ z Q hz hs k=>?_⟩
 obtain⟨x,y,ex,ey,ez⟩:=qJw (by simpa only [qKe] using hz)
 refine qFY (a:=a) (b:=b) qa qb ex ey hs λv w H2 F2 g rx ry=>?_
 cases x with
 | lst xs =>
  cases y with
  | int i =>
   obtain⟨d,e1,e2⟩:=Option.map_eq_some_iff.mp ez
   subst e2
   obtain⟨p,vs,rfl,hl,hr⟩:=rx.lst
   obtain⟨u,e3,e4⟩:=qHf hr e1
   exact .inl ⟨p,vs,i,u,rfl,ry.int,hl,e3,k u H2 F2 g e4⟩
  | _=>cases ez
 | tup xs =>
  cases y with
  | int i =>
   obtain⟨d,e1,e2⟩:=Option.map_eq_some_iff.mp ez
   subst e2
   obtain⟨p,vs,rfl,hl,hr⟩:=rx.tup
   obtain⟨u,e3,e4⟩:=qHf hr e1
   exact .inr ⟨p,vs,i,u,rfl,ry.int,hl,e3,k u H2 F2 g e4⟩
  | _=>cases ez
 | _=>cases y<;>cases ez
theorem qBW (n d:Nat) (o:Option Int):Dw.cutAt n d o=HT.sIx n d o:=by
 cases o with
 | none=>rfl
 | some v =>
  have h:=HT.clip_eq v n d
  unfold Dw.cutAt
  by_cases hv:v<0
  ·simp only [hv,if_true] at h ⊢;omega
  ·simp only [hv,if_false] at h ⊢;omega
theorem qHO {K:PySem.W.Frag}{H:Hp}{F:Fz}{ds:List D}{vs:List V}(h:RDs K H F ds vs) (l u:Option Int):RDs K H F (qJr ds l u) (qKg vs l u):=by
 unfold qJr qKg
 rw [RDs.length h,qBW,qBW]
 exact RDs.take _ (RDs.drop _ h)
theorem qMy {a:Expr}{lo hi:Option Expr}{ca:C}{cl ch:Option C}{p2 pos:Pos}(ha:qEI call X a ca) (hl:qOl call X lo cl) (hh:qOl call X hi ch):SndE call X (.Subscript a (.Slice lo hi none p2) pos) (.sl ca cl ch):=by
 obtain⟨ta,pa,qa⟩:=ha
 obtain⟨tl,pl,ql⟩:=hl
 obtain⟨th,ph,qh⟩:=hh
 refine⟨_,qIP ((sl_list.or qMF).or qMG) pa pl ph,λGe H F σ τ z Q hz hs k=>?_⟩
 obtain⟨x,ex,hz⟩:=qAa (by simpa only [qKa] using hz)
 obtain⟨l,el,hz⟩:=qAa hz
 obtain⟨u,eu,hz⟩:=qAa hz
 refine qa Ge H F σ τ x _ ex hs λv H1 F1 g1 rx=>?_
 refine ql Ge H1 F1 σ τ l _ el (hs.grow g1) λH2 F2 g2=>?_
 refine qh Ge H2 F2 σ τ u _ eu ((hs.grow g1).grow g2) λH3 F3 g3=>?_
 have g:=(g1.trans g2).trans g3
 have rx3:=(rx.grow g2).grow g3
 cases x with
 | lst xs =>
  cases hz
  obtain⟨p,vs,rfl,hl',hr⟩:=rx3.lst
  refine .inl (.inl ⟨p,vs,rfl,hl',λq hq=>?_⟩)
  obtain⟨g4,rr⟩:=qCz g.dom hq (qHO hr l u)
  exact k _ _ _ (g.trans g4) (rr.back g.same)
 | tup xs =>
  cases hz
  obtain⟨p,vs,rfl,hl',hr⟩:=rx3.tup
  by_cases hw:Dw.cutAt xs.length 0 l=0/\Dw.cutAt xs.length xs.length u=xs.length
  ·refine .inr ⟨p,vs,rfl,hl',?_,?_⟩
   ·rw [RDs.length hr,<-qBW,<-qBW];exact hw
   ·have e:qJr xs l u=xs:=by
     unfold qJr
     rw [hw.1,hw.2]
     simp
    have e':(false,D.tup (qJr xs l u))=(false,D.tup xs):=by rw [e]
    refine k _ H3 F3 g ?_
    rw [e]
    exact⟨p,vs,rfl,hl',hr⟩
  ·refine .inl (.inr ⟨p,vs,rfl,hl',?_,λq hq=>?_⟩)
   ·rw [RDs.length hr,<-qBW,<-qBW];exact hw
   ·obtain⟨g4,rr⟩:=qCy g.dom hq (qHO hr l u)
    exact k _ _ _ (g.trans g4) (rr.back g.same)
 | _=>cases hz
theorem RDs.rev {K:PySem.W.Frag}{H:Hp}{F:Fz}:∀{ds:List D}{vs:List V},RDs K H F ds vs->RDs K H F ds.reverse vs.reverse
 | [],vs,h=>by have h:vs=[]:=h;subst h;rfl
 | d::ds,vs,h=>by
  obtain⟨v,r,rfl,h1,h2⟩:=h
  rw [List.reverse_cons,List.reverse_cons]
  exact RDs.append (RDs.rev h2) ⟨v,[],rfl,h1,rfl⟩
theorem RDs.strs {K:PySem.W.Frag}{H:Hp}{F:Fz}:∀{ds:List D}{vs:List V}{ts:List Str},RDs K H F ds vs->qBk ds=some ts->vs=ts.map V.str
 | [],vs,ts,h,e=>by have h:vs=[]:=h;cases e;exact h
 | d::ds,vs,ts,h,e=>by
  obtain⟨v,r,rfl,h1,h2⟩:=h
  cases d with
  | str x =>
   obtain⟨ts',e1,e2⟩:=Option.map_eq_some_iff.mp e
   subst e2
   have h1:v=.str x:=h1
   rw [h1,RDs.strs h2 e1];rfl
  | _=>cases e
theorem qIA {e:Expr}{c:C}{x m:Str}{j:Nat}{p0 p2 p3:Pos}(hm:m=Str.ofString "join") (hln:(p2.endLine == p3.line)=true) (hst:starEach [e] X.env=[(false,eval e X.env)]) (h:qEI call X e c) :
  SndE call X (.Call (.Attribute (.Constant (.str x) j p0) m p2) [e] [] p3) (.join (.k (.str x)) c):=by
 subst hm
 obtain⟨te,pe,qe⟩:=h
 refine⟨_,qK6 PySem.F.plainAttrs_str PySem.F.slot_str_join PySem.F.type_str_join qLo qJ0 (qBl pe qCo hst) (hfew:=by rw [hst];rfl) (hline:=hln) (hs:=hst),λGe H F σ τ z Q hz hs k=>?_⟩
 obtain⟨d,e1,hz⟩:=qAa (by simpa only [qFy,qPf,pk,Option.map_some,Option.bind_some] using hz)
 refine⟨rfl,qe Ge H F σ τ d _ e1 hs λv H1 F1 g1 rx=>?_⟩
 cases d with
 | lst xs =>
  obtain⟨ts,e2,e3⟩:=qAa (show ((qBk xs).bind λts=>if qDk x ts then some (false,.str (qCv x ts)) else none)=some z from hz)
  obtain⟨h1,rfl⟩:=qAy e3
  have h1:=of_decide_eq_true h1
  obtain⟨p,vs,rfl,hl,hr⟩:=rx.lst
  rw [RDs.strs hr e2] at hl
  exact⟨x,p,ts,rfl,rfl,hl,h1.1,h1.2,k _ H1 F1 g1 rfl⟩
 | _=>cases hz
noncomputable def qOm (call:Nat->List D->Option R) (X:Cx) (es:List Expr) (cs:List C):Prop:=∃t:TJ,PJ X es t/\∀(Ge:Gp) (H:Hp) (F:Fz) (σ:En) (τ:L2.St) (acc out:Str) (ds:List D) (ts:List Str) (Q:Str->Hp->Prop),evA call σ cs=some ds->qBk ds=some ts->qE5 acc ts=some out->SR X.K Ge H F σ τ->(∀H' F',Gr H F H' F'->Q out H')->t acc τ H Q
theorem qIB:qOm call X [] []:=⟨_,qMX,λGe H F σ τ acc out ds ts Q h1 h2 h3 hs k=>by
 cases h1
 cases h2
 cases h3
 exact k H F (Gr.refl hs.dom)⟩
theorem qD4 {e:Expr}{es:List Expr}{c:C}{cs:List C}(h:SndE call X e c) (hr:qOm call X es cs):qOm call X (e::es) (c::cs):=by
 obtain⟨t,p,q⟩:=h
 obtain⟨t',p',q'⟩:=hr
 refine⟨_,qK3 p p',λGe H F σ τ acc out ds ts Q h1 h2 h3 hs k=>?_⟩
 obtain⟨r,er,h1⟩:=qAa (by simpa only [qCe] using h1)
 obtain⟨ds',ed,h1⟩:=qAa h1
 cases h1
 obtain⟨b,d⟩:=r
 cases d with
 | str x =>
  obtain⟨ts',e1,e2⟩:=Option.map_eq_some_iff.mp h2
  subst e2
  obtain⟨h4,h5⟩:=ite_some' (show (if (acc++x).length<=lim then qE5 (acc++x) ts' else none)=some out from h3)
  refine q Ge H F σ τ _ _ er hs λv H1 F1 g rr=>?_
  have hv:v=.str x:=by
   cases b with
   | false=>exact rr
   | true=>obtain⟨_,_,_,e,_⟩:=rr;cases e
  exact⟨x,hv,h4,q' Ge H1 F1 σ τ _ out ds' ts' _ ed e1 h5 (hs.grow g) λH' F' g2=>k H' F' (g.trans g2)⟩
 | _=>cases h2
where
 ite_some' {α:Type} {p:Prop} [Decidable p] {a:Option α} {z:α} (h:(if p then a else none)=some z):p/\a=some z:=by
  by_cases hp:p
  ·rw [if_pos hp] at h;exact⟨hp,h⟩
  ·rw [if_neg hp] at h;cases h
theorem qFH:∀{ts:List Str}{acc out:Str},acc.length<=lim->qE5 acc ts=some out->out.length<=lim
 | [],acc,out,h,e=>by cases e;exact h
 | t::ts,acc,out,h,e=>by
  have e:(if (acc++t).length<=lim then qE5 (acc++t) ts else none)=some out:=e
  by_cases hp:(acc++t).length<=lim
  ·rw [if_pos hp] at e;exact qFH hp e
  ·rw [if_neg hp] at e;cases e
theorem qID {a b:Expr}{es:List Expr}{cs:List C}{pos:Pos}(h:qOm call X (a::b::es) cs):SndE call X (.JoinedStr (a::b::es) pos) (.fstr cs):=by
 obtain⟨t,p,q⟩:=h
 refine⟨_,qGW p,λGe H F σ τ z Q hz hs k=>?_⟩
 obtain⟨ds,e1,hz⟩:=qAa (by simpa only [qFz] using hz)
 obtain⟨ts,e2,hz⟩:=qAa hz
 obtain⟨out,e3,e4⟩:=Option.map_eq_some_iff.mp hz
 subst e4
 exact q Ge H F σ τ Str.empty out ds ts _ e1 e2 e3 hs λH' F' g=>⟨qFH (Nat.zero_le _) e3,k _ H' F' g rfl⟩
theorem snd_fv {e:Expr}{c:C}{pos:Pos}(h:qEI call X e c):SndE call X (.FormattedValue e (-1) none pos) (.fmt c):=by
 obtain⟨t,p,q⟩:=h
 refine⟨_,qOY p,λGe H F σ τ z Q hz hs k=>?_⟩
 obtain⟨d,e2,hz⟩:=qAa (by simpa only [qHG] using hz)
 refine q Ge H F σ τ d _ e2 hs λv H1 F1 g rx=>?_
 cases d with
 | int i =>
  obtain⟨h1,rfl⟩:=qAy (show (if i.natAbs<2^240 then some (false,D.str (qBo i)) else none)=some z from hz)
  exact .inl ⟨i,rx.int,small_log h1,k _ H1 F1 g rfl⟩
 | str y =>
  obtain⟨h1,rfl⟩:=qAy (show (if y.length<=lim then some (false,D.str y) else none)=some z from hz)
  exact .inr ⟨y,rx.str,h1,k _ H1 F1 g rfl⟩
 | _=>cases hz
where
 small_log {n:Nat} (h:n<2^240):n.log2<1920:=by
  by_cases h0:n=0
  ·subst h0;decide
  ·have:=(Nat.log2_lt h0).mpr h;omega
theorem qGE:qOl call X none none:=⟨_,qK1,λGe H F σ τ o Q ho hs k=>by cases ho;exact k H F (Gr.refl hs.dom)⟩
theorem qGD {e:Expr}{c:C}(h:qEI call X e c):qOl call X (some e) (some c):=by
 obtain⟨t,p,q⟩:=h
 refine⟨_,qK0 p,λGe H F σ τ o Q ho hs k=>?_⟩
 obtain⟨x,ex,ez⟩:=qAa (by simpa only [qFw] using ho)
 refine q Ge H F σ τ x _ ex hs λv H1 F1 g rx=>?_
 cases x with
 | int i=>cases ez;exact⟨i,rx.int,k H1 F1 g⟩
 | _=>cases ez
theorem qII:qJI call X [] []:=⟨_,qCo,λGe H F σ τ ds Q h hs k=>by cases h;exact k [] H F (Gr.refl hs.dom) rfl⟩
theorem qGL {e:Expr}{es:List Expr}{c:C}{cs:List C}(hst:starEach (e::es) X.env=(false,eval e X.env)::starEach es X.env) (h:SndE call X e c) (hr:qJI call X es cs):qJI call X (e::es) (c::cs):=by
 obtain⟨t,p,q⟩:=h
 obtain⟨t',p',q'⟩:=hr
 refine⟨_,qBl p p' hst,λGe H F σ τ ds Q hd hs k=>?_⟩
 obtain⟨r,er,hd⟩:=qAa (by simpa only [qCe] using hd)
 obtain⟨ds',ed,hd⟩:=qAa hd
 cases hd
 refine q Ge H F σ τ r _ er hs λv H1 F1 g rr=>?_
 obtain⟨F2,g2,rd⟩:=rr.fz g
 refine q' Ge H1 F2 σ τ ds' _ ed (hs.grow g2) λvs H3 F3 g3 rs=>?_
 exact k (v::vs) H3 F3 (g2.trans g3) ⟨v,vs,rfl,RD.mono g3.keep rd,rs⟩
theorem qGH:qIj call X [] []:=⟨_,qCo,λGe H F σ τ ds Q h hs k=>by cases h;exact k [] H F (Gr.refl hs.dom) rfl⟩
theorem RGs.grow {K:PySem.W.Frag}{H H1:Hp}{F F1:Fz}(g:Gr H F H1 F1):∀{ds:List D}{vs:List V},RGs K H F ds vs->RGs K H1 F1 ds vs
 | [],_,h=>h
 | _::_,_,⟨v,r,e,h1,h2⟩=>⟨v,r,e,h1.grow g,RGs.grow g h2⟩
theorem qFU {e:Expr}{es:List Expr}{c:C}{cs:List C}(hst:starEach (e::es) X.env=(false,eval e X.env)::starEach es X.env) (h:qJH call X e c) (hr:qIj call X es cs):qIj call X (e::es) (c::cs):=by
 obtain⟨t,p,q⟩:=h
 obtain⟨t',p',q'⟩:=hr
 refine⟨_,qBl p p' hst,λGe H F σ τ ds Q hd hs k=>?_⟩
 obtain⟨r,er,hd⟩:=qAa (by simpa only [qFx] using hd)
 obtain⟨ds',ed,hd⟩:=qAa hd
 cases hd
 refine q Ge H F σ τ r _ er hs λv H1 F1 g rr=>?_
 refine q' Ge H1 F1 σ τ ds' _ ed (hs.grow g) λvs H3 F3 g3 rs=>?_
 exact k (v::vs) H3 F3 (g.trans g3) ⟨v,vs,rfl,rr.grow g3,rs⟩
theorem qGK:qEJ call X [] []:=⟨_,qCo,λGe H F σ τ ds Q h hs k=>by cases h;exact k [] H F (Gr.refl hs.dom) rfl⟩
theorem qFV {e:Expr}{es:List Expr}{c:C}{cs:List C}(hst:starEach (e::es) X.env=(false,eval e X.env)::starEach es X.env) (h:qEI call X e c) (hr:qEJ call X es cs):qEJ call X (e::es) (c::cs):=by
 obtain⟨t,p,q⟩:=h
 obtain⟨t',p',q'⟩:=hr
 refine⟨_,qBl p p' hst,λGe H F σ τ ds Q hd hs k=>?_⟩
 obtain⟨r,er,hd⟩:=qAa (by simpa only [qC2] using hd)
 obtain⟨ds',ed,hd⟩:=qAa hd
 cases hd
 refine q Ge H F σ τ r _ er hs λv H1 F1 g rr=>?_
 refine q' Ge H1 F1 σ τ ds' _ ed (hs.grow g) λvs H3 F3 g3 rs=>?_
 exact k (v::vs) H3 F3 (g.trans g3) ⟨v,vs,rfl,rr.grow g3,rs⟩
theorem qKC {es:List Expr}{cs:List C}{x1:Nat}{pos:Pos}(h:qJI call X es cs):SndE call X (.Tuple es x1 pos) (.tup cs):=by
 obtain⟨t,p,q⟩:=h
 refine⟨_,qMY p,λGe H F σ τ z Q hz hs k=>?_⟩
 obtain⟨ds,ed,hz⟩:=qAa (by simpa only [qHB] using hz)
 obtain⟨h1,rfl⟩:=qAy hz
 refine q Ge H F σ τ ds _ ed hs λvs H1 F1 g rs=>⟨by rw [RDs.length rs];exact h1,λp hp=>?_⟩
 obtain⟨g4,rr⟩:=qCy g.dom hp rs
 exact k _ _ _ (g.trans g4) (rr.back g.same)
theorem qKK {es:List Expr}{cs:List C}{pos:Pos}(h:qJI call X es cs):SndE call X (.List es pos) (.lst cs):=by
 obtain⟨t,p,q⟩:=h
 refine⟨_,qM2 p,λGe H F σ τ z Q hz hs k=>?_⟩
 obtain⟨ds,ed,hz⟩:=qAa (by simpa only [qHD] using hz)
 obtain⟨h1,rfl⟩:=qAy hz
 refine q Ge H F σ τ ds _ ed hs λvs H1 F1 g rs=>⟨by rw [RDs.length rs];exact h1,λp hp=>?_⟩
 obtain⟨g4,rr⟩:=qCz g.dom hp rs
 exact k _ _ _ (g.trans g4) (rr.back g.same)
noncomputable def qBg:Expr->Bool
 | .Starred _ _=>false
 | _=>true
theorem qAB {e:Expr}{es:List Expr}{env:Env}(h:qBg e=true):starEach (e::es) env=(false,eval e env)::starEach es env:=by
 cases e<;>first|rfl|cases h
theorem qBs:∀{es:List Expr}{env:Env}{pos:Pos},es.all qBg=true->(backTo pos (starEach es env)).any (·.1)=false
 | [],env,pos,_=>rfl
 | e::es,env,pos,h=>by
  rw [List.all_cons,Bool.and_eq_true] at h
  rw [qAB h.1]
  have:=qBs (env:=env) (pos:=pos) h.2
  simpa [backTo] using this
theorem qIH (g:XG call G k X sc N) {f:Str}{i:Nat}{es:List Expr}{cs:List C}{p pos:Pos}(hf:G.defs.lookup f=some i) (hg:glB sc f=true) (hd:(f == ("__debug__":Str))=false) (hn:es.all qBg=true) (hne:es≠[]) (h:qIj call X es cs) :
  SndE call X (.Call (.Name f p) es [] pos) (.call i cs):=by
 obtain⟨a,fd,ps,hm,hk,hb,hF,hl⟩:=(g.defs f i hf).ex
 obtain⟨t,pt,q⟩:=h
 cases es with
 | nil=>exact absurd rfl hne
 | cons e es =>
  rw [List.all_cons,Bool.and_eq_true] at hn
  refine⟨_,qG0 hF g.room (g.gl f hg) hm hk hb .nil qF0 pt hd (qAB hn.1) (qBs hn.2),λGe H F σ τ z Q hz hs k=>?_⟩
  obtain⟨ds,ed,hz⟩:=qAa (by simpa only [qFB] using hz)
  refine q Ge H F σ τ ds _ ed hs λvs H1 F1 g1 rs=>?_
  rw [List.append_nil]
  exact⟨by rw [RGs.length rs];exact hl ds z hz,F1,ds,z,g1.dom,rs,hz,λv H' F' g2 rr=>k v H' F' (g1.trans g2) (rr.back g1.same)⟩
variable (call X) in
noncomputable def qOA (kws:List Keyword) (cs:List C):Prop:=∃t:TA,PK X kws t/\∀(Ge:Gp) (H:Hp) (F:Fz) (σ:En) (τ:L2.St) (ds:List D) (Q:List V->Hp->Prop),evA call σ cs=some ds->SR X.K Ge H F σ τ->(∀vs H' F',Gr H F H' F'->RDs X.K H' F' ds vs->Q vs H')->t τ H Q
theorem qIz:qOA call X [] []:=⟨_,qMV,λGe H F σ τ ds Q h hs k=>by cases h;exact k [] H F (Gr.refl hs.dom) rfl⟩
theorem qGG {kw:Keyword}{kws:List Keyword}{c:C}{cs:List C}(h:SndE call X kw.value c) (hr:qOA call X kws cs):qOA call X (kw::kws) (c::cs):=by
 obtain⟨nm,e,kp⟩:=kw
 obtain⟨t,p,q⟩:=h
 obtain⟨t',p',q'⟩:=hr
 refine⟨_,qK2 p p',λGe H F σ τ ds Q hd hs k=>?_⟩
 obtain⟨r,er,hd⟩:=qAa (by simpa only [qCe] using hd)
 obtain⟨ds',ed,hd⟩:=qAa hd
 cases hd
 refine q Ge H F σ τ r _ er hs λv H1 F1 g rr=>?_
 obtain⟨F2,g2,rd⟩:=rr.fz g
 refine q' Ge H1 F2 σ τ ds' _ ed (hs.grow g2) λvs H3 F3 g3 rs=>?_
 exact k (v::vs) H3 F3 (g2.trans g3) ⟨v,vs,rfl,RD.mono g3.keep rd,rs⟩
theorem qHL {σ:En}:∀{cs:List C}{ds:List D},evA call σ cs=some ds->ds.length=cs.length
 | [],ds,h=>by cases h;rfl
 | c::cs,ds,h=>by
  obtain⟨r,er,h⟩:=qAa (by simpa only [qCe] using h)
  obtain⟨ds',ed,h⟩:=qAa h
  cases h
  simp [qHL ed]
theorem qFl {x:Str}{id:String}{b:BI}{es:List Expr}{cs:List C}{p pos:Pos}{r:List V->Hp->VK->Prop}(hc:CallR X (.builtin id) r) (hg:Gl X x) (hm:X.mg x=none) (hv:bootBuiltins x=some (.builtin id)) (hnm:x≠"__name__") (hdb:(x == ("__debug__":Str))=false)
  (hn:es.all qBg=true) (hne:es≠[]) (h:qEJ call X es cs)
  (hr:∀(H:Hp) (F:Fz) (ds:List D) (vs:List V) (z:R) (Q:VK),biD b ds=some z->(∀a,H a=none->¬F a)->RPs X.K H F ds vs->(∀v H' F',Gr H F H' F'->RR X.K H H' F' z v->Q v H')->r vs H Q) :
  SndE call X (.Call (.Name x p) es [] pos) (.bi b cs):=by
 obtain⟨t,pt,q⟩:=h
 cases es with
 | nil=>exact absurd rfl hne
 | cons e es =>
  rw [List.all_cons,Bool.and_eq_true] at hn
  refine⟨_,qDE hc hg hm hv pt hnm hdb (qAB hn.1) (qBs hn.2),λGe H F σ τ z Q hz hs k=>?_⟩
  obtain⟨ds,ed,hz⟩:=qAa (by simpa only [qHJ] using hz)
  refine q Ge H F σ τ ds _ ed hs λvs H1 F1 g1 rs=>?_
  exact hr H1 F1 ds vs z Q hz g1.dom rs λv H' F' g2 rr=>k v H' F' (g1.trans g2) (rr.back g1.same)
theorem qFk {x:Str}{id:String}{b:BI}{es:List Expr}{cs:List C}{p pos:Pos}{r:List V->Hp->VK->Prop}(hc:CallR X (.type id) r) (hg:Gl X x) (hm:X.mg x=none) (hv:bootBuiltins x=some (.type id)) (hnm:x≠"__name__") (hdb:(x == ("__debug__":Str))=false)
  (hn:es.all qBg=true) (hne:es≠[]) (h:qEJ call X es cs)
  (hr:∀(H:Hp) (F:Fz) (ds:List D) (vs:List V) (z:R) (Q:VK),biD b ds=some z->(∀a,H a=none->¬F a)->RPs X.K H F ds vs->(∀v H' F',Gr H F H' F'->RR X.K H H' F' z v->Q v H')->r vs H Q) :
  SndE call X (.Call (.Name x p) es [] pos) (.bi b cs):=by
 obtain⟨t,pt,q⟩:=h
 cases es with
 | nil=>exact absurd rfl hne
 | cons e es =>
  rw [List.all_cons,Bool.and_eq_true] at hn
  refine⟨_,qGZ hc hg hm hv pt hnm hdb (qAB hn.1) (qBs hn.2),λGe H F σ τ z Q hz hs k=>?_⟩
  obtain⟨ds,ed,hz⟩:=qAa (by simpa only [qHJ] using hz)
  refine q Ge H F σ τ ds _ ed hs λvs H1 F1 g1 rs=>?_
  exact hr H1 F1 ds vs z Q hz g1.dom rs λv H' F' g2 rr=>k v H' F' (g1.trans g2) (rr.back g1.same)
end
end Dw
namespace Dw
open PySem PySem.Spec PyProof.Rows L2
section
variable {call:Nat->List D->Option R}{G:Gx}{k:Nat}{X:Cx}{sc:Scope}{N:List Str}
theorem RPs.one {K:PySem.W.Frag}{H:Hp}{F:Fz}{d:D}{vs:List V}(h:RPs K H F [d] vs):∃v,vs=[v]/\RP K H F d v:=by
 obtain⟨v,r,e,h1,h2⟩:=h
 cases h2
 exact⟨v,e,h1⟩
theorem RPs.two {K:PySem.W.Frag}{H:Hp}{F:Fz}{d e:D}{vs:List V}(h:RPs K H F [d,e] vs):∃v w,vs=[v,w]/\RP K H F d v/\RP K H F e w:=by
 obtain⟨v,r,e1,h1,h2⟩:=h
 obtain⟨w,e2,h3⟩:=RPs.one h2
 exact⟨v,w,by rw [e1,e2],h1,h3⟩
theorem RPs.three {K:PySem.W.Frag}{H:Hp}{F:Fz}{d e f:D}{vs:List V}(h:RPs K H F [d,e,f] vs):∃v w u,vs=[v,w,u]/\RP K H F d v/\RP K H F e w/\RP K H F f u:=by
 obtain⟨v,r,e1,h1,h2⟩:=h
 obtain⟨w,u,e2,h3,h4⟩:=RPs.two h2
 exact⟨v,w,u,by rw [e1,e2],h1,h3,h4⟩
variable (X) in
noncomputable def BiR (b:BI) (r:List V->Hp->VK->Prop):Prop:=∀(H:Hp) (F:Fz) (ds:List D) (vs:List V) (z:R) (Q:VK),biD b ds=some z->(∀a,H a=none->¬F a)->RPs X.K H F ds vs->(∀v H' F',Gr H F H' F'->RR X.K H H' F' z v->Q v H')->r vs H Q
theorem qOg:BiR X .len (λxs H Q=>∃p ys,xs=[.ref p]/\(SqL X.K H p ys∨SqT X.K H p ys)/\Q (.int ys.length) H):=by
 intro H F ds vs z Q hz dom hs kk
 match ds,hz,hs with
 | [.tup xs],hz,hs =>
  cases hz
  obtain⟨v,rfl,hv⟩:=RPs.one hs
  obtain⟨p,ws,rfl,h1,h2⟩:=hv.tup
  exact⟨p,ws,rfl,.inr h1,by rw [RDs.length h2];exact kk _ H F (Gr.refl dom) rfl⟩
 | [.lst xs],hz,hs =>
  cases hz
  obtain⟨v,rfl,hv⟩:=RPs.one hs
  obtain⟨p,ws,rfl,h1,h2⟩:=hv.lst
  exact⟨p,ws,rfl,.inl h1,by rw [RDs.length h2];exact kk _ H F (Gr.refl dom) rfl⟩
theorem qOe:BiR X .min (λxs H Q=>(∃i j,xs=[.int i,.int j]/\Q (.int (if j<i then j else i)) H)∨∃(p:Addr) (is:List Int) (m:Int),xs=[.ref p]/\SqL X.K H p (is.map V.int)/\mnL is=some m/\Q (.int m) H):=by
 intro H F ds vs z Q hz dom hs kk
 match ds,hz,hs with
 | [.int i,.int j],hz,hs =>
  cases hz
  obtain⟨v,w,rfl,hv,hw⟩:=RPs.two hs
  exact .inl ⟨i,j,by rw [hv.int,hw.int],kk _ H F (Gr.refl dom) rfl⟩
 | [.lst xs],hz,hs =>
  have hz:qO6 xs=some z:=hz
  unfold qO6 at hz
  split at hz
  ·rename_i is e1
   obtain⟨m,e3,e4⟩:=Option.map_eq_some_iff.mp hz
   subst e4
   obtain⟨v,rfl,hv⟩:=RPs.one hs
   obtain⟨p,ws,rfl,h1,h2⟩:=hv.lst
   rw [RDs.ints h2 e1] at h1
   exact .inr ⟨p,is,m,rfl,h1,e3,kk _ H F (Gr.refl dom) rfl⟩
  ·cases hz
theorem qOf:BiR X .max (λxs H Q=>((∃i j,xs=[.int i,.int j]/\Q (.int (if j > i then j else i)) H)∨∃i j k,xs=[.int i,.int j,.int k]/\Q (.int (if k > (if j > i then j else i) then k else (if j > i then j else i))) H)∨∃(p:Addr) (is:List Int) (m:Int),xs=[.ref p]/\SqL X.K H p (is.map V.int)/\mxL is=some m/\Q (.int m) H):=by
 intro H F ds vs z Q hz dom hs kk
 match ds,hz,hs with
 | [.int i,.int j],hz,hs =>
  cases hz
  obtain⟨v,w,rfl,hv,hw⟩:=RPs.two hs
  exact .inl (.inl ⟨i,j,by rw [hv.int,hw.int],kk _ H F (Gr.refl dom) rfl⟩)
 | [.int i,.int j,.int l],hz,hs =>
  cases hz
  obtain⟨v,w,u,rfl,hv,hw,hu⟩:=RPs.three hs
  exact .inl (.inr ⟨i,j,l,by rw [hv.int,hw.int,hu.int],kk _ H F (Gr.refl dom) rfl⟩)
 | [.lst xs],hz,hs =>
  obtain⟨is,e1,e2⟩:=qAa hz
  obtain⟨m,e3,e4⟩:=Option.map_eq_some_iff.mp e2
  subst e4
  obtain⟨v,rfl,hv⟩:=RPs.one hs
  obtain⟨p,ws,rfl,h1,h2⟩:=hv.lst
  rw [RDs.ints h2 e1] at h1
  exact .inr ⟨p,is,m,rfl,h1,e3,kk _ H F (Gr.refl dom) rfl⟩
theorem qOc:BiR X .sum (λxs H Q=>∃(p:Addr) (is:List Int),xs=[.ref p]/\SqL X.K H p (is.map V.int)/\Q (.int is.sum) H):=by
 intro H F ds vs z Q hz dom hs kk
 match ds,hz,hs with
 | [.lst xs],hz,hs =>
  obtain⟨is,e1,e2⟩:=Option.map_eq_some_iff.mp hz
  subst e2
  obtain⟨v,rfl,hv⟩:=RPs.one hs
  obtain⟨p,ws,rfl,h1,h2⟩:=hv.lst
  rw [RDs.ints h2 e1] at h1
  exact⟨p,is,rfl,h1,kk _ H F (Gr.refl dom) rfl⟩
theorem qOd:BiR X .str (λxs H Q=>∃i:Int,xs=[.int i]/\i.natAbs.log2<1920/\Q (.str (Str.ofString (toString i))) H):=by
 intro H F ds vs z Q hz dom hs kk
 match ds,hz,hs with
 | [.int i],hz,hs =>
  obtain⟨h1,rfl⟩:=qAy (show (if i.natAbs<2^240 then some (false,D.str (qBo i)) else none)=some z from hz)
  obtain⟨v,rfl,hv⟩:=RPs.one hs
  exact⟨i,by rw [hv.int],snd_fv.small_log h1,kk _ H F (Gr.refl dom) rfl⟩
theorem qJy:BiR X .tuple (λxs H Q=>∃p ys,xs=[.ref p]/\((SqL X.K H p ys/\∀l,H l=none->Q (.ref l) (upd H l (.tup ys)))∨(SqT X.K H p ys/\Q (.ref p) H))):=by
 intro H F ds vs z Q hz dom hs kk
 match ds,hz,hs with
 | [.lst xs],hz,hs =>
  cases hz
  obtain⟨v,rfl,hv⟩:=RPs.one hs
  obtain⟨p,ws,rfl,h1,h2⟩:=hv.lst
  refine⟨p,ws,rfl,.inl ⟨h1,λl hl=>?_⟩⟩
  obtain⟨g,rr⟩:=qCy dom hl h2
  exact kk _ _ _ g rr
 | [.tup xs],hz,hs =>
  cases hz
  obtain⟨v,rfl,hv⟩:=RPs.one hs
  obtain⟨p,ws,rfl,h1,h2⟩:=hv.tup
  exact⟨p,ws,rfl,.inr ⟨h1,kk _ H F (Gr.refl dom) ⟨p,ws,rfl,h1,h2⟩⟩⟩
theorem qN7:bootBuiltins (Str.ofString "len")=some (.builtin "len"):=by decide +kernel
theorem qN5:bootBuiltins (Str.ofString "min")=some (.builtin "min"):=by decide +kernel
theorem qN6:bootBuiltins (Str.ofString "max")=some (.builtin "max"):=by decide +kernel
theorem qN4:bootBuiltins (Str.ofString "sum")=some (.builtin "sum"):=by decide +kernel
theorem qKk:bootBuiltins (Str.ofString "isinstance")=some (.builtin "isinstance"):=by decide +kernel
theorem qFJ:bootBuiltins (Str.ofString "tuple")=some (.type "tuple"):=by decide +kernel
theorem qLT:bootBuiltins (Str.ofString "list")=some (.type "list"):=by decide +kernel
theorem qN8:bootBuiltins (Str.ofString "int")=some (.type "int"):=by decide +kernel
theorem qLU:bootBuiltins (Str.ofString "bool")=some (.type "bool"):=by decide +kernel
theorem qKj:bootBuiltins (Str.ofString "str")=some (.type "str"):=by decide +kernel
theorem qBS {x:Str}(h:qAM x=true):x≠"__name__"/\(x == ("__debug__":Str))=false:=by
 unfold qAM at h
 simp only [Bool.and_eq_true,bne_iff_ne,ne_eq] at h
 exact⟨h.2,beq_eq_false_iff_ne.mpr h.1.1⟩
theorem qBv {x:Str}{s:String}(h:x=Str.ofString s) (hs:s∈["len","abs","min","max","sum","all","tuple","list","int","bool","str","isinstance","range","zip","reversed","sorted","enumerate","any"]):x∈qAI:=by
 subst h
 exact List.mem_map.mpr ⟨s,hs,rfl⟩
theorem qGJ (g:XG call G k X sc N) {x:Str}{b:BI}{es:List Expr}{cs:List C}{p pos:Pos}(hb:qPi x es.length=some b) (hd:G.defs.lookup x=none) (hg:glB sc x=true) (hp:qAM x=true) (hn:es.all qBg=true) (h:qEJ call X es cs) :
  SndE call X (.Call (.Name x p) es [] pos) (.bi b cs):=by
 obtain⟨h1,h2⟩:=qBS hp
 have gx:=g.gl x hg
 have bl:∀s:String,x=Str.ofString s->s∈["len","abs","min","max","sum","all","tuple","list","int","bool","str","isinstance","range","zip","reversed","sorted","enumerate","any"]->X.mg x=none:=λs e hs=>g.blt x hd (qBv e hs)
 have ne:∀{n:Nat},es.length=n+1->es≠[]:=λe z=>by rw [z] at e;cases e
 unfold qPi at hb
 split at hb
 ·rename_i e
  split at hb
  ·rename_i hl
   cases hb
   exact qFl qEA gx (bl _ e (by decide)) (by rw [e];exact qN7) h1 h2 hn (ne hl) h qOg
  ·cases hb
 split at hb
 ·rename_i e
  split at hb
  ·rename_i hl
   cases hb
   exact qFl ((qHU g.calm).or (qHV g.calm)) gx (bl _ e (by decide)) (by rw [e];exact qN5) h1 h2 hn (hl.elim (λz=>ne z) (λz=>ne z)) h qOe
  ·cases hb
 split at hb
 ·rename_i e
  split at hb
  ·rename_i hl
   cases hb
   exact qFl (((qHX g.calm).or (qHW g.calm)).or (qHY g.calm)) gx (bl _ e (by decide)) (by rw [e];exact qN6) h1 h2 hn (hl.elim (λz=>ne z) (λz=>z.elim (λz=>ne z) (λz=>ne z))) h qOf
  ·cases hb
 split at hb
 ·rename_i e
  split at hb
  ·rename_i hl
   cases hb
   exact qFl (qHT g.calm) gx (bl _ e (by decide)) (by rw [e];exact qN4) h1 h2 hn (ne hl) h qOc
  ·cases hb
 split at hb
 ·rename_i e
  split at hb
  ·rename_i hl
   cases hb
   exact qFk qDS gx (bl _ e (by decide)) (by rw [e];exact qFJ) h1 h2 hn (ne hl) h qJy
  ·cases hb
 unfold qOh at hb
 split at hb
 ·rename_i e
  split at hb
  ·rename_i hl
   cases hb
   exact qFk qEz gx (bl _ e (by decide)) (by rw [e];exact qKj) h1 h2 hn (ne hl) h qOd
  ·cases hb
 ·cases hb
theorem qKp {t:Str}{ty:Ty}(h:qOo t=some ty):bootBuiltins t=some (.type (qD2 ty))/\t∈qAI/\qAM t=true:=by
 unfold qOo at h
 split at h
 ·rename_i e;subst e;cases h;exact⟨qN8,qBv rfl (by decide),by decide +kernel⟩
 split at h
 ·rename_i e;subst e;cases h;exact⟨qLU,qBv rfl (by decide),by decide +kernel⟩
 split at h
 ·rename_i e;subst e;cases h;exact⟨qFJ,qBv rfl (by decide),by decide +kernel⟩
 split at h
 ·rename_i e;subst e;cases h;exact⟨qLT,qBv rfl (by decide),by decide +kernel⟩
 split at h
 ·rename_i e;subst e;cases h;exact⟨qKj,qBv rfl (by decide),by decide +kernel⟩
 ·cases h
theorem qKM (g:XG call G k X sc N) {f t:Str}{ty:Ty}{a:Expr}{ca:C}{p p2 pos:Pos}(hf:f=Str.ofString "isinstance") (hd:G.defs.lookup f=none) (hdt:G.defs.lookup t=none) (hg:glB sc f=true) (hgt:glB sc t=true) (ht:qOo t=some ty) (hn:qBg a=true) (h:qEI call X a ca) :
  SndE call X (.Call (.Name f p) [a,.Name t p2] [] pos) (.isi ca ty):=by
 obtain⟨b1,b2,b3⟩:=qKp ht
 obtain⟨n1,n2⟩:=qBS b3
 have hm:X.mg f=none:=g.blt f hd (qBv hf (by decide))
 obtain⟨ta,pa,qa⟩:=h
 have pt:PE X (.Name t p2) (tC (.ty (qD2 ty))):=qK7 (g.gl t hgt) (g.blt t hdt b2) b1 rfl n1 n2
 refine⟨_,qDE qH0 (g.gl f hg) hm (by rw [hf];exact qKk) (qBl pa (qBl pt qCo) (qAB hn)) (by rw [hf];decide +kernel) (by rw [hf];decide +kernel) (qAB hn) (by rfl),λGe H F σ τ z Q hz hs kk=>?_⟩
 obtain⟨x,ex,ez⟩:=qAa (by simpa only [qHF] using hz)
 have ez0:tyR ty x=some z:=ez
 obtain⟨b,rfl⟩:∃b,z=(false,.bl b):=by cases x<;>first|(cases ez;exact⟨_,rfl⟩)|cases ez
 refine qa Ge H F σ τ x _ ex hs λv H1 F1 g1 rx=>?_
 exact⟨v,x,F1,ty,b,rfl,rx,ez0,kk _ H1 F1 g1 rfl⟩
theorem qHZ:CallR X (.builtin "isinstance") (λxs H Q=>∃(a c dx C:Addr) (fs:List (Str×V)) (b:Bool),xs=[.ref a,.ref C]/\H a=some (.ins c dx fs)/\qOn X.K c C b/\Q (.bl b) H):=by
 intro pins s σ H xs us Q I r h
 obtain⟨a,c,dx,C,fs,b,rfl,ha,⟨h1,h2,h3,h4,h5,h6⟩,q⟩:=h
 obtain⟨u,w',rfl,ru,rw'⟩:=qIo r
 have rw'':w'=Value.ref C:=rw'
 subst rw''
 exact qHh I ru (TyOf.ins ha h1 h2 h3 h4 h5) h6 λtk=>⟨.bl _,H,I.tok tk,rfl,q⟩
theorem qCP {c:Nat}{b:Bool}:∀{l:List (Nat×Bool)},l.lookup c=some b->(c,b)∈l
 | (a,x)::r,h=>by
  rw [List.lookup_cons] at h
  split at h
  ·rename_i hc
   have hc:c=a:=by simpa using hc
   cases h
   rw [hc]
   exact List.mem_cons_self
  ·exact List.mem_cons_of_mem _ (qCP h)
theorem qKL (g:XG call G k X sc N) {f t:Str}{tb:List (Nat×Bool)}{a:Expr}{ca:C}{p p2 pos:Pos}(hf:f=Str.ofString "isinstance") (hd:G.defs.lookup f=none) (hg:glB sc f=true) (hgt:glB sc t=true) (hpt:qAM t=true) (ht:G.isa.lookup t=some tb) (hn:qBg a=true) (h:SndE call X a ca) :
  SndE call X (.Call (.Name f p) [a,.Name t p2] [] pos) (.iso ca tb):=by
 obtain⟨C,m1,m2⟩:=g.isa t tb ht
 have hm:X.mg f=none:=g.blt f hd (qBv hf (by decide))
 obtain⟨ta,pa,qa⟩:=h
 have pt:PE X (.Name t p2) (tC (.ref C)):=qGX (g.gl t hgt) m1 rfl (qBS hpt).2
 refine⟨_,qDE qHZ (g.gl f hg) hm (by rw [hf];exact qKk) (qBl pa (qBl pt qCo) (qAB hn)) (by rw [hf];decide +kernel) (by rw [hf];decide +kernel) (qAB hn) (by rfl),λGe H F σ τ z Q hz hs kk=>?_⟩
 obtain⟨x,ex,ez⟩:=qAa (by simpa only [qHE] using hz)
 obtain⟨b0,d⟩:=x
 cases d with
 | obj kn os =>
  obtain⟨b,e1,e2⟩:=Option.map_eq_some_iff.mp (show (tb.lookup kn.c).map (λb=>((false,.bl b):R))=some z from ez)
  subst e2
  refine qa Ge H F σ τ _ _ ex hs λv H1 F1 g1 rr=>?_
  obtain⟨a',vs,rfl,⟨dx,fs,o2,o3,o4,o5⟩,o6⟩:=rr.look.obj
  exact⟨a',kn.c,dx,C,fs,b,rfl,o2,m2 _ (qCP e1),kk _ H1 F1 g1 rfl⟩
 | _=>cases ez
theorem qIG {o:Expr}{c:C}{m:Str}{es:List Expr}{p2 p3:Pos}(hu:X.A.units+20<cLine) (hm:m=Str.ofString "count") (hb:qLX o=true) (ht:isT es=true) (hln:(p2.endLine == p3.line)=true) (h:SndE call X o c):SndE call X (.Call (.Attribute o m p2) es [] p3) (.cntT c):=by
 subst hm
 obtain⟨j,p0,rfl⟩:∃j p0,es=[.Constant (.bool true) j p0]:=by
  unfold isT at ht
  split at ht
  ·exact⟨_,_,rfl⟩
  ·cases ht
 obtain⟨t,pt,qt⟩:=h
 have hbs:attributeBase o (Str.ofString "count") X.env (eval o X.env)=eval o X.env:=by
  unfold qLX at hb
  split at hb
  ·rfl
  ·cases hb
 refine⟨_,qK6 PySem.F.plainAttrs_list PySem.F.slot_list_count PySem.F.type_list_count (qI4 hu) pt (qBl (qM6 (b:=true)) qCo rfl) (hbase:=hbs) (hfew:=by rfl) (hline:=hln) (hs:=by rfl),λGe H F σ τ z Q hz hs kk=>?_⟩
 obtain⟨⟨b0,d⟩,ex,ez⟩:=qAa (by simpa only [qFA] using hz)
 unfold qOy at ez
 split at ez
 ·rename_i xs heq
  cases heq
  obtain⟨bs,e1,e2⟩:=Option.map_eq_some_iff.mp ez
  subst e2
  refine qt Ge H F σ τ _ _ ex hs λv H1 F1 g1 rr=>?_
  obtain⟨a,ds,vs,h1,rfl,h3,h4,h5,h6⟩:=rr
  cases h1
  rw [RDs.bls h6 e1] at h5
  exact⟨.inl ⟨rfl,_,SqL.of h5⟩,a,bs,rfl,rfl,h5,kk _ H1 F1 g1 rfl⟩
 ·cases ez
end
end Dw
namespace Dw
open PySem PySem.Spec PyProof.Rows L2
theorem qCK:∀(ns:List Str) (ws:List V) (fs:List (Str×V)) (g:Str),g∉ns->(qJV ns ws fs).lookup g=fs.lookup g
 | [],_,_,_,_=>rfl
 | f::ns,[],_,_,_=>rfl
 | f::ns,w::ws,fs,g,h=>by
  show (qJV ns ws (qCx f w fs)).lookup g=_
  rw [qCK ns ws _ g (λz=>h (List.mem_cons_of_mem _ z)),qBG,if_neg (λz=>h (by rw [z];exact List.mem_cons_self))]
theorem qGP:∀(ns:List Str) (ws:List V) (fs:List (Str×V)) (j:Nat) (f:Str),ns.Nodup->ws.length=ns.length->ns[j]?=some f->∃u,(qJV ns ws fs).lookup f=some u/\ws[j]?=some u
 | [],_,_,j,f,_,_,h=>by simp at h
 | g::ns,[],_,j,f,_,hl,_=>by simp at hl
 | g::ns,w::ws,fs,j,f,nd,hl,h=>by
  rw [List.nodup_cons] at nd
  cases j with
  | zero =>
   have h:g=f:=by simpa using h
   subst h
   refine⟨w,?_,rfl⟩
   show (qJV ns ws (qCx g w fs)).lookup g=_
   rw [qCK ns ws _ g nd.1,qBG,if_pos rfl]
  | succ j =>
   obtain⟨u,h1,h2⟩:=qGP ns ws (qCx g w fs) j f nd.2 (by simpa using hl) (by simpa using h)
   exact⟨u,h1,by simpa using h2⟩
theorem qFo (f:Str) (v:V):∀fs:List (Str×V),(qCx f v fs).length<=fs.length+1
 | []=>by simp [qCx]
 | (g,x)::r=>by
  unfold qCx
  split
  ·simp
  ·have:=qFo f v r;simp;omega
section
variable {call:Nat->List D->Option R}{G:Gx}{k:Nat}{X:Cx}{sc:Scope}{N:List Str}
theorem qE7 {e:Expr}(h:qEG e=true) (m:Str) (env:Env):attributeBase e m env (eval e env)=eval e env:=by
 cases e<;>first|rfl|cases h
theorem qKP {a:Expr}{ca:C}{f:Str}{j:Nat}{pos:Pos}(hb:qEG a=true) (h:SndE call X a ca):SndE call X (.Attribute a f pos) (.fld ca j f):=by
 obtain⟨t,pt,qt⟩:=h
 refine⟨_,qM4 pt (qE7 hb _ _),λGe H F σ τ r Q hr hs kk=>?_⟩
 rw [qHH] at hr
 obtain⟨⟨b,d⟩,ey,hr⟩:=qAa hr
 cases d with
 | obj ns ds =>
  have hr:(if ns.ns[j]?=some f then (ds[j]?).map (false,·) else none)=some r:=hr
  by_cases hf:ns.ns[j]?=some f
  ·rw [if_pos hf] at hr
   cases ed:ds[j]? with
   | none=>rw [ed] at hr;cases hr
   | some d =>
    rw [ed] at hr
    cases hr
    refine qt Ge H F σ τ _ _ ey hs λv H1 F1 g1 rr=>?_
    obtain⟨a,vs,rfl,⟨dx,fs,o2,o3,o4,o5⟩,o6⟩:=rr.look.obj
    obtain⟨n1,u,q1,q2⟩:=o4 j f hf
    obtain⟨v',w1,w2⟩:=RDs.get o6 ed
    rw [q2] at w1
    cases w1
    exact⟨a,ns.c,dx,fs,u,rfl,o2,o3,n1,q1,kk u H1 F1 g1 w2⟩
  ·rw [if_neg hf] at hr
   cases hr
 | _=>cases hr
theorem qIx:∀{es:List Expr}{env:Env}{pos:Pos},es.all qBg=true->(backTo pos (starEach es env)).all (λx=>!x.1)=true:=λ{es env pos} h=>by
 have:=qBs (env:=env) (pos:=pos) h
 rw [<-List.not_any_eq_all_not,this]
 rfl
theorem qG5 {o:Expr}{m:Str}{p2 pos2:Pos}{env:Env}{args:List Expr}(hb:attributeBase o m env (eval o env)=eval o env) (few:methodCallForm (args.length+([]:List Keyword).length) (backTo pos2 (starEach args env)) (backToKw pos2 (keywordEach [] env))=true) (hln:(p2.endLine == pos2.line)=true) :
  eval (.Call (.Attribute o m p2) args [] pos2) env=(do
   let ov <-eval o env
   standAt p2.atName
   let (f,first) <-holding [ov] (getMethod ov m (do return (<-importBound o env).getD true))
   callWith pos2 f first (backTo pos2 (starEach args env)) (backToKw pos2 (keywordEach [] env))):=by
 have e1:eval (.Call (.Attribute o m p2) args [] pos2) env=(do
   let ov <-attributeBase o m env (eval o env)
   standAt p2.atName
   methodCall o m p2 pos2 env ov (args.length+([]:List Keyword).length) (backTo pos2 (starEach args env)) (backToKw pos2 (keywordEach [] env))):=rfl
 rw [e1,hb]
 unfold methodCall calleeOf methodCallPos
 rw [few,hln]
 rfl
theorem qIR {x:Str}{C:Addr}{p pos:Pos}(M:Mk0 X.K C) (hg:Gl X x) (hm:X.mg x=some (.ref C)) (hdb:(x == ("__debug__":Str))=false) :
  PE X (.Call (.Name x p) [] [] pos) (λ_ H Q=>∀a dx,H a=none->H dx=none->dx≠a->Q (.ref a) (upd (upd H dx (.own a)) a (.ins C dx []))):=by
 intro pins s σ H Q I h
 refine wpAny_Call_Name_kw (qCR I hg hm ?_ hdb)
 refine PySem.W.callWith_K0 I.kIn M.kp ?_
 have hq:=h (s.heap.objs.size+1) s.heap.objs.size (I.hok.fresh (Nat.le_succ _)) (I.hok.fresh (Nat.le_refl _)) (Nat.ne_of_lt (Nat.lt_succ_self _))
 have I2:=Inv.made (C:=C) I
 have Y:=PySem.W.makes_of (M:=model X.prog X.w) I.kIn M.makes
 refine wpAny_call (qG6 I.kIn M.makes M.init (λself=>PySem.W.Looks.of_pure (PySem.W.oi_bind self)) ?_)
 obtain⟨hh,gg,dd,tt,oo⟩:=s
 have e2:((hh.push PySem.W.emptyDict).push (PySem.W.instObj C hh.objs.size)).get? (hh.objs.size+1)=some (PySem.W.instObj C hh.objs.size):=by
  have:=Heap.get?_push_size (hh.push PySem.W.emptyDict) (o:=PySem.W.instObj C hh.objs.size) rfl
  rwa [Heap.size_push] at this
 have t1:PySem.W.Looks (model X.prog X.w) ((hh.push PySem.W.emptyDict).push (PySem.W.instObj C hh.objs.size)) (typeOf (.ref (hh.objs.size+1))) (.ref C):=(PySem.W.Looks.ld e2).andThen .now
 have t2:PySem.W.Looks (model X.prog X.w) ((hh.push PySem.W.emptyDict).push (PySem.W.instObj C hh.objs.size)) (isInstance (.ref (hh.objs.size+1)) (.type "object")) true:=t1.andThen (Y.top.keeps λb o e=>Heap.get?_push_of_some _ (Heap.get?_push_of_some _ e))
 refine PySem.codeAny_call_builtin PySem.W.oi_plain PySem.W.entry_oi (@PySem.W.check_slot (model X.prog X.w) _ _ _ "object.__init__" "object" "__init__" (.ref (hh.objs.size+1)) [] [] _ PySem.W.oi_kind PySem.W.oi_split t2 (PySem.W.oi_args (.ref (hh.objs.size+1))) ?_)
 rw [PySem.W.oi_run]
 exact wpAny_pure (And.intro rfl ⟨V.ref (hh.objs.size+1),_,I2,rfl,hq⟩)
theorem qO5 (g:XG call G k X sc N) {u:Mt}(hu:u∈G.meth) (hg:glB sc u.c=true) (hd:(u.c == ("__debug__":Str))=false) {es:List Expr}{cs:List C}{p pos:Pos}(hn:es.all qBg=true) (h:qJI call X es cs) (hlen:cs.length=es.length) :
  ∃t:TE,PE X (.Call (.Name u.c p) es [] pos) t/\∀(Ge:Gp) (H:Hp) (F:Fz) (σ:En) (τ:L2.St) (xs:List D) (Q:VK),evA call σ cs=some xs->xs.length=u.kn.ns.length->SR X.K Ge H F σ τ ->
   (∀x H' F',Gr H F H' F'->RD X.K H' F' (.obj u.kn xs) (.ref x)->Q (.ref x) H')->t τ H Q:=by
 obtain⟨fm,fdm,psm,q1,q2,q3,q4,q7,q8,q9,q10,q11,q12⟩:=(g.meth u hu).ex
 have h2k:=g.two (λz=>by rw [z] at hu;cases hu)
 obtain⟨t,pt,q⟩:=h
 have key:∀(H:Hp) (F:Fz) (H1:Hp) (F1:Fz) (xs:List D) (vs:List V) (Q:VK),xs.length=u.kn.ns.length->Gr H F H1 F1->RDs X.K H1 F1 xs vs->(∀x H' F',Gr H F H' F'->RD X.K H' F' (.obj u.kn xs) (.ref x)->Q (.ref x) H')->∀x dx,H1 x=none->H1 dx=none->dx≠x ->
   spI X.K u.kn.ns (.ref x::(vs++[])) (upd (upd H1 dx (.own x)) x (.ins u.kn.c dx [])) (λv H2=>v=.non/\Q (.ref x) H2) E0:=λH F H1 F1 xs vs Q hl g1 rs kk x dx hx hdx hne3=>by
  have hvl:vs.length=u.kn.ns.length:=by rw [RDs.length rs,hl]
  have g2:Gr H1 F1 (upd (upd H1 dx (.own x)) x (.ins u.kn.c dx (qJV u.kn.ns vs []))) F1:=(Gr.laid g1.dom hdx).trans (Gr.laid (Gr.laid g1.dom hdx).dom (by rw [qAl hne3.symm];exact hx))
  refine⟨x,u.kn.c,dx,vs,by rw [List.append_nil],hvl,qAG,q3,q4,rfl,?_⟩
  rw [qGp]
  refine kk x _ F1 (g1.trans g2) ⟨x,vs,rfl,⟨dx,_,qAG,q3,λj f hj=>⟨q4 f (List.mem_of_getElem? hj),qGP _ vs [] j f q12 hvl hj⟩,λgg hgg=>?_⟩,RDs.mono g2.keep rs⟩
  rw [qCK _ _ _ _ hgg]
  rfl
 rcases q2 with ⟨fi,fdi,psi,q2,q5,q6⟩|⟨hns,q2⟩
 rotate_left
 ·have e0:es=[]∨es≠[]:=by cases es<;>simp
  rcases e0 with rfl|hne
  ·refine⟨_,qIR (p:=p) (pos:=pos) q2 (g.gl _ hg) q1 hd,λGe H F σ τ xs Q ex hl hs kk=>?_⟩
   intro x dx hx hdx hne3
   have hc:cs=[]:=List.length_eq_zero_iff.mp hlen
   subst hc
   cases ex
   have g2:Gr H F (upd (upd H dx (.own x)) x (.ins u.kn.c dx [])) F:=(Gr.laid hs.dom hdx).trans (Gr.laid (Gr.laid hs.dom hdx).dom (by rw [qAl hne3.symm];exact hx))
   refine kk x _ F g2 ⟨x,[],rfl,⟨dx,_,qAG,q3,λj f hj=>?_,λgg hgg=>rfl⟩,rfl⟩
   rw [hns] at hj
   simp at hj
  ·refine⟨λ_ _ _=>False,λ_ _ _ _ _ _ z=>z.elim,λGe H F σ τ xs Q ex hl hs kk=>?_⟩
   have h1:=qHL ex
   rw [hns,List.length_nil] at hl
   rw [hlen,hl] at h1
   exact hne (List.length_eq_zero_iff.mp h1.symm)
 cases es with
 | nil =>
  refine⟨_,qIS (p:=p) (pos:=pos) q2 q6 (g.room.mono h2k) (g.gl _ hg) q1 q5 .nil qF0 hd,λGe H F σ τ xs Q ex hl hs kk=>?_⟩
  have hc:cs=[]:=List.length_eq_zero_iff.mp hlen
  subst hc
  cases ex
  exact key H F H F [] [] Q hl (Gr.refl hs.dom) rfl kk
 | cons e es =>
  rw [List.all_cons,Bool.and_eq_true] at hn
  refine⟨_,qK5 (p:=p) (pos:=pos) q2 q6 (g.room.mono h2k) (g.gl _ hg) q1 q5 .nil qF0 pt hd (qAB hn.1) (qBs hn.2),λGe H F σ τ xs Q ex hl hs kk=>?_⟩
  refine q Ge H F σ τ xs _ ex hs λvs H1 F1 g1 rs=>?_
  exact key H F H1 F1 xs vs Q hl g1 rs kk
noncomputable def qPQ (X:Cx) (e:Expr):TE:=fun σ H Q=>∃t:TE,PE X e t/\t σ H Q
theorem qM7 {e:Expr}:PE X e (qPQ X e):=λpins s σ H Q I h=>let ⟨_,p,q⟩:=h;p pins s σ H Q I q
theorem qJ9 {bs:List Expr}{pos2:Pos}(hn2:bs.all qBg=true) (h30:bs.length<30):methodCallForm (bs.length+([]:List Keyword).length) (backTo pos2 (starEach bs X.env)) (backToKw pos2 (keywordEach [] X.env))=true:=by
 unfold methodCallForm
 rw [qIx hn2,Bool.true_and,Bool.and_eq_true]
 exact⟨rfl,decide_eq_true h30⟩
theorem qCO {β:Type}{c:Nat}{b:β}:∀{l:List (Nat×β)},l.lookup c=some b->(c,b)∈l
 | (a,x)::r,h=>by
  rw [List.lookup_cons] at h
  split at h
  ·rename_i hc
   have hc:c=a:=by simpa using hc
   cases h
   rw [hc]
   exact List.mem_cons_self
  ·exact List.mem_cons_of_mem _ (qCO h)
theorem qMB (g:XG call G k X sc N) {a:Expr}{ca:C}{m:Str}{bs:List Expr}{ds:List C}{p2 pos2:Pos}(hb:qEG a=true) (h1:SndE call X a ca) (hn2:bs.all qBg=true) (hbl:ds.length=bs.length) (hln:(p2.endLine == pos2.line)=true) (h30:bs.length<30)
  (h2:qJI call X bs ds):SndE call X (.Call (.Attribute a m p2) bs [] pos2) (.mc ca m (tbM G m) ds):=by
 obtain⟨t1,pt1,qt1⟩:=h1
 obtain⟨t2,pt2,qq⟩:=h2
 refine⟨_,qM7,λGe H F σ τ r Q hr hs kk=>?_⟩
 rw [qKd] at hr
 obtain⟨⟨b,d⟩,ey,hr⟩:=qAa hr
 obtain⟨f,eq,hr⟩:=qAa hr
 obtain⟨ys,ez,hr⟩:=qAa hr
 cases d with
 | obj kn os =>
  have eq:(if kn.ns.all (λf=>f != m)=true then (tbM G m).lookup kn.c else none)=some f:=eq
  split at eq
  ·rename_i hm
   have hmem:=qCO eq
   unfold tbM at hmem
   obtain⟨u,hu,eu⟩:=List.mem_map.mp hmem
   obtain⟨hu2,hum⟩:=List.mem_filter.mp hu
   clear hu hmem
   have hum:u.m=m:=by simpa using hum
   have e1:u.kn.c=kn.c:=(Prod.mk.inj eu).1
   have e2:u.i=f:=(Prod.mk.inj eu).2
   subst hum e2
   obtain⟨fm,fdm,psm,q1,q2,q3,q4,q7,q8,q9,q10,q11,q12⟩:=(g.meth u hu2).ex
   cases bs with
   | nil =>
    have few:=qJ9 (X:=X) (pos2:=pos2) (bs:=[]) rfl (by decide)
    obtain rfl:ds=[]:=List.length_eq_zero_iff.mp hbl
    cases ez
    refine⟨_,qIQ (apos:=p2) (pos:=pos2) pt1 q3 q7 q9 g.room q8 .nil qF0 (qG5 (qE7 hb _ _) few hln),?_⟩
    refine qt1 Ge H F σ τ _ _ ey hs λv H1 F1 g1 rr=>?_
    obtain⟨a',vs,rfl,⟨dx,fs,o2,o3,o4,o5⟩,o6⟩:=rr.look.obj
    rw [<-e1] at o2
    refine⟨a',dx,fs,rfl,o2,o5 _ λz=>?_,?_⟩
    ·have:=List.all_eq_true.mp hm _ z
     simp at this
    have rd:RD X.K H1 F1 (.obj kn os) (.ref a'):=by
     cases b with
     | false=>exact rr
     | true=>obtain⟨_,_,_,z,_⟩:=rr;cases z
    have rg:RGs X.K H1 F1 [.obj kn os] (.ref a'::([]++[])):=⟨.ref a',[],rfl,.inl rd,rfl⟩
    exact⟨by rw [RGs.length rg];exact q10 _ _ hr,F1,_,r,g1.dom,rg,hr,λv H' F' g4 rr=>kk v H' F' (g1.trans g4) (rr.back g1.same)⟩
   | cons b2 bs =>
    have few:=qJ9 (X:=X) (pos2:=pos2) hn2 h30
    rw [List.all_cons,Bool.and_eq_true] at hn2
    refine⟨_,qK4 (apos:=p2) (pos:=pos2) pt1 q3 q7 q9 g.room q8 .nil qF0 pt2 (qAB hn2.1) (qBs hn2.2) (qG5 (qE7 hb _ _) few hln),?_⟩
    refine qt1 Ge H F σ τ _ _ ey hs λv H1 F1 g1 rr=>?_
    obtain⟨a',vs,rfl,⟨dx,fs,o2,o3,o4,o5⟩,o6⟩:=rr.look.obj
    rw [<-e1] at o2
    refine⟨a',dx,fs,rfl,o2,o5 _ λz=>?_,?_⟩
    ·have:=List.all_eq_true.mp hm _ z
     simp at this
    refine qq Ge H1 F1 σ τ ys _ ez (hs.grow g1) λws H3 F3 g3 rs2=>?_
    have rd:RD X.K H3 F3 (.obj kn os) (.ref a'):=RD.mono g3.keep (by
     cases b with
     | false=>exact rr
     | true=>obtain⟨_,_,_,z,_⟩:=rr;cases z)
    have rg:RGs X.K H3 F3 (.obj kn os::ys) (.ref a'::(ws++[])):=by
     rw [List.append_nil]
     exact⟨.ref a',ws,rfl,.inl rd,RGs.of rs2⟩
    exact⟨by rw [RGs.length rg];exact q10 _ _ hr,F3,_,r,g3.dom,rg,hr,λv H' F' g4 rr=>kk v H' F' ((g1.trans g3).trans g4) (rr.back (g1.trans g3).same)⟩
  ·cases eq
 | _=>cases eq
theorem qMA (g:XG call G k X sc N) {u:Mt}(hu:u∈G.meth) (hg:glB sc u.c=true) (hd:(u.c == ("__debug__":Str))=false) {es:List Expr}{cs:List C}{p pos:Pos}(hn:es.all qBg=true) (h:qJI call X es cs) (hlen:cs.length=es.length):SndE call X (.Call (.Name u.c p) es [] pos) (.mk u.kn cs):=by
 obtain⟨t,pt,qt⟩:=qO5 (p:=p) (pos:=pos) g hu hg hd hn h hlen
 refine⟨t,pt,λGe H F σ τ r Q hr hs kk=>?_⟩
 rw [qKc] at hr
 obtain⟨xs,ex,hr⟩:=qAa hr
 split at hr
 ·rename_i hl
  cases hr
  exact qt Ge H F σ τ xs Q ex hl hs λx H' F' g' rd=>kk _ H' F' g' rd
 ·cases hr
theorem qG7 {c:Str}{u:Mt}(h:qLp G c=some u):u∈G.meth/\u.c=c:=by
 unfold qLp at h
 have h1:=List.mem_of_find?_eq_some h
 have h2:=List.find?_some h
 simp only [beq_iff_eq] at h2
 exact⟨h1,h2⟩
end
noncomputable def qEc (sc:Scope) (N:List Str):Nat->List Str->List Stmt->Bool
 | _,[],[]=>true
 | j,f::ns,.Assign [.Attribute (.Name s _) g _] (.Name p _) _::r=>g == f&&qBh sc N s == some 0&&qBh sc N p == some (j+1)&&qEc sc N (j+1) ns r
 | _,_,_=>false
section
variable {call:Nat->List D->Option R}{G:Gx}{k:Nat}{X:Cx}{sc:Scope}{N:List Str}
theorem qF5 {sc:Scope}{N:List Str}{j:Nat}{f:Str}{ns:List Str}{st:Stmt}{r:List Stmt}(h:qEc sc N j (f::ns) (st::r)=true):∃s sp gp p pp ap,st=.Assign [.Attribute (.Name s sp) f gp] (.Name p pp) ap/\qBh sc N s=some 0/\qBh sc N p=some (j+1)/\qEc sc N (j+1) ns r=true:=by
 unfold qEc at h
 split at h
 ·rename_i h1 h2;cases h2
 ·rename_i _ _ _ _ s sp g' gp p pp ap _ e1 e2
  cases e1
  cases e2
  rw [Bool.and_eq_true,Bool.and_eq_true,Bool.and_eq_true] at h
  obtain⟨⟨⟨hf,hs⟩,hp⟩,hr⟩:=h
  have hf:g'=f:=by simpa using hf
  subst hf
  exact⟨s,sp,gp,p,pp,ap,rfl,by simpa using hs,by simpa using hp,hr⟩
 ·cases h
theorem qEb (g:XG call G k X sc N):∀(ns:List Str) (j:Nat) (body:List Stmt),qEc sc N j ns body=true->∃t,PSs X body t/\∀(σ:L2.St) (H:Hp) (x C dx:Addr) (fs:List (Str×V)) (ws:List V) (Dn:Ends),σ[0]?=some (some (.ref x))->(∀i w,ws[i]?=some w->σ[j+1+i]?=some (some w))->ws.length=ns.length ->
  H x=some (.ins C dx fs)->Cls X.K C->(∀f∈ns,NoAttr X.K C f)->fs.length+ns.length<1000->Dn.nx σ (upd H x (.ins C dx (qJV ns ws fs)))->t Dn σ H
 | [],j,[],_=>⟨_,qES,fun σ H x C dx fs ws Dn h0 hw hl hH hC hN hz hq=>by
   have e:upd H x (.ins C dx fs)=H:=by
    funext b
    by_cases h:b=x
    ·subst h;rw [qAG,hH]
    ·rw [qAl h]
   have hq:Dn.nx σ (upd H x (.ins C dx fs)):=hq
   rw [e] at hq
   exact hq⟩
 | [],_,_::_,h=>by cases h
 | f::ns,j,[],h=>by cases h
 | f::ns,j,st::r,h=>by
  obtain⟨s,sp,gp,p,pp,ap,rfl,hs,hp,hr⟩:=qF5 h
  obtain⟨s1,s2,s3,s4⟩:=qCm g hs
  obtain⟨p1,p2,p3,p4⟩:=qCm g hp
  obtain⟨t,pt,qt⟩:=qEb g ns (j+1) r hr
  refine⟨_,qFp (qMT (qB1 (i:=0) s1 s2 s3 s4) (qB1 (i:=j+1) p1 p2 p3 p4) rfl) pt,fun σ H x C dx fs ws Dn h0 hw hl hH hC hN hz hq=>?_⟩
  cases ws with
  | nil=>simp at hl
  | cons w ws =>
   refine⟨w,hw 0 w rfl,.ref x,h0,x,C,dx,fs,rfl,hH,hC,hN _ List.mem_cons_self,by simp at hz;omega,?_⟩
   refine qt σ _ x C dx (qCx f w fs) ws Dn h0 (λi u hi=>?_) (by simpa using hl) qAG hC (λf hf=>hN f (List.mem_cons_of_mem _ hf)) (by have:=qFo f w fs;simp at hz;omega) ?_
   ·have:=hw (i+1) u (by simpa using hi)
    rw [show j+1+1+i=j+1+(i+1) by omega]
    exact this
   ·rw [qGp]
    exact hq
end
end Dw
namespace Dw
open PySem PySem.Spec PyProof.Rows L2
theorem qAt {σ:En}{i:Nat}{o:Option R}(h:i<σ.length):qAf (σ.set i o) i=o:=by
 simp [qAf,h]
theorem qAm {σ:En}{i j:Nat}{o:Option R}(h:i≠j):qAf (σ.set i o) j=qAf σ j:=by
 simp [qAf,List.getElem?_set_ne h]
theorem qA3 {σ:En}{i:Nat}{r:R}(h:qAf σ i=some r):i<σ.length:=by
 by_cases hi:i<σ.length
 ·exact hi
 ·have:σ[i]?=none:=List.getElem?_eq_none (by omega)
  simp [qAf,this] at h
section
variable {K:PySem.W.Frag}{G:Gp}{H H1:Hp}{F F1:Fz}{σ:En}{τ:L2.St}{i:Nat}{d:D}{v:V}
theorem SR.bind (s:SR K G H F σ τ) (h:RD K H F d v):SR K G H F (σ.set i (some (false,d))) (τ.set i (some v)):=by
 refine⟨by simp [s.len],s.ent,s.dom,λj e hj=>?_,λj e hj hd=>?_,λj k e e' hj hk hjk=>?_,λj m ks hj=>?_,λp e hp hj=>?_⟩
 ·by_cases hij:i=j
  ·subst hij
   have hl:i<σ.length:=by simpa using qA3 hj
   rw [qAt hl] at hj
   cases hj
   exact⟨v,by rw [List.getElem?_set_self (by rw [<-s.len];exact hl)],h⟩
  ·rw [qAm hij] at hj
   obtain⟨u,h1,h2⟩:=s.val j e hj
   exact⟨u,by rw [List.getElem?_set_ne hij];exact h1,h2⟩
 ·have hij:i≠j:=λz=>by
   subst z
   have hl:i<σ.length:=by simpa using qA3 hj
   rw [qAt hl] at hj
   cases hj
  rw [qAm hij] at hj
  obtain⟨a,ds,vs,h1,h2,h3⟩:=s.own j e hj hd
  exact⟨a,ds,vs,h1,by rw [List.getElem?_set_ne hij];exact h2,h3⟩
 ·have nj:∀{j:Nat} {e:D},qAf (σ.set i (some (false,d))) j=some (true,e)->i≠j:=λ{j e} hj z=>by
   subst z
   have hl:i<σ.length:=by simpa using qA3 hj
   rw [qAt hl] at hj
   cases hj
  have n1:=nj hj
  have n2:=nj hk
  rw [qAm n1] at hj
  rw [qAm n2] at hk
  rw [List.getElem?_set_ne n1,List.getElem?_set_ne n2] at hjk
  exact s.sep j k e e' hj hk hjk
 ·have hij:i≠j:=λz=>by
   subst z
   have hl:i<σ.length:=by simpa using qA3 hj
   rw [qAt hl] at hj
   cases hj
  rw [qAm hij] at hj
  obtain⟨a,h1,h2⟩:=s.dct j m ks hj
  exact⟨a,by rw [List.getElem?_set_ne hij];exact h1,h2⟩
 ·have hij:i≠0:=λz=>by
   subst z
   have hl:0<σ.length:=by simpa using qA3 hj
   rw [qAt hl] at hj
   cases hj
  rw [qAm hij] at hj
  rw [List.getElem?_set_ne hij]
  exact s.pin p e hp hj
theorem SR.skip (s:SR K G H F σ τ) (h:qAf σ i=none):SR K G H F σ (τ.set i (some v)):=by
 have ne:∀{j:Nat} {r:R},qAf σ j=some r->i≠j:=λ{j r} e z=>by subst z;rw [h] at e;cases e
 refine⟨by simp [s.len],s.ent,s.dom,λj e hj=>?_,λj e hj hd=>?_,λj k e e' hj hk hjk=>?_,λj m ks hj=>?_,λp e hp hj=>?_⟩
 ·obtain⟨u,h1,h2⟩:=s.val j e hj
  exact⟨u,by rw [List.getElem?_set_ne (ne hj)];exact h1,h2⟩
 ·obtain⟨a,ds,vs,h1,h2,h3⟩:=s.own j e hj hd
  exact⟨a,ds,vs,h1,by rw [List.getElem?_set_ne (ne hj)];exact h2,h3⟩
 ·rw [List.getElem?_set_ne (ne hj),List.getElem?_set_ne (ne hk)] at hjk
  exact s.sep j k e e' hj hk hjk
 ·obtain⟨a,h1,h2⟩:=s.dct j m ks hj
  exact⟨a,by rw [List.getElem?_set_ne (ne hj)];exact h1,h2⟩
 ·rw [List.getElem?_set_ne (ne hj)]
  exact s.pin p e hp hj
theorem SR.keep {G':Gp}(s:SR K G H F σ τ) (k:Keep H F H1 F1) (ent:Same G'.h H1) (dom:∀a,H1 a=none->¬F1 a)
  (own:∀i d,qAf σ i=some (true,d)->qJ8 d=false->∃a ds vs,d=.lst ds/\τ[i]?=some (some (.ref a))/\G' a=none/\¬F1 a/\H1 a=some (.lst vs)/\RDs K H1 F1 ds vs)
  (dct:∀i m ks,qAf σ i=some (true,.dct m ks)->∃a,τ[i]?=some (some (.ref a))/\¬F1 a/\H1 a=some (.dK (dk ks))/\(m=true->G' a=none))
  (pin:∀p d,G'.pin=some p->qAf σ 0=some (true,d)->τ[0]?=some (some (.ref p))):SR K G' H1 F1 σ τ:=
 ⟨s.len,ent,dom,λi d e=>let ⟨v,h1,h2⟩:=s.val i d e;⟨v,h1,RD.mono k h2⟩,own,s.sep,dct,pin⟩
theorem Keep.trans {H2:Hp}{F2:Fz}(a:Keep H F H1 F1) (b:Keep H1 F1 H2 F2):Keep H F H2 F2:=
 ⟨λp xs h=>b.tups p xs (a.tups p xs h),λp xs f h=>b.lsts p xs (a.lsts p xs f h).1 (a.lsts p xs f h).2,λp C dx fs h=>b.inss p C dx fs (a.inss p C dx fs h)⟩
theorem Keep.refl:Keep H F H F:=⟨λ_ _ h=>h,λ_ _ f h=>⟨f,h⟩,λ_ _ _ _ h=>h⟩
end
section
variable {call:Nat->List D->Option R}{G:Gx}{k:Nat}{X:Cx}{sc:Scope}{N:List Str}
noncomputable def gL:List Nat->TGs
 | []=>qPe
 | i::is=>qJi (qEg i) (gL is)
noncomputable def gTg (K:PySem.W.Frag):Tg->TG
 | .one i=>qEg i
 | .two i j=>qPd K 2 (qJi (qEg i) (qJi (qEg j) qPe))
 | .many is=>qPd K is.length (gL is)
theorem qCa (g:XG call G k X sc N) {x:Str}(h:(sc.names.lookup x == some .local||sc.names.lookup x == some .cell)=true):Loc X.env.scope x/\(X.fn x=true∨X.env.scope.names.lookup x=some .local):=g.loc x h
theorem qGB (g:XG call G k X sc N) {tg:Expr}{t:Tg}(h:qDs sc N tg=some t):PG X tg (gTg X.K t):=by
 unfold qDs at h
 split at h
 ·rename_i x pos
  split at h
  ·rename_i hx
   cases hi:qAN N x with
   | none=>rw [hi] at h;cases h
   | some i =>
    rw [hi] at h
    cases h
    obtain⟨l1,l2⟩:=qCa g hx
    exact qCL (by rw [g.hN];exact g.nd) (by rw [g.hN];exact qA1 hi) l1 l2
  ·cases h
 ·rename_i x p y p' kk pos
  split at h
  ·rename_i hx
   rw [Bool.and_eq_true,Bool.and_eq_true] at hx
   obtain⟨⟨hx,hy⟩,hne⟩:=hx
   cases hi:qAN N x with
   | none=>rw [hi] at h;cases h
   | some i =>
    cases hj:qAN N y with
    | none=>rw [hi,hj] at h;cases h
    | some j =>
     rw [hi,hj] at h
     cases h
     obtain⟨l1,l2⟩:=qCa g hx
     obtain⟨m1,m2⟩:=qCa g hy
     exact qJZ g.calm (qDD (qCL (by rw [g.hN];exact g.nd) (by rw [g.hN];exact qA1 hi) l1 l2) (qDD (qCL (by rw [g.hN];exact g.nd) (by rw [g.hN];exact qA1 hj) m1 m2) qGV))
  ·cases h
 ·cases h
theorem qGt {K:PySem.W.Frag}{Ge:Gp}{H:Hp}{F:Fz}{σ σ':En}{τ:L2.St}{t:Tg}{d:D}{v:V}{Q:L2.St->Hp->Prop}(hm:∀is,t≠.many is) (s:SR K Ge H F σ τ) (hb:qBy σ t d=some σ') (hv:RD K H F d v)
  (h:∀τ',SR K Ge H F σ' τ'->(∀σ0:En,SR K Ge H F σ0 τ->(∀i,(t=.one i∨∃j,t=.two i j∨t=.two j i)->qAf σ0 i=none)->SR K Ge H F σ0 τ')->Q τ' H):gTg K t v τ H Q:=by
 cases t with
 | one i =>
  cases hb
  exact h _ (s.bind hv) fun σ0 s0 hn=>s0.skip (hn i (.inl rfl))
 | two i j =>
  unfold qBy at hb
  split at hb
  ·rename_i heq;cases heq
  ·rename_i i' j' x y heq
   cases heq
   cases hb
   obtain⟨a,vs,rfl,hs,hr⟩:=hv
   obtain⟨v1,r,rfl,h1,w,r2,e2,h2,h3⟩:=hr
   have h3:r2=[]:=h3
   subst h3
   subst e2
   exact⟨a,[v1,w],rfl,hs,rfl,v1,[w],rfl,w,[],rfl,rfl,h _ ((s.bind h1).bind h2) fun σ0 s0 hn=>(s0.skip (hn i (.inr ⟨j,.inl rfl⟩))).skip (hn j (.inr ⟨i,.inr rfl⟩))⟩
  ·rename_i heq;cases heq
  ·cases hb
 | many is=>exact absurd rfl (hm is)
theorem qCJ {K:PySem.W.Frag}{Ge:Gp}{H:Hp}{F:Fz}{Q:L2.St->Hp->Prop}:∀{is:List Nat}{ds:List D}{vs:List V}{σ σ':En}{τ:L2.St},SR K Ge H F σ τ->qD7 σ is ds=some σ'->RDs K H F ds vs->(∀τ',SR K Ge H F σ' τ'->Q τ' H)->gL is vs τ H Q
 | [],ds,vs,σ,σ',τ,s,hb,hv,h=>by
  cases ds with
  | nil=>cases hb;have hv:vs=[]:=hv;exact⟨hv,h _ s⟩
  | cons d r=>cases hb
 | i::is,ds,vs,σ,σ',τ,s,hb,hv,h=>by
  cases ds with
  | nil=>cases hb
  | cons d r =>
   obtain⟨v,w,rfl,h1,h2⟩:=hv
   exact⟨v,w,rfl,qCJ (s.bind h1) hb h2 h⟩
theorem qDi:∀{is:List Nat}{ds:List D}{σ σ':En},qD7 σ is ds=some σ'->ds.length=is.length
 | [],[],_,_,_=>rfl
 | [],_::_,_,_,h=>by cases h
 | _::_,[],_,_,h=>by cases h
 | i::is,d::ds,σ,σ',h=>by rw [List.length_cons,List.length_cons,qDi (show qD7 (σ.set i (some (false,d))) is ds=some σ' from h)]
theorem qB8 {K:PySem.W.Frag}{Ge:Gp}{H:Hp}{F:Fz}{σ σ':En}{τ:L2.St}{t:Tg}{d:D}{v:V}{Q:L2.St->Hp->Prop}(s:SR K Ge H F σ τ) (hb:qBy σ t d=some σ') (hv:RD K H F d v)
  (h:∀τ',SR K Ge H F σ' τ'->Q τ' H):gTg K t v τ H Q:=by
 cases t with
 | one i=>exact qGt (λ_ z=>nomatch z) s hb hv fun τ' s' _=>h τ' s'
 | two i j=>exact qGt (λ_ z=>nomatch z) s hb hv fun τ' s' _=>h τ' s'
 | many is =>
  unfold qBy at hb
  split at hb
  ·rename_i heq;cases heq
  ·rename_i heq;cases heq
  ·rename_i is' ds heq
   cases heq
   obtain⟨a,vs,rfl,hs,hr⟩:=hv
   exact⟨a,vs,rfl,hs,by rw [RDs.length hr];exact qDi hb,qCJ s hb hr h⟩
  ·cases hb
theorem qO4 (g:XG call G k X sc N) {e:Expr}{i:Nat}(h:qJ4 sc N e=some i):PG X e (qEg i)/\∃x p,e=.Name x p:=by
 unfold qJ4 at h
 split at h
 ·rename_i x pos
  split at h
  ·rename_i hx
   obtain⟨l1,l2⟩:=qCa g hx
   exact⟨qCL (by rw [g.hN];exact g.nd) (by rw [g.hN];exact qA1 h) l1 l2,x,pos,rfl⟩
  ·cases h
 ·cases h
theorem qJ3 (g:XG call G k X sc N):∀{es:List Expr}{is:List Nat},qAS (qJ4 sc N) es=some is->PGs X es (gL is)/\(assignEach es X.env).length=is.length/\(assignEach es X.env).findIdx? (·.1)=none
 | [],is,h=>by cases h;exact⟨qGV,rfl,rfl⟩
 | e::es,is,h=>by
  unfold qAS at h
  cases hx:qJ4 sc N e with
  | none=>rw [hx] at h;cases h
  | some i =>
   rw [hx] at h
   cases hy:qAS (qJ4 sc N) es with
   | none=>simp only [Option.bind_some] at h;rw [hy] at h;cases h
   | some js =>
    simp only [Option.bind_some] at h
    rw [hy] at h
    cases h
    obtain⟨p1,x,p,rfl⟩:=qO4 g hx
    obtain⟨q1,q2,q3⟩:=qJ3 g hy
    refine⟨qDD p1 q1 rfl,?_,?_⟩
    ·show (assignEach es X.env).length+1=_
     rw [q2];rfl
    ·show List.findIdx? _ ((false,_)::assignEach es X.env)=none
     rw [List.findIdx?_cons,q3];rfl
theorem qGu {tg:Expr}{t:Tg}(h:qDs sc N tg=some t):∀is,t≠.many is:=by
 intro is z
 subst z
 unfold qDs at h
 split at h
 ·split at h
  ·rename_i x _ _;cases hx:qAN N x<;>(rw [hx] at h;cases h)
  ·cases h
 ·split at h
  ·rename_i x _ y _ _ _ _;cases hx:qAN N x<;>rw [hx] at h<;>first|cases h|(cases hy:qAN N y<;>(rw [hy] at h;cases h))
  ·cases h
 ·cases h
theorem qGA (g:XG call G k X sc N) {tg:Expr}{t:Tg}(h:tgM sc N tg=some t):PG X tg (gTg X.K t):=by
 unfold tgM at h
 cases ht:qDs sc N tg with
 | some t' =>
  rw [ht] at h
  cases h
  exact qGB g ht
 | none =>
  rw [ht] at h
  cases tg with
  | Tuple es kk pos =>
   have h:(qAS (qJ4 sc N) es).map Tg.many=some t:=h
   cases hx:qAS (qJ4 sc N) es with
   | none=>rw [hx] at h;cases h
   | some is =>
    rw [hx] at h
    cases h
    obtain⟨q1,q2,q3⟩:=qJ3 g hx
    exact qJZ g.calm q1 q2 q3
  | _=>cases h
end
noncomputable def qL3 (K:PySem.W.Frag) (J:It) (H:Hp) (F:Fz) (its:List D):Prop:=∀H' F',Keep H F H' F'->(∀a,H' a=none->¬F' a) ->
 (∀i d,its[i]?=some d->J.go i H'/\∀x H3,J.yld i H' x H3->∃F3,Gr H' F' H3 F3/\RD K H3 F3 d x)/\J.stop its.length H'
theorem qLA {K:PySem.W.Frag}{H:Hp}{F:Fz}{a:Addr}{ds:List D}{vs:List V}(h:LsR K H F a vs) (r:RDs K H F ds vs):qL3 K (Itl K a) H F ds:=by
 intro H' F' k dom
 have h':LsR K H' F' a vs:=h.elim (λz=>.inl (k.lsts _ _ z.1 z.2)) .inr
 have r':=RDs.mono k r
 have hl:=RDs.length r'
 refine⟨λi d hd=>?_,⟨vs,h'.sq,by omega⟩⟩
 obtain⟨v,e1,e2⟩:=RDs.get r' hd
 refine⟨⟨vs,v,h'.sq,e1⟩,λx H3 y=>?_⟩
 obtain⟨rfl,y⟩:=y
 have:=y vs h'.sq
 rw [e1] at this
 cases this
 exact⟨F',Gr.refl dom,e2⟩
theorem qND {K:PySem.W.Frag}{H:Hp}{F:Fz}{a:Addr}{ds:List D}{vs:List V}(h:SqT K H a vs) (r:RDs K H F ds vs):qL3 K (Itt K a) H F ds:=by
 intro H' F' k dom
 have h':SqT K H' a vs:=h.elim (λz=>.inl (k.tups _ _ z)) .inr
 have r':=RDs.mono k r
 have hl:=RDs.length r'
 refine⟨λi d hd=>?_,⟨vs,h',by omega⟩⟩
 obtain⟨v,e1,e2⟩:=RDs.get r' hd
 refine⟨⟨vs,v,h',e1⟩,λx H3 y=>?_⟩
 obtain⟨rfl,y⟩:=y
 have:=y vs h'
 rw [e1] at this
 cases this
 exact⟨F',Gr.refl dom,e2⟩
theorem qNE {K:PySem.W.Frag}{H:Hp}{F:Fz}(lo:Int) (n:Nat):qL3 K (Itr lo n) H F ((List.range n).map λi=>.int (lo+(i:Nat))):=by
 intro H' F' k dom
 refine⟨λi d hd=>?_,?_⟩
 ·rw [List.getElem?_map] at hd
  cases q:(List.range n)[i]? with
  | none=>rw [q] at hd;cases hd
  | some j =>
   rw [q] at hd
   obtain⟨hl,ej⟩:=List.getElem?_eq_some_iff.mp q
   simp at hl ej
   subst ej
   cases hd
   refine⟨hl,λx H3 y=>?_⟩
   obtain⟨rfl,rfl⟩:=y
   exact⟨F',Gr.refl dom,rfl⟩
 ·show n<=_
  simp
theorem qHg {K:PySem.W.Frag}{H:Hp}{F:Fz}(lo st:Int) (n:Nat):qL3 K (Its lo st n) H F ((List.range n).map λi=>.int (lo+(i:Nat) * st)):=by
 intro H' F' k dom
 refine⟨λi d hd=>?_,?_⟩
 ·rw [List.getElem?_map] at hd
  cases q:(List.range n)[i]? with
  | none=>rw [q] at hd;cases hd
  | some j =>
   rw [q] at hd
   obtain⟨hl,ej⟩:=List.getElem?_eq_some_iff.mp q
   simp at hl ej
   subst ej
   cases hd
   refine⟨hl,λx H3 y=>?_⟩
   obtain⟨rfl,rfl⟩:=y
   exact⟨F',Gr.refl dom,rfl⟩
 ·show n<=_
  simp
end Dw
namespace Dw
open PySem PySem.Spec PyProof.Rows L2
section
variable {prog:Program}{w:World}{A:Around}{E:Value->Shared->Prop}{s:Shared}
noncomputable def SqH:Bool->Heap->Addr->Array Value->Prop
 | true,h,t,its=>h.IsList t its
 | false,h,t,its=>h.IsTuple t its
noncomputable def SqI:Bool->Heap->Addr->Addr->Nat->Prop
 | true,h,p,t,k=>h.IsListIter p t k
 | false,h,p,t,k=>h.IsTupleIter p t k
theorem SqI.extBut {kd:Bool}{h h':Heap}{a b t:Addr}{i:Nat}(x:SqI kd h a t i) (hs:Heap.ExtBut b h h') (hab:a≠b):SqI kd h' a t i:=by
 cases kd with
 | true=>exact Heap.IsListIter.extBut x hs hab
 | false=>exact Heap.IsTupleIter.extBut x hs hab
theorem SqI.at {kd:Bool}{h h':Heap}{a t:Addr}{i:Nat}(x:SqI kd h a t i) (e:∀o,h.get? a=some o->h'.get? a=some o):SqI kd h' a t i:=by
 cases kd with
 | true=>exact Heap.IsListIter.at x e
 | false=>exact Heap.IsTupleIter.at x e
theorem SqH.but {kd:Bool}{h h':Heap}{p t:Addr}{its:Array Value}(ht:SqH kd h t its) (hs:Heap.SameBut p h h') (ne:t≠p):SqH kd h' t its:=by
 cases kd with
 | true=>exact Heap.IsList.extBut ht hs.extBut ne
 | false=>exact Heap.IsTuple.extBut ht hs.extBut ne
structure Zp (z a b i j:Addr):Prop where
 az:a≠z
 bz:b≠z
 iz:i≠z
 jz:j≠z
 ab:a≠b
 ai:a≠i
 aj:a≠j
 bi:b≠i
 bj:b≠j
 ij:i≠j
structure Zs (kd ke:Bool) (h:Heap) (z a b i j t u:Addr) (k:Nat):Prop where
 hz:IsZip h z a b .none
 ha:IsPair h a (.ref i) (.ref j)
 hb:∃x y,IsPair h b x y
 hi:SqI kd h i t k
 hj:SqI ke h j u k
end
end Dw
namespace Dw
open PySem PySem.Spec PyProof.Rows L2
section
variable {X:Cx}{pins:List (Addr×Obj)}{σ:L2.St}{H:Hp}{s:Shared}{h':Heap}{fp:List Addr}
end
noncomputable def SqK:Bool->PySem.W.Frag->Hp->Addr->List V->Prop
 | true,K,H,a,xs=>SqL K H a xs
 | false,K,H,a,xs=>SqT K H a xs
section
variable {X:Cx}{pins:List (Addr×Obj)}{σ:L2.St}{H:Hp}{s:Shared}{fp:List Addr}{a:Addr}{xs ys:List V}{kd:Bool}
theorem SqK.its (I:Inv X pins σ H s) (h:SqK kd X.K H a xs):∃its,Vals xs its/\SqH kd s.heap a its.toArray/\xs.length<=sizeLine:=by
 cases kd with
 | true=>obtain⟨its,r,p,z⟩:=I.list h;exact⟨its,r,p.isList,z⟩
 | false=>obtain⟨its,r,p,z⟩:=I.tuple h;exact⟨its,r,p,z⟩
theorem SqK.inj (I:Inv X pins σ H s) (h:SqK kd X.K H a xs) (h':SqK kd X.K H a ys):xs=ys:=by
 cases kd with
 | true=>exact I.list_inj h h'
 | false=>exact I.tuple_inj h h'
end
noncomputable def SqF:Bool->PySem.W.Frag->Hp->Fz->Addr->List V->Prop
 | true,K,H,F,a,xs=>LsR K H F a xs
 | false,K,H,_,a,xs=>SqT K H a xs
theorem SqF.keep {kd:Bool}{K:PySem.W.Frag}{H H':Hp}{F F':Fz}{a:Addr}{xs:List V}(h:SqF kd K H F a xs) (k:Keep H F H' F'):SqK kd K H' a xs:=by
 cases kd with
 | true=>exact LsR.sq (h.elim (λz=>.inl (k.lsts _ _ z.1 z.2)) .inr)
 | false=>exact h.elim (λz=>.inl (k.tups _ _ z)) .inr
section
variable {prog:Program}{w:World}{A:Around}{E:Value->Shared->Prop}{s:Shared}
end
section
variable {X:Cx}
end
end Dw
namespace Dw
open PySem PySem.Spec PyProof.Rows L2
section
open AutoSeq1 (wpAny_loadPart')
end
structure Es (kd:Bool) (h:Heap) (e i t:Addr) (k:Nat):Prop where
 he:∃old,IsEnum h e i ((k:Nat):Int) old
 hi:SqI kd h i t k
section
variable {prog:Program}{w:World}{A:Around}{E:Value->Shared->Prop}{s:Shared}
theorem SqH.at {kd:Bool}{h h':Heap}{t:Addr}{its:Array Value}(x:SqH kd h t its) (e:∀o,h.get? t=some o->h'.get? t=some o):SqH kd h' t its:=by
 cases kd with
 | true=>obtain⟨o,a,b⟩:=x;exact⟨o,e _ a,b⟩
 | false=>obtain⟨o,a,b⟩:=x;exact⟨o,e _ a,b⟩
end
section
variable {X:Cx}
end
end Dw
namespace Dw
open PySem PySem.Spec PyProof.Rows L2
noncomputable def qEx (env:Env):List (Str×NameKind)->List (Str×Addr)->List (Str×Addr)
 | [],acc=>acc
 | (n,k)::r,acc=>qEx env r (if k == .free then (n,(env.cells.lookup n).getD 0)::acc else acc)
theorem qHS (env:Env):∀(l:List (Str×NameKind)) (acc:List (Str×Addr)),(∀y∈l,y.2=.free->∃c,env.cells.lookup y.1=some c) ->
  (do
   let mut cs:=acc
   for (name,kind) in l do
    if kind == .free then cs:=(name,<-cellOf env name)::cs
   return cs:Sem (List (Str×Addr)))=pure (qEx env l acc)
 | [],acc,_=>rfl
 | (n,k)::r,acc,h=>by
  have ih:=λa=>qHS env r a λy hy=>h y (List.mem_cons_of_mem _ hy)
  simp only [List.forIn_cons]
  cases hk:k == NameKind.free with
  | true =>
   obtain⟨c,hc⟩:=h (n,k) List.mem_cons_self (by simpa using hk)
   have e:cellOf env n=pure c:=by unfold cellOf;rw [hc]
   simp only [if_true]
   rw [e]
   have:=ih ((n,c)::acc)
   simp only [qEx,hk,if_true,hc,Option.getD_some]
   exact this
  | false =>
   simp only [qEx,hk,Bool.false_eq_true,if_false]
   exact ih acc
theorem qHR (sc:Scope) (env:Env) (h:∀y∈sc.names,y.2=.free->∃c,env.cells.lookup y.1=some c):closureFor sc env=pure (qEx env sc.names []):=qHS env sc.names [] h
theorem qEw (env:Env):∀(l:List (Str×NameKind)) (acc:List (Str×Addr)) (x:Str) (c:Addr),(qEx env l acc).lookup x=some c->acc.lookup x=some c∨((x,NameKind.free)∈l/\c=(env.cells.lookup x).getD 0)
 | [],acc,x,c,h=>.inl h
 | (n,k)::r,acc,x,c,h=>by
  rcases qEw env r _ x c h with q|q
  ·split at q
   ·rename_i hk
    rw [List.lookup_cons] at q
    split at q
    ·rename_i hx
     have e1:x=n:=by simpa using hx
     have e2:k=.free:=by simpa using hk
     subst e1 e2
     cases q
     exact .inr ⟨List.mem_cons_self,rfl⟩
    ·exact .inl q
   ·exact .inl q
  ·exact .inr ⟨List.mem_cons_of_mem _ q.1,q.2⟩
theorem qC8 (env:Env):∀(l:List (Str×NameKind)) (acc:List (Str×Addr)) (x:Str),((x,NameKind.free)∈l∨(acc.lookup x).isSome=true)->∃c,(qEx env l acc).lookup x=some c
 | [],acc,x,h=>by
  rcases h with h|h
  ·cases h
  ·exact Option.isSome_iff_exists.mp h
 | (n,k)::r,acc,x,h=>by
  refine qC8 env r _ x ?_
  rcases h with h|h
  ·rcases List.mem_cons.mp h with e|e
   ·cases e
    exact .inr (by simp)
   ·exact .inl e
  ·refine .inr ?_
   split
   ·rw [List.lookup_cons]
    split
    ·rfl
    ·exact h
   ·exact h
theorem qEv {env:Env}{sc:Scope}{x:Str}{c:Addr}(h:∀y∈sc.names,y.2=.free->∃c,env.cells.lookup y.1=some c) (e:(qEx env sc.names []).lookup x=some c):env.cells.lookup x=some c:=by
 rcases qEw env _ _ x c e with q|⟨q1,q2⟩
 ·cases q
 ·obtain⟨c',hc⟩:=h _ q1 rfl
  have hc':env.cells.lookup x=some c':=hc
  rw [q2,hc']
  rfl
theorem qCp {env:Env}:∀{names:List (Str×NameKind)}{x:Str},
  (names.map λ(n,k)=>if (k == NameKind.free&&env.scope.kind == .function&&env.kindOf n == some .cell) then (n,NameKind.cell) else (n,k)).lookup x =
   (names.lookup x).map λk=>if (k == NameKind.free&&env.scope.kind == .function&&env.kindOf x == some .cell) then NameKind.cell else k
 | [],x=>rfl
 | (n,k)::r,x=>by
  have ih:=@qCp env r x
  show List.lookup x ((if (k == NameKind.free&&env.scope.kind == .function&&env.kindOf n == some .cell)=true then (n,NameKind.cell) else (n,k))::_)=_
  cases hx:x == n with
  | true =>
   have e:x=n:=by simpa using hx
   subst e
   cases hc:(k == NameKind.free&&env.scope.kind == .function&&env.kindOf x == some .cell)<;>simp only [List.lookup_cons,hc,beq_self_eq_true,if_true,Bool.false_eq_true,if_false,Option.map_some]
  | false =>
   cases hc:(k == NameKind.free&&env.scope.kind == .function&&env.kindOf n == some .cell)<;>(simp only [List.lookup_cons,hx,if_true,Bool.false_eq_true,if_false];exact ih)
theorem qDA (sc:Scope) (env:Env) (x:Str):(relabel sc env).names.lookup x=(sc.names.lookup x).map λk=>if (k == NameKind.free&&env.scope.kind == .function&&env.kindOf x == some .cell) then NameKind.cell else k:=qCp
theorem qDB {sc:Scope}{env:Env}{x:Str}(h:sc.names.lookup x=some .local):(relabel sc env).names.lookup x=some .local:=by
 rw [qDA,h];rfl
theorem qKV {sc:Scope}{env:Env}{x:Str}(h:sc.names.lookup x=some .globalImplicit):(relabel sc env).names.lookup x=some .globalImplicit:=by
 rw [qDA,h];rfl
theorem qER {sc:Scope}{env:Env}{x:Str}(h:sc.names.lookup x=some .free):(relabel sc env).names.lookup x=some .cell∨(relabel sc env).names.lookup x=some .free:=by
 rw [qDA,h]
 simp only [Option.map_some]
 split
 ·exact .inl rfl
 ·exact .inr rfl
theorem qKW {sc:Scope}{env:Env}{x:Str}(hc:∀y∈sc.names,y.2≠.cell) (h:(relabel sc env).names.lookup x=some .cell∨(relabel sc env).names.lookup x=some .free):sc.names.lookup x=some .free:=by
 rw [qDA] at h
 cases hx:sc.names.lookup x with
 | none=>rw [hx] at h;rcases h with h|h<;>cases h
 | some k =>
  rw [hx] at h
  simp only [Option.map_some,Option.some.injEq] at h
  cases k with
  | free=>rfl
  | cell=>exact absurd rfl (hc _ (PySem.mem_of_lookup hx))
  | _=>rcases h with h|h<;>(split at h<;>first|(cases h;done)|(rename_i q;exfalso;revert q;simp;done))
noncomputable def qCh (X:Cx) (sc:Scope) (N:List Str) (C:Addr) (s:Shared) (H:Hp) (fp:List Addr):Cx where
 prog:=X.prog
 w:=X.w
 K:=X.K
 mg:=X.mg
 base:=X.base
 A:=X.A
 N:=N
 s₀:=s
 H₀:=H
 env:=compEnvC sc (qEx X.env sc.names []) C X.env
 outer:=X.stack
 stack:=X.stack
 ex:=fp
 calm:=X.calm
 fn:=λ_=>false
 pn:=[]
 xe:=λ_ _=>False
section
variable {call:Nat->List D->Option R}{G:Gx}{k:Nat}{X:Cx}{sc sc':Scope}{N:List Str}
structure ScOk (sc:Scope):Prop where
 kind:sc.kind=.function
 cell:∀y∈sc.names,y.2≠.cell
 nd:(sc.names.map (·.1)).Nodup
 pl:∀x∈qAO sc++qAu sc,qAM x=true
theorem qCw (h:qDz sc=true):ScOk sc:=by
 unfold qDz at h
 simp only [Bool.and_eq_true,beq_iff_eq,List.all_eq_true,bne_iff_ne,ne_eq,decide_eq_true_eq] at h
 obtain⟨⟨⟨h1,h2⟩,h3⟩,h4⟩:=h
 exact⟨h1,h2,h3,h4⟩
theorem qBT {l:List (Str×NameKind)}(nd:(l.map (·.1)).Nodup) {x:Str}{k:NameKind}(h:(x,k)∈l):l.lookup x=some k:=by
 induction l with
 | nil=>cases h
 | cons p r ih =>
  obtain⟨n,k'⟩:=p
  simp only [List.map_cons,List.nodup_cons] at nd
  rcases List.mem_cons.mp h with e|e
  ·cases e
   simp [List.lookup_cons]
  ·have hne:(x == n)=false:=by
    rw [beq_eq_false_iff_ne]
    intro z
    subst z
    exact nd.1 (List.mem_map.mpr ⟨_,e,rfl⟩)
   rw [List.lookup_cons,hne]
   exact ih nd.2 e
theorem own_mem {x:Str}:x∈qAO sc↔(x,NameKind.local)∈sc.names/\x≠Str.ofString ".0":=by
 unfold qAO
 simp only [List.mem_map,List.mem_filter,Bool.and_eq_true,beq_iff_eq,bne_iff_ne,ne_eq]
 constructor
 ·rintro⟨⟨n,k⟩,⟨h1,h2,h3⟩,rfl⟩
  have h2:k=.local:=h2
  subst h2
  exact⟨h1,h3⟩
 ·rintro⟨h1,h2⟩
  exact⟨_,⟨h1,rfl,h2⟩,rfl⟩
theorem free_mem {x:Str}:x∈qAu sc↔(x,NameKind.free)∈sc.names:=by
 unfold qAu
 simp only [List.mem_map,List.mem_filter,beq_iff_eq]
 constructor
 ·rintro⟨⟨n,k⟩,⟨h1,h2⟩,rfl⟩
  have h2:k=.free:=h2
  subst h2
  exact h1
 ·intro h
  exact⟨_,⟨h,rfl⟩,rfl⟩
theorem qGw {p:(Str×NameKind)->Bool}(nd:(sc.names.map (·.1)).Nodup):((sc.names.filter p).map (·.1)).Nodup:=nd.sublist ((List.filter_sublist).map _)
theorem qI2 (S:ScOk sc):(qAO sc++qAu sc).Nodup:=by
 rw [List.nodup_append]
 refine⟨qGw S.nd,qGw S.nd,λx hx y hy e=>?_⟩
 subst e
 have h1:=qBT S.nd (own_mem.mp hx).1
 have h2:=qBT S.nd (free_mem.mp hy)
 rw [h1] at h2
 cases h2
end
end Dw
namespace Dw
open PySem PySem.Spec PyProof.Rows L2
section
variable {call:Nat->List D->Option R}{G:Gx}{k:Nat}{X:Cx}{sc sc':Scope}{N:List Str}
noncomputable def qJF (X:Cx) (sc':Scope):Prop:=∀x,(x,NameKind.free)∈sc'.names->X.env.kindOf x=some .cell∨X.env.kindOf x=some .free
theorem qBC (ok:X.Ok) (h:qJF X sc'):∀y∈sc'.names,y.2=.free->∃c,X.env.cells.lookup y.1=some c:=λy hy e=>by
 obtain⟨x,kk⟩:=y
 have e:kk=.free:=e
 subst e
 exact ok.has x (h x hy)
theorem qPg {pins:List (Addr×Obj)}{σ:L2.St}{H:Hp}{s:Shared}{fp:List Addr}{N':List Str}(I:Inv X pins σ H s) (S:ScOk sc') (T:qJF X sc') (hf:∀b∈fp,qFL X pins H b) (hl:∀b∈fp,b<s.heap.objs.size) :
  (qCh X sc' N' s.heap.objs.size s H fp).Ok:=by
 have hc:=qBC I.ok T
 refine⟨I.ok.mod,S.kind,I.ok.glob,I.ok.blt,Nat.le_refl _,λx y c h1 h2=>?_,λx h=>?_,λx c h=>?_,I.ok.hd,I.ok.frames,.inl rfl,λb hb=>⟨Nat.ne_of_lt (hl b hb),λx c e=>?_⟩,I.bs,Nat.le_trans I.ok.bsz I.sz,λb o e hb=>?_,λb hb hs=>?_,I.stack,I.stkFree⟩
 ·exact I.ok.inj x y c (qEv hc h1) (qEv hc h2)
 ·have hx:=qKW S.cell h
  exact qC8 X.env _ _ x (.inl (PySem.mem_of_lookup hx))
 ·exact absurd h (by intro z;cases z)
 ·exact (hf b hb).2.2.2.2.1 x c (qEv hc e)
 ·rcases (hf b hb).2.2.2.1 with q|q
  ·exact I.ok.noex b o e q
  ·exact absurd (Nat.lt_of_lt_of_le (Heap.lt_size (I.ok.bs b o e).1) q) (Nat.lt_irrefl _)
 ·rcases List.mem_cons.mp (I.stkSub b hs) with e|e
  ·exact (hf b hb).2.1 e
  ·exact (hf b hb).2.2.1 e
theorem qFD {pins:List (Addr×Obj)}{σ:L2.St}{H:Hp}{s:Shared}{fp:List Addr}{N':List Str}{h':Heap}{t':Nat}{m:Str->Option Value}(I:Inv X pins σ H s) (S:ScOk sc') (T:qJF X sc') (hf:∀b∈fp,qFL X pins H b) (hl:∀b∈fp,b<s.heap.objs.size)
  (kp:∀b o,s.heap.get? b=some o->h'.get? b=some o) (hn:h'.Ns s.heap.objs.size m) (τ:L2.St) (hlen:τ.length=N'.length)
  (hv:∀(i:Nat) (x:Str) (v:V),N'[i]?=some x->τ[i]?=some (some v)->(x,NameKind.free)∈sc'.names/\∃j:Nat,X.N[j]?=some x/\σ[j]?=some (some v)) (hvis:∀x,(x,NameKind.free)∈sc'.names->Vis X.env.scope x) :
  Inv (qCh X sc' N' s.heap.objs.size s H fp) (X.pn++pins) τ H { s with heap:=h',toks:=t' }:=by
 have hc:=qBC I.ok T
 refine⟨qPg I S T hf hl,rfl,I.bare,Un.kept kp,⟨m,hn,λi x v e1 e2 e3=>?_⟩,λx c e=>?_,I.hok.fresh (Nat.le_refl _),λx c e=>I.freeC x c (qEv hc e),λp hp=>?_,I.hok.kept kp,hlen⟩
 ·obtain⟨hx,j,q1,q2⟩:=hv i x v e1 e2
  obtain⟨m0,hm0,hl0⟩:=I.loc
  obtain⟨u,r,l⟩:=hl0 j x v q1 q2 (hvis x hx)
  refine⟨u,r,.inr ⟨?_,?_⟩⟩
  ·exact qER (qBT S.nd hx)
  ·obtain⟨c,ec⟩:=qC8 X.env _ [] x (.inl hx)
   refine⟨c,ec,?_⟩
   have ec':=qEv hc ec
   rcases l with ⟨hk,_⟩|⟨hk,c',hc',hcell⟩
   ·rcases T x hx with z|z<;>(rw [hk] at z;cases z)
   ·rw [ec'] at hc'
    cases hc'
    obtain⟨o,ho,hd⟩:=hcell
    exact⟨o,kp c o ho,hd⟩
 ·obtain⟨v,o,ho,hd⟩:=I.cell x c (qEv hc e)
  exact⟨v,o,kp c o ho,hd⟩
 ·have hp':p∈X.pn++pins:=hp
  obtain⟨e,n,ne,nf,d⟩:=I.pin p hp'
  refine⟨kp _ _ e,n,Nat.ne_of_lt (Heap.lt_size e),λhs=>?_,d⟩
  rcases List.mem_cons.mp (I.stkSub p.1 hs) with z|z
  ·exact ne z
  ·exact nf z
theorem qNV (g:XG call G k X sc N) (S:ScOk sc') {C:Addr}{s:Shared}{H:Hp}{fp:List Addr}:XG call G k (qCh X sc' (qAO sc'++qAu sc') C s H fp) sc' (qAO sc'++qAu sc'):=by
 refine⟨rfl,qI2 S,λx h=>?_,λx h=>?_,λx h=>?_,λx h=>?_,g.calm,rfl,g.room,λf i h=>?_,g.blt,g.cons,λu hu=>?_,λu hu=>?_,g.two,λf i h=>⟨(g.hnd f i h).ex⟩,g.isa⟩
 ·unfold qL5 at h
  simp only [Bool.or_eq_true,beq_iff_eq] at h
  rcases h with (h|h)|h
  ·exact .inl (qDB h)
  ·exact absurd rfl (S.cell _ (PySem.mem_of_lookup h))
  ·rcases qER (env:=X.env) h with q|q
   ·exact .inr (.inl q)
   ·exact .inr (.inr q)
 ·simp only [Bool.or_eq_true,beq_iff_eq] at h
  rcases h with h|h
  ·exact⟨.inl (qDB h),.inr (qDB h)⟩
  ·exact absurd rfl (S.cell _ (PySem.mem_of_lookup h))
 ·unfold glB at h
  rw [beq_iff_eq] at h
  exact qKV h
 ·unfold qL9 at h
  simp only [Bool.or_eq_true,beq_iff_eq] at h
  rcases h with h|h
  ·exact absurd rfl (S.cell _ (PySem.mem_of_lookup h))
  ·exact qER h
 ·obtain⟨a,fd,ps,h1,h2,h3,h4,h5⟩:=(g.defs f i h).ex
  exact⟨a,fd,ps,h1,h2,h3,h4,h5⟩
 ·obtain⟨a,fd,ps,gg,gV,h1,h2,h3,h4,h5,h6,h7⟩:=(g.ucal u hu).ex
  exact⟨a,fd,ps,gg,gV,h1,h2,h3,h4,h5,h6,h7⟩
 ·exact⟨(g.meth u hu).ex⟩
end
end Dw
namespace Dw
open PySem PySem.Spec PyProof.Rows L2
section
variable {call:Nat->List D->Option R}{G:Gx}{k:Nat}{X:Cx}{sc sc':Scope}{N:List Str}
variable (X) in
noncomputable def qGg (tg iter:Expr) (b:Bool) (src:En->Option (List D)):Prop:=∃wi:TI,PI X tg iter wi/\∀(Ge:Gp) (H:Hp) (F:Fz) (σ:En) (τ:L2.St) (its:List D) (Rr:It->Hp->Prop),src σ=some its->SR X.K Ge H F σ τ ->
 (∀J H' F',Gr H F H' F'->qL3 X.K J H' F' its->(b=true->its.length<=lim)->Rr J H')->wi τ H Rr
noncomputable def qP7 (K:PySem.W.Frag) (tl:TE):TI:=fun σ H R=>tl σ H λx H1=>∃a xs,x=.ref a/\((SqL K H1 a xs/\(xs.length<=sizeLine->R (Itl K a) H1))∨(SqT K H1 a xs/\(xs.length<=sizeLine->R (Itt K a) H1)))
theorem qJY {tg l:Expr}{tl:TE}(hl:PE X l tl):PI X tg l (qP7 X.K tl):=by
 intro pins s σ H R I h
 refine thn (hl pins s σ H _ I h) λv s1 ⟨x,H1,I1,r1,a,xs,e,q⟩=>?_
 subst e;cases r1
 have hf:∀b∈[s1.heap.objs.size],qFL X pins H1 b:=λb hb=>by
  have e:b=s1.heap.objs.size:=by simpa using hb
  subst e;exact I1.fpOk (Nat.le_refl _) (I1.hok.fresh (Nat.le_refl _))
 rcases q with ⟨hq,q⟩|⟨hq,q⟩
 ·obtain⟨its,rv,p,hz⟩:=I1.list hq
  exact wpAny_pyIter_list p.isList ⟨s1.heap.objs.size,[s1.heap.objs.size],_,_,H1,rfl,I1.kept (t':=s1.toks) λb o e=>Heap.get?_push_of_some _ e,qGr a _,⟨_,Heap.get?_push_size _ rfl,rfl,rfl⟩,hf,q hz⟩
 ·obtain⟨its,rv,p,hz⟩:=I1.tuple hq
  exact wpAny_pyIter_tuple (show s1.heap.IsTuple a its.toArray from p) ⟨s1.heap.objs.size,[s1.heap.objs.size],_,_,H1,rfl,I1.kept (t':=s1.toks) λb o e=>Heap.get?_push_of_some _ e,qFP a _,⟨_,Heap.get?_push_size _ rfl,rfl,rfl⟩,hf,q hz⟩
theorem qKE {tg l:Expr}{c:C}(h:SndE call X l c):qGg X tg l true (fun σ=>(evE call σ c).bind λx=>qDy x.2):=by
 obtain⟨t,p,q⟩:=h
 refine⟨_,qJY p,λGe H F σ τ its Rr hs hr kk=>?_⟩
 obtain⟨r,e1,e2⟩:=qAa hs
 refine q Ge H F σ τ r _ e1 hr λv H1 F1 g rr=>?_
 obtain⟨F2,g2,rd⟩:=rr.fz g
 obtain⟨b,d⟩:=r
 cases d with
 | lst ds =>
  cases e2
  obtain⟨a,vs,rfl,hl,hrd⟩:=rd
  exact⟨a,vs,rfl,.inl ⟨hl.sq,λz=>kk _ H1 F2 g2 (qLA hl hrd) λ_=>by rw [<-RDs.length hrd];exact z⟩⟩
 | tup ds =>
  cases e2
  obtain⟨a,vs,rfl,hl,hrd⟩:=rd
  exact⟨a,vs,rfl,.inr ⟨hl,λz=>kk _ H1 F2 g2 (qND hl hrd) λ_=>by rw [<-RDs.length hrd];exact z⟩⟩
 | _=>cases e2
theorem qCA:∀{cs:List C}{σ:En}{ds:List D},qCj call σ cs=some ds->ds.length=cs.length
 | [],_,_,h=>by cases h;rfl
 | c::cr,σ,ds,h=>by
  obtain⟨x,e1,e2⟩:=qAa (by simpa only [qC2] using h)
  obtain⟨xs,e3,e4⟩:=qAa e2
  cases e4
  simp [qCA e3]
theorem qKF {tg:Expr}{x:Str}{rs:List Expr}{cs:List C}{p pos:Pos}(hx:x=Str.ofString "range") (hg:Gl X x) (hm:X.mg x=none) (hn:rs.all qBg=true) (hl:rs.length=1∨rs.length=2∨rs.length=3) (hcl:cs.length=rs.length) (h:qEJ call X rs cs) :
  qGg X tg (.Call (.Name x p) rs [] pos) false (fun σ=>(qCj call σ cs).bind qEQ):=by
 subst hx
 obtain⟨t,pt,q⟩:=h
 match rs,hl,hn,hcl,pt with
 | [a],_,hn,hcl,pt =>
  simp only [List.all_cons,List.all_nil,Bool.and_true] at hn
  refine⟨_,qGU hg hm pt (qAB hn),λGe H F σ τ its Rr hs hr kk=>?_⟩
  obtain⟨ds,e1,e2⟩:=qAa hs
  have hlen:=qCA e1
  rw [hcl] at hlen
  refine q Ge H F σ τ ds _ e1 hr λvs H1 F1 g rr=>?_
  match ds,e2,rr,hlen with
  | [.int n],e2,rr,_ =>
   obtain⟨hc,rfl⟩:=qAy (show (if -(2^62)<=n/\n<2^62 then some ((List.range n.toNat).map λi=>D.int (i:Nat)) else none)=some its from e2)
   obtain⟨v,rfl,hv⟩:=RPs.one rr
   have e:(List.range n.toNat).map (λi:Nat=>D.int (i:Nat))=(List.range n.toNat).map λi:Nat=>D.int (0+(i:Nat)):=by simp
   exact⟨n,by rw [hv.int],hc.1,hc.2,kk _ H1 F1 g (by rw [e];exact qNE 0 n.toNat) λz=>nomatch z⟩
 | [a,b],_,hn,hcl,pt =>
  simp only [List.all_cons,List.all_nil,Bool.and_true,Bool.and_eq_true] at hn
  have s2:starEach [b] X.env=[(false,eval b X.env)]:=qAB hn.2
  have s1:starEach [a,b] X.env=[(false,eval a X.env),(false,eval b X.env)]:=(qAB hn.1).trans (by rw [s2])
  refine⟨_,qGS hg hm pt s1 s2,λGe H F σ τ its Rr hs hr kk=>?_⟩
  obtain⟨ds,e1,e2⟩:=qAa hs
  have hlen:=qCA e1
  rw [hcl] at hlen
  refine q Ge H F σ τ ds _ e1 hr λvs H1 F1 g rr=>?_
  match ds,e2,rr,hlen with
  | [.int i,.int j],e2,rr,_ =>
   cases e2
   obtain⟨v,w,rfl,hv,hw⟩:=RPs.two rr
   have e:(List.range (j - i).toNat).map (λk:Nat=>D.int (i+(k:Nat)))=(List.range (j - i).toNat).map λk:Nat=>D.int (i+(k:Nat) * 1):=by
    refine List.map_congr_left λk _=>?_
    rw [Int.mul_one]
   exact⟨i,j,by rw [hv.int,hw.int],kk _ H1 F1 g (by rw [e];exact qHg i 1 (j - i).toNat) λz=>nomatch z⟩
 | [a,b,c],_,hn,hcl,pt =>
  simp only [List.all_cons,List.all_nil,Bool.and_true,Bool.and_eq_true] at hn
  have s3:starEach [c] X.env=[(false,eval c X.env)]:=qAB hn.2.2
  have s2:starEach [b,c] X.env=[(false,eval b X.env),(false,eval c X.env)]:=(qAB hn.2.1).trans (by rw [s3])
  have s1:starEach [a,b,c] X.env=[(false,eval a X.env),(false,eval b X.env),(false,eval c X.env)]:=(qAB hn.1).trans (by rw [s2])
  refine⟨_,qGT hg hm pt s1 s2,λGe H F σ τ its Rr hs hr kk=>?_⟩
  obtain⟨ds,e1,e2⟩:=qAa hs
  have hlen:=qCA e1
  rw [hcl] at hlen
  refine q Ge H F σ τ ds _ e1 hr λvs H1 F1 g rr=>?_
  match ds,e2,rr,hlen with
  | [.int i,.int j,.int k],e2,rr,_ =>
   obtain⟨hc,rfl⟩:=qAy (show (if -(2^62)<=i/\i<2^62/\-(2^62)<=j/\j<2^62/\k≠0/\k.natAbs<2^30 then some ((List.range (qFX i j k).toNat).map λn=>D.int (i+(n:Nat) * k)) else none)=some its from e2)
   obtain⟨v,w,x,rfl,hv,hw,hx⟩:=RPs.three rr
   exact⟨i,j,k,by rw [hv.int,hw.int,hx.int],hc,kk _ H1 F1 g (qHg i k (qFX i j k).toNat) λz=>nomatch z⟩
end
end Dw
namespace Dw
open PySem PySem.Spec PyProof.Rows L2
section
variable {call:Nat->List D->Option R}{G:Gx}{k:Nat}{X:Cx}{sc sc':Scope}{N:List Str}
theorem qBi {α β:Type}{f:α->Option β}:∀{l:List α}{ks:List β},qAS f l=some ks->ks.length=l.length/\∀(i:Nat) (x:α),l[i]?=some x->∃j,ks[i]?=some j/\f x=some j
 | [],ks,h=>by cases h;exact⟨rfl,λi x e=>by simp at e⟩
 | a::r,ks,h=>by
  obtain⟨b,e1,e2⟩:=qAa (show ((f a).bind λx=>(qAS f r).bind λxs=>some (x::xs))=some ks from h)
  obtain⟨bs,e3,e4⟩:=qAa e2
  cases e4
  obtain⟨h1,h2⟩:=qBi e3
  refine⟨by simp [h1],λi x e=>?_⟩
  cases i with
  | zero=>simp at e;subst e;exact⟨b,rfl,e1⟩
  | succ i=>simp at e;obtain⟨j,q1,q2⟩:=h2 i x e;exact⟨j,by simpa using q1,q2⟩
theorem qEy {x:Str}{j:Nat}(h:qBY sc N x=some j):qL9 sc x=true/\N[j]?=some x/\qL5 sc x=true:=by
 unfold qBY at h
 split at h
 ·rename_i hc
  unfold qBh at h
  split at h
  ·rename_i hv
   rw [Bool.and_eq_true] at hv
   exact⟨hc,qA1 h,hv.1⟩
  ·cases h
 ·cases h
variable {ks:List Nat}
theorem qFg (g:XG call G k X sc N) (hk:qAS (qBY sc N) (qAu sc')=some ks):qJF X sc':=λx hx=>by
 obtain⟨i,hi⟩:=List.mem_iff_getElem?.mp (free_mem.mpr hx)
 obtain⟨j,e1,e2⟩:=(qBi hk).2 i x hi
 exact g.cap x (qEy e2).1
theorem qJK (g:XG call G k X sc N) (hk:qAS (qBY sc N) (qAu sc')=some ks):∀x,(x,NameKind.free)∈sc'.names->Vis X.env.scope x:=λx hx=>by
 obtain⟨i,hi⟩:=List.mem_iff_getElem?.mp (free_mem.mpr hx)
 obtain⟨j,e1,e2⟩:=(qBi hk).2 i x hi
 exact g.vis x (qEy e2).2.2
noncomputable def qGh (τ:L2.St) (nl:Nat) (ks:List Nat):L2.St:=List.replicate nl none++ks.map λj=>(τ[j]?).join
theorem qFe (τ:L2.St) (nl:Nat):(qGh τ nl ks).length=nl+ks.length:=by simp [qGh]
theorem qFf {τ:L2.St}{nl i:Nat}{v:V}(h:(qGh τ nl ks)[i]?=some (some v)):∃m j,i=nl+m/\ks[m]?=some j/\τ[j]?=some (some v):=by
 unfold qGh at h
 by_cases hi:i<nl
 ·rw [List.getElem?_append_left (by simpa using hi),List.getElem?_replicate] at h
  split at h<;>cases h
 ·rw [List.getElem?_append_right (by simpa using hi),List.getElem?_map] at h
  simp only [List.length_replicate] at h
  cases q:ks[i - nl]? with
  | none=>rw [q] at h;cases h
  | some j =>
   rw [q] at h
   refine⟨i - nl,j,by omega,q,?_⟩
   simp only [Option.map_some,Option.some.injEq] at h
   cases q2:τ[j]? with
   | none=>rw [q2] at h;cases h
   | some o=>rw [q2] at h;simpa using h
theorem qB5 {τ:L2.St}{nl m j:Nat}{v:V}(h1:ks[m]?=some j) (h2:τ[j]?=some (some v)):(qGh τ nl ks)[nl+m]?=some (some v):=by
 unfold qGh
 rw [List.getElem?_append_right (by simp),List.getElem?_map]
 simp [h1,h2]
theorem qBu {σ:En}{nl i:Nat}{r:R}(h:qAf (qBj σ nl ks) i=some r):∃m j,i=nl+m/\ks[m]?=some j/\qAf σ j=some r:=by
 unfold qAf qBj at h
 by_cases hi:i<nl
 ·rw [List.getElem?_append_left (by simpa using hi),List.getElem?_replicate] at h
  split at h<;>cases h
 ·rw [List.getElem?_append_right (by simpa using hi),List.getElem?_map] at h
  simp only [List.length_replicate] at h
  cases q:ks[i - nl]? with
  | none=>rw [q] at h;cases h
  | some j =>
   rw [q] at h
   exact⟨i - nl,j,by omega,q,by simpa using h⟩
theorem qNs (S:ScOk sc') (hk:qAS (qBY sc N) (qAu sc')=some ks) {m m' j:Nat}(h1:ks[m]?=some j) (h2:ks[m']?=some j):m=m':=by
 obtain⟨hl,hg⟩:=qBi hk
 have get:∀{m:Nat},ks[m]?=some j->∃x,(qAu sc')[m]?=some x/\N[j]?=some x:=λ{m} h=>by
  obtain⟨q,_⟩:=List.getElem?_eq_some_iff.mp h
  have hx:(qAu sc')[m]?=some (qAu sc')[m]:=List.getElem?_eq_getElem (by omega)
  obtain⟨j',e1,e2⟩:=hg m _ hx
  rw [h] at e1
  cases e1
  exact⟨_,hx,(qEy e2).2.1⟩
 obtain⟨x,a1,a2⟩:=get h1
 obtain⟨y,b1,b2⟩:=get h2
 rw [a2] at b2
 cases b2
 exact qDH (qGw S.nd) a1 b1
theorem qFi (S:ScOk sc') (hk:qAS (qBY sc N) (qAu sc')=some ks) {K:PySem.W.Frag}{Ge:Gp}{H:Hp}{F:Fz}{σ:En}{τ:L2.St}(nl:Nat) (s:SR K Ge H F σ τ):SR K ⟨Ge.h,none⟩ H F (qBj σ nl ks) (qGh τ nl ks):=by
 refine⟨by simp [qBj,qGh],s.ent,s.dom,λi d e=>?_,λi d e hd=>?_,λi i' d e h1 h2 h3=>?_,λi m ks' e=>?_,λp d hp=>nomatch hp⟩
 ·obtain⟨m,j,rfl,h1,h2⟩:=qBu e
  obtain⟨v,q1,q2⟩:=s.val j d h2
  exact⟨v,qB5 h1 q1,q2⟩
 ·obtain⟨m,j,rfl,h1,h2⟩:=qBu e
  obtain⟨a,ds,vs,q1,q2,q3⟩:=s.own j d h2 hd
  exact⟨a,ds,vs,q1,qB5 h1 q2,q3⟩
 ·obtain⟨m,j,rfl,a1,a2⟩:=qBu h1
  obtain⟨m',j',rfl,b1,b2⟩:=qBu h2
  obtain⟨a,u,q2,_⟩:=s.addr a2
  obtain⟨a',u',p2,_⟩:=s.addr b2
  rw [qB5 a1 q2,qB5 b1 p2] at h3
  have:j=j':=s.sep j j' d e a2 b2 (by rw [q2,p2,Option.some.inj h3])
  subst this
  rw [qNs S hk a1 b1]
 ·obtain⟨m',j,rfl,h1,h2⟩:=qBu e
  obtain⟨a,q1,q2⟩:=s.dct j m ks' h2
  exact⟨a,qB5 h1 q1,q2⟩
theorem qJO (S:ScOk sc') {tg:Expr}{t:Tg}(h:qDs sc' (qAO sc'++qAu sc') tg=some t) (σ:En):∀i,(t=.one i∨∃j,t=.two i j∨t=.two j i)->qAf (qBj σ (qAO sc').length ks) i=none:=by
 have one:∀{x:Str} {i:Nat},(sc'.names.lookup x == some .local||sc'.names.lookup x == some .cell)=true->qAN (qAO sc'++qAu sc') x=some i->qAf (qBj σ (qAO sc').length ks) i=none:=λ{x i} hx hi=>by
  cases q:qAf (qBj σ (qAO sc').length ks) i with
  | none=>rfl
  | some r =>
   obtain⟨m,j,rfl,h1,h2⟩:=qBu q
   have hs:=qA1 hi
   rw [List.getElem?_append_right (by omega)] at hs
   have hm:=free_mem.mp (List.mem_of_getElem? hs)
   have:=qBT S.nd hm
   rw [this] at hx
   simp at hx
 unfold qDs at h
 split at h
 ·rename_i x pos
  split at h
  ·rename_i hx
   cases hi:qAN (qAO sc'++qAu sc') x with
   | none=>rw [hi] at h;cases h
   | some i =>
    rw [hi] at h
    cases h
    intro i' z
    rcases z with z|⟨j,z|z⟩<;>cases z
    exact one hx hi
  ·cases h
 ·rename_i x p y p' kk pos
  split at h
  ·rename_i hx
   rw [Bool.and_eq_true,Bool.and_eq_true] at hx
   obtain⟨⟨hx,hy⟩,hne⟩:=hx
   cases hi:qAN (qAO sc'++qAu sc') x with
   | none=>rw [hi] at h;cases h
   | some i =>
    cases hj:qAN (qAO sc'++qAu sc') y with
    | none=>rw [hi,hj] at h;cases h
    | some j =>
     rw [hi,hj] at h
     cases h
     intro i' z
     rcases z with z|⟨j',z|z⟩<;>cases z
     ·exact one hx hi
     ·exact one hy hj
  ·cases h
 ·cases h
end
end Dw
namespace Dw
open PySem PySem.Spec PyProof.Rows L2
section
variable {call:Nat->List D->Option R}{G:Gx}{k:Nat}{X:Cx}{sc sc':Scope}{N:List Str}{ks:List Nat}
structure Off (X:Cx) (pins:List (Addr×Obj)) (H:Hp) (C:Addr) (h:Heap):Prop where
 n:H C=none
 ne:C≠X.env.locals
 ab:X.s₀.heap.objs.size<=C
 cl:∀x c,X.env.cells.lookup x=some c->c≠C
 pn:∀p∈X.pn++pins,p.1≠C
 ns:∃m,h.Ns C m
theorem Off.let {pins:List (Addr×Obj)}{τ:L2.St}{H:Hp}{s:Shared}{C:Addr}{h':Heap}(o:Off X pins H C s.heap) (I:Inv X pins τ H s) (hs:Heap.SameBut C s.heap h'):Inv X pins τ H { s with heap:=h' }:=
 I.turned (t':=s.toks) (λb ob hb e=>hs.extBut b ob hb e) o.n o.ne (.inr o.ab) o.cl o.pn
theorem qFd {K:PySem.W.Frag}{Ge:Gp}{H:Hp}{F:Fz}{σ σ':En}{τ:L2.St}{t:Tg}{d:D}{v:V}(hm:∀is,t≠.many is) (s:SR K Ge H F σ τ) (hb:qBy σ t d=some σ') (hv:RD K H F d v)
  (hn:∀i,(t=.one i∨∃j,t=.two i j∨t=.two j i)->qAf σ i=none):gTg K t v τ H fun τ' H'=>H'=H/\SR K Ge H F σ' τ'/\SR K Ge H F σ τ'/\∀j,qAf σ j≠none->τ'[j]?=τ[j]?:=by
 cases t with
 | one i =>
  cases hb
  have n1:=hn i (.inl rfl)
  exact⟨rfl,s.bind hv,s.skip n1,λj hj=>List.getElem?_set_ne λz:i=j=>hj (by rw [<-z];exact n1)⟩
 | two i j =>
  unfold qBy at hb
  split at hb
  ·rename_i heq;cases heq
  ·rename_i i' j' x y heq
   cases heq
   cases hb
   obtain⟨a,vs,rfl,hs,hr⟩:=hv
   obtain⟨v1,r,rfl,h1,w,r2,e2,h2,h3⟩:=hr
   have h3:r2=[]:=h3
   subst h3
   subst e2
   have n1:=hn i (.inr ⟨j,.inl rfl⟩)
   have n2:=hn j (.inr ⟨i,.inr rfl⟩)
   exact⟨a,[v1,w],rfl,hs,rfl,v1,[w],rfl,w,[],rfl,rfl,rfl,(s.bind h1).bind h2,(s.skip n1).skip n2,λq hq=>by
    rw [List.getElem?_set_ne λz:j=q=>hq (by rw [<-z];exact n2),List.getElem?_set_ne λz:i=q=>hq (by rw [<-z];exact n1)]⟩
  ·rename_i heq;cases heq
  ·cases hb
 | many is=>exact absurd rfl (hm is)
theorem qFE (g:XG call G k X sc N) {elt tg iter:Expr}{t:Tg}{ce:C}{b:Bool}{src:En->Option (List D)}{pos p':Pos}(S:ScOk sc') (ht:qDs sc' (qAO sc'++qAu sc') tg=some t) (hk:qAS (qBY sc N) (qAu sc')=some ks)
  (he:∀X':Cx,XG call G k X' sc' (qAO sc'++qAu sc')->SndE call X' elt ce) (hi:qGg X tg iter b src) (hfs:∀x,foldedSetIterable iter X.env x=pure x)
  {pins:List (Addr×Obj)} {s:Shared} {τ:L2.St} {H:Hp} {Ge:Gp} {F:Fz} {σ:En} {its ys:List D} {use:Option (Value->Sem Unit)} {Qv:Value->Shared->Prop}
  (I:Inv X pins τ H s) (hS:SR X.K Ge H F σ τ) (hsrc:src σ=some its) (hev:qAT call ce (qBj σ (qAO sc').length ks) t its=some ys) (hlen:(b=true->its.length<=lim)->its.length<=lim)
  (hend:∀(D C:Addr) (H':Hp) (F':Fz) (s':Shared),Gr H F H' F'->RR X.K H H' F' (true,.lst ys) (.ref D)->Inv X pins τ H' s'->Off X pins H' C s'.heap->compPost (model X.prog X.w) X.A X.xe use Qv (.ref D) C (.ok .next) s') :
  wpAny (model X.prog X.w) X.A (comprehension (.ListComp elt [⟨tg,iter,[],0⟩] sc' pos) sc' X.env p' (newList []) false (eval iter X.env) use) Qv X.xe s:=by
 have T:=qFg g hk
 have hcl:=qBC I.ok T
 refine wpAny_comprehension_free (use:=use) rfl hfs (qHR sc' X.env hcl) S.kind (λx hx e=>by obtain⟨n,kk⟩:=x;have e:kk=.local:=e;subst e;exact qBT S.nd hx) ?_
 obtain⟨wi,pi,qi⟩:=hi
 refine thn (pi pins s τ H (λJ H'=>∃F',Gr H F H' F'/\qL3 X.K J H' F' its/\its.length<=lim) I (qi Ge H F σ τ its _ hsrc hS λJ H' F' g1 ok hl=>⟨F',g1,ok,hlen hl⟩)) λv s1 h1=>thn h1 λitv s2 h2=>?_
 obtain⟨it,fp,tn,J,H2,rfl,I2,Tn,st2,f2,F2,g2,ok2,hl2⟩:=h2
 refine wpAny_newObj_type (wpAny_newFunctionEnv S.cell (by intro y hy;simp at hy) (λh3 hns hsb=>?_) S.kind)
 dsimp only at hns hsb ⊢
 have hD:H2 s2.heap.objs.size=none:=I2.hok.fresh (Nat.le_refl _)
 generalize hDe:s2.heap.objs.size=Da at hns hsb hD ⊢
 have hD0:H Da=none:=g2.same.free hD
 have lt2:∀{c:Addr} {o:Obj},s2.heap.get? c=some o->c<Da:=λe=>by rw [<-hDe];exact Heap.lt_size e
 have I3:Inv X pins τ (upd H2 Da (.lst [])) { s2 with heap:=s2.heap.push { cls:=.type "list",dict:=none,data:=.seq ([]:List Value).toArray } }:=by
  subst hDe
  exact I2.laid (t':=s2.toks) (λc u e=>Heap.get?_push_of_some _ e) (Nat.le_refl _) ⟨Nat.zero_le _,[],0,.nil,Heap.get?_push_size _ rfl⟩
 generalize hHp:s2.heap.push { cls:=.type "list",dict:=none,data:=.seq ([]:List Value).toArray }=hp at hns hsb I3 ⊢
 have hCs:hp.objs.size=Da+1:=by rw [<-hHp,Heap.size_push,hDe]
 have kp:∀c o,hp.get? c=some o->h3.get? c=some o:=λc o e=>hsb.extBut c o (Nat.ne_of_lt (Heap.lt_size e)) (Heap.get?_push_of_some _ e)
 have lfp:∀c∈fp,c<Da:=λc hc=>by obtain⟨o,e,_⟩:=Tn.obj _ _ st2 c hc;exact lt2 e
 have f3:∀c∈fp,qFL X pins (upd H2 Da (.lst [])) c:=λc hc=>⟨by rw [qAl (Nat.ne_of_lt (lfp c hc))];exact (f2 c hc).1,(f2 c hc).2⟩
 have lf3:∀c∈fp,c<({ s2 with heap:=hp }:Shared).heap.objs.size:=λc hc=>by show c<hp.objs.size;rw [hCs];exact Nat.lt_succ_of_lt (lfp c hc)
 obtain⟨kl,kg⟩:=qBi hk
 have I4:Inv (qCh X sc' (qAO sc'++qAu sc') hp.objs.size { s2 with heap:=hp } (upd H2 Da (.lst [])) fp) (X.pn++pins) (qGh τ (qAO sc').length ks) (upd H2 Da (.lst [])) { s2 with heap:=h3,toks:=s2.toks+([]:List (Str×Value)).length }:=by
  refine qFD (N':=qAO sc'++qAu sc') I3 S T f3 lf3 kp hns _ (by rw [qFe,List.length_append,kl]) (λi x v e1 e2=>?_) (qJK g hk)
  obtain⟨m,j,rfl,q1,q2⟩:=qFf e2
  rw [List.getElem?_append_right (by omega)] at e1
  have e1':(qAu sc')[m]?=some x:=by rw [<-e1];congr 1;omega
  obtain⟨j',r1,r2⟩:=kg m x e1'
  rw [q1] at r1
  cases r1
  exact⟨free_mem.mp (List.mem_of_getElem? e1'),j,by rw [g.hN];exact (qEy r2).2.1,q2⟩
 have g':XG call G k (qCh X sc' (qAO sc'++qAu sc') hp.objs.size { s2 with heap:=hp } (upd H2 Da (.lst [])) fp) sc' (qAO sc'++qAu sc'):=qNV g S
 have se:=he _ g'
 have pg:=qGB g' ht
 have tow:=qJO (ks:=ks) S ht σ
 generalize hX':qCh X sc' (qAO sc'++qAu sc') hp.objs.size { s2 with heap:=hp } (upd H2 Da (.lst [])) fp=X' at I4 g' se pg
 have eP:X'.prog=X.prog:=by rw [<-hX'];rfl
 have ew:X'.w=X.w:=by rw [<-hX'];rfl
 have eK:X'.K=X.K:=by rw [<-hX'];rfl
 have eA:X'.A=X.A:=by rw [<-hX'];rfl
 have eE:X'.env=compEnvC sc' (qEx X.env sc'.names []) hp.objs.size X.env:=by rw [<-hX'];rfl
 have ex:X'.xe=λ_ _=>False:=g'.xe
 have fpX:∀{H':Hp},(∀c∈fp,H' c=none)->∀c∈fp,qFL X' (X.pn++pins) H' c:=λ{H'} hn c hc=>by
  obtain⟨a0,a1,a2,a3,a4,a5⟩:=f3 c hc
  rw [<-hX']
  refine⟨hn c hc,Nat.ne_of_lt (lf3 c hc),λhs=>?_,.inl hc,λx cc e=>a4 x cc (qEv hcl e),λp hp=>a5 p hp⟩
  rcases List.mem_cons.mp (I3.stkSub c hs) with z|z
  ·exact a1 z
  ·exact a2 z
 have loop:codeAny (model X.prog X.w) X.A (.compLoop (.ListComp elt [⟨tg,iter,[],0⟩] sc' pos) 0 (.ref it) (.ref Da) (compEnvC sc' (qEx X.env sc'.names []) hp.objs.size X.env)) (compPost (model X.prog X.w) X.A X.xe use Qv (.ref Da) hp.objs.size) { s2 with heap:=h3,toks:=s2.toks+([]:List (Str×Value)).length }:=by
  refine PySem.W.kcp_loop (λn s'=>∃(i:Nat) (τ':L2.St) (H':Hp) (F':Fz) (zs:List V),Inv X' (X.pn++pins) τ' H' s'/\tn i s'.heap/\(∀c∈fp,H' c=none)/\Gr H2 F2 H' F'/\H' Da=some (.lst zs)/\¬F' Da/\RDs X.K H' F' (ys.take i) zs/\i<=its.length/\n=its.length - i /\
   qAT call ce (qBj σ (qAO sc').length ks) t (its.drop i)=some (ys.drop i)/\zs.length=i/\SR X.K ⟨Ge.h,none⟩ H' F' (qBj σ (qAO sc').length ks) τ' /\
   ∀j d a,qAf (qBj σ (qAO sc').length ks) j=some (true,d)->τ'[j]?=some (some (.ref a))->a≠Da) ?_ its.length ?_
  ·rintro n s' ⟨i,τ',H',F',zs,I',st',fr',gr',hd',nf',rd',hi,rfl,hev',hzl,sr',nD'⟩
   have hx':∀{α:Type} {tr:Sem α} {Q1:α->Shared->Prop} {E1:Value->Shared->Prop} {s0:Shared},wpAny (model X'.prog X'.w) X'.A tr Q1 X'.xe s0->wpAny (model X.prog X.w) X.A tr Q1 E1 s0:=λ{α tr Q1 E1 s0} h=>by
    rw [eP,ew,eA,ex] at h
    exact wpAny_mono h (λ_ _ z=>z) λ_ _ z=>z.elim
   have kd:Keep H2 F2 H' F':=gr'.keep
   obtain⟨okI,okS⟩:=ok2 H' F' kd gr'.dom
   by_cases hlt:i<its.length
   ·have hdi:its[i]?=some its[i]:=List.getElem?_eq_getElem hlt
    obtain⟨go,yl⟩:=okI i _ hdi
    have hdr:its.drop i=its[i]::its.drop (i+1):=List.drop_eq_getElem_cons hlt
    rw [hdr,qC1] at hev'
    obtain⟨σ1,b1,hev'⟩:=qAa hev'
    obtain⟨y,b2,hev'⟩:=qAa hev'
    obtain⟨ys',b3,hev'⟩:=qAa hev'
    have hys:ys.drop i=y.2::ys':=(Option.some.inj hev').symm
    have ti:=Tn.item X' eP ew eK g'.calm i (X.pn++pins) s' τ' H' (notedBy (model X.prog X.w) X.A (compEnvC sc' (qEx X.env sc'.names []) hp.objs.size X.env) λe s'=>compPost (model X.prog X.w) X.A X.xe use Qv (.ref Da) hp.objs.size (.error e) s') I' (fpX fr') st' go
    rw [eA] at ti
    refine thn ti λr s4 ⟨u,hr,h4⟩=>?_
    subst hr
    refine thn h4 λ_ s5 ⟨x,H5,I5,r5,y5,st5,fr5⟩=>?_
    obtain⟨F5,g5,rd5⟩:=yl x H5 y5
    have I5':=I5.pinned (fpX fr5) (Tn.obj _ _ st5)
    have sr5:=sr'.grow g5
    rw [<-eE]
    have a6:=pg _ s5 τ' H5 x u (fun τ6 H6=>H6=H5/\SR X.K ⟨Ge.h,none⟩ H5 F5 σ1 τ6/\SR X.K ⟨Ge.h,none⟩ H5 F5 (qBj σ (qAO sc').length ks) τ6/\∀j,qAf (qBj σ (qAO sc').length ks) j≠none->τ6[j]?=τ'[j]?) I5' r5 (by
     rw [eK]
     exact qFd (qGu ht) sr5 b1 rd5 tow)
    refine hx' (thn a6 λ_ s6 ⟨τ6,H6,I6,e6,sr6,sc6,sm6⟩=>?_)
    subst e6
    obtain⟨te,pe,qe⟩:=se
    have a7:=pe _ s6 τ6 H6 (λv H7=>∃F7,Gr H6 F5 H7 F7/\RR X.K H6 H7 F7 y v) I6 (qe ⟨Ge.h,none⟩ H6 F5 σ1 τ6 y _ b2 (by rw [eK];exact sr6) λv H7 F7 g7 rr=>⟨F7,g7,by rw [<-eK];exact rr⟩)
    refine hx' (thn a7 λvv s7 ⟨v,H7,I7,r7,F7,g7,rr7⟩=>?_)
    obtain⟨F8,g8,rd8⟩:=rr7.fz g7
    have hd7:H7 Da=some (.lst zs):=g7.same _ _ (g5.same _ _ hd')
    have nf8:¬F8 Da:=λz=>by
     rcases g8.new Da z with q|q
     ·rcases g5.new Da q with q'|q'
      ·exact nf' q'
      ·rw [hd'] at q';cases q'
     ·rw [g5.same _ _ hd'] at q;cases q
    have a8:=qCN (X:=X') _ s7 τ6 H7 (.ref Da) [v] (.ref Da) [vv] (λ_ H9=>H9=upd H7 Da (.lst (zs++[v]))) I7 rfl (.cons r7 .nil) ⟨Da,zs,v,rfl,rfl,hd7,Nat.lt_of_lt_of_le (by omega) hl2,rfl⟩
    refine hx' (thn a8 λ_ s9 ⟨_,H9,I9,_,e9⟩=>?_)
    subst e9
    have k8:Keep H7 F8 (upd H7 Da (.lst (zs++[v]))) F8:=⟨λp xs h=>by
     have ne:p≠Da:=λz=>by
      subst z
      rcases h with h|⟨o,h⟩<;>(rw [hd7] at h;cases h)
     rcases h with h|⟨o,h⟩
     ·exact .inl (by rw [qAl ne];exact h)
     ·exact .inr ⟨o,by rw [qAl ne];exact h⟩,λp xs f h=>by
     have ne:p≠Da:=λz=>by subst z;exact nf8 f
     refine⟨f,?_⟩
     rcases h with h|⟨o,h⟩
     ·exact .inl (by rw [qAl ne];exact h)
     ·exact .inr ⟨o,by rw [qAl ne];exact h⟩,λp C dx fs h=>by rw [qAl (λz=>by subst z;rw [hd7] at h;cases h)];exact h⟩
    have g58:Gr H' F' H7 F8:=g5.trans g8
    have gall:Gr H2 F2 (upd H7 Da (.lst (zs++[v]))) F8:=by
     have gg:=gr'.trans g58
     refine⟨λc o e=>?_,gg.sub,gg.new,λc e=>?_⟩
     ·rw [qAl (qAL e hD)];exact gg.same c o e
     ·by_cases z:c=Da
      ·subst z;rw [qAG] at e;cases e
      ·rw [qAl z] at e;exact gg.dom c e
    refine⟨its.length - (i+1),by omega,i+1,τ6,upd H7 Da (.lst (zs++[v])),F8,zs++[v],I9.unpinned,?_,?_,gall,qAG,nf8,?_,hlt,rfl,?_,by simp [hzl],?_,λj d a h1 h2=>?_⟩
    ·exact Tn.keep _ _ _ st5 λc hc o e=>(I9.pin (c,o) (List.mem_append_right _ (List.mem_append_right _ (qAZ hc e)))).1
    ·intro c hc
     obtain⟨o,e,d⟩:=Tn.obj _ _ st5 c hc
     exact (I9.pin (c,o) (List.mem_append_right _ (List.mem_append_right _ (qAZ hc e)))).2.1
    ·have e1:ys.take (i+1)=ys.take i++[y.2]:=by
      have:ys[i]?=some y.2:=by
       have:=congrArg (λl=>l[0]?) hys
       simpa using this
      rw [List.take_add_one,this];rfl
     rw [e1]
     exact RDs.append (RDs.mono (g58.keep.trans k8) rd') ⟨v,[],rfl,RD.mono k8 rd8,rfl⟩
    ·rw [b3]
     have:ys.drop (i+1)=ys':=by
      have:=congrArg List.tail hys
      simpa using this
     rw [this]
    ·have sc8:=sc6.grow g8
     refine sc8.keep k8 ?_ gall.dom (λj d hj hd=>?_) (λj m ks' hj=>?_) (λp d hp=>nomatch hp)
     ·intro c o e
      have h7:=sc8.ent c o e
      have:c≠Da:=λz=>by
       subst z
       have:=hS.ent c o e
       rw [hD0] at this
       cases this
      rw [qAl this];exact h7
     ·obtain⟨a,ds,vs,q1,q2,q3,q4,q5,q6⟩:=sc8.own j d hj hd
      have ne:a≠Da:=nD' j d a hj (by rw [<-sm6 j (by rw [hj];simp)];exact q2)
      exact⟨a,ds,vs,q1,q2,q3,q4,by rw [qAl ne];exact q5,RDs.mono k8 q6⟩
     ·obtain⟨a,q1,q2,q3,q4⟩:=sc8.dct j m ks' hj
      have ne:a≠Da:=nD' j _ a hj (by rw [<-sm6 j (by rw [hj];simp)];exact q1)
      exact⟨a,q1,q2,by rw [qAl ne];exact q3,q4⟩
    ·exact nD' j d a h1 (by rw [<-sm6 j (by rw [h1];simp)];exact h2)
   ·have hin:i=its.length:=by omega
    subst hin
    have td:=Tn.done X' eP ew eK g'.calm its.length (X.pn++pins) s' τ' H' (notedBy (model X.prog X.w) X.A (compEnvC sc' (qEx X.env sc'.names []) hp.objs.size X.env) λe s'=>compPost (model X.prog X.w) X.A X.xe use Qv (.ref Da) hp.objs.size (.error e) s') I' (fpX fr') st' okS
    rw [eA] at td
    refine thn td λr s4 ⟨hr,I4'⟩=>?_
    subst hr
    rw [List.drop_of_length_le (Nat.le_refl _)] at hev'
    have hyl:ys.drop its.length=[]:=(Option.some.inj hev').symm
    have hyt:ys.take its.length=ys:=by
     have:=List.take_append_drop its.length ys
     rw [hyl,List.append_nil] at this
     exact this
    rw [hyt] at rd'
    have Ib:=I4'.base
    rw [<-hX'] at Ib
    have Io:Inv X pins τ H' s4:=by
     refine I3.call' (ch:=fp) (by have:=I4'.os;rw [<-hX'] at this;exact this) Ib (by have:=I4'.hok;rw [eP,ew] at this;exact this) I4'.bare λc hc=>?_
     obtain⟨a0,a1,a2,a3,a4,a5⟩:=f3 c hc
     exact⟨a3,a1,a4,a5⟩
    refine hend Da hp.objs.size H' F' s4 (g2.trans gr') ⟨Da,ys,zs,rfl,rfl,hD0,nf',hd',rd'⟩ Io ⟨?_,Nat.ne_of_gt I3.lt,I3.sz,λx c e=>?_,λp hp=>?_,?_⟩
    ·have:=I4'.free
     rw [eE] at this
     exact this
    ·obtain⟨v,q⟩:=I3.cell x c e
     exact Nat.ne_of_lt q.lt
    ·exact Nat.ne_of_lt (Heap.lt_size (I3.pin p hp).1)
    ·obtain⟨m,hm,_⟩:=I4'.loc
     rw [eE] at hm
     exact⟨m,hm⟩
  ·refine⟨0,qGh τ (qAO sc').length ks,upd H2 Da (.lst []),F2,[],I4,?_,λc hc=>(f3 c hc).1,Gr.laid g2.dom hD,qAG,g2.dom Da hD,by rw [List.take_zero];rfl,Nat.zero_le _,rfl,by simpa using hev,rfl,?_,λj d a h1 h2=>?_⟩
   ·exact Tn.keep _ _ _ st2 λc hc o e=>kp c o (by rw [<-hHp];exact Heap.get?_push_of_some _ e)
   ·exact qFi S hk _ (hS.grow (g2.trans (Gr.laid g2.dom hD)))
   ·obtain⟨m,j',rfl,q1,q2⟩:=qBu h1
    obtain⟨a',u',p2,_,p5⟩:=hS.addr q2
    rw [qB5 q1 p2] at h2
    cases h2
    exact qAL p5 hD0
 exact codeAny_compStart_list loop (Tn.self _ 0 _ _ _ (Tn.keep _ _ _ st2 λc hc o e=>kp c o (by rw [<-hHp];exact Heap.get?_push_of_some _ e)) loop)
end
end Dw
namespace Dw
open PySem PySem.Spec PyProof.Rows L2
section
variable {call:Nat->List D->Option R}{G:Gx}{k:Nat}{X:Cx}{sc sc':Scope}{N:List Str}{ks:List Nat}
theorem qEu (g:XG call G k X sc N) {elt tg iter cnd:Expr}{t:Tg}{ce cc:C}{b:Bool}{src:En->Option (List D)}{pos p':Pos}(S:ScOk sc') (ht:qDs sc' (qAO sc'++qAu sc') tg=some t) (hk:qAS (qBY sc N) (qAu sc')=some ks)
  (he:∀X':Cx,XG call G k X' sc' (qAO sc'++qAu sc')->SndE call X' elt ce) (hcn:∀X':Cx,XG call G k X' sc' (qAO sc'++qAu sc')->qDe call X' cnd cc) (hi:qGg X tg iter b src) (hfs:∀x,foldedSetIterable iter X.env x=pure x)
  {pins:List (Addr×Obj)} {s:Shared} {τ:L2.St} {H:Hp} {Ge:Gp} {F:Fz} {σ:En} {its ys:List D} {use:Option (Value->Sem Unit)} {Qv:Value->Shared->Prop}
  (I:Inv X pins τ H s) (hS:SR X.K Ge H F σ τ) (hsrc:src σ=some its) (hev:qBx call cc ce (qBj σ (qAO sc').length ks) t its=some ys) (hlen:(b=true->its.length<=lim)->its.length<=lim)
  (hend:∀(D C:Addr) (H':Hp) (F':Fz) (s':Shared),Gr H F H' F'->RR X.K H H' F' (true,.lst ys) (.ref D)->Inv X pins τ H' s'->Off X pins H' C s'.heap->compPost (model X.prog X.w) X.A X.xe use Qv (.ref D) C (.ok .next) s') :
  wpAny (model X.prog X.w) X.A (comprehension (.ListComp elt [⟨tg,iter,[cnd],0⟩] sc' pos) sc' X.env p' (newList []) false (eval iter X.env) use) Qv X.xe s:=by
 have T:=qFg g hk
 have hcl:=qBC I.ok T
 refine wpAny_comprehension_free (use:=use) rfl hfs (qHR sc' X.env hcl) S.kind (λx hx e=>by obtain⟨n,kk⟩:=x;have e:kk=.local:=e;subst e;exact qBT S.nd hx) ?_
 obtain⟨wi,pi,qi⟩:=hi
 refine thn (pi pins s τ H (λJ H'=>∃F',Gr H F H' F'/\qL3 X.K J H' F' its/\its.length<=lim) I (qi Ge H F σ τ its _ hsrc hS λJ H' F' g1 ok hl=>⟨F',g1,ok,hlen hl⟩)) λv s1 h1=>thn h1 λitv s2 h2=>?_
 obtain⟨it,fp,tn,J,H2,rfl,I2,Tn,st2,f2,F2,g2,ok2,hl2⟩:=h2
 refine wpAny_newObj_type (wpAny_newFunctionEnv S.cell (by intro y hy;simp at hy) (λh3 hns hsb=>?_) S.kind)
 dsimp only at hns hsb ⊢
 have hD:H2 s2.heap.objs.size=none:=I2.hok.fresh (Nat.le_refl _)
 generalize hDe:s2.heap.objs.size=Da at hns hsb hD ⊢
 have hD0:H Da=none:=g2.same.free hD
 have lt2:∀{c:Addr} {o:Obj},s2.heap.get? c=some o->c<Da:=λe=>by rw [<-hDe];exact Heap.lt_size e
 have I3:Inv X pins τ (upd H2 Da (.lst [])) { s2 with heap:=s2.heap.push { cls:=.type "list",dict:=none,data:=.seq ([]:List Value).toArray } }:=by
  subst hDe
  exact I2.laid (t':=s2.toks) (λc u e=>Heap.get?_push_of_some _ e) (Nat.le_refl _) ⟨Nat.zero_le _,[],0,.nil,Heap.get?_push_size _ rfl⟩
 generalize hHp:s2.heap.push { cls:=.type "list",dict:=none,data:=.seq ([]:List Value).toArray }=hp at hns hsb I3 ⊢
 have hCs:hp.objs.size=Da+1:=by rw [<-hHp,Heap.size_push,hDe]
 have kp:∀c o,hp.get? c=some o->h3.get? c=some o:=λc o e=>hsb.extBut c o (Nat.ne_of_lt (Heap.lt_size e)) (Heap.get?_push_of_some _ e)
 have lfp:∀c∈fp,c<Da:=λc hc=>by obtain⟨o,e,_⟩:=Tn.obj _ _ st2 c hc;exact lt2 e
 have f3:∀c∈fp,qFL X pins (upd H2 Da (.lst [])) c:=λc hc=>⟨by rw [qAl (Nat.ne_of_lt (lfp c hc))];exact (f2 c hc).1,(f2 c hc).2⟩
 have lf3:∀c∈fp,c<({ s2 with heap:=hp }:Shared).heap.objs.size:=λc hc=>by show c<hp.objs.size;rw [hCs];exact Nat.lt_succ_of_lt (lfp c hc)
 obtain⟨kl,kg⟩:=qBi hk
 have I4:Inv (qCh X sc' (qAO sc'++qAu sc') hp.objs.size { s2 with heap:=hp } (upd H2 Da (.lst [])) fp) (X.pn++pins) (qGh τ (qAO sc').length ks) (upd H2 Da (.lst [])) { s2 with heap:=h3,toks:=s2.toks+([]:List (Str×Value)).length }:=by
  refine qFD (N':=qAO sc'++qAu sc') I3 S T f3 lf3 kp hns _ (by rw [qFe,List.length_append,kl]) (λi x v e1 e2=>?_) (qJK g hk)
  obtain⟨m,j,rfl,q1,q2⟩:=qFf e2
  rw [List.getElem?_append_right (by omega)] at e1
  have e1':(qAu sc')[m]?=some x:=by rw [<-e1];congr 1;omega
  obtain⟨j',r1,r2⟩:=kg m x e1'
  rw [q1] at r1
  cases r1
  exact⟨free_mem.mp (List.mem_of_getElem? e1'),j,by rw [g.hN];exact (qEy r2).2.1,q2⟩
 have g':XG call G k (qCh X sc' (qAO sc'++qAu sc') hp.objs.size { s2 with heap:=hp } (upd H2 Da (.lst [])) fp) sc' (qAO sc'++qAu sc'):=qNV g S
 have se:=he _ g'
 have sn:=hcn _ g'
 have pg:=qGB g' ht
 have tow:=qJO (ks:=ks) S ht σ
 generalize hX':qCh X sc' (qAO sc'++qAu sc') hp.objs.size { s2 with heap:=hp } (upd H2 Da (.lst [])) fp=X' at I4 g' se sn pg
 have eP:X'.prog=X.prog:=by rw [<-hX'];rfl
 have ew:X'.w=X.w:=by rw [<-hX'];rfl
 have eK:X'.K=X.K:=by rw [<-hX'];rfl
 have eA:X'.A=X.A:=by rw [<-hX'];rfl
 have eE:X'.env=compEnvC sc' (qEx X.env sc'.names []) hp.objs.size X.env:=by rw [<-hX'];rfl
 have ex:X'.xe=λ_ _=>False:=g'.xe
 have fpX:∀{H':Hp},(∀c∈fp,H' c=none)->∀c∈fp,qFL X' (X.pn++pins) H' c:=λ{H'} hn c hc=>by
  obtain⟨a0,a1,a2,a3,a4,a5⟩:=f3 c hc
  rw [<-hX']
  refine⟨hn c hc,Nat.ne_of_lt (lf3 c hc),λhs=>?_,.inl hc,λx cc e=>a4 x cc (qEv hcl e),λp hp=>a5 p hp⟩
  rcases List.mem_cons.mp (I3.stkSub c hs) with z|z
  ·exact a1 z
  ·exact a2 z
 have loop:codeAny (model X.prog X.w) X.A (.compLoop (.ListComp elt [⟨tg,iter,[cnd],0⟩] sc' pos) 0 (.ref it) (.ref Da) (compEnvC sc' (qEx X.env sc'.names []) hp.objs.size X.env)) (compPost (model X.prog X.w) X.A X.xe use Qv (.ref Da) hp.objs.size) { s2 with heap:=h3,toks:=s2.toks+([]:List (Str×Value)).length }:=by
  refine PySem.W.kct_loop (λn s'=>∃(i:Nat) (τ':L2.St) (H':Hp) (F':Fz) (zs:List V) (y1 y2:List D),Inv X' (X.pn++pins) τ' H' s'/\tn i s'.heap/\(∀c∈fp,H' c=none)/\Gr H2 F2 H' F'/\H' Da=some (.lst zs)/\¬F' Da/\RDs X.K H' F' y1 zs/\i<=its.length/\n=its.length - i /\
   qBx call cc ce (qBj σ (qAO sc').length ks) t (its.drop i)=some y2/\ys=y1++y2/\zs.length<=i/\SR X.K ⟨Ge.h,none⟩ H' F' (qBj σ (qAO sc').length ks) τ' /\
   ∀j d a,qAf (qBj σ (qAO sc').length ks) j=some (true,d)->τ'[j]?=some (some (.ref a))->a≠Da) ?_ its.length ?_
  ·rintro n s' ⟨i,τ',H',F',zs,y1,y2,I',st',fr',gr',hd',nf',rd',hi,rfl,hev',hyy,hzl,sr',nD'⟩
   have hx':∀{α:Type} {tr:Sem α} {Q1:α->Shared->Prop} {E1:Value->Shared->Prop} {s0:Shared},wpAny (model X'.prog X'.w) X'.A tr Q1 X'.xe s0->wpAny (model X.prog X.w) X.A tr Q1 E1 s0:=λ{α tr Q1 E1 s0} h=>by
    rw [eP,ew,eA,ex] at h
    exact wpAny_mono h (λ_ _ z=>z) λ_ _ z=>z.elim
   have kd:Keep H2 F2 H' F':=gr'.keep
   obtain⟨okI,okS⟩:=ok2 H' F' kd gr'.dom
   by_cases hlt:i<its.length
   ·have hdi:its[i]?=some its[i]:=List.getElem?_eq_getElem hlt
    obtain⟨go,yl⟩:=okI i _ hdi
    have hdr:its.drop i=its[i]::its.drop (i+1):=List.drop_eq_getElem_cons hlt
    rw [hdr,qEt] at hev'
    obtain⟨σ1,b1,hev'⟩:=qAa hev'
    obtain⟨⟨x0,d0⟩,b0,hev'⟩:=qAa hev'
    have ti:=Tn.item X' eP ew eK g'.calm i (X.pn++pins) s' τ' H' (notedBy (model X.prog X.w) X.A (compEnvC sc' (qEx X.env sc'.names []) hp.objs.size X.env) λe s'=>compPost (model X.prog X.w) X.A X.xe use Qv (.ref Da) hp.objs.size (.error e) s') I' (fpX fr') st' go
    rw [eA] at ti
    refine thn ti λr s4 ⟨u,hr,h4⟩=>?_
    subst hr
    refine thn h4 λ_ s5 ⟨x,H5,I5,r5,y5,st5,fr5⟩=>?_
    obtain⟨F5,g5,rd5⟩:=yl x H5 y5
    have I5':=I5.pinned (fpX fr5) (Tn.obj _ _ st5)
    have sr5:=sr'.grow g5
    rw [<-eE]
    have a6:=pg _ s5 τ' H5 x u (fun τ6 H6=>H6=H5/\SR X.K ⟨Ge.h,none⟩ H5 F5 σ1 τ6/\SR X.K ⟨Ge.h,none⟩ H5 F5 (qBj σ (qAO sc').length ks) τ6/\∀j,qAf (qBj σ (qAO sc').length ks) j≠none->τ6[j]?=τ'[j]?) I5' r5 (by
     rw [eK]
     exact qFd (qGu ht) sr5 b1 rd5 tow)
    refine hx' (thn a6 λ_ s6 ⟨τ6,H6,I6,e6,sr6,sc6,sm6⟩=>?_)
    subst e6
    obtain⟨b00,rfl⟩:∃b00,d0=.bl b00:=by cases d0<;>first|exact⟨_,rfl⟩|cases hev'
    obtain⟨tt,pt,qt⟩:=sn
    have a6c:=pt _ s6 τ6 H6 (λbb H7=>∃F7,Gr H6 F5 H7 F7/\bb=b00) I6 (qt ⟨Ge.h,none⟩ H6 F5 σ1 τ6 x0 b00 _ b0 (by rw [eK];exact sr6) λH7 F7 g7=>⟨F7,g7,rfl⟩)
    refine hx' (thn a6c λokb s6b ⟨H6b,I6b,F6b,g6b,eb⟩=>?_)
    subst eb
    have hd6:H6b Da=some (.lst zs):=g6b.same _ _ (g5.same _ _ hd')
    have g56:Gr H' F' H6b F6b:=g5.trans g6b
    have nf6:¬F6b Da:=λz=>by
     rcases g56.new Da z with q|q
     ·exact nf' q
     ·rw [hd'] at q;cases q
    cases okb with
    | false =>
     rw [if_neg (by decide)]
     refine⟨its.length - (i+1),by omega,i+1,τ6,H6b,F6b,zs,y1,y2,I6b.unpinned,?_,?_,gr'.trans g56,hd6,nf6,RDs.mono g56.keep rd',hlt,rfl,hev',hyy,by omega,sc6.grow g6b,λj d a h1 h2=>?_⟩
     ·exact Tn.keep _ _ _ st5 λc hc o e=>(I6b.pin (c,o) (List.mem_append_right _ (List.mem_append_right _ (qAZ hc e)))).1
     ·intro c hc
      obtain⟨o,e,d⟩:=Tn.obj _ _ st5 c hc
      exact (I6b.pin (c,o) (List.mem_append_right _ (List.mem_append_right _ (qAZ hc e)))).2.1
     ·exact nD' j d a h1 (by rw [<-sm6 j (by rw [h1];simp)];exact h2)
    | true =>
    rw [if_pos rfl]
    obtain⟨y,b2,hev'⟩:=qAa hev'
    obtain⟨ys',b3,hev'⟩:=qAa hev'
    have hys:y2=y.2::ys':=(Option.some.inj hev').symm
    replace sr6:=sr6.grow g6b
    replace sc6:=sc6.grow g6b
    replace I6:=I6b
    replace hd':=hd6
    replace g5:=g56
    clear hd6 g56
    obtain⟨te,pe,qe⟩:=se
    have a7:=pe _ s6b τ6 H6b (λv H7=>∃F7,Gr H6b F6b H7 F7/\RR X.K H6b H7 F7 y v) I6 (qe ⟨Ge.h,none⟩ H6b F6b σ1 τ6 y _ b2 (by rw [eK];exact sr6) λv H7 F7 g7 rr=>⟨F7,g7,by rw [<-eK];exact rr⟩)
    refine hx' (thn a7 λvv s7 ⟨v,H7,I7,r7,F7,g7,rr7⟩=>?_)
    obtain⟨F8,g8,rd8⟩:=rr7.fz g7
    have hd7:H7 Da=some (.lst zs):=g7.same _ _ hd'
    have nf8:¬F8 Da:=λz=>by
     rcases g8.new Da z with q|q
     ·exact nf6 q
     ·rw [hd'] at q;cases q
    have a8:=qCN (X:=X') _ s7 τ6 H7 (.ref Da) [v] (.ref Da) [vv] (λ_ H9=>H9=upd H7 Da (.lst (zs++[v]))) I7 rfl (.cons r7 .nil) ⟨Da,zs,v,rfl,rfl,hd7,Nat.lt_of_lt_of_le (by omega) hl2,rfl⟩
    refine hx' (thn a8 λ_ s9 ⟨_,H9,I9,_,e9⟩=>?_)
    subst e9
    have k8:Keep H7 F8 (upd H7 Da (.lst (zs++[v]))) F8:=⟨λp xs h=>by
     have ne:p≠Da:=λz=>by
      subst z
      rcases h with h|⟨o,h⟩<;>(rw [hd7] at h;cases h)
     rcases h with h|⟨o,h⟩
     ·exact .inl (by rw [qAl ne];exact h)
     ·exact .inr ⟨o,by rw [qAl ne];exact h⟩,λp xs f h=>by
     have ne:p≠Da:=λz=>by subst z;exact nf8 f
     refine⟨f,?_⟩
     rcases h with h|⟨o,h⟩
     ·exact .inl (by rw [qAl ne];exact h)
     ·exact .inr ⟨o,by rw [qAl ne];exact h⟩,λp C dx fs h=>by rw [qAl (λz=>by subst z;rw [hd7] at h;cases h)];exact h⟩
    have g58:Gr H' F' H7 F8:=g5.trans g8
    have gall:Gr H2 F2 (upd H7 Da (.lst (zs++[v]))) F8:=by
     have gg:=gr'.trans g58
     refine⟨λc o e=>?_,gg.sub,gg.new,λc e=>?_⟩
     ·rw [qAl (qAL e hD)];exact gg.same c o e
     ·by_cases z:c=Da
      ·subst z;rw [qAG] at e;cases e
      ·rw [qAl z] at e;exact gg.dom c e
    refine⟨its.length - (i+1),by omega,i+1,τ6,upd H7 Da (.lst (zs++[v])),F8,zs++[v],y1++[y.2],ys',I9.unpinned,?_,?_,gall,qAG,nf8,?_,hlt,rfl,b3,(by rw [hyy,hys,List.append_assoc];rfl),(by simp;omega),?_,λj d a h1 h2=>?_⟩
    ·exact Tn.keep _ _ _ st5 λc hc o e=>(I9.pin (c,o) (List.mem_append_right _ (List.mem_append_right _ (qAZ hc e)))).1
    ·intro c hc
     obtain⟨o,e,d⟩:=Tn.obj _ _ st5 c hc
     exact (I9.pin (c,o) (List.mem_append_right _ (List.mem_append_right _ (qAZ hc e)))).2.1
    ·exact RDs.append (RDs.mono (g58.keep.trans k8) rd') ⟨v,[],rfl,RD.mono k8 rd8,rfl⟩
    ·have sc8:=sc6.grow g8
     refine sc8.keep k8 ?_ gall.dom (λj d hj hd=>?_) (λj m ks' hj=>?_) (λp d hp=>nomatch hp)
     ·intro c o e
      have h7:=sc8.ent c o e
      have:c≠Da:=λz=>by
       subst z
       have:=hS.ent c o e
       rw [hD0] at this
       cases this
      rw [qAl this];exact h7
     ·obtain⟨a,ds,vs,q1,q2,q3,q4,q5,q6⟩:=sc8.own j d hj hd
      have ne:a≠Da:=nD' j d a hj (by rw [<-sm6 j (by rw [hj];simp)];exact q2)
      exact⟨a,ds,vs,q1,q2,q3,q4,by rw [qAl ne];exact q5,RDs.mono k8 q6⟩
     ·obtain⟨a,q1,q2,q3,q4⟩:=sc8.dct j m ks' hj
      have ne:a≠Da:=nD' j _ a hj (by rw [<-sm6 j (by rw [hj];simp)];exact q1)
      exact⟨a,q1,q2,by rw [qAl ne];exact q3,q4⟩
    ·exact nD' j d a h1 (by rw [<-sm6 j (by rw [h1];simp)];exact h2)
   ·have hin:i=its.length:=by omega
    subst hin
    have td:=Tn.done X' eP ew eK g'.calm its.length (X.pn++pins) s' τ' H' (notedBy (model X.prog X.w) X.A (compEnvC sc' (qEx X.env sc'.names []) hp.objs.size X.env) λe s'=>compPost (model X.prog X.w) X.A X.xe use Qv (.ref Da) hp.objs.size (.error e) s') I' (fpX fr') st' okS
    rw [eA] at td
    refine thn td λr s4 ⟨hr,I4'⟩=>?_
    subst hr
    rw [List.drop_of_length_le (Nat.le_refl _)] at hev'
    have hyl:y2=[]:=(Option.some.inj hev').symm
    subst hyl
    rw [List.append_nil] at hyy
    subst hyy
    have Ib:=I4'.base
    rw [<-hX'] at Ib
    have Io:Inv X pins τ H' s4:=by
     refine I3.call' (ch:=fp) (by have:=I4'.os;rw [<-hX'] at this;exact this) Ib (by have:=I4'.hok;rw [eP,ew] at this;exact this) I4'.bare λc hc=>?_
     obtain⟨a0,a1,a2,a3,a4,a5⟩:=f3 c hc
     exact⟨a3,a1,a4,a5⟩
    refine hend Da hp.objs.size H' F' s4 (g2.trans gr') ⟨Da,ys,zs,rfl,rfl,hD0,nf',hd',rd'⟩ Io ⟨?_,Nat.ne_of_gt I3.lt,I3.sz,λx c e=>?_,λp hp=>?_,?_⟩
    ·have:=I4'.free
     rw [eE] at this
     exact this
    ·obtain⟨v,q⟩:=I3.cell x c e
     exact Nat.ne_of_lt q.lt
    ·exact Nat.ne_of_lt (Heap.lt_size (I3.pin p hp).1)
    ·obtain⟨m,hm,_⟩:=I4'.loc
     rw [eE] at hm
     exact⟨m,hm⟩
  ·refine⟨0,qGh τ (qAO sc').length ks,upd H2 Da (.lst []),F2,[],[],ys,I4,?_,λc hc=>(f3 c hc).1,Gr.laid g2.dom hD,qAG,g2.dom Da hD,rfl,Nat.zero_le _,rfl,by simpa using hev,rfl,Nat.le_refl _,?_,λj d a h1 h2=>?_⟩
   ·exact Tn.keep _ _ _ st2 λc hc o e=>kp c o (by rw [<-hHp];exact Heap.get?_push_of_some _ e)
   ·exact qFi S hk _ (hS.grow (g2.trans (Gr.laid g2.dom hD)))
   ·obtain⟨m,j',rfl,q1,q2⟩:=qBu h1
    obtain⟨a',u',p2,_,p5⟩:=hS.addr q2
    rw [qB5 q1 p2] at h2
    cases h2
    exact qAL p5 hD0
 exact codeAny_compStart_list loop (Tn.self _ 0 _ _ _ (Tn.keep _ _ _ st2 λc hc o e=>kp c o (by rw [<-hHp];exact Heap.get?_push_of_some _ e)) loop)
end
end Dw
namespace Dw
open PySem PySem.Spec PyProof.Rows L2
section
variable {call:Nat->List D->Option R}{G:Gx}{k:Nat}{X:Cx}{sc sc':Scope}{N:List Str}{ks:List Nat}
theorem qFj (g:XG call G k X sc N) {elt tg iter:Expr}{t:Tg}{ce c:C}{b:Bool}{src:En->Option (List D)}{pos:Pos}(S:ScOk sc') (ht:qDs sc' (qAO sc'++qAu sc') tg=some t) (hk:qAS (qBY sc N) (qAu sc')=some ks)
  (he:∀X':Cx,XG call G k X' sc' (qAO sc'++qAu sc')->SndE call X' elt ce) (hi:qGg X tg iter b src) (hfs:∀x,foldedSetIterable iter X.env x=pure x)
  (hc:∀σ r,evE call σ c=some r->∃its ys,src σ=some its/\qAT call ce (qBj σ (qAO sc').length ks) t its=some ys/\r=(true,.lst ys)/\((b=true->its.length<=lim)->its.length<=lim)) :
  SndE call X (.ListComp elt [⟨tg,iter,[],0⟩] sc' pos) c:=by
 refine⟨fun τ H Q=>∃Ge F σ r,evE call σ c=some r/\SR X.K Ge H F σ τ/\∀v H' F',Gr H F H' F'->RR X.K H H' F' r v->Q v H',λpins s τ H Q I ⟨Ge,F,σ,r,h1,h2,h3⟩=>?_,λGe H F σ τ r Q h1 h2 h3=>⟨Ge,F,σ,r,h1,h2,h3⟩⟩
 obtain⟨its,ys,e1,e2,rfl,e4⟩:=hc σ r h1
 rw [eval_ListComp]
 refine qFE g S ht hk he hi hfs (use:=none) I h2 e1 e2 e4 λDa C H' F' s' gr rr I' o=>?_
 obtain⟨m,hm⟩:=o.ns
 exact⟨m,hm,λh' hs=>⟨.ref Da,H',o.let I' hs,rfl,h3 _ H' F' gr rr⟩⟩
theorem qJA (g:XG call G k X sc N) {elt tg iter:Expr}{t:Tg}{ce c:C}{b:Bool}{src:En->Option (List D)}{pos py spos:Pos}{x:Str}{i:Nat}(S:ScOk sc') (ht:qDs sc' (qAO sc'++qAu sc') tg=some t) (hk:qAS (qBY sc N) (qAu sc')=some ks)
  (he:∀X':Cx,XG call G k X' sc' (qAO sc'++qAu sc')->SndE call X' elt ce) (hi:qGg X tg iter b src) (hfs:∀x,foldedSetIterable iter X.env x=pure x)
  (hc:∀σ r,evE call σ c=some r->∃its ys,src σ=some its/\qAT call ce (qBj σ (qAO sc').length ks) t its=some ys/\r=(true,.lst ys)/\((b=true->its.length<=lim)->its.length<=lim))
  (hx:(sc.names.lookup x == some .local||sc.names.lookup x == some .cell)=true) (hsl:qAN N x=some i) (hsw:swapsWith (.ListComp elt [⟨tg,iter,[],0⟩] sc' pos) (some (.Name x py)) spos.line X.env=pure true) :
  PS X (.Assign [.Name x py] (.ListComp elt [⟨tg,iter,[],0⟩] sc' pos) spos) (λDn τ H=>∃Ge F σ r,evE call σ c=some r/\SR X.K Ge H F σ τ/\∀v H' F',Gr H F H' F'->RR X.K H H' F' r v->Dn.nx (τ.set i (some v)) H'):=by
 intro pins s τ H Dn I ⟨Ge,F,σ,r,h1,h2,h3⟩
 obtain⟨its,ys,e1,e2,rfl,e4⟩:=hc σ r h1
 rw [exec_Assign_Name_used _ _ _ _ hsw]
 refine wpAny_bind (wpAny_standAt (wpAny_bind ?_))
 obtain⟨l1,l2⟩:=qCa g hx
 refine wpAny_bind (qFE g (p':=firstIterPos [⟨tg,iter,[],0⟩] pos) S ht hk he hi hfs (use:=some (assign (.Name x py) X.env)) I h2 e1 e2 e4 λDa C H' F' s' gr rr I' o=>?_)
 have q:=h3 _ H' F' gr rr
 refine wpAny_assign_Name (qCE (v:=.ref Da) I' (by rw [g.hN];exact g.nd) (by rw [g.hN];exact qA1 hsl) l1 rfl (λs2 I2 hch=>?_) l2)
 obtain⟨m,hm⟩:=o.ns
 obtain⟨a,hsb,ha⟩:=hch
 have hCa:C≠a:=by
  rcases ha with e|e
  ·rw [e];exact o.ne
  ·exact (o.cl _ _ e).symm
 have o2:Off X pins H' C s2.heap:=⟨o.n,o.ne,o.ab,o.cl,o.pn,⟨m,hm.sameBut hsb hCa⟩⟩
 exact⟨m,hm.sameBut hsb hCa,λh' hs=>wpAny_pure (wpAny_pure ⟨_,H',o2.let I2 hs,q⟩)⟩
theorem qD5 (g:XG call G k X sc N) {elt tg iter cnd:Expr}{t:Tg}{ce cc c:C}{b:Bool}{src:En->Option (List D)}{pos:Pos}(S:ScOk sc') (ht:qDs sc' (qAO sc'++qAu sc') tg=some t) (hk:qAS (qBY sc N) (qAu sc')=some ks)
  (he:∀X':Cx,XG call G k X' sc' (qAO sc'++qAu sc')->SndE call X' elt ce) (hcn:∀X':Cx,XG call G k X' sc' (qAO sc'++qAu sc')->qDe call X' cnd cc) (hi:qGg X tg iter b src) (hfs:∀x,foldedSetIterable iter X.env x=pure x)
  (hc:∀σ r,evE call σ c=some r->∃its ys,src σ=some its/\qBx call cc ce (qBj σ (qAO sc').length ks) t its=some ys/\r=(true,.lst ys)/\((b=true->its.length<=lim)->its.length<=lim)) :
  SndE call X (.ListComp elt [⟨tg,iter,[cnd],0⟩] sc' pos) c:=by
 refine⟨fun τ H Q=>∃Ge F σ r,evE call σ c=some r/\SR X.K Ge H F σ τ/\∀v H' F',Gr H F H' F'->RR X.K H H' F' r v->Q v H',λpins s τ H Q I ⟨Ge,F,σ,r,h1,h2,h3⟩=>?_,λGe H F σ τ r Q h1 h2 h3=>⟨Ge,F,σ,r,h1,h2,h3⟩⟩
 obtain⟨its,ys,e1,e2,rfl,e4⟩:=hc σ r h1
 rw [eval_ListComp]
 refine qEu g S ht hk he hcn hi hfs (use:=none) I h2 e1 e2 e4 λDa C H' F' s' gr rr I' o=>?_
 obtain⟨m,hm⟩:=o.ns
 exact⟨m,hm,λh' hs=>⟨.ref Da,H',o.let I' hs,rfl,h3 _ H' F' gr rr⟩⟩
theorem qIf (g:XG call G k X sc N) {elt tg iter cnd:Expr}{t:Tg}{ce cc c:C}{b:Bool}{src:En->Option (List D)}{pos py spos:Pos}{x:Str}{i:Nat}(S:ScOk sc') (ht:qDs sc' (qAO sc'++qAu sc') tg=some t) (hk:qAS (qBY sc N) (qAu sc')=some ks)
  (he:∀X':Cx,XG call G k X' sc' (qAO sc'++qAu sc')->SndE call X' elt ce) (hcn:∀X':Cx,XG call G k X' sc' (qAO sc'++qAu sc')->qDe call X' cnd cc) (hi:qGg X tg iter b src) (hfs:∀x,foldedSetIterable iter X.env x=pure x)
  (hc:∀σ r,evE call σ c=some r->∃its ys,src σ=some its/\qBx call cc ce (qBj σ (qAO sc').length ks) t its=some ys/\r=(true,.lst ys)/\((b=true->its.length<=lim)->its.length<=lim))
  (hx:(sc.names.lookup x == some .local||sc.names.lookup x == some .cell)=true) (hsl:qAN N x=some i) (hsw:swapsWith (.ListComp elt [⟨tg,iter,[cnd],0⟩] sc' pos) (some (.Name x py)) spos.line X.env=pure true) :
  PS X (.Assign [.Name x py] (.ListComp elt [⟨tg,iter,[cnd],0⟩] sc' pos) spos) (λDn τ H=>∃Ge F σ r,evE call σ c=some r/\SR X.K Ge H F σ τ/\∀v H' F',Gr H F H' F'->RR X.K H H' F' r v->Dn.nx (τ.set i (some v)) H'):=by
 intro pins s τ H Dn I ⟨Ge,F,σ,r,h1,h2,h3⟩
 obtain⟨its,ys,e1,e2,rfl,e4⟩:=hc σ r h1
 rw [exec_Assign_Name_used _ _ _ _ hsw]
 refine wpAny_bind (wpAny_standAt (wpAny_bind ?_))
 obtain⟨l1,l2⟩:=qCa g hx
 refine wpAny_bind (qEu g (p':=firstIterPos [⟨tg,iter,[cnd],0⟩] pos) S ht hk he hcn hi hfs (use:=some (assign (.Name x py) X.env)) I h2 e1 e2 e4 λDa C H' F' s' gr rr I' o=>?_)
 have q:=h3 _ H' F' gr rr
 refine wpAny_assign_Name (qCE (v:=.ref Da) I' (by rw [g.hN];exact g.nd) (by rw [g.hN];exact qA1 hsl) l1 rfl (λs2 I2 hch=>?_) l2)
 obtain⟨m,hm⟩:=o.ns
 obtain⟨a,hsb,ha⟩:=hch
 have hCa:C≠a:=by
  rcases ha with e|e
  ·rw [e];exact o.ne
  ·exact (o.cl _ _ e).symm
 have o2:Off X pins H' C s2.heap:=⟨o.n,o.ne,o.ab,o.cl,o.pn,⟨m,hm.sameBut hsb hCa⟩⟩
 exact⟨m,hm.sameBut hsb hCa,λh' hs=>wpAny_pure (wpAny_pure ⟨_,H',o2.let I2 hs,q⟩)⟩
theorem qIN {n:Nat}{e:Expr}{c:C}(h:cE G n sc N e=some c):qE9 e:=by
 cases n with
 | zero=>cases h
 | succ n=>cases e<;>first|(intro o i;rfl)|(cases h;done)|(cases n<;>cases h)
theorem qB6 {n:Nat}{e:Expr}{c:C}(h:cE G n sc N e=some c):qBg e=true:=by
 cases n with
 | zero=>cases h
 | succ n=>cases e<;>first|rfl|(cases h;done)|(cases n<;>cases h)
theorem qCM {n:Nat}{e:Expr}{c:C}(h:cE G n sc N e=some c) (env:Env):∀x,foldedSetIterable e env x=pure x:=by
 cases n with
 | zero=>cases h
 | succ n=>cases e<;>first|(intro x;rfl)|(cases h;done)|(cases n<;>cases h)
theorem qLm {n:Nat}{e:Expr}{c:C}(h:cE G n sc N e=some c) (op:CmpOp):behindInMarks op e=false:=by
 cases n with
 | zero=>cases h
 | succ n=>cases e<;>first|rfl|(cases h;done)|(cases n<;>cases h)
structure Ok (call:Nat->List D->Option R) (X:Cx) (e:Expr) (c:C):Prop where
 he:SndE call X e c
 hp:qEI call X e c
 ht:qDe call X e c
 hg:qJH call X e c
 nv:(∃x p,e=.Name x p)∨∀i,c≠.v i
theorem Ok.of {e:Expr}{c:C}(h:SndE call X e c) (ht:qDe call X e c) (hc:∀i,c≠.v i):Ok call X e c:=⟨h,h.look hc,ht,h.lend hc,.inr hc⟩
structure AllE (call:Nat->List D->Option R) (G:Gx) (k n:Nat):Prop where
 e:∀(X:Cx) (sc:Scope) (N:List Str) (e:Expr) (c:C),XG call G k X sc N->cE G n sc N e=some c->Ok call X e c
 f:∀(X:Cx) (sc:Scope) (N:List Str) (f:Str) (es:List Expr) (c:C) (p pos:Pos),XG call G k X sc N->glB sc f=true->qAM f=true->qLS G n sc N f es=some c->SndE call X (.Call (.Name f p) es [] pos) c/\∀i,c≠.v i
 a:∀(X:Cx) (sc:Scope) (N:List Str) (es:List Expr) (cs:List C),XG call G k X sc N->cEs G n sc N es=some cs->qJI call X es cs/\qEJ call X es cs/\es.all qBg=true/\cs.length=es.length
 o:∀(X:Cx) (sc:Scope) (N:List Str) (e:Option Expr) (c:Option C),XG call G k X sc N->cO G n sc N e=some c->qOl call X e c
 kf:∀(X:Cx) (sc:Scope) (N:List Str) (kws:List Keyword) (cs:List C),XG call G k X sc N->cEs G n sc N (kws.map (·.value))=some cs->qOA call X kws cs
 x:∀(X:Cx) (sc:Scope) (N:List Str) (e:Expr) (c:C),XG call G k X sc N->cX G n sc N e=some c->Ok call X e c/\∀i,c≠.v i
 j:∀(X:Cx) (sc:Scope) (N:List Str) (es:List Expr) (cs:List C),XG call G k X sc N->cJ G n sc N es=some cs->qOm call X es cs
 ga:∀(X:Cx) (sc:Scope) (N:List Str) (es:List Expr) (cs:List C),XG call G k X sc N->cEs G n sc N es=some cs->qIj call X es cs
 w:∀(X:Cx) (sc:Scope) (N:List Str) (es:List Expr) (c:C),XG call G k X sc N->qMa G n sc N es=some c->SndW call X .And es c
 v:∀(X:Cx) (sc:Scope) (N:List Str) (es:List Expr) (c:C),XG call G k X sc N->cOr G n sc N es=some c->SndW call X .Or es c
theorem qJD:AllE call G k 0:=by
 constructor
 ·intro X sc N e c _ h;cases h
 ·intro X sc N f es c p pos _ _ _ h;cases h
 ·intro X sc N e c _ h;cases h
 ·intro X sc N e c _ h;cases h
 ·intro X sc N e c _ h;cases h
 ·intro X sc N e c _ h;cases h
 ·intro X sc N e c _ h;cases h
 ·intro X sc N e c _ h;cases h
 ·intro X sc N e c _ h;cases h
 ·intro X sc N e c _ h;cases h
inductive Srk (sc:Scope):Expr->Sr->Prop where
 | seq (e:Expr):Srk sc e (.seq e)
 | rng (x:Str) (p:Pos) (as:List Expr) (pos:Pos):glB sc x=true->x=Str.ofString "range"->(as.length=1∨as.length=2∨as.length=3)->Srk sc (.Call (.Name x p) as [] pos) (.rng as)
 | zip (x:Str) (p:Pos) (a b:Expr) (pos:Pos):glB sc x=true->x=Str.ofString "zip"->Srk sc (.Call (.Name x p) [a,b] [] pos) (.zip a b)
 | enm (x:Str) (p:Pos) (a:Expr) (pos:Pos):glB sc x=true->x=Str.ofString "enumerate"->Srk sc (.Call (.Name x p) [a] [] pos) (.enm a)
 | rev (x y:Str) (p p2:Pos) (a:Expr) (pos pos2:Pos):glB sc x=true->x=Str.ofString "reversed"->glB sc y=true->y=Str.ofString "range"->Srk sc (.Call (.Name x p) [.Call (.Name y p2) [a] [] pos2] [] pos) (.rev [a])
theorem srk (it:Expr):Srk sc it (qIk sc it):=by
 unfold qIk
 split
 ·rename_i f p as pos
  split
  ·rename_i h
   simp only [Bool.and_eq_true,Bool.or_eq_true,beq_iff_eq,or_assoc] at h
   exact .rng f p as pos h.1.1 h.1.2 h.2
  ·split
   ·rename_i h
    simp only [Bool.and_eq_true,beq_iff_eq] at h
    split
    ·exact .zip f p _ _ pos h.1 h.2
    ·exact .seq _
   ·split
    ·rename_i h
     simp only [Bool.and_eq_true,beq_iff_eq] at h
     split
     ·split
      ·rename_i h'
       simp only [Bool.and_eq_true,beq_iff_eq] at h'
       exact .rev f _ p _ _ pos _ h.1 h.2 h'.1 h'.2
      ·exact .seq _
     ·exact .seq _
    ·split
     ·rename_i h
      simp only [Bool.and_eq_true,beq_iff_eq] at h
      split
      ·exact .enm f p _ pos h.1 h.2
      ·exact .seq _
     ·exact .seq _
 ·exact .seq _
theorem qJv (g:XG call G k X sc N) (hG:∀x∈qAI,G.defs.lookup x=none) {x:Str}{s:String}(h:x=Str.ofString s) (hs:s∈["len","abs","min","max","sum","all","tuple","list","int","bool","str","isinstance","range","zip","reversed","sorted","enumerate","any"]):X.mg x=none:=g.blt x (hG x (qBv h hs)) (qBv h hs)
theorem qCF {n:Nat}(A:AllE call G k n) (g:XG call G k X sc N) {tg it:Expr}{x:C}(h:cE G n sc N it=some x):qGg X tg it true (fun σ=>(evE call σ x).bind λr=>qDy r.2):=qKE (A.e X sc N it x g h).he
theorem qCG {n:Nat}(A:AllE call G k n) (g:XG call G k X sc N) (hG:∀x∈qAI,G.defs.lookup x=none) {tg:Expr}{f:Str}{p pos:Pos}{as:List Expr}{xs:List C}(hg:glB sc f=true) (hf:f=Str.ofString "range") (hl:as.length=1∨as.length=2∨as.length=3) (h:cEs G n sc N as=some xs) :
  qGg X tg (.Call (.Name f p) as [] pos) false (fun σ=>(qCj call σ xs).bind qEQ):=by
 obtain⟨_,a2,a3,a4⟩:=A.a X sc N as xs g h
 exact qKF hf (g.gl f hg) (qJv g hG hf (by decide)) a3 hl a4 a2
theorem qLR {n:Nat}{x:Str}{p:Pos}{i:Nat}(h:cE G n sc N (.Name x p)=some (.v i)):qBh sc N x=some i:=by
 cases n with
 | zero=>cases h
 | succ n =>
  have h:(match qBh sc N x with|some i=>some (C.v i)|none=>cGl G sc x)=some (.v i):=h
  cases hv:qBh sc N x with
  | some j=>rw [hv] at h;cases h;rfl
  | none =>
   rw [hv] at h
   have h:cGl G sc x=some (.v i):=h
   unfold cGl at h
   split at h
   ·cases hc:G.cons.lookup x<;>(rw [hc] at h;cases h)
   ·cases h
theorem qGq (g:XG call G k X sc N):X.A.units+20<cLine:=by
 have:=g.room.units
 omega
theorem qOi {n:Nat}{es:List Expr}{c:C}(hl:2<=es.length) (h:qMa G n sc N es=some c):∀i,c≠.v i:=by
 cases n with
 | zero=>cases h
 | succ n =>
  unfold qMa at h
  split at h
  ·simp at hl
  ·obtain⟨x,e1,e2⟩:=qAa h
   obtain⟨y,e3,e4⟩:=qAa e2
   cases e4
   exact λi z=>nomatch z
  ·cases h
theorem qOZ {n:Nat}{es:List Expr}{c:C}(hl:2<=es.length) (h:cOr G n sc N es=some c):∀i,c≠.v i:=by
 cases n with
 | zero=>cases h
 | succ n =>
  unfold cOr at h
  split at h
  ·simp at hl
  ·obtain⟨x,e1,e2⟩:=qAa h
   obtain⟨y,e3,e4⟩:=qAa e2
   cases e4
   exact λi z=>nomatch z
  ·cases h
theorem qJE (hG:∀x∈qAI,G.defs.lookup x=none) {n:Nat}(A:AllE call G k n):AllE call G k (n+1):=by
 constructor
 ·intro X sc N e c g h
  unfold cE at h
  split at h
  ·-- a name
   rename_i x pos
   cases hv:qBh sc N x with
   | none =>
    rw [hv] at h
    obtain⟨h1,h2⟩:=qME (call:=call) (pos:=pos) g h
    exact .of h1 (h1.test λ_=>rfl) h2
   | some i =>
    rw [hv] at h
    cases h
    obtain⟨h1,h2,h3⟩:=qIy (call:=call) (pos:=pos) g hv
    exact⟨h1,h2,h1.test λ_=>rfl,h3,.inl ⟨_,_,rfl⟩⟩
  ·rename_i cc j pos
   cases hv:kOf cc with
   | none=>rw [hv] at h;cases h
   | some d =>
    rw [hv] at h
    cases h
    have h1:=qCH (call:=call) (X:=X) (j:=j) (pos:=pos) hv
    exact .of h1 (h1.test λ_=>rfl) λi z=>nomatch z
  ·rename_i a op b pos
   obtain⟨o,e1,e2⟩:=qAa h
   obtain⟨x,e3,e4⟩:=qAa e2
   obtain⟨y,e5,e6⟩:=qAa e4
   cases e6
   have h1:=qKR (call:=call) (pos:=pos) (qM9 (X:=X) e1) (A.e X sc N a x g e3).hp (A.e X sc N b y g e5).hp
   exact .of h1 (h1.test λ_=>rfl) λi z=>nomatch z
  ·rename_i a pos
   cases hx:cE G n sc N a with
   | none=>rw [hx] at h;cases h
   | some x =>
    rw [hx] at h
    cases h
    have h1:=qKJ (pos:=pos) (A.e X sc N a x g hx).hp
    exact .of h1 (h1.test λ_=>rfl) λi z=>nomatch z
  ·rename_i a pos
   cases hx:cE G n sc N a with
   | none=>rw [hx] at h;cases h
   | some x =>
    rw [hx] at h
    cases h
    have h0:=A.e X sc N a x g hx
    obtain⟨h1,h2⟩:=qKH (pos:=pos) h0.he h0.ht
    exact .of h1 h2 λi z=>nomatch z
  ·rename_i es pos
   split at h
   ·rename_i hl
    have h0:=A.w X sc N es c g h
    exact .of (h0 pos).1 h0.test (qOi hl h)
   ·cases h
  ·rename_i es pos
   split at h
   ·rename_i hl
    have h0:=A.v X sc N es c g h
    exact .of (h0 pos).1 h0.test (qOZ hl h)
   ·cases h
  ·rename_i a cc j p2 pos
   obtain⟨d,e1,e2⟩:=qAa h
   obtain⟨x,e3,e4⟩:=qAa e2
   cases e4
   obtain⟨h1,h2⟩:=qJR (call:=call) (X:=X) (pos:=pos) (pos':=p2) (j:=j) false rfl e1 (A.e X sc N a x g e3).hp
   exact .of h1 h2 λi z=>nomatch z
  ·rename_i a cc j p2 pos
   obtain⟨d,e1,e2⟩:=qAa h
   obtain⟨x,e3,e4⟩:=qAa e2
   cases e4
   obtain⟨h1,h2⟩:=qJR (call:=call) (X:=X) (pos:=pos) (pos':=p2) (j:=j) true rfl e1 (A.e X sc N a x g e3).hp
   exact .of h1 h2 λi z=>nomatch z
  ·rename_i a op b pos _ _
   obtain⟨o,e1,e2⟩:=qAa h
   obtain⟨x,e3,e4⟩:=qAa e2
   obtain⟨y,e5,e6⟩:=qAa e4
   have hm:behindInMarks op b=false:=qLm e5 op
   obtain⟨h1,h2⟩:=qKQ (call:=call) (pos:=pos) (qLO (X:=X) (qGq g) e1) hm (λ_ _ _ hz=>qNY hz) (A.e X sc N a x g e3).hp (A.e X sc N b y g e5).hp
   cases e6
   exact .of h1 h2 λi z=>nomatch z
  ·rename_i a lo hi p2 pos
   obtain⟨x,e1,e2⟩:=qAa h
   obtain⟨l,e3,e4⟩:=qAa e2
   obtain⟨u,e5,e6⟩:=qAa e4
   cases e6
   have h1:=qMy (p2:=p2) (pos:=pos) (A.e X sc N a x g e1).hp (A.o X sc N lo l g e3) (A.o X sc N hi u g e5)
   exact .of h1 (h1.test λ_=>rfl) λi z=>nomatch z
  ·rename_i a b pos _
   obtain⟨x,e1,e2⟩:=qAa h
   obtain⟨y,e3,e4⟩:=qAa e2
   cases e4
   have h1:=qMC (pos:=pos) (qIN e3) (A.e X sc N a x g e1).hp (A.e X sc N b y g e3).hp
   exact .of h1 (h1.test λ_=>rfl) λi z=>nomatch z
  ·rename_i es kk pos
   cases hx:cEs G n sc N es with
   | none=>rw [hx] at h;cases h
   | some xs =>
    rw [hx] at h
    cases h
    have h1:=qKC (x1:=kk) (pos:=pos) (A.a X sc N es xs g hx).1
    exact .of h1 (h1.test λ_=>rfl) λi z=>nomatch z
  ·rename_i es pos
   cases hx:cEs G n sc N es with
   | none=>rw [hx] at h;cases h
   | some xs =>
    rw [hx] at h
    cases h
    have h1:=qKK (pos:=pos) (A.a X sc N es xs g hx).1
    exact .of h1 (h1.test λ_=>rfl) λi z=>nomatch z
  ·rename_i f p as pos
   split at h
   ·rename_i hf
    rw [Bool.and_eq_true] at hf
    obtain⟨h1,h2⟩:=A.f X sc N f as c p pos g hf.1 hf.2 h
    exact .of h1 (h1.test λ_=>rfl) h2
   ·cases h
  ·rename_i x j p0 m p2 e p3
   split at h
   ·rename_i hm
    rw [Bool.and_eq_true] at hm
    cases hx:cE G n sc N e with
    | none=>rw [hx] at h;cases h
    | some c =>
     rw [hx] at h
     cases h
     have h1:=qIA (x:=x) (m:=m) (j:=j) (p0:=p0) (p2:=p2) (p3:=p3) (by simpa using hm.1) hm.2 (qAB (qB6 hx)) (A.e X sc N e c g hx).hp
     exact .of h1 (h1.test λ_=>rfl) λi z=>nomatch z
   ·cases h
  ·rename_i a b es pos
   cases hx:cJ G n sc N (a::b::es) with
   | none=>rw [hx] at h;cases h
   | some cs =>
    rw [hx] at h
    cases h
    have h1:=qID (pos:=pos) (A.j X sc N _ cs g hx)
    exact .of h1 (h1.test λ_=>rfl) λi z=>nomatch z
  ·rename_i t a b pos
   obtain⟨ct,e1,e2⟩:=qAa h
   obtain⟨x,e3,e4⟩:=qAa e2
   obtain⟨y,e5,e6⟩:=qAa e4
   cases e6
   have h1:=qKN (pos:=pos) (A.e X sc N t ct g e1).ht (A.e X sc N a x g e3).he (A.e X sc N b y g e5).he
   exact .of h1 (qIC (A.e X sc N t ct g e1).ht (A.e X sc N a x g e3).ht (A.e X sc N b y g e5).ht) λi z=>nomatch z
  ·rename_i elt tg it sc' pos
   split at h
   ·rename_i hsc
    have S:=qCw hsc
    obtain⟨t,e1,e2⟩:=qAa h
    obtain⟨ks,e3,e4⟩:=qAa e2
    obtain⟨ce,e5,e6⟩:=qAa e4
    have he:∀X':Cx,XG call G k X' sc' (qAO sc'++qAu sc')->SndE call X' elt ce:=λX' g'=>(A.e X' sc' _ elt ce g' e5).he
    have hsr:=srk (sc:=sc) it
    cases hq:qIk sc it with
    | seq s =>
     rw [hq] at e6 hsr
     obtain⟨x,q1,q2⟩:=qAa e6
     cases q2
     cases hsr
     have h1:=qFj (pos:=pos) (c:=.compS ce (qAO sc').length ks t x) g S e1 e3 he (qCF A g q1) (qCM q1 X.env) fun σ r hr=>by
      obtain⟨y,r1,r2⟩:=qAa (by simpa only [qCZ] using hr)
      obtain⟨its,r3,r4⟩:=qAa r2
      obtain⟨ys,r5,r6⟩:=qAa r4
      cases r6
      exact⟨its,ys,by simp only [r1];exact r3,r5,rfl,λz=>z rfl⟩
     exact .of h1 (h1.test λ_=>rfl) λi z=>nomatch z
    | rng rs =>
     rw [hq] at e6 hsr
     obtain⟨xs,q1,q2⟩:=qAa e6
     cases q2
     cases hsr with
     | rng f p as pos2 hg hf hl =>
      have h1:=qFj (pos:=pos) (c:=.compR ce (qAO sc').length ks t xs) g S e1 e3 he (qCG (p:=p) (pos:=pos2) A g hG hg hf hl q1) (λ_=>rfl) fun σ r hr=>by
       obtain⟨y,r1,r2⟩:=qAa (by simpa only [qC0] using hr)
       obtain⟨its,r3,r4⟩:=qAa r2
       split at r4
       ·rename_i hle
        obtain⟨ys,r5,r6⟩:=qAa r4
        cases r6
        exact⟨its,ys,by simp only [r1];exact r3,r5,rfl,λ_=>hle⟩
       ·cases r4
      exact .of h1 (h1.test λ_=>rfl) λi z=>nomatch z
    | zip a b=>rw [hq] at e6;cases e6
    | rev rs=>rw [hq] at e6;cases e6
    | enm a=>rw [hq] at e6;cases e6
   ·cases h
  ·exact (A.x X sc N _ c g h).1
 ·intro X sc N f es c p pos g hg hp h
  unfold qLS at h
  split at h
  ·rename_i i hd
   split at h
   ·cases h
   ·rename_i hne
    cases hx:cEs G n sc N es with
    | none=>rw [hx] at h;cases h
    | some xs =>
     rw [hx] at h
     cases h
     obtain⟨a1,a2,a3,a4⟩:=A.a X sc N es xs g hx
     exact⟨qIH g hd hg (qBS hp).2 a3 (by intro z;subst z;exact hne rfl) (A.ga X sc N es xs g hx),(λi z=>nomatch z)⟩
  ·rename_i hd
   split at h
   ·rename_i u hu
    obtain⟨hu',rfl⟩:=qG7 hu
    cases hx:cEs G n sc N es with
    | none=>rw [hx] at h;cases h
    | some xs =>
     rw [hx] at h
     cases h
     obtain⟨a1,a2,a3,a4⟩:=A.a X sc N es xs g hx
     exact⟨qMA g hu' hg (qBS hp).2 a3 a1 a4,λi z=>nomatch z⟩
   rename_i hnu
   split at h
   ·rename_i a t p2 hf
    split at h
    ·rename_i tb htb
     split at h
     ·rename_i hq
      rw [Bool.and_eq_true] at hq
      obtain⟨x,e3,e4⟩:=qAa h
      cases e4
      exact⟨qKL g (by simpa using hf) hd hg hq.1 hq.2 htb (qB6 e3) (A.e X sc N a x g e3).he,λi z=>nomatch z⟩
     ·cases h
    ·split at h
     ·rename_i hq
      rw [Bool.and_eq_true] at hq
      obtain⟨ty,e1,e2⟩:=qAa h
      obtain⟨x,e3,e4⟩:=qAa e2
      cases e4
      have hdt:G.defs.lookup t=none:=by simpa using hq.2
      exact⟨qKM g (by simpa using hf) hd hdt hg hq.1 e1 (qB6 e3) (A.e X sc N a x g e3).hp,λi z=>nomatch z⟩
     ·cases h
   ·obtain⟨b,e1,e2⟩:=qAa h
    rename_i as _ _ hf
    cases hx:cEs G n sc N as with
    | none=>rw [hx] at e2;cases e2
    | some xs =>
     rw [hx] at e2
     cases e2
     obtain⟨a1,a2,a3,a4⟩:=A.a X sc N as xs g hx
     exact⟨qGJ g e1 hd hg hp a3 a2,λi z=>nomatch z⟩
   ·cases h
 ·intro X sc N es cs g h
  unfold cEs at h
  split at h
  ·cases h
   exact⟨qII,qGK,rfl,rfl⟩
  ·rename_i a r
   obtain⟨x,e1,e2⟩:=qAa h
   obtain⟨xs,e3,e4⟩:=qAa e2
   cases e4
   have h0:=A.e X sc N a x g e1
   obtain⟨a1,a2,a3,a4⟩:=A.a X sc N r xs g e3
   have hs:=qAB (env:=X.env) (es:=r) (qB6 e1)
   exact⟨qGL hs h0.he a1,qFV hs h0.hp a2,by simp [qB6 e1];simpa using a3,by simp [a4]⟩
 ·intro X sc N e c g h
  unfold cO at h
  split at h
  ·cases h;exact qGE
  ·rename_i e
   cases hx:cE G n sc N e with
   | none=>rw [hx] at h;cases h
   | some x =>
    rw [hx] at h
    cases h
    exact qGD (A.e X sc N e x g hx).hp
 ·intro X sc N kws cs g h
  unfold cEs at h
  cases kws with
  | nil=>cases h;exact qIz
  | cons kw kws =>
   obtain⟨x,e1,e2⟩:=qAa h
   obtain⟨xs,e3,e4⟩:=qAa e2
   cases e4
   exact qGG (A.e X sc N kw.value x g e1).he (A.kf X sc N kws xs g e3)
 ·intro X sc N e c g h
  unfold cX at h
  split at h
  ·rename_i elt tg it cd sc' pos
   split at h
   ·rename_i hsc
    have S:=qCw hsc
    obtain⟨t,e1,e2⟩:=qAa h
    obtain⟨ks,e3,e4⟩:=qAa e2
    obtain⟨ce,e5,e6⟩:=qAa e4
    obtain⟨cc,e7,e8⟩:=qAa e6
    have he:∀X':Cx,XG call G k X' sc' (qAO sc'++qAu sc')->SndE call X' elt ce:=λX' g'=>(A.e X' sc' _ elt ce g' e5).he
    have hc:∀X':Cx,XG call G k X' sc' (qAO sc'++qAu sc')->qDe call X' cd cc:=λX' g'=>(A.e X' sc' _ cd cc g' e7).ht
    have hsr:=srk (sc:=sc) it
    cases hq:qIk sc it with
    | seq s =>
     rw [hq] at e8 hsr
     obtain⟨x,q1,q2⟩:=qAa e8
     cases q2
     cases hsr
     have h1:=qD5 (pos:=pos) (c:=.compF ce cc (qAO sc').length ks t x) g S e1 e3 he hc (qCF A g q1) (qCM q1 X.env) fun σ r hr=>by
      obtain⟨y,r1,r2⟩:=qAa (by simpa only [qEs] using hr)
      obtain⟨its,r3,r4⟩:=qAa r2
      obtain⟨ys,r5,r6⟩:=qAa r4
      cases r6
      exact⟨its,ys,by simp only [r1];exact r3,r5,rfl,λz=>z rfl⟩
     exact⟨.of h1 (h1.test λ_=>rfl) (λi z=>nomatch z),(λi z=>nomatch z)⟩
    | rng rs =>
     rw [hq] at e8 hsr
     obtain⟨xs,q1,q2⟩:=qAa e8
     cases q2
     cases hsr with
     | rng f p as pos2 hg hf hl =>
      have h1:=qD5 (pos:=pos) (c:=.compG ce cc (qAO sc').length ks t xs) g S e1 e3 he hc (qCG (p:=p) (pos:=pos2) A g hG hg hf hl q1) (λ_=>rfl) fun σ r hr=>by
       obtain⟨y,r1,r2⟩:=qAa (by simpa only [qEr] using hr)
       obtain⟨its,r3,r4⟩:=qAa r2
       split at r4
       ·rename_i hle
        obtain⟨ys,r5,r6⟩:=qAa r4
        cases r6
        exact⟨its,ys,by simp only [r1];exact r3,r5,rfl,λ_=>hle⟩
       ·cases r4
      exact⟨.of h1 (h1.test λ_=>rfl) (λi z=>nomatch z),(λi z=>nomatch z)⟩
    | _=>rw [hq] at e8;cases e8
   ·cases h
  ·rename_i a f pos
   split at h
   ·rename_i hb
    obtain⟨j,e1,h⟩:=qAa h
    cases e3:cE G n sc N a with
    | none=>rw [e3] at h;cases h
    | some x =>
     rw [e3] at h
     cases h
     have h1:=qKP (pos:=pos) (f:=f) (j:=j) hb (A.e X sc N a x g e3).he
     exact⟨.of h1 (h1.test λ_=>rfl) (λi z=>nomatch z),(λi z=>nomatch z)⟩
   ·cases h
  ·rename_i a m p2 bs pos2
   split at h
   ·rename_i hf
    rw [Bool.and_eq_true,Bool.and_eq_true,Bool.and_eq_true] at hf
    obtain⟨⟨⟨hm,hT⟩,hb⟩,hln⟩:=hf
    cases e3:cE G n sc N a with
    | none=>rw [e3] at h;cases h
    | some x =>
     rw [e3] at h
     cases h
     have h1:=qIG (p2:=p2) (p3:=pos2) (m:=m) (qGq g) (by simpa using hm) hb hT hln (A.e X sc N a x g e3).he
     exact⟨.of h1 (h1.test λ_=>rfl) (λi z=>nomatch z),(λi z=>nomatch z)⟩
   ·split at h
    ·rename_i hf
     rw [Bool.and_eq_true,Bool.and_eq_true] at hf
     obtain⟨⟨hb,hln⟩,h30⟩:=hf
     obtain⟨x,e1,h⟩:=qAa h
     cases e3:cEs G n sc N bs with
     | none=>rw [e3] at h;cases h
     | some ys =>
      rw [e3] at h
      cases h
      obtain⟨b1,b2,b3,b4⟩:=A.a X sc N bs ys g e3
      have h1:=qMB (p2:=p2) (pos2:=pos2) (m:=m) g hb (A.e X sc N a x g e1).he b3 b4 hln (of_decide_eq_true h30) b1
      exact⟨.of h1 (h1.test λ_=>rfl) (λi z=>nomatch z),(λi z=>nomatch z)⟩
    ·cases h
  ·cases h
 ·intro X sc N es cs g h
  unfold cJ at h
  split at h
  ·cases h;exact qIB
  ·rename_i x j p r
   cases hx:cJ G n sc N r with
   | none=>rw [hx] at h;cases h
   | some xs =>
    rw [hx] at h
    cases h
    exact qD4 (qCH rfl) (A.j X sc N r xs g hx)
  ·rename_i e p r
   obtain⟨x,e1,e2⟩:=qAa h
   obtain⟨xs,e3,e4⟩:=qAa e2
   cases e4
   exact qD4 (snd_fv (A.e X sc N e x g e1).hp) (A.j X sc N r xs g e3)
  ·cases h
 ·intro X sc N es cs g h
  unfold cEs at h
  split at h
  ·cases h
   exact qGH
  ·rename_i a r
   obtain⟨x,e1,e2⟩:=qAa h
   obtain⟨xs,e3,e4⟩:=qAa e2
   cases e4
   exact qFU (qAB (env:=X.env) (es:=r) (qB6 e1)) (A.e X sc N a x g e1).hg (A.ga X sc N r xs g e3)
 ·intro X sc N es c g h
  unfold qMa at h
  split at h
  ·rename_i a
   have h0:=A.e X sc N a c g h
   exact qGF h0.he h0.ht
  ·rename_i a b r
   obtain⟨x,e1,e2⟩:=qAa h
   obtain⟨y,e3,e4⟩:=qAa e2
   cases e4
   have h0:=A.e X sc N a x g e1
   exact qKT h0.he h0.ht (A.w X sc N (b::r) y g e3)
  ·cases h
 ·intro X sc N es c g h
  unfold cOr at h
  split at h
  ·rename_i a
   have h0:=A.e X sc N a c g h
   exact qGF h0.he h0.ht
  ·rename_i a b r
   obtain⟨x,e1,e2⟩:=qAa h
   obtain⟨y,e3,e4⟩:=qAa e2
   cases e4
   have h0:=A.e X sc N a x g e1
   exact qMz h0.he h0.ht (A.v X sc N (b::r) y g e3)
  ·cases h
theorem qDp (hG:∀x∈qAI,G.defs.lookup x=none):∀n,AllE call G k n
 | 0=>qJD
 | n+1=>qJE hG (qDp hG n)
end
end Dw
namespace Dw
open PySem PySem.Spec PyProof.Rows L2
section
variable {call:Nat->List D->Option R}{G:Gx}{k:Nat}{X:Cx}{sc sc':Scope}{N:List Str}
theorem qJt (hG:∀x∈qAI,G.defs.lookup x=none) {n:Nat}(A:AllE call G k n) (g:XG call G k X sc N) {elt:Expr}{gens:List Comprehension}{pos:Pos}{c:C}(h:cE G (n+1) sc N (.ListComp elt gens sc' pos)=some c) (hx:cX G n sc N (.ListComp elt gens sc' pos)≠some c) :
  ∃(tg iter:Expr) (t:Tg) (ks:List Nat) (ce:C) (b:Bool) (src:En->Option (List D)),gens=[⟨tg,iter,[],0⟩]/\ScOk sc'/\qDs sc' (qAO sc'++qAu sc') tg=some t/\qAS (qBY sc N) (qAu sc')=some ks /\
    (∀X':Cx,XG call G k X' sc' (qAO sc'++qAu sc')->SndE call X' elt ce)/\qGg X tg iter b src/\(∀x,foldedSetIterable iter X.env x=pure x) /\
    (∀σ r,evE call σ c=some r->∃its ys,src σ=some its/\qAT call ce (qBj σ (qAO sc').length ks) t its=some ys/\r=(true,.lst ys)/\((b=true->its.length<=lim)->its.length<=lim)):=by
 unfold cE at h
 split at h
 any_goals (rename_i heq;first|cases heq|skip)
 all_goals first|(cases n<;>(cases h;done))|skip
 rotate_left
 ·exact absurd h hx
 rename_i _ tg it
 split at h
 ·rename_i hsc
  have S:=qCw hsc
  obtain⟨t,e1,e2⟩:=qAa h
  obtain⟨ks,e3,e4⟩:=qAa e2
  obtain⟨ce,e5,e6⟩:=qAa e4
  have he:∀X':Cx,XG call G k X' sc' (qAO sc'++qAu sc')->SndE call X' elt ce:=λX' g'=>(A.e X' sc' _ elt ce g' e5).he
  have hsr:=srk (sc:=sc) it
  cases hq:qIk sc it with
  | seq s =>
   rw [hq] at e6 hsr
   obtain⟨x,q1,q2⟩:=qAa e6
   cases q2
   cases hsr
   refine⟨tg,it,t,ks,ce,true,_,rfl,S,e1,e3,he,qCF A g q1,qCM q1 X.env,fun σ r hr=>?_⟩
   obtain⟨y,r1,r2⟩:=qAa (by simpa only [qCZ] using hr)
   obtain⟨its,r3,r4⟩:=qAa r2
   obtain⟨ys,r5,r6⟩:=qAa r4
   cases r6
   exact⟨its,ys,by simp only [r1];exact r3,r5,rfl,λz=>z rfl⟩
  | rng rs =>
   rw [hq] at e6 hsr
   obtain⟨xs,q1,q2⟩:=qAa e6
   cases q2
   cases hsr with
   | rng f p as pos2 hg hf hl =>
    refine⟨tg,_,t,ks,ce,false,_,rfl,S,e1,e3,he,qCG (p:=p) (pos:=pos2) A g hG hg hf hl q1,λ_=>rfl,fun σ r hr=>?_⟩
    obtain⟨y,r1,r2⟩:=qAa (by simpa only [qC0] using hr)
    obtain⟨its,r3,r4⟩:=qAa r2
    split at r4
    ·rename_i hle
     obtain⟨ys,r5,r6⟩:=qAa r4
     cases r6
     exact⟨its,ys,by simp only [r1];exact r3,r5,rfl,λ_=>hle⟩
    ·cases r4
  | zip a b=>rw [hq] at e6;cases e6
  | rev rs=>rw [hq] at e6;cases e6
  | enm a=>rw [hq] at e6;cases e6
 ·cases h
theorem qHP (hG:∀x∈qAI,G.defs.lookup x=none) {n:Nat}(A:AllE call G k n) (g:XG call G k X sc N) {elt:Expr}{gens:List Comprehension}{pos:Pos}{c:C}(h:cX G (n+1) sc N (.ListComp elt gens sc' pos)=some c) :
  ∃(tg iter cnd:Expr) (t:Tg) (ks:List Nat) (ce cc:C) (b:Bool) (src:En->Option (List D)),gens=[⟨tg,iter,[cnd],0⟩]/\ScOk sc'/\qDs sc' (qAO sc'++qAu sc') tg=some t/\qAS (qBY sc N) (qAu sc')=some ks /\
    (∀X':Cx,XG call G k X' sc' (qAO sc'++qAu sc')->SndE call X' elt ce)/\(∀X':Cx,XG call G k X' sc' (qAO sc'++qAu sc')->qDe call X' cnd cc)/\qGg X tg iter b src/\(∀x,foldedSetIterable iter X.env x=pure x) /\
    (∀σ r,evE call σ c=some r->∃its ys,src σ=some its/\qBx call cc ce (qBj σ (qAO sc').length ks) t its=some ys/\r=(true,.lst ys)/\((b=true->its.length<=lim)->its.length<=lim)):=by
 unfold cX at h
 split at h
 any_goals (rename_i heq;first|cases heq|skip)
 all_goals first|(cases h;done)|skip
 rename_i _ tg it cd
 split at h
 ·rename_i hsc
  have S:=qCw hsc
  obtain⟨t,e1,e2⟩:=qAa h
  obtain⟨ks,e3,e4⟩:=qAa e2
  obtain⟨ce,e5,e6⟩:=qAa e4
  obtain⟨cc,e7,e8⟩:=qAa e6
  have hsr:=srk (sc:=sc) it
  cases hq:qIk sc it with
  | seq s =>
   rw [hq] at e8 hsr
   obtain⟨x,q1,q2⟩:=qAa e8
   cases q2
   cases hsr
   refine⟨tg,it,cd,t,ks,ce,cc,true,_,rfl,S,e1,e3,λX' g'=>(A.e X' sc' _ elt ce g' e5).he,λX' g'=>(A.e X' sc' _ cd cc g' e7).ht,qCF A g q1,qCM q1 X.env,fun σ r hr=>?_⟩
   obtain⟨y,r1,r2⟩:=qAa (by simpa only [qEs] using hr)
   obtain⟨its,r3,r4⟩:=qAa r2
   obtain⟨ys,r5,r6⟩:=qAa r4
   cases r6
   exact⟨its,ys,by simp only [r1];exact r3,r5,rfl,λz=>z rfl⟩
  | rng rs =>
   rw [hq] at e8 hsr
   obtain⟨xs,q1,q2⟩:=qAa e8
   cases q2
   cases hsr with
   | rng f p as pos2 hg hf hl =>
    refine⟨tg,_,cd,t,ks,ce,cc,false,_,rfl,S,e1,e3,λX' g'=>(A.e X' sc' _ elt ce g' e5).he,λX' g'=>(A.e X' sc' _ cd cc g' e7).ht,qCG (p:=p) (pos:=pos2) A g hG hg hf hl q1,λ_=>rfl,fun σ r hr=>?_⟩
    obtain⟨y,r1,r2⟩:=qAa (by simpa only [qEr] using hr)
    obtain⟨its,r3,r4⟩:=qAa r2
    split at r4
    ·rename_i hle
     obtain⟨ys,r5,r6⟩:=qAa r4
     cases r6
     exact⟨its,ys,by simp only [r1];exact r3,r5,rfl,λ_=>hle⟩
    ·cases r4
  | _=>rw [hq] at e8;cases e8
 ·cases h
theorem qGv (elt:Expr) (gens:List Comprehension) (sc':Scope) (pos py:Pos) (x:Str) (ln:Nat) (env:Env):∃b:Bool,swapsWith (.ListComp elt gens sc' pos) (some (.Name x py)) ln env=pure b:=⟨_,rfl⟩
theorem qL1 (hG:∀x∈qAI,G.defs.lookup x=none) {n:Nat}(g:XG call G k X sc N) {e:Expr}{c:C}{x:Str}{i:Nat}{py spos:Pos}(h:cE G n sc N e=some c) (hx:(sc.names.lookup x == some .local||sc.names.lookup x == some .cell)=true) (hsl:qAN N x=some i) :
  ∃t:TS,PS X (.Assign [.Name x py] e spos) t/\∀(Ge:Gp) (H:Hp) (F:Fz) (σ:En) (τ:L2.St) (r:R) (Dn:Ends),evE call σ c=some r->SR X.K Ge H F σ τ->(∀v H' F',Gr H F H' F'->RR X.K H H' F' r v->Dn.nx (τ.set i (some v)) H')->t Dn τ H:=by
 obtain⟨l1,l2⟩:=qCa g hx
 have plain:swapsWith e (some (.Name x py)) spos.line X.env=pure false->∃t:TS,PS X (.Assign [.Name x py] e spos) t/\∀(Ge:Gp) (H:Hp) (F:Fz) (σ:En) (τ:L2.St) (r:R) (Dn:Ends),evE call σ c=some r->SR X.K Ge H F σ τ->(∀v H' F',Gr H F H' F'->RR X.K H H' F' r v->Dn.nx (τ.set i (some v)) H')->t Dn τ H:=λhs=>by
  obtain⟨te,pe,qe⟩:=((qDp (call:=call) (k:=k) hG n).e X sc N e c g h).he
  exact⟨_,qMR (i:=i) (by rw [g.hN];exact g.nd) (by rw [g.hN];exact qA1 hsl) l1 pe hs l2,λGe H F σ τ r Dn h1 h2 h3=>qe Ge H F σ τ r _ h1 h2 h3⟩
 cases n with
 | zero=>cases h
 | succ n =>
  cases e with
  | ListComp elt gens sc' pos =>
   obtain⟨b,hb⟩:=qGv elt gens sc' pos py x spos.line X.env
   cases b with
   | false=>exact plain hb
   | true =>
    by_cases hx':cX G n sc N (.ListComp elt gens sc' pos)=some c
    ·cases n with
     | zero=>cases hx'
     | succ n =>
      obtain⟨tg,iter,cnd,t,ks,ce,cc,b,src,rfl,S,e1,e3,he,hcn,hi,hf,hc⟩:=qHP hG (qDp (call:=call) (k:=k) hG n) g hx'
      exact⟨_,qIf g S e1 e3 he hcn hi hf hc hx hsl hb,λGe H F σ τ r Dn h1 h2 h3=>⟨Ge,F,σ,r,h1,h2,h3⟩⟩
    obtain⟨tg,iter,t,ks,ce,b,src,rfl,S,e1,e3,he,hi,hf,hc⟩:=qJt hG (qDp (call:=call) (k:=k) hG n) g h hx'
    exact⟨_,qJA g S e1 e3 he hi hf hc hx hsl hb,λGe H F σ τ r Dn h1 h2 h3=>⟨Ge,F,σ,r,h1,h2,h3⟩⟩
  | SetComp _ _ _ _=>(cases n<;>cases h)
  | DictComp _ _ _ _ _=>(cases n<;>cases h)
  | _=>exact plain rfl
noncomputable def EndsOk (K:PySem.W.Frag) (Ge:Gp) (F0:Fz) (H:Hp) (F:Fz) (o:Ou) (Dn:Ends):Prop:=match o with
 | .nx σ'=>∀τ' H' F',Keep H F H' F'->Gr Ge F0 H' F'->SR K Ge H' F' σ' τ'->Dn.nx τ' H'
 | .rt r=>∀v H' F',Gr Ge F0 H' F'->RR K Ge H' F' r v->Dn.rt v H'
 | .bk σ'=>∀τ' H' F',Keep H F H' F'->Gr Ge F0 H' F'->SR K Ge H' F' σ' τ'->Dn.bk τ' H'
 | .ct σ'=>∀τ' H' F',Keep H F H' F'->Gr Ge F0 H' F'->SR K Ge H' F' σ' τ'->Dn.ct τ' H'
theorem EndsOk.mv {K:PySem.W.Frag}{Ge:Gp}{F0:Fz}{H H1:Hp}{F F1:Fz}{o:Ou}{Dn:Ends}(h:EndsOk K Ge F0 H F o Dn) (k:Keep H F H1 F1):EndsOk K Ge F0 H1 F1 o Dn:=by
 cases o with
 | nx σ'=>exact fun τ' H' F' k' g s=>h τ' H' F' (k.trans k') g s
 | rt r=>exact h
 | bk σ'=>exact fun τ' H' F' k' g s=>h τ' H' F' (k.trans k') g s
 | ct σ'=>exact fun τ' H' F' k' g s=>h τ' H' F' (k.trans k') g s
variable (call X) in
noncomputable def qJG (st:List Stmt) (cs:List S):Prop:=∃t:TS,PSs X st t/\∀(Ge:Gp) (F0:Fz) (H:Hp) (F:Fz) (σ:En) (τ:L2.St) (o:Ou) (Dn:Ends),qAp call σ cs=some o->SR X.K Ge H F σ τ->Gr Ge F0 H F->EndsOk X.K Ge F0 H F o Dn->t Dn τ H
variable (call X) in
noncomputable def qFK (st:Stmt) (cs:List S):Prop:=∃t:TS,PS X st t/\∀(Ge:Gp) (F0:Fz) (H:Hp) (F:Fz) (σ:En) (τ:L2.St) (o:Ou) (Dn:Ends),qAp call σ cs=some o->SR X.K Ge H F σ τ->Gr Ge F0 H F->EndsOk X.K Ge F0 H F o Dn->t Dn τ H
theorem qEZ (cx cy:List S):∀σ:En,qAp call σ (cx++cy)=(qAp call σ cx).bind (qKr fun σ'=>qAp call σ' cy):=by
 induction cx with
 | nil=>intro σ;rfl
 | cons a r ih =>
  intro σ
  rw [List.cons_append,qAP,qAP]
  rcases evS call σ a with _|(σ1|r1|σ1|σ1)
  ·rfl
  ·exact ih σ1
  ·rfl
  ·rfl
  ·rfl
theorem qKI:qJG call X [] []:=⟨_,qES,λGe F0 H F σ τ o Dn h s g e=>by cases h;exact e τ H F Keep.refl g s⟩
theorem qIF {st:Stmt}{rest:List Stmt}{cx cy:List S}(h1:qFK call X st cx) (h2:qJG call X rest cy):qJG call X (st::rest) (cx++cy):=by
 obtain⟨t1,p1,q1⟩:=h1
 obtain⟨t2,p2,q2⟩:=h2
 refine⟨_,qFp p1 p2,λGe F0 H F σ τ o Dn h s g e=>?_⟩
 rw [qEZ] at h
 obtain⟨o1,e1,e2⟩:=qAa h
 cases o1 with
 | nx σ1=>exact q1 Ge F0 H F σ τ (.nx σ1) { Dn with nx:=t2 Dn } e1 s g fun τ' H' F' k' g' s'=>q2 Ge F0 H' F' σ1 τ' o Dn e2 s' g' (e.mv k')
 | rt r=>cases e2;exact q1 Ge F0 H F σ τ (.rt r) { Dn with nx:=t2 Dn } e1 s g e
 | bk σ1=>cases e2;exact q1 Ge F0 H F σ τ (.bk σ1) { Dn with nx:=t2 Dn } e1 s g e
 | ct σ1=>cases e2;exact q1 Ge F0 H F σ τ (.ct σ1) { Dn with nx:=t2 Dn } e1 s g e
theorem SR.frz1 {K:PySem.W.Frag}{Ge:Gp}{H:Hp}{F F0:Fz}{σ:En}{τ:L2.St}(s:SR K Ge H F σ τ) (g:Gr Ge F0 H F) (i:Nat):∃F',SR K Ge H F' (Dw.frz1 σ i) τ/\Keep H F H F'/\Gr Ge F0 H F':=by
 unfold Dw.frz1
 split
 ·rename_i ds0 hd
  obtain⟨a,ds,vs,eq0,h2,h3,h4,h5,h6⟩:=s.own i _ hd rfl
  cases eq0
  have kp:Keep H F H (λb=>b=a∨F b):=⟨λ_ _ h=>h,λ_ _ f h=>⟨.inr f,h⟩,λ_ _ _ _ h=>h⟩
  refine⟨λb=>b=a∨F b,?_,kp,⟨g.same,λb f=>.inr (g.sub b f),λb f=>f.elim (λz=>.inr (z▸h3)) (g.new b),λb e f=>f.elim (λz=>by subst z;rw [h5] at e;cases e) (g.dom b e)⟩⟩
  have hl:=qA3 hd
  refine⟨by simp [s.len],s.ent,λb e f=>f.elim (λz=>by subst z;rw [h5] at e;cases e) (s.dom b e),λj e hj=>?_,λj e hj hde=>?_,λj l e e' hj hl' hjl=>?_,λj m ks hj=>?_,λp e hp hj=>?_⟩
  ·by_cases hij:i=j
   ·subst hij
    rw [qAt hl] at hj
    cases hj
    exact⟨.ref a,h2,a,vs,rfl,.inl ⟨.inl rfl,.inl h5⟩,RDs.mono kp h6⟩
   ·rw [qAm hij] at hj
    obtain⟨v,q1,q2⟩:=s.val j e hj
    exact⟨v,q1,RD.mono kp q2⟩
  ·have hij:i≠j:=λz=>by subst z;rw [qAt hl] at hj;cases hj
   rw [qAm hij] at hj
   obtain⟨a',ds',vs',p1,p2,p3,p4,p5,p6⟩:=s.own j e hj hde
   refine⟨a',ds',vs',p1,p2,p3,λf=>f.elim (λz=>?_) p4,p5,RDs.mono kp p6⟩
   subst z
   exact hij (s.sep i j _ _ hd hj (by rw [h2,p2]))
  ·have ne:∀{j:Nat} {e:D},qAf (σ.set i (some (false,.lst ds0))) j=some (true,e)->i≠j:=λ{j e} hj z=>by subst z;rw [qAt hl] at hj;cases hj
   have n1:=ne hj
   have n2:=ne hl'
   rw [qAm n1] at hj
   rw [qAm n2] at hl'
   exact s.sep j l e e' hj hl' hjl
  ·have hij:i≠j:=λz=>by subst z;rw [qAt hl] at hj;cases hj
   rw [qAm hij] at hj
   obtain⟨a',p1,p2,p3,p4⟩:=s.dct j m ks hj
   refine⟨a',p1,λf=>f.elim (λz=>?_) p2,p3,p4⟩
   subst z
   rw [h5] at p3
   cases p3
  ·have hij:i≠0:=λz=>by subst z;rw [qAt hl] at hj;cases hj
   rw [qAm hij] at hj
   exact s.pin p e hp hj
 ·exact⟨F,s,Keep.refl,g⟩
theorem SR.frzs {K:PySem.W.Frag}{Ge:Gp}{H:Hp}{F0:Fz}{τ:L2.St}:∀(js:List Nat) {σ:En}{F:Fz},SR K Ge H F σ τ->Gr Ge F0 H F->∃F',SR K Ge H F' (js.foldl Dw.frz1 σ) τ/\Keep H F H F'/\Gr Ge F0 H F'
 | [],σ,F,s,g=>⟨F,s,Keep.refl,g⟩
 | j::js,σ,F,s,g=>by
  obtain⟨F1,s1,k1,g1⟩:=SR.frz1 s g j
  obtain⟨F2,s2,k2,g2⟩:=SR.frzs js s1 g1
  exact⟨F2,s2,k1.trans k2,g2⟩
theorem qA0 {st:Stmt}{mt is:List Nat}{s:S}(h:qFK call X st [s]):qFK call X st (qCD mt is s):=by
 unfold qCD
 split
 ·exact h
 ·obtain⟨t,p,q⟩:=h
  refine⟨t,p,λGe F0 H F σ τ o Dn hv hs g e=>?_⟩
  obtain⟨F',s',k',g'⟩:=SR.frzs (is.filter (mt.contains ·)) hs g
  exact q Ge F0 H F' _ τ o Dn hv s' g' (e.mv k')
end
end Dw
namespace Dw
open PySem PySem.Spec PyProof.Rows L2
section
variable {call:Nat->List D->Option R}{G:Gx}{k:Nat}{X:Cx}{sc sc':Scope}{N:List Str}
theorem qBb (σ:En) (s:S):qAp call σ [s]=evS call σ s:=by
 rw [qAP]
 rcases evS call σ s with _|(_|_|_|_)<;>rfl
theorem SR.bindOwn {K:PySem.W.Frag}{Ge:Gp}{H H1:Hp}{F F1:Fz}{σ:En}{τ:L2.St}{i:Nat}{d:D}{v:V}(h0:i≠0) (s0:SR K Ge H F σ τ) (s:SR K Ge H1 F1 σ τ) (h:RR K H H1 F1 (true,d) v):SR K Ge H1 F1 (σ.set i (some (true,d))) (τ.set i (some v)):=by
 obtain⟨a,ds,vs,rfl,rfl,h3,h4,h5,h6⟩:=h
 have hne:∀{j:Nat} {e:D} {a':Addr},qAf σ j=some (true,e)->τ[j]?=some (some (.ref a'))->a'≠a:=λ{j e a'} hj ht z=>by
  obtain⟨b,u,q2,_,q5⟩:=s0.addr hj
  rw [ht] at q2
  cases q2
  subst z
  rw [h3] at q5
  cases q5
 refine⟨by simp [s.len],s.ent,s.dom,λj e hj=>?_,λj e hj hde=>?_,λj l e e' hj hl hjl=>?_,λj m ks hj=>?_,λp e hp hj=>?_⟩
 ·have hij:i≠j:=λz=>by
   subst z
   rw [qAt (by simpa using qA3 hj)] at hj
   cases hj
  rw [qAm hij] at hj
  obtain⟨u,q1,q2⟩:=s.val j e hj
  exact⟨u,by rw [List.getElem?_set_ne hij];exact q1,q2⟩
 ·by_cases hij:i=j
  ·subst hij
   have hl:i<σ.length:=by simpa using qA3 hj
   rw [qAt hl] at hj
   cases hj
   exact⟨a,ds,vs,rfl,by rw [List.getElem?_set_self (by rw [<-s.len];exact hl)],s0.ent.free h3,h4,h5,h6⟩
  ·rw [qAm hij] at hj
   obtain⟨a',ds',vs',q1,q2,q3⟩:=s.own j e hj hde
   exact⟨a',ds',vs',q1,by rw [List.getElem?_set_ne hij];exact q2,q3⟩
 ·by_cases n1:i=j
  ·by_cases n2:i=l
   ·rw [<-n1,<-n2]
   ·subst n1
    have hl':i<σ.length:=by simpa using qA3 hj
    rw [qAm n2] at hl
    obtain⟨b,u,q2,_⟩:=s.addr hl
    rw [List.getElem?_set_self (by rw [<-s.len];exact hl'),List.getElem?_set_ne n2,q2] at hjl
    cases hjl
    exact absurd rfl (hne hl q2)
  ·rw [qAm n1] at hj
   by_cases n2:i=l
   ·subst n2
    have hl':i<σ.length:=by simpa using qA3 hl
    obtain⟨b,u,q2,_⟩:=s.addr hj
    rw [List.getElem?_set_self (by rw [<-s.len];exact hl'),List.getElem?_set_ne n1,q2] at hjl
    cases hjl
    exact absurd rfl (hne hj q2)
   ·rw [qAm n2] at hl
    rw [List.getElem?_set_ne n1,List.getElem?_set_ne n2] at hjl
    exact s.sep j l e e' hj hl hjl
 ·have hij:i≠j:=λz=>by
   subst z
   rw [qAt (by simpa using qA3 hj)] at hj
   cases hj
  rw [qAm hij] at hj
  obtain⟨a',q1,q2⟩:=s.dct j m ks hj
  exact⟨a',by rw [List.getElem?_set_ne hij];exact q1,q2⟩
 ·rw [qAm h0] at hj
  rw [List.getElem?_set_ne h0]
  exact s.pin p e hp hj
theorem qKD (hG:∀x∈qAI,G.defs.lookup x=none) {n:Nat}(g:XG call G k X sc N) {e:Expr}{c:C}{x:Str}{i:Nat}{keep:Bool}{py spos:Pos}(h0:keep=true->i≠0) (h:cE G n sc N e=some c) (hx:(sc.names.lookup x == some .local||sc.names.lookup x == some .cell)=true) (hsl:qAN N x=some i) :
  qFK call X (.Assign [.Name x py] e spos) [.set i keep c]:=by
 obtain⟨t,p,q⟩:=qL1 (py:=py) (spos:=spos) hG g h hx hsl
 refine⟨t,p,λGe F0 H F σ τ o Dn hv hs gr en=>?_⟩
 rw [qBb,qHv] at hv
 obtain⟨r,e1,e2⟩:=qAa hv
 cases e2
 refine q Ge H F σ τ r Dn e1 hs λv H' F' g' rr=>?_
 obtain⟨b,d⟩:=r
 have froz:qAF keep (b,d)=(false,d)->Dn.nx (τ.set i (some v)) H':=λhk=>by
  obtain⟨F2,g2,rd⟩:=rr.fz g'
  have en':∀τ' H' F',Keep H F H' F'->Gr Ge F0 H' F'->SR X.K Ge H' F' (σ.set i (some (qAF keep (b,d)))) τ'->Dn.nx τ' H':=en
  rw [hk] at en'
  exact en' _ H' F2 g2.keep (gr.trans g2) ((hs.grow g2).bind rd)
 cases b with
 | false=>exact froz (by cases keep<;>rfl)
 | true =>
  cases keep with
  | false=>exact froz rfl
  | true=>exact en _ H' F' g'.keep (gr.trans g') (SR.bindOwn (h0 rfl) hs (hs.grow g') rr)
theorem qDG {H:Hp}{F:Fz}{a:Addr}{vs ws:List V}(h:H a=some (.lst vs)) (hf:¬F a):Keep H F (upd H a (.lst ws)) F:=⟨λp xs q=>by
  have ne:p≠a:=λz=>by subst z;rcases q with q|⟨o,q⟩<;>(rw [h] at q;cases q)
  rcases q with q|⟨o,q⟩
  ·exact .inl (by rw [qAl ne];exact q)
  ·exact .inr ⟨o,by rw [qAl ne];exact q⟩,λp xs f q=>by
  have ne:p≠a:=λz=>by subst z;exact hf f
  refine⟨f,?_⟩
  rcases q with q|⟨o,q⟩
  ·exact .inl (by rw [qAl ne];exact q)
  ·exact .inr ⟨o,by rw [qAl ne];exact q⟩,λp C dx fs q=>by rw [qAl (λz=>by subst z;rw [h] at q;cases q)];exact q⟩
theorem qFr {Ge:Gp}{H:Hp}{F0 F:Fz}{a:Addr}{vs ws:List V}(g:Gr Ge F0 H F) (h:H a=some (.lst vs)) (hg:Ge a=none):Gr Ge F0 (upd H a (.lst ws)) F:=⟨λb o e=>by rw [qAl (qAL e hg)];exact g.same b o e,g.sub,g.new,λb e=>by
  by_cases z:b=a
  ·subst z;rw [qAG] at e;cases e
  ·rw [qAl z] at e;exact g.dom b e⟩
theorem qJ1 {K:PySem.W.Frag}{Ge:Gp}{H:Hp}{F0 F:Fz}{σ:En}{τ:L2.St}{i:Nat}{a:Addr}{ds es:List D}{vs ws:List V}(s:SR K Ge H F σ τ) (g:Gr Ge F0 H F) (hi:qAf σ i=some (true,.lst ds)) (ht:τ[i]?=some (some (.ref a))) (hg:Ge a=none) (hf:¬F a) (h:H a=some (.lst vs)) (r:RDs K H F es ws) :
  SR K Ge (upd H a (.lst ws)) F (σ.set i (some (true,.lst es))) τ:=by
 have kp:=qDG (ws:=ws) h hf
 have hl:=qA3 hi
 refine⟨by simp [s.len],(qFr (ws:=ws) g h hg).same,(qFr (ws:=ws) g h hg).dom,λj e hj=>?_,λj e hj hde=>?_,λj l e e' hj hl' hjl=>?_,λj m ks hj=>?_,λp e hp hj=>?_⟩
 ·have hij:i≠j:=λz=>by subst z;rw [qAt hl] at hj;cases hj
  rw [qAm hij] at hj
  obtain⟨v,q1,q2⟩:=s.val j e hj
  exact⟨v,q1,RD.mono kp q2⟩
 ·by_cases hij:i=j
  ·subst hij
   rw [qAt hl] at hj
   cases hj
   exact⟨a,es,ws,rfl,ht,hg,hf,qAG,RDs.mono kp r⟩
  ·rw [qAm hij] at hj
   obtain⟨a',ds',vs',p1,p2,p3,p4,p5,p6⟩:=s.own j e hj hde
   have ne:a'≠a:=λz=>by subst z;exact hij (s.sep i j _ _ hi hj (by rw [ht,p2]))
   exact⟨a',ds',vs',p1,p2,p3,p4,by rw [qAl ne];exact p5,RDs.mono kp p6⟩
 ·have back:∀{j:Nat} {e:D},qAf (σ.set i (some (true,.lst es))) j=some (true,e)->∃e',qAf σ j=some (true,e'):=λ{j e} hj=>by
   by_cases hij:i=j
   ·subst hij;exact⟨_,hi⟩
   ·rw [qAm hij] at hj;exact⟨e,hj⟩
  obtain⟨_,b1⟩:=back hj
  obtain⟨_,b2⟩:=back hl'
  exact s.sep j l _ _ b1 b2 hjl
 ·have hij:i≠j:=λz=>by subst z;rw [qAt hl] at hj;cases hj
  rw [qAm hij] at hj
  obtain⟨a',p1,p2,p3,p4⟩:=s.dct j m ks hj
  have ne:a'≠a:=λz=>by subst z;rw [h] at p3;cases p3
  exact⟨a',p1,p2,by rw [qAl ne];exact p3,p4⟩
 ·by_cases hij:i=0
  ·subst hij;exact s.pin p _ hp hi
  ·rw [qAm hij] at hj;exact s.pin p e hp hj
theorem qBD {K:PySem.W.Frag}{Ge:Gp}{H:Hp}{F:Fz}{σ:En}{τ:L2.St}{i:Nat}{ds:List D}(s:SR K Ge H F σ τ) (h:qAf σ i=some (true,.lst ds)):∃a vs,τ[i]?=some (some (.ref a))/\Ge a=none/\¬F a/\H a=some (.lst vs)/\RDs K H F ds vs:=by
 obtain⟨a,ds',vs,e,h2,h3,h4,h5,h6⟩:=s.own i _ h rfl
 cases e
 exact⟨a,vs,h2,h3,h4,h5,h6⟩
theorem qCg {H H':Hp}{F F':Fz}{a b:Addr}{u:HO}(g:Gr (del H a) F H' F') (ne:b≠a) (q:H b=some u):H' b=some u:=g.same _ _ (by unfold del;rw [if_neg ne];exact q)
theorem qEd {H H':Hp}{F F':Fz}{a:Addr}{vs:List V}(h:H a=some (.lst vs)) (hf:¬F a) (g:Gr (del H a) F H' F'):Keep H F H' F':=⟨λp xs q=>by
  have ne:p≠a:=λz=>by subst z;rcases q with q|⟨o,q⟩<;>(rw [h] at q;cases q)
  rcases q with q|⟨o,q⟩
  ·exact .inl (qCg g ne q)
  ·exact .inr ⟨o,qCg g ne q⟩,λp xs f q=>by
  have ne:p≠a:=λz=>by subst z;exact hf f
  refine⟨g.sub _ f,?_⟩
  rcases q with q|⟨o,q⟩
  ·exact .inl (qCg g ne q)
  ·exact .inr ⟨o,qCg g ne q⟩,λp C dx fs q=>qCg g (λz=>by subst z;rw [h] at q;cases q) q⟩
theorem qLE {Ge:Gp}{H H':Hp}{F0 F F':Fz}{a:Addr}(g:Gr Ge F0 H F) (hg:Ge a=none) (g2:Gr (del H a) F H' F'):Gr Ge F0 H' F':=
 ⟨λb o e=>qCg g2 (qAL e hg) (g.same b o e),λb f=>g2.sub b (g.sub b f),λb f=>(g2.new b f).elim (λz=>g.new b z) λz=>by
  by_cases e:b=a
  ·subst e;exact .inr hg
  ·unfold del at z;rw [if_neg e] at z;exact .inr (g.same.free z),g2.dom⟩
theorem qLD {K:PySem.W.Frag}{Ge:Gp}{H H':Hp}{F F':Fz}{σ:En}{τ:L2.St}{i:Nat}{a:Addr}{ds es:List D}{vs ws:List V}(s:SR K Ge H F σ τ) (hi:qAf σ i=some (true,.lst ds)) (ht:τ[i]?=some (some (.ref a))) (hg:Ge a=none) (hf:¬F a) (h:H a=some (.lst vs)) (g2:Gr (del H a) F H' F') (h':H' a=some (.lst ws)) (hf':¬F' a) (r:RDs K H' F' es ws) :
  SR K Ge H' F' (σ.set i (some (true,.lst es))) τ:=by
 have kp:=qEd h hf g2
 have hl:=qA3 hi
 have nf:∀{b:Addr} {u:HO},b≠a->H b=some u->¬F b->¬F' b:=λ{b u} ne q hb z=>(g2.new b z).elim hb λz=>by
  unfold del at z
  rw [if_neg ne,q] at z
  cases z
 refine⟨by simp [s.len],λb o e=>qCg g2 (qAL e hg) (s.ent b o e),g2.dom,λj e hj=>?_,λj e hj hde=>?_,λj l e e' hj hl' hjl=>?_,λj m ks hj=>?_,λp e hp hj=>?_⟩
 ·have hij:i≠j:=λz=>by subst z;rw [qAt hl] at hj;cases hj
  rw [qAm hij] at hj
  obtain⟨v,q1,q2⟩:=s.val j e hj
  exact⟨v,q1,RD.mono kp q2⟩
 ·by_cases hij:i=j
  ·subst hij
   rw [qAt hl] at hj
   cases hj
   exact⟨a,es,ws,rfl,ht,hg,hf',h',r⟩
  ·rw [qAm hij] at hj
   obtain⟨a',ds',vs',p1,p2,p3,p4,p5,p6⟩:=s.own j e hj hde
   have ne:a'≠a:=λz=>by subst z;exact hij (s.sep i j _ _ hi hj (by rw [ht,p2]))
   exact⟨a',ds',vs',p1,p2,p3,nf ne p5 p4,qCg g2 ne p5,RDs.mono kp p6⟩
 ·have back:∀{j:Nat} {e:D},qAf (σ.set i (some (true,.lst es))) j=some (true,e)->∃e',qAf σ j=some (true,e'):=λ{j e} hj=>by
   by_cases hij:i=j
   ·subst hij;exact⟨_,hi⟩
   ·rw [qAm hij] at hj;exact⟨e,hj⟩
  obtain⟨_,b1⟩:=back hj
  obtain⟨_,b2⟩:=back hl'
  exact s.sep j l _ _ b1 b2 hjl
 ·have hij:i≠j:=λz=>by subst z;rw [qAt hl] at hj;cases hj
  rw [qAm hij] at hj
  obtain⟨a',p1,p2,p3,p4⟩:=s.dct j m ks hj
  have ne:a'≠a:=λz=>by subst z;rw [h] at p3;cases p3
  exact⟨a',p1,nf ne p3 p2,qCg g2 ne p3,p4⟩
 ·by_cases hij:i=0
  ·subst hij;exact s.pin p _ hp hi
  ·rw [qAm hij] at hj;exact s.pin p e hp hj
theorem qDF {r:R}{xs:List D}(h:qIl r=some xs):r=(true,.lst xs):=by
 unfold qIl at h
 split at h
 ·cases h;rfl
 ·cases h
theorem qKO {n:Nat}(A:AllE call G k n) (g:XG call G k X sc N) {f x:Str}{fi i:Nat}(hf:G.defs.lookup f=some fi) (hg:glB sc f=true) (hd:(f == ("__debug__":Str))=false) {as:List Expr}{cs:List C}{p p2 pos spos:Pos}(hv:qBh sc N x=some i) (h:cEs G n sc N as=some cs) :
  qFK call X (.Expr (.Call (.Name f p) (.Name x p2::as) [] pos) spos) [.hnd i fi cs]:=by
 obtain⟨h1,h2,h3,h4⟩:=qCm g hv
 obtain⟨a1,_,hn,_⟩:=A.a X sc N as cs g h
 obtain⟨a,fd,ps,hm,hk,hb,hF,hl⟩:=(g.hnd f fi hf).ex
 obtain⟨t,pt,q⟩:=a1
 refine⟨_,qGR (qG0 hF g.room (g.gl f hg) hm hk hb .nil qF0 (qBl (qB1 (pos:=p2) (i:=i) h1 h2 h3 h4) pt (qAB rfl)) hd (qAB rfl) (qBs hn)),λGe F0 H F σ τ o Dn hv hs gr en=>?_⟩
 rw [qBb,qHy] at hv
 obtain⟨r,er,hv⟩:=qAa hv
 obtain⟨xs,ex,hv⟩:=qAa hv
 obtain⟨ys,ey,hv⟩:=qAa hv
 obtain⟨⟨b,d⟩,ec,hv⟩:=qAa hv
 rw [qDF ex] at er
 cases d with
 | lst zs =>
  cases hv
  obtain⟨a',vs,q1,q2,q3,q4,q5⟩:=qBD hs er
  refine⟨.ref a',q1,?_⟩
  refine q Ge H F σ τ ys _ ey hs λws H1 F1 g1 rs=>?_
  have s1:=hs.grow g1
  obtain⟨a2,vs',q1',q2',q3',q4',q5'⟩:=qBD s1 er
  rw [q1] at q1'
  cases q1'
  show spH X.K ps.length (call (fi+HX)) ((V.ref a'::ws)++[]) H1 _ _
  rw [List.append_nil]
  refine⟨by rw [List.length_cons,RDs.length rs];exact hl _ _ ec,F1,a',xs,ys,zs,vs',ws,b,rfl,g1.dom,q4',q3',q5',rs,ec,λH' F' us g2 h' hf' r'=>?_⟩
  exact en _ H' F' (g1.keep.trans (qEd q4' q3' g2)) (qLE (gr.trans g1) q2' g2) (qLD s1 er q1 q2' q3' q4' g2 h' hf' r')
 | _=>cases hv
theorem qKS {n:Nat}(A:AllE call G k n) (g:XG call G k X sc N) {x m:Str}{i:Nat}{p p2 p3 spos:Pos}{e:Expr}{c:C}(hm:m=Str.ofString "append") (hln:(p2.endLine == p3.line)=true) (hv:qBh sc N x=some i) (h:cE G n sc N e=some c) :
  qFK call X (.Expr (.Call (.Attribute (.Name x p) m p2) [e] [] p3) spos) [.app i c]:=by
 subst hm
 obtain⟨h1,h2,h3,h4⟩:=qCm g hv
 obtain⟨te,pe,qe⟩:=(A.e X sc N e c g h).he
 have pn:PE X (.Name x p) (qOp i):=qB1 h1 h2 h3 h4
 have hst:=qAB (env:=X.env) (es:=[]) (qB6 h)
 refine⟨_,qGR (qK6 PySem.F.plainAttrs_list PySem.F.slot_list_append PySem.F.type_list_append qCN pn (qBl pe qCo hst) (hfew:=by rw [hst];rfl) (hline:=hln) (hs:=hst)),λGe F0 H F σ τ o Dn hvv hs gr en=>?_⟩
 rw [qBb,qHz] at hvv
 obtain⟨r,e1,e2⟩:=qAa hvv
 unfold qJC at e2
 split at e2
 ·rename_i xs hg
  split at e2
  ·rename_i hlt
   cases e2
   obtain⟨a,vs,q1,q2,q3,q4,q5⟩:=qBD hs hg
   refine⟨.ref a,q1,.inl ⟨rfl,_,SqL.of q4⟩,?_⟩
   refine qe Ge H F σ τ r _ e1 hs λv H1 F1 g1 rr=>?_
   obtain⟨F2,g2,rd⟩:=rr.fz g1
   have s2:=hs.grow g2
   obtain⟨a',vs',q1',q2',q3',q4',q5'⟩:=qBD s2 hg
   rw [q1] at q1'
   cases q1'
   have gr2:=gr.trans g2
   refine⟨a,vs',v,rfl,rfl,q4',by rw [RDs.length q5'];exact hlt,?_⟩
   exact en _ _ F2 (g2.keep.trans (qDG q4' q3')) (qFr gr2 q4' q2') (qJ1 s2 gr2 hg q1 q2' q3' q4' (RDs.append q5' ⟨v,[],rfl,rd,rfl⟩))
  ·cases e2
 ·cases e2
section
open AutoSeq1
end
theorem RDs.last {K:PySem.W.Frag}{H:Hp}{F:Fz}{ds:List D}{vs:List V}{d:D}(h:RDs K H F ds vs) (e:ds.getLast?=some d):∃v,vs[vs.length - 1]?=some v/\RD K H F d v:=by
 rw [List.getLast?_eq_getElem?] at e
 obtain⟨v,e1,e2⟩:=RDs.get h e
 exact⟨v,by rw [RDs.length h];exact e1,e2⟩
theorem RDs.init {K:PySem.W.Frag}{H:Hp}{F:Fz}{ds:List D}{vs:List V}(h:RDs K H F ds vs):RDs K H F ds.dropLast vs.dropLast:=by
 rw [List.dropLast_eq_take,List.dropLast_eq_take,RDs.length h]
 exact RDs.take _ h
theorem qGC (g:XG call G k X sc N) {tg:Expr}{x m:Str}{i:Nat}{p p2 p3 spos:Pos}{t:Tg}(hm:m=Str.ofString "pop") (hln:(p2.endLine == p3.line)=true) (ht:tgM sc N tg=some t) (hv:qBh sc N x=some i) (h1':swapsWithSole [tg] (.Call (.Attribute (.Name x p) m p2) [] [] p3) spos.line X.env=pure false) (h2':swappedStores [tg] (.Call (.Attribute (.Name x p) m p2) [] [] p3) X.env=pure none) (h3':(assignEach [tg] X.env).map (·.2)=[assign tg X.env]) :
  qFK call X (.Assign [tg] (.Call (.Attribute (.Name x p) m p2) [] [] p3) spos) [.pop t i]:=by
 subst hm
 obtain⟨h1,h2,h3,h4⟩:=qCm g hv
 have pn:PE X (.Name x p) (qOp i):=qB1 h1 h2 h3 h4
 refine⟨_,qMU (qM5 PySem.F.plainAttrs_list PySem.F.slot_list_pop PySem.F.type_list_pop qNn pn (hline:=hln)) (qGA g ht) h1' h2' h3',λGe F0 H F σ τ o Dn hvv hs gr en=>?_⟩
 rw [qBb,qHw] at hvv
 unfold qOt at hvv
 split at hvv
 ·rename_i xs hg
  obtain⟨d,e1,e2⟩:=qAa hvv
  obtain⟨σ',e3,e4⟩:=Option.map_eq_some_iff.mp e2
  subst e4
  obtain⟨a,vs,q1,q2,q3,q4,q5⟩:=qBD hs hg
  obtain⟨y,l1,l2⟩:=RDs.last q5 e1
  refine⟨.ref a,q1,.inl ⟨rfl,_,SqL.of q4⟩,a,vs,y,rfl,rfl,q4,l1,?_⟩
  have kp:=qDG (ws:=vs.dropLast) q4 q3
  have gr2:=qFr (ws:=vs.dropLast) gr q4 q2
  exact qB8 (qJ1 hs gr hg q1 q2 q3 q4 (RDs.init q5)) e3 (RD.mono kp l2) fun τ' s'=>en τ' _ F kp gr2 s'
 ·cases hvv
theorem qGz {n:Nat}(A:AllE call G k n) (g:XG call G k X sc N) {t:Expr}{c:C}{body:List Stmt}{cb:List S}{spos:Pos}(h:cE G n sc N t=some c) (hb:qJG call X body cb):qFK call X (.While t body [] spos) [.whl c cb]:=by
 obtain⟨tt,pt,qt⟩:=(A.e X sc N t c g h).ht
 obtain⟨tb,pb,qb⟩:=hb
 refine⟨_,qIM (by rw [g.xe];exact PassesOwn.never) pt pb,λGe F0 H F σ τ o Dn hvv hs gr en=>?_⟩
 rw [qBb,qHu] at hvv
 refine⟨λm τ' H'=>∃F' σ',SR X.K Ge H' F' σ' τ'/\Gr Ge F0 H' F'/\Keep H F H' F'/\qDq (fun σ'=>evE call σ' c) (fun σ'=>qAp call σ' cb) m σ'=some o,⟨big,F,σ,hs,gr,Keep.refl,hvv⟩,?_⟩
 rintro m τ' H' ⟨F',σ',sr',gr',kp',ev'⟩
 cases m with
 | zero=>cases ev'
 | succ m =>
  obtain⟨⟨x,d⟩,e1,e2⟩:=qAa (show ((evE call σ' c).bind (qOB σ' ((qAp call σ' cb).bind (qI8 (qDq (fun σ'=>evE call σ' c) (fun σ'=>qAp call σ' cb) m)))))=some o from ev')
  cases d with
  | bl b =>
   refine qt Ge H' F' σ' τ' x b _ e1 sr' λH1 F1 g1=>?_
   cases b with
   | false =>
    cases e2
    exact qNC (en τ' H1 F1 (kp'.trans g1.keep) (gr'.trans g1) (sr'.grow g1))
   | true =>
    obtain⟨o1,b2,e3⟩:=qAa (show ((qAp call σ' cb).bind (qI8 (qDq (fun σ'=>evE call σ' c) (fun σ'=>qAp call σ' cb) m)))=some o from e2)
    refine qNB ?_
    cases o1 with
    | nx σ2=>exact⟨fun τ2 H2=>∃F2,SR X.K Ge H2 F2 σ2 τ2/\Gr Ge F0 H2 F2/\Keep H F H2 F2,fun τ2 H2 ⟨F2,q1,q2,q3⟩=>⟨m,by omega,F2,σ2,q1,q2,q3,e3⟩,qb Ge F0 H1 F1 σ' τ' (.nx σ2) _ b2 (sr'.grow g1) (gr'.trans g1) fun τ5 H5 F5 k5 g5 s5=>⟨F5,s5,g5,(kp'.trans g1.keep).trans k5⟩⟩
    | ct σ2=>exact⟨fun τ2 H2=>∃F2,SR X.K Ge H2 F2 σ2 τ2/\Gr Ge F0 H2 F2/\Keep H F H2 F2,fun τ2 H2 ⟨F2,q1,q2,q3⟩=>⟨m,by omega,F2,σ2,q1,q2,q3,e3⟩,qb Ge F0 H1 F1 σ' τ' (.ct σ2) _ b2 (sr'.grow g1) (gr'.trans g1) fun τ5 H5 F5 k5 g5 s5=>⟨F5,s5,g5,(kp'.trans g1.keep).trans k5⟩⟩
    | bk σ2 =>
     cases e3
     exact⟨λ_ _=>False,λ_ _ z=>z.elim,qb Ge F0 H1 F1 σ' τ' (.bk σ2) _ b2 (sr'.grow g1) (gr'.trans g1) fun τ5 H5 F5 k5 g5 s5=>en τ5 H5 F5 ((kp'.trans g1.keep).trans k5) g5 s5⟩
    | rt r =>
     cases e3
     exact⟨λ_ _=>False,λ_ _ z=>z.elim,qb Ge F0 H1 F1 σ' τ' (.rt r) _ b2 (sr'.grow g1) (gr'.trans g1) en⟩
  | _=>cases e2
theorem qKG (hG:∀x∈qAI,G.defs.lookup x=none) {n:Nat}(g:XG call G k X sc N) {e:Expr}{c:C}{spos:Pos}(h:cE G n sc N e=some c):qFK call X (.Return (some e) spos) [.ret c]:=by
 have ok:=(qDp (call:=call) (k:=k) hG n).e X sc N e c g h
 by_cases hc:∃i,c=.v i
 ·obtain⟨i,rfl⟩:=hc
  cases n with
  | zero=>cases h
  | succ n =>
   have hn:∃x p,e=.Name x p/\qBh sc N x=some i:=by
    rcases ok.nv with ⟨x,p,rfl⟩|z
    ·exact⟨x,p,rfl,qLR h⟩
    ·exact absurd rfl (z i)
   obtain⟨x,p,rfl,hv⟩:=hn
   obtain⟨h1,h2,h3,h4⟩:=qCm g hv
   refine⟨_,qJW (qB1 h1 h2 h3 h4),λGe F0 H F σ τ o Dn hvv hs gr en=>?_⟩
   rw [qBb,qE0] at hvv
   obtain⟨r,e1,e2⟩:=qAa hvv
   cases e2
   have e1:(qAf σ i).bind rtR=some r:=e1
   obtain⟨⟨b,d⟩,e0,e1⟩:=qAa e1
   cases b with
   | false =>
    cases e1
    obtain⟨v,q1,q2⟩:=hs.val i d e0
    exact⟨v,q1,en v H F gr q2⟩
   | true =>
    cases d with
    | lst ds0 =>
     cases e1
     obtain⟨a,ds,vs,q1,q2,q3,q4,q5,q6⟩:=hs.own i _ e0 rfl
     exact⟨.ref a,q2,en _ H F gr ⟨a,ds,vs,q1,rfl,q3,q4,q5,q6⟩⟩
    | _=>cases e1
 ·obtain⟨te,pe,qe⟩:=ok.he
  refine⟨_,qJW pe,λGe F0 H F σ τ o Dn hvv hs gr en=>?_⟩
  rw [qBb,qE0] at hvv
  obtain⟨r,e1,e2⟩:=qAa hvv
  cases e2
  have e1':evE call σ c=some r:=by
   cases c with
   | v i=>exact absurd ⟨i,rfl⟩ hc
   | _=>exact e1
  exact qe Ge H F σ τ r _ e1' hs λv H' F' g' rr=>en v H' F' (gr.trans g') (rr.back hs.ent)
theorem qMD {n:Nat}(A:AllE call G k n) (g:XG call G k X sc N) {t:Expr}{c:C}{a b:List Stmt}{ca cb:List S}{spos:Pos}(h:cE G n sc N t=some c) (ha:qJG call X a ca) (hb:qJG call X b cb):qFK call X (.If t a b spos) [.ite c ca cb]:=by
 obtain⟨tt,pt,qt⟩:=(A.e X sc N t c g h).ht
 obtain⟨ta,pa,qa⟩:=ha
 obtain⟨tb,pb,qb⟩:=hb
 refine⟨_,qMS pt pa pb,λGe F0 H F σ τ o Dn hvv hs gr en=>?_⟩
 rw [qBb,qHx] at hvv
 obtain⟨r,e1,e2⟩:=qAa hvv
 obtain⟨x,d⟩:=r
 cases d with
 | bl bb =>
  refine qt Ge H F σ τ x bb _ e1 hs λH' F' g'=>?_
  cases bb with
  | true=>exact qNB (qa Ge F0 H' F' σ τ o Dn e2 (hs.grow g') (gr.trans g') (en.mv g'.keep))
  | false=>exact qNC (qb Ge F0 H' F' σ τ o Dn e2 (hs.grow g') (gr.trans g') (en.mv g'.keep))
 | _=>cases e2
theorem qGI (g:XG call G k X sc N) {tg it:Expr}{t:Tg}{b:Bool}{src:En->Option (List D)}{body:List Stmt}{cb:List S}{s:S}{spos:Pos}(ht:tgM sc N tg=some t) (hi:qGg X tg it b src) (hf:∀x,foldedSetIterable it X.env x=pure x) (hb:qJG call X body cb)
  (hv:∀σ o,evS call σ s=some o->∃its,src σ=some its/\qBp call cb t its σ=some o):qFK call X (.For tg it body [] spos) [s]:=by
 obtain⟨wi,pi,qi⟩:=hi
 obtain⟨tb,pb,qb⟩:=hb
 have pg:=qGA g ht
 refine⟨_,qJX (by rw [g.xe];exact PassesOwn.never) g.calm pi pg pb hf,λGe F0 H F σ τ o Dn hvv hs gr en=>?_⟩
 rw [qBb] at hvv
 obtain⟨its,e1,e2⟩:=hv σ o hvv
 refine qi Ge H F σ τ its _ e1 hs λJ H1 F1 g1 ok1 _=>?_
 refine⟨λi m τ' H'=>i<=its.length/\m=its.length - i/\∃F' σ',SR X.K Ge H' F' σ' τ'/\Gr Ge F0 H' F'/\Keep H1 F1 H' F'/\qBp call cb t (its.drop i) σ'=some o,⟨its.length,Nat.zero_le _,rfl,F1,σ,hs.grow g1,gr.trans g1,Keep.refl,by simpa using e2⟩,?_⟩
 rintro i m τ' H' ⟨hi,rfl,F',σ',sr',gr',kp',ev'⟩
 obtain⟨okI,okS⟩:=ok1 H' F' kp' gr'.dom
 by_cases hlt:i<its.length
 ·refine .inr ?_
  have hdi:its[i]?=some its[i]:=List.getElem?_eq_getElem hlt
  obtain⟨go,yl⟩:=okI i _ hdi
  have hdr:its.drop i=its[i]::its.drop (i+1):=List.drop_eq_getElem_cons hlt
  rw [hdr,qBV] at ev'
  obtain⟨σ1,b1,ev'⟩:=qAa ev'
  obtain⟨o1,b2,ev'⟩:=qAa ev'
  cases o1 with
  | nx σ2 =>
   refine⟨go,fun τ2 H2=>∃F2,SR X.K Ge H2 F2 σ2 τ2/\Gr Ge F0 H2 F2/\Keep H1 F1 H2 F2,fun τ2 H2 ⟨F2,q1,q2,q3⟩=>⟨its.length - (i+1),by omega,hlt,rfl,F2,σ2,q1,q2,q3,ev'⟩,λx H3 y=>?_⟩
   obtain⟨F3,g3,rd3⟩:=yl x H3 y
   refine qB8 (sr'.grow g3) b1 rd3 fun τ4 s4=>?_
   exact qb Ge F0 H3 F3 σ1 τ4 (.nx σ2) _ b2 s4 (gr'.trans g3) fun τ5 H5 F5 k5 g5 s5=>⟨F5,s5,g5,(kp'.trans g3.keep).trans k5⟩
  | rt r =>
   cases ev'
   refine⟨go,λ_ _=>False,λ_ _ z=>z.elim,λx H3 y=>?_⟩
   obtain⟨F3,g3,rd3⟩:=yl x H3 y
   refine qB8 (sr'.grow g3) b1 rd3 fun τ4 s4=>?_
   exact qb Ge F0 H3 F3 σ1 τ4 (.rt r) _ b2 s4 (gr'.trans g3) en
  | ct σ2 =>
   refine⟨go,fun τ2 H2=>∃F2,SR X.K Ge H2 F2 σ2 τ2/\Gr Ge F0 H2 F2/\Keep H1 F1 H2 F2,fun τ2 H2 ⟨F2,q1,q2,q3⟩=>⟨its.length - (i+1),by omega,hlt,rfl,F2,σ2,q1,q2,q3,ev'⟩,λx H3 y=>?_⟩
   obtain⟨F3,g3,rd3⟩:=yl x H3 y
   refine qB8 (sr'.grow g3) b1 rd3 fun τ4 s4=>?_
   exact qb Ge F0 H3 F3 σ1 τ4 (.ct σ2) _ b2 s4 (gr'.trans g3) fun τ5 H5 F5 k5 g5 s5=>⟨F5,s5,g5,(kp'.trans g3.keep).trans k5⟩
  | bk σ2 =>
   cases ev'
   refine⟨go,λ_ _=>False,λ_ _ z=>z.elim,λx H3 y=>?_⟩
   obtain⟨F3,g3,rd3⟩:=yl x H3 y
   refine qB8 (sr'.grow g3) b1 rd3 fun τ4 s4=>?_
   exact qb Ge F0 H3 F3 σ1 τ4 (.bk σ2) _ b2 s4 (gr'.trans g3) fun τ5 H5 F5 k5 g5 s5=>en τ5 H5 F5 (((g1.keep.trans kp').trans g3.keep).trans k5) g5 s5
 ·have hin:i=its.length:=by omega
  subst hin
  rw [List.drop_of_length_le (Nat.le_refl _)] at ev'
  cases ev'
  exact .inl ⟨okS,en τ' H' F' (g1.keep.trans kp') gr' sr'⟩
theorem qEf {σ:En}{i:Nat}:qAf (σ.set i none) i=none:=by
 by_cases h:i<σ.length
 ·exact qAt h
 ·unfold qAf;rw [List.getElem?_eq_none (by rw [List.length_set];omega)];rfl
theorem qHj {K:PySem.W.Frag}{Ge:Gp}{H:Hp}{F:Fz}{σ:En}{τ:L2.St}{i:Nat}{a:Addr}{ds:List D}{vs:List V}(s:SR K Ge H F σ τ) (hi:qAf σ i=some (true,.lst ds)) (ht:τ[i]?=some (some (.ref a))) (h:H a=some (.lst vs)) :
  SR K ⟨upd Ge.h a (.lst vs),Ge.pin⟩ H F (σ.set i none) τ:=by
 have ne:∀{j:Nat} {r:R},qAf (σ.set i none) j=some r->i≠j:=λ{j r} hj z=>by subst z;rw [qEf] at hj;cases hj
 refine⟨by simp [s.len],λb o e=>?_,s.dom,λj e hj=>?_,λj e hj hde=>?_,λj l e e' hj hl hjl=>?_,λj m ks hj=>?_,λp e hp hj=>?_⟩
 ·by_cases hb:b=a
  ·subst hb
   have e:upd Ge.h b (.lst vs) b=some o:=e
   rw [qAG] at e
   cases e
   exact h
  ·have e:upd Ge.h a (.lst vs) b=some o:=e
   rw [qAl hb] at e
   exact s.ent b o e
 ·have n:=ne hj
  rw [qAm n] at hj
  exact s.val j e hj
 ·have n:=ne hj
  rw [qAm n] at hj
  obtain⟨a',ds',vs',p1,p2,p3,p4,p5,p6⟩:=s.own j e hj hde
  have na:a'≠a:=λz=>by subst z;exact n (s.sep i j _ _ hi hj (by rw [ht,p2]))
  exact⟨a',ds',vs',p1,p2,by show upd Ge.h a _ a'=none;rw [qAl na];exact p3,p4,p5,p6⟩
 ·have n1:=ne hj
  have n2:=ne hl
  rw [qAm n1] at hj
  rw [qAm n2] at hl
  exact s.sep j l e e' hj hl hjl
 ·have n:=ne hj
  rw [qAm n] at hj
  obtain⟨a',p1,p2,p3,p4⟩:=s.dct j m ks hj
  have na:a'≠a:=λz=>by subst z;rw [h] at p3;cases p3
  exact⟨a',p1,p2,p3,λhm=>by show upd Ge.h a _ a'=none;rw [qAl na];exact p4 hm⟩
 ·have n:=ne hj
  rw [qAm n] at hj
  exact s.pin p e hp hj
theorem qLY {K:PySem.W.Frag}{Ge:Gp}{H:Hp}{F:Fz}{σ:En}{τ:L2.St}{i:Nat}{a:Addr}{ds:List D}{vs:List V}(s:SR K ⟨upd Ge.h a (.lst vs),Ge.pin⟩ H F σ τ) (hi:qAf σ i=none) (hl:i<σ.length) (ht:τ[i]?=some (some (.ref a))) (hg:Ge a=none) (hf:¬F a) (h:H a=some (.lst vs)) (r:RDs K H F ds vs) (hp0:∀p,Ge.pin=some p->i=0->p=a) :
  SR K Ge H F (σ.set i (some (true,.lst ds))) τ:=by
 have na:∀{j:Nat} {e:D},qAf σ j=some (true,e)->∃a',τ[j]?=some (some (.ref a'))/\a'≠a:=λ{j e} hj=>by
  cases hd:qJ8 e with
  | false =>
   obtain⟨a',ds',vs',p1,p2,p3,p4,p5,p6⟩:=s.own j e hj hd
   refine⟨a',p2,λz=>?_⟩
   subst z
   have p3:upd Ge.h a' (.lst vs) a'=none:=p3
   rw [qAG] at p3
   cases p3
  | true =>
   cases e with
   | dct m ks =>
    obtain⟨a',p1,p2,p3,p4⟩:=s.dct j m ks hj
    exact⟨a',p1,λz=>by subst z;rw [h] at p3;cases p3⟩
   | _=>cases hd
 refine⟨by simp [s.len],λb o e=>s.ent b o ?_,s.dom,λj e hj=>?_,λj e hj hde=>?_,λj l e e' hj hl' hjl=>?_,λj m ks hj=>?_,λp e hp hj=>?_⟩
 ·have nb:b≠a:=λz=>by subst z;rw [hg] at e;cases e
  show upd Ge.h a _ b=some o
  rw [qAl nb]
  exact e
 ·have n:i≠j:=λz=>by subst z;rw [qAt hl] at hj;cases hj
  rw [qAm n] at hj
  exact s.val j e hj
 ·by_cases n:i=j
  ·subst n
   rw [qAt hl] at hj
   cases hj
   exact⟨a,ds,vs,rfl,ht,hg,hf,h,r⟩
  ·rw [qAm n] at hj
   obtain⟨a',ds',vs',p1,p2,p3,p4,p5,p6⟩:=s.own j e hj hde
   obtain⟨a2,w1,w2⟩:=na hj
   rw [p2] at w1
   cases w1
   have p3:upd Ge.h a (.lst vs) a'=none:=p3
   rw [qAl w2] at p3
   exact⟨a',ds',vs',p1,p2,p3,p4,p5,p6⟩
 ·by_cases n1:i=j
  ·by_cases n2:i=l
   ·rw [<-n1,<-n2]
   ·subst n1
    rw [qAm n2] at hl'
    obtain⟨a2,w1,w2⟩:=na hl'
    rw [ht,w1] at hjl
    cases hjl
    exact absurd rfl w2
  ·rw [qAm n1] at hj
   by_cases n2:i=l
   ·subst n2
    obtain⟨a2,w1,w2⟩:=na hj
    rw [ht,w1] at hjl
    cases hjl
    exact absurd rfl w2
   ·rw [qAm n2] at hl'
    exact s.sep j l e e' hj hl' hjl
 ·have n:i≠j:=λz=>by subst z;rw [qAt hl] at hj;cases hj
  rw [qAm n] at hj
  obtain⟨a',p1,p2,p3,p4⟩:=s.dct j m ks hj
  refine⟨a',p1,p2,p3,λhm=>?_⟩
  have nb:a'≠a:=λz=>by subst z;rw [h] at p3;cases p3
  have p4:upd Ge.h a (.lst vs) a'=none:=p4 hm
  rw [qAl nb] at p4
  exact p4
 ·by_cases n:i=0
  ·subst n
   rw [hp0 p hp rfl]
   exact ht
  ·rw [qAm n] at hj
   exact s.pin p e hp hj
theorem qHo {mt:List Nat}{tg it:Expr}{body:List Stmt}{i j:Nat}{t:Expr}{a:List Stmt}(h:qLH mt sc N tg it body=some (i,j,t,a)):∃x px l pl pi,tg=.Name x px/\it=.Name l pl/\body=[.If t a [] pi]/\qBh sc N l=some i/\(sc.names.lookup x == some .local||sc.names.lookup x == some .cell)=true/\qAN N x=some j:=by
 unfold qLH at h
 split at h
 ·obtain⟨i',e1,h⟩:=qAa h
  split at h
  ·rename_i hx
   rw [Bool.and_eq_true] at hx
   obtain⟨j',e2,h⟩:=qAa h
   cases h
   exact⟨_,_,_,_,_,rfl,rfl,rfl,e1,hx.2,e2⟩
  ·cases h
 ·cases h
theorem qIE {n:Nat}(A:AllE call G k n) (g:XG call G k X sc N) {x l:Str}{px pl pi spos:Pos}{t:Expr}{st:List Stmt}{c:C}{ca:List S}{i j:Nat}(hl:qBh sc N l=some i) (hx:(sc.names.lookup x == some .local||sc.names.lookup x == some .cell)=true) (hj:qAN N x=some j) (hc:cE G n sc N t=some c) (ha:qJG call X st ca) :
  qFK call X (.For (.Name x px) (.Name l pl) [.If t st [] pi] [] spos) [.forO i j c ca]:=by
 obtain⟨l1,l2,l3,l4⟩:=qCm g hl
 have pn:PE X (.Name l pl) (qOp i):=qB1 l1 l2 l3 l4
 obtain⟨tt,pt,qt⟩:=(A.e X sc N t c g hc).ht
 obtain⟨ta,pa,qa⟩:=ha
 have pg:PG X (.Name x px) (qEg j):=qCL (by rw [g.hN];exact g.nd) (by rw [g.hN];exact qA1 hj) (qCa g hx).1 (qCa g hx).2
 refine⟨_,qJX (by rw [g.xe];exact PassesOwn.never) g.calm (qJY pn) pg (qKZ (qMS pt pa qES)) (λ_=>rfl),λGe F0 H F σ τ o Dn hvv hs gr en=>?_⟩
 rw [qBb,qFv] at hvv
 obtain⟨r,e1,hvv⟩:=qAa hvv
 obtain⟨xs,e2,hvv⟩:=qAa hvv
 have er:=qDF e2
 subst er
 have hvv:(if i=j then none else (qCb (fun σ'=>evE call σ' c) (fun σ'=>qAp call σ' ca) j xs (σ.set i none)).bind (qLZ i xs))=some o:=hvv
 by_cases hij:i=j
 ·rw [if_pos hij] at hvv;cases hvv
 rw [if_neg hij] at hvv
 obtain⟨o1,e3,e4⟩:=qAa hvv
 obtain⟨a,vs,q1,q2,q3,q4,q5⟩:=qBD hs e1
 refine⟨.ref a,q1,a,vs,rfl,.inl ⟨SqL.of q4,λhz=>?_⟩⟩
 have hsame:Same Ge.h (upd Ge.h a (.lst vs)):=λb u q=>by
  rw [qAl (λz=>by subst z;rw [q2] at q;cases q)]
  exact q
 have toGe:∀{H':Hp} {F':Fz},Gr (upd Ge.h a (.lst vs)) F0 H' F'->Gr Ge F0 H' F':=λ{H' F'} z=>⟨hsame.trans z.same,z.sub,λb f=>(z.new b f).imp id λy=>hsame.free y,z.dom⟩
 have gr1:Gr (upd Ge.h a (.lst vs)) F0 H F:=⟨(qHj hs e1 q1 q4).ent,gr.sub,λb f=>(gr.new b f).imp id λy=>by
  rw [qAl (λz=>by subst z;exact q3 f)]
  exact y,gr.dom⟩
 have hlen:=qA3 e1
 refine⟨λq m τ' H'=>q<=xs.length/\m=xs.length - q/\∃F' σ',SR X.K ⟨upd Ge.h a (.lst vs),Ge.pin⟩ H' F' σ' τ'/\qAf σ' i=none/\σ'.length=σ.length/\τ'[i]?=some (some (.ref a))/\Gr (upd Ge.h a (.lst vs)) F0 H' F'/\Keep H F H' F'/\qCb (fun σ'=>evE call σ' c) (fun σ'=>qAp call σ' ca) j (xs.drop q) σ'=some o1,⟨xs.length,Nat.zero_le _,rfl,F,σ.set i none,qHj hs e1 q1 q4,qEf,by simp,q1,gr1,Keep.refl,by simpa using e3⟩,?_⟩
 rintro q m τ' H' ⟨hq,rfl,F',σ',sr',hn',hlen',ht',gr',kp',ev'⟩
 have ha':H' a=some (.lst vs):=sr'.ent a _ qAG
 have rd':RDs X.K H' F' xs vs:=RDs.mono kp' q5
 have hvl:vs.length=xs.length:=RDs.length q5
 by_cases hlt:q<xs.length
 ·refine .inr ?_
  have hdr:xs.drop q=xs[q]::xs.drop (q+1):=List.drop_eq_getElem_cons hlt
  rw [hdr] at ev'
  obtain⟨⟨b0,d0⟩,b1,ev'⟩:=qAa (show (evE call (σ'.set j (some (false,xs[q]))) c).bind (foK (qAp call (σ'.set j (some (false,xs[q]))) ca) (qCb (fun σ'=>evE call σ' c) (fun σ'=>qAp call σ' ca) j (xs.drop (q+1)) (σ'.set j (some (false,xs[q])))))=some o1 from ev')
  obtain⟨v,w1,w2⟩:=RDs.get rd' (List.getElem?_eq_getElem hlt)
  have s4:SR X.K ⟨upd Ge.h a (.lst vs),Ge.pin⟩ H' F' (σ'.set j (some (false,xs[q]))) (τ'.set j (some v)):=sr'.bind w2
  refine⟨⟨vs,v,SqL.of ha',w1⟩,?_⟩
  cases d0 with
  | bl bb =>
   cases bb with
   | true =>
    have ev':qON (qAp call (σ'.set j (some (false,xs[q]))) ca)=some o1:=ev'
    unfold qON at ev'
    split at ev'
    ·rename_i r hr
     cases ev'
     cases e4
     refine⟨λ_ _=>False,λ_ _ z=>z.elim,λy H3 hy=>?_⟩
     obtain⟨rfl,hy⟩:=hy
     have hy:=hy vs (SqL.of ha')
     rw [w1] at hy
     cases hy
     refine qt _ H3 F' _ (τ'.set j (some v)) b0 true _ b1 s4 λH5 F5 g5=>?_
     refine qNB ?_
     exact qa _ F0 H5 F5 _ _ (.rt r) _ hr (s4.grow g5) (gr'.trans g5) λv H7 F7 g7 rr=>en v H7 F7 (toGe g7) (rr.back hsame)
    ·cases ev'
   | false =>
    have ev':qCb (fun σ'=>evE call σ' c) (fun σ'=>qAp call σ' ca) j (xs.drop (q+1)) (σ'.set j (some (false,xs[q])))=some o1:=ev'
    refine⟨fun τ2 H2=>τ2=τ'.set j (some v)/\∃F2,Gr H' F' H2 F2,fun τ2 H2 ⟨z1,F2,z2⟩=>?_,λy H3 hy=>?_⟩
    ·subst z1
     exact⟨xs.length - (q+1),by omega,hlt,rfl,F2,σ'.set j (some (false,xs[q])),s4.grow z2,by rw [qAm (λz=>hij z.symm)];exact hn',by simpa using hlen',by rw [List.getElem?_set_ne (λz=>hij z.symm)];exact ht',gr'.trans z2,kp'.trans z2.keep,ev'⟩
    ·obtain⟨rfl,hy⟩:=hy
     have hy:=hy vs (SqL.of ha')
     rw [w1] at hy
     cases hy
     refine qt _ H3 F' _ (τ'.set j (some v)) b0 false _ b1 s4 λH5 F5 g5=>?_
     exact qNC ⟨rfl,F5,g5⟩
  | _=>cases ev'
 ·have hin:q=xs.length:=by omega
  subst hin
  rw [List.drop_of_length_le (Nat.le_refl _)] at ev'
  cases ev'
  cases e4
  have hf':¬F' a:=λz=>(gr'.new a z).elim (λy=>q3 (gr.sub a y)) λy=>by rw [qAG] at y;cases y
  exact .inl ⟨⟨vs,SqL.of ha',by omega⟩,en τ' H' F' kp' (toGe gr') (qLY sr' hn' (by rw [hlen'];exact hlen) ht' q2 hf' ha' rd' λp hp hi=>by
   subst hi
   have:=hs.pin p _ hp e1
   rw [q1] at this
   cases this
   rfl)⟩
end
end Dw
namespace Dw
open PySem PySem.Spec PyProof.Rows L2
section
variable {call:Nat->List D->Option R}{G:Gx}{k:Nat}
structure AllS (call:Nat->List D->Option R) (G:Gx) (k n:Nat):Prop where
 o:∀(X:Cx) (sc:Scope) (N:List Str) (mt:List Nat) (st:Stmt) (cs:List S),XG call G k X sc N->cS G n sc N mt st=some cs->qFK call X st cs
 s:∀(X:Cx) (sc:Scope) (N:List Str) (mt:List Nat) (st:List Stmt) (cs:List S),XG call G k X sc N->cSs G n sc N mt st=some cs->qJG call X st cs
theorem qIt {tg:Expr}{t:Tg}(h:tgM sc N tg=some t):(∃y q,tg=.Name y q)∨∃es kk q,tg=.Tuple es kk q:=by
 unfold tgM at h
 cases ht:qDs sc N tg with
 | some t' =>
  cases tg with
  | Name y q=>exact .inl ⟨y,q,rfl⟩
  | Tuple es kk q=>exact .inr ⟨es,kk,q,rfl⟩
  | _=>cases ht
 | none =>
  rw [ht] at h
  cases tg with
  | Name y q=>exact .inl ⟨y,q,rfl⟩
  | Tuple es kk q=>exact .inr ⟨es,kk,q,rfl⟩
  | _=>cases h
theorem qFm (hG:∀x∈qAI,G.defs.lookup x=none) {n:Nat}(g:XG call G k X sc N) {mt:List Nat}{x:Str}{e:Expr}{cs:List S}{p pos:Pos}(h:qOz G n sc N mt x e=some cs):qFK call X (.Assign [.Name x p] e pos) cs:=by
 unfold qOz at h
 split at h
 ·rename_i hx
  obtain⟨i,e1,e2⟩:=qAa h
  split at e2
  ·cases e2
  ·rename_i h0
   obtain⟨c,e3,e4⟩:=qAa e2
   cases e4
   exact qA0 (qKD hG g (λz y=>h0 (by rw [z,y];rfl)) e3 hx e1)
 ·cases h
theorem qKA (hG:∀x∈qAI,G.defs.lookup x=none) {n:Nat}(B:AllS call G k n):AllS call G k (n+1):=by
 have A:=qDp (call:=call) (k:=k) hG n
 constructor
 ·intro X sc N mt st cs g h
  unfold cS at h
  split at h
  ·rename_i tg x p m p2 p3 pos
   split at h
   ·rename_i hm
    rw [Bool.and_eq_true] at hm
    obtain⟨t,e1,e2⟩:=qAa h
    obtain⟨i,e3,e4⟩:=qAa e2
    cases e4
    have hk:=qIt e1
    rcases hk with ⟨y,q,rfl⟩|⟨es,kk,q,rfl⟩
    ·exact qGC g (by simpa using hm.1) hm.2 e1 e3 rfl rfl rfl
    ·exact qGC g (by simpa using hm.1) hm.2 e1 e3 rfl rfl rfl
   ·obtain⟨y,e1,h⟩:=qAa h
    unfold qNl at e1
    split at e1
    ·cases e1
     exact qFm hG g h
    ·cases e1
  ·exact qFm hG g h
  ·rename_i x p m p2 e p3 pos
   split at h
   ·rename_i hm
    rw [Bool.and_eq_true] at hm
    obtain⟨i,e1,e2⟩:=qAa h
    obtain⟨c,e3,e4⟩:=qAa e2
    cases e4
    exact qA0 (qKS A g (by simpa using hm.1) hm.2 e1 e3)
   ·cases h
  ·rename_i t body pos
   obtain⟨c,e1,e2⟩:=qAa h
   obtain⟨cb,e3,e4⟩:=qAa e2
   cases e4
   exact qA0 (qGz A g e1 (B.s X sc N mt body cb g e3))
  ·rename_i f p x p2 as pos spos _
   split at h
   ·rename_i hf
    rw [Bool.and_eq_true] at hf
    obtain⟨fi,e1,h⟩:=qAa h
    obtain⟨i,e2,h⟩:=qAa h
    obtain⟨cs',e3,h⟩:=qAa h
    cases h
    exact qA0 (qKO A g e1 hf.1 (qBS hf.2).2 e2 e3)
   ·cases h
  ·rename_i e pos
   obtain⟨c,e1,e2⟩:=qAa h
   cases e2
   exact qA0 (qKG hG g e1)
  ·rename_i t a b pos
   obtain⟨c,e1,e2⟩:=qAa h
   obtain⟨ca,e3,e4⟩:=qAa e2
   obtain⟨cb,e5,e6⟩:=qAa e4
   cases e6
   exact qA0 (qMD A g e1 (B.s X sc N mt a ca g e3) (B.s X sc N mt b cb g e5))
  ·rename_i tg it body pos
   split at h
   ·rename_i i j t a hfo
    obtain⟨c,e1,e2⟩:=qAa h
    obtain⟨ca,e3,e4⟩:=qAa e2
    cases e4
    obtain⟨x,px,l,pl,pi,rfl,rfl,rfl,hl,hx,hj⟩:=qHo hfo
    exact qA0 (qIE A g hl hx hj e1 (B.s X sc N mt a ca g e3))
   obtain⟨t,e1,e2⟩:=qAa h
   obtain⟨cb,e3,e4⟩:=qAa e2
   have hb:=B.s X sc N mt body cb g e3
   have hsr:=srk (sc:=sc) it
   cases hq:qIk sc it with
   | seq s =>
    rw [hq] at e4 hsr
    obtain⟨x,q1,q2⟩:=qAa e4
    cases q2
    cases hsr
    refine qA0 (qGI g e1 (qCF A g q1) (qCM q1 X.env) hb fun σ o hv=>?_)
    rw [qFt] at hv
    obtain⟨r,r1,r2⟩:=qAa hv
    obtain⟨its,r3,r4⟩:=qAa r2
    exact⟨its,by simp only [r1];exact r3,r4⟩
   | rng rs =>
    rw [hq] at e4 hsr
    obtain⟨xs,q1,q2⟩:=qAa e4
    cases q2
    cases hsr with
    | rng f p as pos2 hg hf hl =>
     refine qA0 (qGI g e1 (qCG (p:=p) (pos:=pos2) A g hG hg hf hl q1) (λ_=>rfl) hb fun σ o hv=>?_)
     rw [qFu] at hv
     obtain⟨r,r1,r2⟩:=qAa hv
     obtain⟨its,r3,r4⟩:=qAa r2
     exact⟨its,by simp only [r1];exact r3,r4⟩
   | zip a b=>rw [hq] at e4;cases e4
   | enm a=>rw [hq] at e4;cases e4
   | rev rs=>rw [hq] at e4;cases e4
  ·cases h
 ·intro X sc N mt st cs g h
  unfold cSs at h
  split at h
  ·cases h;exact qKI
  ·rename_i a r
   obtain⟨x,e1,e2⟩:=qAa h
   obtain⟨y,e3,e4⟩:=qAa e2
   cases e4
   exact qIF (B.o X sc N mt a x g e1) (B.s X sc N mt r y g e3)
theorem qKz:AllS call G k 0:=by
 constructor
 ·intro X sc N mt st cs _ h;cases h
 ·intro X sc N mt st cs _ h;cases h
theorem qIg (hG:∀x∈qAI,G.defs.lookup x=none):∀n,AllS call G k n
 | 0=>qKz
 | n+1=>qKA hG (qIg hG n)
end
structure FunD (K:PySem.W.Frag) (x qual:Str) (st:Stmt) (f:Addr) (fd:FuncData):Prop where
 ex:∃(oc:Value) (od:Option Addr) (dV kV doc pm:Value) (an:Option Addr) (cdv ct:Value) (osl:Array (Option Value)),
  fd=PySem.W.fnOf x qual (qBR st) (qAJ st) (qAb st) dV kV doc pm an cdv ct/\K.lookup f=some ⟨oc,od,.func fd,osl⟩/\PySem.W.codeIn K cdv qual=true
 kp:PySem.W.keepIn K (.ref f)=true
theorem qEV {K:PySem.W.Frag}{x qual:Str}{st:Stmt}{f:Addr}{fd:FuncData}(F:Fun K x qual st f fd):FunD K x qual st f fd:=by
 obtain⟨⟨oc,od,kV,doc,pm,an,cdv,ct,osl,h1,h2,h3⟩,kp⟩:=F
 exact⟨⟨oc,od,.none,kV,doc,pm,an,cdv,ct,osl,h1,h2,h3⟩,kp⟩
theorem FunD.ok {P:Program}{w:World}{K:PySem.W.Frag}{mg:Str->Option Value}{base:Heap}{x qual:Str}{st:Stmt}{f:Addr}{fd:FuncData}{N ps:List Str}{k:Nat}{sp:Sp}(F:FunD K x qual st f fd) (S:FnScope N ps (qAb st)) (len:∀vs H Q E,sp vs H Q E->vs.length=ps.length)
  (body:∀(cdv:Value) (A:Around) (outer:List Env) (s:Shared) (H:Hp) (vs:List V) (Q:VK) (E:XK),Room k (A.deeper (envOfC qual (qAb st) s.heap.objs.size f cdv))->sp vs H Q E ->
   ∃t,PSs (qJp CX0 P w K mg base N qual (qAb st) f cdv A outer s H E).nox (qAJ st) t/\t { nx:=λ_ H'=>Q .non H',rt:=Q } (start N vs) H):FnOk P w K mg base CX0 (k+1) f fd ps sp:=by
 obtain⟨oc,od,dV,kV,doc,pm,an,cdv,ct,osl,rfl,lk,hcd⟩:=F.ex
 refine qNL lk hcd S len λA outer s H vs Q E hr h=>?_
 obtain⟨t,h1,h2⟩:=body cdv A outer s H vs Q E hr h
 exact⟨t,h1.nox,h2⟩
structure DefIn (K:PySem.W.Frag) (mg:Str->Option Value) (G:Gx) (tab:List Fd) (fuel:Nat) (x:Str) (i:Nat):Prop where
 ex:∃(a:Addr) (fdt:FuncData) (st:Stmt) (ps:List Str) (fd:Fd),mg x=some (.ref a)/\FunD K x x st a fdt/\Binds K fdt ps []/\FnScope (qAx (qAb st)) ps (qAb st) /\
  cSs G fuel (qAb st) (qAx (qAb st)) (qIm fuel (qAx (qAb st)) (qAJ st)) (qAJ st)=some fd.body/\tab[i]?=some fd/\fd.np=ps.length/\fd.ns=(qAx (qAb st)).length
structure UseIn (K:PySem.W.Frag) (mg:Str->Option Value) (G:Gx) (tab:List Fd) (fuel:Nat) (u:Uc):Prop where
 ex:∃(a:Addr) (fdt:FuncData) (st:Stmt) (ps:List Str) (fd:Fd) (g:List Value->List Value->List Value) (gV:List V->List V->List V),mg u.f=some (.ref a)/\FunD K u.f u.f st a fdt/\KBinds K fdt ps u.ks g gV/\(∀vs zs,vs.length=u.np->zs.length=u.ks.length->gV vs zs=u.pl.map (arV vs zs))/\(∀j d,Ar.dft j d∈u.pl->isK d=true) /\
  FnScope (qAx (qAb st)) ps (qAb st)/\cSs G fuel (qAb st) (qAx (qAb st)) (qIm fuel (qAx (qAb st)) (qAJ st)) (qAJ st)=some fd.body/\tab[u.i]?=some fd/\fd.np=ps.length/\fd.ns=(qAx (qAb st)).length
noncomputable def qL4 (K:PySem.W.Frag) (C:Addr) (ns:List Str):Prop:=(∃(fi:Addr) (fdi:FuncData) (sti:Stmt) (psi:List Str) (qi:Str),Mk K C fi/\FunD K "__init__" qi sti fi fdi/\Binds K fdi psi []/\FnScope (qAx (qAb sti)) psi (qAb sti) /\
  qEc (qAb sti) (qAx (qAb sti)) 0 ns (qAJ sti)=true/\psi.length=ns.length+1/\ns.length<1000)∨(ns=[]/\Mk0 K C)
structure MthIn (K:PySem.W.Frag) (mg:Str->Option Value) (G:Gx) (tab:List Fd) (fuel:Nat) (c m:Str) (i:Nat) (C:Addr) (ns:List Str):Prop where
 ex:∃(fm:Addr) (fdm:FuncData) (stm:Stmt) (psm:List Str) (qm:Str) (fd:Fd),mg c=some (.ref C)/\qL4 K C ns/\Cls K C/\(∀f∈ns,NoAttr K C f)/\Meth K C m fm/\FunD K m qm stm fm fdm/\Binds K fdm psm []/\FnScope (qAx (qAb stm)) psm (qAb stm) /\
  cSs G fuel (qAb stm) (qAx (qAb stm)) (qIm fuel (qAx (qAb stm)) (qAJ stm)) (qAJ stm)=some fd.body/\tab[i]?=some fd/\fd.np=psm.length/\fd.ns=(qAx (qAb stm)).length/\m∉ns/\ns.Nodup
theorem qC9 {tab:List Fd}{n i:Nat}{fd:Fd}{ds:List D}{r:R}(ht:tab[i]?=some fd) (h:qAH tab n i ds=some r):ds.length=fd.np:=by
 cases n with
 | zero=>cases h
 | succ n =>
  rw [qDT ht] at h
  unfold qL7 at h
  split at h
  ·assumption
  ·cases h
section
variable {P:Program}{w:World}{K:PySem.W.Frag}{mg:Str->Option Value}{base:Heap}{G:Gx}{tab:List Fd}{fuel:Nat}
theorem qDY:∀{b:Bool}{ds:List D}{m i:Nat}{r:R},qAf (agE b ds++List.replicate m none) i=some r->∃d,ds[i]?=some d/\r=(qJ8 d,d)
 | b,[],m,i,r,h=>by
  unfold qAf at h
  rw [show agE b []=[] by cases b<;>rfl,List.nil_append,List.getElem?_replicate] at h
  split at h<;>cases h
 | b,d::ds,m,i,r,h=>by
  cases i with
  | zero =>
   refine⟨d,rfl,?_⟩
   cases b<;>cases d<;>first|(cases h;rfl)|cases h
  | succ i =>
   have:∃b',qAf (agE b' ds++List.replicate m none) i=some r:=by
    cases b<;>cases d<;>first|exact⟨false,h⟩|exact⟨true,h⟩
   obtain⟨b',h'⟩:=this
   obtain⟨d',q1,q2⟩:=qDY h'
   exact⟨d',by simpa using q1,q2⟩
theorem qE8:∀{ds:List D}{m i:Nat}{d:D},qAf (agE true ds++List.replicate m none) i=some (true,d)->False
 | [],m,i,d,h=>by
  unfold qAf at h
  rw [show agE true []=[] from rfl,List.nil_append,List.getElem?_replicate] at h
  split at h<;>cases h
 | x::ds,m,i,d,h=>by
  cases i with
  | zero=>cases x<;>cases h
  | succ i=>exact qE8 (ds:=ds) (m:=m) (i:=i) (d:=d) (by cases x<;>exact h)
theorem qIh:∀{ds:List D}{m i j:Nat}{d e:D},qAf (agE false ds++List.replicate m none) i=some (true,d)->qAf (agE false ds++List.replicate m none) j=some (true,e)->i=j
 | [],m,i,j,d,e,h,h'=>by
  unfold qAf at h
  rw [show agE false []=[] from rfl,List.nil_append,List.getElem?_replicate] at h
  split at h<;>cases h
 | x::ds,m,i,j,d,e,h,h'=>by
  cases hx:qJ8 x with
  | true =>
   cases x with
   | dct m' ks =>
    cases i with
    | zero =>
     cases j with
     | zero=>rfl
     | succ j=>exact absurd h' (λz=>qE8 (ds:=ds) (m:=m) (i:=j) z)
    | succ i=>exact absurd h (λz=>qE8 (ds:=ds) (m:=m) (i:=i) z)
   | _=>cases hx
  | false =>
   have e1:agE false (x::ds)=some (false,x)::agE false ds:=by cases x<;>first|rfl|cases hx
   rw [e1] at h h'
   cases i with
   | zero=>cases h
   | succ i =>
    cases j with
    | zero=>cases h'
    | succ j=>rw [qIh (ds:=ds) (m:=m) (i:=i) (j:=j) h h']
theorem qIi:∀(b:Bool) (ds:List D),(agE b ds).length=ds.length
 | b,[]=>by cases b<;>rfl
 | b,d::ds=>by cases b<;>cases d<;>(show (agE _ ds).length+1=_;rw [qIi];rfl)
theorem qIw {H:Hp}{F:Fz}{ds:List D}{vs:List V}{N:List Str}{m:Nat}(dom:∀a,H a=none->¬F a) (h:RGs K H F ds vs) (hm:m=N.length - vs.length):SR K ⟨H,none⟩ H F (agE false ds++List.replicate m none) (L2.start N vs):=by
 have hl:=RGs.length h
 have at_:∀{i:Nat} {v:V},vs[i]?=some v->(L2.start N vs)[i]?=some (some v):=λ{i v} q1=>by
  unfold L2.start
  obtain⟨hi,_⟩:=List.getElem?_eq_some_iff.mp q1
  rw [List.getElem?_append_left (by simpa using hi),List.getElem?_map,q1]
  rfl
 refine⟨by simp [L2.start,hl,hm,qIi],Same.refl H,dom,λi d e=>?_,λi d e hd=>?_,λi j d e h1 h2 _=>qIh h1 h2,λi m' ks e=>?_,λ_ _ z=>nomatch z⟩
 ·obtain⟨d',e1,e2⟩:=qDY e
  have hd:qJ8 d'=false:=(Prod.mk.inj e2).1.symm
  have hd2:d=d':=(Prod.mk.inj e2).2
  subst hd2
  obtain⟨v,q1,q2⟩:=RGs.get h e1
  refine⟨v,at_ q1,q2.elim (λz=>z) λ⟨a,ks,z,_⟩=>?_⟩
  subst z
  cases hd
 ·obtain⟨d',e1,e2⟩:=qDY e
  have hd1:true=qJ8 d':=(Prod.mk.inj e2).1
  have hd2:d=d':=(Prod.mk.inj e2).2
  subst hd2
  rw [hd] at hd1
  cases hd1
 ·obtain⟨d',e1,e2⟩:=qDY e
  have hd2:D.dct m' ks=d':=(Prod.mk.inj e2).2
  subst hd2
  obtain⟨v,q1,q2⟩:=RGs.get h e1
  rcases q2 with z|⟨a,ks',z1,z2,z3,z4⟩
  ·exact False.elim z
  ·cases z1
   subst z2
   exact⟨a,at_ q1,z3,z4,λz=>nomatch z⟩
theorem qEe {xs ds:List D}{m i:Nat}{r:R}(h:qAf (some (true,.lst xs)::ds.map (λd=>some (false,d))++List.replicate m none) i=some r):(i=0/\r=(true,.lst xs))∨∃j d,i=j+1/\ds[j]?=some d/\r=(false,d):=by
 cases i with
 | zero=>cases h;exact .inl ⟨rfl,rfl⟩
 | succ j =>
  have h:((ds.map (λd=>some (false,d))++List.replicate m none)[j]?).join=some r:=h
  by_cases hj:j<ds.length
  ·rw [List.getElem?_append_left (by simpa using hj),List.getElem?_map,List.getElem?_eq_getElem hj] at h
   cases h
   exact .inr ⟨j,_,rfl,List.getElem?_eq_getElem hj,rfl⟩
  ·rw [List.getElem?_append_right (by simpa using hj),List.getElem?_replicate] at h
   split at h<;>cases h
theorem qGx {H:Hp}{F:Fz}{a:Addr}{xs ds:List D}{ws us:List V}{N:List Str}{m:Nat}(dom:∀a,H a=none->¬F a) (h1:H a=some (.lst ws)) (h2:¬F a) (h3:RDs K H F xs ws) (h4:RDs K H F ds us) (hm:m=N.length - (us.length+1)):SR K ⟨del H a,some a⟩ H F (some (true,.lst xs)::ds.map (λd=>some (false,d))++List.replicate m none) (L2.start N (.ref a::us)):=by
 have hl:=RDs.length h4
 have at_:∀{i:Nat} {v:V},(V.ref a::us)[i]?=some v->(L2.start N (.ref a::us))[i]?=some (some v):=λ{i v} q1=>by
  unfold L2.start
  obtain⟨hi,_⟩:=List.getElem?_eq_some_iff.mp q1
  rw [List.getElem?_append_left (by simpa using hi),List.getElem?_map,q1]
  rfl
 refine⟨by simp [L2.start,hl,hm],λb u e=>?_,dom,λi d e=>?_,λi d e hd=>?_,λi j d e q1 q2 _=>?_,λi m' ks e=>?_,λp d hp hv=>?_⟩
 ·have e:(if b=a then none else H b)=some u:=e
  split at e
  ·cases e
  ·exact e
 ·rcases qEe e with ⟨_,z⟩|⟨j,d',rfl,q1,q2⟩
  ·cases z
  ·cases q2
   obtain⟨v,p1,p2⟩:=RDs.get h4 q1
   exact⟨v,at_ (by rw [List.getElem?_cons_succ];exact p1),p2⟩
 ·rcases qEe e with ⟨rfl,z⟩|⟨j,d',rfl,q1,q2⟩
  ·cases z
   exact⟨a,xs,ws,rfl,at_ rfl,if_pos rfl,h2,h1,h3⟩
  ·cases q2
 ·rcases qEe q1 with ⟨rfl,_⟩|⟨j',d',rfl,_,z⟩
  ·rcases qEe q2 with ⟨rfl,_⟩|⟨j',d',rfl,_,z⟩
   ·rfl
   ·cases z
  ·cases z
 ·rcases qEe e with ⟨rfl,z⟩|⟨j,d',rfl,q1,q2⟩
  ·cases z
  ·cases q2
 ·cases hp
  exact at_ rfl
theorem qH3 {n i:Nat}{fd:Fd}{ds:List D}{r:R}(hT:tab.length<=HX) (ht:tab[i]?=some fd) (h:qAH tab n (i+HX) ds=some r):ds.length=fd.np:=by
 cases n with
 | zero=>cases h
 | succ n =>
  rw [qDU hT ht] at h
  unfold qOr at h
  split at h
  ·split at h
   ·rename_i hl;rw [List.length_cons];exact hl
   ·cases h
  ·cases h
theorem qJj {a:Addr}{fdt:FuncData}{ps:List Str}{i:Nat}:FnOk P w K mg base CX0 2 a fdt ps (spH K ps.length (qAH tab 0 i)):=
 ⟨λ_ _ _ _ h=>h.1,λA outer s H args us vs Q E _ _ _ _ h=>by obtain⟨_,F,a,xs,ds,ys,ws,us,b,_,_,_,_,_,_,z,_⟩:=h;cases z⟩
theorem qLI {a:Addr}{fdt:FuncData}{ps:List Str}{i:Nat}:FnOk P w K mg base CX0 2 a fdt ps (spD K ps.length (qAH tab 0 i)):=
 ⟨λ_ _ _ _ h=>h.1,λA outer s H args us vs Q E _ _ _ _ h=>by obtain⟨_,F,ds,r,_,_,z,_⟩:=h;cases z⟩
theorem qLB {fi:Addr}{fdi:FuncData}{sti:Stmt}{psi:List Str}{qi:Str}{ns:List Str}(hbl:∀x∈qAI,mg x=none) (Fn:FunD K "__init__" qi sti fi fdi) (Sc:FnScope (qAx (qAb sti)) psi (qAb sti)) (hi:qEc (qAb sti) (qAx (qAb sti)) 0 ns (qAJ sti)=true) (hl:psi.length=ns.length+1) (hz:ns.length<1000) :
  FnOk P w K mg base CX0 1 fi fdi psi (spI K ns):=by
 refine Fn.ok (k:=0) Sc (λvs H Q E h=>?_) (λcdv A outer s H vs Q E hr h=>?_)
 ·obtain⟨x,C,dx,ws,rfl,h1,_⟩:=h
  rw [hl,List.length_cons,h1]
 ·obtain⟨x,C,dx,ws,rfl,h1,h2,h3,h4,hq⟩:=h
  have g:XG (λ_ _=>none) ⟨[],[],[],[],[],[]⟩ 0 (qJp CX0 P w K mg base (qAx (qAb sti)) qi (qAb sti) fi cdv A outer s H E).nox (qAb sti) (qAx (qAb sti)):=by
   refine⟨rfl,Sc.nd,λy h=>?_,λy h=>?_,λy h=>?_,λy h=>?_,rfl,rfl,hr,λy j h=>(nomatch h),λy _ h=>?_,λy i h=>(nomatch h),λu hm=>(nomatch hm),λu hm=>(nomatch hm),λz=>absurd rfl z,λy j h=>(nomatch h),λy j h=>(nomatch h)⟩
   ·unfold qL5 at h
    simp only [Bool.or_eq_true,beq_iff_eq] at h
    rcases h with (h|h)|h
    ·exact .inl h
    ·exact .inr (.inl h)
    ·exact .inr (.inr h)
   ·simp only [Bool.or_eq_true,beq_iff_eq] at h
    exact⟨h,.inl rfl⟩
   ·unfold glB at h
    rw [beq_iff_eq] at h
    exact h
   ·unfold qL9 at h
    simp only [Bool.or_eq_true,beq_iff_eq] at h
    exact h
   ·exact hbl y h
  obtain⟨t,pt,qt⟩:=qEb g ns 0 (qAJ sti) hi
  refine⟨t,pt,qt _ H x C dx [] ws _ rfl (λi w hw=>?_) h1 h2 h3 h4 (by simpa using hz) hq⟩
  obtain⟨hlt,_⟩:=List.getElem?_eq_some_iff.mp hw
  unfold L2.start
  rw [List.getElem?_append_left (by simp;omega),List.getElem?_map,show 0+1+i=i+1 by omega,List.getElem?_cons_succ,hw]
  rfl
theorem fns (hT:tab.length<=HX) (hG:∀x∈qAI,G.defs.lookup x=none) (hb:∀x∈qAI,mg x=none) (hc:∀x i,G.cons.lookup x=some i->∃t,mg x=some (.int i t)) (hd:∀x i,G.defs.lookup x=some i->DefIn K mg G tab fuel x i) (hu:∀u∈G.ucal,UseIn K mg G tab fuel u) (hmt:∀u∈G.meth,MthIn K mg G tab fuel u.c u.m u.i u.kn.c u.kn.ns) (hia:∀t tb,G.isa.lookup t=some tb->Dia K mg t tb):∀(n:Nat) (x qn:Str) (i:Nat) (a:Addr) (fdt:FuncData) (st:Stmt) (ps:List Str) (fd:Fd),FunD K x qn st a fdt ->
  FnScope (qAx (qAb st)) ps (qAb st)->cSs G fuel (qAb st) (qAx (qAb st)) (qIm fuel (qAx (qAb st)) (qAJ st)) (qAJ st)=some fd.body->tab[i]?=some fd->fd.np=ps.length->fd.ns=(qAx (qAb st)).length ->
  FnOk P w K mg base CX0 (n+2) a fdt ps (spD K ps.length (qAH tab n i))/\FnOk P w K mg base CX0 (n+2) a fdt ps (spH K ps.length (qAH tab n (i+HX)))
 | 0,x,qn,i,a,fdt,st,ps,fd,_,_,_,_,_,_=>⟨qLI,qJj⟩
 | n+1,x,qn,i,a,fdt,st,ps,fd,Fn,Sc,hcs,ht,hp,hn=>by
  have gg:∀(cdv:Value) (A:Around) (outer:List Env) (s:Shared) (H:Hp) (E:XK),Room (n+2) (A.deeper (envOfC qn (qAb st) s.heap.objs.size a cdv))->XG (qAH tab n) G (n+2) (qJp CX0 P w K mg base (qAx (qAb st)) qn (qAb st) a cdv A outer s H E).nox (qAb st) (qAx (qAb st)):=λcdv A outer s H E hr=>by
   refine⟨rfl,Sc.nd,λy h=>?_,λy h=>?_,λy h=>?_,λy h=>?_,rfl,rfl,hr,λy j h=>?_,λy _ h=>hb y h,hc,λu hm=>?_,λu hm=>?_,λ_=>Nat.le_add_left 2 n,λy j h=>?_,hia⟩
   ·unfold qL5 at h
    simp only [Bool.or_eq_true,beq_iff_eq] at h
    rcases h with (h|h)|h
    ·exact .inl h
    ·exact .inr (.inl h)
    ·exact .inr (.inr h)
   ·simp only [Bool.or_eq_true,beq_iff_eq] at h
    exact⟨h,.inl rfl⟩
   ·unfold glB at h
    rw [beq_iff_eq] at h
    exact h
   ·unfold qL9 at h
    simp only [Bool.or_eq_true,beq_iff_eq] at h
    exact h
   ·obtain⟨a2,fdt2,st2,ps2,fd2,q1,q2,q3,q4,q5,q6,q7,q8⟩:=(hd y j h).ex
    exact⟨a2,fdt2,ps2,q1,q2.kp,q3,(fns hT hG hb hc hd hu hmt hia n y y j a2 fdt2 st2 ps2 fd2 q2 q4 q5 q6 q7 q8).1,λds r hr=>(qC9 q6 hr).trans q7⟩
   ·obtain⟨a2,fdt2,st2,ps2,fd2,g2,gV2,q1,q2,q3,q3b,q3c,q4,q5,q6,q7,q8⟩:=(hu u hm).ex
    exact⟨a2,fdt2,ps2,g2,gV2,q1,q2.kp,q3,q3b,q3c,(fns hT hG hb hc hd hu hmt hia n u.f u.f u.i a2 fdt2 st2 ps2 fd2 q2 q4 q5 q6 q7 q8).1,λds r hr=>(qC9 q6 hr).trans q7⟩
   ·obtain⟨fm,fdm,stm,psm,qm,fd2,q1,q2,q3,q4,q10,q11,q12,q13,q14,q15,q16,q17,q18,q19⟩:=(hmt u hm).ex
    exact⟨fm,fdm,psm,q1,q2.imp (λ⟨fi,fdi,sti,psi,qi,z1,z2,z3,z4,z5,z6,z7⟩=>⟨fi,fdi,psi,z1,z3,qLB hb z2 z4 z5 z6 z7⟩) id,q3,q4,q10,q12,(fns hT hG hb hc hd hu hmt hia n u.m qm u.i fm fdm stm psm fd2 q11 q13 q14 q15 q16 q17).1,λds r hr=>(qC9 q15 hr).trans q16,q18,q19⟩
   ·obtain⟨a2,fdt2,st2,ps2,fd2,q1,q2,q3,q4,q5,q6,q7,q8⟩:=(hd y j h).ex
    exact⟨a2,fdt2,ps2,q1,q2.kp,q3,(fns hT hG hb hc hd hu hmt hia n y y j a2 fdt2 st2 ps2 fd2 q2 q4 q5 q6 q7 q8).2,λds r hr=>(qH3 hT q6 hr).trans q7⟩
  constructor
  ·refine Fn.ok Sc (λvs H Q E h=>h.1) (λcdv A outer s H vs Q E hr h=>?_)
   obtain⟨hvl,F,ds,r,dom,rds,hcall,hq⟩:=h
   have hlen:=RGs.length rds
   rw [qDT ht] at hcall
   unfold qL7 at hcall
   split at hcall
   ·rename_i hal
    obtain⟨o,e1,e2⟩:=qAa hcall
    obtain⟨t,pt,qt⟩:=(qIg (call:=qAH tab n) (k:=n+2) hG fuel).s _ _ _ _ _ _ (gg cdv A outer s H E hr) hcs
    refine⟨t,pt,qt ⟨H,none⟩ F H F _ _ o _ e1 (qIw dom rds (by rw [hp,hn,hvl])) (Gr.refl dom) ?_⟩
    cases o with
    | nx σ' =>
     cases e2
     exact fun τ' H' F' _ g' _=>hq .non H' F' g' rfl
    | rt r' =>
     cases e2
     exact λv H' F' g' rr=>hq v H' F' g' rr
    | bk _=>cases e2
    | ct _=>cases e2
   ·cases hcall
  ·refine Fn.ok Sc (λvs H Q E h=>h.1) (λcdv A outer s H vs Q E hr h=>?_)
   obtain⟨hvl,F,a',xs,ds,ys,ws,us,b,rfl,dom,h1,h2,h3,h4,hcall,hq⟩:=h
   rw [qDU hT ht] at hcall
   unfold qOr at hcall
   dsimp only at hcall
   split at hcall
   ·rename_i hal
    obtain⟨o,e1,e2⟩:=qAa hcall
    obtain⟨t,pt,qt⟩:=(qIg (call:=qAH tab n) (k:=n+2) hG fuel).s _ _ _ _ _ _ (gg cdv A outer s H E hr) hcs
    have g0:Gr (del H a') F H F:=⟨λb u e=>by
     have e:(if b=a' then none else H b)=some u:=e
     split at e
     ·cases e
     ·exact e,λ_ z=>z,λ_ z=>.inl z,dom⟩
    refine⟨t,pt,qt ⟨del H a',some a'⟩ F H F _ _ o _ e1 (qGx dom h1 h2 h3 h4 (by rw [hp,hn,<-hvl];rfl)) g0 ?_⟩
    cases o with
    | nx σ' =>
     refine fun τ' H' F' _ g' s'=>?_
     obtain⟨r0,w1,w2⟩:=qAa (show (qAf σ' 0).bind (λr=>(qIl r).map λxs=>(true,D.lst xs))=some (b,D.lst ys) from e2)
     obtain⟨zs,w3,w4⟩:=Option.map_eq_some_iff.mp w2
     cases w4
     rw [qDF w3] at w1
     obtain⟨a2,vs2,p1,p2,p3,p4,p5⟩:=qBD s' w1
     rw [s'.pin a' _ rfl w1] at p1
     cases p1
     exact hq H' F' vs2 g' p4 p3 p5
    | rt r'=>cases e2
    | bk _=>cases e2
    | ct _=>cases e2
   ·cases hcall
theorem qNq {n i:Nat}(h:∀ns:List Int,ns.length<=63->(∀i∈ns,2 * i.natAbs<qCX)->qAH tab n i [.lst (ns.map .int)]=some (false,.bl true)) (H:Hp) (a:Addr) (ns:List Int) (hl:ns.length<=63) (hw:∀i∈ns,2 * i.natAbs<qCX) (hS:SqL K H a (ns.map V.int)) (E:XK):spD K 1 (qAH tab n i) [.ref a] H (λv _=>v=.bl true) E:=by
 have fin:∀v H' F',Gr H (λ_=>False) H' F'∨True->RR K H H' F' (false,.bl true) v->v=.bl true:=λv H' F' _ rr=>rr
 rcases hS with hS|hS
 ·refine⟨rfl,λb=>b=a,[.lst (ns.map .int)],(false,.bl true),λb e z=>?_,⟨.ref a,[],rfl,.inl ⟨a,ns.map V.int,rfl,.inl ⟨rfl,hS⟩,RDs.of_ints ns⟩,rfl⟩,h ns hl hw,λv H' F' _ rr=>rr⟩
  subst z
  rcases hS with q|⟨o,q⟩<;>(rw [e] at q;cases q)
 ·exact⟨rfl,λ_=>False,[.lst (ns.map .int)],(false,.bl true),λ_ _ z=>z,⟨.ref a,[],rfl,.inl ⟨a,ns.map V.int,rfl,.inr hS,RDs.of_ints ns⟩,rfl⟩,h ns hl hw,λv H' F' _ rr=>rr⟩
end
theorem qJJ:∀(ns:List Int) (i:Int),i∈ns->PySem.W.WData.weight (.int i)+1<=PySem.W.WData.weightAll (ns.map PySem.W.WData.int)
 | [],i,h=>nomatch h
 | n::ns,i,h=>by
  rw [List.map_cons,PySem.W.WData.weightAll]
  rcases List.mem_cons.mp h with rfl|h
  ·omega
  ·have:=qJJ ns i h
   omega
theorem qJb {ns:List Int}(h:PySem.W.WData.layableAll [.list (ns.map PySem.W.WData.int)]=true) (i:Int) (hi:i∈ns):2 * i.natAbs<qCX:=by
 unfold PySem.W.WData.layableAll at h
 rw [List.all_cons,Bool.and_eq_true] at h
 have h1:=h.1
 unfold PySem.W.WData.layable at h1
 rw [Bool.and_eq_true] at h1
 have h2:PySem.W.WData.weight (.list (ns.map PySem.W.WData.int))<=2^20:=of_decide_eq_true h1.2
 rw [PySem.W.WData.weight] at h2
 have h3:=qJJ ns i hi
 rw [PySem.W.WData.weight] at h3
 by_cases hz:i=0
 ·subst hz
  exact Nat.pow_pos (by decide)
 ·rw [if_neg (by simpa using hz)] at h3
  have h4:i.natAbs<2^(i.natAbs.log2+1):=Nat.lt_log2_self
  have h5:2 * i.natAbs<2^(i.natAbs.log2+2):=by rw [Nat.pow_succ];omega
  exact Nat.lt_of_lt_of_le h5 (Nat.pow_le_pow_right (by decide) (by omega))
theorem dw_walk {l:PySem.W.OpenLaw}{q:Program}{loose:List Str}{XP:(Str->Option Value)->Heap->Prop}{YP:World->Heap->Prop}{d:DefRec}{K:Params->PySem.W.Frag}{tab:List Fd}{n i:Nat}(hlaw:∀ns:List Int,ns.length<=63->(∀i∈ns,2 * i.natAbs<qCX)->qAH tab n i [.lst (ns.map .int)]=some (false,.bl true))
  (hn:l.most=some 63) (hdf:d.params.defaults=[]) (hr:Room (n+2) callerA) (hY:∀(w:World) (h:Heap),YP w h->(K w.params).In h)
  (F:∀(w:World) (mg:Str->Option Value) (fa:Addr) (h:Heap),(K w.params).In h->h.Ns mainGlobals mg->mg d.name=some (.ref fa) ->
   ∃fd:FuncData,(∀(s:Shared) (u:Value),BindsTo s fd ⟨[u],[]⟩ [("script",u)])/\∀base:Heap,(K w.params).In base->base.Ns mainGlobals mg->FnOk l.prog w (K w.params) mg base CX0 (n+2) fa fd ["script"] (spD (K w.params) 1 (qAH tab n i))) :
  PySem.W.WalkO q loose XP YP l.row.toRowW d [] (λf vs=>PySem.call f vs):=by
 intro w t₀ t₁ mg mb g y fa o pm cd doc v₁ v₂ ho hd hc e1 e2 e3 args vals as e4 lay e5 e6 e7
 obtain rfl:v₁=.none:=PySem.W.Dflts.none e1 hdf
 obtain rfl:v₂=.none:=PySem.W.Dflts.noKw e1
 obtain⟨a,vs,ns,rfl,rfl,s1,s2,s3⟩:=Att.script_of hn e4 e6
 have kx:=hY w _ y
 obtain⟨fd,hb,hF⟩:=F w mg fa _ kx g.T.g e2
 refine PySem.W.enter_call (codeAny_mono (L2.law_call kx g.T.g g.T.b g.T.builtins g.T.nolimit e3 s1 s2 (Nat.le_trans s3 (by decide)) hr hF hb (λH _ hS=>qNq hlaw H a ns s3 (qJb lay) hS _) λH e s' z=>z) λr s' z=>?_)
 obtain⟨rfl,z2,z3,z4⟩:=z
 exact⟨.inl ⟨.bool true,.bool true,[],rfl,λ_=>rfl,.bool true,Att.post_true l _,λ_=>⟨List.Pairwise.nil,λ_ hm=>(nomatch hm)⟩⟩,z2,z3,z4⟩
end Dw
set_option exponentiation.threshold 6000
namespace Dw.T
open Dw
noncomputable def qEo:Fd:=⟨2,2,[.ret (.and (.cmp .le (.ix (.v 0) (.k (.int 0))) (.ix (.v 1) (.k (.int 1)))) (.cmp .le (.ix (.v 1) (.k (.int 0))) (.ix (.v 0) (.k (.int 1)))))]⟩
noncomputable def qCc:Fd:=⟨2,2,[.ret (.and (.cmp .ge (.ix (.v 0) (.k (.int 0))) (.ix (.v 1) (.k (.int 0)))) (.cmp .le (.ix (.v 0) (.k (.int 1))) (.ix (.v 1) (.k (.int 1)))))]⟩
noncomputable def qDm:Fd:=⟨2,2,[.ret (.bi .max [(.k (.int 0)),(.bin .sub (.ix (.v 0) (.k (.int 0))) (.ix (.v 1) (.k (.int 1)))),(.bin .sub (.ix (.v 1) (.k (.int 0))) (.ix (.v 0) (.k (.int 1))))])]⟩
noncomputable def qEp:Fd:=⟨2,2,[.ret (.bi .all [(.compZ (.call 0 [(.v 0),(.v 1)]) 2 [] (.two 0 1) (.v 0) (.v 1))])]⟩
noncomputable def qEq:Fd:=⟨2,2,[.ret (.bi .all [(.compZ (.call 1 [(.v 0),(.v 1)]) 2 [] (.two 0 1) (.v 0) (.v 1))])]⟩
noncomputable def qHs:Fd:=⟨2,3,[.set 2 false (.compZ (.call 2 [(.v 0),(.v 1)]) 2 [] (.two 0 1) (.v 0) (.v 1)),
 .ret (.bi .sum [(.compS (.bin .mul (.v 0) (.v 0)) 1 [] (.one 0) (.v 2))])]⟩
noncomputable def f_box_written:Fd:=⟨1,1,[.ret (.join (.k (.str (PySem.Str.ofString ","))) (.compS (.fstr [(.fmt (.v 0)),(.k (.str (PySem.Str.ofString ".."))),(.fmt (.v 1))]) 2 [] (.two 0 1) (.v 0)))]⟩
noncomputable def qGb:Fd:=⟨4,6,[.ite (.and (.cmp .eq (.v 1) (.k (.int 0))) (.cmp .gt (.v 0) (.k (.int 0)))) [.ret (.k .non)] [],
 .set 4 false (.v 2),
 .set 5 false (.v 3),
 .ite (.cmp .gt (.v 1) (.k (.int 0))) [.set 4 false (.bi .max [(.v 2),(.neg (.bin .fdiv (.neg (.v 0)) (.v 1)))])] [],
 .ite (.cmp .lt (.v 1) (.k (.int 0))) [.set 5 false (.bi .min [(.v 3),(.bin .fdiv (.v 0) (.v 1))])] [],
 .ite (.cmp .gt (.v 4) (.v 5)) [.ret (.k .non)] [],
 .ret (.tup [(.v 4),(.v 5)])]⟩
noncomputable def qDQ:Fd:=⟨3,3,[.ite (.isC false (.v 2) .non) [.ret (.k .non)] [],
 .ret (.call 7 [(.bin .sub (.ix (.v 0) (.k (.int 0))) (.ix (.v 1) (.k (.int 1)))),(.bin .sub (.ix (.v 1) (.k (.int 3))) (.ix (.v 0) (.k (.int 2)))),(.ix (.v 2) (.k (.int 0))),(.ix (.v 2) (.k (.int 1)))])]⟩
noncomputable def qHq:Fd:=⟨4,7,[.set 4 false (.tup [(.v 2),(.v 3)]),
 .forZ (.two 5 6) (.v 0) (.v 1) [.set 4 false (.call 8 [(.v 5),(.v 6),(.v 4)]),.set 4 false (.call 8 [(.v 6),(.v 5),(.v 4)])],
 .ret (.v 4)]⟩
noncomputable def qHp:Fd:=⟨2,2,[.ret (.tup [(.bin .add (.ix (.v 0) (.k (.int 0))) (.bin .mul (.ix (.v 0) (.k (.int 2))) (.v 1))),(.bin .add (.ix (.v 0) (.k (.int 1))) (.bin .mul (.ix (.v 0) (.k (.int 3))) (.v 1)))])]⟩
noncomputable def qDO:Fd:=⟨1,1,[.ret (.bi .tuple [(.compS (.tup [(.ix (.v 0) (.k (.int 0))),(.ix (.v 0) (.k (.int 1))),(.k (.int 0)),(.k (.int 0))]) 1 [] (.one 0) (.v 0))])]⟩
noncomputable def qF9:Fd:=⟨2,2,[.ret (.bi .tuple [(.compS (.call 10 [(.v 0),(.v 1)]) 1 [1] (.one 0) (.v 0))])]⟩
noncomputable def qDM:Fd:=⟨1,1,[.ret (.ix (.v 0) (.k (.int 1)))]⟩
noncomputable def qDN:Fd:=⟨1,1,[.ret (.ix (.v 0) (.k (.int 2)))]⟩
noncomputable def qDL:Fd:=⟨1,1,[.ret (.ix (.v 0) (.k (.int 3)))]⟩
noncomputable def qEY:Fd:=⟨2,2,[.ret (.call 12 [(.call 13 [(.v 0)]),(.v 1)])]⟩
noncomputable def qEn:Fd:=⟨1,1,[.ret (.ix (.v 0) (.k (.int 0)))]⟩
noncomputable def qEl:Fd:=⟨1,1,[.ret (.ix (.v 0) (.k (.int 1)))]⟩
noncomputable def qEW:Fd:=⟨1,1,[.ret (.ix (.v 0) (.k (.int 2)))]⟩
noncomputable def qEm:Fd:=⟨1,1,[.ret (.ix (.v 0) (.k (.int 3)))]⟩
noncomputable def qEk:Fd:=⟨1,1,[.ret (.ix (.v 0) (.k (.int 5)))]⟩
noncomputable def qEX:Fd:=⟨1,1,[.ret (.ix (.v 0) (.k (.int 6)))]⟩
noncomputable def qDc:Fd:=⟨2,2,[.ite (.v 0) [.ret (.k (.str (PySem.Str.ofString "every")))] [],
 .ite (.v 1) [.ret (.k (.str (PySem.Str.ofString "none")))] [],
 .ret (.k (.str (PySem.Str.ofString "open")))]⟩
noncomputable def qGa:Fd:=⟨2,2,[.ret (.call 12 [(.call 17 [(.v 0)]),(.v 1)])]⟩
noncomputable def qF7:Fd:=⟨2,2,[.ret (.call 12 [(.call 18 [(.v 0)]),(.v 1)])]⟩
noncomputable def qF8:Fd:=⟨2,2,[.ret (.cmp .eq (.bin .band (.v 0) (.v 1)) (.v 1))]⟩
noncomputable def qHr:Fd:=⟨2,2,[.ret (.cmp .ne (.bin .band (.v 0) (.v 1)) (.k (.int 0)))]⟩
noncomputable def qDP:Fd:=⟨4,4,[.ret (.isC true (.call 9 [(.v 0),(.call 11 [(.v 1)]),(.v 2),(.v 3)]) .non)]⟩
noncomputable def f_written_above_or:Fd:=⟨1,2,[.set 1 false (.mc (.v 0) (PySem.Str.ofString "written") [(250,52),(285,53),(325,54),(365,55),(405,56),(445,57),(485,58),(525,59),(565,60),(605,61),(645,62),(685,63),(725,64)] []),
 .ret (.ifx (.iso (.v 0) [(285,false),(325,false),(365,false),(405,false),(445,false),(485,false),(525,false),(565,false),(605,false),(645,false),(685,true),(725,false)]) (.fstr [(.k (.str (PySem.Str.ofString "( "))),(.fmt (.v 1)),(.k (.str (PySem.Str.ofString " )")))]) (.v 1))]⟩
noncomputable def f_written_above_and:Fd:=⟨1,2,[.set 1 false (.mc (.v 0) (PySem.Str.ofString "written") [(250,52),(285,53),(325,54),(365,55),(405,56),(445,57),(485,58),(525,59),(565,60),(605,61),(645,62),(685,63),(725,64)] []),
 .ret (.ifx (.or (.iso (.v 0) [(285,false),(325,false),(365,false),(405,false),(445,false),(485,false),(525,false),(565,false),(605,false),(645,false),(685,true),(725,false)]) (.iso (.v 0) [(285,false),(325,false),(365,false),(405,false),(445,false),(485,false),(525,false),(565,false),(605,false),(645,true),(685,false),(725,false)])) (.fstr [(.k (.str (PySem.Str.ofString "( "))),(.fmt (.v 1)),(.k (.str (PySem.Str.ofString " )")))]) (.v 1))]⟩
noncomputable def f_law_cell_at:Fd:=⟨2,2,[.ite (.cmp .lt (.v 1) (.bi .len [(.v 0)])) [.ret (.ix (.v 0) (.v 1))] [],
 .ret (.k (.int 0))]⟩
noncomputable def f_law_stir:Fd:=⟨1,1,[.ret (.bin .mod (.bin .mul (.v 0) (.k (.int 105172331949523456789012345678901234567))) (.k (.int 170141183460469231731687303715884105727)))]⟩
noncomputable def f_law_next:Fd:=⟨1,1,[.ret (.bin .mod (.bin .mul (.v 0) (.k (.int 83492791123456789012345678901234567891))) (.k (.int 170141183460469231731687303715884105727)))]⟩
noncomputable def f_law_scene:Fd:=⟨1,9,[.set 1 false (.call 31 [(.v 0),(.k (.int 0))]),
 .set 2 false (.call 31 [(.v 0),(.k (.int 1))]),
 .set 3 false (.call 31 [(.v 0),(.k (.int 2))]),
 .set 4 false (.call 31 [(.v 0),(.k (.int 3))]),
 .set 5 false (.bin .add (.k (.int 2)) (.bin .mod (.v 1) (.k (.int 2)))),
 .set 6 false (.bin .mod (.bin .fdiv (.v 2) (.k (.int 3))) (.k (.int 4))),
 .ite (.cmp .ne (.bin .mod (.v 2) (.k (.int 3))) (.k (.int 0))) [.set 6 false (.bin .mod (.bin .fdiv (.v 2) (.k (.int 3))) (.bin .add (.bin .pow (.k (.int 10)) (.k (.int 15))) (.k (.int 1))))] [],
 .set 7 false (.compR (.k (.int 0)) 1 [] (.one 0) [(.v 5)]),
 .ite (.cmp .eq (.bin .mod (.v 3) (.k (.int 2))) (.k (.int 1))) [.set 7 false (.compR (.bin .sub (.bin .mod (.bin .mul (.bin .fdiv (.v 1) (.k (.int 2))) (.bin .add (.bin .mul (.v 0) (.v 0)) (.k (.int 1)))) (.bin .add (.bin .mul (.k (.int 2)) (.bin .pow (.k (.int 10)) (.k (.int 29)))) (.k (.int 1)))) (.bin .pow (.k (.int 10)) (.k (.int 29)))) 1 [3] (.one 0) [(.v 5)])] [],
 .set 8 false (.compR (.k (.int 0)) 1 [] (.one 0) [(.v 5)]),
 .ite (.cmp .eq (.bin .mod (.v 4) (.k (.int 2))) (.k (.int 1))) [.set 8 false (.compR (.bin .sub (.bin .mod (.bin .mul (.bin .fdiv (.v 1) (.k (.int 2))) (.bin .add (.v 0) (.k (.int 1)))) (.bin .add (.bin .mul (.k (.int 2)) (.bin .pow (.k (.int 10)) (.k (.int 14)))) (.k (.int 1)))) (.bin .pow (.k (.int 10)) (.k (.int 14)))) 1 [4] (.one 0) [(.v 5)])] [],
 .ret (.tup [(.v 5),(.v 7),(.v 8),(.bin .mod (.bin .fdiv (.v 1) (.k (.int 2))) (.k (.int 2))),(.v 6),(.ix (.lst [(.k (.int 0)),(.k (.int 0)),(.k (.int 5)),(.k (.int 40960))]) (.bin .mod (.bin .fdiv (.v 1) (.k (.int 4))) (.k (.int 4))))])]⟩
noncomputable def f_law_thing_by:Fd:=⟨2,10,[.set 2 false (.call 32 [(.v 0)]),
 .set 3 true (.lst []),
 .forR (.one 4) [(.ix (.v 1) (.k (.int 0)))] [.set 5 false (.bin .add (.ix (.ix (.v 1) (.k (.int 2))) (.v 4)) (.bin .mul (.bin .sub (.bin .mod (.v 2) (.k (.int 5))) (.k (.int 2))) (.ix (.v 1) (.k (.int 3))))),.set 6 false (.bin .sub (.bin .sub (.bin .add (.ix (.ix (.v 1) (.k (.int 1))) (.v 4)) (.bin .mod (.bin .fdiv (.v 2) (.k (.int 5))) (.k (.int 9)))) (.k (.int 4))) (.bin .mul (.v 5) (.ix (.v 1) (.k (.int 4))))),.set 7 false (.bin .mod (.bin .fdiv (.v 2) (.k (.int 45))) (.k (.int 4))),.ite (.cmp .eq (.bin .mod (.bin .fdiv (.v 2) (.k (.int 180))) (.k (.int 5))) (.k (.int 2))) [.set 6 false (.bin .sub (.v 6) (.k (.int 10))),.set 7 false (.bin .add (.v 7) (.k (.int 20)))] [],.ite (.cmp .eq (.bin .mod (.bin .fdiv (.v 2) (.k (.int 900))) (.k (.int 13))) (.k (.int 3))) [.set 6 false (.bin .add (.v 6) (.bin .mod (.v 0) (.bin .pow (.k (.int 10)) (.k (.int 28)))))] [],.app 3 (.tup [(.v 6),(.bin .add (.v 6) (.v 7)),(.v 5),(.v 5)]),.set 2 false (.call 33 [(.v 2)])],
 .set 8 false (.ix (.v 1) (.k (.int 5))),
 .ite (.cmp .eq (.bin .mod (.v 2) (.k (.int 2))) (.k (.int 1))) [.set 8 false (.bin .bor (.v 8) (.bin .mod (.bin .fdiv (.v 2) (.k (.int 2))) (.k (.int 65536))))] [],
 .set 9 false (.bin .sub (.bin .add (.ix (.ix (.v 1) (.k (.int 1))) (.k (.int 0))) (.bin .mod (.bin .fdiv (.v 2) (.k (.int 131072))) (.k (.int 9)))) (.k (.int 4))),
 .ret (.tup [(.bin .mod (.bin .fdiv (.v 2) (.k (.int 1179648))) (.bin .add (.bin .pow (.k (.int 10)) (.k (.int 18))) (.k (.int 1)))),(.bi .tuple [(.v 3)]),(.v 8),(.v 9)])]⟩
noncomputable def f_law_box_by:Fd:=⟨2,7,[.set 2 false (.call 33 [(.call 33 [(.call 32 [(.v 0)])])]),
 .set 3 true (.lst []),
 .forR (.one 4) [(.ix (.v 1) (.k (.int 0)))] [.set 5 false (.bin .sub (.bin .add (.ix (.ix (.v 1) (.k (.int 1))) (.v 4)) (.bin .mod (.v 2) (.k (.int 11)))) (.k (.int 5))),.set 6 false (.bin .mod (.bin .fdiv (.v 2) (.k (.int 11))) (.k (.int 5))),.ite (.cmp .eq (.bin .mod (.bin .fdiv (.v 2) (.k (.int 55))) (.k (.int 3))) (.k (.int 1))) [.set 5 false (.bin .sub (.v 5) (.k (.int 30))),.set 6 false (.bin .add (.v 6) (.k (.int 60)))] [],.ite (.cmp .eq (.bin .mod (.bin .fdiv (.v 2) (.k (.int 165))) (.k (.int 7))) (.k (.int 2))) [.set 5 false (.bin .sub (.v 5) (.bin .mod (.v 0) (.bin .pow (.k (.int 10)) (.k (.int 28)))))] [],.ite (.cmp .eq (.bin .mod (.bin .fdiv (.v 2) (.k (.int 1155))) (.k (.int 7))) (.k (.int 4))) [.set 6 false (.bin .add (.v 6) (.bin .mul (.k (.int 2)) (.bin .pow (.k (.int 10)) (.k (.int 28)))))] [],.app 3 (.tup [(.v 5),(.bin .add (.v 5) (.v 6))]),.set 2 false (.call 33 [(.v 2)])],
 .ret (.bi .tuple [(.v 3)])]⟩
noncomputable def f_law_marks_by:Fd:=⟨1,1,[.ite (.cmp .eq (.bin .mod (.v 0) (.k (.int 5))) (.k (.int 0))) [.ret (.bin .mod (.bin .fdiv (.v 0) (.k (.int 5))) (.k (.int 65536)))] [],
 .ite (.cmp .eq (.bin .mod (.v 0) (.k (.int 5))) (.k (.int 1))) [.ret (.k (.int 0))] [],
 .ret (.bin .bor (.bin .shl (.k (.int 1)) (.bin .mod (.bin .fdiv (.v 0) (.k (.int 5))) (.k (.int 16)))) (.bin .shl (.k (.int 1)) (.bin .mod (.bin .fdiv (.v 0) (.k (.int 80))) (.k (.int 16)))))]⟩
noncomputable def f_law_window:Fd:=⟨2,3,[.set 2 false (.bi .min [(.bin .pow (.k (.int 10)) (.k (.int 15))),(.bi .max [(.k (.int 0)),(.bin .sub (.bin .add (.v 1) (.bin .mod (.v 0) (.k (.int 7)))) (.k (.int 3)))])]),
 .ret (.tup [(.v 2),(.bi .min [(.bin .pow (.k (.int 10)) (.k (.int 15))),(.bi .max [(.k (.int 0)),(.bin .sub (.bin .add (.v 2) (.bin .mod (.bin .fdiv (.v 0) (.k (.int 7))) (.k (.int 9)))) (.k (.int 2)))])])])]⟩
noncomputable def f_law_atom_by:Fd:=⟨2,7,[.set 2 false (.call 33 [(.call 32 [(.v 0)])]),
 .set 3 false (.call 36 [(.v 0),(.v 1)]),
 .set 4 false (.bin .mod (.v 2) (.k (.int 9))),
 .set 2 false (.bin .fdiv (.v 2) (.k (.int 9))),
 .ite (.cmp .eq (.v 4) (.k (.int 0))) [.ret (.tup [(.k (.str (PySem.Str.ofString "anything")))])] [],
 .ite (.cmp .eq (.v 4) (.k (.int 1))) [.ret (.tup [(.k (.str (PySem.Str.ofString "meets"))),(.v 3)])] [],
 .ite (.cmp .eq (.v 4) (.k (.int 2))) [.ret (.tup [(.k (.str (PySem.Str.ofString "inside"))),(.v 3)])] [],
 .ite (.cmp .eq (.v 4) (.k (.int 3))) [.ret (.tup [(.k (.str (PySem.Str.ofString "holds"))),(.bi .tuple [(.compS (.tup [(.ix (.v 0) (.k (.int 0))),(.bin .add (.ix (.v 0) (.k (.int 0))) (.bin .mod (.v 1) (.k (.int 3))))]) 1 [2] (.one 0) (.v 3))])])] [],
 .ite (.cmp .eq (.v 4) (.k (.int 4))) [.set 5 false (.bin .mod (.bin .fdiv (.v 2) (.k (.int 3))) (.k (.int 60))),.ite (.cmp .eq (.bin .mod (.v 2) (.k (.int 3))) (.k (.int 1))) [.set 5 false (.bin .pow (.bin .mod (.bin .fdiv (.v 2) (.k (.int 3))) (.k (.int 9))) (.k (.int 2)))] [],.ite (.cmp .eq (.bin .mod (.v 2) (.k (.int 3))) (.k (.int 2))) [.set 5 false (.bin .mod (.v 0) (.bin .add (.bin .pow (.k (.int 10)) (.k (.int 62))) (.k (.int 1))))] [],.ret (.tup [(.k (.str (PySem.Str.ofString "near"))),(.v 3),(.v 5)])] [],
 .ite (.cmp .eq (.v 4) (.k (.int 5))) [.ret (.tup [(.k (.str (PySem.Str.ofString "marked"))),(.call 37 [(.v 2)])])] [],
 .ite (.cmp .eq (.v 4) (.k (.int 6))) [.ret (.tup [(.k (.str (PySem.Str.ofString "touched"))),(.call 37 [(.v 2)])])] [],
 .ite (.cmp .eq (.v 4) (.k (.int 7))) [.set 6 false (.call 38 [(.v 2),(.ix (.v 1) (.k (.int 4)))]),.ret (.tup [(.k (.str (PySem.Str.ofString "crosses"))),(.v 3),(.ix (.v 6) (.k (.int 0))),(.ix (.v 6) (.k (.int 1)))])] [],
 .ret (.tup [(.k (.str (PySem.Str.ofString "worthy"))),(.bin .sub (.bin .add (.ix (.ix (.v 1) (.k (.int 1))) (.k (.int 0))) (.bin .mod (.v 2) (.k (.int 11)))) (.k (.int 5)))])]⟩
noncomputable def f_law_want:Fd:=⟨1,1,[.ite (.cmp .eq (.ix (.v 0) (.k (.int 0))) (.k (.str (PySem.Str.ofString "meets")))) [.ret (.mk ⟨325,[(PySem.Str.ofString "box")]⟩ [(.ix (.v 0) (.k (.int 1)))])] [],
 .ite (.cmp .eq (.ix (.v 0) (.k (.int 0))) (.k (.str (PySem.Str.ofString "inside")))) [.ret (.mk ⟨365,[(PySem.Str.ofString "box")]⟩ [(.ix (.v 0) (.k (.int 1)))])] [],
 .ite (.cmp .eq (.ix (.v 0) (.k (.int 0))) (.k (.str (PySem.Str.ofString "holds")))) [.ret (.mk ⟨405,[(PySem.Str.ofString "box")]⟩ [(.ix (.v 0) (.k (.int 1)))])] [],
 .ite (.cmp .eq (.ix (.v 0) (.k (.int 0))) (.k (.str (PySem.Str.ofString "near")))) [.ret (.mk ⟨445,[(PySem.Str.ofString "box"),(PySem.Str.ofString "far")]⟩ [(.ix (.v 0) (.k (.int 1))),(.ix (.v 0) (.k (.int 2)))])] [],
 .ite (.cmp .eq (.ix (.v 0) (.k (.int 0))) (.k (.str (PySem.Str.ofString "marked")))) [.ret (.mk ⟨485,[(PySem.Str.ofString "marks")]⟩ [(.ix (.v 0) (.k (.int 1)))])] [],
 .ite (.cmp .eq (.ix (.v 0) (.k (.int 0))) (.k (.str (PySem.Str.ofString "touched")))) [.ret (.mk ⟨525,[(PySem.Str.ofString "marks")]⟩ [(.ix (.v 0) (.k (.int 1)))])] [],
 .ite (.cmp .eq (.ix (.v 0) (.k (.int 0))) (.k (.str (PySem.Str.ofString "crosses")))) [.ret (.mk ⟨565,[(PySem.Str.ofString "box"),(PySem.Str.ofString "first"),(PySem.Str.ofString "last")]⟩ [(.ix (.v 0) (.k (.int 1))),(.ix (.v 0) (.k (.int 2))),(.ix (.v 0) (.k (.int 3)))])] [],
 .ite (.cmp .eq (.ix (.v 0) (.k (.int 0))) (.k (.str (PySem.Str.ofString "worthy")))) [.ret (.mk ⟨605,[(PySem.Str.ofString "least")]⟩ [(.ix (.v 0) (.k (.int 1)))])] [],
 .ret (.mk ⟨285,[]⟩ [])]⟩
noncomputable def f_law_poured:Fd:=⟨1,11,[.set 1 true (.lst []),
 .set 2 true (.lst []),
 .forR (.one 3) [(.bi .len [(.ix (.ix (.v 0) (.k (.int 0))) (.k (.int 1)))])] [.set 5 false (.compS (.ix (.ix (.ix (.v 0) (.k (.int 1))) (.v 1)) (.k (.int 0))) 1 [3] (.one 0) (.v 0)),.set 6 false (.compS (.ix (.ix (.ix (.v 0) (.k (.int 1))) (.v 1)) (.k (.int 1))) 1 [3] (.one 0) (.v 0)),.set 7 false (.compS (.ix (.ix (.ix (.v 0) (.k (.int 1))) (.v 1)) (.k (.int 2))) 1 [3] (.one 0) (.v 0)),.app 1 (.tup [(.bi .min [(.v 5)]),(.bi .max [(.v 6)]),(.bi .min [(.v 7)]),(.bi .max [(.v 7)])]),.app 2 (.tup [(.bi .max [(.v 5)]),(.bi .min [(.v 6)]),(.bi .max [(.v 7)]),(.bi .min [(.v 7)])])],
 .set 8 false (.k (.int 0)),
 .set 9 false (.k (.int 65535)),
 .forS (.one 4) (.v 0) [.set 8 false (.bin .bor (.v 8) (.ix (.v 4) (.k (.int 2)))),.set 9 false (.bin .band (.v 9) (.ix (.v 4) (.k (.int 2))))],
 .set 10 false (.compS (.ix (.v 0) (.k (.int 3))) 1 [] (.one 0) (.v 0)),
 .ret (.tup [(.bi .tuple [(.v 1)]),(.bi .tuple [(.v 2)]),(.v 8),(.v 9),(.bi .len [(.v 0)]),(.bi .min [(.v 10)]),(.bi .max [(.v 10)]),(.bi .sum [(.v 10)])])]⟩
noncomputable def f_law_box_text:Fd:=⟨1,1,[.ret (.join (.k (.str (PySem.Str.ofString ","))) (.compS (.bin .add (.bin .add (.bi .str [(.ix (.v 0) (.k (.int 0)))]) (.k (.str (PySem.Str.ofString "..")))) (.bi .str [(.ix (.v 0) (.k (.int 1)))])) 1 [] (.one 0) (.v 0)))]⟩
noncomputable def f_law_atom_text:Fd:=⟨1,3,[.set 1 true (.lst [(.ix (.v 0) (.k (.int 0)))]),
 .forS (.one 2) (.sl (.v 0) (some (.k (.int 1))) none) [.ite (.isi (.v 2) .tuple) [.app 1 (.call 42 [(.v 2)])] [.app 1 (.bi .str [(.v 2)])]],
 .ret (.join (.k (.str (PySem.Str.ofString " "))) (.v 1))]⟩
noncomputable def f_law_bound:Fd:=⟨3,3,[.ite (.cmp .lt (.v 1) (.v 2)) [.ret (.bin .add (.bin .add (.k (.str (PySem.Str.ofString "( "))) (.v 0)) (.k (.str (PySem.Str.ofString " )"))))] [],
 .ret (.v 0)]⟩
noncomputable def f_law_pair:Fd:=⟨2,5,[.pop (.one 2) 0,
 .pop (.one 3) 0,
 .ite (.cmp .eq (.v 1) (.k (.int 0))) [.set 4 false (.bin .add (.bin .add (.call 44 [(.ix (.v 3) (.k (.int 1))),(.ix (.v 3) (.k (.int 2))),(.k (.int 1))]) (.k (.str (PySem.Str.ofString " and ")))) (.call 44 [(.ix (.v 2) (.k (.int 1))),(.ix (.v 2) (.k (.int 2))),(.k (.int 2))])),.app 0 (.tup [(.mk ⟨645,[(PySem.Str.ofString "one"),(PySem.Str.ofString "two")]⟩ [(.ix (.v 3) (.k (.int 0))),(.ix (.v 2) (.k (.int 0)))]),(.v 4),(.k (.int 1))])] [.set 4 false (.bin .add (.bin .add (.ix (.v 3) (.k (.int 1))) (.k (.str (PySem.Str.ofString " or ")))) (.call 44 [(.ix (.v 2) (.k (.int 1))),(.ix (.v 2) (.k (.int 2))),(.k (.int 1))])),.app 0 (.tup [(.mk ⟨685,[(PySem.Str.ofString "one"),(PySem.Str.ofString "two")]⟩ [(.ix (.v 3) (.k (.int 0))),(.ix (.v 2) (.k (.int 0)))]),(.v 4),(.k (.int 0))])]]⟩
noncomputable def f_law_push:Fd:=⟨3,6,[.set 3 false (.bin .mod (.bin .fdiv (.call 32 [(.v 1)]) (.k (.int 9))) (.k (.int 8))),
 .ite (.and (.cmp .lt (.v 3) (.k (.int 4))) (.cmp .gt (.bi .len [(.v 0)]) (.k (.int 1)))) [.hnd 0 45 [(.bin .mod (.v 3) (.k (.int 2)))]] [.ite (.and (.cmp .eq (.v 3) (.k (.int 4))) (.cmp .ne (.v 0) (.lst []))) [.pop (.one 4) 0,.app 0 (.tup [(.mk ⟨725,[(PySem.Str.ofString "one")]⟩ [(.ix (.v 4) (.k (.int 0)))]),(.bin .add (.k (.str (PySem.Str.ofString "not "))) (.call 44 [(.ix (.v 4) (.k (.int 1))),(.ix (.v 4) (.k (.int 2))),(.k (.int 2))])),(.k (.int 2))])] [.set 5 false (.call 39 [(.v 1),(.v 2)]),.app 0 (.tup [(.call 40 [(.v 5)]),(.call 43 [(.v 5)]),(.k (.int 2))])]]]⟩
noncomputable def f_law_kinds:Fd:=⟨1,4,[.set 1 false (.lst [(.iso (.v 0) [(285,true),(325,false),(365,false),(405,false),(445,false),(485,false),(525,false),(565,false),(605,false),(645,false),(685,false),(725,false)]),(.iso (.v 0) [(285,false),(325,true),(365,false),(405,false),(445,false),(485,false),(525,false),(565,false),(605,false),(645,false),(685,false),(725,false)]),(.iso (.v 0) [(285,false),(325,false),(365,true),(405,false),(445,false),(485,false),(525,false),(565,false),(605,false),(645,false),(685,false),(725,false)]),(.iso (.v 0) [(285,false),(325,false),(365,false),(405,true),(445,false),(485,false),(525,false),(565,false),(605,false),(645,false),(685,false),(725,false)])]),
 .set 2 false (.lst [(.iso (.v 0) [(285,false),(325,false),(365,false),(405,false),(445,true),(485,false),(525,false),(565,false),(605,false),(645,false),(685,false),(725,false)]),(.iso (.v 0) [(285,false),(325,false),(365,false),(405,false),(445,false),(485,true),(525,false),(565,false),(605,false),(645,false),(685,false),(725,false)]),(.iso (.v 0) [(285,false),(325,false),(365,false),(405,false),(445,false),(485,false),(525,true),(565,false),(605,false),(645,false),(685,false),(725,false)]),(.iso (.v 0) [(285,false),(325,false),(365,false),(405,false),(445,false),(485,false),(525,false),(565,true),(605,false),(645,false),(685,false),(725,false)])]),
 .set 3 false (.lst [(.iso (.v 0) [(285,false),(325,false),(365,false),(405,false),(445,false),(485,false),(525,false),(565,false),(605,true),(645,false),(685,false),(725,false)]),(.iso (.v 0) [(285,false),(325,false),(365,false),(405,false),(445,false),(485,false),(525,false),(565,false),(605,false),(645,true),(685,false),(725,false)]),(.iso (.v 0) [(285,false),(325,false),(365,false),(405,false),(445,false),(485,false),(525,false),(565,false),(605,false),(645,false),(685,true),(725,false)]),(.iso (.v 0) [(285,false),(325,false),(365,false),(405,false),(445,false),(485,false),(525,false),(565,false),(605,false),(645,false),(685,false),(725,true)])]),
 .ret (.bin .add (.bin .add (.v 1) (.v 2)) (.v 3))]⟩
noncomputable def f_law_written:Fd:=⟨1,3,[.forR (.one 1) [(.k (.int 2))] [.set 2 false (.mc (.ix (.v 0) (.k (.int 0))) (PySem.Str.ofString "written") [(250,52),(285,53),(325,54),(365,55),(405,56),(445,57),(485,58),(525,59),(565,60),(605,61),(645,62),(685,63),(725,64)] []),.ite (.or (.not (.isi (.v 2) .str)) (.cmp .ne (.v 2) (.ix (.v 0) (.k (.int 1))))) [.ret (.k (.bl false))] []],
 .ite (.or (.not (.iso (.ix (.v 0) (.k (.int 0))) [(285,true),(325,true),(365,true),(405,true),(445,true),(485,true),(525,true),(565,true),(605,true),(645,true),(685,true),(725,true)])) (.cmp .ne (.cntT (.call 47 [(.ix (.v 0) (.k (.int 0)))])) (.k (.int 1)))) [.ret (.k (.bl false))] [],
 .ret (.and (.cmp .eq (.iso (.ix (.v 0) (.k (.int 0))) [(285,false),(325,false),(365,false),(405,false),(445,false),(485,false),(525,false),(565,false),(605,false),(645,true),(685,false),(725,false)]) (.cmp .eq (.ix (.v 0) (.k (.int 2))) (.k (.int 1)))) (.cmp .eq (.iso (.ix (.v 0) (.k (.int 0))) [(285,false),(325,false),(365,false),(405,false),(445,false),(485,false),(525,false),(565,false),(605,false),(645,false),(685,true),(725,false)]) (.cmp .eq (.ix (.v 0) (.k (.int 2))) (.k (.int 0)))))]⟩
noncomputable def f_law:Fd:=⟨1,7,[.set 1 false (.call 34 [(.v 0)]),
 .set 2 false (.call 35 [(.call 31 [(.v 0),(.k (.int 4))]),(.v 1)]),
 .set 3 false (.mk ⟨250,[]⟩ []),
 .ite (.or (.isC true (.mc (.v 3) (PySem.Str.ofString "suits") [(250,50)] [(.v 2),(.ix (.v 1) (.k (.int 4)))]) (.bl false)) (.cmp .ne (.mc (.v 3) (PySem.Str.ofString "written") [(250,52),(285,53),(325,54),(365,55),(405,56),(445,57),(485,58),(525,59),(565,60),(605,61),(645,62),(685,63),(725,64)] []) (.k (.str (PySem.Str.ofString ""))))) [.ret (.k (.bl false))] [],
 .ite (.cmp .ne (.mc (.v 3) (PySem.Str.ofString "verdict") [(250,51)] [(.call 41 [(.lst [(.v 2)])]),(.ix (.v 1) (.k (.int 4)))]) (.k (.str (PySem.Str.ofString "none")))) [.ret (.k (.bl false))] [],
 .set 4 true (.lst []),
 .forS (.one 5) (.bin .add (.lst [(.k (.int 0))]) (.sl (.v 0) (some (.k (.int 4))) (some (.k (.int 54))))) [.hnd 4 46 [(.v 5),(.v 1)]],
 .forO 4 6 (.not (.call 48 [(.v 6)])) [.ret (.k (.bl false))],
 .whl (.cmp .gt (.bi .len [(.v 4)]) (.k (.int 1))) [.hnd 4 45 [(.bin .mod (.bi .len [(.v 4)]) (.k (.int 2)))]],
 .ret (.call 48 [(.ix (.v 4) (.k (.int 0)))])]⟩
noncomputable def qCq:Fd:=⟨3,3,[.ret (.k (.bl false))]⟩
noncomputable def qB4:Fd:=⟨3,3,[.ret (.k (.str (PySem.Str.ofString "none")))]⟩
noncomputable def qB3:Fd:=⟨1,1,[.ret (.k (.str (PySem.Str.ofString "")))]⟩
noncomputable def qA5:Fd:=⟨1,1,[.ret (.k (.str (PySem.Str.ofString "anything")))]⟩
noncomputable def qBm:Fd:=⟨1,1,[.ret (.bin .add (.k (.str (PySem.Str.ofString "meets "))) (.call 6 [(.fld (.v 0) 0 (PySem.Str.ofString "box"))]))]⟩
noncomputable def qBf:Fd:=⟨1,1,[.ret (.bin .add (.k (.str (PySem.Str.ofString "inside "))) (.call 6 [(.fld (.v 0) 0 (PySem.Str.ofString "box"))]))]⟩
noncomputable def qBn:Fd:=⟨1,1,[.ret (.bin .add (.k (.str (PySem.Str.ofString "holds "))) (.call 6 [(.fld (.v 0) 0 (PySem.Str.ofString "box"))]))]⟩
noncomputable def qBw:Fd:=⟨1,1,[.ret (.bin .add (.bin .add (.bin .add (.k (.str (PySem.Str.ofString "near "))) (.call 6 [(.fld (.v 0) 0 (PySem.Str.ofString "box"))])) (.k (.str (PySem.Str.ofString " ")))) (.bi .str [(.fld (.v 0) 1 (PySem.Str.ofString "far"))]))]⟩
noncomputable def qBe:Fd:=⟨1,1,[.ret (.bin .add (.k (.str (PySem.Str.ofString "marked "))) (.bi .str [(.fld (.v 0) 0 (PySem.Str.ofString "marks"))]))]⟩
noncomputable def qA8:Fd:=⟨1,1,[.ret (.bin .add (.k (.str (PySem.Str.ofString "touched "))) (.bi .str [(.fld (.v 0) 0 (PySem.Str.ofString "marks"))]))]⟩
noncomputable def qA9:Fd:=⟨1,1,[.ret (.bin .add (.bin .add (.bin .add (.bin .add (.bin .add (.k (.str (PySem.Str.ofString "crosses "))) (.call 6 [(.fld (.v 0) 0 (PySem.Str.ofString "box"))])) (.k (.str (PySem.Str.ofString " ")))) (.bi .str [(.fld (.v 0) 1 (PySem.Str.ofString "first"))])) (.k (.str (PySem.Str.ofString " ")))) (.bi .str [(.fld (.v 0) 2 (PySem.Str.ofString "last"))]))]⟩
noncomputable def qBd:Fd:=⟨1,1,[.ret (.bin .add (.k (.str (PySem.Str.ofString "worthy "))) (.bi .str [(.fld (.v 0) 0 (PySem.Str.ofString "least"))]))]⟩
noncomputable def f_Both_written:Fd:=⟨1,1,[.ret (.bin .add (.bin .add (.call 29 [(.fld (.v 0) 0 (PySem.Str.ofString "one"))]) (.k (.str (PySem.Str.ofString " and ")))) (.call 30 [(.fld (.v 0) 1 (PySem.Str.ofString "two"))]))]⟩
noncomputable def f_Either_written:Fd:=⟨1,1,[.ret (.bin .add (.bin .add (.mc (.fld (.v 0) 0 (PySem.Str.ofString "one")) (PySem.Str.ofString "written") [(250,52),(285,53),(325,54),(365,55),(405,56),(445,57),(485,58),(525,59),(565,60),(605,61),(645,62),(685,63),(725,64)] []) (.k (.str (PySem.Str.ofString " or ")))) (.call 29 [(.fld (.v 0) 1 (PySem.Str.ofString "two"))]))]⟩
noncomputable def f_Unless_written:Fd:=⟨1,1,[.ret (.bin .add (.k (.str (PySem.Str.ofString "not "))) (.call 30 [(.fld (.v 0) 0 (PySem.Str.ofString "one"))]))]⟩
noncomputable def tab:List Fd:=[qEo,qCc,qDm,qEp,qEq,qHs,f_box_written,qGb,qDQ,qHq,qHp,qDO,qF9,qDM,qDN,qDL,qEY,qEn,qEl,qEW,qEm,qEk,qEX,qDc,qGa,qF7,qF8,qHr,qDP,f_written_above_or,f_written_above_and,f_law_cell_at,f_law_stir,f_law_next,f_law_scene,f_law_thing_by,f_law_box_by,f_law_marks_by,f_law_window,f_law_atom_by,f_law_want,f_law_poured,f_law_box_text,f_law_atom_text,f_law_bound,f_law_pair,f_law_push,f_law_kinds,f_law_written,f_law,qCq,qB4,qB3,qA5,qBm,qBf,qBn,qBw,qBe,qA8,qA9,qBd,f_Both_written,f_Either_written,f_Unless_written]
theorem t1:tab[1]?=some qCc:=rfl
theorem t2:tab[2]?=some qDm:=rfl
theorem t6:tab[6]?=some f_box_written:=rfl
theorem t29:tab[29]?=some f_written_above_or:=rfl
theorem t30:tab[30]?=some f_written_above_and:=rfl
theorem t31:tab[31]?=some f_law_cell_at:=rfl
theorem t32:tab[32]?=some f_law_stir:=rfl
theorem t33:tab[33]?=some f_law_next:=rfl
theorem t34:tab[34]?=some f_law_scene:=rfl
theorem t35:tab[35]?=some f_law_thing_by:=rfl
theorem t36:tab[36]?=some f_law_box_by:=rfl
theorem t37:tab[37]?=some f_law_marks_by:=rfl
theorem t38:tab[38]?=some f_law_window:=rfl
theorem t39:tab[39]?=some f_law_atom_by:=rfl
theorem t40:tab[40]?=some f_law_want:=rfl
theorem t41:tab[41]?=some f_law_poured:=rfl
theorem t42:tab[42]?=some f_law_box_text:=rfl
theorem t43:tab[43]?=some f_law_atom_text:=rfl
theorem t44:tab[44]?=some f_law_bound:=rfl
theorem t45:tab[45]?=some f_law_pair:=rfl
theorem t46:tab[46]?=some f_law_push:=rfl
theorem t47:tab[47]?=some f_law_kinds:=rfl
theorem t48:tab[48]?=some f_law_written:=rfl
theorem t49:tab[49]?=some f_law:=rfl
theorem t50:tab[50]?=some qCq:=rfl
theorem t51:tab[51]?=some qB4:=rfl
theorem t52:tab[52]?=some qB3:=rfl
theorem t53:tab[53]?=some qA5:=rfl
theorem t54:tab[54]?=some qBm:=rfl
theorem t55:tab[55]?=some qBf:=rfl
theorem t56:tab[56]?=some qBn:=rfl
theorem t57:tab[57]?=some qBw:=rfl
theorem t58:tab[58]?=some qBe:=rfl
theorem t59:tab[59]?=some qA8:=rfl
theorem t60:tab[60]?=some qA9:=rfl
theorem t61:tab[61]?=some qBd:=rfl
theorem t62:tab[62]?=some f_Both_written:=rfl
theorem t63:tab[63]?=some f_Either_written:=rfl
theorem t64:tab[64]?=some f_Unless_written:=rfl
end Dw.T
namespace Dw
theorem qAW {n:Nat}(h:n<=16777216):n<=lim:=h
theorem qB2 {n:Nat}(h:n<16777216):n<lim:=h
theorem qL8:(0<=lim)=True:=eq_true (Nat.zero_le _)
theorem qP5:(2<=lim)=True:=eq_true (qAW (by decide))
theorem qP4:(4<=lim)=True:=eq_true (qAW (by decide))
noncomputable def qBr:=qEK
noncomputable def qJu:=qGe
noncomputable def biP:=biD
noncomputable def ixP:=ixx
noncomputable def slP:=slx
noncomputable def ixQ:=ixD
noncomputable def qKh:=qJr
noncomputable def tyP:=tyR
noncomputable def qJU:=qEQ
noncomputable def qMI:=qDy
noncomputable def qLv:=qLw
noncomputable def qPj:=qJC
section
variable (a b:Int) (x y z:D) (xs ys:List D)
@[simp] theorem qAK:qBr .add (.int a) (.int b)=some (false,.int (a+b)):=rfl
@[simp] theorem qAY:qBr .sub (.int a) (.int b)=some (false,.int (a - b)):=rfl
@[simp] theorem qBH:qBr .mul (.int a) (.int b)=if qBX a b then some (false,.int (a * b)) else none:=rfl
@[simp] theorem qAj:qBr .fdiv (.int a) (.int b)=if qAU b then some (false,.int (a.fdiv b)) else none:=rfl
@[simp] theorem qAd:qBr .mod (.int a) (.int b)=if qAU b then some (false,.int (a.fmod b)) else none:=rfl
@[simp] theorem qA6:qBr .pow (.int a) (.int b)=if qCu a b then some (false,.int (a^b.toNat)) else none:=rfl
@[simp] theorem qJx:qBr .shl (.int a) (.int b)=if qIJ a b then some (false,.int (a * 2^b.toNat)) else none:=rfl
@[simp] theorem qH8:qBr .band (.int a) (.int b)=if 0<=a/\0<=b then some (false,.int ((a.toNat &&& b.toNat:Nat):Int)) else none:=rfl
@[simp] theorem qDW:qBr .bor (.int a) (.int b)=if 0<=a/\0<=b then some (false,.int ((a.toNat ||| b.toNat:Nat):Int)) else none:=rfl
@[simp] theorem qHQ:qJu .ne x y=if (qCn 20 x||qCn 20 y)&&(nob x&&nob y) then some (false,.bl (!eqD x y)) else (qOv x y).map λe=>(false,.bl (!e)):=rfl
@[simp] theorem qAe:qJu .eq (.int a) (.int b)=some (false,.bl (eqD (.int a) (.int b))):=rfl
@[simp] theorem qFF:qJu .ne (.int a) (.int b)=some (false,.bl (!eqD (.int a) (.int b))):=rfl
@[simp] theorem qC7:qJu .lt (.int a) (.int b)=some (false,.bl (decide (a<b))):=rfl
@[simp] theorem qLP:qJu .gt (.int a) (.int b)=some (false,.bl (decide (b<a))):=rfl
theorem qNJ (i j:Int):(if j<i then j else i)=min i j:=by omega
theorem qNK (i j:Int):(if i<j then j else i)=max i j:=by omega
@[simp] theorem qJz:biP .len [.tup xs]=some (false,.int xs.length):=rfl
@[simp] theorem qCC:biP .len [.lst xs]=some (false,.int xs.length):=rfl
@[simp] theorem qH9:biP .min [.int a,.int b]=some (false,.int (min a b)):=by rw [<-qNJ];rfl
@[simp] theorem qIa:biP .max [.int a,.int b]=some (false,.int (max a b)):=by rw [<-qNK];rfl
@[simp] theorem qLV:biP .str [.int a]=if a.natAbs<2^240 then some (false,.str (qBo a)) else none:=rfl
@[simp] theorem qLu (u:PySem.Str):qLv (.str u) (.lst xs)=(qBk xs).bind λts=>if qDk u ts then some (false,.str (qCv u ts)) else none:=rfl
@[simp] theorem qDX:biP .tuple [.lst xs]=some (false,.tup xs):=rfl
@[simp] theorem qHe:ixP (.lst xs) (.int a)=(ixQ xs a).map (false,·):=rfl
@[simp] theorem qNz:ixP (.tup xs) (.int a)=(ixQ xs a).map (false,·):=rfl
@[simp] theorem qJd:ixQ (x::xs) 0=some x:=by simp [ixQ]
theorem qLx (j:Nat):ixQ xs (j:Int)=xs[j]?:=by
 simp only [ixQ,ixD,ixN];rw [if_pos (by omega)]
 by_cases h:j<xs.length
 ·rw [if_pos (by omega)];simp
 ·rw [if_neg (by omega)];simp;omega
@[simp] theorem qOL (l h):slP l h (.lst xs)=some (true,.lst (qKh xs l h)):=rfl
@[simp] theorem qOK (l h):slP l h (.tup xs)=some (false,.tup (qKh xs l h)):=rfl
@[simp] theorem qMi (x):tyP .str (.str x)=some (false,.bl true):=rfl
@[simp] theorem qML:qJU [.int a]=if -(2^62)<=a/\a<2^62 then some ((List.range a.toNat).map λi=>.int (i:Nat)) else none:=rfl
theorem qMK (n:Nat) (h:n<=10000):qJU [.int n]=some ((List.range n).map λi=>.int (i:Nat)):=by
 rw [qML,if_pos (by omega)];simp
end
section
variable (call:Nat->List D->Option R) (σ:En)
@[simp 5000] theorem qCt (i):evE call σ (.v i)=qA2 (qAf σ i):=rfl
@[simp 5000] theorem qAn (d):evE call σ (.k d)=some (false,d):=rfl
@[simp 5000] theorem qAg (o a b):evE call σ (.bin o a b)=match pk σ a (evE call σ a) with
 | none=>none|some x=>match pk σ b (evE call σ b) with|none=>none|some y=>qBr o x y:=by
 rw [qHI];cases pk σ a (evE call σ a)<;>first|rfl|(cases pk σ b (evE call σ b)<;>rfl)
@[simp 5000] theorem qAh (o a b):evE call σ (.cmp o a b)=match pk σ a (evE call σ a) with
 | none=>none|some x=>match pk σ b (evE call σ b) with|none=>none|some y=>qJu o x y:=by
 rw [qE3];cases pk σ a (evE call σ a)<;>first|rfl|(cases pk σ b (evE call σ b)<;>rfl)
@[simp 5000] theorem qJM (a b):evE call σ (.and a b)=match evE call σ a with
 | none=>none|some (_,.bl c)=>(if c=true then evE call σ b else some (false,.bl false))|some _=>none:=by
 rw [qHK];rcases evE call σ a with _|⟨x,d⟩<;>first|rfl|(cases d<;>first|rfl|(rename_i c;cases c<;>rfl))
@[simp 5000] theorem qGn (a):evE call σ (.not a)=match evE call σ a with
 | none=>none|some (_,.bl c)=>some (false,.bl (!c))|some _=>none:=by
 rw [qHC];rcases evE call σ a with _|⟨x,d⟩<;>first|rfl|(cases d<;>rfl)
@[simp 5000] theorem qAX (a b):evE call σ (.ix a b)=match pk σ a (evE call σ a) with
 | none=>none|some x=>match pk σ b (evE call σ b) with|none=>none|some y=>ixP x y:=by
 rw [qKe];cases pk σ a (evE call σ a)<;>first|rfl|(cases pk σ b (evE call σ b)<;>rfl)
@[simp 5000] theorem qMe (a lo hi):evE call σ (.sl a lo hi)=match pk σ a (evE call σ a) with
 | none=>none|some x=>match evO call σ lo with|none=>none|some l=>match evO call σ hi with|none=>none|some h=>slP l h x:=by
 rw [qKa];cases pk σ a (evE call σ a)<;>first|rfl|(cases evO call σ lo<;>first|rfl|(cases evO call σ hi<;>rfl))
@[simp 5000] theorem qAV (as):evE call σ (.tup as)=match evA call σ as with|none=>none|some xs=>if xs.length<=lim then some (false,.tup xs) else none:=by
 rw [qHB];cases evA call σ as<;>rfl
@[simp 5000] theorem qBZ (as):evE call σ (.lst as)=match evA call σ as with|none=>none|some xs=>if xs.length<=lim then some (true,.lst xs) else none:=by
 rw [qHD];cases evA call σ as<;>rfl
@[simp 5000] theorem qAw (f as):evE call σ (.call f as)=match evG call σ as with|none=>none|some xs=>call f xs:=by
 rw [qFB];cases evG call σ as<;>rfl
@[simp 5000] theorem qBB (b as):evE call σ (.bi b as)=match qCj call σ as with|none=>none|some xs=>biP b xs:=by
 rw [qHJ];cases qCj call σ as<;>rfl
@[simp 5000] theorem qMg (a t):evE call σ (.isi a t)=match pk σ a (evE call σ a) with|none=>none|some x=>tyP t x:=by
 rw [qHF];cases pk σ a (evE call σ a)<;>rfl
@[simp 5000] theorem qGo (as):evE call σ (.fstr as)=match evA call σ as with
 | none=>none|some xs=>match qBk xs with|none=>none|some ts=>match qE5 PySem.Str.empty ts with|none=>none|some z=>some (false,.str z):=by
 rw [qFz]
 cases evA call σ as with
 | none=>rfl
 | some xs =>
  show (qBk xs).bind _=match qBk xs with|none=>none|some ts=>_
  cases qBk xs with
  | none=>rfl
  | some ts =>
   show (qE5 PySem.Str.empty ts).map _=match qE5 PySem.Str.empty ts with|none=>none|some z=>_
   cases qE5 PySem.Str.empty ts<;>rfl
@[simp 5000] theorem qIq (e nl ks tg src):evE call σ (.compS e nl ks tg src)=match evE call σ src with
 | none=>none|some x=>match qMI x.2 with|none=>none|some its=>match qAT call e (qBj σ nl ks) tg its with|none=>none|some ys=>some (true,.lst ys):=by
 rw [qCZ]
 cases evE call σ src with
 | none=>rfl
 | some x => show (qDy x.2).bind _ = match qDy x.2 with | none => none | some its => _
             cases qDy x.2 with
             | none=>rfl
             | some its => show (qAT call e (qBj σ nl ks) tg its).bind _ = match qAT call e (qBj σ nl ks) tg its with | none => none | some ys => _
                           cases qAT call e (qBj σ nl ks) tg its<;>rfl
@[simp 5000] theorem qIr (e nl ks tg rs):evE call σ (.compR e nl ks tg rs)=match qCj call σ rs with
 | none=>none|some x=>match qJU x with|none=>none|some its=>if its.length<=lim then (match qAT call e (qBj σ nl ks) tg its with|none=>none|some ys=>some (true,.lst ys)) else none:=by
 rw [qC0]
 cases qCj call σ rs with
 | none=>rfl
 | some x => show (qEQ x).bind _ = match qEQ x with | none => none | some its => _
             cases qEQ x with
             | none=>rfl
             | some its => show (if its.length <= lim then (qAT call e (qBj σ nl ks) tg its).bind _ else none) = if its.length <= lim then (match qAT call e (qBj σ nl ks) tg its with | none => none | some ys => _) else none
                           cases qAT call e (qBj σ nl ks) tg its<;>rfl
@[simp 5000] theorem qBL (a j f):evE call σ (.fld a j f)=match evE call σ a with|none=>none|some r=>qDZ j f r.2:=by
 rw [qHH];cases evE call σ a<;>rfl
@[simp 5000] theorem qIp (kn as):evE call σ (.mk kn as)=match evA call σ as with|none=>none|some xs=>if xs.length=kn.ns.length then some (false,.obj kn xs) else none:=by
 rw [qKc];cases evA call σ as<;>rfl
@[simp 5000] theorem qMf (a tb):evE call σ (.iso a tb)=match evE call σ a with|none=>none|some r=>qNG tb r.2:=by
 rw [qHE];cases evE call σ a<;>rfl
@[simp 5000] theorem qKo (a):evE call σ (.cntT a)=match evE call σ a with|none=>none|some r=>qOy r:=by
 rw [qFA];cases evE call σ a<;>rfl
@[simp 5000] theorem qJL (a):evE call σ (.fmt a)=match pk σ a (evE call σ a) with|none=>none|some d=>qNO d:=by
 rw [qHG];cases pk σ a (evE call σ a)<;>rfl
theorem qNF (tb:List (Nat×Bool)) (kn:Kn) (ds:List D):qNG tb (.obj kn ds)=(tb.lookup kn.c).map λb=>(false,.bl b):=rfl
theorem qNN (i:Int):qNO (.int i)=if i.natAbs<2^240 then some (false,.str (qBo i)) else none:=rfl
theorem qNM (x:PySem.Str):qNO (.str x)=if x.length<=lim then some (false,.str x) else none:=rfl
theorem qKB {i x:Nat}{c:C}{body:List S}{xs:List D}{σ':En}{rest:List S}{z:Option Ou}(hx:qAf σ i=some (true,.lst xs)) (hij:i≠x) (h:qCb (fun σ'=>evE call σ' c) (fun σ'=>qAp call σ' body) x xs (σ.set i none)=some (.nx σ')) (k:qAp call (σ'.set i (some (true,.lst xs))) rest=z):qAp call σ (.forO i x c body::rest)=z:=by
 rw [qAP,qFv,hx,Option.bind_some]
 simp only [qIl,Option.bind_some]
 rw [if_neg hij,h]
 exact k
@[simp 5000] theorem qAC (a r):evA call σ (a::r)=match evE call σ a with|none=>none|some x=>match evA call σ r with|none=>none|some xs=>some (x.2::xs):=by
 rw [qCe];cases evE call σ a<;>first|rfl|(cases evA call σ r<;>rfl)
theorem qOx {a:C}{m:PySem.Str}{tb:List (Nat×Nat)}{bs:List C}{b:Bool}{kn:Kn}{os ys:List D}{f:Nat}{r:R}(ho:evE call σ a=some (b,.obj kn os)) (hm:kn.ns.all (λf=>f != m)=true) (ht:tb.lookup kn.c=some f) (hb:evA call σ bs=some ys) (hc:call f (.obj kn os::ys)=some r):evE call σ (.mc a m tb bs)=some r:=by
 rw [qKd,ho,Option.bind_some]
 simp only [mtb,hm,if_true]
 rw [ht,Option.bind_some,hb,Option.bind_some,hc]
theorem qGy {i f:Nat}{as:List C}{xs ys zs:List D}{b:Bool}{rest:List S}{z:Option Ou}(hx:qAf σ i=some (true,.lst xs)) (ha:evA call σ as=some ys) (hc:call (f+HX) (.lst xs::ys)=some (b,.lst zs))
  (k:qAp call (σ.set i (some (true,.lst zs))) rest=z):qAp call σ (.hnd i f as::rest)=z:=by
 rw [qAP,qHy,hx,Option.bind_some]
 simp only [qIl,Option.bind_some]
 rw [ha,Option.bind_some,hc]
 exact k
@[simp 5000] theorem qAv (a r):evG call σ (a::r)=match ag σ a (evE call σ a) with|none=>none|some x=>match evG call σ r with|none=>none|some xs=>some (x::xs):=by
 rw [qFx];cases ag σ a (evE call σ a)<;>first|rfl|(cases evG call σ r<;>rfl)
@[simp 5000] theorem qAs (a r):qCj call σ (a::r)=match pk σ a (evE call σ a) with|none=>none|some x=>match qCj call σ r with|none=>none|some xs=>some (x::xs):=by
 rw [qC2];cases pk σ a (evE call σ a)<;>first|rfl|(cases qCj call σ r<;>rfl)
@[simp 5000] theorem qGm (c):evO call σ (some c)=match pk σ c (evE call σ c) with|none=>none|some x=>qNh x:=by
 rw [qFw];cases pk σ c (evE call σ c)<;>rfl
variable (rest:List S)
@[simp 5000] theorem qMb (i keep e):qAp call σ (.set i keep e::rest)=match evE call σ e with|none=>none|some r=>qAp call (σ.set i (some (qAF keep r))) rest:=by
 rw [qAP,qHv];cases evE call σ e<;>rfl
@[simp 5000] theorem qMd (i e):qAp call σ (.app i e::rest)=match evE call σ e with|none=>none|some x=>match qPj σ i x.2 with|some (.nx σ')=>qAp call σ' rest|some (.rt r)=>some (.rt r)|some (.bk q)=>some (.bk q)|some (.ct q)=>some (.ct q)|none=>none:=by
 rw [qAP,qHz]
 cases evE call σ e with
 | none=>rfl
 | some x =>
  show (qJC σ i x.2).bind _=match qJC σ i x.2 with|some (.nx σ')=>_|some (.rt r)=>_|some (.bk q)=>_|some (.ct q)=>_|none=>_
  rcases qJC σ i x.2 with _|(_|_|_|_)<;>rfl
@[simp 5000] theorem qMc (e):qAp call σ (.ret e::rest)=match qBO σ e (evE call σ e) with|none=>none|some r=>some (.rt r):=by
 rw [qAP,qE0];cases qBO σ e (evE call σ e)<;>rfl
@[simp 5000] theorem qGl (c a b):qAp call σ (.ite c a b::rest)=match evE call σ c with
 | none=>none
 | some (_,.bl t)=>if t=true then (match qAp call σ a with|some (.nx σ')=>qAp call σ' rest|some (.rt r)=>some (.rt r)|some (.bk q)=>some (.bk q)|some (.ct q)=>some (.ct q)|none=>none)
   else (match qAp call σ b with|some (.nx σ')=>qAp call σ' rest|some (.rt r)=>some (.rt r)|some (.bk q)=>some (.bk q)|some (.ct q)=>some (.ct q)|none=>none)
 | some _=>none:=by
 rw [qAP,qHx]
 rcases evE call σ c with _|⟨x,d⟩
 ·rfl
 ·cases d with
  | bl t =>
   cases t with
   | true => show (qAp call σ a).bind _ = match qAp call σ a with | some (.nx σ') => _ | some (.rt r) => _ | some (.bk q) => _ | some (.ct q) => _ | none => _
             rcases qAp call σ a with _|(_|_|_|_)<;>rfl
   | false => show (qAp call σ b).bind _ = match qAp call σ b with | some (.nx σ') => _ | some (.rt r) => _ | some (.bk q) => _ | some (.ct q) => _ | none => _
              rcases qAp call σ b with _|(_|_|_|_)<;>rfl
  | _=>rfl
@[simp 5000] theorem qKm (tg src body):qAp call σ (.forS tg src body::rest)=match evE call σ src with|none=>none|some x=>match qMI x.2 with|none=>none|some its=>match qBp call body tg its σ with|some (.nx σ')=>qAp call σ' rest|some (.rt r)=>some (.rt r)|some (.bk q)=>some (.bk q)|some (.ct q)=>some (.ct q)|none=>none:=by
 rw [qAP,qFt]
 cases evE call σ src with
 | none=>rfl
 | some x =>
  show ((qDy x.2).bind _).bind _=match qDy x.2 with|none=>none|some its=>_
  cases qDy x.2 with
  | none=>rfl
  | some its =>
   show (qBp call body tg its σ).bind _=match qBp call body tg its σ with|some (.nx σ')=>_|some (.rt r)=>_|some (.bk q)=>_|some (.ct q)=>_|none=>_
   rcases qBp call body tg its σ with _|(_|_|_|_)<;>rfl
@[simp 5000] theorem qKn (tg rs body):qAp call σ (.forR tg rs body::rest)=match qCj call σ rs with|none=>none|some x=>match qJU x with|none=>none|some its=>match qBp call body tg its σ with|some (.nx σ')=>qAp call σ' rest|some (.rt r)=>some (.rt r)|some (.bk q)=>some (.bk q)|some (.ct q)=>some (.ct q)|none=>none:=by
 rw [qAP,qFu]
 cases qCj call σ rs with
 | none=>rfl
 | some x =>
  show ((qEQ x).bind _).bind _=match qEQ x with|none=>none|some its=>_
  cases qEQ x with
  | none=>rfl
  | some its =>
   show (qBp call body tg its σ).bind _=match qBp call body tg its σ with|some (.nx σ')=>_|some (.rt r)=>_|some (.bk q)=>_|some (.ct q)=>_|none=>_
   rcases qBp call body tg its σ with _|(_|_|_|_)<;>rfl
theorem qJB {σ:En}{i:Nat}{xs:List D}{e:D}(h:qAf σ i=some (true,.lst xs)) (hl:xs.length<lim):qPj σ i e=some (.nx (σ.set i (some (true,.lst (xs++[e]))))):=by
 show qJC σ i e=_
 unfold qJC;rw [h];simp only;rw [if_pos hl]
section
variable {call:Nat->List D->Option R}{σ:En}{rest:List S}{z:Option Ou}
theorem qAi {i:Nat}{keep:Bool}{e:C}(r:R) (h:evE call σ e=some r) (k:qAp call (σ.set i (some (qAF keep r))) rest=z):qAp call σ (.set i keep e::rest)=z:=by
 rw [qMb,h];exact k
theorem qB0 {i:Nat}{e:C}{xs:List D}(r:R) (h:evE call σ e=some r) (ho:qAf σ i=some (true,.lst xs)) (hl:xs.length<lim) (k:qAp call (σ.set i (some (true,.lst (xs++[r.2])))) rest=z):qAp call σ (.app i e::rest)=z:=by
 rw [qMd,h];show (match qPj σ i r.2 with|some (.nx σ')=>qAp call σ' rest|some (.rt r)=>some (.rt r)|some (.bk q)=>some (.bk q)|some (.ct q)=>some (.ct q)|none=>none)=z
 rw [qJB ho hl];exact k
theorem qEP {c:C}{a b:List S}{x:Bool}{σ':En}(h:evE call σ c=some (x,.bl true)) (ha:qAp call σ a=some (.nx σ')) (k:qAp call σ' rest=z):qAp call σ (.ite c a b::rest)=z:=by
 rw [qGl,h];simp only [if_true];rw [ha];exact k
theorem qL6 {c:C}{a b:List S}{x:Bool}{σ':En}(h:evE call σ c=some (x,.bl false)) (ha:qAp call σ b=some (.nx σ')) (k:qAp call σ' rest=z):qAp call σ (.ite c a b::rest)=z:=by
 rw [qGl,h];simp only [Bool.false_eq_true,if_false];rw [ha];exact k
theorem qAc {c:C}{a:List S}{x:Bool}(h:evE call σ c=some (x,.bl false)) (k:qAp call σ rest=z):qAp call σ (.ite c a []::rest)=z:=qL6 h rfl k
theorem qBz {c:C}{a b:List S}{x:Bool}{r:R}(h:evE call σ c=some (x,.bl true)) (ha:qAp call σ a=some (.rt r)) (k:some (.rt r)=z):qAp call σ (.ite c a b::rest)=z:=by
 rw [qGl,h];simp only [if_true];rw [ha];exact k
theorem qDu {tg:Tg}{rs:List C}{body:List S}{ds its:List D}{σ':En}(h:qCj call σ rs=some ds) (hr:qJU ds=some its) (hf:qBp call body tg its σ=some (.nx σ')) (k:qAp call σ' rest=z):qAp call σ (.forR tg rs body::rest)=z:=by
 rw [qKn,h];simp only;rw [hr];simp only;rw [hf];exact k
theorem qD3 {tg:Tg}{i:Nat}{xs:List D}{d:D}{σ':En}(ho:qAf σ i=some (true,.lst (xs++[d]))) (hb:qBy (σ.set i (some (true,.lst xs))) tg d=some σ') (k:qAp call σ' rest=z):qAp call σ (.pop tg i::rest)=z:=by
 rw [qAP,qHw]
 unfold qOt
 rw [ho]
 simp only [List.getLast?_append,List.getLast?_singleton,Option.bind_some,List.dropLast_concat,Option.some_or]
 rw [hb]
 exact k
theorem qMx {c:C}{body:List S}{o:Ou}(h:qDq (fun σ'=>evE call σ' c) (fun σ'=>qAp call σ' body) big σ=some o) (k:(match o with|.nx σ'=>qAp call σ' rest|.rt r=>some (.rt r)|.bk q=>some (.bk q)|.ct q=>some (.ct q))=z):qAp call σ (.whl c body::rest)=z:=by
 rw [qAP,qHu,h]
 cases o<;>exact k
theorem qEO {tg:Tg}{src:C}{body:List S}{r:R}{its:List D}{σ':En}(h:evE call σ src=some r) (hr:qMI r.2=some its) (hf:qBp call body tg its σ=some (.nx σ')) (k:qAp call σ' rest=z):qAp call σ (.forS tg src body::rest)=z:=by
 rw [qKm,h];simp only;rw [hr];simp only;rw [hf];exact k
theorem qAq {e:C}{r:R}(h:qBO σ e (evE call σ e)=some r) (k:some (.rt r)=z):qAp call σ (.ret e::rest)=z:=by
 rw [qMc,h];exact k
theorem qCl {e:C}{nl:Nat}{ks:List Nat}{tg:Tg}{rs:List C}{ds its ys:List D}{σ':En}(h:qCj call σ rs=some ds) (hr:qJU ds=some its) (hl:its.length<=lim) (hc:qBj σ nl ks=σ') (hf:qAT call e σ' tg its=some ys):evE call σ (.compR e nl ks tg rs)=some (true,.lst ys):=by
 subst hc
 rw [qIr,h];simp only;rw [hr];simp only;rw [if_pos hl,hf]
theorem qC3 {e:C}{nl:Nat}{ks:List Nat}{tg:Tg}{src:C}{r:R}{its ys:List D}{σ':En}(h:evE call σ src=some r) (hr:qMI r.2=some its) (hc:qBj σ nl ks=σ') (hf:qAT call e σ' tg its=some ys):evE call σ (.compS e nl ks tg src)=some (true,.lst ys):=by
 subst hc
 rw [qIq,h];simp only;rw [hr];simp only;rw [hf]
end
theorem qPD (fd:Fd) (as:List D) (h:as.length=fd.np):qL7 call fd as=match qAp call (agE false as++List.replicate (fd.ns - fd.np) none) fd.body with|some (.nx _)=>some (false,.non)|some (.rt r)=>some r|some (.bk _)=>none|some (.ct _)=>none|none=>none:=by
 unfold qL7;rw [if_pos h]
 rcases qAp call (agE false as++List.replicate (fd.ns - fd.np) none) fd.body with _|(_|_|_|_)<;>rfl
end
theorem qH2 {tab:List Fd}{f:Nat}{fd:Fd}(h:tab[f]?=some fd) (n:Nat) (as:List D) (hl:as.length=fd.np):qAH tab (n+1) f as =
  match qAp (qAH tab n) (agE false as++List.replicate (fd.ns - fd.np) none) fd.body with|some (.nx _)=>some (false,.non)|some (.rt r)=>some r|some (.bk _)=>none|some (.ct _)=>none|none=>none:=by
 rw [qDT h,qPD _ _ _ hl]
theorem qAo {tab:List Fd}{f:Nat}{fd:Fd}{as:List D}{n:Nat}{r:R}{σ:En}(h:tab[f]?=some fd) (hl:as.length=fd.np) (hσ:agE false as++List.replicate (fd.ns - fd.np) none=σ) (hb:qAp (qAH tab n) σ fd.body=some (.rt r)):qAH tab (n+1) f as=some r:=by
 subst hσ
 rw [qH2 h n as hl,hb]
theorem qH1 {tab:List Fd}{f:Nat}{fd:Fd}{xs ys as:List D}{n:Nat}{σ σ':En}(hT:tab.length<=HX) (h:tab[f]?=some fd) (hl:as.length+1=fd.np) (hσ:some (true,D.lst xs)::as.map (λd=>some (false,d))++List.replicate (fd.ns - fd.np) none=σ) (hb:qAp (qAH tab n) σ fd.body=some (.nx σ')) (he:qAf σ' 0=some (true,.lst ys)):qAH tab (n+1) (f+HX) (.lst xs::as)=some (true,.lst ys):=by
 subst hσ
 rw [qDU hT h]
 show (if as.length+1=fd.np then _ else _)=_
 rw [if_pos hl,hb,Option.bind_some]
 simp only [qPw]
 rw [he]
 rfl
end Dw
namespace Dw.T
open Dw
section
variable {call:Nat->List D->Option R}{body:List S}{tg:Tg}
theorem qCY (I:Nat->En->Prop):∀(its:List D) (a:Nat) (σ:En),I a σ ->
  (∀(k:Nat) (d:D) (σ:En),its[k]?=some d->I (a+k) σ->∃σ1 σ2,qBy σ tg d=some σ1/\qAp call σ1 body=some (.nx σ2)/\I (a+k+1) σ2) ->
  ∃σ',qBp call body tg its σ=some (.nx σ')/\I (a+its.length) σ'
 | [],a,σ,h,_=>⟨σ,rfl,by simpa using h⟩
 | d::r,a,σ,h,st=>by
  obtain⟨σ1,σ2,h1,h2,h3⟩:=st 0 d σ rfl (by simpa using h)
  obtain⟨σ',e,h'⟩:=qCY I r (a+1) σ2 (by simpa using h3) λk d σ hk hi=>by
   have:=st (k+1) d σ (by simpa using hk) (by rw [show a+(k+1)=a+1+k by omega];exact hi)
   rw [show a+(k+1)+1=a+1+k+1 by omega] at this
   exact this
  refine⟨σ',?_,?_⟩
  ·rw [qBV,h1];simp [h2,e]
  ·rw [show a+(d::r).length=a+1+r.length by simp;omega];exact h'
theorem qCd (I:Nat->En->Prop) (m:Nat) (f:Nat->D) (σ:En) (h:I 0 σ)
  (st:∀(k:Nat) (σ:En),k<m->I k σ->∃σ1 σ2,qBy σ tg (f k)=some σ1/\qAp call σ1 body=some (.nx σ2)/\I (k+1) σ2) :
  ∃σ',qBp call body tg ((List.range m).map f) σ=some (.nx σ')/\I m σ':=by
 obtain⟨σ',e,h'⟩:=qCY (call:=call) (body:=body) (tg:=tg) I ((List.range m).map f) 0 σ h λk d σ hk hi=>by
  rw [List.getElem?_map] at hk
  cases q:(List.range m)[k]? with
  | none=>rw [q] at hk;cases hk
  | some j =>
   rw [q] at hk
   obtain⟨hl,ej⟩:=List.getElem?_eq_some_iff.mp q
   simp at hl ej
   subst ej
   cases hk
   simpa using st k σ hl (by simpa using hi)
 exact⟨σ',e,by simpa using h'⟩
end
noncomputable def bx (m:Nat) (f:Nat->D):List D:=(List.range m).map f
@[simp] theorem qH6 (m f):(bx m f).length=m:=by simp [bx]
theorem qN3 {m:Nat}(f:Nat->D) {j:Nat}(h:j<m):(bx m f)[j]?=some (f j):=by simp [bx,h]
theorem qJ6 {m:Nat}(f:Nat->D) {j:Nat}(h:j<m):ixQ (bx m f) (j:Int)=some (f j):=by
 rw [qLx,qN3 f h]
noncomputable def qBK (ns:List Int) (k:Nat):Int:=(ns[k]?).getD 0
noncomputable abbrev P2:=Int×Int
noncomputable def side (p:P2):D:=.tup [.int p.1,.int p.2]
noncomputable def qBc (m:Nat) (f:Nat->P2):D:=.tup (bx m λj=>side (f j))
theorem qHd (p:P2):ixP (side p) (.int 0)=some (false,.int p.1):=rfl
theorem qJ7 (p:P2):ixP (side p) (.int 1)=some (false,.int p.2):=rfl
theorem qCT {m j:Nat}(f:Nat->D) (h:j<m):ixP (.lst (bx m f)) (.int (j:Int))=some (false,f j):=by
 rw [qHe,qJ6 _ h];rfl
theorem qJe {m j:Nat}(f:Nat->D) (h:j<m):ixP (.tup (bx m f)) (.int (j:Int))=some (false,f j):=by
 rw [qNz,qJ6 _ h];rfl
theorem qDx (m:Nat) (f:Nat->P2):qMI (qBc m f)=some (bx m λj=>side (f j)):=rfl
theorem qJs {call:Nat->List D->Option R}{e:C}{m:Nat}{r:List (Option R)}(f g:Nat->D) (h:∀j:Nat,j<m->∃b,evE call (some (false,f j)::r) e=some (b,g j)) :
  qAT call e (none::r) (.one 0) (bx m f)=some (bx m g):=
 qBa call (none::r) (e:=e) (tg:=.one 0) f g (List.range m) λj hj=>by
  obtain⟨b,hb⟩:=h j (List.mem_range.mp hj)
  exact⟨_,b,rfl,hb⟩
theorem qLN (xs:List D) (a b:Nat) (h:a<=b):qKh xs (some (a:Int)) (some (b:Int))=(xs.drop a).take (b - a):=by
 simp only [qKh,qJr,cutAt]
 rw [if_neg (by omega),if_neg (by omega)]
 simp only [Int.toNat_natCast]
 by_cases h1:a<=xs.length
 ·rw [Nat.min_eq_left h1]
  by_cases h2:b<=xs.length
  ·rw [Nat.min_eq_left h2]
  ·rw [Nat.min_eq_right (by omega)]
   rw [List.take_of_length_le (by simp),List.take_of_length_le (by simp;omega)]
 ·rw [Nat.min_eq_right (by omega:xs.length<=a),Nat.min_eq_right (by omega:xs.length<=b)]
  simp [List.drop_eq_nil_of_le (show xs.length<=a by omega)]
theorem qJq (ns:List Int) (a b:Nat) (h:a<=b):qKh (ns.map .int) (some (a:Int)) (some (b:Int))=((ns.drop a).take (b - a)).map .int:=by
 rw [qLN _ _ _ h,<-List.map_drop,<-List.map_take]
section
variable {call:Nat->List D->Option R}{σ:En}
theorem qGd {o:COp}{a b:C}{x y:D}{r:Option R}(ha:pk σ a (evE call σ a)=some x) (hb:pk σ b (evE call σ b)=some y) (h:qJu o x y=r):evE call σ (.cmp o a b)=r:=by
 rw [qAh,ha];simp only;rw [hb];exact h
theorem qNR {o:BI}{a:C}{x:D}{r:Option R}(ha:pk σ a (evE call σ a)=some x) (h:biP o [x]=r):evE call σ (.bi o [a])=r:=by
 rw [qBB,qAs,ha];exact h
theorem qDC {e nl ks tg rs}{r:R}(h:evE call σ (.compS e nl ks tg rs)=some r):pk σ (.compS e nl ks tg rs) (evE call σ (.compS e nl ks tg rs))=some r.2:=by rw [h];rfl
theorem qMW {o as}{r:R}(h:evE call σ (.bi o as)=some r):pk σ (.bi o as) (evE call σ (.bi o as))=some r.2:=by rw [h];rfl
theorem qQa {a b:C}{x y:D}{r:Option R}(ha:pk σ a (evE call σ a)=some x) (hb:pk σ b (evE call σ b)=some y) (h:ixP x y=r):evE call σ (.ix a b)=r:=by
 rw [qAX,ha];simp only;rw [hb];exact h
theorem qNS {a b:C}{x:Bool}(ha:evE call σ a=some (x,.bl false)):evE call σ (.and a b)=some (false,.bl false):=by
 rw [qJM,ha];rfl
theorem qKf {a b:C}{x:Bool}{r:Option R}(ha:evE call σ a=some (x,.bl true)) (hb:evE call σ b=r):evE call σ (.and a b)=r:=by
 rw [qJM,ha];exact hb
theorem qNT {a b:C}{x y:Bool}{p q:Bool}(ha:evE call σ a=some (x,.bl p)) (hb:evE call σ b=some (false,.bl q)):evE call σ (.and a b)=some (false,.bl (p&&q)):=by
 cases p with
 | true=>exact qKf ha hb
 | false=>exact qNS ha
end
section
variable {call:Nat->List D->Option R}{σ:En}{rest:List S}{z:Option Ou}
theorem qD8 {m:Nat}(hs:m<=10000):qJU [.int (m:Int)]=some ((List.range m).map λi=>.int (i:Nat)):=qMK m hs
end
theorem qLz (l j:Nat) (h:j<l):ixN l (j:Int)=some j:=by
 unfold ixN;rw [if_pos (by omega),if_pos (by omega)];simp
section
variable {call:Nat->List D->Option R}{σ:En}
end
end Dw.T
namespace Dw.T
open Dw
noncomputable abbrev Q4:=Int×Int×Int×Int
noncomputable def q4 (q:Q4):D:=.tup [.int q.1,.int q.2.1,.int q.2.2.1,.int q.2.2.2]
theorem qI7 {n:Nat}(h:n<2^200):n<qCX:=Nat.lt_of_lt_of_le h (Nat.pow_le_pow_right (by decide) (by decide))
theorem qP2 (a b:Int) (h:a.natAbs<2^64):qBX a b=true:=decide_eq_true (.inr (.inl h))
theorem qOw (a b:Int) (h:b.natAbs<2^64):qBX a b=true:=decide_eq_true (.inr (.inr (.inl h)))
theorem qP1 (a b:Int) (h:a.natAbs<2^240) (h':b.natAbs<2^240):qBX a b=true:=decide_eq_true (.inl ⟨h,h'⟩)
theorem qP3 (a b:Int) (h:a.natAbs<qCX) (h':b.natAbs<qCX):qBX a b=true:=decide_eq_true (.inr (.inr (.inr ⟨h,h'⟩)))
theorem qA4 (a m:Int) (h:0<m):0<=a.fmod m/\a.fmod m<m:=by
 rw [Int.fmod_eq_emod_of_nonneg _ (by omega:0<=m)]
 exact⟨Int.emod_nonneg _ (by omega),Int.emod_lt_of_pos _ h⟩
structure Th where
 hd:Int
 sw:Nat->Int×Int×Int
 mr:Nat
 wo:Int
noncomputable def sD (p:Int×Int×Int):D:=.tup [.int p.1,.int p.2.1,.int p.2.2,.int p.2.2]
noncomputable def thD (m:Nat) (t:Th):D:=.tup [.int t.hd,.tup (bx m λj=>sD (t.sw j)),.int (t.mr:Int),.int t.wo]
theorem th1 (m:Nat) (t:Th):ixP (thD m t) (.int 1)=some (false,.tup (bx m λj=>sD (t.sw j))):=rfl
theorem th2 (m:Nat) (t:Th):ixP (thD m t) (.int 2)=some (false,.int (t.mr:Int)):=rfl
theorem th3 (m:Nat) (t:Th):ixP (thD m t) (.int 3)=some (false,.int t.wo):=rfl
theorem sd0 (p:Int×Int×Int):ixP (sD p) (.int 0)=some (false,.int p.1):=rfl
theorem sd1 (p:Int×Int×Int):ixP (sD p) (.int 1)=some (false,.int p.2.1):=rfl
theorem sd2 (p:Int×Int×Int):ixP (sD p) (.int 2)=some (false,.int p.2.2):=rfl
noncomputable def prm:Int:=170141183460469231731687303715884105727
noncomputable def qBM (c:Int):Int:=(c * 105172331949523456789012345678901234567).fmod prm
noncomputable def qBQ (c:Int):Int:=(c * 83492791123456789012345678901234567891).fmod prm
theorem qEN (c:Int):0<=qBM c/\qBM c<prm:=qA4 _ _ (by decide)
theorem qDI (c:Int):0<=qBQ c/\qBQ c<prm:=qA4 _ _ (by decide)
theorem qG9 {α:Type}{xs:List α}{m:Nat}(h:xs.length=m) (d:α) (f:α->D):xs.map f=bx m λj=>f (xs.getD j d):=by
 subst h
 unfold bx
 refine List.ext_getElem (by simp) λi h1 h2=>?_
 have h3:i<xs.length:=by simpa using h1
 simp [h3]
section
variable {call:Nat->List D->Option R}
theorem qJP (ns:List Int) (k:Nat):qAp call [some (false,.lst (ns.map .int)),some (false,.int (k:Int))] f_law_cell_at.body=some (.rt (false,.int (qBK ns k))):=by
 by_cases h:k<ns.length
 ·have h1:decide ((k:Int)<((ns.length:Nat):Int))=true:=decide_eq_true (by omega)
  refine qBz (x:=false) (r:=(false,.int (qBK ns k))) (by simp only [qAh,pk,qAf,List.getElem?_cons_succ,List.getElem?_cons_zero,Option.join_some,Option.bind_some,pkR,qBB,qAs,qAA,qCC,List.length_map,Option.map_some,qC7,h1]) ?_ rfl
  refine qAq (r:=(false,.int (qBK ns k))) (qQa rfl rfl ?_) rfl
  rw [qHe]
  unfold ixQ ixD
  rw [List.length_map,qLz _ _ h]
  simp [qBK,h]
 ·have h1:decide ((k:Int)<((ns.length:Nat):Int))=false:=decide_eq_false (by omega)
  have e:qBK ns k=0:=by simp [qBK,List.getElem?_eq_none (Nat.le_of_not_lt h)]
  refine qAc (x:=false) (by simp only [qAh,pk,qAf,List.getElem?_cons_succ,List.getElem?_cons_zero,Option.join_some,Option.bind_some,pkR,qBB,qAs,qAA,qCC,List.length_map,Option.map_some,qC7,h1]) ?_
  rw [e]
  exact qAq (r:=(false,.int 0)) rfl rfl
theorem qMm (c:Int) (hc:2 * c.natAbs<qCX):qAp call [some (false,.int c)] f_law_stir.body=some (.rt (false,.int (qBM c))):=by
 have m1:=qP3 c 105172331949523456789012345678901234567 (by omega) (qI7 (by decide))
 have d1:qAU 170141183460469231731687303715884105727=true:=by decide
 exact qAq (r:=(false,.int (qBM c))) (by simp only [qBO,qAg,pk,qAf,List.getElem?_cons_zero,Option.join_some,Option.bind_some,pkR,qAn,Option.map_some,qBH,m1,↓reduceIte,qAd,d1];rfl) rfl
theorem qMp (c:Int) (hc:0<=c/\c<prm):qAp call [some (false,.int c)] f_law_next.body=some (.rt (false,.int (qBQ c))):=by
 unfold prm at hc
 have m1:=qP1 c 83492791123456789012345678901234567891 (by omega) (by decide)
 have d1:qAU 170141183460469231731687303715884105727=true:=by decide
 exact qAq (r:=(false,.int (qBQ c))) (by simp only [qBO,qAg,pk,qAf,List.getElem?_cons_zero,Option.join_some,Option.bind_some,pkR,qAn,Option.map_some,qBH,m1,↓reduceIte,qAd,d1];rfl) rfl
end
end Dw.T
namespace Dw.T
open Dw
structure Sc where
 m:Nat
 pl:Nat->Int
 pa:Nat->Int
 sp:Int
 bt:Int
 mr:Nat
noncomputable def scD (s:Sc):D:=.tup [.int (s.m:Int),.lst (bx s.m λj=>.int (s.pl j)),.lst (bx s.m λj=>.int (s.pa j)),.int s.sp,.int s.bt,.int (s.mr:Int)]
structure ScOk (s:Sc):Prop where
 m:s.m=2∨s.m=3
 pl:∀j,-(10^29)<=s.pl j/\s.pl j<=10^29
 pa:∀j,-(10^14)<=s.pa j/\s.pa j<=10^14
 sp:0<=s.sp/\s.sp<=1
 bt:0<=s.bt/\s.bt<=10^15
 mr:s.mr<65536
theorem sc0 (s:Sc):ixP (scD s) (.int 0)=some (false,.int (s.m:Int)):=rfl
theorem sc1 (s:Sc):ixP (scD s) (.int 1)=some (false,.lst (bx s.m λj=>.int (s.pl j))):=rfl
theorem sc2 (s:Sc):ixP (scD s) (.int 2)=some (false,.lst (bx s.m λj=>.int (s.pa j))):=rfl
theorem sc3 (s:Sc):ixP (scD s) (.int 3)=some (false,.int s.sp):=rfl
theorem sc4 (s:Sc):ixP (scD s) (.int 4)=some (false,.int s.bt):=rfl
theorem sc5 (s:Sc):ixP (scD s) (.int 5)=some (false,.int (s.mr:Int)):=rfl
theorem eqZ (a b:Int):eqD (.int a) (.int b)=decide (a=b):=by rw [Bool.eq_iff_iff];simp
section
variable {call:Nat->List D->Option R}
theorem qC5 {e:C}{m:Nat}{r:List (Option R)}(g:Nat->D) (h:∀j:Nat,j<m->∃b,evE call (some (false,.int (j:Nat))::r) e=some (b,g j)):qAT call e (none::r) (.one 0) ((List.range m).map λi=>.int (i:Nat))=some (bx m g):=
 qBa call _ (λi:Nat=>.int (i:Nat)) g (List.range m) λj hj=>by
  obtain⟨b,hb⟩:=h j (List.mem_range.mp hj)
  exact⟨_,b,rfl,hb⟩
theorem qKs (ns:List Int) (hh:∀i∈ns,2 * i.natAbs<qCX) (C20:∀k:Nat,call 31 [.lst (ns.map .int),.int (k:Int)]=some (false,.int (qBK ns k))) :
  ∃s:Sc,ScOk s/\qAp call [some (false,.lst (ns.map .int)),none,none,none,none,none,none,none,none] f_law_scene.body=some (.rt (false,scD s)):=by
 have c0:call 31 [.lst (ns.map .int),.int 0]=_:=C20 0
 have c1:call 31 [.lst (ns.map .int),.int 1]=_:=C20 1
 have c2:call 31 [.lst (ns.map .int),.int 2]=_:=C20 2
 have c3:call 31 [.lst (ns.map .int),.int 3]=_:=C20 3
 have hu:∀k,2 * (qBK ns k).natAbs<qCX:=λk=>by
  unfold qBK
  cases e:ns[k]? with
  | none=>exact Nat.lt_of_lt_of_le (show 0<2^10 by decide) (Nat.pow_le_pow_right (by decide) (by decide))
  | some i=>exact hh i (List.mem_of_getElem? e)
 have u2:=hu 2
 have u3:=hu 3
 generalize qBK ns 0=h at *
 generalize qBK ns 1=w at *
 generalize qBK ns 2=p at *
 generalize qBK ns 3=q at *
 have d2:qAU 2=true:=by decide
 have d3:qAU 3=true:=by decide
 have d4:qAU 4=true:=by decide
 have p15:qCu 10 15=true:=by decide
 have p29:qCu 10 29=true:=by decide
 have p14:qCu 10 14=true:=by decide
 have dA:qAU (10^(15:Int).toNat+1)=true:=by decide
 have dB:qAU (2 * 10^(29:Int).toNat+1)=true:=by decide
 have dC:qAU (2 * 10^(14:Int).toNat+1)=true:=by decide
 have mB:qBX 2 (10^(29:Int).toNat)=true:=by decide
 have mC:qBX 2 (10^(14:Int).toNat)=true:=by decide
 obtain⟨m,em,hm⟩:∃m:Nat,2+h.fmod 2=(m:Int)/\(m=2∨m=3):=by
  have:=qA4 h 2 (by decide)
  exact⟨(2+h.fmod 2).toNat,by omega,by omega⟩
 obtain⟨bt,ebt,hbt⟩:∃bt:Int,(if w.fmod 3=0 then (w.fdiv 3).fmod 4 else (w.fdiv 3).fmod (10^(15:Int).toNat+1))=bt/\(0<=bt/\bt<=10^15):=by
  refine⟨_,rfl,?_⟩
  have a1:=qA4 (w.fdiv 3) 4 (by decide)
  have a2:=qA4 (w.fdiv 3) (10^(15:Int).toNat+1) (by decide)
  generalize (w.fdiv 3).fmod (10^(15:Int).toNat+1)=y at *
  have e15:(10:Int)^(15:Int).toNat=10^15:=rfl
  rw [e15] at a2
  split<;>omega
 obtain⟨mk,hmk,emk⟩:∃mk:Nat,mk<65536/\ixP (.lst [.int 0,.int 0,.int 5,.int 40960]) (.int ((h.fdiv 4).fmod 4))=some (false,.int (mk:Int)):=by
  have:=qA4 (h.fdiv 4) 4 (by decide)
  generalize (h.fdiv 4).fmod 4=z at *
  have:z=0∨z=1∨z=2∨z=3:=by omega
  rcases this with rfl|rfl|rfl|rfl
  ·exact⟨0,by decide,rfl⟩
  ·exact⟨0,by decide,rfl⟩
  ·exact⟨5,by decide,rfl⟩
  ·exact⟨40960,by decide,rfl⟩
 have z0:∀σ:En,qAT call (.k (.int 0)) [none] (.one 0) ((List.range m).map λi=>.int (i:Nat))=some (bx m λ_=>.int 0):=λ_=>qC5 (r:=[]) (λ_=>.int 0) λj hj=>⟨false,rfl⟩
 have lm:((List.range m).map λi=>D.int (i:Nat)).length<=lim:=qAW (by simp;omega)
 have rg:qJU [.int (m:Int)]=some ((List.range m).map λi=>.int (i:Nat)):=qD8 (by omega)
 obtain⟨pl,hpl,epl⟩:∃pl:Nat->Int,(∀j,-(10^29)<=pl j/\pl j<=10^29)/\∀(v1 v2 v4 v6 v8:Option R) z,qAp call [some (false,.lst (ns.map .int)),v1,v2,some (false,.int p),v4,some (false,.int (m:Int)),v6,some (false,.lst (bx m λj=>.int (pl j))),v8] [.set 8 false (.compR (.k (.int 0)) 1 [] (.one 0) [(.v 5)]),.ite (.cmp .eq (.bin .mod (.v 4) (.k (.int 2))) (.k (.int 1))) [.set 8 false (.compR (.bin .sub (.bin .mod (.bin .mul (.bin .fdiv (.v 1) (.k (.int 2))) (.bin .add (.v 0) (.k (.int 1)))) (.bin .add (.bin .mul (.k (.int 2)) (.bin .pow (.k (.int 10)) (.k (.int 14)))) (.k (.int 1)))) (.bin .pow (.k (.int 10)) (.k (.int 14)))) 1 [4] (.one 0) [(.v 5)])] [],.ret (.tup [(.v 5),(.v 7),(.v 8),(.bin .mod (.bin .fdiv (.v 1) (.k (.int 2))) (.k (.int 2))),(.v 6),(.ix (.lst [(.k (.int 0)),(.k (.int 0)),(.k (.int 5)),(.k (.int 40960))]) (.bin .mod (.bin .fdiv (.v 1) (.k (.int 4))) (.k (.int 4))))])]=z->qAp call [some (false,.lst (ns.map .int)),v1,v2,some (false,.int p),v4,some (false,.int (m:Int)),v6,none,v8] [.set 7 false (.compR (.k (.int 0)) 1 [] (.one 0) [(.v 5)]),.ite (.cmp .eq (.bin .mod (.v 3) (.k (.int 2))) (.k (.int 1))) [.set 7 false (.compR (.bin .sub (.bin .mod (.bin .mul (.bin .fdiv (.v 1) (.k (.int 2))) (.bin .add (.bin .mul (.v 0) (.v 0)) (.k (.int 1)))) (.bin .add (.bin .mul (.k (.int 2)) (.bin .pow (.k (.int 10)) (.k (.int 29)))) (.k (.int 1)))) (.bin .pow (.k (.int 10)) (.k (.int 29)))) 1 [3] (.one 0) [(.v 5)])] [],.set 8 false (.compR (.k (.int 0)) 1 [] (.one 0) [(.v 5)]),.ite (.cmp .eq (.bin .mod (.v 4) (.k (.int 2))) (.k (.int 1))) [.set 8 false (.compR (.bin .sub (.bin .mod (.bin .mul (.bin .fdiv (.v 1) (.k (.int 2))) (.bin .add (.v 0) (.k (.int 1)))) (.bin .add (.bin .mul (.k (.int 2)) (.bin .pow (.k (.int 10)) (.k (.int 14)))) (.k (.int 1)))) (.bin .pow (.k (.int 10)) (.k (.int 14)))) 1 [4] (.one 0) [(.v 5)])] [],.ret (.tup [(.v 5),(.v 7),(.v 8),(.bin .mod (.bin .fdiv (.v 1) (.k (.int 2))) (.k (.int 2))),(.v 6),(.ix (.lst [(.k (.int 0)),(.k (.int 0)),(.k (.int 5)),(.k (.int 40960))]) (.bin .mod (.bin .fdiv (.v 1) (.k (.int 4))) (.k (.int 4))))])]=z:=by
  by_cases hp:p.fmod 2=1
  ·refine⟨λj=>(p.fdiv 2 * ((j:Int) * (j:Int)+1)).fmod (2 * 10^(29:Int).toNat+1) - 10^(29:Int).toNat,λj=>?_,λv1 v2 v4 v6 v8 z k=>?_⟩
   ·have a:=qA4 (p.fdiv 2 * ((j:Int) * (j:Int)+1)) (2 * 10^(29:Int).toNat+1) (by decide)
    show -(10^29)<=(p.fdiv 2 * ((j:Int) * (j:Int)+1)).fmod (2 * 10^(29:Int).toNat+1) - 10^(29:Int).toNat/\(p.fdiv 2 * ((j:Int) * (j:Int)+1)).fmod (2 * 10^(29:Int).toNat+1) - 10^(29:Int).toNat<=10^29
    generalize (p.fdiv 2 * ((j:Int) * (j:Int)+1)).fmod (2 * 10^(29:Int).toNat+1)=y at *
    have e29:(10:Int)^(29:Int).toNat=10^29:=rfl
    rw [e29] at a ⊢
    omega
   ·refine qAi (true,.lst (bx m λ_=>.int 0)) (qCl (ds:=[.int (m:Int)]) (by simp only [qAs,pk,qAf,List.getElem?_cons_succ,List.getElem?_cons_zero,Option.join_some,Option.bind_some,pkR,qAA]) rg lm rfl (z0 [])) ?_
    have hc:=qC5 (call:=call) (m:=m) (e:=(.bin .sub (.bin .mod (.bin .mul (.bin .fdiv (.v 1) (.k (.int 2))) (.bin .add (.bin .mul (.v 0) (.v 0)) (.k (.int 1)))) (.bin .add (.bin .mul (.k (.int 2)) (.bin .pow (.k (.int 10)) (.k (.int 29)))) (.k (.int 1)))) (.bin .pow (.k (.int 10)) (.k (.int 29))))) (r:=[some (false,.int p)]) (λj=>.int ((p.fdiv 2 * ((j:Int) * (j:Int)+1)).fmod (2 * 10^(29:Int).toNat+1) - 10^(29:Int).toNat)) λj hj=>⟨false,by
     have m1:qBX (j:Int) (j:Int)=true:=qP2 _ _ (by omega)
     have j2:(j:Int) * (j:Int)+1<2^64/\0<=(j:Int) * (j:Int)+1:=by
      have:j=0∨j=1∨j=2:=by omega
      rcases this with rfl|rfl|rfl<;>decide
     have m2:qBX (p.fdiv 2) ((j:Int) * (j:Int)+1)=true:=qOw _ _ (by omega)
     simp only [qAg,pk,qAf,List.getElem?_cons_succ,List.getElem?_cons_zero,Option.join_some,Option.bind_some,pkR,qAn,Option.map_some,qAj,d2,↓reduceIte,qBH,m1,qAK,m2,qA6,p29,mB,qAd,dB,qAY]⟩
    exact qEP (x:=false) (by simp only [qAF,Bool.and_true,List.set_cons_succ,List.set_cons_zero,qAh,pk,qAg,qAf,List.getElem?_cons_succ,List.getElem?_cons_zero,Option.join_some,Option.bind_some,pkR,qAn,Option.map_some,qAd,d2,↓reduceIte,hp,qAe,eqZ];rfl) (qAi (true,.lst (bx m λj=>.int ((p.fdiv 2 * ((j:Int) * (j:Int)+1)).fmod (2 * 10^(29:Int).toNat+1) - 10^(29:Int).toNat))) (qCl (ds:=[.int (m:Int)]) (by simp only [qAF,Bool.and_true,List.set_cons_succ,List.set_cons_zero,qAs,pk,qAf,List.getElem?_cons_succ,List.getElem?_cons_zero,Option.join_some,Option.bind_some,pkR,qAA]) rg lm rfl hc) rfl) k
  ·refine⟨λ_=>0,λj=>by show -(10^29)<=(0:Int)/\(0:Int)<=10^29;decide,λv1 v2 v4 v6 v8 z k=>?_⟩
   refine qAi (true,.lst (bx m λ_=>.int 0)) (qCl (ds:=[.int (m:Int)]) (by simp only [qAs,pk,qAf,List.getElem?_cons_succ,List.getElem?_cons_zero,Option.join_some,Option.bind_some,pkR,qAA]) rg lm rfl (z0 [])) ?_
   exact qAc (x:=false) (by simp only [qAF,Bool.and_true,List.set_cons_succ,List.set_cons_zero,qAh,pk,qAg,qAf,List.getElem?_cons_succ,List.getElem?_cons_zero,Option.join_some,Option.bind_some,pkR,qAn,Option.map_some,qAd,d2,↓reduceIte,qAe,eqZ,hp];simp) k
 obtain⟨pa,hpa,epa⟩:∃pa:Nat->Int,(∀j,-(10^14)<=pa j/\pa j<=10^14)/\∀(v1 v2 v3 v6 v7:Option R) z,qAp call [some (false,.lst (ns.map .int)),v1,v2,v3,some (false,.int q),some (false,.int (m:Int)),v6,v7,some (false,.lst (bx m λj=>.int (pa j)))] [.ret (.tup [(.v 5),(.v 7),(.v 8),(.bin .mod (.bin .fdiv (.v 1) (.k (.int 2))) (.k (.int 2))),(.v 6),(.ix (.lst [(.k (.int 0)),(.k (.int 0)),(.k (.int 5)),(.k (.int 40960))]) (.bin .mod (.bin .fdiv (.v 1) (.k (.int 4))) (.k (.int 4))))])]=z->qAp call [some (false,.lst (ns.map .int)),v1,v2,v3,some (false,.int q),some (false,.int (m:Int)),v6,v7,none] [.set 8 false (.compR (.k (.int 0)) 1 [] (.one 0) [(.v 5)]),.ite (.cmp .eq (.bin .mod (.v 4) (.k (.int 2))) (.k (.int 1))) [.set 8 false (.compR (.bin .sub (.bin .mod (.bin .mul (.bin .fdiv (.v 1) (.k (.int 2))) (.bin .add (.v 0) (.k (.int 1)))) (.bin .add (.bin .mul (.k (.int 2)) (.bin .pow (.k (.int 10)) (.k (.int 14)))) (.k (.int 1)))) (.bin .pow (.k (.int 10)) (.k (.int 14)))) 1 [4] (.one 0) [(.v 5)])] [],.ret (.tup [(.v 5),(.v 7),(.v 8),(.bin .mod (.bin .fdiv (.v 1) (.k (.int 2))) (.k (.int 2))),(.v 6),(.ix (.lst [(.k (.int 0)),(.k (.int 0)),(.k (.int 5)),(.k (.int 40960))]) (.bin .mod (.bin .fdiv (.v 1) (.k (.int 4))) (.k (.int 4))))])]=z:=by
  by_cases hp:q.fmod 2=1
  ·refine⟨λj=>(q.fdiv 2 * ((j:Int)+1)).fmod (2 * 10^(14:Int).toNat+1) - 10^(14:Int).toNat,λj=>?_,λv1 v2 v3 v6 v7 z k=>?_⟩
   ·have a:=qA4 (q.fdiv 2 * ((j:Int)+1)) (2 * 10^(14:Int).toNat+1) (by decide)
    show -(10^14)<=(q.fdiv 2 * ((j:Int)+1)).fmod (2 * 10^(14:Int).toNat+1) - 10^(14:Int).toNat/\(q.fdiv 2 * ((j:Int)+1)).fmod (2 * 10^(14:Int).toNat+1) - 10^(14:Int).toNat<=10^14
    generalize (q.fdiv 2 * ((j:Int)+1)).fmod (2 * 10^(14:Int).toNat+1)=y at *
    have e29:(10:Int)^(14:Int).toNat=10^14:=rfl
    rw [e29] at a ⊢
    omega
   ·refine qAi (true,.lst (bx m λ_=>.int 0)) (qCl (ds:=[.int (m:Int)]) (by simp only [qAs,pk,qAf,List.getElem?_cons_succ,List.getElem?_cons_zero,Option.join_some,Option.bind_some,pkR,qAA]) rg lm rfl (z0 [])) ?_
    have hc:=qC5 (call:=call) (m:=m) (e:=(.bin .sub (.bin .mod (.bin .mul (.bin .fdiv (.v 1) (.k (.int 2))) (.bin .add (.v 0) (.k (.int 1)))) (.bin .add (.bin .mul (.k (.int 2)) (.bin .pow (.k (.int 10)) (.k (.int 14)))) (.k (.int 1)))) (.bin .pow (.k (.int 10)) (.k (.int 14))))) (r:=[some (false,.int q)]) (λj=>.int ((q.fdiv 2 * ((j:Int)+1)).fmod (2 * 10^(14:Int).toNat+1) - 10^(14:Int).toNat)) λj hj=>⟨false,by
     have m2:qBX (q.fdiv 2) ((j:Int)+1)=true:=qOw _ _ (by omega)
     simp only [qAg,pk,qAf,List.getElem?_cons_succ,List.getElem?_cons_zero,Option.join_some,Option.bind_some,pkR,qAn,Option.map_some,qAj,d2,↓reduceIte,qAK,qBH,m2,qA6,p14,mC,qAd,dC,qAY]⟩
    exact qEP (x:=false) (by simp only [qAF,Bool.and_true,List.set_cons_succ,List.set_cons_zero,qAh,pk,qAg,qAf,List.getElem?_cons_succ,List.getElem?_cons_zero,Option.join_some,Option.bind_some,pkR,qAn,Option.map_some,qAd,d2,↓reduceIte,hp,qAe,eqZ];rfl) (qAi (true,.lst (bx m λj=>.int ((q.fdiv 2 * ((j:Int)+1)).fmod (2 * 10^(14:Int).toNat+1) - 10^(14:Int).toNat))) (qCl (ds:=[.int (m:Int)]) (by simp only [qAF,Bool.and_true,List.set_cons_succ,List.set_cons_zero,qAs,pk,qAf,List.getElem?_cons_succ,List.getElem?_cons_zero,Option.join_some,Option.bind_some,pkR,qAA]) rg lm rfl hc) rfl) k
  ·refine⟨λ_=>0,λj=>by show -(10^14)<=(0:Int)/\(0:Int)<=10^14;decide,λv1 v2 v3 v6 v7 z k=>?_⟩
   refine qAi (true,.lst (bx m λ_=>.int 0)) (qCl (ds:=[.int (m:Int)]) (by simp only [qAs,pk,qAf,List.getElem?_cons_succ,List.getElem?_cons_zero,Option.join_some,Option.bind_some,pkR,qAA]) rg lm rfl (z0 [])) ?_
   exact qAc (x:=false) (by simp only [qAF,Bool.and_true,List.set_cons_succ,List.set_cons_zero,qAh,pk,qAg,qAf,List.getElem?_cons_succ,List.getElem?_cons_zero,Option.join_some,Option.bind_some,pkR,qAn,Option.map_some,qAd,d2,↓reduceIte,qAe,eqZ,hp];simp) k
 refine⟨⟨m,pl,pa,(h.fdiv 2).fmod 2,bt,mk⟩,⟨hm,hpl,hpa,by have:=qA4 (h.fdiv 2) 2 (by decide);show 0<=(h.fdiv 2).fmod 2/\(h.fdiv 2).fmod 2<=1;omega,hbt,hmk⟩,?_⟩
 refine qAi (false,.int h) (by simp only [qAw,qAv,ag,qAf,List.getElem?_cons_zero,Option.join_some,Option.bind_some,agR,qAn,Option.map_some,qAz,c0]) ?_
 refine qAi (false,.int w) (by simp only [qAF,Bool.and_false,List.set_cons_succ,List.set_cons_zero,qAw,qAv,ag,qAf,List.getElem?_cons_zero,Option.join_some,Option.bind_some,agR,qAn,Option.map_some,qAz,c1]) ?_
 refine qAi (false,.int p) (by simp only [qAF,Bool.and_false,List.set_cons_succ,List.set_cons_zero,qAw,qAv,ag,qAf,List.getElem?_cons_zero,Option.join_some,Option.bind_some,agR,qAn,Option.map_some,qAz,c2]) ?_
 refine qAi (false,.int q) (by simp only [qAF,Bool.and_false,List.set_cons_succ,List.set_cons_zero,qAw,qAv,ag,qAf,List.getElem?_cons_zero,Option.join_some,Option.bind_some,agR,qAn,Option.map_some,qAz,c3]) ?_
 refine qAi (false,.int (m:Int)) (by simp only [qAF,Bool.and_false,List.set_cons_succ,List.set_cons_zero,qAg,pk,qAn,Option.map_some,qAf,List.getElem?_cons_succ,List.getElem?_cons_zero,Option.join_some,Option.bind_some,pkR,qAd,d2,↓reduceIte,qAK,em]) ?_
 refine qAi (false,.int ((w.fdiv 3).fmod 4)) (by simp only [qAF,Bool.and_false,List.set_cons_succ,List.set_cons_zero,qAg,pk,qAf,List.getElem?_cons_succ,List.getElem?_cons_zero,Option.join_some,Option.bind_some,pkR,qAn,Option.map_some,qAj,d3,↓reduceIte,qAd,d4]) ?_
 have l6:6<=lim:=qAW (by decide)
 have l4:4<=lim:=qAW (by decide)
 have fin:qAp call [some (false,.lst (ns.map .int)),some (false,.int h),some (false,.int w),some (false,.int p),some (false,.int q),some (false,.int (m:Int)),some (false,.int bt),none,none] [.set 7 false (.compR (.k (.int 0)) 1 [] (.one 0) [(.v 5)]),.ite (.cmp .eq (.bin .mod (.v 3) (.k (.int 2))) (.k (.int 1))) [.set 7 false (.compR (.bin .sub (.bin .mod (.bin .mul (.bin .fdiv (.v 1) (.k (.int 2))) (.bin .add (.bin .mul (.v 0) (.v 0)) (.k (.int 1)))) (.bin .add (.bin .mul (.k (.int 2)) (.bin .pow (.k (.int 10)) (.k (.int 29)))) (.k (.int 1)))) (.bin .pow (.k (.int 10)) (.k (.int 29)))) 1 [3] (.one 0) [(.v 5)])] [],.set 8 false (.compR (.k (.int 0)) 1 [] (.one 0) [(.v 5)]),.ite (.cmp .eq (.bin .mod (.v 4) (.k (.int 2))) (.k (.int 1))) [.set 8 false (.compR (.bin .sub (.bin .mod (.bin .mul (.bin .fdiv (.v 1) (.k (.int 2))) (.bin .add (.v 0) (.k (.int 1)))) (.bin .add (.bin .mul (.k (.int 2)) (.bin .pow (.k (.int 10)) (.k (.int 14)))) (.k (.int 1)))) (.bin .pow (.k (.int 10)) (.k (.int 14)))) 1 [4] (.one 0) [(.v 5)])] [],.ret (.tup [(.v 5),(.v 7),(.v 8),(.bin .mod (.bin .fdiv (.v 1) (.k (.int 2))) (.k (.int 2))),(.v 6),(.ix (.lst [(.k (.int 0)),(.k (.int 0)),(.k (.int 5)),(.k (.int 40960))]) (.bin .mod (.bin .fdiv (.v 1) (.k (.int 4))) (.k (.int 4))))])]=some (.rt (false,scD ⟨m,pl,pa,(h.fdiv 2).fmod 2,bt,mk⟩)):=by
  refine epl _ _ _ _ _ _ (epa _ _ _ _ _ _ ?_)
  exact qAq (r:=(false,scD ⟨m,pl,pa,(h.fdiv 2).fmod 2,bt,mk⟩)) (by simp only [qBO,qAV,qAC,qCt,qA2,qAf,List.getElem?_cons_succ,List.getElem?_cons_zero,Option.join_some,qAg,pk,Option.bind_some,pkR,qAn,Option.map_some,qAj,d2,↓reduceIte,qAd,qAX,qBZ,qAr,List.length_cons,List.length_nil,Nat.reduceAdd,l4,d4,emk,l6];rfl) rfl
 by_cases h3:w.fmod 3=0
 ·rw [if_pos h3] at ebt
  subst ebt
  exact qAc (x:=false) (by simp only [qAF,Bool.and_false,List.set_cons_succ,List.set_cons_zero,qAh,pk,qAg,qAf,List.getElem?_cons_succ,List.getElem?_cons_zero,Option.join_some,Option.bind_some,pkR,qAn,Option.map_some,qAd,d3,↓reduceIte,h3,qFF,eqZ];simp) fin
 ·rw [if_neg h3] at ebt
  subst ebt
  exact qEP (x:=false) (by simp only [qAF,Bool.and_false,List.set_cons_succ,List.set_cons_zero,qAh,pk,qAg,qAf,List.getElem?_cons_succ,List.getElem?_cons_zero,Option.join_some,Option.bind_some,pkR,qAn,Option.map_some,qAd,d3,↓reduceIte,qFF,eqZ,h3];simp) (qAi (false,.int ((w.fdiv 3).fmod (10^(15:Int).toNat+1))) (by simp only [qAF,Bool.and_false,List.set_cons_succ,List.set_cons_zero,qAg,pk,qAf,List.getElem?_cons_succ,List.getElem?_cons_zero,Option.join_some,Option.bind_some,pkR,qAn,Option.map_some,qAj,d3,↓reduceIte,qA6,p15,qAK,qAd,dA]) rfl) fin
end
end Dw.T
namespace Dw.T
open Dw
noncomputable def Bd3 (q:Int×Int×Int):Prop:=(-(10^31)<=q.1/\q.1<=10^31)/\(-(10^31)<=q.2.1/\q.2.1<=10^31)/\(-(10^15)<=q.2.2/\q.2.2<=10^15)
noncomputable def Bd2 (q:P2):Prop:=(-(10^31)<=q.1/\q.1<=10^31)/\(-(10^31)<=q.2/\q.2<=10^31)
theorem qJ5 {a b A B:Int}(h:-A<=a/\a<=A) (h':0<=b/\b<=B) (hA:0<=A):-(A * B)<=a * b/\a * b<=A * B:=by
 have h1:a * b<=A * b:=Int.mul_le_mul_of_nonneg_right h.2 h'.1
 have h2:(-A) * b<=a * b:=Int.mul_le_mul_of_nonneg_right h.1 h'.1
 have h3:A * b<=A * B:=Int.mul_le_mul_of_nonneg_left h'.2 hA
 rw [Int.neg_mul] at h2
 omega
noncomputable def qQk (t:Th):Prop:=(∀j,Bd3 (t.sw j))/\t.mr<65536
theorem qIb {L:List (Int×Int×Int)}(h:∀q∈L,Bd3 q) (j:Nat):Bd3 (L.getD j (0,0,0)):=by
 rw [List.getD_eq_getElem?_getD]
 cases e:L[j]? with
 | none=>exact⟨by decide,by decide,by decide⟩
 | some q=>exact h q (List.mem_of_getElem? e)
theorem qLW {L:List P2}(h:∀q∈L,Bd2 q) (j:Nat):Bd2 (L.getD j (0,0)):=by
 rw [List.getD_eq_getElem?_getD]
 cases e:L[j]? with
 | none=>exact⟨by decide,by decide⟩
 | some q=>exact h q (List.mem_of_getElem? e)
section
variable {call:Nat->List D->Option R}
theorem qFR (c:Int) (hc:2 * c.natAbs<qCX) (s:Sc) (ok:ScOk s) (C21:call 32 [.int c]=some (false,.int (qBM c))) (C22:∀l:Int,0<=l->l<prm->call 33 [.int l]=some (false,.int (qBQ l))) :
  ∃t:Th,qQk t/\qAp call [some (false,.int c),some (false,scD s),none,none,none,none,none,none,none,none] f_law_thing_by.body=some (.rt (false,thD s.m t)):=by
 have dv:∀b:Int,b=5∨b=9∨b=45∨b=4∨b=180∨b=900∨b=13∨b=2∨b=65536∨b=131072∨b=1179648->qAU b=true:=λb h=>by rcases h with rfl|rfl|rfl|rfl|rfl|rfl|rfl|rfl|rfl|rfl|rfl<;>decide
 have d5:=dv 5 (by decide)
 have d9:=dv 9 (by decide)
 have d45:=dv 45 (by decide)
 have d4:=dv 4 (by decide)
 have d180:=dv 180 (by decide)
 have d900:=dv 900 (by decide)
 have d13:=dv 13 (by decide)
 have d2:=dv 2 (by decide)
 have d6:=dv 65536 (by decide)
 have d7:=dv 131072 (by decide)
 have d8:=dv 1179648 (by decide)
 have p28:qCu 10 28=true:=by decide
 have p18:qCu 10 18=true:=by decide
 have dP:qAU (10^(28:Int).toNat)=true:=by decide
 have dQ:qAU (10^(18:Int).toNat+1)=true:=by decide
 have e28:(10:Int)^(28:Int).toNat=10^28:=rfl
 have hm:s.m<=3:=by have:=ok.m;omega
 have xc:=qA4 c (10^(28:Int).toNat) (by decide)
 obtain⟨σ',h',L,l,o4,o5,o6,o7,hL,hB,hl,rfl⟩:=qCd (call:=call) (tg:=.one 4) (body:=[.set 5 false (.bin .add (.ix (.ix (.v 1) (.k (.int 2))) (.v 4)) (.bin .mul (.bin .sub (.bin .mod (.v 2) (.k (.int 5))) (.k (.int 2))) (.ix (.v 1) (.k (.int 3))))),.set 6 false (.bin .sub (.bin .sub (.bin .add (.ix (.ix (.v 1) (.k (.int 1))) (.v 4)) (.bin .mod (.bin .fdiv (.v 2) (.k (.int 5))) (.k (.int 9)))) (.k (.int 4))) (.bin .mul (.v 5) (.ix (.v 1) (.k (.int 4))))),.set 7 false (.bin .mod (.bin .fdiv (.v 2) (.k (.int 45))) (.k (.int 4))),.ite (.cmp .eq (.bin .mod (.bin .fdiv (.v 2) (.k (.int 180))) (.k (.int 5))) (.k (.int 2))) [.set 6 false (.bin .sub (.v 6) (.k (.int 10))),.set 7 false (.bin .add (.v 7) (.k (.int 20)))] [],.ite (.cmp .eq (.bin .mod (.bin .fdiv (.v 2) (.k (.int 900))) (.k (.int 13))) (.k (.int 3))) [.set 6 false (.bin .add (.v 6) (.bin .mod (.v 0) (.bin .pow (.k (.int 10)) (.k (.int 28)))))] [],.app 3 (.tup [(.v 6),(.bin .add (.v 6) (.v 7)),(.v 5),(.v 5)]),.set 2 false (.call 33 [(.v 2)])])
  (λk σ=>∃(L:List (Int×Int×Int)) (l:Int) (o4 o5 o6 o7:Option R),L.length=k/\(∀q∈L,Bd3 q)/\(0<=l/\l<prm)/\σ=[some (false,.int c),some (false,scD s),some (false,.int l),some (true,.lst (L.map sD)),o4,o5,o6,o7,none,none]) s.m (λi=>.int (i:Nat))
  [some (false,.int c),some (false,scD s),some (false,.int (qBM c)),some (true,.lst []),none,none,none,none,none,none] ⟨[],_,_,_,_,_,rfl,(λ_ h=>nomatch h),qEN c,rfl⟩ (by
   rintro k σ hk ⟨L,l,o4,o5,o6,o7,hL,hB,hl,rfl⟩
   have g1:ixP (.lst (bx s.m λj=>.int (s.pa j))) (.int (k:Int))=some (false,.int (s.pa k)):=qCT (λj=>.int (s.pa j)) hk
   have g2:ixP (.lst (bx s.m λj=>.int (s.pl j))) (.int (k:Int))=some (false,.int (s.pl k)):=qCT (λj=>.int (s.pl j)) hk
   have m1:qBX (l.fmod 5 - 2) s.sp=true:=qOw _ _ (by have:=ok.sp;omega)
   have b5:=qA4 l 5 (by decide)
   have bsp:-(10^14+2)<=s.pa k+(l.fmod 5 - 2) * s.sp/\s.pa k+(l.fmod 5 - 2) * s.sp<=10^14+2:=by
    have:=qJ5 (a:=l.fmod 5 - 2) (b:=s.sp) (A:=2) (B:=1) (by omega) ok.sp (by decide)
    have:=ok.pa k
    omega
   generalize hsp:s.pa k+(l.fmod 5 - 2) * s.sp=sp at bsp
   have m2:qBX sp s.bt=true:=qOw _ _ (by have:=ok.bt;omega)
   have bpr:=qJ5 (a:=sp) (b:=s.bt) (A:=10^14+2) (B:=10^15) bsp ok.bt (by decide)
   have b9:=qA4 (l.fdiv 5) 9 (by decide)
   have blw:-(2 * 10^29+10^17)<=s.pl k+(l.fdiv 5).fmod 9 - 4 - sp * s.bt/\s.pl k+(l.fdiv 5).fmod 9 - 4 - sp * s.bt<=2 * 10^29+10^17:=by
    have:=ok.pl k
    omega
   generalize hlw:s.pl k+(l.fdiv 5).fmod 9 - 4 - sp * s.bt=lw at blw
   have bw:=qA4 (l.fdiv 45) 4 (by decide)
   generalize hwd:(l.fdiv 45).fmod 4=wd at bw
   have nx:=C22 l hl.1 hl.2
   have fin:∀lw wd:Int,(-(5 * 10^29)<=lw/\lw<=5 * 10^29)->(0<=wd/\wd<=23)->∃σ2,qAp call [some (false,.int c),some (false,scD s),some (false,.int l),some (true,.lst (L.map sD)),some (false,.int (k:Int)),some (false,.int sp),some (false,.int lw),some (false,.int wd),none,none] [.app 3 (.tup [(.v 6),(.bin .add (.v 6) (.v 7)),(.v 5),(.v 5)]),.set 2 false (.call 33 [(.v 2)])]=some (.nx σ2) /\
     ∃(L:List (Int×Int×Int)) (l:Int) (o4 o5 o6 o7:Option R),L.length=k+1/\(∀q∈L,Bd3 q)/\(0<=l/\l<prm)/\σ2=[some (false,.int c),some (false,scD s),some (false,.int l),some (true,.lst (L.map sD)),o4,o5,o6,o7,none,none]:=λlw wd h1 h2=>by
    refine⟨_,?_,L++[(lw,lw+wd,sp)],qBQ l,some (false,.int (k:Int)),some (false,.int sp),some (false,.int lw),some (false,.int wd),by simp [hL],λq hq=>?_,qDI l,rfl⟩
    ·rw [List.map_append]
     refine qB0 (false,sD (lw,lw+wd,sp)) (by simp only [qAV,qAC,qCt,qA2,qAf,List.getElem?_cons_succ,List.getElem?_cons_zero,Option.join_some,qAg,pk,Option.bind_some,pkR,qAK,qAr,List.length_cons,List.length_nil,Nat.reduceAdd,qP4,↓reduceIte];rfl) rfl (qB2 (by simp;omega)) ?_
     exact qAi (false,.int (qBQ l)) (by simp only [List.set_cons_succ,List.set_cons_zero,qAw,qAv,ag,qAf,List.getElem?_cons_succ,List.getElem?_cons_zero,Option.join_some,Option.bind_some,agR,qAz,nx]) rfl
    ·rcases List.mem_append.mp hq with hq|hq
     ·exact hB q hq
     ·obtain rfl:=List.mem_singleton.mp hq
      show (-(10^31)<=lw/\lw<=10^31)/\(-(10^31)<=lw+wd/\lw+wd<=10^31)/\(-(10^15)<=sp/\sp<=10^15)
      omega
   have fin2:∀lw wd:Int,(-(3 * 10^29)<=lw/\lw<=3 * 10^29)->(0<=wd/\wd<=23)->∃σ2,qAp call [some (false,.int c),some (false,scD s),some (false,.int l),some (true,.lst (L.map sD)),some (false,.int (k:Int)),some (false,.int sp),some (false,.int lw),some (false,.int wd),none,none] [.ite (.cmp .eq (.bin .mod (.bin .fdiv (.v 2) (.k (.int 900))) (.k (.int 13))) (.k (.int 3))) [.set 6 false (.bin .add (.v 6) (.bin .mod (.v 0) (.bin .pow (.k (.int 10)) (.k (.int 28)))))] [],.app 3 (.tup [(.v 6),(.bin .add (.v 6) (.v 7)),(.v 5),(.v 5)]),.set 2 false (.call 33 [(.v 2)])]=some (.nx σ2) /\
     ∃(L:List (Int×Int×Int)) (l:Int) (o4 o5 o6 o7:Option R),L.length=k+1/\(∀q∈L,Bd3 q)/\(0<=l/\l<prm)/\σ2=[some (false,.int c),some (false,scD s),some (false,.int l),some (true,.lst (L.map sD)),o4,o5,o6,o7,none,none]:=λlw wd h1 h2=>by
    by_cases hq:(l.fdiv 900).fmod 13=3
    ·generalize hy:c.fmod (10^(28:Int).toNat)=y at *
     rw [e28] at xc
     obtain⟨σ2,q1,q2⟩:=fin (lw+y) wd (by omega) h2
     exact⟨σ2,qEP (x:=false) (by simp only [qAh,pk,qAg,qAf,List.getElem?_cons_succ,List.getElem?_cons_zero,Option.join_some,Option.bind_some,pkR,qAn,Option.map_some,qAj,d900,↓reduceIte,qAd,d13,hq,qAe,eqZ];rfl) (qAi (false,.int (lw+y)) (by simp only [qAg,pk,qAf,List.getElem?_cons_succ,List.getElem?_cons_zero,Option.join_some,Option.bind_some,pkR,qAn,Option.map_some,qA6,p28,↓reduceIte,qAd,dP,hy,qAK]) rfl) q1,q2⟩
    ·obtain⟨σ2,q1,q2⟩:=fin lw wd (by omega) h2
     exact⟨σ2,qAc (x:=false) (by simp only [qAh,pk,qAg,qAf,List.getElem?_cons_succ,List.getElem?_cons_zero,Option.join_some,Option.bind_some,pkR,qAn,Option.map_some,qAj,d900,↓reduceIte,qAd,d13,qAe,eqZ,hq];simp) q1,q2⟩
   have main:∃σ2,qAp call [some (false,.int c),some (false,scD s),some (false,.int l),some (true,.lst (L.map sD)),some (false,.int (k:Int)),some (false,.int sp),some (false,.int lw),some (false,.int wd),none,none] [.ite (.cmp .eq (.bin .mod (.bin .fdiv (.v 2) (.k (.int 180))) (.k (.int 5))) (.k (.int 2))) [.set 6 false (.bin .sub (.v 6) (.k (.int 10))),.set 7 false (.bin .add (.v 7) (.k (.int 20)))] [],.ite (.cmp .eq (.bin .mod (.bin .fdiv (.v 2) (.k (.int 900))) (.k (.int 13))) (.k (.int 3))) [.set 6 false (.bin .add (.v 6) (.bin .mod (.v 0) (.bin .pow (.k (.int 10)) (.k (.int 28)))))] [],.app 3 (.tup [(.v 6),(.bin .add (.v 6) (.v 7)),(.v 5),(.v 5)]),.set 2 false (.call 33 [(.v 2)])]=some (.nx σ2) /\
     ∃(L:List (Int×Int×Int)) (l:Int) (o4 o5 o6 o7:Option R),L.length=k+1/\(∀q∈L,Bd3 q)/\(0<=l/\l<prm)/\σ2=[some (false,.int c),some (false,scD s),some (false,.int l),some (true,.lst (L.map sD)),o4,o5,o6,o7,none,none]:=by
    by_cases hq:(l.fdiv 180).fmod 5=2
    ·obtain⟨σ2,q1,q2⟩:=fin2 (lw - 10) (wd+20) (by omega) (by omega)
     refine⟨σ2,qEP (x:=false) (by simp only [qAh,pk,qAg,qAf,List.getElem?_cons_succ,List.getElem?_cons_zero,Option.join_some,Option.bind_some,pkR,qAn,Option.map_some,qAj,d180,↓reduceIte,qAd,d5,hq,qAe,eqZ];rfl) (σ':=[some (false,.int c),some (false,scD s),some (false,.int l),some (true,.lst (L.map sD)),some (false,.int (k:Int)),some (false,.int sp),some (false,.int (lw - 10)),some (false,.int (wd+20)),none,none]) ?_ q1,q2⟩
     refine qAi (false,.int (lw - 10)) (by simp only [qAg,pk,qAf,List.getElem?_cons_succ,List.getElem?_cons_zero,Option.join_some,Option.bind_some,pkR,qAn,Option.map_some,qAY]) ?_
     exact qAi (false,.int (wd+20)) (by simp only [qAF,Bool.and_false,List.set_cons_succ,List.set_cons_zero,qAg,pk,qAf,List.getElem?_cons_succ,List.getElem?_cons_zero,Option.join_some,Option.bind_some,pkR,qAn,Option.map_some,qAK]) rfl
    ·obtain⟨σ2,q1,q2⟩:=fin2 lw wd (by omega) (by omega)
     exact⟨σ2,qAc (x:=false) (by simp only [qAh,pk,qAg,qAf,List.getElem?_cons_succ,List.getElem?_cons_zero,Option.join_some,Option.bind_some,pkR,qAn,Option.map_some,qAj,d180,↓reduceIte,qAd,d5,qAe,eqZ,hq];simp) q1,q2⟩
   obtain⟨σ2,q1,q2⟩:=main
   refine⟨_,σ2,rfl,?_,q2⟩
   refine qAi (false,.int sp) (by simp only [List.set_cons_succ,List.set_cons_zero,qAg,pk,qAX,qAf,List.getElem?_cons_succ,List.getElem?_cons_zero,Option.join_some,Option.bind_some,pkR,qAn,Option.map_some,sc2,g1,qAd,d5,↓reduceIte,qAY,sc3,qBH,m1,qAK,hsp]) ?_
   refine qAi (false,.int lw) (by simp only [List.set_cons_succ,List.set_cons_zero,qAF,Bool.and_false,qAg,pk,qAX,qAf,List.getElem?_cons_succ,List.getElem?_cons_zero,Option.join_some,Option.bind_some,pkR,qAn,Option.map_some,sc1,g2,qAj,d5,↓reduceIte,qAd,d9,qAK,qAY,sc4,qBH,m2,hlw]) ?_
   exact qAi (false,.int wd) (by simp only [List.set_cons_succ,List.set_cons_zero,qAF,Bool.and_false,qAg,pk,qAf,List.getElem?_cons_succ,List.getElem?_cons_zero,Option.join_some,Option.bind_some,pkR,qAn,Option.map_some,qAj,d45,↓reduceIte,qAd,d4,hwd]) q1)
 have eL:L.map sD=bx s.m λj=>sD (L.getD j (0,0,0)):=qG9 hL (0,0,0) sD
 rw [eL] at h'
 have g0:ixP (.lst (bx s.m λj=>.int (s.pl j))) (.int 0)=some (false,.int (s.pl 0)):=qCT (j:=0) (λj=>.int (s.pl j)) (by have:=ok.m;omega)
 have pre:∀(mr:Nat),qAp call [some (false,.int c),some (false,scD s),some (false,.int l),some (true,.lst (bx s.m λj=>sD (L.getD j (0,0,0)))),o4,o5,o6,o7,some (false,.int (mr:Int)),none] [.set 9 false (.bin .sub (.bin .add (.ix (.ix (.v 1) (.k (.int 1))) (.k (.int 0))) (.bin .mod (.bin .fdiv (.v 2) (.k (.int 131072))) (.k (.int 9)))) (.k (.int 4))),.ret (.tup [(.bin .mod (.bin .fdiv (.v 2) (.k (.int 1179648))) (.bin .add (.bin .pow (.k (.int 10)) (.k (.int 18))) (.k (.int 1)))),(.bi .tuple [(.v 3)]),(.v 8),(.v 9)])]=some (.rt (false,thD s.m ⟨(l.fdiv 1179648).fmod (10^(18:Int).toNat+1),λj=>L.getD j (0,0,0),mr,s.pl 0+(l.fdiv 131072).fmod 9 - 4⟩)):=λmr=>by
  have l4:4<=lim:=qAW (by decide)
  refine qAi (false,.int (s.pl 0+(l.fdiv 131072).fmod 9 - 4)) (by simp only [qAg,pk,qAX,qAf,List.getElem?_cons_succ,List.getElem?_cons_zero,Option.join_some,Option.bind_some,pkR,qAn,Option.map_some,sc1,g0,qAj,d7,↓reduceIte,qAd,d9,qAK,qAY]) ?_
  exact qAq (r:=(false,thD s.m ⟨(l.fdiv 1179648).fmod (10^(18:Int).toNat+1),λj=>L.getD j (0,0,0),mr,s.pl 0+(l.fdiv 131072).fmod 9 - 4⟩)) (by simp only [qBO,qAF,Bool.and_false,List.set_cons_succ,List.set_cons_zero,qAV,qAC,qAg,pk,qAf,List.getElem?_cons_succ,List.getElem?_cons_zero,Option.join_some,Option.bind_some,pkR,qAn,Option.map_some,qAj,d8,↓reduceIte,qA6,p18,qAK,qAd,dQ,qBB,qAs,qAA,qDX,qCt,qA2,qAr,List.length_cons,List.length_nil,Nat.reduceAdd,l4];rfl) rfl
 have start:∀z,qAp call [some (false,.int c),some (false,scD s),some (false,.int l),some (true,.lst (bx s.m λj=>sD (L.getD j (0,0,0)))),o4,o5,o6,o7,some (false,.int (s.mr:Int)),none] [.ite (.cmp .eq (.bin .mod (.v 2) (.k (.int 2))) (.k (.int 1))) [.set 8 false (.bin .bor (.v 8) (.bin .mod (.bin .fdiv (.v 2) (.k (.int 2))) (.k (.int 65536))))] [],.set 9 false (.bin .sub (.bin .add (.ix (.ix (.v 1) (.k (.int 1))) (.k (.int 0))) (.bin .mod (.bin .fdiv (.v 2) (.k (.int 131072))) (.k (.int 9)))) (.k (.int 4))),.ret (.tup [(.bin .mod (.bin .fdiv (.v 2) (.k (.int 1179648))) (.bin .add (.bin .pow (.k (.int 10)) (.k (.int 18))) (.k (.int 1)))),(.bi .tuple [(.v 3)]),(.v 8),(.v 9)])]=z->qAp call [some (false,.int c),some (false,scD s),none,none,none,none,none,none,none,none] f_law_thing_by.body=z:=λz hz=>by
  refine qAi (false,.int (qBM c)) (by simp only [qAw,qAv,ag,qAf,List.getElem?_cons_zero,Option.join_some,Option.bind_some,agR,qAz,C21]) ?_
  refine qAi (true,.lst []) (by simp only [qAF,Bool.and_false,List.set_cons_succ,List.set_cons_zero,qBZ,qAr,List.length_nil,qL8,↓reduceIte]) ?_
  refine qDu (ds:=[.int (s.m:Int)]) (by simp only [qAF,Bool.and_false,List.set_cons_succ,List.set_cons_zero,Bool.and_true,qAs,pk,qAX,qAf,List.getElem?_cons_succ,List.getElem?_cons_zero,Option.join_some,Option.bind_some,pkR,qAn,Option.map_some,sc0,qAA]) (qD8 (by omega)) h' ?_
  exact qAi (false,.int (s.mr:Int)) (by simp only [qAX,pk,qAf,List.getElem?_cons_succ,List.getElem?_cons_zero,Option.join_some,Option.bind_some,pkR,qAn,Option.map_some,sc5]) hz
 by_cases hq:l.fmod 2=1
 ·have bx6:=qA4 (l.fdiv 2) 65536 (by decide)
  generalize hx:(l.fdiv 2).fmod 65536=x at bx6
  have hb:qBr .bor (.int (s.mr:Int)) (.int x)=some (false,.int (((s.mr:Int).toNat ||| x.toNat:Nat):Int)):=by
   rw [qDW,if_pos ⟨by omega,bx6.1⟩]
  exact⟨_,⟨λj=>qIb hB j,Nat.or_lt_two_pow (n:=16) (by have:=ok.mr;omega) (by omega)⟩,start _ (qEP (x:=false) (by simp only [qAh,pk,qAg,qAf,List.getElem?_cons_succ,List.getElem?_cons_zero,Option.join_some,Option.bind_some,pkR,qAn,Option.map_some,qAd,d2,↓reduceIte,hq,qAe,eqZ];rfl) (qAi (false,.int (((s.mr:Int).toNat ||| x.toNat:Nat):Int)) (by simp only [qAg,pk,qAf,List.getElem?_cons_succ,List.getElem?_cons_zero,Option.join_some,Option.bind_some,pkR,qAn,Option.map_some,qAj,d2,↓reduceIte,qAd,d6,hx,hb]) rfl) (pre _))⟩
 ·exact⟨_,⟨λj=>qIb hB j,ok.mr⟩,start _ (qAc (x:=false) (by simp only [qAh,pk,qAg,qAf,List.getElem?_cons_succ,List.getElem?_cons_zero,Option.join_some,Option.bind_some,pkR,qAn,Option.map_some,qAd,d2,↓reduceIte,qAe,eqZ,hq];simp) (pre _))⟩
end
end Dw.T
namespace Dw.T
open Dw
section
variable {call:Nat->List D->Option R}
theorem qIv (c:Int) (s:Sc) (ok:ScOk s) (C21:call 32 [.int c]=some (false,.int (qBM c))) (C22:∀l:Int,0<=l->l<prm->call 33 [.int l]=some (false,.int (qBQ l))) :
  ∃f:Nat->P2,(∀j,Bd2 (f j))/\qAp call [some (false,.int c),some (false,scD s),none,none,none,none,none] f_law_box_by.body=some (.rt (false,qBc s.m f)):=by
 have dv:∀b:Int,b=11∨b=5∨b=55∨b=3∨b=165∨b=7∨b=1155->qAU b=true:=λb h=>by rcases h with rfl|rfl|rfl|rfl|rfl|rfl|rfl<;>decide
 have d11:=dv 11 (by decide)
 have d5:=dv 5 (by decide)
 have d55:=dv 55 (by decide)
 have d3:=dv 3 (by decide)
 have d165:=dv 165 (by decide)
 have d7:=dv 7 (by decide)
 have d1155:=dv 1155 (by decide)
 have p28:qCu 10 28=true:=by decide
 have dP:qAU (10^(28:Int).toNat)=true:=by decide
 have mP:qBX 2 (10^(28:Int).toNat)=true:=by decide
 have e28:(10:Int)^(28:Int).toNat=10^28:=rfl
 have hm:s.m<=3:=by have:=ok.m;omega
 have xc:=qA4 c (10^(28:Int).toNat) (by decide)
 have b1:=qEN c
 have b2:=qDI (qBM c)
 have n1:=C22 _ b1.1 b1.2
 have n2:=C22 _ b2.1 b2.2
 obtain⟨σ',h',L,l,o4,o5,o6,hL,hB,hl,rfl⟩:=qCd (call:=call) (tg:=.one 4) (body:=[.set 5 false (.bin .sub (.bin .add (.ix (.ix (.v 1) (.k (.int 1))) (.v 4)) (.bin .mod (.v 2) (.k (.int 11)))) (.k (.int 5))),.set 6 false (.bin .mod (.bin .fdiv (.v 2) (.k (.int 11))) (.k (.int 5))),.ite (.cmp .eq (.bin .mod (.bin .fdiv (.v 2) (.k (.int 55))) (.k (.int 3))) (.k (.int 1))) [.set 5 false (.bin .sub (.v 5) (.k (.int 30))),.set 6 false (.bin .add (.v 6) (.k (.int 60)))] [],.ite (.cmp .eq (.bin .mod (.bin .fdiv (.v 2) (.k (.int 165))) (.k (.int 7))) (.k (.int 2))) [.set 5 false (.bin .sub (.v 5) (.bin .mod (.v 0) (.bin .pow (.k (.int 10)) (.k (.int 28)))))] [],.ite (.cmp .eq (.bin .mod (.bin .fdiv (.v 2) (.k (.int 1155))) (.k (.int 7))) (.k (.int 4))) [.set 6 false (.bin .add (.v 6) (.bin .mul (.k (.int 2)) (.bin .pow (.k (.int 10)) (.k (.int 28)))))] [],.app 3 (.tup [(.v 5),(.bin .add (.v 5) (.v 6))]),.set 2 false (.call 33 [(.v 2)])])
  (λk σ=>∃(L:List P2) (l:Int) (o4 o5 o6:Option R),L.length=k/\(∀q∈L,Bd2 q)/\(0<=l/\l<prm)/\σ=[some (false,.int c),some (false,scD s),some (false,.int l),some (true,.lst (L.map side)),o4,o5,o6]) s.m (λi=>.int (i:Nat))
  [some (false,.int c),some (false,scD s),some (false,.int (qBQ (qBQ (qBM c)))),some (true,.lst []),none,none,none] ⟨[],_,_,_,_,rfl,(λ_ h=>nomatch h),qDI _,rfl⟩ (by
   rintro k σ hk ⟨L,l,o4,o5,o6,hL,hB,hl,rfl⟩
   have g2:ixP (.lst (bx s.m λj=>.int (s.pl j))) (.int (k:Int))=some (false,.int (s.pl k)):=qCT (λj=>.int (s.pl j)) hk
   have b11:=qA4 l 11 (by decide)
   have blw:-(10^29+10)<=s.pl k+l.fmod 11 - 5/\s.pl k+l.fmod 11 - 5<=10^29+10:=by
    have:=ok.pl k
    omega
   generalize hlw:s.pl k+l.fmod 11 - 5=lw at blw
   have bw:=qA4 (l.fdiv 11) 5 (by decide)
   generalize hwd:(l.fdiv 11).fmod 5=wd at bw
   have nx:=C22 l hl.1 hl.2
   have fin:∀lw wd:Int,(-(5 * 10^29)<=lw/\lw<=5 * 10^29)->(0<=wd/\wd<=10^30)->∃σ2,qAp call [some (false,.int c),some (false,scD s),some (false,.int l),some (true,.lst (L.map side)),some (false,.int (k:Int)),some (false,.int lw),some (false,.int wd)] [.app 3 (.tup [(.v 5),(.bin .add (.v 5) (.v 6))]),.set 2 false (.call 33 [(.v 2)])]=some (.nx σ2) /\
     ∃(L:List P2) (l:Int) (o4 o5 o6:Option R),L.length=k+1/\(∀q∈L,Bd2 q)/\(0<=l/\l<prm)/\σ2=[some (false,.int c),some (false,scD s),some (false,.int l),some (true,.lst (L.map side)),o4,o5,o6]:=λlw wd h1 h2=>by
    refine⟨_,?_,L++[(lw,lw+wd)],qBQ l,some (false,.int (k:Int)),some (false,.int lw),some (false,.int wd),by simp [hL],λq hq=>?_,qDI l,rfl⟩
    ·rw [List.map_append]
     refine qB0 (false,side (lw,lw+wd)) (by simp only [qAV,qAC,qCt,qA2,qAf,List.getElem?_cons_succ,List.getElem?_cons_zero,Option.join_some,qAg,pk,Option.bind_some,pkR,qAK,qAr,List.length_cons,List.length_nil,Nat.reduceAdd,qP5,↓reduceIte];rfl) rfl (qB2 (by simp;omega)) ?_
     exact qAi (false,.int (qBQ l)) (by simp only [List.set_cons_succ,List.set_cons_zero,qAw,qAv,ag,qAf,List.getElem?_cons_succ,List.getElem?_cons_zero,Option.join_some,Option.bind_some,agR,qAz,nx]) rfl
    ·rcases List.mem_append.mp hq with hq|hq
     ·exact hB q hq
     ·obtain rfl:=List.mem_singleton.mp hq
      show (-(10^31)<=lw/\lw<=10^31)/\(-(10^31)<=lw+wd/\lw+wd<=10^31)
      omega
   have fin3:∀lw wd:Int,(-(5 * 10^29)<=lw/\lw<=5 * 10^29)->(0<=wd/\wd<=100)->∃σ2,qAp call [some (false,.int c),some (false,scD s),some (false,.int l),some (true,.lst (L.map side)),some (false,.int (k:Int)),some (false,.int lw),some (false,.int wd)] [.ite (.cmp .eq (.bin .mod (.bin .fdiv (.v 2) (.k (.int 1155))) (.k (.int 7))) (.k (.int 4))) [.set 6 false (.bin .add (.v 6) (.bin .mul (.k (.int 2)) (.bin .pow (.k (.int 10)) (.k (.int 28)))))] [],.app 3 (.tup [(.v 5),(.bin .add (.v 5) (.v 6))]),.set 2 false (.call 33 [(.v 2)])]=some (.nx σ2) /\
     ∃(L:List P2) (l:Int) (o4 o5 o6:Option R),L.length=k+1/\(∀q∈L,Bd2 q)/\(0<=l/\l<prm)/\σ2=[some (false,.int c),some (false,scD s),some (false,.int l),some (true,.lst (L.map side)),o4,o5,o6]:=λlw wd h1 h2=>by
    by_cases hq:(l.fdiv 1155).fmod 7=4
    ·obtain⟨σ2,q1,q2⟩:=fin lw (wd+2 * 10^(28:Int).toNat) h1 (by rw [e28];omega)
     exact⟨σ2,qEP (x:=false) (by simp only [qAh,pk,qAg,qAf,List.getElem?_cons_succ,List.getElem?_cons_zero,Option.join_some,Option.bind_some,pkR,qAn,Option.map_some,qAj,d1155,↓reduceIte,qAd,d7,hq,qAe,eqZ];rfl) (qAi (false,.int (wd+2 * 10^(28:Int).toNat)) (by simp only [qAg,pk,qAf,List.getElem?_cons_succ,List.getElem?_cons_zero,Option.join_some,Option.bind_some,pkR,qAn,Option.map_some,qA6,p28,↓reduceIte,qBH,mP,qAK]) rfl) q1,q2⟩
    ·obtain⟨σ2,q1,q2⟩:=fin lw wd h1 (by omega)
     exact⟨σ2,qAc (x:=false) (by simp only [qAh,pk,qAg,qAf,List.getElem?_cons_succ,List.getElem?_cons_zero,Option.join_some,Option.bind_some,pkR,qAn,Option.map_some,qAj,d1155,↓reduceIte,qAd,d7,qAe,eqZ,hq];simp) q1,q2⟩
   have fin2:∀lw wd:Int,(-(3 * 10^29)<=lw/\lw<=3 * 10^29)->(0<=wd/\wd<=100)->∃σ2,qAp call [some (false,.int c),some (false,scD s),some (false,.int l),some (true,.lst (L.map side)),some (false,.int (k:Int)),some (false,.int lw),some (false,.int wd)] [.ite (.cmp .eq (.bin .mod (.bin .fdiv (.v 2) (.k (.int 165))) (.k (.int 7))) (.k (.int 2))) [.set 5 false (.bin .sub (.v 5) (.bin .mod (.v 0) (.bin .pow (.k (.int 10)) (.k (.int 28)))))] [],.ite (.cmp .eq (.bin .mod (.bin .fdiv (.v 2) (.k (.int 1155))) (.k (.int 7))) (.k (.int 4))) [.set 6 false (.bin .add (.v 6) (.bin .mul (.k (.int 2)) (.bin .pow (.k (.int 10)) (.k (.int 28)))))] [],.app 3 (.tup [(.v 5),(.bin .add (.v 5) (.v 6))]),.set 2 false (.call 33 [(.v 2)])]=some (.nx σ2) /\
     ∃(L:List P2) (l:Int) (o4 o5 o6:Option R),L.length=k+1/\(∀q∈L,Bd2 q)/\(0<=l/\l<prm)/\σ2=[some (false,.int c),some (false,scD s),some (false,.int l),some (true,.lst (L.map side)),o4,o5,o6]:=λlw wd h1 h2=>by
    by_cases hq:(l.fdiv 165).fmod 7=2
    ·generalize hy:c.fmod (10^(28:Int).toNat)=y at *
     rw [e28] at xc
     obtain⟨σ2,q1,q2⟩:=fin3 (lw - y) wd (by omega) h2
     exact⟨σ2,qEP (x:=false) (by simp only [qAh,pk,qAg,qAf,List.getElem?_cons_succ,List.getElem?_cons_zero,Option.join_some,Option.bind_some,pkR,qAn,Option.map_some,qAj,d165,↓reduceIte,qAd,d7,hq,qAe,eqZ];rfl) (qAi (false,.int (lw - y)) (by simp only [qAg,pk,qAf,List.getElem?_cons_succ,List.getElem?_cons_zero,Option.join_some,Option.bind_some,pkR,qAn,Option.map_some,qA6,p28,↓reduceIte,qAd,dP,hy,qAY]) rfl) q1,q2⟩
    ·obtain⟨σ2,q1,q2⟩:=fin3 lw wd (by omega) h2
     exact⟨σ2,qAc (x:=false) (by simp only [qAh,pk,qAg,qAf,List.getElem?_cons_succ,List.getElem?_cons_zero,Option.join_some,Option.bind_some,pkR,qAn,Option.map_some,qAj,d165,↓reduceIte,qAd,d7,qAe,eqZ,hq];simp) q1,q2⟩
   have main:∃σ2,qAp call [some (false,.int c),some (false,scD s),some (false,.int l),some (true,.lst (L.map side)),some (false,.int (k:Int)),some (false,.int lw),some (false,.int wd)] [.ite (.cmp .eq (.bin .mod (.bin .fdiv (.v 2) (.k (.int 55))) (.k (.int 3))) (.k (.int 1))) [.set 5 false (.bin .sub (.v 5) (.k (.int 30))),.set 6 false (.bin .add (.v 6) (.k (.int 60)))] [],.ite (.cmp .eq (.bin .mod (.bin .fdiv (.v 2) (.k (.int 165))) (.k (.int 7))) (.k (.int 2))) [.set 5 false (.bin .sub (.v 5) (.bin .mod (.v 0) (.bin .pow (.k (.int 10)) (.k (.int 28)))))] [],.ite (.cmp .eq (.bin .mod (.bin .fdiv (.v 2) (.k (.int 1155))) (.k (.int 7))) (.k (.int 4))) [.set 6 false (.bin .add (.v 6) (.bin .mul (.k (.int 2)) (.bin .pow (.k (.int 10)) (.k (.int 28)))))] [],.app 3 (.tup [(.v 5),(.bin .add (.v 5) (.v 6))]),.set 2 false (.call 33 [(.v 2)])]=some (.nx σ2) /\
     ∃(L:List P2) (l:Int) (o4 o5 o6:Option R),L.length=k+1/\(∀q∈L,Bd2 q)/\(0<=l/\l<prm)/\σ2=[some (false,.int c),some (false,scD s),some (false,.int l),some (true,.lst (L.map side)),o4,o5,o6]:=by
    by_cases hq:(l.fdiv 55).fmod 3=1
    ·obtain⟨σ2,q1,q2⟩:=fin2 (lw - 30) (wd+60) (by omega) (by omega)
     refine⟨σ2,qEP (x:=false) (by simp only [qAh,pk,qAg,qAf,List.getElem?_cons_succ,List.getElem?_cons_zero,Option.join_some,Option.bind_some,pkR,qAn,Option.map_some,qAj,d55,↓reduceIte,qAd,d3,hq,qAe,eqZ];rfl) (σ':=[some (false,.int c),some (false,scD s),some (false,.int l),some (true,.lst (L.map side)),some (false,.int (k:Int)),some (false,.int (lw - 30)),some (false,.int (wd+60))]) ?_ q1,q2⟩
     refine qAi (false,.int (lw - 30)) (by simp only [qAg,pk,qAf,List.getElem?_cons_succ,List.getElem?_cons_zero,Option.join_some,Option.bind_some,pkR,qAn,Option.map_some,qAY]) ?_
     exact qAi (false,.int (wd+60)) (by simp only [qAF,Bool.and_false,List.set_cons_succ,List.set_cons_zero,qAg,pk,qAf,List.getElem?_cons_succ,List.getElem?_cons_zero,Option.join_some,Option.bind_some,pkR,qAn,Option.map_some,qAK]) rfl
    ·obtain⟨σ2,q1,q2⟩:=fin2 lw wd (by omega) (by omega)
     exact⟨σ2,qAc (x:=false) (by simp only [qAh,pk,qAg,qAf,List.getElem?_cons_succ,List.getElem?_cons_zero,Option.join_some,Option.bind_some,pkR,qAn,Option.map_some,qAj,d55,↓reduceIte,qAd,d3,qAe,eqZ,hq];simp) q1,q2⟩
   obtain⟨σ2,q1,q2⟩:=main
   refine⟨_,σ2,rfl,?_,q2⟩
   refine qAi (false,.int lw) (by simp only [List.set_cons_succ,List.set_cons_zero,qAg,pk,qAX,qAf,List.getElem?_cons_succ,List.getElem?_cons_zero,Option.join_some,Option.bind_some,pkR,qAn,Option.map_some,sc1,g2,qAd,d11,↓reduceIte,qAK,qAY,hlw]) ?_
   exact qAi (false,.int wd) (by simp only [List.set_cons_succ,List.set_cons_zero,qAF,Bool.and_false,qAg,pk,qAf,List.getElem?_cons_succ,List.getElem?_cons_zero,Option.join_some,Option.bind_some,pkR,qAn,Option.map_some,qAj,d11,↓reduceIte,qAd,d5,hwd]) q1)
 have eL:L.map side=bx s.m λj=>side (L.getD j (0,0)):=qG9 hL (0,0) side
 rw [eL] at h'
 refine⟨λj=>L.getD j (0,0),λj=>qLW hB j,?_⟩
 refine qAi (false,.int (qBQ (qBQ (qBM c)))) (by simp only [qAw,qAv,ag,qAf,List.getElem?_cons_zero,Option.join_some,Option.bind_some,agR,qAz,C21,Option.map_some,n1,n2]) ?_
 refine qAi (true,.lst []) (by simp only [qAF,Bool.and_false,List.set_cons_succ,List.set_cons_zero,qBZ,qAr,List.length_nil,qL8,↓reduceIte]) ?_
 refine qDu (ds:=[.int (s.m:Int)]) (by simp only [qAF,Bool.and_false,List.set_cons_succ,List.set_cons_zero,Bool.and_true,qAs,pk,qAX,qAf,List.getElem?_cons_succ,List.getElem?_cons_zero,Option.join_some,Option.bind_some,pkR,qAn,Option.map_some,sc0,qAA]) (qD8 (by omega)) h' ?_
 exact qAq (r:=(false,qBc s.m λj=>L.getD j (0,0))) (by simp only [qBO,qBB,qAs,pk,qAf,List.getElem?_cons_succ,List.getElem?_cons_zero,Option.join_some,Option.bind_some,pkR,qAA,qDX];rfl) rfl
theorem qFS (l:Int):∃k:Nat,k<65536/\qAp call [some (false,.int l)] f_law_marks_by.body=some (.rt (false,.int (k:Int))):=by
 have d5:qAU 5=true:=by decide
 have d6:qAU 65536=true:=by decide
 have d16:qAU 16=true:=by decide
 have d80:qAU 80=true:=by decide
 by_cases h0:l.fmod 5=0
 ·have b:=qA4 (l.fdiv 5) 65536 (by decide)
  refine⟨((l.fdiv 5).fmod 65536).toNat,by omega,?_⟩
  rw [Int.toNat_of_nonneg b.1]
  exact qBz (x:=false) (r:=(false,.int ((l.fdiv 5).fmod 65536))) (by simp only [qAh,pk,qAg,qAf,List.getElem?_cons_zero,Option.join_some,Option.bind_some,pkR,qAn,Option.map_some,qAd,d5,↓reduceIte,h0,qAe,eqZ];rfl) (qAq (r:=(false,.int ((l.fdiv 5).fmod 65536))) (by simp only [qBO,qAg,pk,qAf,List.getElem?_cons_zero,Option.join_some,Option.bind_some,pkR,qAn,Option.map_some,qAj,d5,↓reduceIte,qAd,d6]) rfl) rfl
 ·by_cases h1:l.fmod 5=1
  ·refine⟨0,by decide,?_⟩
   refine qAc (x:=false) (by simp only [qAh,pk,qAg,qAf,List.getElem?_cons_zero,Option.join_some,Option.bind_some,pkR,qAn,Option.map_some,qAd,d5,↓reduceIte,qAe,eqZ,h0];simp) ?_
   exact qBz (x:=false) (r:=(false,.int 0)) (by simp only [qAh,pk,qAg,qAf,List.getElem?_cons_zero,Option.join_some,Option.bind_some,pkR,qAn,Option.map_some,qAd,d5,↓reduceIte,h1,qAe,eqZ];rfl) (qAq (r:=(false,.int 0)) (by simp only [qBO,qAn]) rfl) rfl
  ·have ba:=qA4 (l.fdiv 5) 16 (by decide)
   have bb:=qA4 (l.fdiv 80) 16 (by decide)
   generalize hx:(l.fdiv 5).fmod 16=x at ba
   generalize hy:(l.fdiv 80).fmod 16=y at bb
   have s1:qIJ 1 x=true:=decide_eq_true ⟨by omega,by omega,by decide⟩
   have s2:qIJ 1 y=true:=decide_eq_true ⟨by omega,by omega,by decide⟩
   have px:(0:Int)<=1 * 2^x.toNat:=by rw [Int.one_mul];exact Int.pow_nonneg (by decide)
   have py:(0:Int)<=1 * 2^y.toNat:=by rw [Int.one_mul];exact Int.pow_nonneg (by decide)
   have tw:∀z:Int,0<=z->z<16->(1 * 2^z.toNat:Int).toNat<2^16:=λz h0 h1=>by
    have:z=((z.toNat:Nat):Int):=by omega
    have hz:z.toNat<16:=by omega
    generalize z.toNat=q at hz
    have e:(1 * 2^q:Int).toNat=2^q:=by rw [Int.one_mul,show (2:Int)^q=((2^q:Nat):Int) by norm_cast];rfl
    rw [e]
    exact Nat.pow_lt_pow_right (by decide) hz
   refine⟨((1 * 2^x.toNat:Int).toNat ||| (1 * 2^y.toNat:Int).toNat:Nat),Nat.or_lt_two_pow (n:=16) (tw x (by omega) (by omega)) (tw y (by omega) (by omega)),?_⟩
   refine qAc (x:=false) (by simp only [qAh,pk,qAg,qAf,List.getElem?_cons_zero,Option.join_some,Option.bind_some,pkR,qAn,Option.map_some,qAd,d5,↓reduceIte,qAe,eqZ,h0];simp) ?_
   refine qAc (x:=false) (by simp only [qAh,pk,qAg,qAf,List.getElem?_cons_zero,Option.join_some,Option.bind_some,pkR,qAn,Option.map_some,qAd,d5,↓reduceIte,qAe,eqZ,h1];simp) ?_
   have hb:qBr .bor (.int (1 * 2^x.toNat)) (.int (1 * 2^y.toNat))=some (false,.int (((1 * 2^x.toNat:Int).toNat ||| (1 * 2^y.toNat:Int).toNat:Nat):Int)):=by
    rw [qDW,if_pos ⟨px,py⟩]
   exact qAq (r:=(false,.int (((1 * 2^x.toNat:Int).toNat ||| (1 * 2^y.toNat:Int).toNat:Nat):Int))) (by simp only [qBO,qAg,pk,qAn,Option.map_some,qAf,List.getElem?_cons_zero,Option.join_some,Option.bind_some,pkR,qAj,d5,↓reduceIte,qAd,d16,hx,qJx,s1,d80,hy,s2,hb]) rfl
theorem qIu (l bt:Int) (hb:0<=bt/\bt<=10^15):∃a b:Int,(0<=a/\a<=10^15)/\(0<=b/\b<=10^15)/\qAp call [some (false,.int l),some (false,.int bt),none] f_law_window.body=some (.rt (false,side (a,b))):=by
 have d7:qAU 7=true:=by decide
 have d9:qAU 9=true:=by decide
 have p15:qCu 10 15=true:=by decide
 have e15:(10:Int)^(15:Int).toNat=10^15:=rfl
 have l2:2<=lim:=qAW (by decide)
 refine⟨min (10^(15:Int).toNat) (max 0 (bt+l.fmod 7 - 3)),min (10^(15:Int).toNat) (max 0 (min (10^(15:Int).toNat) (max 0 (bt+l.fmod 7 - 3))+(l.fdiv 7).fmod 9 - 2)),?_,?_,?_⟩
 ·rw [e15];omega
 ·rw [e15];omega
 ·refine qAi (false,.int (min (10^(15:Int).toNat) (max 0 (bt+l.fmod 7 - 3)))) (by simp only [qBB,qAs,pk,qAg,qAn,Option.map_some,qA6,p15,↓reduceIte,qAf,List.getElem?_cons_succ,List.getElem?_cons_zero,Option.join_some,Option.bind_some,pkR,qAd,d7,qAK,qAY,qAA,qIa,qH9]) ?_
  exact qAq (r:=(false,side (_,_))) (by simp only [qBO,qAF,Bool.and_false,List.set_cons_succ,List.set_cons_zero,qAV,qAC,qCt,qA2,qAf,List.getElem?_cons_succ,List.getElem?_cons_zero,Option.join_some,qBB,qAs,pk,qAg,qAn,Option.map_some,qA6,p15,↓reduceIte,Option.bind_some,pkR,qAj,d7,qAd,d9,qAK,qAY,qAA,qIa,qH9,qAr,List.length_cons,List.length_nil,Nat.reduceAdd,l2];rfl) rfl
end
end Dw.T
namespace Dw.T
open Dw
inductive At where
 | any|meets (f:Nat->P2)|inside (f:Nat->P2)|holds (f:Nat->P2)|near (f:Nat->P2) (r:Int)|marked (k:Nat)|touched (k:Nat)|crosses (f:Nat->P2) (a b:Int)|worthy (w:Int)
noncomputable def tx (x:String):D:=.str (PySem.Str.ofString x)
noncomputable def atD (m:Nat):At->D
 | .any=>.tup [tx "anything"]
 | .meets f=>.tup [tx "meets",qBc m f]
 | .inside f=>.tup [tx "inside",qBc m f]
 | .holds f=>.tup [tx "holds",qBc m f]
 | .near f r=>.tup [tx "near",qBc m f,.int r]
 | .marked k=>.tup [tx "marked",.int (k:Int)]
 | .touched k=>.tup [tx "touched",.int (k:Int)]
 | .crosses f a b=>.tup [tx "crosses",qBc m f,.int a,.int b]
 | .worthy w=>.tup [tx "worthy",.int w]
noncomputable def BdA (q:P2):Prop:=(-(10^32)<=q.1/\q.1<=10^32)/\(-(10^32)<=q.2/\q.2<=10^32)
theorem Bd2.a {q:P2}(h:Bd2 q):BdA q:=by unfold Bd2 at h;unfold BdA;omega
noncomputable def AtOk:At->Prop
 | .any=>True
 | .meets f=>∀j,BdA (f j)
 | .inside f=>∀j,BdA (f j)
 | .holds f=>∀j,BdA (f j)
 | .near f r=>(∀j,BdA (f j))/\0<=r/\r<=10^62
 | .marked k=>k<65536
 | .touched k=>k<65536
 | .crosses f a b=>(∀j,BdA (f j))/\(0<=a/\a<=10^15)/\(0<=b/\b<=10^15)
 | .worthy w=>-(10^30)<=w/\w<=10^30
noncomputable def kn (c:Nat) (l:List String):Kn:=⟨c,l.map PySem.Str.ofString⟩
noncomputable def waO (m:Nat):At->Kn×List D
 | .any=>(⟨285,[]⟩,[])
 | .meets f=>(⟨325,[PySem.Str.ofString "box"]⟩,[qBc m f])
 | .inside f=>(⟨365,[PySem.Str.ofString "box"]⟩,[qBc m f])
 | .holds f=>(⟨405,[PySem.Str.ofString "box"]⟩,[qBc m f])
 | .near f r=>(⟨445,[PySem.Str.ofString "box",PySem.Str.ofString "far"]⟩,[qBc m f,.int r])
 | .marked k=>(⟨485,[PySem.Str.ofString "marks"]⟩,[.int (k:Int)])
 | .touched k=>(⟨525,[PySem.Str.ofString "marks"]⟩,[.int (k:Int)])
 | .crosses f a b=>(⟨565,[PySem.Str.ofString "box",PySem.Str.ofString "first",PySem.Str.ofString "last"]⟩,[qBc m f,.int a,.int b])
 | .worthy w=>(⟨605,[PySem.Str.ofString "least"]⟩,[.int w])
theorem sq9 {x:Int}(h:0<=x/\x<9):0<=x^(2:Int).toNat/\x^(2:Int).toNat<=10^62:=by
 have:x=0∨x=1∨x=2∨x=3∨x=4∨x=5∨x=6∨x=7∨x=8:=by omega
 rcases this with rfl|rfl|rfl|rfl|rfl|rfl|rfl|rfl|rfl<;>decide
section
variable {call:Nat->List D->Option R}
theorem qMk (m:Nat) (a:At):qAp call [some (false,atD m a)] f_law_want.body=some (.rt (false,.obj (waO m a).1 (waO m a).2)):=by
 cases a with
 | any =>
  refine qAc (x:=false) rfl (qAc (x:=false) rfl (qAc (x:=false) rfl (qAc (x:=false) rfl (qAc (x:=false) rfl (qAc (x:=false) rfl (qAc (x:=false) rfl (qAc (x:=false) rfl ?_)))))))
  exact qAq (r:=(false,.obj _ [])) rfl rfl
 | meets f=>exact qBz (x:=false) rfl (qAq (r:=(false,.obj _ [qBc m f])) rfl rfl) rfl
 | inside f =>
  refine qAc (x:=false) rfl ?_
  exact qBz (x:=false) rfl (qAq (r:=(false,.obj _ [qBc m f])) rfl rfl) rfl
 | holds f =>
  refine qAc (x:=false) rfl (qAc (x:=false) rfl ?_)
  exact qBz (x:=false) rfl (qAq (r:=(false,.obj _ [qBc m f])) rfl rfl) rfl
 | near f r =>
  refine qAc (x:=false) rfl (qAc (x:=false) rfl (qAc (x:=false) rfl ?_))
  exact qBz (x:=false) rfl (qAq (r:=(false,.obj _ [qBc m f,.int r])) rfl rfl) rfl
 | marked k =>
  refine qAc (x:=false) rfl (qAc (x:=false) rfl (qAc (x:=false) rfl (qAc (x:=false) rfl ?_)))
  exact qBz (x:=false) rfl (qAq (r:=(false,.obj _ [.int (k:Int)])) rfl rfl) rfl
 | touched k =>
  refine qAc (x:=false) rfl (qAc (x:=false) rfl (qAc (x:=false) rfl (qAc (x:=false) rfl (qAc (x:=false) rfl ?_))))
  exact qBz (x:=false) rfl (qAq (r:=(false,.obj _ [.int (k:Int)])) rfl rfl) rfl
 | crosses f a b =>
  refine qAc (x:=false) rfl (qAc (x:=false) rfl (qAc (x:=false) rfl (qAc (x:=false) rfl (qAc (x:=false) rfl (qAc (x:=false) rfl ?_)))))
  exact qBz (x:=false) rfl (qAq (r:=(false,.obj _ [qBc m f,.int a,.int b])) rfl rfl) rfl
 | worthy w =>
  refine qAc (x:=false) rfl (qAc (x:=false) rfl (qAc (x:=false) rfl (qAc (x:=false) rfl (qAc (x:=false) rfl (qAc (x:=false) rfl (qAc (x:=false) rfl ?_))))))
  exact qBz (x:=false) rfl (qAq (r:=(false,.obj _ [.int w])) rfl rfl) rfl
theorem qMr (c:Int) (s:Sc) (ok:ScOk s) (C21:call 32 [.int c]=some (false,.int (qBM c))) (C22:∀l:Int,0<=l->l<prm->call 33 [.int l]=some (false,.int (qBQ l)))
  (C25:∃f:Nat->P2,(∀j,Bd2 (f j))/\call 36 [.int c,scD s]=some (false,qBc s.m f)) (C26:∀l:Int,∃k:Nat,k<65536/\call 37 [.int l]=some (false,.int (k:Int)))
  (C27:∀l bt:Int,(0<=bt/\bt<=10^15)->∃a b:Int,(0<=a/\a<=10^15)/\(0<=b/\b<=10^15)/\call 38 [.int l,.int bt]=some (false,side (a,b))) :
  ∃a:At,AtOk a/\qAp call [some (false,.int c),some (false,scD s),none,none,none,none,none] f_law_atom_by.body=some (.rt (false,atD s.m a)):=by
 obtain⟨f,hf,C25⟩:=C25
 have b1:=qEN c
 have n1:=C22 _ b1.1 b1.2
 have d9:qAU 9=true:=by decide
 have d3:qAU 3=true:=by decide
 have d60:qAU 60=true:=by decide
 have d11:qAU 11=true:=by decide
 have p62:qCu 10 62=true:=by decide
 have dP:qAU (10^(62:Int).toNat+1)=true:=by decide
 have l2:2<=lim:=qAW (by decide)
 have l1:1<=lim:=qAW (by decide)
 have l3:3<=lim:=qAW (by decide)
 have l4:4<=lim:=qAW (by decide)
 generalize hl0:qBQ (qBM c)=l0 at n1
 have bw:=qA4 l0 9 (by decide)
 generalize hw:l0.fmod 9=w at bw
 generalize hl:l0.fdiv 9=l
 obtain⟨a,ha,ea⟩:∃a:At,AtOk a/\qAp call [some (false,.int c),some (false,scD s),some (false,.int l),some (false,qBc s.m f),some (false,.int w),none,none] [.ite (.cmp .eq (.v 4) (.k (.int 0))) [.ret (.tup [(.k (.str (PySem.Str.ofString "anything")))])] [],.ite (.cmp .eq (.v 4) (.k (.int 1))) [.ret (.tup [(.k (.str (PySem.Str.ofString "meets"))),(.v 3)])] [],.ite (.cmp .eq (.v 4) (.k (.int 2))) [.ret (.tup [(.k (.str (PySem.Str.ofString "inside"))),(.v 3)])] [],.ite (.cmp .eq (.v 4) (.k (.int 3))) [.ret (.tup [(.k (.str (PySem.Str.ofString "holds"))),(.bi .tuple [(.compS (.tup [(.ix (.v 0) (.k (.int 0))),(.bin .add (.ix (.v 0) (.k (.int 0))) (.bin .mod (.v 1) (.k (.int 3))))]) 1 [2] (.one 0) (.v 3))])])] [],.ite (.cmp .eq (.v 4) (.k (.int 4))) [.set 5 false (.bin .mod (.bin .fdiv (.v 2) (.k (.int 3))) (.k (.int 60))),.ite (.cmp .eq (.bin .mod (.v 2) (.k (.int 3))) (.k (.int 1))) [.set 5 false (.bin .pow (.bin .mod (.bin .fdiv (.v 2) (.k (.int 3))) (.k (.int 9))) (.k (.int 2)))] [],.ite (.cmp .eq (.bin .mod (.v 2) (.k (.int 3))) (.k (.int 2))) [.set 5 false (.bin .mod (.v 0) (.bin .add (.bin .pow (.k (.int 10)) (.k (.int 62))) (.k (.int 1))))] [],.ret (.tup [(.k (.str (PySem.Str.ofString "near"))),(.v 3),(.v 5)])] [],.ite (.cmp .eq (.v 4) (.k (.int 5))) [.ret (.tup [(.k (.str (PySem.Str.ofString "marked"))),(.call 37 [(.v 2)])])] [],.ite (.cmp .eq (.v 4) (.k (.int 6))) [.ret (.tup [(.k (.str (PySem.Str.ofString "touched"))),(.call 37 [(.v 2)])])] [],.ite (.cmp .eq (.v 4) (.k (.int 7))) [.set 6 false (.call 38 [(.v 2),(.ix (.v 1) (.k (.int 4)))]),.ret (.tup [(.k (.str (PySem.Str.ofString "crosses"))),(.v 3),(.ix (.v 6) (.k (.int 0))),(.ix (.v 6) (.k (.int 1)))])] [],.ret (.tup [(.k (.str (PySem.Str.ofString "worthy"))),(.bin .sub (.bin .add (.ix (.ix (.v 1) (.k (.int 1))) (.k (.int 0))) (.bin .mod (.v 2) (.k (.int 11)))) (.k (.int 5)))])]=some (.rt (false,atD s.m a)):=by
  by_cases w0:w=0
  ·exact⟨.any,trivial,qBz (x:=false) (r:=(false,atD s.m .any)) (by simp only [w0,qAh,pk,qAf,List.getElem?_cons_succ,List.getElem?_cons_zero,Option.join_some,Option.bind_some,pkR,qAn,Option.map_some,qAe,eqZ];rfl) (qAq (r:=(false,atD s.m .any)) (by simp only [qBO,qAV,qAC,qAn,qAr,List.length_cons,List.length_nil,Nat.reduceAdd,l1,↓reduceIte];rfl) rfl) rfl⟩
  by_cases w1:w=1
  ·refine⟨.meets f,λj=>(hf j).a,?_⟩
   refine qAc (x:=false) (by simp only [qAh,pk,qAf,List.getElem?_cons_succ,List.getElem?_cons_zero,Option.join_some,Option.bind_some,pkR,qAn,Option.map_some,qAe,eqZ,w0];simp) ?_
   exact qBz (x:=false) (r:=(false,atD s.m (.meets f))) (by simp only [w1,qAh,pk,qAf,List.getElem?_cons_succ,List.getElem?_cons_zero,Option.join_some,Option.bind_some,pkR,qAn,Option.map_some,qAe,eqZ];rfl) (qAq (r:=(false,atD s.m (.meets f))) (by simp only [qBO,qAV,qAC,qAn,qCt,qA2,qAf,List.getElem?_cons_succ,List.getElem?_cons_zero,Option.join_some,qAr,List.length_cons,List.length_nil,Nat.reduceAdd,l2,↓reduceIte];rfl) rfl) rfl
  by_cases w2:w=2
  ·refine⟨.inside f,λj=>(hf j).a,?_⟩
   refine qAc (x:=false) (by simp only [qAh,pk,qAf,List.getElem?_cons_succ,List.getElem?_cons_zero,Option.join_some,Option.bind_some,pkR,qAn,Option.map_some,qAe,eqZ,w0];simp) ?_
   refine qAc (x:=false) (by simp only [qAh,pk,qAf,List.getElem?_cons_succ,List.getElem?_cons_zero,Option.join_some,Option.bind_some,pkR,qAn,Option.map_some,qAe,eqZ,w1];simp) ?_
   exact qBz (x:=false) (r:=(false,atD s.m (.inside f))) (by simp only [w2,qAh,pk,qAf,List.getElem?_cons_succ,List.getElem?_cons_zero,Option.join_some,Option.bind_some,pkR,qAn,Option.map_some,qAe,eqZ];rfl) (qAq (r:=(false,atD s.m (.inside f))) (by simp only [qBO,qAV,qAC,qAn,qCt,qA2,qAf,List.getElem?_cons_succ,List.getElem?_cons_zero,Option.join_some,qAr,List.length_cons,List.length_nil,Nat.reduceAdd,l2,↓reduceIte];rfl) rfl) rfl
  by_cases w3:w=3
  ·have b3:=qA4 l 3 (by decide)
   refine⟨.holds λj=>((f j).1,(f j).1+l.fmod 3),λj=>?_,?_⟩
   ·have:=hf j
    unfold Bd2 at this
    show (-(10^32)<=(f j).1/\(f j).1<=10^32)/\(-(10^32)<=(f j).1+l.fmod 3/\(f j).1+l.fmod 3<=10^32)
    omega
   refine qAc (x:=false) (by simp only [qAh,pk,qAf,List.getElem?_cons_succ,List.getElem?_cons_zero,Option.join_some,Option.bind_some,pkR,qAn,Option.map_some,qAe,eqZ,w0];simp) ?_
   refine qAc (x:=false) (by simp only [qAh,pk,qAf,List.getElem?_cons_succ,List.getElem?_cons_zero,Option.join_some,Option.bind_some,pkR,qAn,Option.map_some,qAe,eqZ,w1];simp) ?_
   refine qAc (x:=false) (by simp only [qAh,pk,qAf,List.getElem?_cons_succ,List.getElem?_cons_zero,Option.join_some,Option.bind_some,pkR,qAn,Option.map_some,qAe,eqZ,w2];simp) ?_
   have hc:=qC3 (call:=call) (σ:=[some (false,.int c),some (false,scD s),some (false,.int l),some (false,qBc s.m f),some (false,.int w),none,none]) (e:=(.tup [(.ix (.v 0) (.k (.int 0))),(.bin .add (.ix (.v 0) (.k (.int 0))) (.bin .mod (.v 1) (.k (.int 3))))])) (nl:=1) (ks:=[2]) (tg:=.one 0) (src:=.v 3) (r:=(false,qBc s.m f)) rfl (qDx s.m f) rfl
    (qJs (λj=>side (f j)) (λj=>side ((f j).1,(f j).1+l.fmod 3)) λj hj=>⟨false,by simp only [List.replicate_zero,qAf,List.map_cons,List.getElem?_cons_succ,List.getElem?_cons_zero,Option.join_some,List.map_nil,qAV,qAC,qAX,pk,Option.bind_some,pkR,qAn,Option.map_some,qHd,qAg,qAr];rfl⟩)
   have hb:evE call [some (false,.int c),some (false,scD s),some (false,.int l),some (false,qBc s.m f),some (false,.int w),none,none] (.bi .tuple [(.compS (.tup [(.ix (.v 0) (.k (.int 0))),(.bin .add (.ix (.v 0) (.k (.int 0))) (.bin .mod (.v 1) (.k (.int 3))))]) 1 [2] (.one 0) (.v 3))])=some (false,qBc s.m λj=>((f j).1,(f j).1+l.fmod 3)):=qNR (qDC hc) rfl
   refine qBz (x:=false) (r:=(false,atD s.m (.holds λj=>((f j).1,(f j).1+l.fmod 3)))) (by simp only [w3,qAh,pk,qAf,List.getElem?_cons_succ,List.getElem?_cons_zero,Option.join_some,Option.bind_some,pkR,qAn,Option.map_some,qAe,eqZ];rfl) (qAq (r:=(false,atD s.m (.holds λj=>((f j).1,(f j).1+l.fmod 3)))) ?_ rfl) rfl
   show evE call _ (.tup [_,_])=_
   rw [qAV,qAC,qAn,qAC,hb]
   simp only [qAr,List.length_cons,List.length_nil,Nat.reduceAdd,l2,↓reduceIte]
   rfl
  by_cases w4:w=4
  ·have key:∀r:Int,qAp call [some (false,.int c),some (false,scD s),some (false,.int l),some (false,qBc s.m f),some (false,.int w),some (false,.int r),none] [.ret (.tup [(.k (.str (PySem.Str.ofString "near"))),(.v 3),(.v 5)])]=some (.rt (false,atD s.m (.near f r))):=λr=>qAq (r:=(false,atD s.m (.near f r))) (by simp only [qBO,qAV,qAC,qAn,qCt,qA2,qAf,List.getElem?_cons_succ,List.getElem?_cons_zero,Option.join_some,qAr,List.length_cons,List.length_nil,Nat.reduceAdd,l3,↓reduceIte];rfl) rfl
   have pre:∀z,qAp call [some (false,.int c),some (false,scD s),some (false,.int l),some (false,qBc s.m f),some (false,.int w),none,none] [.set 5 false (.bin .mod (.bin .fdiv (.v 2) (.k (.int 3))) (.k (.int 60))),.ite (.cmp .eq (.bin .mod (.v 2) (.k (.int 3))) (.k (.int 1))) [.set 5 false (.bin .pow (.bin .mod (.bin .fdiv (.v 2) (.k (.int 3))) (.k (.int 9))) (.k (.int 2)))] [],.ite (.cmp .eq (.bin .mod (.v 2) (.k (.int 3))) (.k (.int 2))) [.set 5 false (.bin .mod (.v 0) (.bin .add (.bin .pow (.k (.int 10)) (.k (.int 62))) (.k (.int 1))))] [],.ret (.tup [(.k (.str (PySem.Str.ofString "near"))),(.v 3),(.v 5)])]=some (.rt z)->qAp call [some (false,.int c),some (false,scD s),some (false,.int l),some (false,qBc s.m f),some (false,.int w),none,none] [.ite (.cmp .eq (.v 4) (.k (.int 0))) [.ret (.tup [(.k (.str (PySem.Str.ofString "anything")))])] [],.ite (.cmp .eq (.v 4) (.k (.int 1))) [.ret (.tup [(.k (.str (PySem.Str.ofString "meets"))),(.v 3)])] [],.ite (.cmp .eq (.v 4) (.k (.int 2))) [.ret (.tup [(.k (.str (PySem.Str.ofString "inside"))),(.v 3)])] [],.ite (.cmp .eq (.v 4) (.k (.int 3))) [.ret (.tup [(.k (.str (PySem.Str.ofString "holds"))),(.bi .tuple [(.compS (.tup [(.ix (.v 0) (.k (.int 0))),(.bin .add (.ix (.v 0) (.k (.int 0))) (.bin .mod (.v 1) (.k (.int 3))))]) 1 [2] (.one 0) (.v 3))])])] [],.ite (.cmp .eq (.v 4) (.k (.int 4))) [.set 5 false (.bin .mod (.bin .fdiv (.v 2) (.k (.int 3))) (.k (.int 60))),.ite (.cmp .eq (.bin .mod (.v 2) (.k (.int 3))) (.k (.int 1))) [.set 5 false (.bin .pow (.bin .mod (.bin .fdiv (.v 2) (.k (.int 3))) (.k (.int 9))) (.k (.int 2)))] [],.ite (.cmp .eq (.bin .mod (.v 2) (.k (.int 3))) (.k (.int 2))) [.set 5 false (.bin .mod (.v 0) (.bin .add (.bin .pow (.k (.int 10)) (.k (.int 62))) (.k (.int 1))))] [],.ret (.tup [(.k (.str (PySem.Str.ofString "near"))),(.v 3),(.v 5)])] [],.ite (.cmp .eq (.v 4) (.k (.int 5))) [.ret (.tup [(.k (.str (PySem.Str.ofString "marked"))),(.call 37 [(.v 2)])])] [],.ite (.cmp .eq (.v 4) (.k (.int 6))) [.ret (.tup [(.k (.str (PySem.Str.ofString "touched"))),(.call 37 [(.v 2)])])] [],.ite (.cmp .eq (.v 4) (.k (.int 7))) [.set 6 false (.call 38 [(.v 2),(.ix (.v 1) (.k (.int 4)))]),.ret (.tup [(.k (.str (PySem.Str.ofString "crosses"))),(.v 3),(.ix (.v 6) (.k (.int 0))),(.ix (.v 6) (.k (.int 1)))])] [],.ret (.tup [(.k (.str (PySem.Str.ofString "worthy"))),(.bin .sub (.bin .add (.ix (.ix (.v 1) (.k (.int 1))) (.k (.int 0))) (.bin .mod (.v 2) (.k (.int 11)))) (.k (.int 5)))])]=some (.rt z):=λz hz=>by
    refine qAc (x:=false) (by simp only [qAh,pk,qAf,List.getElem?_cons_succ,List.getElem?_cons_zero,Option.join_some,Option.bind_some,pkR,qAn,Option.map_some,qAe,eqZ,w0];simp) ?_
    refine qAc (x:=false) (by simp only [qAh,pk,qAf,List.getElem?_cons_succ,List.getElem?_cons_zero,Option.join_some,Option.bind_some,pkR,qAn,Option.map_some,qAe,eqZ,w1];simp) ?_
    refine qAc (x:=false) (by simp only [qAh,pk,qAf,List.getElem?_cons_succ,List.getElem?_cons_zero,Option.join_some,Option.bind_some,pkR,qAn,Option.map_some,qAe,eqZ,w2];simp) ?_
    refine qAc (x:=false) (by simp only [qAh,pk,qAf,List.getElem?_cons_succ,List.getElem?_cons_zero,Option.join_some,Option.bind_some,pkR,qAn,Option.map_some,qAe,eqZ,w3];simp) ?_
    exact qBz (x:=false) (by simp only [w4,qAh,pk,qAf,List.getElem?_cons_succ,List.getElem?_cons_zero,Option.join_some,Option.bind_some,pkR,qAn,Option.map_some,qAe,eqZ];rfl) hz rfl
   have b9:=qA4 (l.fdiv 3) 9 (by decide)
   have p2:qCu ((l.fdiv 3).fmod 9) 2=true:=decide_eq_true ⟨by omega,by decide,by decide⟩
   by_cases r1:l.fmod 3=1
   ·refine⟨.near f (((l.fdiv 3).fmod 9)^(2:Int).toNat),⟨λj=>(hf j).a,sq9 b9⟩,pre _ ?_⟩
    refine qAi (false,.int ((l.fdiv 3).fmod 60)) (by simp only [qAg,pk,qAf,List.getElem?_cons_succ,List.getElem?_cons_zero,Option.join_some,Option.bind_some,pkR,qAn,Option.map_some,qAj,d3,↓reduceIte,qAd,d60]) ?_
    refine qEP (x:=false) (by simp only [qAF,Bool.and_false,List.set_cons_succ,List.set_cons_zero,qAh,pk,qAg,qAf,List.getElem?_cons_succ,List.getElem?_cons_zero,Option.join_some,Option.bind_some,pkR,qAn,Option.map_some,qAd,d3,↓reduceIte,r1,qAe,eqZ];rfl) (qAi (false,.int (((l.fdiv 3).fmod 9)^(2:Int).toNat)) (by simp only [qAF,Bool.and_false,List.set_cons_succ,List.set_cons_zero,qAg,pk,qAf,List.getElem?_cons_succ,List.getElem?_cons_zero,Option.join_some,Option.bind_some,pkR,qAn,Option.map_some,qAj,d3,↓reduceIte,qAd,d9,qA6,p2]) rfl) ?_
    exact qAc (x:=false) (by simp only [qAF,Bool.and_false,List.set_cons_succ,List.set_cons_zero,qAh,pk,qAg,qAf,List.getElem?_cons_succ,List.getElem?_cons_zero,Option.join_some,Option.bind_some,pkR,qAn,Option.map_some,qAd,d3,↓reduceIte,r1,qAe,eqZ];rfl) (key _)
   ·by_cases r2:l.fmod 3=2
    ·refine⟨.near f (c.fmod (10^(62:Int).toNat+1)),⟨λj=>(hf j).a,by have:=qA4 c (10^62+1) (by decide);show 0<=c.fmod (10^62+1)/\c.fmod (10^62+1)<=10^62;omega⟩,pre _ ?_⟩
     refine qAi (false,.int ((l.fdiv 3).fmod 60)) (by simp only [qAg,pk,qAf,List.getElem?_cons_succ,List.getElem?_cons_zero,Option.join_some,Option.bind_some,pkR,qAn,Option.map_some,qAj,d3,↓reduceIte,qAd,d60]) ?_
     refine qAc (x:=false) (by simp only [qAF,Bool.and_false,List.set_cons_succ,List.set_cons_zero,qAh,pk,qAg,qAf,List.getElem?_cons_succ,List.getElem?_cons_zero,Option.join_some,Option.bind_some,pkR,qAn,Option.map_some,qAd,d3,↓reduceIte,qAe,eqZ,r1];simp) ?_
     exact qEP (x:=false) (by simp only [qAF,Bool.and_false,List.set_cons_succ,List.set_cons_zero,qAh,pk,qAg,qAf,List.getElem?_cons_succ,List.getElem?_cons_zero,Option.join_some,Option.bind_some,pkR,qAn,Option.map_some,qAd,d3,↓reduceIte,r2,qAe,eqZ];rfl) (qAi (false,.int (c.fmod (10^(62:Int).toNat+1))) (by simp only [qAF,Bool.and_false,List.set_cons_succ,List.set_cons_zero,qAg,pk,qAf,List.getElem?_cons_zero,Option.join_some,Option.bind_some,pkR,qAn,Option.map_some,qA6,p62,↓reduceIte,qAK,qAd,dP]) rfl) (key _)
    ·refine⟨.near f ((l.fdiv 3).fmod 60),⟨λj=>(hf j).a,by have:=qA4 (l.fdiv 3) 60 (by decide);omega⟩,pre _ ?_⟩
     refine qAi (false,.int ((l.fdiv 3).fmod 60)) (by simp only [qAg,pk,qAf,List.getElem?_cons_succ,List.getElem?_cons_zero,Option.join_some,Option.bind_some,pkR,qAn,Option.map_some,qAj,d3,↓reduceIte,qAd,d60]) ?_
     refine qAc (x:=false) (by simp only [qAF,Bool.and_false,List.set_cons_succ,List.set_cons_zero,qAh,pk,qAg,qAf,List.getElem?_cons_succ,List.getElem?_cons_zero,Option.join_some,Option.bind_some,pkR,qAn,Option.map_some,qAd,d3,↓reduceIte,qAe,eqZ,r1];simp) ?_
     exact qAc (x:=false) (by simp only [qAF,Bool.and_false,List.set_cons_succ,List.set_cons_zero,qAh,pk,qAg,qAf,List.getElem?_cons_succ,List.getElem?_cons_zero,Option.join_some,Option.bind_some,pkR,qAn,Option.map_some,qAd,d3,↓reduceIte,qAe,eqZ,r2];simp) (key _)
  have pre:∀z,qAp call [some (false,.int c),some (false,scD s),some (false,.int l),some (false,qBc s.m f),some (false,.int w),none,none] [.ite (.cmp .eq (.v 4) (.k (.int 5))) [.ret (.tup [(.k (.str (PySem.Str.ofString "marked"))),(.call 37 [(.v 2)])])] [],.ite (.cmp .eq (.v 4) (.k (.int 6))) [.ret (.tup [(.k (.str (PySem.Str.ofString "touched"))),(.call 37 [(.v 2)])])] [],.ite (.cmp .eq (.v 4) (.k (.int 7))) [.set 6 false (.call 38 [(.v 2),(.ix (.v 1) (.k (.int 4)))]),.ret (.tup [(.k (.str (PySem.Str.ofString "crosses"))),(.v 3),(.ix (.v 6) (.k (.int 0))),(.ix (.v 6) (.k (.int 1)))])] [],.ret (.tup [(.k (.str (PySem.Str.ofString "worthy"))),(.bin .sub (.bin .add (.ix (.ix (.v 1) (.k (.int 1))) (.k (.int 0))) (.bin .mod (.v 2) (.k (.int 11)))) (.k (.int 5)))])]=z->qAp call [some (false,.int c),some (false,scD s),some (false,.int l),some (false,qBc s.m f),some (false,.int w),none,none] [.ite (.cmp .eq (.v 4) (.k (.int 0))) [.ret (.tup [(.k (.str (PySem.Str.ofString "anything")))])] [],.ite (.cmp .eq (.v 4) (.k (.int 1))) [.ret (.tup [(.k (.str (PySem.Str.ofString "meets"))),(.v 3)])] [],.ite (.cmp .eq (.v 4) (.k (.int 2))) [.ret (.tup [(.k (.str (PySem.Str.ofString "inside"))),(.v 3)])] [],.ite (.cmp .eq (.v 4) (.k (.int 3))) [.ret (.tup [(.k (.str (PySem.Str.ofString "holds"))),(.bi .tuple [(.compS (.tup [(.ix (.v 0) (.k (.int 0))),(.bin .add (.ix (.v 0) (.k (.int 0))) (.bin .mod (.v 1) (.k (.int 3))))]) 1 [2] (.one 0) (.v 3))])])] [],.ite (.cmp .eq (.v 4) (.k (.int 4))) [.set 5 false (.bin .mod (.bin .fdiv (.v 2) (.k (.int 3))) (.k (.int 60))),.ite (.cmp .eq (.bin .mod (.v 2) (.k (.int 3))) (.k (.int 1))) [.set 5 false (.bin .pow (.bin .mod (.bin .fdiv (.v 2) (.k (.int 3))) (.k (.int 9))) (.k (.int 2)))] [],.ite (.cmp .eq (.bin .mod (.v 2) (.k (.int 3))) (.k (.int 2))) [.set 5 false (.bin .mod (.v 0) (.bin .add (.bin .pow (.k (.int 10)) (.k (.int 62))) (.k (.int 1))))] [],.ret (.tup [(.k (.str (PySem.Str.ofString "near"))),(.v 3),(.v 5)])] [],.ite (.cmp .eq (.v 4) (.k (.int 5))) [.ret (.tup [(.k (.str (PySem.Str.ofString "marked"))),(.call 37 [(.v 2)])])] [],.ite (.cmp .eq (.v 4) (.k (.int 6))) [.ret (.tup [(.k (.str (PySem.Str.ofString "touched"))),(.call 37 [(.v 2)])])] [],.ite (.cmp .eq (.v 4) (.k (.int 7))) [.set 6 false (.call 38 [(.v 2),(.ix (.v 1) (.k (.int 4)))]),.ret (.tup [(.k (.str (PySem.Str.ofString "crosses"))),(.v 3),(.ix (.v 6) (.k (.int 0))),(.ix (.v 6) (.k (.int 1)))])] [],.ret (.tup [(.k (.str (PySem.Str.ofString "worthy"))),(.bin .sub (.bin .add (.ix (.ix (.v 1) (.k (.int 1))) (.k (.int 0))) (.bin .mod (.v 2) (.k (.int 11)))) (.k (.int 5)))])]=z:=λz hz=>by
   refine qAc (x:=false) (by simp only [qAh,pk,qAf,List.getElem?_cons_succ,List.getElem?_cons_zero,Option.join_some,Option.bind_some,pkR,qAn,Option.map_some,qAe,eqZ,w0];simp) ?_
   refine qAc (x:=false) (by simp only [qAh,pk,qAf,List.getElem?_cons_succ,List.getElem?_cons_zero,Option.join_some,Option.bind_some,pkR,qAn,Option.map_some,qAe,eqZ,w1];simp) ?_
   refine qAc (x:=false) (by simp only [qAh,pk,qAf,List.getElem?_cons_succ,List.getElem?_cons_zero,Option.join_some,Option.bind_some,pkR,qAn,Option.map_some,qAe,eqZ,w2];simp) ?_
   refine qAc (x:=false) (by simp only [qAh,pk,qAf,List.getElem?_cons_succ,List.getElem?_cons_zero,Option.join_some,Option.bind_some,pkR,qAn,Option.map_some,qAe,eqZ,w3];simp) ?_
   exact qAc (x:=false) (by simp only [qAh,pk,qAf,List.getElem?_cons_succ,List.getElem?_cons_zero,Option.join_some,Option.bind_some,pkR,qAn,Option.map_some,qAe,eqZ,w4];simp) hz
  obtain⟨k,hk0,hk⟩:=C26 l
  by_cases w5:w=5
  ·exact⟨.marked k,hk0,pre _ (qBz (x:=false) (r:=(false,atD s.m (.marked k))) (by simp only [w5,qAh,pk,qAf,List.getElem?_cons_succ,List.getElem?_cons_zero,Option.join_some,Option.bind_some,pkR,qAn,Option.map_some,qAe,eqZ];rfl) (qAq (r:=(false,atD s.m (.marked k))) (by simp only [qBO,qAV,qAC,qAn,qAw,qAv,ag,qAf,List.getElem?_cons_succ,List.getElem?_cons_zero,Option.join_some,Option.bind_some,agR,qAz,hk,qAr,List.length_cons,List.length_nil,Nat.reduceAdd,l2,↓reduceIte];rfl) rfl) rfl)⟩
  by_cases w6:w=6
  ·exact⟨.touched k,hk0,pre _ (qAc (x:=false) (by simp only [qAh,pk,qAf,List.getElem?_cons_succ,List.getElem?_cons_zero,Option.join_some,Option.bind_some,pkR,qAn,Option.map_some,qAe,eqZ,w5];simp) (qBz (x:=false) (r:=(false,atD s.m (.touched k))) (by simp only [w6,qAh,pk,qAf,List.getElem?_cons_succ,List.getElem?_cons_zero,Option.join_some,Option.bind_some,pkR,qAn,Option.map_some,qAe,eqZ];rfl) (qAq (r:=(false,atD s.m (.touched k))) (by simp only [qBO,qAV,qAC,qAn,qAw,qAv,ag,qAf,List.getElem?_cons_succ,List.getElem?_cons_zero,Option.join_some,Option.bind_some,agR,qAz,hk,qAr,List.length_cons,List.length_nil,Nat.reduceAdd,l2,↓reduceIte];rfl) rfl) rfl))⟩
  by_cases w7:w=7
  ·obtain⟨a,b,ha,hb,hc⟩:=C27 l s.bt ok.bt
   refine⟨.crosses f a b,⟨λj=>(hf j).a,ha,hb⟩,pre _ (qAc (x:=false) (by simp only [qAh,pk,qAf,List.getElem?_cons_succ,List.getElem?_cons_zero,Option.join_some,Option.bind_some,pkR,qAn,Option.map_some,qAe,eqZ,w5];simp) (qAc (x:=false) (by simp only [qAh,pk,qAf,List.getElem?_cons_succ,List.getElem?_cons_zero,Option.join_some,Option.bind_some,pkR,qAn,Option.map_some,qAe,eqZ,w6];simp) (qBz (x:=false) (r:=(false,atD s.m (.crosses f a b))) (by simp only [w7,qAh,pk,qAf,List.getElem?_cons_succ,List.getElem?_cons_zero,Option.join_some,Option.bind_some,pkR,qAn,Option.map_some,qAe,eqZ];rfl) ?_ rfl)))⟩
   refine qAi (false,side (a,b)) (by simp only [qAw,qAv,ag,qAf,List.getElem?_cons_succ,List.getElem?_cons_zero,Option.join_some,Option.bind_some,agR,qAX,pk,pkR,qAn,Option.map_some,sc4,qAz,hc]) ?_
   exact qAq (r:=(false,atD s.m (.crosses f a b))) (by simp only [qBO,qAF,Bool.and_false,List.set_cons_succ,List.set_cons_zero,qAV,qAC,qAn,qCt,qA2,qAf,List.getElem?_cons_succ,List.getElem?_cons_zero,Option.join_some,qAX,pk,Option.bind_some,pkR,Option.map_some,qHd,qJ7,qAr,List.length_cons,List.length_nil,Nat.reduceAdd,l4,↓reduceIte];rfl) rfl
  ·have g0:ixP (.lst (bx s.m λj=>.int (s.pl j))) (.int 0)=some (false,.int (s.pl 0)):=qCT (j:=0) (λj=>.int (s.pl j)) (by have:=ok.m;omega)
   refine⟨.worthy (s.pl 0+l.fmod 11 - 5),(by have:=ok.pl 0;have:=qA4 l 11 (by decide);show -(10^30)<=s.pl 0+l.fmod 11 - 5/\s.pl 0+l.fmod 11 - 5<=10^30;omega),pre _ (qAc (x:=false) (by simp only [qAh,pk,qAf,List.getElem?_cons_succ,List.getElem?_cons_zero,Option.join_some,Option.bind_some,pkR,qAn,Option.map_some,qAe,eqZ,w5];simp) (qAc (x:=false) (by simp only [qAh,pk,qAf,List.getElem?_cons_succ,List.getElem?_cons_zero,Option.join_some,Option.bind_some,pkR,qAn,Option.map_some,qAe,eqZ,w6];simp) (qAc (x:=false) (by simp only [qAh,pk,qAf,List.getElem?_cons_succ,List.getElem?_cons_zero,Option.join_some,Option.bind_some,pkR,qAn,Option.map_some,qAe,eqZ,w7];simp) ?_)))⟩
   exact qAq (r:=(false,atD s.m (.worthy (s.pl 0+l.fmod 11 - 5)))) (by simp only [qBO,qAV,qAC,qAn,qAg,pk,qAX,qAf,List.getElem?_cons_succ,List.getElem?_cons_zero,Option.join_some,Option.bind_some,pkR,Option.map_some,sc1,g0,qAd,d11,↓reduceIte,qAK,qAY,qAr,List.length_cons,List.length_nil,Nat.reduceAdd,l2];rfl) rfl
 refine⟨a,ha,?_⟩
 refine qAi (false,.int l0) (by simp only [qAw,qAv,ag,qAf,List.getElem?_cons_zero,Option.join_some,Option.bind_some,agR,qAz,C21,Option.map_some,n1]) ?_
 refine qAi (false,qBc s.m f) (by simp only [qAF,Bool.and_false,List.set_cons_succ,List.set_cons_zero,qAw,qAv,ag,qAf,List.getElem?_cons_zero,Option.join_some,Option.bind_some,agR,List.getElem?_cons_succ,qAz,C25]) ?_
 refine qAi (false,.int w) (by simp only [qAF,Bool.and_false,List.set_cons_succ,List.set_cons_zero,qAg,pk,qAf,List.getElem?_cons_succ,List.getElem?_cons_zero,Option.join_some,Option.bind_some,pkR,qAn,Option.map_some,qAd,d9,↓reduceIte,hw]) ?_
 exact qAi (false,.int l) (by simp only [qAF,Bool.and_false,List.set_cons_succ,List.set_cons_zero,qAg,pk,qAf,List.getElem?_cons_succ,List.getElem?_cons_zero,Option.join_some,Option.bind_some,pkR,qAn,Option.map_some,qAj,d9,↓reduceIte,hl]) ea
end
end Dw.T
namespace Dw.T
open Dw PySem
theorem qAD (a b:Str):(a++b).length=a.length+b.length:=by
 show (a.cps++b.cps).size=a.cps.size+b.cps.size
 exact Array.size_append
theorem qLM (a:Str):Str.empty++a=a:=by
 show (⟨#[]++a.cps⟩:Str)=a
 rw [Array.empty_append]
theorem qAE {i:Int}(h:i.natAbs<2^240):(qBo i).length<=100:=by
 unfold qBo
 rw [ofString_length]
 have:=int_text_length_le10 (a:=i) (k:=73) (by decide) (Nat.lt_trans h (by decide))
 omega
theorem qDg {α:Type}(f:α->Str):∀l:List α,qBk (l.map λx=>.str (f x))=some (l.map f)
 | []=>rfl
 | x::r=>by simp [qDg f r]
theorem qJQ (s B:Nat):∀(ts:List Str) (a:Nat),(∀t∈ts,t.length<=B)->ts.foldl (λn t=>n+t.length+s) a<=a+ts.length * (B+s)
 | [],a,_=>by simp
 | t::r,a,h=>by
  have h1:=h t List.mem_cons_self
  have h2:=qJQ s B r (a+t.length+s) λy hy=>h y (List.mem_cons_of_mem _ hy)
  simp only [List.foldl_cons,List.length_cons]
  rw [Nat.add_mul,Nat.one_mul]
  omega
theorem qHn (sep:Str) (B:Nat):∀(ts:List Str) (a:Array Nat),(∀t∈ts,t.length<=B)->(ts.foldl (λacc p=>acc++sep.cps++p.cps) a).size<=a.size+ts.length * (B+sep.length)
 | [],a,_=>by simp
 | t::r,a,h=>by
  have h1:t.cps.size<=B:=h t List.mem_cons_self
  have h2:=qHn sep B r (a++sep.cps++t.cps) λy hy=>h y (List.mem_cons_of_mem _ hy)
  simp only [List.foldl_cons,List.length_cons]
  rw [Array.size_append,Array.size_append] at h2
  have:sep.length=sep.cps.size:=rfl
  rw [Nat.add_mul,Nat.one_mul]
  omega
theorem qFs {sep:Str}{ts:List Str}{B N:Nat}(hs:sep.length<=1) (hn:ts.length<=N) (h:∀t∈ts,t.length<=B):(qCv sep ts).length<=(N+1) * (B+1):=by
 have h1:=qHn sep B (ts.drop 1) (ts.headD Str.empty).cps λt ht=>h t (List.mem_of_mem_drop ht)
 have h2:(ts.headD Str.empty).cps.size<=B:=by
  cases ts with
  | nil=>exact Nat.zero_le _
  | cons t r=>exact h t List.mem_cons_self
 have h3:(ts.drop 1).length * (B+sep.length)<=N * (B+1):=Nat.mul_le_mul (by rw [List.length_drop];omega) (by omega)
 show (qCv sep ts).cps.size<=_
 unfold qCv
 simp only
 rw [Nat.add_mul,Nat.one_mul]
 omega
theorem qLt {sep:Str}{ts:List Str}{B N:Nat}(hs:sep.length<=1) (hn:ts.length<=N) (h:∀t∈ts,t.length<=B) (hl:(N+1) * (B+1)<=16777216):qDk sep ts=true:=by
 have h1:=qJQ sep.length B ts 0 h
 have h2:=qFs hs hn h
 have h3:ts.length * (B+sep.length)<=N * (B+1):=Nat.mul_le_mul hn (by omega)
 rw [Nat.add_mul,Nat.one_mul] at hl h2
 have l:lim=16777216:=rfl
 unfold qDk
 refine decide_eq_true ⟨?_,by omega⟩
 rw [<-Array.foldl_toList]
 show ts.foldl _ 0<=lim
 omega
section
variable {call:Nat->List D->Option R}{σ:En}
theorem qHN {a b:C}{x y:D}{r:Option R}(ha:pk σ a (evE call σ a)=some x) (hb:pk σ b (evE call σ b)=some y) (h:qLv x y=r):evE call σ (.join a b)=r:=by
 rw [qFy,ha,hb];exact h
theorem qDJ {α:Type}{sep:Str}(f:α->Str) (l:List α) {B N:Nat}(hs:sep.length<=1) (hn:l.length<=N) (h:∀x∈l,(f x).length<=B) (hl:(N+1) * (B+1)<=16777216):qLv (.str sep) (.lst (l.map λx=>.str (f x)))=some (false,.str (qCv sep (l.map f))):=by
 rw [qLu,qDg]
 show (if qDk sep (l.map f) then _ else _)=_
 rw [if_pos (qLt hs (by simpa using hn) (λt ht=>by
  obtain⟨x,hx,rfl⟩:=List.mem_map.mp ht
  exact h x hx) hl)]
end
noncomputable abbrev s_ (x:String):Str:=Str.ofString x
noncomputable def qDw (p:P2):Str:=qBo p.1++s_ ".."++qBo p.2
noncomputable def qBq (m:Nat) (f:Nat->P2):Str:=qCv (s_ ",") ((List.range m).map λj=>qDw (f j))
theorem qAk (x:String):(s_ x).length=x.length:=ofString_length x
theorem BdA.w {p:P2}(h:BdA p):p.1.natAbs<2^240/\p.2.natAbs<2^240:=by unfold BdA at h;omega
theorem qCI {p:P2}(h:BdA p):(qDw p).length<=202:=by
 have h1:=qAE h.w.1
 have h2:=qAE h.w.2
 unfold qDw
 rw [qAD,qAD,qAk,show "..".length=2 from rfl]
 omega
theorem qAR {m:Nat}(hm:m<=3) {f:Nat->P2}(h:∀j,BdA (f j)):(qBq m f).length<=812:=by
 have:=qFs (sep:=s_ ",") (ts:=(List.range m).map λj=>qDw (f j)) (B:=202) (N:=3) (by rw [qAk];decide) (by simpa using hm) (λt ht=>by
  obtain⟨j,_,rfl⟩:=List.mem_map.mp ht
  exact qCI (h j))
 unfold qBq
 omega
theorem qPA {x y z:Str}{B:Nat}(hx:x.length<=B) (hy:y.length<=B) (hz:z.length<=B) (hB:B<=1000000):qE5 Str.empty [x,y,z]=some (x++y++z):=by
 have l:lim=16777216:=rfl
 unfold qE5
 rw [qLM,if_pos (by omega)]
 unfold qE5
 rw [if_pos (by rw [qAD];omega)]
 unfold qE5
 rw [if_pos (by rw [qAD,qAD];omega)]
 rfl
theorem qE6 {x y:Str}(h:x.length+y.length<=16777216):qBr .add (.str x) (.str y)=some (false,.str (x++y)):=by
 show (if x.length+y.length<=lim then some (false,D.str (x++y)) else none)=_
 rw [if_pos (qAW h)]
theorem qJm {i:Int}(h:i.natAbs<2^240):biP .str [.int i]=some (false,.str (qBo i)):=by rw [qLV,if_pos h]
section
variable {call:Nat->List D->Option R}
theorem qQb {a b:Int}(ha:a.natAbs<2^240) (hb:b.natAbs<2^240):evE call [some (false,.int a),some (false,.int b)] (.fstr [(.fmt (.v 0)),(.k (.str (Str.ofString ".."))),(.fmt (.v 1))])=some (false,.str (qBo a++Str.ofString ".."++qBo b)):=by
 have c:=qPA (x:=qBo a) (y:=Str.ofString "..") (z:=qBo b) (B:=200) (by have:=qAE ha;omega) (by rw [qAk];decide) (by have:=qAE hb;omega) (by decide)
 simp only [qGo,qAC,qJL,pk,qAf,List.getElem?_cons_zero,Option.join_some,Option.bind_some,pkR,qNN,ha,↓reduceIte,qAn,List.getElem?_cons_succ,hb,qAr,qBk,Option.map_some,c]
theorem qDt (m:Nat) (hm:m<=3) (f:Nat->P2) (h:∀j,BdA (f j)):qAp call [some (false,qBc m f)] f_box_written.body=some (.rt (false,.str (qBq m f))):=by
 refine qAq (r:=(false,.str (qBq m f))) ?_ rfl
 have hc:=qC3 (call:=call) (σ:=[some (false,qBc m f)]) (e:=(.fstr [(.fmt (.v 0)),(.k (.str (Str.ofString ".."))),(.fmt (.v 1))])) (nl:=2) (ks:=[]) (tg:=.two 0 1) (src:=.v 0) (r:=(false,qBc m f)) rfl (qDx m f) rfl
  (qBa call _ (λj=>side (f j)) (λj=>.str (qDw (f j))) (List.range m) λj _=>⟨_,false,rfl,qQb (h j).w.1 (h j).w.2⟩)
 exact qHN rfl (qDC hc) (qDJ (λj=>qDw (f j)) (List.range m) (by rw [qAk];decide) (by simpa using hm) (λj _=>qCI (h j)) (by decide))
theorem qFT (m:Nat) (hm:m<=3) (f:Nat->P2) (h:∀j,BdA (f j)):qAp call [some (false,qBc m f)] f_law_box_text.body=some (.rt (false,.str (qBq m f))):=by
 refine qAq (r:=(false,.str (qBq m f))) ?_ rfl
 have hc:=qC3 (call:=call) (σ:=[some (false,qBc m f)]) (e:=(.bin .add (.bin .add (.bi .str [(.ix (.v 0) (.k (.int 0)))]) (.k (.str (Str.ofString "..")))) (.bi .str [(.ix (.v 0) (.k (.int 1)))]))) (nl:=1) (ks:=[]) (tg:=.one 0) (src:=.v 0) (r:=(false,qBc m f)) rfl (qDx m f) rfl
  (qBa call _ (λj=>side (f j)) (λj=>.str (qDw (f j))) (List.range m) λj _=>⟨_,false,rfl,by
   have h1:=qAE (h j).w.1
   have h2:=qAE (h j).w.2
   have b1:qBr .add (.str (qBo (f j).1)) (.str (Str.ofString ".."))=some (false,.str (qBo (f j).1++Str.ofString "..")):=qE6 (by rw [qAk,show "..".length=2 from rfl];omega)
   have b2:qBr .add (.str (qBo (f j).1++Str.ofString "..")) (.str (qBo (f j).2))=some (false,.str (qDw (f j))):=qE6 (by rw [qAD,qAk,show "..".length=2 from rfl];omega)
   simp only [qBj,List.replicate_succ,List.replicate_zero,qAf,List.map_nil,List.cons_append,List.nil_append,List.set_cons_zero,qAg,pk,qBB,qAs,qAX,List.getElem?_cons_zero,Option.join_some,Option.bind_some,pkR,qAn,Option.map_some,qHd,qAA,qJm (h j).w.1,b1,qJ7,qJm (h j).w.2,b2]⟩)
 exact qHN rfl (qDC hc) (qDJ (λj=>qDw (f j)) (List.range m) (by rw [qAk];decide) (by simpa using hm) (λj _=>qCI (h j)) (by decide))
end
end Dw.T
namespace Dw.T
open Dw PySem
noncomputable def atO (m:Nat) (a:At):D:=.obj (waO m a).1 (waO m a).2
inductive Wt where
 | atm (a:At)|both (x y:Wt)|eith (x y:Wt)|unl (x:Wt)
noncomputable def wtD (m:Nat):Wt->D
 | .atm a=>atO m a
 | .both x y=>.obj ⟨645,[PySem.Str.ofString "one",PySem.Str.ofString "two"]⟩ [wtD m x,wtD m y]
 | .eith x y=>.obj ⟨685,[PySem.Str.ofString "one",PySem.Str.ofString "two"]⟩ [wtD m x,wtD m y]
 | .unl x=>.obj ⟨725,[PySem.Str.ofString "one"]⟩ [wtD m x]
noncomputable def qDa:Wt->Prop
 | .atm a=>AtOk a
 | .both x y=>qDa x/\qDa y
 | .eith x y=>qDa x/\qDa y
 | .unl x=>qDa x
noncomputable def dp:Wt->Nat
 | .atm _=>0
 | .both x y=>max (dp x) (dp y)+1
 | .eith x y=>max (dp x) (dp y)+1
 | .unl x=>dp x+1
noncomputable def us:Wt->Nat
 | .atm _=>1
 | .both x y=>us x+us y
 | .eith x y=>us x+us y
 | .unl x=>us x+1
theorem qE4:∀w,dp w+1<=us w
 | .atm _=>Nat.le_refl _
 | .both x y=>by have:=qE4 x;have:=qE4 y;show max (dp x) (dp y)+1+1<=us x+us y;omega
 | .eith x y=>by have:=qE4 x;have:=qE4 y;show max (dp x) (dp y)+1+1<=us x+us y;omega
 | .unl x=>by have:=qE4 x;show dp x+1+1<=us x+1;omega
noncomputable def atF:At->Nat
 | .any=>53|.meets _=>54|.inside _=>55|.holds _=>56|.near _ _=>57|.marked _=>58|.touched _=>59|.crosses _ _ _=>60|.worthy _=>61
noncomputable def wtF:Wt->Nat
 | .atm a=>atF a
 | .both _ _=>62
 | .eith _ _=>63
 | .unl _=>64
noncomputable abbrev TBw:List (Nat×Nat):=[(250,52),(285,53),(325,54),(365,55),(405,56),(445,57),(485,58),(525,59),(565,60),(605,61),(645,62),(685,63),(725,64)]
noncomputable def clA:At->Nat
 | .any=>285|.meets _=>325|.inside _=>365|.holds _=>405|.near _ _=>445|.marked _=>485|.touched _=>525|.crosses _ _ _=>565|.worthy _=>605
noncomputable def cl:Wt->Nat
 | .atm a=>clA a
 | .both _ _=>645
 | .eith _ _=>685
 | .unl _=>725
theorem qGi (m:Nat) (w:Wt):∃kn os,wtD m w=.obj kn os/\kn.ns.all (λf=>f != PySem.Str.ofString "written")=true/\TBw.lookup kn.c=some (wtF w)/\kn.c=cl w:=by
 cases w with
 | atm a=>exact⟨(waO m a).1,(waO m a).2,rfl,by cases a<;>rfl,by cases a<;>rfl,by cases a<;>rfl⟩
 | both x y=>exact⟨_,_,rfl,rfl,rfl,rfl⟩
 | eith x y=>exact⟨_,_,rfl,rfl,rfl,rfl⟩
 | unl x=>exact⟨_,_,rfl,rfl,rfl,rfl⟩
theorem ll0:("meets":String).length=5:=rfl
theorem ll1:(" ":String).length=1:=rfl
theorem ll2:("inside":String).length=6:=rfl
theorem ll3:("holds":String).length=5:=rfl
theorem ll4:("near":String).length=4:=rfl
theorem ll5:("marked":String).length=6:=rfl
theorem ll6:("touched":String).length=7:=rfl
theorem ll7:("crosses":String).length=7:=rfl
theorem ll8:("worthy":String).length=6:=rfl
noncomputable def txA (m:Nat):At->Str
 | .any=>s_ "anything"
 | .meets f=>s_ "meets"++s_ " "++qBq m f
 | .inside f=>s_ "inside"++s_ " "++qBq m f
 | .holds f=>s_ "holds"++s_ " "++qBq m f
 | .near f r=>s_ "near"++s_ " "++qBq m f++s_ " "++qBo r
 | .marked k=>s_ "marked"++s_ " "++qBo (k:Int)
 | .touched k=>s_ "touched"++s_ " "++qBo (k:Int)
 | .crosses f a b=>s_ "crosses"++s_ " "++qBq m f++s_ " "++qBo a++s_ " "++qBo b
 | .worthy w=>s_ "worthy"++s_ " "++qBo w
noncomputable def br (b:Bool) (t:Str):Str:=if b then s_ "( "++t++s_ " )" else t
noncomputable def lo1:Wt->Bool
 | .eith _ _=>true
 | _=>false
noncomputable def lo2:Wt->Bool
 | .eith _ _=>true
 | .both _ _=>true
 | _=>false
noncomputable def bnd:Wt->Int
 | .both _ _=>1
 | .eith _ _=>0
 | _=>2
theorem qQe (w:Wt):decide (bnd w<1)=lo1 w:=by cases w<;>rfl
theorem qPB (w:Wt):decide (bnd w<2)=lo2 w:=by cases w<;>rfl
noncomputable def txW (m:Nat):Wt->Str
 | .atm a=>txA m a
 | .both x y=>br (lo1 x) (txW m x)++s_ " and "++br (lo2 y) (txW m y)
 | .eith x y=>txW m x++s_ " or "++br (lo1 y) (txW m y)
 | .unl x=>s_ "not "++br (lo2 x) (txW m x)
theorem qBJ (b:Bool) (t:Str):(br b t).length<=t.length+4:=by
 unfold br
 cases b
 ·exact Nat.le_add_right _ _
 ·rw [if_pos rfl,qAD,qAD,qAk,qAk]
  show 2+t.length+2<=_
  omega
theorem AtOk.far {f:Nat->P2}{r:Int}(h:AtOk (.near f r)):r.natAbs<2^240:=by have h:(∀j,BdA (f j))/\0<=r/\r<=10^62:=h;omega
theorem AtOk.wo {r:Int}(h:AtOk (.worthy r)):r.natAbs<2^240:=by have h:-(10^30)<=r/\r<=10^30:=h;omega
theorem qDb {k:Nat}(h:k<65536):(k:Int).natAbs<2^240:=by omega
theorem qDd {a:Int}(h:0<=a/\a<=10^15):a.natAbs<2^240:=by omega
theorem qKq {m:Nat}(hm:m<=3) (a:At) (h:AtOk a):(txA m a).length+20<=1400:=by
 cases a with
 | any=>show (s_ "anything").length+20<=1400;rw [qAk];decide
 | meets f=>have:=qAR hm h;simp only [txA,qAD,qAk,ll0,ll1,ll2,ll3,ll4,ll5,ll6,ll7,ll8];omega
 | inside f=>have:=qAR hm h;simp only [txA,qAD,qAk,ll0,ll1,ll2,ll3,ll4,ll5,ll6,ll7,ll8];omega
 | holds f=>have:=qAR hm h;simp only [txA,qAD,qAk,ll0,ll1,ll2,ll3,ll4,ll5,ll6,ll7,ll8];omega
 | near f r=>have:=qAR hm h.1;have:=qAE h.far;simp only [txA,qAD,qAk,ll0,ll1,ll2,ll3,ll4,ll5,ll6,ll7,ll8];omega
 | marked k=>have:=qAE (qDb h);simp only [txA,qAD,qAk,ll0,ll1,ll2,ll3,ll4,ll5,ll6,ll7,ll8];omega
 | touched k=>have:=qAE (qDb h);simp only [txA,qAD,qAk,ll0,ll1,ll2,ll3,ll4,ll5,ll6,ll7,ll8];omega
 | crosses f a b=>have:=qAR hm h.1;have:=qAE (qDd h.2.1);have:=qAE (qDd h.2.2);simp only [txA,qAD,qAk,ll0,ll1,ll2,ll3,ll4,ll5,ll6,ll7,ll8];omega
 | worthy w=>have:=qAE h.wo;simp only [txA,qAD,qAk,ll0,ll1,ll2,ll3,ll4,ll5,ll6,ll7,ll8];omega
theorem qCk {m:Nat}(hm:m<=3):∀w,qDa w->(txW m w).length+20<=1400 * us w
 | .atm a,h=>qKq hm a h
 | .both x y,h=>by
  have h1:=qCk hm x h.1
  have h2:=qCk hm y h.2
  have h3:=qBJ (lo1 x) (txW m x)
  have h4:=qBJ (lo2 y) (txW m y)
  simp only [txW,qAD,qAk,us]
  rw [show " and ".length=5 from rfl]
  omega
 | .eith x y,h=>by
  have h1:=qCk hm x h.1
  have h2:=qCk hm y h.2
  have h4:=qBJ (lo1 y) (txW m y)
  simp only [txW,qAD,qAk,us]
  rw [show " or ".length=4 from rfl]
  omega
 | .unl x,h=>by
  have h1:=qCk hm x h
  have h4:=qBJ (lo2 x) (txW m x)
  simp only [txW,qAD,qAk,us]
  rw [show "not ".length=4 from rfl]
  omega
section
variable {call:Nat->List D->Option R}
theorem qJo {σ:En}{a:C}{b:Bool}{m:Nat}{w:Wt}{r:R}(h:evE call σ a=some (b,wtD m w)) (hc:call (wtF w) [wtD m w]=some r):evE call σ (.mc a (PySem.Str.ofString "written") TBw [])=some r:=by
 obtain⟨kn,os,e,h1,h2,_⟩:=qGi m w
 rw [e] at h hc
 exact qOx call σ h h1 h2 rfl hc
theorem qFC {σ:En}{a:C}{b c:Bool}{m:Nat}{w:Wt}{tb:List (Nat×Bool)}(h:evE call σ a=some (b,wtD m w)) (hc:tb.lookup (cl w)=some c):evE call σ (.iso a tb)=some (false,.bl c):=by
 obtain⟨kn,os,e,_,_,h3⟩:=qGi m w
 rw [e] at h
 rw [qMf,h]
 show qNG tb (.obj kn os)=_
 rw [qNF,h3,hc]
 rfl
noncomputable def atB:At->Fd
 | .any=>qA5|.meets _=>qBm|.inside _=>qBf|.holds _=>qBn|.near _ _=>qBw|.marked _=>qBe|.touched _=>qA8|.crosses _ _ _=>qA9|.worthy _=>qBd
theorem qCr {x y:Str}{B:Nat}(hx:x.length<=B) (hy:y.length<=B) (hB:B<=1000000):qBr .add (.str x) (.str y)=some (false,.str (x++y)):=qE6 (by omega)
theorem qPE (m:Nat) (hm:m<=3) (a:At) (h:AtOk a) (C6:∀f:Nat->P2,(∀j,BdA (f j))->call 6 [qBc m f]=some (false,.str (qBq m f))):qAp call [some (false,atO m a)] (atB a).body=some (.rt (false,.str (txA m a))):=by
 have L:∀x:String,x.length<=100->(Str.ofString x).length<=5000:=λx hx=>by rw [qAk];omega
 have A:∀{x y:Str} {a b:Nat},x.length<=a->y.length<=b->(x++y).length<=a+b:=λhx hy=>by rw [qAD];omega
 cases a with
 | any=>rfl
 | meets f =>
  have fb:qDZ 0 (PySem.Str.ofString "box") (atO m (.meets f))=some (false,qBc m f):=rfl
  have q:=C6 f h
  have c:qBr .add (.str (Str.ofString "meets ")) (.str (qBq m f))=some (false,.str (txA m (.meets f))):=qCr (B:=5000) (L _ (by decide)) (by have:=qAR hm h;omega) (by decide)
  exact qAq (r:=(false,.str (txA m (.meets f)))) (by simp only [qBO,qAg,pk,qAn,Option.map_some,qAw,qAv,ag,qBL,qCt,qA2,qAf,List.getElem?_cons_zero,Option.join_some,fb,qAz,q,c]) rfl
 | inside f =>
  have fb:qDZ 0 (PySem.Str.ofString "box") (atO m (.inside f))=some (false,qBc m f):=rfl
  have q:=C6 f h
  have c:qBr .add (.str (Str.ofString "inside ")) (.str (qBq m f))=some (false,.str (txA m (.inside f))):=qCr (B:=5000) (L _ (by decide)) (by have:=qAR hm h;omega) (by decide)
  exact qAq (r:=(false,.str (txA m (.inside f)))) (by simp only [qBO,qAg,pk,qAn,Option.map_some,qAw,qAv,ag,qBL,qCt,qA2,qAf,List.getElem?_cons_zero,Option.join_some,fb,qAz,q,c]) rfl
 | holds f =>
  have fb:qDZ 0 (PySem.Str.ofString "box") (atO m (.holds f))=some (false,qBc m f):=rfl
  have q:=C6 f h
  have c:qBr .add (.str (Str.ofString "holds ")) (.str (qBq m f))=some (false,.str (txA m (.holds f))):=qCr (B:=5000) (L _ (by decide)) (by have:=qAR hm h;omega) (by decide)
  exact qAq (r:=(false,.str (txA m (.holds f)))) (by simp only [qBO,qAg,pk,qAn,Option.map_some,qAw,qAv,ag,qBL,qCt,qA2,qAf,List.getElem?_cons_zero,Option.join_some,fb,qAz,q,c]) rfl
 | near f r =>
  have fb:qDZ 0 (PySem.Str.ofString "box") (atO m (.near f r))=some (false,qBc m f):=rfl
  have fc:qDZ 1 (PySem.Str.ofString "far") (atO m (.near f r))=some (false,.int r):=rfl
  have q:=C6 f h.1
  have s:=qJm h.far
  have l0:=qAR hm h.1
  have l1:=qAE h.far
  have c1:qBr .add (.str (Str.ofString "near ")) (.str (qBq m f))=some (false,.str (s_ "near"++s_ " "++qBq m f)):=qCr (B:=5000) (L _ (by decide)) (by omega) (by decide)
  have k1:(s_ "near"++s_ " "++qBq m f).length<=2000:=by simp only [qAD,qAk,ll0,ll1,ll2,ll3,ll4,ll5,ll6,ll7,ll8];omega
  have c2:qBr .add (.str (s_ "near"++s_ " "++qBq m f)) (.str (Str.ofString " "))=some (false,.str (s_ "near"++s_ " "++qBq m f++s_ " ")):=qCr (B:=5000) (by omega) (L _ (by decide)) (by decide)
  have k2:(s_ "near"++s_ " "++qBq m f++s_ " ").length<=2000:=by simp only [qAD,qAk,ll0,ll1,ll2,ll3,ll4,ll5,ll6,ll7,ll8];omega
  have c3:qBr .add (.str (s_ "near"++s_ " "++qBq m f++s_ " ")) (.str (qBo r))=some (false,.str (txA m (.near f r))):=qCr (B:=5000) (by omega) (by omega) (by decide)
  exact qAq (r:=(false,.str (txA m (.near f r)))) (by simp only [qBO,qAg,pk,qAn,Option.map_some,qAw,qAv,ag,qBL,qCt,qA2,qAf,List.getElem?_cons_zero,Option.join_some,fb,qAz,q,c1,c2,qBB,qAs,fc,qAA,s,c3]) rfl
 | marked k =>
  have fb:qDZ 0 (PySem.Str.ofString "marks") (atO m (.marked k))=some (false,.int (k:Int)):=rfl
  have s:=qJm (qDb h)
  have l1:=qAE (qDb h)
  have c:qBr .add (.str (Str.ofString "marked ")) (.str (qBo (k:Int)))=some (false,.str (txA m (.marked k))):=qCr (B:=5000) (L _ (by decide)) (by omega) (by decide)
  exact qAq (r:=(false,.str (txA m (.marked k)))) (by simp only [qBO,qAg,pk,qAn,Option.map_some,qBB,qAs,qBL,qCt,qA2,qAf,List.getElem?_cons_zero,Option.join_some,fb,qAA,s,c]) rfl
 | touched k =>
  have fb:qDZ 0 (PySem.Str.ofString "marks") (atO m (.touched k))=some (false,.int (k:Int)):=rfl
  have s:=qJm (qDb h)
  have l1:=qAE (qDb h)
  have c:qBr .add (.str (Str.ofString "touched ")) (.str (qBo (k:Int)))=some (false,.str (txA m (.touched k))):=qCr (B:=5000) (L _ (by decide)) (by omega) (by decide)
  exact qAq (r:=(false,.str (txA m (.touched k)))) (by simp only [qBO,qAg,pk,qAn,Option.map_some,qBB,qAs,qBL,qCt,qA2,qAf,List.getElem?_cons_zero,Option.join_some,fb,qAA,s,c]) rfl
 | crosses f a b =>
  have fb:qDZ 0 (PySem.Str.ofString "box") (atO m (.crosses f a b))=some (false,qBc m f):=rfl
  have fc:qDZ 1 (PySem.Str.ofString "first") (atO m (.crosses f a b))=some (false,.int a):=rfl
  have fd:qDZ 2 (PySem.Str.ofString "last") (atO m (.crosses f a b))=some (false,.int b):=rfl
  have q:=C6 f h.1
  have s1:=qJm (qDd h.2.1)
  have s2:=qJm (qDd h.2.2)
  have l0:=qAR hm h.1
  have l1:=qAE (qDd h.2.1)
  have l2:=qAE (qDd h.2.2)
  have c1:qBr .add (.str (Str.ofString "crosses ")) (.str (qBq m f))=some (false,.str (s_ "crosses"++s_ " "++qBq m f)):=qCr (B:=5000) (L _ (by decide)) (by omega) (by decide)
  have k1:(s_ "crosses"++s_ " "++qBq m f).length<=2000:=by simp only [qAD,qAk,ll0,ll1,ll2,ll3,ll4,ll5,ll6,ll7,ll8];omega
  have c2:qBr .add (.str (s_ "crosses"++s_ " "++qBq m f)) (.str (Str.ofString " "))=some (false,.str (s_ "crosses"++s_ " "++qBq m f++s_ " ")):=qCr (B:=5000) (by omega) (L _ (by decide)) (by decide)
  have k2:(s_ "crosses"++s_ " "++qBq m f++s_ " ").length<=2000:=by simp only [qAD,qAk,ll0,ll1,ll2,ll3,ll4,ll5,ll6,ll7,ll8];omega
  have c3:qBr .add (.str (s_ "crosses"++s_ " "++qBq m f++s_ " ")) (.str (qBo a))=some (false,.str (s_ "crosses"++s_ " "++qBq m f++s_ " "++qBo a)):=qCr (B:=5000) (by omega) (by omega) (by decide)
  have k3:(s_ "crosses"++s_ " "++qBq m f++s_ " "++qBo a).length<=2000:=by simp only [qAD,qAk,ll0,ll1,ll2,ll3,ll4,ll5,ll6,ll7,ll8];omega
  have c4:qBr .add (.str (s_ "crosses"++s_ " "++qBq m f++s_ " "++qBo a)) (.str (Str.ofString " "))=some (false,.str (s_ "crosses"++s_ " "++qBq m f++s_ " "++qBo a++s_ " ")):=qCr (B:=5000) (by omega) (L _ (by decide)) (by decide)
  have k4:(s_ "crosses"++s_ " "++qBq m f++s_ " "++qBo a++s_ " ").length<=2000:=by simp only [qAD,qAk,ll0,ll1,ll2,ll3,ll4,ll5,ll6,ll7,ll8];omega
  have c5:qBr .add (.str (s_ "crosses"++s_ " "++qBq m f++s_ " "++qBo a++s_ " ")) (.str (qBo b))=some (false,.str (txA m (.crosses f a b))):=qCr (B:=5000) (by omega) (by omega) (by decide)
  exact qAq (r:=(false,.str (txA m (.crosses f a b)))) (by simp only [qBO,qAg,pk,qAn,Option.map_some,qAw,qAv,ag,qBL,qCt,qA2,qAf,List.getElem?_cons_zero,Option.join_some,fb,qAz,q,c1,c2,qBB,qAs,fc,qAA,s1,c3,c4,fd,s2,c5]) rfl
 | worthy w =>
  have fb:qDZ 0 (PySem.Str.ofString "least") (atO m (.worthy w))=some (false,.int w):=rfl
  have s:=qJm h.wo
  have l1:=qAE h.wo
  have c:qBr .add (.str (Str.ofString "worthy ")) (.str (qBo w))=some (false,.str (txA m (.worthy w))):=qCr (B:=5000) (L _ (by decide)) (by omega) (by decide)
  exact qAq (r:=(false,.str (txA m (.worthy w)))) (by simp only [qBO,qAg,pk,qAn,Option.map_some,qBB,qAs,qBL,qCt,qA2,qAf,List.getElem?_cons_zero,Option.join_some,fb,qAA,s,c]) rfl
end
end Dw.T
namespace Dw.T
open Dw PySem
noncomputable def okS (t:Str):Prop:=t.length<=300000
section
variable {call:Nat->List D->Option R}
theorem qPy {q:Option R}{t:Str}(h:okS t):evE call [q,some (false,.str t)] (.fstr [(.k (.str (Str.ofString "( "))),(.fmt (.v 1)),(.k (.str (Str.ofString " )")))])=some (false,.str (br true t)):=by
 have c:=qPA (x:=Str.ofString "( ") (y:=t) (z:=Str.ofString " )") (B:=300000) (by rw [qAk];decide) h (by rw [qAk];decide) (by decide)
 have l:t.length<=lim:=qAW (by unfold okS at h;omega)
 simp only [qGo,qAC,qAn,qJL,pk,qAf,List.getElem?_cons_succ,List.getElem?_cons_zero,Option.join_some,Option.bind_some,pkR,qNM,l,↓reduceIte,qAr,qBk,Option.map_some,c]
 rfl
theorem qOk (m:Nat) (w:Wt) (k:Nat):agE false [wtD m w]++List.replicate k none=some (false,wtD m w)::List.replicate k none:=by
 obtain⟨kn,os,e,_⟩:=qGi m w
 rw [e]
 rfl
theorem qNQ {σ:En}{c a:C}{b x:Bool}{i:Nat}{t t':Str}(hc:evE call σ c=some (x,.bl b)) (ha:evE call σ a=some (false,.str t')) (hv:qAf σ i=some (false,.str t)):evE call σ (.ifx c a (.v i))=some (false,.str (if b then t' else t)):=by
 rw [qE2,hc,Option.bind_some]
 cases b
 ·show evE call σ (.v i)=_
  rw [qNP,hv]
  rfl
 ·exact ha
theorem qJn {σ:En}{a b:C}{x:Bool}{p q:Bool}(ha:evE call σ a=some (x,.bl p)) (hb:evE call σ b=some (false,.bl q)):evE call σ (.or a b)=some (false,.bl (p||q)):=by
 rw [qKb,ha,Option.bind_some]
 cases p
 ·exact hb
 ·rfl
theorem qPn (m:Nat) (w:Wt) (h:okS (txW m w)) (hc:call (wtF w) [wtD m w]=some (false,.str (txW m w))):qAp call [some (false,wtD m w),none] f_written_above_or.body=some (.rt (false,.str (br (lo1 w) (txW m w)))):=by
 refine qAi (false,.str (txW m w)) (qJo (b:=false) (w:=w) rfl hc) ?_
 refine qAq (r:=(false,.str (br (lo1 w) (txW m w)))) ?_ rfl
 exact qNQ (b:=lo1 w) (qFC (b:=false) (w:=w) rfl (by cases w with|atm a=>cases a<;>rfl|_=>rfl)) (qPy h) rfl
theorem qPo (m:Nat) (w:Wt) (h:okS (txW m w)) (hc:call (wtF w) [wtD m w]=some (false,.str (txW m w))):qAp call [some (false,wtD m w),none] f_written_above_and.body=some (.rt (false,.str (br (lo2 w) (txW m w)))):=by
 refine qAi (false,.str (txW m w)) (qJo (b:=false) (w:=w) rfl hc) ?_
 refine qAq (r:=(false,.str (br (lo2 w) (txW m w)))) ?_ rfl
 refine qNQ (b:=lo2 w) (x:=false) ?_ (qPy h) rfl
 refine Eq.trans (qJn (p:=lo1 w) (q:=(match w with|.both _ _=>true|_=>false)) (x:=false) (qFC (b:=false) (w:=w) rfl (by cases w with|atm a=>cases a<;>rfl|_=>rfl)) (qFC (b:=false) (w:=w) rfl (by cases w with|atm a=>cases a<;>rfl|_=>rfl))) ?_
 cases w<;>rfl
theorem qKx (m:Nat) (x y:Wt) (hx:okS (txW m x)) (hy:okS (txW m y)) (h1:call 29 [wtD m x]=some (false,.str (br (lo1 x) (txW m x)))) (h2:call 30 [wtD m y]=some (false,.str (br (lo2 y) (txW m y)))) :
  qAp call [some (false,wtD m (.both x y))] f_Both_written.body=some (.rt (false,.str (txW m (.both x y)))):=by
 have k1:=qBJ (lo1 x) (txW m x)
 have k2:=qBJ (lo2 y) (txW m y)
 unfold okS at hx hy
 have k3:(br (lo1 x) (txW m x)++s_ " and ").length<=300009:=by rw [qAD,qAk,show " and ".length=5 from rfl];omega
 have fa:qDZ 0 (PySem.Str.ofString "one") (wtD m (.both x y))=some (false,wtD m x):=rfl
 have fb:qDZ 1 (PySem.Str.ofString "two") (wtD m (.both x y))=some (false,wtD m y):=rfl
 have c1:qBr .add (.str (br (lo1 x) (txW m x))) (.str (Str.ofString " and "))=some (false,.str (br (lo1 x) (txW m x)++s_ " and ")):=qCr (B:=400000) (by omega) (by rw [qAk];decide) (by decide)
 have c2:qBr .add (.str (br (lo1 x) (txW m x)++s_ " and ")) (.str (br (lo2 y) (txW m y)))=some (false,.str (txW m (.both x y))):=qCr (B:=400000) (by omega) (by omega) (by decide)
 exact qAq (r:=(false,.str (txW m (.both x y)))) (by simp only [qBO,qAg,pk,qAw,qAv,ag,qBL,qCt,qA2,qAf,List.getElem?_cons_zero,Option.join_some,fa,Option.map_some,qAz,h1,qAn,c1,fb,h2,c2]) rfl
theorem qKv (m:Nat) (x y:Wt) (hx:okS (txW m x)) (hy:okS (txW m y)) (h1:call (wtF x) [wtD m x]=some (false,.str (txW m x))) (h2:call 29 [wtD m y]=some (false,.str (br (lo1 y) (txW m y)))) :
  qAp call [some (false,wtD m (.eith x y))] f_Either_written.body=some (.rt (false,.str (txW m (.eith x y)))):=by
 have k2:=qBJ (lo1 y) (txW m y)
 unfold okS at hx hy
 have k3:(txW m x++s_ " or ").length<=300009:=by rw [qAD,qAk,show " or ".length=4 from rfl];omega
 have fb:qDZ 1 (PySem.Str.ofString "two") (wtD m (.eith x y))=some (false,wtD m y):=rfl
 have a1:evE call [some (false,wtD m (.eith x y))] (.mc (.fld (.v 0) 0 (PySem.Str.ofString "one")) (PySem.Str.ofString "written") TBw [])=some (false,.str (txW m x)):=qJo (b:=false) (w:=x) rfl h1
 have c1:qBr .add (.str (txW m x)) (.str (Str.ofString " or "))=some (false,.str (txW m x++s_ " or ")):=qCr (B:=400000) (by omega) (by rw [qAk];decide) (by decide)
 have c2:qBr .add (.str (txW m x++s_ " or ")) (.str (br (lo1 y) (txW m y)))=some (false,.str (txW m (.eith x y))):=qCr (B:=400000) (by omega) (by omega) (by decide)
 refine qAq (r:=(false,.str (txW m (.eith x y)))) ?_ rfl
 show evE call [some (false,wtD m (.eith x y))] (.bin .add (.bin .add (.mc (.fld (.v 0) 0 (PySem.Str.ofString "one")) (PySem.Str.ofString "written") TBw []) _) _)=_
 simp only [qAg,pk,a1,Option.map_some,qAn,c1,qAw,qAv,ag,qBL,qCt,qA2,qAf,List.getElem?_cons_zero,Option.join_some,fb,qAz,h2,c2]
theorem qMl (m:Nat) (x:Wt) (hx:okS (txW m x)) (h1:call 30 [wtD m x]=some (false,.str (br (lo2 x) (txW m x)))) :
  qAp call [some (false,wtD m (.unl x))] f_Unless_written.body=some (.rt (false,.str (txW m (.unl x)))):=by
 have k1:=qBJ (lo2 x) (txW m x)
 unfold okS at hx
 have fa:qDZ 0 (PySem.Str.ofString "one") (wtD m (.unl x))=some (false,wtD m x):=rfl
 have c1:qBr .add (.str (Str.ofString "not ")) (.str (br (lo2 x) (txW m x)))=some (false,.str (txW m (.unl x))):=qCr (B:=400000) (by rw [qAk];decide) (by omega) (by decide)
 exact qAq (r:=(false,.str (txW m (.unl x)))) (by simp only [qBO,qAg,pk,qAn,Option.map_some,qAw,qAv,ag,qBL,qCt,qA2,qAf,List.getElem?_cons_zero,Option.join_some,fa,qAz,h1,c1]) rfl
theorem qKw (t:Str) (h:okS t) (b l:Int):qAp call [some (false,.str t),some (false,.int b),some (false,.int l)] f_law_bound.body=some (.rt (false,.str (br (decide (b<l)) t))):=by
 unfold okS at h
 by_cases hb:b<l
 ·have c1:qBr .add (.str (Str.ofString "( ")) (.str t)=some (false,.str (s_ "( "++t)):=qCr (B:=400000) (by rw [qAk];decide) (by omega) (by decide)
  have c2:qBr .add (.str (s_ "( "++t)) (.str (Str.ofString " )"))=some (false,.str (br true t)):=qCr (B:=400000) (by rw [qAD,qAk,show "( ".length=2 from rfl];omega) (by rw [qAk];decide) (by decide)
  rw [decide_eq_true hb]
  exact qBz (x:=false) (r:=(false,.str (br true t))) (by simp only [qAh,pk,qAf,List.getElem?_cons_succ,List.getElem?_cons_zero,Option.join_some,Option.bind_some,pkR,qC7];rw [decide_eq_true hb]) (qAq (r:=(false,.str (br true t))) (by simp only [qBO,qAg,pk,qAn,Option.map_some,qAf,List.getElem?_cons_zero,Option.join_some,Option.bind_some,pkR,c1,c2]) rfl) rfl
 ·rw [decide_eq_false hb]
  exact qAc (x:=false) (by simp only [qAh,pk,qAf,List.getElem?_cons_succ,List.getElem?_cons_zero,Option.join_some,Option.bind_some,pkR,qC7];rw [decide_eq_false hb]) (qAq (r:=(false,.str (br false t))) rfl rfl)
noncomputable def clL:List Nat:=[285,325,365,405,445,485,525,565,605,645,685,725]
noncomputable def qEa (w:Wt):List Bool:=clL.map λc=>cl w == c
theorem qHc (w:Wt):(qEa w).countP id=1:=by cases w with|atm a=>cases a<;>rfl|_=>rfl
theorem qKu (m:Nat) (w:Wt):qAp call [some (false,wtD m w),none,none,none] f_law_kinds.body=some (.rt (true,.lst ((qEa w).map .bl))):=by
 cases w with
 | atm a=>cases a<;>rfl
 | both x y=>rfl
 | eith x y=>rfl
 | unl x=>rfl
end
theorem qQd (n m:Nat) (hm:m<=3) (f:Nat->P2) (h:∀j,BdA (f j)):qAH tab (n+1) 6 [qBc m f]=some (false,.str (qBq m f)):=qAo t6 rfl rfl (qDt m hm f h)
theorem okU {m:Nat}(hm:m<=3) {w:Wt}(h:qDa w) (hu:us w<=200):okS (txW m w):=by
 have:=qCk hm w h
 unfold okS
 omega
theorem qD1:∀w,1<=us w:=λw=>by have:=qE4 w;omega
theorem qBA (m:Nat) (hm:m<=3):∀(w:Wt),qDa w->us w<=200->∀n,qAH tab (n+2 * dp w+2) (wtF w) [wtD m w]=some (false,.str (txW m w))
 | .atm a,h,_,n=>by
  have q:=qPE (call:=qAH tab (n+1)) m hm a h λf hf=>qQd n m hm f hf
  cases a with
  | any=>exact qAo (n:=n+1) t53 rfl rfl q
  | meets f=>exact qAo (n:=n+1) t54 rfl rfl q
  | inside f=>exact qAo (n:=n+1) t55 rfl rfl q
  | holds f=>exact qAo (n:=n+1) t56 rfl rfl q
  | near f r=>exact qAo (n:=n+1) t57 rfl rfl q
  | marked k=>exact qAo (n:=n+1) t58 rfl rfl q
  | touched k=>exact qAo (n:=n+1) t59 rfl rfl q
  | crosses f a b=>exact qAo (n:=n+1) t60 rfl rfl q
  | worthy w=>exact qAo (n:=n+1) t61 rfl rfl q
 | .both x y,h,hu,n=>by
  have ux:=qD1 x
  have uy:=qD1 y
  have hu:us x+us y<=200:=hu
  have qx:=qBA m hm x h.1 (by omega) (n+2 * (max (dp x) (dp y) - dp x))
  have qy:=qBA m hm y h.2 (by omega) (n+2 * (max (dp x) (dp y) - dp y))
  rw [show n+2 * (max (dp x) (dp y) - dp x)+2 * dp x+2=n+2 * max (dp x) (dp y)+2 by omega] at qx
  rw [show n+2 * (max (dp x) (dp y) - dp y)+2 * dp y+2=n+2 * max (dp x) (dp y)+2 by omega] at qy
  have ox:=okU hm h.1 (by omega)
  have oy:=okU hm h.2 (by omega)
  show qAH tab (n+2 * (max (dp x) (dp y)+1)+2) 62 _=_
  rw [show n+2 * (max (dp x) (dp y)+1)+2=n+2 * max (dp x) (dp y)+2+1+1 by omega]
  exact qAo t62 rfl rfl (qKx m x y ox oy (qAo t29 rfl (qOk _ _ _) (qPn m x ox qx)) (qAo t30 rfl (qOk _ _ _) (qPo m y oy qy)))
 | .eith x y,h,hu,n=>by
  have ux:=qD1 x
  have uy:=qD1 y
  have hu:us x+us y<=200:=hu
  have qx:=qBA m hm x h.1 (by omega) (n+1+2 * (max (dp x) (dp y) - dp x))
  have qy:=qBA m hm y h.2 (by omega) (n+2 * (max (dp x) (dp y) - dp y))
  rw [show n+1+2 * (max (dp x) (dp y) - dp x)+2 * dp x+2=n+2 * max (dp x) (dp y)+2+1 by omega] at qx
  rw [show n+2 * (max (dp x) (dp y) - dp y)+2 * dp y+2=n+2 * max (dp x) (dp y)+2 by omega] at qy
  have ox:=okU hm h.1 (by omega)
  have oy:=okU hm h.2 (by omega)
  show qAH tab (n+2 * (max (dp x) (dp y)+1)+2) 63 _=_
  rw [show n+2 * (max (dp x) (dp y)+1)+2=n+2 * max (dp x) (dp y)+2+1+1 by omega]
  exact qAo t63 rfl rfl (qKv m x y ox oy qx (qAo t29 rfl (qOk _ _ _) (qPn m y oy qy)))
 | .unl x,h,hu,n=>by
  have hu:us x+1<=200:=hu
  have qx:=qBA m hm x h (by omega) n
  have ox:okS (txW m x):=okU (w:=x) hm h (by omega)
  show qAH tab (n+2 * (dp x+1)+2) 64 _=_
  rw [show n+2 * (dp x+1)+2=n+2 * dp x+2+1+1 by omega]
  exact qAo t64 rfl rfl (qMl m x ox (qAo t30 rfl (qOk _ _ _) (qPo m x ox qx)))
end Dw.T
namespace Dw.T
open Dw PySem
section
variable {call:Nat->List D->Option R}
theorem qId (q:Option R):∀(ps:List (D×Str)) (ws:List D) (o:Option R),ws.length+ps.length<100->(∀p∈ps,∀ws:List D,ws.length<100->qAp call [q,some (true,.lst ws),some (false,p.1)] [.ite (.isi (.v 2) .tuple) [.app 1 (.call 42 [(.v 2)])] [.app 1 (.bi .str [(.v 2)])]]=some (.nx [q,some (true,.lst (ws++[.str p.2])),some (false,p.1)])) ->
  ∃o',qBp call [.ite (.isi (.v 2) .tuple) [.app 1 (.call 42 [(.v 2)])] [.app 1 (.bi .str [(.v 2)])]] (.one 2) (ps.map (·.1)) [q,some (true,.lst ws),o]=some (.nx [q,some (true,.lst (ws++ps.map λp=>.str p.2)),o'])
 | [],ws,o,_,_=>⟨o,by rw [List.map_nil,qHA,List.map_nil,List.append_nil]⟩
 | p::ps,ws,o,hl,h=>by
  rw [List.length_cons] at hl
  obtain⟨o',h'⟩:=qId q ps (ws++[.str p.2]) (some (false,p.1)) (by rw [List.length_append];simp;omega) λp' hp=>h p' (List.mem_cons_of_mem _ hp)
  refine⟨o',?_⟩
  rw [List.map_cons,qBV]
  show (qAp call [q,some (true,.lst ws),some (false,p.1)] _).bind _=_
  rw [h p List.mem_cons_self ws (by omega),Option.bind_some]
  show qBp call _ _ _ _=_
  rw [h',List.map_cons,List.append_assoc]
  rfl
theorem qEH (m:Nat) (q:Option R) (f:Nat->P2) (C42:call 42 [qBc m f]=some (false,.str (qBq m f))) (ws:List D) (hl:ws.length<100):qAp call [q,some (true,.lst ws),some (false,qBc m f)] [.ite (.isi (.v 2) .tuple) [.app 1 (.call 42 [(.v 2)])] [.app 1 (.bi .str [(.v 2)])]]=some (.nx [q,some (true,.lst (ws++[.str (qBq m f)])),some (false,qBc m f)]):=
 qEP (x:=false) rfl (qB0 (false,.str (qBq m f)) (by simp only [qAw,qAv,ag,qAf,List.getElem?_cons_succ,List.getElem?_cons_zero,Option.join_some,Option.bind_some,agR,qAz,C42]) rfl (qB2 (by omega)) rfl) rfl
theorem qDo (q:Option R) (i:Int) (hi:i.natAbs<2^240) (ws:List D) (hl:ws.length<100):qAp call [q,some (true,.lst ws),some (false,.int i)] [.ite (.isi (.v 2) .tuple) [.app 1 (.call 42 [(.v 2)])] [.app 1 (.bi .str [(.v 2)])]]=some (.nx [q,some (true,.lst (ws++[.str (qBo i)])),some (false,.int i)]):=
 qL6 (x:=false) rfl (qB0 (false,.str (qBo i)) (by simp only [qBB,qAs,pk,qAf,List.getElem?_cons_succ,List.getElem?_cons_zero,Option.join_some,Option.bind_some,pkR,qAA,qJm hi]) rfl (qB2 (by omega)) rfl) rfl
theorem qCi (m:Nat) (a:At) (x:String) (ps:List (D×Str)) (ha:atD m a=.tup (tx x::ps.map (·.1))) (hx:x.length<=100) (hp:ps.length<=3) (hs:∀p∈ps,p.2.length<=1000)
  (hl:∀p∈ps,∀ws:List D,ws.length<100->qAp call [some (false,atD m a),some (true,.lst ws),some (false,p.1)] [.ite (.isi (.v 2) .tuple) [.app 1 (.call 42 [(.v 2)])] [.app 1 (.bi .str [(.v 2)])]]=some (.nx [some (false,atD m a),some (true,.lst (ws++[.str p.2])),some (false,p.1)])) (ht:txA m a=qCv (s_ " ") (s_ x::ps.map (·.2))) :
  qAp call [some (false,atD m a),none,none] f_law_atom_text.body=some (.rt (false,.str (txA m a))):=by
 obtain⟨o',h⟩:=qId (call:=call) (some (false,atD m a)) ps [tx x] none (by simp;omega) hl
 have l1:1<=lim:=qAW (by decide)
 have g0:ixP (atD m a) (.int 0)=some (false,tx x):=by rw [ha,qNz,qJd];rfl
 refine qAi (true,.lst [tx x]) (by simp only [qBZ,qAC,qAX,pk,qAf,List.getElem?_cons_zero,Option.join_some,Option.bind_some,pkR,qAn,Option.map_some,g0,qAr,List.length_cons,List.length_nil,Nat.reduceAdd,l1,↓reduceIte]) ?_
 refine qEO (r:=(false,.tup (ps.map (·.1)))) ?_ rfl h ?_
 ·have hc:qKh (tx x::ps.map (·.1)) (some 1) none=ps.map (·.1):=by
   unfold qKh
   simp [List.take_of_length_le]
  rw [ha]
  simp only [qAF,Bool.and_true,List.set_cons_succ,List.set_cons_zero,qMe,pk,qAf,List.getElem?_cons_zero,Option.join_some,Option.bind_some,pkR,qGm,qAn,Option.map_some,qNh,qJl,qOK,hc]
 ·refine qAq (r:=(false,.str (txA m a))) ?_ rfl
  rw [ht]
  have e:([tx x]++ps.map λp=>D.str p.2)=(s_ x::ps.map (·.2)).map λt=>D.str t:=by rw [List.map_cons,List.map_map];rfl
  rw [e]
  have j:=qDJ (sep:=s_ " ") (λt:Str=>t) (s_ x::ps.map (·.2)) (B:=1000) (N:=4) (by rw [qAk];decide) (by simp;omega) (λt ht=>by
   rcases List.mem_cons.mp ht with rfl|ht
   ·rw [qAk];omega
   ·obtain⟨p,hp,rfl⟩:=List.mem_map.mp ht
    exact hs p hp) (by decide)
  rw [List.map_id'] at j
  exact qHN (x:=.str (s_ " ")) rfl rfl j
theorem qMq (m:Nat) (hm:m<=3) (a:At) (h:AtOk a) (C42:∀f:Nat->P2,(∀j,BdA (f j))->call 42 [qBc m f]=some (false,.str (qBq m f))):qAp call [some (false,atD m a),none,none] f_law_atom_text.body=some (.rt (false,.str (txA m a))):=by
 cases a with
 | any=>exact qCi m _ "anything" [] rfl (by decide) (by simp) (by simp) (by simp) rfl
 | meets f=>exact qCi m _ "meets" [(qBc m f,qBq m f)] rfl (by decide) (by simp) (by have:=qAR hm h;simp;omega) (by simp only [List.mem_singleton];rintro p rfl ws hl;exact qEH m _ f (C42 f h) ws hl) rfl
 | inside f=>exact qCi m _ "inside" [(qBc m f,qBq m f)] rfl (by decide) (by simp) (by have:=qAR hm h;simp;omega) (by simp only [List.mem_singleton];rintro p rfl ws hl;exact qEH m _ f (C42 f h) ws hl) rfl
 | holds f=>exact qCi m _ "holds" [(qBc m f,qBq m f)] rfl (by decide) (by simp) (by have:=qAR hm h;simp;omega) (by simp only [List.mem_singleton];rintro p rfl ws hl;exact qEH m _ f (C42 f h) ws hl) rfl
 | near f r =>
  have l1:=qAR hm h.1
  have l2:=qAE h.far
  refine qCi m _ "near" [(qBc m f,qBq m f),(.int r,qBo r)] rfl (by decide) (by simp) (by simp;omega) ?_ rfl
  intro p hp ws hl
  rcases List.mem_cons.mp hp with rfl|hp
  ·exact qEH m _ f (C42 f h.1) ws hl
  ·obtain rfl:=List.mem_singleton.mp hp
   exact qDo _ r h.far ws hl
 | marked k=>exact qCi m _ "marked" [(.int (k:Int),qBo (k:Int))] rfl (by decide) (by simp) (by have:=qAE (qDb h);simp;omega) (by simp only [List.mem_singleton];rintro p rfl ws hl;exact qDo _ _ (qDb h) ws hl) rfl
 | touched k=>exact qCi m _ "touched" [(.int (k:Int),qBo (k:Int))] rfl (by decide) (by simp) (by have:=qAE (qDb h);simp;omega) (by simp only [List.mem_singleton];rintro p rfl ws hl;exact qDo _ _ (qDb h) ws hl) rfl
 | crosses f a b =>
  have l1:=qAR hm h.1
  have l2:=qAE (qDd h.2.1)
  have l3:=qAE (qDd h.2.2)
  refine qCi m _ "crosses" [(qBc m f,qBq m f),(.int a,qBo a),(.int b,qBo b)] rfl (by decide) (by simp) (by simp;omega) ?_ rfl
  intro p hp ws hl
  rcases List.mem_cons.mp hp with rfl|hp
  ·exact qEH m _ f (C42 f h.1) ws hl
  ·rcases List.mem_cons.mp hp with rfl|hp
   ·exact qDo _ a (qDd h.2.1) ws hl
   ·obtain rfl:=List.mem_singleton.mp hp
    exact qDo _ b (qDd h.2.2) ws hl
 | worthy w=>exact qCi m _ "worthy" [(.int w,qBo w)] rfl (by decide) (by simp) (by have:=qAE h.wo;simp;omega) (by simp only [List.mem_singleton];rintro p rfl ws hl;exact qDo _ _ h.wo ws hl) rfl
end
noncomputable abbrev TBA:List (Nat×Bool):=[(285,true),(325,true),(365,true),(405,true),(445,true),(485,true),(525,true),(565,true),(605,true),(645,true),(685,true),(725,true)]
noncomputable def el (m:Nat) (w:Wt):D:=.tup [wtD m w,.str (txW m w),.int (bnd w)]
theorem el0 (m:Nat) (w:Wt):ixP (el m w) (.int 0)=some (false,wtD m w):=rfl
theorem el1 (m:Nat) (w:Wt):ixP (el m w) (.int 1)=some (false,.str (txW m w)):=rfl
theorem el2 (m:Nat) (w:Wt):ixP (el m w) (.int 2)=some (false,.int (bnd w)):=rfl
section
variable {call:Nat->List D->Option R}
theorem qMo (m:Nat) (ds:List D) (hl:ds.length<1000) (x y:Wt) (hx:okS (txW m x)) (hy:okS (txW m y)) (w:Int) (hw:w=0∨w=1) (C44:∀(t:Str) (b l:Int),okS t->call 44 [.str t,.int b,.int l]=some (false,.str (br (decide (b<l)) t))) :
  ∃z σ',(z=.both x y∨z=.eith x y)/\qAp call [some (true,.lst (ds++[el m x]++[el m y])),some (false,.int w),none,none,none] f_law_pair.body=some (.nx σ')/\qAf σ' 0=some (true,.lst (ds++[el m z])):=by
 have l2:2<=lim:=qAW (by decide)
 have l3:3<=lim:=qAW (by decide)
 have x1:=C44 (txW m x) (bnd x) 1 hx
 have y1:=C44 (txW m y) (bnd y) 1 hy
 have y2:=C44 (txW m y) (bnd y) 2 hy
 rw [qQe] at x1 y1
 rw [qPB] at y2
 have k1:=qBJ (lo1 x) (txW m x)
 have k2:=qBJ (lo2 y) (txW m y)
 have k3:=qBJ (lo1 y) (txW m y)
 unfold okS at hx hy
 rcases hw with rfl|rfl
 ·have k4:(br (lo1 x) (txW m x)++s_ " and ").length<=300009:=by rw [qAD,qAk,show " and ".length=5 from rfl];omega
  have c1:qBr .add (.str (br (lo1 x) (txW m x))) (.str (Str.ofString " and "))=some (false,.str (br (lo1 x) (txW m x)++s_ " and ")):=qCr (B:=400000) (by omega) (by rw [qAk];decide) (by decide)
  have c2:qBr .add (.str (br (lo1 x) (txW m x)++s_ " and ")) (.str (br (lo2 y) (txW m y)))=some (false,.str (txW m (.both x y))):=qCr (B:=400000) (by omega) (by omega) (by decide)
  refine⟨.both x y,[some (true,.lst (ds++[el m (.both x y)])),some (false,.int 0),some (false,el m y),some (false,el m x),some (false,.str (txW m (.both x y)))],.inl rfl,qD3 (xs:=ds++[el m x]) (d:=el m y) rfl rfl (qD3 (xs:=ds) (d:=el m x) rfl rfl (qEP (x:=false) (by simp only [List.set_cons_zero,List.set_cons_succ,qAh,pk,qAf,List.getElem?_cons_succ,List.getElem?_cons_zero,Option.join_some,Option.bind_some,pkR,qAn,Option.map_some,qAe];rfl) ?_ rfl)),rfl⟩
  refine qAi (false,.str (txW m (.both x y))) (by simp only [List.set_cons_zero,List.set_cons_succ,qAg,pk,qAw,qAv,ag,qAX,qAf,List.getElem?_cons_succ,List.getElem?_cons_zero,Option.join_some,Option.bind_some,pkR,qAn,Option.map_some,el1,el2,qAz,x1,c1,y2,c2]) ?_
  exact qB0 (false,el m (.both x y)) (by simp only [List.set_cons_zero,List.set_cons_succ,qAF,Bool.and_false,qAV,qAC,qIp,qAX,pk,qAf,List.getElem?_cons_succ,List.getElem?_cons_zero,Option.join_some,Option.bind_some,pkR,qAn,Option.map_some,el0,qAr,List.length_cons,List.length_nil,Nat.reduceAdd,↓reduceIte,qCt,qA2,l3];rfl) rfl (qB2 (by omega)) rfl
 ·have k4:(txW m x++s_ " or ").length<=300009:=by rw [qAD,qAk,show " or ".length=4 from rfl];omega
  have c1:qBr .add (.str (txW m x)) (.str (Str.ofString " or "))=some (false,.str (txW m x++s_ " or ")):=qCr (B:=400000) (by omega) (by rw [qAk];decide) (by decide)
  have c2:qBr .add (.str (txW m x++s_ " or ")) (.str (br (lo1 y) (txW m y)))=some (false,.str (txW m (.eith x y))):=qCr (B:=400000) (by omega) (by omega) (by decide)
  refine⟨.eith x y,[some (true,.lst (ds++[el m (.eith x y)])),some (false,.int 1),some (false,el m y),some (false,el m x),some (false,.str (txW m (.eith x y)))],.inr rfl,qD3 (xs:=ds++[el m x]) (d:=el m y) rfl rfl (qD3 (xs:=ds) (d:=el m x) rfl rfl (qL6 (x:=false) (by simp only [List.set_cons_zero,List.set_cons_succ,qAh,pk,qAf,List.getElem?_cons_succ,List.getElem?_cons_zero,Option.join_some,Option.bind_some,pkR,qAn,Option.map_some,qAe];rfl) ?_ rfl)),rfl⟩
  refine qAi (false,.str (txW m (.eith x y))) (by simp only [List.set_cons_zero,List.set_cons_succ,qAg,pk,qAX,qAf,List.getElem?_cons_succ,List.getElem?_cons_zero,Option.join_some,Option.bind_some,pkR,qAn,Option.map_some,el1,c1,qAw,qAv,ag,el2,qAz,y1,c2]) ?_
  exact qB0 (false,el m (.eith x y)) (by simp only [List.set_cons_zero,List.set_cons_succ,qAF,Bool.and_false,qAV,qAC,qIp,qAX,pk,qAf,List.getElem?_cons_succ,List.getElem?_cons_zero,Option.join_some,Option.bind_some,pkR,qAn,Option.map_some,el0,qAr,List.length_cons,List.length_nil,Nat.reduceAdd,↓reduceIte,qCt,qA2,l3];rfl) rfl (qB2 (by omega)) rfl
theorem qPF (m:Nat) (w:Wt) (hc:call (wtF w) [wtD m w]=some (false,.str (txW m w))) (hk:call 47 [wtD m w]=some (true,.lst ((qEa w).map .bl))):qAp call [some (false,el m w),none,none] f_law_written.body=some (.rt (false,.bl true)):=by
 have i0:∀o1 o2:Option R,evE call [some (false,el m w),o1,o2] (.ix (.v 0) (.k (.int 0)))=some (false,wtD m w):=λo1 o2=>by simp only [qAX,pk,qAf,List.getElem?_cons_zero,Option.join_some,Option.bind_some,pkR,qAn,Option.map_some,el0]
 have ne:qJu .ne (.str (txW m w)) (.str (txW m w))=some (false,.bl false):=by
  rw [qHQ]
  simp
 obtain⟨σ1,h1,o1,o2,rfl⟩:=qCd (call:=call) (tg:=.one 1) (body:=[.set 2 false (.mc (.ix (.v 0) (.k (.int 0))) (PySem.Str.ofString "written") [(250,52),(285,53),(325,54),(365,55),(405,56),(445,57),(485,58),(525,59),(565,60),(605,61),(645,62),(685,63),(725,64)] []),.ite (.or (.not (.isi (.v 2) .str)) (.cmp .ne (.v 2) (.ix (.v 0) (.k (.int 1))))) [.ret (.k (.bl false))] []])
  (λ_ σ=>∃o1 o2:Option R,σ=[some (false,el m w),o1,o2]) 2 (λi=>.int (i:Nat)) [some (false,el m w),none,none] ⟨_,_,rfl⟩ (by
   rintro k σ hk ⟨o1,o2,rfl⟩
   refine⟨_,_,rfl,?_,some (false,.int (k:Int)),some (false,.str (txW m w)),rfl⟩
   refine qAi (false,.str (txW m w)) (qJo (b:=false) (w:=w) (i0 _ _) hc) ?_
   refine qAc (x:=false) ?_ rfl
   exact qJn (p:=false) (q:=false) (x:=false) (by simp only [List.set_cons_succ,List.set_cons_zero,qAF,Bool.and_false,qGn,qMg,pk,qAf,List.getElem?_cons_succ,List.getElem?_cons_zero,Option.join_some,Option.bind_some,pkR,qMi,Bool.not_true]) (by simp only [List.set_cons_succ,List.set_cons_zero,qAF,Bool.and_false,qAh,pk,qAf,List.getElem?_cons_succ,List.getElem?_cons_zero,Option.join_some,Option.bind_some,pkR,qAX,qAn,Option.map_some,el1,ne]))
 refine qDu (ds:=[.int 2]) (by simp only [qAs,pk,qAn,Option.map_some,qAA]) (qD8 (m:=2) (by decide)) h1 ?_
 have g:∀(tb:List (Nat×Bool)) (c:Bool),tb.lookup (cl w)=some c->evE call [some (false,el m w),o1,o2] (.iso (.ix (.v 0) (.k (.int 0))) tb)=some (false,.bl c):=λtb c h=>qFC (b:=false) (w:=w) (i0 _ _) h
 have gk:evE call [some (false,el m w),o1,o2] (.cntT (.call 47 [(.ix (.v 0) (.k (.int 0)))]))=some (false,.int 1):=by
  have hcl:evE call [some (false,el m w),o1,o2] (.call 47 [(.ix (.v 0) (.k (.int 0)))])=some (true,.lst ((qEa w).map .bl)):=by simp only [qAw,qAv,ag,qAX,pk,qAf,List.getElem?_cons_zero,Option.join_some,Option.bind_some,pkR,qAn,Option.map_some,el0,qAz,hk]
  rw [qKo,hcl]
  show (qDV ((qEa w).map .bl)).map (λbs=>((false,.int ((bs.countP id:Nat):Int)):R))=_
  rw [show (qEa w).map D.bl=(qEa w).map λb=>D.bl ((λb=>b) b) from rfl,qEB,List.map_id']
  show some (((false,.int (((qEa w).countP id:Nat):Int)):R))=_
  rw [qHc]
  rfl
 refine qAc (x:=false) ?_ ?_
 ·refine qJn (p:=false) (q:=false) (x:=false) ?_ ?_
  ·have:=g TBA true (by cases w with|atm a=>cases a<;>rfl|_=>rfl)
   show evE call _ (.not (.iso (.ix (.v 0) (.k (.int 0))) TBA))=_
   rw [qGn,this]
   rfl
  ·exact qGd (x:=.int 1) (y:=.int 1) (by show ((evE call _ (.cntT _)).map (·.2))=_;rw [gk];rfl) rfl rfl
 ·refine qAq (r:=(false,.bl true)) ?_ rfl
  have e1:∀l:Int,evE call [some (false,el m w),o1,o2] (.cmp .eq (.ix (.v 0) (.k (.int 2))) (.k (.int l)))=some (false,.bl (decide (bnd w=l))):=λl=>by simp only [qAh,pk,qAX,qAf,List.getElem?_cons_zero,Option.join_some,Option.bind_some,pkR,qAn,Option.map_some,el2,qAe,eqZ]
  refine qKf (x:=false) ?_ ?_
  ·refine qGd (x:=.bl (decide (bnd w=1))) (y:=.bl (decide (bnd w=1))) ?_ ?_ ?_
   ·show ((evE call _ (.iso _ _)).map (·.2))=_
    rw [g _ (decide (bnd w=1)) (by cases w with|atm a=>cases a<;>rfl|_=>rfl)]
    rfl
   ·rw [e1]
    rfl
   ·cases decide (bnd w=1)<;>rfl
  ·refine qGd (x:=.bl (decide (bnd w=0))) (y:=.bl (decide (bnd w=0))) ?_ ?_ ?_
   ·show ((evE call _ (.iso _ _)).map (·.2))=_
    rw [g _ (decide (bnd w=0)) (by cases w with|atm a=>cases a<;>rfl|_=>rfl)]
    rfl
   ·rw [e1]
    rfl
   ·cases decide (bnd w=0)<;>rfl
end
end Dw.T
namespace Dw.T
open Dw PySem
noncomputable def msr (ws:List Wt):Nat:=(ws.map us).sum
theorem qBF (a b:List Wt):msr (a++b)=msr a+msr b:=by unfold msr;rw [List.map_append,List.sum_append]
theorem qBE (w:Wt):msr [w]=us w:=by simp [msr]
theorem qHb (ws:List Wt):ws.length<=msr ws:=by
 induction ws with
 | nil=>exact Nat.le_refl _
 | cons w r ih=>have:=qD1 w;rw [show w::r=[w]++r from rfl,qBF,qBE,List.length_append];simp;omega
theorem qEU {ws:List Wt}{w:Wt}(h:w∈ws):us w<=msr ws:=by
 obtain⟨a,b,rfl⟩:=List.append_of_mem h
 rw [show a++w::b=a++([w]++b) from rfl,qBF,qBF,qBE]
 omega
theorem qLr {α:Type}:∀{l:List α},l≠[]->∃r x,l=r++[x]
 | l,h=>⟨l.dropLast,l.getLast h,(List.dropLast_concat_getLast h).symm⟩
theorem qNr {α:Type}{l:List α}(h:1<l.length):∃r x y,l=r++[x]++[y]:=by
 obtain⟨r,y,rfl⟩:=qLr (l:=l) (by intro z;subst z;simp at h)
 obtain⟨r',x,rfl⟩:=qLr (l:=r) (by intro z;subst z;simp at h)
 exact⟨r',x,y,rfl⟩
theorem qG1 {r:List Wt}{x y z:Wt}(hz:z=.both x y∨z=.eith x y) (h:∀w∈r++[x]++[y],qDa w):(∀w∈r++[z],qDa w)/\msr (r++[z])=msr (r++[x]++[y]):=by
 have hx:=h x (by simp)
 have hy:=h y (by simp)
 refine⟨λw hw=>?_,?_⟩
 ·rcases List.mem_append.mp hw with hw|hw
  ·exact h w (by simp [hw])
  ·obtain rfl:=List.mem_singleton.mp hw
   rcases hz with rfl|rfl<;>exact⟨hx,hy⟩
 ·rw [qBF,qBF,qBF,qBE,qBE,qBE]
  rcases hz with rfl|rfl
  ·show msr r+(us x+us y)=_
   omega
  ·show msr r+(us x+us y)=_
   omega
theorem qLn {α:Type}(f:α->D) (ws:List α):qJu .ne (.lst (ws.map f)) (.lst [])=some (false,.bl (!ws.isEmpty)):=by
 cases ws with
 | nil=>rfl
 | cons w r =>
  rw [List.map_cons,qHQ]
  split<;>rfl
section
variable {call:Nat->List D->Option R}
theorem qMn (s:Sc) (hm:s.m<=3) (c:Int) (ws:List Wt) (hws:∀w∈ws,qDa w) (hl:msr ws<=100) (C30:call 32 [.int c]=some (false,.int (qBM c))) (C37:∃a:At,AtOk a/\call 39 [.int c,scD s]=some (false,atD s.m a)) (C38:∀a:At,call 40 [atD s.m a]=some (false,atO s.m a))
  (C43:∀a:At,AtOk a->call 43 [atD s.m a]=some (false,.str (txA s.m a))) (C44:∀(t:Str) (b l:Int),okS t->call 44 [.str t,.int b,.int l]=some (false,.str (br (decide (b<l)) t)))
  (P:∀(ds:List D) (x y:Wt) (w:Int),ds.length<1000->okS (txW s.m x)->okS (txW s.m y)->(w=0∨w=1)->∃z,(z=.both x y∨z=.eith x y)/\call (45+HX) [.lst (ds++[el s.m x]++[el s.m y]),.int w]=some (true,.lst (ds++[el s.m z]))) :
  ∃ws' σ',ws'≠[]/\(∀w∈ws',qDa w)/\msr ws'<=msr ws+1/\qAp call [some (true,.lst (ws.map (el s.m))),some (false,.int c),some (false,scD s),none,none,none] f_law_push.body=some (.nx σ')/\qAf σ' 0=some (true,.lst (ws'.map (el s.m))):=by
 have d9:qAU 9=true:=by decide
 have d8:qAU 8=true:=by decide
 have d2:qAU 2=true:=by decide
 have l1:1<=lim:=qAW (by decide)
 have l3:3<=lim:=qAW (by decide)
 have lw:=qHb ws
 have okW:∀w∈ws,okS (txW s.m w):=λw hw=>okU hm (hws w hw) (by have:=qEU hw;omega)
 have bw:=qA4 ((qBM c).fdiv 9) 8 (by decide)
 generalize hw:((qBM c).fdiv 9).fmod 8=w at bw
 have hlen:biP .len [.lst (ws.map (el s.m))]=some (false,.int (ws.length:Int)):=by rw [qCC,List.length_map]
 have hnil:=qLn (el s.m) ws
 have e1:evE call [some (true,.lst (ws.map (el s.m))),some (false,.int c),some (false,scD s),some (false,.int w),none,none] (.and (.cmp .lt (.v 3) (.k (.int 4))) (.cmp .gt (.bi .len [(.v 0)]) (.k (.int 1))))=some (false,.bl (decide (w<4)&&decide ((1:Int)<(ws.length:Int)))):=qNT (x:=false) (y:=false) (by simp only [qAh,pk,qAf,List.getElem?_cons_succ,List.getElem?_cons_zero,Option.join_some,Option.bind_some,pkR,qAn,Option.map_some,qC7]) (by simp only [qAh,pk,qBB,qAs,qAf,List.getElem?_cons_zero,Option.join_some,Option.bind_some,pkR,qAA,hlen,Option.map_some,qAn,qLP])
 have e2:evE call [some (true,.lst (ws.map (el s.m))),some (false,.int c),some (false,scD s),some (false,.int w),none,none] (.and (.cmp .eq (.v 3) (.k (.int 4))) (.cmp .ne (.v 0) (.lst [])))=some (false,.bl (decide (w=4)&&!ws.isEmpty)):=qNT (x:=false) (y:=false) (by simp only [qAh,pk,qAf,List.getElem?_cons_succ,List.getElem?_cons_zero,Option.join_some,Option.bind_some,pkR,qAn,Option.map_some,qAe,eqZ]) (by simp only [qAh,pk,qAf,List.getElem?_cons_zero,Option.join_some,Option.bind_some,pkR,qBZ,qAr,List.length_nil,qL8,↓reduceIte,Option.map_some,hnil])
 have pre:∀z,qAp call [some (true,.lst (ws.map (el s.m))),some (false,.int c),some (false,scD s),some (false,.int w),none,none] [.ite (.and (.cmp .lt (.v 3) (.k (.int 4))) (.cmp .gt (.bi .len [(.v 0)]) (.k (.int 1)))) [.hnd 0 45 [(.bin .mod (.v 3) (.k (.int 2)))]] [.ite (.and (.cmp .eq (.v 3) (.k (.int 4))) (.cmp .ne (.v 0) (.lst []))) [.pop (.one 4) 0,.app 0 (.tup [(.mk ⟨725,[(PySem.Str.ofString "one")]⟩ [(.ix (.v 4) (.k (.int 0)))]),(.bin .add (.k (.str (PySem.Str.ofString "not "))) (.call 44 [(.ix (.v 4) (.k (.int 1))),(.ix (.v 4) (.k (.int 2))),(.k (.int 2))])),(.k (.int 2))])] [.set 5 false (.call 39 [(.v 1),(.v 2)]),.app 0 (.tup [(.call 40 [(.v 5)]),(.call 43 [(.v 5)]),(.k (.int 2))])]]]=z->qAp call [some (true,.lst (ws.map (el s.m))),some (false,.int c),some (false,scD s),none,none,none] f_law_push.body=z:=λz hz=>qAi (false,.int w) (by simp only [qAg,pk,qAw,qAv,ag,qAf,List.getElem?_cons_succ,List.getElem?_cons_zero,Option.join_some,Option.bind_some,agR,qAz,C30,Option.map_some,qAn,qAj,d9,↓reduceIte,qAd,d8,hw]) hz
 by_cases hA:w<4/\1<ws.length
 ·obtain⟨r,x,y,rfl⟩:=qNr hA.2
  obtain⟨z,hz,hc⟩:=P (r.map (el s.m)) x y (w.fmod 2) (by rw [List.length_map];have q:(r++[x]++[y]).length=r.length+2:=(by simp);omega) (okW x (by simp)) (okW y (by simp)) (by have:=qA4 w 2 (by decide);omega)
  obtain⟨p1,p2⟩:=qG1 hz hws
  refine⟨r++[z],[some (true,.lst (r.map (el s.m)++[el s.m z])),some (false,.int c),some (false,scD s),some (false,.int w),none,none],by simp,p1,by omega,pre _ ?_,?_⟩
  ·refine qEP (x:=false) (by rw [e1,decide_eq_true hA.1,decide_eq_true (by have:=hA.2;omega)];rfl) ?_ rfl
   refine qGy call _ (xs:=(r++[x]++[y]).map (el s.m)) (ys:=[.int (w.fmod 2)]) (b:=true) rfl (by simp only [qAC,qAg,pk,qAf,List.getElem?_cons_succ,List.getElem?_cons_zero,Option.join_some,Option.bind_some,pkR,qAn,Option.map_some,qAd,d2,↓reduceIte,qAr]) ?_ rfl
   rw [List.map_append,List.map_append]
   exact hc
  ·rw [List.map_append]
   rfl
 ·have hA':(decide (w<4)&&decide ((1:Int)<(ws.length:Int)))=false:=by
   by_cases q:w<4
   ·rw [decide_eq_true q,Bool.true_and]
    exact decide_eq_false (by have:¬1<ws.length:=λz=>hA ⟨q,z⟩;omega)
   ·rw [decide_eq_false q,Bool.false_and]
  rw [hA'] at e1
  by_cases hB:w=4/\ws≠[]
  ·obtain⟨rfl,hne⟩:=hB
   have hi:(!ws.isEmpty)=true:=by cases ws with|nil=>exact absurd rfl hne|cons _ _=>rfl
   rw [hi] at e2
   obtain⟨r,x,rfl⟩:=qLr hne
   have hx:=hws x (by simp)
   have ox:=okW x (by simp)
   have b2:=C44 (txW s.m x) (bnd x) 2 ox
   rw [qPB] at b2
   have kx:=qBJ (lo2 x) (txW s.m x)
   have c1:qBr .add (.str (Str.ofString "not ")) (.str (br (lo2 x) (txW s.m x)))=some (false,.str (txW s.m (.unl x))):=qCr (B:=400000) (by rw [qAk];decide) (by unfold okS at ox;omega) (by decide)
   refine⟨r++[.unl x],[some (true,.lst (r.map (el s.m)++[el s.m (.unl x)])),some (false,.int c),some (false,scD s),some (false,.int 4),some (false,el s.m x),none],by simp,λv hv=>?_,?_,pre _ ?_,by rw [List.map_append];rfl⟩
   ·rcases List.mem_append.mp hv with hv|hv
    ·exact hws v (by simp [hv])
    ·obtain rfl:=List.mem_singleton.mp hv
     exact hx
   ·rw [qBF,qBF,qBE,qBE]
    show msr r+(us x+1)<=_
    omega
   ·refine qL6 (x:=false) e1 (qEP (x:=false) e2 ?_ rfl) rfl
    refine qD3 (xs:=r.map (el s.m)) (d:=el s.m x) (by rw [List.map_append];rfl) rfl ?_
    exact qB0 (false,el s.m (.unl x)) (by simp only [List.set_cons_zero,List.set_cons_succ,qAV,qAC,qIp,qAX,pk,qAf,List.getElem?_cons_succ,List.getElem?_cons_zero,Option.join_some,Option.bind_some,pkR,qAn,Option.map_some,el0,qAr,List.length_cons,List.length_nil,Nat.reduceAdd,↓reduceIte,qAg,qAw,qAv,ag,el1,el2,qAz,b2,c1,l3];rfl) rfl (qB2 (by simp at lw ⊢;omega)) rfl
  ·have hB':(decide (w=4)&&!ws.isEmpty)=false:=by
    by_cases q:w=4
    ·cases ws with
     | nil=>rw [Bool.and_comm];rfl
     | cons a r=>exact absurd ⟨q,by simp⟩ hB
    ·rw [decide_eq_false q,Bool.false_and]
   rw [hB'] at e2
   obtain⟨a,ha,C37⟩:=C37
   have w34:=C38 a
   have w43:=C43 a ha
   refine⟨ws++[.atm a],[some (true,.lst (ws.map (el s.m)++[el s.m (.atm a)])),some (false,.int c),some (false,scD s),some (false,.int w),none,some (false,atD s.m a)],by simp,λv hv=>?_,?_,pre _ ?_,by rw [List.map_append];rfl⟩
   ·rcases List.mem_append.mp hv with hv|hv
    ·exact hws v hv
    ·obtain rfl:=List.mem_singleton.mp hv
     exact ha
   ·rw [qBF,qBE]
    show msr ws+1<=_
    omega
   ·refine qL6 (x:=false) e1 (qL6 (x:=false) e2 ?_ rfl) rfl
    refine qAi (false,atD s.m a) (by simp only [qAw,qAv,ag,qAf,List.getElem?_cons_succ,List.getElem?_cons_zero,Option.join_some,Option.bind_some,agR,qAz,C37]) ?_
    exact qB0 (false,el s.m (.atm a)) (by simp only [qAF,Bool.and_false,List.set_cons_succ,List.set_cons_zero,qAV,qAC,qAw,qAv,ag,qAf,List.getElem?_cons_succ,List.getElem?_cons_zero,Option.join_some,Option.bind_some,agR,qAz,w34,w43,qAn,qAr,List.length_cons,List.length_nil,Nat.reduceAdd,l3,↓reduceIte];rfl) rfl (qB2 (by simp at lw ⊢;omega)) rfl
theorem qKt (m:Nat) (hm:m<=3) (u:Th):∃ds,qAp call [some (false,.lst [thD m u]),none,none,none,none,none,none,none,none,none,none] f_law_poured.body=some (.rt (false,.tup ds)):=by
 have mn:∀a:Int,biP .min [.lst [.int a]]=some (false,.int a):=λa=>rfl
 have mx:∀a:Int,biP .max [.lst [.int a]]=some (false,.int a):=λa=>rfl
 have sm:∀a:Int,biP .sum [.lst [.int a]]=some (false,.int (a+0)):=λa=>rfl
 have l4:4<=lim:=qAW (by decide)
 have l8:8<=lim:=qAW (by decide)
 obtain⟨σ1,h1,o3,o5,o6,o7,L1,L2,_,_,rfl⟩:=qCd (call:=call) (tg:=.one 3) (body:=[.set 5 false (.compS (.ix (.ix (.ix (.v 0) (.k (.int 1))) (.v 1)) (.k (.int 0))) 1 [3] (.one 0) (.v 0)),.set 6 false (.compS (.ix (.ix (.ix (.v 0) (.k (.int 1))) (.v 1)) (.k (.int 1))) 1 [3] (.one 0) (.v 0)),.set 7 false (.compS (.ix (.ix (.ix (.v 0) (.k (.int 1))) (.v 1)) (.k (.int 2))) 1 [3] (.one 0) (.v 0)),.app 1 (.tup [(.bi .min [(.v 5)]),(.bi .max [(.v 6)]),(.bi .min [(.v 7)]),(.bi .max [(.v 7)])]),.app 2 (.tup [(.bi .max [(.v 5)]),(.bi .min [(.v 6)]),(.bi .max [(.v 7)]),(.bi .min [(.v 7)])])])
  (λk σ=>∃(o3 o5 o6 o7:Option R) (L1 L2:List D),L1.length=k/\L2.length=k/\σ=[some (false,.lst [thD m u]),some (true,.lst L1),some (true,.lst L2),o3,none,o5,o6,o7,none,none,none]) m (λi=>.int (i:Nat))
  [some (false,.lst [thD m u]),some (true,.lst []),some (true,.lst []),none,none,none,none,none,none,none,none] ⟨_,_,_,_,[],[],rfl,rfl,rfl⟩ (by
   rintro k σ hk ⟨o3,o5,o6,o7,L1,L2,k1,k2,rfl⟩
   have g:ixP (.tup (bx m λj=>sD (u.sw j))) (.int (k:Int))=some (false,sD (u.sw k)):=qJe (λj=>sD (u.sw j)) hk
   have cm:∀(i:Int) (f:Int) (σ:En),ixP (sD (u.sw k)) (.int i)=some (false,.int f)->qAf σ 0=some (false,.lst [thD m u])->qAf σ 3=some (false,.int (k:Int))->evE call σ (.compS (.ix (.ix (.ix (.v 0) (.k (.int 1))) (.v 1)) (.k (.int i))) 1 [3] (.one 0) (.v 0))=some (true,.lst [.int f]):=λi f σ hf h0 h3=>by
    refine qC3 (r:=(false,.lst [thD m u])) (σ':=[none,some (false,.int (k:Int))]) (by rw [qNP,h0];rfl) rfl (by unfold qBj;rw [List.map_cons,h3];rfl) ?_
    exact qBa call _ (thD m) (λ_=>.int f) [u] λu' hu=>⟨_,false,rfl,by obtain rfl:=List.mem_singleton.mp hu;simp only [List.set_cons_zero,qAX,pk,qAf,List.getElem?_cons_zero,Option.join_some,Option.bind_some,pkR,qAn,Option.map_some,th1,List.getElem?_cons_succ,g,hf]⟩
   refine⟨_,_,rfl,?_,some (false,.int (k:Int)),some (false,.lst [.int (u.sw k).1]),some (false,.lst [.int (u.sw k).2.1]),some (false,.lst [.int (u.sw k).2.2]),L1++[.tup [.int (u.sw k).1,.int (u.sw k).2.1,.int (u.sw k).2.2,.int (u.sw k).2.2]],L2++[.tup [.int (u.sw k).1,.int (u.sw k).2.1,.int (u.sw k).2.2,.int (u.sw k).2.2]],by simp [k1],by simp [k2],rfl⟩
   refine qAi (true,.lst [.int (u.sw k).1]) (cm 0 _ _ (sd0 _) rfl rfl) ?_
   refine qAi (true,.lst [.int (u.sw k).2.1]) (cm 1 _ _ (sd1 _) rfl rfl) ?_
   refine qAi (true,.lst [.int (u.sw k).2.2]) (cm 2 _ _ (sd2 _) rfl rfl) ?_
   refine qB0 (false,.tup [.int (u.sw k).1,.int (u.sw k).2.1,.int (u.sw k).2.2,.int (u.sw k).2.2]) (by simp only [List.set_cons_succ,List.set_cons_zero,qAF,Bool.and_true,qAV,qAC,qBB,qAs,pk,qAf,List.getElem?_cons_succ,List.getElem?_cons_zero,Option.join_some,Option.bind_some,pkR,qAA,mn,mx,qAr,List.length_cons,List.length_nil,Nat.reduceAdd,l4,↓reduceIte]) rfl (qB2 (by omega)) ?_
   exact qB0 (false,.tup [.int (u.sw k).1,.int (u.sw k).2.1,.int (u.sw k).2.2,.int (u.sw k).2.2]) (by simp only [List.set_cons_succ,List.set_cons_zero,qAF,Bool.and_true,qAV,qAC,qBB,qAs,pk,qAf,List.getElem?_cons_succ,List.getElem?_cons_zero,Option.join_some,Option.bind_some,pkR,qAA,mx,mn,qAr,List.length_cons,List.length_nil,Nat.reduceAdd,l4,↓reduceIte]) rfl (qB2 (by omega)) rfl)
 have hb:qBr .bor (.int 0) (.int (u.mr:Int))=some (false,.int ((0 ||| u.mr:Nat):Int)):=by rw [qDW,if_pos ⟨by omega,by omega⟩];rfl
 have ha:qBr .band (.int 65535) (.int (u.mr:Int))=some (false,.int ((65535 &&& u.mr:Nat):Int)):=by rw [qH8,if_pos ⟨by omega,by omega⟩];rfl
 have h2:qBp call [.set 8 false (.bin .bor (.v 8) (.ix (.v 4) (.k (.int 2)))),.set 9 false (.bin .band (.v 9) (.ix (.v 4) (.k (.int 2))))] (.one 4) [thD m u] [some (false,.lst [thD m u]),some (true,.lst L1),some (true,.lst L2),o3,none,o5,o6,o7,some (false,.int 0),some (false,.int 65535),none]=some (.nx [some (false,.lst [thD m u]),some (true,.lst L1),some (true,.lst L2),o3,some (false,thD m u),o5,o6,o7,some (false,.int ((0 ||| u.mr:Nat):Int)),some (false,.int ((65535 &&& u.mr:Nat):Int)),none]):=by
  have:qAp call [some (false,.lst [thD m u]),some (true,.lst L1),some (true,.lst L2),o3,some (false,thD m u),o5,o6,o7,some (false,.int 0),some (false,.int 65535),none] [.set 8 false (.bin .bor (.v 8) (.ix (.v 4) (.k (.int 2)))),.set 9 false (.bin .band (.v 9) (.ix (.v 4) (.k (.int 2))))]=some (.nx [some (false,.lst [thD m u]),some (true,.lst L1),some (true,.lst L2),o3,some (false,thD m u),o5,o6,o7,some (false,.int ((0 ||| u.mr:Nat):Int)),some (false,.int ((65535 &&& u.mr:Nat):Int)),none]):=by
   refine qAi (false,.int ((0 ||| u.mr:Nat):Int)) (by simp only [qAg,pk,qAf,List.getElem?_cons_succ,List.getElem?_cons_zero,Option.join_some,Option.bind_some,pkR,qAX,qAn,Option.map_some,th2,hb]) ?_
   exact qAi (false,.int ((65535 &&& u.mr:Nat):Int)) (by simp only [qAF,Bool.and_false,List.set_cons_succ,List.set_cons_zero,qAg,pk,qAf,List.getElem?_cons_succ,List.getElem?_cons_zero,Option.join_some,Option.bind_some,pkR,qAX,qAn,Option.map_some,th2,ha]) rfl
  rw [qBV,qH7,Option.bind_some]
  exact (congrArg (λq=>Option.bind q _) this).trans rfl
 have g0:ixP (.lst [thD m u]) (.int 0)=some (false,thD m u):=by rw [qHe,qJd];rfl
 have lm:biP .len [.tup (bx m λj=>sD (u.sw j))]=some (false,.int (m:Int)):=by rw [qJz,qH6]
 have lt:biP .len [.lst [thD m u]]=some (false,.int 1):=rfl
 have hw:∀o4 o8 o9:Option R,evE call [some (false,.lst [thD m u]),some (true,.lst L1),some (true,.lst L2),o3,o4,o5,o6,o7,o8,o9,none] (.compS (.ix (.v 0) (.k (.int 3))) 1 [] (.one 0) (.v 0))=some (true,.lst [.int u.wo]):=λo4 o8 o9 =>
  qC3 (r:=(false,.lst [thD m u])) rfl rfl rfl (qBa call _ (thD m) (λ_=>.int u.wo) [u] λu' hu=>⟨_,false,rfl,by obtain rfl:=List.mem_singleton.mp hu;simp only [qBj,List.replicate_succ,List.replicate_zero,qAf,List.map_nil,List.cons_append,List.nil_append,List.set_cons_zero,qAX,pk,List.getElem?_cons_zero,Option.join_some,Option.bind_some,pkR,qAn,Option.map_some,th3]⟩)
 refine⟨[.tup L1,.tup L2,.int ((0 ||| u.mr:Nat):Int),.int ((65535 &&& u.mr:Nat):Int),.int 1,.int u.wo,.int u.wo,.int (u.wo+0)],?_⟩
 refine qAi (true,.lst []) (by simp only [qBZ,qAr,List.length_nil,qL8,↓reduceIte]) ?_
 refine qAi (true,.lst []) (by simp only [qAF,Bool.and_true,List.set_cons_succ,List.set_cons_zero,qBZ,qAr,List.length_nil,qL8,↓reduceIte]) ?_
 refine qDu (ds:=[.int (m:Int)]) (by simp only [qAF,Bool.and_true,List.set_cons_succ,List.set_cons_zero,qAs,pk,qBB,qAX,qAf,List.getElem?_cons_zero,Option.join_some,Option.bind_some,pkR,qAn,Option.map_some,g0,th1,qAA,lm]) (qD8 (by omega)) h1 ?_
 refine qAi (false,.int 0) (by simp only [qAn]) ?_
 refine qAi (false,.int 65535) (by simp only [qAF,Bool.and_false,List.set_cons_succ,List.set_cons_zero,qAn]) ?_
 refine qEO (r:=(false,.lst [thD m u])) rfl rfl h2 ?_
 refine qAi (true,.lst [.int u.wo]) (hw _ _ _) ?_
 exact qAq (r:=(false,_)) (by simp only [qBO,qAF,Bool.and_true,List.set_cons_succ,List.set_cons_zero,qAV,qAC,qBB,qAs,pk,qAf,List.getElem?_cons_succ,List.getElem?_cons_zero,Option.join_some,Option.bind_some,pkR,qAA,qDX,qCt,qA2,lt,mn,mx,sm,qAr,List.length_cons,List.length_nil,Nat.reduceAdd,l8,↓reduceIte]) rfl
end
end Dw.T
namespace Dw.T
open Dw PySem
theorem qPc:tab.length<=HX:=by decide
theorem qOb {k:Nat}(h:k<=100):k<big:=Nat.lt_of_lt_of_le (show k<2^10 by omega) (Nat.pow_le_pow_right (by decide) (by decide))
noncomputable def qFM:D:=.obj ⟨250,[]⟩ []
section
variable {call:Nat->List D->Option R}
structure V24 (call:Nat->List D->Option R):Prop where
 cell:∀(ns:List Int) (k:Nat),call 31 [.lst (ns.map .int),.int (k:Int)]=some (false,.int (qBK ns k))
 thing:∀(c:Int) (s:Sc),2 * c.natAbs<qCX->ScOk s->∃t:Th,call 35 [.int c,scD s]=some (false,thD s.m t)
 w1:∀(m:Nat) (u:Th) (t:Int),call 50 [qFM,thD m u,.int t]=some (false,.bl false)
 w2:∀(ds:List D) (t:Int),call 51 [qFM,.tup ds,.int t]=some (false,.str (Str.ofString "none"))
 w3:call 52 [qFM]=some (false,.str (Str.ofString ""))
 pour:∀(m:Nat) (u:Th),m<=3->∃ds,call 41 [.lst [thD m u]]=some (false,.tup ds)
 pair:∀(m:Nat) (ds:List D) (x y:Wt) (w:Int),ds.length<1000->okS (txW m x)->okS (txW m y)->(w=0∨w=1)->∃z,(z=.both x y∨z=.eith x y)/\call (45+HX) [.lst (ds++[el m x]++[el m y]),.int w]=some (true,.lst (ds++[el m z]))
 push:∀(s:Sc) (c:Int) (ws:List Wt),ScOk s->2 * c.natAbs<qCX->(∀w∈ws,qDa w)->msr ws<=100 ->
  ∃ws',ws'≠[]/\(∀w∈ws',qDa w)/\msr ws'<=msr ws+1/\call (46+HX) [.lst (ws.map (el s.m)),.int c,scD s]=some (true,.lst (ws'.map (el s.m)))
 wr:∀(m:Nat) (w:Wt),m<=3->qDa w->us w<=51->call 48 [el m w]=some (false,.bl true)
theorem qGj (V:V24 call) (m:Nat) (hm:m<=3) (pre post:List (Option R)) (hp:pre.length=4):∀(k:Nat) (ws:List Wt) (fuel:Nat),ws.length=k+1->k<fuel->k<900->(∀w∈ws,qDa w)->msr ws<=51 ->
  ∃w,qDa w/\us w<=51/\qDq (fun σ'=>evE call σ' (.cmp .gt (.bi .len [(.v 4)]) (.k (.int 1)))) (fun σ'=>qAp call σ' [.hnd 4 45 [(.bin .mod (.bi .len [(.v 4)]) (.k (.int 2)))]]) fuel (pre++some (true,.lst (ws.map (el m)))::post)=some (.nx (pre++some (true,.lst ([w].map (el m)))::post))
 | k,ws,0,_,hf,_,_,_=>absurd hf (Nat.not_lt_zero _)
 | k,ws,fuel+1,hl,hf,hk,hws,hu=>by
  have g:∀ws:List Wt,qAf (pre++some (true,.lst (ws.map (el m)))::post) 4=some (true,.lst (ws.map (el m))):=λws=>by
   unfold qAf
   rw [List.getElem?_append_right (by omega),hp]
   rfl
  have hlen:biP .len [.lst (ws.map (el m))]=some (false,.int ((k+1:Nat):Int)):=by rw [qCC,List.length_map,hl]
  have hb:evE call (pre++some (true,.lst (ws.map (el m)))::post) (.bi .len [(.v 4)])=some (false,.int ((k+1:Nat):Int)):=qNR (x:=.lst (ws.map (el m))) (by show (qAf _ 4).bind pkR=_;rw [g ws];rfl) hlen
  have hc:evE call (pre++some (true,.lst (ws.map (el m)))::post) (.cmp .gt (.bi .len [(.v 4)]) (.k (.int 1)))=some (false,.bl (decide ((1:Int)<((k+1:Nat):Int)))):=qGd (x:=.int ((k+1:Nat):Int)) (y:=.int 1) (qMW hb) rfl rfl
  unfold qDq
  cases k with
  | zero =>
   obtain⟨w,rfl⟩:=List.length_eq_one_iff.mp hl
   refine⟨w,hws w (by simp),by rw [qBE] at hu;exact hu,?_⟩
   simp only [hc]
   rfl
  | succ k =>
   obtain⟨r,x,y,rfl⟩:=qNr (l:=ws) (by omega)
   have okW:∀w∈r++[x]++[y],okS (txW m w):=λw hw=>okU hm (hws w hw) (by have:=qEU hw;omega)
   obtain⟨z,hz,hcall⟩:=V.pair m (r.map (el m)) x y ((((k+1+1:Nat):Int)).fmod 2) (by simp at hl ⊢;omega) (okW x (by simp)) (okW y (by simp)) (by have:=qA4 (((k+1+1:Nat):Int)) 2 (by decide);omega)
   obtain⟨p1,p2⟩:=qG1 hz hws
   obtain⟨w,q1,q2,q3⟩:=qGj V m hm pre post hp k (r++[z]) fuel (by simp at hl ⊢;omega) (by omega) (by omega) p1 (by omega)
   refine⟨w,q1,q2,?_⟩
   have d2:qAU 2=true:=by decide
   have hbody:qAp call (pre++some (true,.lst ((r++[x]++[y]).map (el m)))::post) [.hnd 4 45 [(.bin .mod (.bi .len [(.v 4)]) (.k (.int 2)))]]=some (.nx (pre++some (true,.lst ((r++[z]).map (el m)))::post)):=by
    refine qGy call _ (xs:=(r++[x]++[y]).map (el m)) (ys:=[.int ((((k+1+1:Nat):Int)).fmod 2)]) (zs:=(r++[z]).map (el m)) (b:=true) (g _) ?_ ?_ ?_
    ·rw [qAC,qAg,qMW hb]
     simp only [qAn,pk,Option.map_some,qAd,d2,if_true,qAr]
    ·rw [List.map_append,List.map_append,List.map_append]
     exact hcall
    ·have e:∀(l:List (Option R)) (v:Option R),(l++some (true,.lst ((r++[x]++[y]).map (el m)))::post).set l.length v=l++v::post:=λl v=>by simp
     rw [qJk,<-hp]
     exact congrArg (λq=>some (Ou.nx q)) (e pre _)
   simp only [hc]
   have hd:decide ((1:Int)<((k+1+1:Nat):Int))=true:=decide_eq_true (by omega)
   rw [hd,Option.bind_some]
   simp only [qOB]
   rw [hbody,Option.bind_some]
   exact q3
theorem qPx (V:V24 call) (m:Nat) (hm:m<=3) (a0 a1 a2 a3 o5:Option R):∀(ws:List Wt) (o6:Option R),(∀w∈ws,qDa w/\us w<=51) ->
  ∃o6',qCb (fun σ'=>evE call σ' (.not (.call 48 [(.v 6)]))) (fun σ'=>qAp call σ' [.ret (.k (.bl false))]) 6 (ws.map (el m)) [a0,a1,a2,a3,none,o5,o6]=some (.nx [a0,a1,a2,a3,none,o5,o6'])
 | [],o6,_=>⟨o6,rfl⟩
 | w::ws,o6,h=>by
  obtain⟨o6',h'⟩:=qPx V m hm a0 a1 a2 a3 o5 ws (some (false,el m w)) λv hv=>h v (List.mem_cons_of_mem _ hv)
  have h0:=h w List.mem_cons_self
  have c:=V.wr m w hm h0.1 h0.2
  have e:evE call [a0,a1,a2,a3,none,o5,some (false,el m w)] (.not (.call 48 [(.v 6)]))=some (false,.bl false):=by simp only [qGn,qAw,qAv,ag,qAf,List.getElem?_cons_succ,List.getElem?_cons_zero,Option.join_some,Option.bind_some,agR,qAz,c,Bool.not_true]
  refine⟨o6',?_⟩
  rw [List.map_cons]
  show (evE call [a0,a1,a2,a3,none,o5,some (false,el m w)] (.not (.call 48 [(.v 6)]))).bind _=_
  rw [e]
  exact h'
theorem qO7 (V:V24 call) (s:Sc) (ok:ScOk s) (ns:List Int) (hl:ns.length<=63) (hh:∀i∈ns,2 * i.natAbs<qCX) (C34:call 34 [.lst (ns.map .int)]=some (false,scD s)) :
  qAp call [some (false,.lst (ns.map .int)),none,none,none,none,none,none] f_law.body=some (.rt (false,.bl true)):=by
 have hm3:s.m<=3:=by have:=ok.m;omega
 have l1:1<=lim:=qAW (by decide)
 have b0:2 * (0:Int).natAbs<qCX:=Nat.lt_of_lt_of_le (show 2 * (0:Int).natAbs<2^10 by decide) (Nat.pow_le_pow_right (by decide) (by decide))
 have hcz:2 * (qBK ns 4).natAbs<qCX:=by
  unfold qBK
  cases e:ns[4]? with
  | none=>exact b0
  | some i=>exact hh i (List.mem_of_getElem? e)
 obtain⟨u,hu⟩:=V.thing (qBK ns 4) s hcz ok
 have hcell:call 31 [.lst (ns.map .int),.int 4]=some (false,.int (qBK ns 4)):=V.cell ns 4
 have hcut:qKh (ns.map .int) (some 4) (some 54)=((ns.drop 4).take 50).map .int:=qJq ns 4 54 (by decide)
 obtain⟨cs,ecs,hcs,lcs,l0⟩:∃cs:List Int,[D.int 0]++((ns.drop 4).take 50).map .int=cs.map .int/\(∀i∈cs,2 * i.natAbs<qCX)/\cs.length<=51/\1<=cs.length:=by
  refine⟨[0]++(ns.drop 4).take 50,by rw [List.map_append];rfl,λi hi=>?_,by simp;omega,by simp⟩
  rcases List.mem_append.mp hi with hi|hi
  ·obtain rfl:=List.mem_singleton.mp hi
   exact b0
  ·exact hh i (List.mem_of_mem_drop (List.mem_of_mem_take hi))
 have hadd:qBr .add (.lst [.int 0]) (.lst (((ns.drop 4).take 50).map .int))=some (true,.lst (cs.map .int)):=by
  rw [<-ecs]
  show (if _+_<=lim then _ else _)=_
  rw [if_pos (qAW (by simp;omega))]
 obtain⟨pd,hpd⟩:=V.pour s.m u hm3
 obtain⟨σ1,h1,o5,ws,g1,g2,g3,rfl⟩:=qCY (call:=call) (tg:=.one 5) (body:=[.hnd 4 46 [(.v 5),(.v 1)]])
  (λk σ=>∃(o5:Option R) (ws:List Wt),(1<=k->ws≠[])/\(∀w∈ws,qDa w)/\msr ws<=k/\σ=[some (false,.lst (ns.map .int)),some (false,scD s),some (false,thD s.m u),some (false,qFM),some (true,.lst (ws.map (el s.m))),o5,none]) (cs.map .int) 0
  [some (false,.lst (ns.map .int)),some (false,scD s),some (false,thD s.m u),some (false,qFM),some (true,.lst []),none,none] ⟨none,[],by intro z;exact absurd z (by decide),by simp,Nat.zero_le _,rfl⟩ (by
   rintro k d σ hk ⟨o5,ws,g1,g2,g3,rfl⟩
   rw [List.getElem?_map] at hk
   obtain⟨c,hc,rfl⟩:=Option.map_eq_some_iff.mp hk
   have hk51:k<cs.length:=(List.getElem?_eq_some_iff.mp hc).1
   obtain⟨ws',p1,p2,p3,p4⟩:=V.push s c ws ok (hcs c (List.mem_of_getElem? hc)) g2 (by omega)
   refine⟨_,_,rfl,?_,some (false,.int c),ws',λ_=>p1,p2,by omega,rfl⟩
   exact qGy call _ (xs:=ws.map (el s.m)) (ys:=[.int c,scD s]) (zs:=ws'.map (el s.m)) (b:=true) rfl rfl p4 rfl)
 rw [List.length_map,Nat.zero_add] at g1 g3
 have hne:=g1 l0
 have hu51:∀w∈ws,qDa w/\us w<=51:=λw hw=>⟨g2 w hw,by have:=qEU hw;omega⟩
 obtain⟨o6,h2⟩:=qPx V s.m hm3 (some (false,.lst (ns.map .int))) (some (false,scD s)) (some (false,thD s.m u)) (some (false,qFM)) o5 ws none hu51
 have lw:=qHb ws
 obtain⟨k,hk⟩:∃k,ws.length=k+1:=⟨ws.length - 1,by have:=List.length_pos_iff.mpr hne;omega⟩
 obtain⟨w,q1,q2,q3⟩:=qGj V s.m hm3 [some (false,.lst (ns.map .int)),some (false,scD s),some (false,thD s.m u),some (false,qFM)] [o5,o6] rfl k ws big hk (qOb (by omega)) (by omega) g2 (by omega)
 have cw:=V.wr s.m w hm3 q1 q2
 refine qAi (false,scD s) (by simp only [qAw,qAv,ag,qAf,List.getElem?_cons_zero,Option.join_some,Option.bind_some,agR,qAz,C34]) ?_
 refine qAi (false,thD s.m u) (by simp only [qAF,Bool.and_false,List.set_cons_succ,List.set_cons_zero,qAw,qAv,ag,qAf,List.getElem?_cons_zero,Option.join_some,Option.bind_some,agR,qAn,Option.map_some,qAz,hcell,List.getElem?_cons_succ,hu]) ?_
 refine qAi (false,qFM) (by simp only [qAF,Bool.and_false,List.set_cons_succ,List.set_cons_zero,qIp,qAr,List.length_nil,↓reduceIte];rfl) ?_
 refine qAc (x:=false) ?_ ?_
 ·refine qJn (p:=false) (q:=false) (x:=false) ?_ ?_
  ·have e:evE call [some (false,.lst (ns.map .int)),some (false,scD s),some (false,thD s.m u),some (false,qFM),none,none,none] (.mc (.v 3) (Str.ofString "suits") [(250,50)] [(.v 2),(.ix (.v 1) (.k (.int 4)))])=some (false,.bl false):=qOx call _ (b:=false) (kn:=⟨250,[]⟩) (os:=[]) rfl rfl rfl (ys:=[thD s.m u,.int s.bt]) (by simp only [qAC,qCt,qA2,qAf,List.getElem?_cons_succ,List.getElem?_cons_zero,Option.join_some,qAX,pk,Option.bind_some,pkR,qAn,Option.map_some,sc4,qAr]) (V.w1 s.m u s.bt)
   show evE call _ (.isC true (.mc (.v 3) (Str.ofString "suits") [(250,50)] [(.v 2),(.ix (.v 1) (.k (.int 4)))]) (.bl false))=_
   rw [qE1]
   exact (congrArg (λq=>Option.bind (Option.map (λx:R=>x.2) q) λx=>isD true x (.bl false)) e).trans rfl
  ·have e:evE call [some (false,.lst (ns.map .int)),some (false,scD s),some (false,thD s.m u),some (false,qFM),none,none,none] (.mc (.v 3) (Str.ofString "written") TBw [])=some (false,.str (Str.ofString "")):=qOx call _ (b:=false) (kn:=⟨250,[]⟩) (os:=[]) rfl rfl rfl (ys:=[]) rfl V.w3
   exact qGd (x:=.str (Str.ofString "")) (y:=.str (Str.ofString "")) (congrArg (Option.map (λx:R=>x.2)) e) rfl rfl
 refine qAc (x:=false) ?_ ?_
 ·have e:evE call [some (false,.lst (ns.map .int)),some (false,scD s),some (false,thD s.m u),some (false,qFM),none,none,none] (.mc (.v 3) (Str.ofString "verdict") [(250,51)] [(.call 41 [(.lst [(.v 2)])]),(.ix (.v 1) (.k (.int 4)))])=some (false,.str (Str.ofString "none")):=qOx call _ (b:=false) (kn:=⟨250,[]⟩) (os:=[]) rfl rfl rfl (ys:=[.tup pd,.int s.bt]) (by simp only [qAC,qAw,qAv,ag,qBZ,qCt,qA2,qAf,List.getElem?_cons_succ,List.getElem?_cons_zero,Option.join_some,qAr,List.length_cons,List.length_nil,Nat.reduceAdd,l1,↓reduceIte,Option.map_some,qAz,hpd,qAX,pk,Option.bind_some,pkR,qAn,sc4]) (V.w2 pd s.bt)
  exact qGd (x:=.str (Str.ofString "none")) (y:=.str (Str.ofString "none")) (congrArg (Option.map (λx:R=>x.2)) e) rfl rfl
 refine qAi (true,.lst []) (by simp only [qAF,Bool.and_false,List.set_cons_succ,List.set_cons_zero,qBZ,qAr,List.length_nil,qL8,↓reduceIte]) ?_
 refine qEO (r:=(true,.lst (cs.map .int))) (by simp only [qAF,Bool.and_false,List.set_cons_succ,List.set_cons_zero,Bool.and_true,qAg,pk,qBZ,qAC,qAn,qAr,List.length_cons,List.length_nil,Nat.reduceAdd,l1,↓reduceIte,Option.map_some,qMe,qAf,List.getElem?_cons_zero,Option.join_some,Option.bind_some,pkR,qGm,qNh,qOL,hcut,hadd]) rfl h1 ?_
 refine qKB call _ (xs:=ws.map (el s.m)) (σ':=[some (false,.lst (ns.map .int)),some (false,scD s),some (false,thD s.m u),some (false,qFM),none,o5,o6]) rfl (by decide) h2 ?_
 refine qMx (o:=.nx [some (false,.lst (ns.map .int)),some (false,scD s),some (false,thD s.m u),some (false,qFM),some (true,.lst ([w].map (el s.m))),o5,o6]) q3 ?_
 have g0:ixP (.lst ([w].map (el s.m))) (.int 0)=some (false,el s.m w):=by rw [List.map_cons,qHe,qJd];rfl
 exact qAq (r:=(false,.bl true)) (by simp only [qBO,List.map_cons,List.map_nil,qAw,qAv,ag,qAX,pk,qAf,List.getElem?_cons_succ,List.getElem?_cons_zero,Option.join_some,Option.bind_some,pkR,qAn,Option.map_some,qHe,qJd,qAz,cw]) rfl
end
theorem qFI (n:Nat) (c:Int) (hc:2 * c.natAbs<qCX):qAH tab (n+1) 32 [.int c]=some (false,.int (qBM c)):=qAo t32 rfl rfl (qMm c hc)
theorem qH4 (n:Nat) (l:Int) (h0:0<=l) (h1:l<prm):qAH tab (n+1) 33 [.int l]=some (false,.int (qBQ l)):=qAo t33 rfl rfl (qMp l ⟨h0,h1⟩)
theorem qN2 (n:Nat) (c:Int) (s:Sc) (hc:2 * c.natAbs<qCX) (ok:ScOk s):∃a:At,AtOk a/\qAH tab (n+3) 39 [.int c,scD s]=some (false,atD s.m a):=by
 obtain⟨a,h1,h2⟩:=qMr (call:=qAH tab (n+2)) c s ok (qFI _ c hc) (λl h0 h1=>qH4 _ l h0 h1) (by
   obtain⟨f,q1,q2⟩:=qIv (call:=qAH tab (n+1)) c s ok (qFI _ c hc) λl h0 h1=>qH4 _ l h0 h1
   exact⟨f,q1,qAo t36 rfl rfl q2⟩) (λl=>by
   obtain⟨k,q0,q⟩:=qFS (call:=qAH tab (n+1)) l
   exact⟨k,q0,qAo t37 rfl rfl q⟩) λl bt hb=>by
   obtain⟨a,b,q1,q2,q3⟩:=qIu (call:=qAH tab (n+1)) l bt hb
   exact⟨a,b,q1,q2,qAo t38 rfl rfl q3⟩
 exact⟨a,h1,qAo t39 rfl rfl h2⟩
theorem qNZ (n m:Nat) (a:At):qAH tab (n+1) 40 [atD m a]=some (false,atO m a):=qAo t40 rfl (by cases a<;>rfl) (qMk m a)
theorem qH5 (n:Nat) (t:Str) (b l:Int) (h:okS t):qAH tab (n+1) 44 [.str t,.int b,.int l]=some (false,.str (br (decide (b<l)) t)):=qAo t44 rfl rfl (qKw t h b l)
theorem qKi (n m:Nat) (ds:List D) (x y:Wt) (w:Int) (hl:ds.length<1000) (hx:okS (txW m x)) (hy:okS (txW m y)) (hw:w=0∨w=1):∃z,(z=.both x y∨z=.eith x y)/\qAH tab (n+2) (45+HX) [.lst (ds++[el m x]++[el m y]),.int w]=some (true,.lst (ds++[el m z])):=by
 obtain⟨z,σ',hz,h1,h2⟩:=qMo (call:=qAH tab (n+1)) m ds hl x y hx hy w hw λt b l h=>qH5 n t b l h
 exact⟨z,hz,qH1 qPc t45 rfl rfl h1 h2⟩
theorem qN1 (n m:Nat) (hm:m<=3) (a:At) (h:AtOk a):qAH tab (n+2) 43 [atD m a]=some (false,.str (txA m a)):=
 qAo (n:=n+1) t43 rfl (by cases a<;>rfl) (qMq m hm a h λf hf=>qAo t42 rfl rfl (qFT m hm f hf))
theorem qN0 (n:Nat) (s:Sc) (ok:ScOk s) (c:Int) (hc:2 * c.natAbs<qCX) (ws:List Wt) (hws:∀w∈ws,qDa w) (hl:msr ws<=100) :
  ∃ws',ws'≠[]/\(∀w∈ws',qDa w)/\msr ws'<=msr ws+1/\qAH tab (n+5) (46+HX) [.lst (ws.map (el s.m)),.int c,scD s]=some (true,.lst (ws'.map (el s.m))):=by
 have hm3:s.m<=3:=by have:=ok.m;omega
 obtain⟨ws',σ',h1,h2,h3,h4,h5⟩:=qMn (call:=qAH tab (n+4)) s hm3 c ws hws hl (qFI _ c hc) (qN2 (n+1) c s hc ok) (λa=>qNZ (n+3) s.m a) (λa ha=>qN1 (n+2) s.m hm3 a ha) (λt b l h=>qH5 (n+3) t b l h) λds x y w hl hx hy hw=>qKi (n+2) s.m ds x y w hl hx hy hw
 exact⟨ws',h1,h2,h3,qH1 qPc t46 rfl rfl h4 h5⟩
theorem qQc (n m:Nat) (w:Wt) (hm:m<=3) (h:qDa w) (hu:us w<=51):qAH tab (n+103) 48 [el m w]=some (false,.bl true):=by
 have q:=qBA m hm w h (by omega) (n+(100 - 2 * dp w))
 have d:=qE4 w
 rw [show n+(100 - 2 * dp w)+2 * dp w+2=n+102 by omega] at q
 exact qAo (n:=n+102) t48 rfl rfl (qPF m w q (qAo (n:=n+101) t47 rfl (qOk _ _ _) (qKu m w)))
theorem c_law24 (n:Nat) (ns:List Int) (hl:ns.length<=63) (hh:∀i∈ns,2 * i.natAbs<qCX):qAH tab (n+104) 49 [.lst (ns.map .int)]=some (false,.bl true):=by
 obtain⟨s,ok,e⟩:=qKs (call:=qAH tab (n+102)) ns hh λk=>qAo t31 rfl rfl (qJP ns k)
 refine qAo (n:=n+103) t49 rfl rfl (qO7 ⟨λns k=>qAo (n:=n+102) t31 rfl rfl (qJP ns k),λc s hc ok=>?_,λm u t=>qAo (n:=n+102) t50 rfl rfl rfl,λds t=>qAo (n:=n+102) t51 rfl rfl rfl,qAo (n:=n+102) t52 rfl rfl rfl,λm u hm=>?_,λm ds x y w hl hx hy hw=>qKi (n+101) m ds x y w hl hx hy hw,λs c ws ok hc hws hl=>qN0 (n+98) s ok c hc ws hws hl,λm w hm hw hu=>qQc n m w hm hw hu⟩ s ok ns hl hh (qAo (n:=n+102) t34 rfl rfl e))
 ·obtain⟨t,h1,h2⟩:=qFR (call:=qAH tab (n+102)) c hc s ok (qFI _ c hc) λl h0 h1=>qH4 _ l h0 h1
  exact⟨t,qAo (n:=n+102) t35 rfl rfl h2⟩
 ·obtain⟨ds,h⟩:=qKt (call:=qAH tab (n+102)) m hm u
  exact⟨ds,qAo (n:=n+102) t41 rfl rfl h⟩
end Dw.T
namespace Dw.K24
open PySem L2 Dw Dw.T
open PySem.W (nsIn fnOf codeIn keepIn findIn mg_of mg_none_of Frag)
def top (i:Nat):Stmt:=PySem.Challenge.pw_driftwood_k24_wants_written.main.body.getD i (.Pass ⟨0,0,0,0⟩)
def cb:Stmt->List Stmt|.ClassDef _ _ _ b _ _ _ _ _ _ _=>b|_=>[]
def mth (i j:Nat):Stmt:=(cb (top i)).getD j (.Pass ⟨0,0,0,0⟩)
noncomputable def iCl:List Nat:=285::325::365::405::445::485::525::565::605::645::685::725::[]
noncomputable def iTb (p:Nat->Bool):List (Nat×Bool):=iCl.map λa=>(a,p a)
noncomputable def gx:Gx:=⟨("box_written",6)::("written_above_or",29)::("written_above_and",30)::("_law_cell_at",31)::("_law_stir",32)::("_law_next",33)::("_law_scene",34)::("_law_thing_by",35)::("_law_box_by",36)::("_law_marks_by",37)::("_law_window",38)::("_law_atom_by",39)::("_law_want",40)::("_law_poured",41)::("_law_box_text",42)::("_law_atom_text",43)::("_law_bound",44)::("_law_pair",45)::("_law_push",46)::("_law_kinds",47)::("_law_written",48)::("law",49)::[],[],[],⟨"Want",⟨250,[]⟩,"suits",50⟩::⟨"Want",⟨250,[]⟩,"verdict",51⟩::⟨"Want",⟨250,[]⟩,"written",52⟩::⟨"Anything",⟨285,[]⟩,"written",53⟩::⟨"Meets",⟨325,["box"]⟩,"written",54⟩::⟨"Inside",⟨365,["box"]⟩,"written",55⟩::⟨"Holds",⟨405,["box"]⟩,"written",56⟩::⟨"Near",⟨445,["box","far"]⟩,"written",57⟩::⟨"Marked",⟨485,["marks"]⟩,"written",58⟩::⟨"Touched",⟨525,["marks"]⟩,"written",59⟩::⟨"Crosses",⟨565,["box","first","last"]⟩,"written",60⟩::⟨"Worthy",⟨605,["least"]⟩,"written",61⟩::⟨"Both",⟨645,["one","two"]⟩,"written",62⟩::⟨"Either",⟨685,["one","two"]⟩,"written",63⟩::⟨"Unless",⟨725,["one"]⟩,"written",64⟩::[],("box",0)::("far",1)::("marks",0)::("first",1)::("last",2)::("least",0)::("one",0)::("two",1)::[],("Want",iTb λ_=>true)::("Anything",iTb (· == 285))::("Meets",iTb (· == 325))::("Inside",iTb (· == 365))::("Holds",iTb (· == 405))::("Near",iTb (· == 445))::("Marked",iTb (· == 485))::("Touched",iTb (· == 525))::("Crosses",iTb (· == 565))::("Worthy",iTb (· == 605))::("Both",iTb (· == 645))::("Either",iTb (· == 685))::("Unless",iTb (· == 725))::[]⟩
noncomputable def mA:Str:="driftwood.figures"
noncomputable def mB:Str:="driftwood.wants"
noncomputable def mC:Str:="law_driftwood_k24_wants_written"
noncomputable def en (P:Params) (n:Str) (t:Tok) (v:Value):DictEntry:=⟨PyData.keyHash P n,.str n t,v⟩
noncomputable def er (P:Params) (n:Str) (t:Tok) (a:Nat):DictEntry:=en P n t (.ref a)
noncomputable def dc (es:List DictEntry) (n:Nat):Obj:={ cls:=.type "dict",data:=.dict es.toArray n }
noncomputable def fo (n q:Str) (s:Stmt) (m:Str) (t:Tok) (c:Nat):Obj:={ cls:=.type "function",data:=.func (fnOf n q (qBR s) (qAJ s) (qAb s) .none .none .none (.str m t) none (.ref c) .none) }
noncomputable def co (n q:Str) (t u x:Tok) (a b c d e r f s:Nat) (g h i:Value) (j k:Nat) (y:Tok):Obj:={ cls:=.type "code",data:=.fields #[.str n t,.str q u,.str "/claim/cut.py" x,.int a 0,.int b 0,.int c 0,.int d 0,.int e 0,.ref r,.bool true,.int f 0,.ref s,.none,g,h,i,.int j 0,.int k 0,.str "/claim/cut.py" y] }
noncomputable def ca (n q:Str) (t a b r j:Nat):Obj:=co n q t (t+1) (t+2) a b 0 0 3 r 181 (r+1) (.ref (r+2)) (.ref (r+3)) (.ref (r+4)) j a (j+1)
noncomputable def cn (n q:Str) (t a b r j:Nat):Obj:=co n q t (t+1) (t+2) a b 0 0 3 r 181 (r+1) .none .none (.ref (r+2)) j a (j+1)
def c0:Stmt:=top 0
def c1:Stmt:=top 1
def c2:Stmt:=top 2
def c3:Stmt:=top 3
def c4:Stmt:=top 4
def c5:Stmt:=top 5
def c6:Stmt:=top 6
def c7:Stmt:=top 7
def c8:Stmt:=top 8
def c9:Stmt:=top 9
def c10:Stmt:=top 10
def c11:Stmt:=top 11
def c12:Stmt:=top 12
def c13:Stmt:=top 13
def c14:Stmt:=top 14
def c15:Stmt:=top 15
def c16:Stmt:=top 16
def c17:Stmt:=top 17
def c18:Stmt:=top 18
def c19:Stmt:=top 19
def c20:Stmt:=top 20
def c21:Stmt:=top 21
def c22:Stmt:=top 22
def c23:Stmt:=top 23
def c24:Stmt:=top 24
def c25:Stmt:=top 25
def c26:Stmt:=top 26
def c27:Stmt:=top 27
def c28:Stmt:=top 28
def c29:Stmt:=top 29
def c30:Stmt:=top 30
def c31:Stmt:=top 31
def c32:Stmt:=top 32
def c33:Stmt:=top 33
def c34:Stmt:=top 34
def c35:Stmt:=top 35
def c36:Stmt:=top 36
def c37:Stmt:=top 37
def c38:Stmt:=top 38
def c39:Stmt:=top 39
def c40:Stmt:=top 40
def c41:Stmt:=top 41
def c42:Stmt:=top 42
def c43:Stmt:=top 43
def c44:Stmt:=top 44
def c45:Stmt:=top 45
def c46:Stmt:=top 46
def c47:Stmt:=top 47
def c48:Stmt:=top 48
def c49:Stmt:=top 49
def c50:Stmt:=top 50
def c51:Stmt:=top 51
def c52:Stmt:=top 52
def c53:Stmt:=top 53
def c54:Stmt:=top 54
def c55:Stmt:=top 55
def c56:Stmt:=top 56
def c57:Stmt:=top 57
def c58:Stmt:=top 58
def c59:Stmt:=top 59
def c60:Stmt:=top 60
def c61:Stmt:=top 61
def c62:Stmt:=top 62
def c63:Stmt:=top 63
def c64:Stmt:=top 64
def c65:Stmt:=top 65
def c66:Stmt:=top 66
def c67:Stmt:=top 67
def c68:Stmt:=top 68
def c69:Stmt:=top 69
def pw:Program:={ PySem.Challenge.pw_driftwood_k24_wants_written with main:={ PySem.Challenge.pw_driftwood_k24_wants_written.main with body:=c0::c1::c2::c3::c4::c5::c6::c7::c8::c9::c10::c11::c12::c13::c14::c15::c16::c17::c18::c19::c20::c21::c22::c23::c24::c25::c26::c27::c28::c29::c30::c31::c32::c33::c34::c35::c36::c37::c38::c39::c40::c41::c42::c43::c44::c45::c46::c47::c48::c49::c50::c51::c52::c53::c54::c55::c56::c57::c58::c59::c60::c61::c62::c63::c64::c65::c66::c67::c68::c69::[] } }
def lw:PySem.W.OpenLaw:={ PySem.Challenge.rw_driftwood_k24_wants_written with prog:=pw }
theorem lw_eq:PySem.Challenge.rw_driftwood_k24_wants_written=lw:=by kernel_rfl
noncomputable def tu (l:List Value):Obj:={ cls:=.type "tuple",data:=.seq l.toArray }
noncomputable def vt:Nat->List Str->List Value|_,[]=>[]|t,s::l=>.str s t::vt (t+1) l
noncomputable def nf (l:List Value):Obj:={ cls:=.none,data:=.fields l.toArray }
noncomputable def kl (c:Int):List (Nat×Nat)->List Value|[]=>[]|(a,b)::l=>.int a 0::.int c 0::.ref b::kl c l
noncomputable def su (a:Nat):Obj:={ cls:=.type "super",data:=.fields #[.ref a,.ref a,.ref a] }
noncomputable def ic (a:Nat):Obj:={ cls:=.type "builtin_function_or_method",data:=.fields #[.builtin "object.__init_subclass__",.ref a] }
noncomputable def pr:Obj:={ cls:=.type "builtin_function_or_method",data:=.fields #[.builtin "type.__prepare__",.type "type"] }
noncomputable def fr (a b:Nat) (m:Str) (t:Tok):Obj:={ cls:=.type "frame",slots:=#[some (.ref a),some (.ref 3),some (.ref b),none,some (.str m t),none,some (.ref 0)] }
noncomputable def cc (n:Str) (t a r:Nat):Obj:={ cls:=.type "code",data:=.fields #[.str n t,.str n (t+1),.str "/claim/cut.py" (t+2),.int a 0,.int 0 0,.int 0 0,.int 0 0,.int 0 0,.ref r,.bool false,.int 181 0,.ref (r+1),.none,.none,.none,.none,.int (t+3:Nat) 0,.int a 0,.str "/claim/cut.py" (t+4)] }
noncomputable def ty (n:Str) (a b t:Nat):Obj:={ cls:=.type "type",data:=.cls { name:=n,bases:=[.ref 250],mro:=[.ref a,.ref 250,.type "object"],ns:=a - 1,qualname:=n },slots:=#[some (.ref b),none,some (.str n t),some (.str n (t+8)),some (.builtin "object.__new__"),some (.bool true)] }
noncomputable def qPz (n q:Str) (s:Stmt):Obj:={ cls:=.none,data:=.func { name:=n,qualname:=q,params:=qBR s,body:=.stmts (qAJ s),scope:=qAb s,globals:=0,closure:=[],defaults:=.none,kwdefaults:=.none } }
noncomputable def dA (n q:Str) (s:Stmt) (m:Str) (u i t l k:Nat) (v:List Str):List Obj:=[tu [],nf [],tu (vt (t+3) v),tu [],qPz n q s,ca n q t l k i (t+3+v.length),fo n q s m u (i+5)]
noncomputable def dN (n q:Str) (s:Stmt) (m:Str) (u i t l k:Nat):List Obj:=[tu [],nf [],qPz n q s,cn n q t l k i (t+3),fo n q s m u (i+3)]
noncomputable def nE (P:Params):List DictEntry:=[en P "__doc__" 166 .none,en P "__package__" 167 .none,en P "__loader__" 168 (.builtin "__main__.__loader__#opaque"),en P "__spec__" 169 .none,er P "__annotations__" 170 6,er P "__builtins__" 171 4,en P "__file__" 173 (.str ("/claim/cut.py") 172),en P "__cached__" 174 .none,er P "sides_meet" 196 21,er P "side_inside" 204 28,er P "side_gap" 212 35,er P "boxes_meet" 218 40,er P "box_inside" 224 45,er P "box_gap" 230 50,er P "box_written" 238 55,er P "beats_of" 252 62,er P "beats_below" 261 69,er P "meeting" 274 76,er P "side_at" 284 83,er P "still_swath" 290 88,er P "frame_at" 296 93,er P "thing_swath" 305 100,er P "thing_marks" 312 107,er P "thing_worth" 319 114,er P "thing_box" 327 121,er P "told_cover" 334 128,er P "told_heart" 341 135,er P "told_some" 348 142,er P "told_every" 355 149,er P "told_least" 362 156,er P "told_most" 369 163,er P "verdict_from" 379 170,er P "cover_at" 387 177,er P "heart_at" 395 184,er P "has_each" 403 191,er P "has_one" 411 198,er P "crosses_box" 421 205,er P "written_above_or" 429 212,er P "written_above_and" 437 219,er P "Want" 482 250,er P "Anything" 523 285,er P "Meets" 573 325,er P "Inside" 623 365,er P "Holds" 673 405,er P "Near" 727 445,er P "Marked" 777 485,er P "Touched" 827 525,er P "Crosses" 883 565,er P "Worthy" 933 605,er P "Both" 986 645,er P "Either" 1039 685,er P "Unless" 1090 725,er P "_law_cell_at" 1100 734,er P "_law_stir" 1107 741,er P "_law_next" 1114 748,er P "_law_scene" 1120 753,er P "_law_thing_by" 1136 760,er P "_law_box_by" 1149 767,er P "_law_marks_by" 1156 774,er P "_law_window" 1165 781,er P "_law_atom_by" 1171 786,er P "_law_want" 1178 793,er P "_law_poured" 1184 798,er P "_law_box_text" 1190 803,er P "_law_atom_text" 1199 810,er P "_law_bound" 1208 817,er P "_law_pair" 1219 824,er P "_law_push" 1231 831,er P "_law_kinds" 1241 838,er P "_law_written" 1250 845,er P "law" 1263 852]
noncomputable def nO (P:Params) (v:Value) (k:Nat):Obj:=dc (en P "__name__" 165 v::(nE P).take k) (k+1)
noncomputable def kE:List (Nat×Nat):=[(2,20),(4,27),(6,34),(8,39),(10,44),(12,49),(16,54),(19,61),(31,68),(35,75),(42,82),(44,87),(46,92),(49,99),(51,106),(53,113),(55,120),(57,127),(59,134),(61,141),(63,148),(65,155),(67,162),(70,169),(76,176),(78,183),(80,190),(82,197),(84,204),(86,211),(89,218),(92,225),(102,260),(112,293),(125,333),(138,373),(151,413),(167,453),(180,493),(193,533),(210,573),(223,613),(238,653),(253,693),(268,733),(272,740),(274,747),(276,752),(292,759),(311,766),(327,773),(333,780),(336,785),(364,792),(382,797),(398,802),(400,809),(408,816),(412,823),(421,830),(431,837),(436,844),(444,851)]
noncomputable def wO (k:Nat):Obj:={ cls:=.type "type",data:=.cls { name:="Want",bases:=[.type "object"],mro:=[.ref 250,.type "object"],ns:=249,qualname:="Want",subclasses:=(List.map Value.ref [285,325,365,405,445,485,525,565,605,645,685,725]).take k },slots:=#[none,none,some (.str "Want" 438),some (.str "Want" 446),some (.builtin "object.__new__"),some (.bool true)] }
noncomputable def b0 (P:Params) (w:Nat):List Obj:=dA "sides_meet" "sides_meet" (top 1) ("driftwood.boxes") 187 15 189 2 2 ["one","two"] ++
 dA "side_inside" "side_inside" (top 2) ("driftwood.boxes") 187 22 197 4 2 ["one","two"] ++
 dA "side_gap" "side_gap" (top 3) ("driftwood.boxes") 187 29 205 6 2 ["one","two"] ++
 dN "boxes_meet" "boxes_meet" (top 4) ("driftwood.boxes") 187 36 213 8 2 ++
 dN "box_inside" "box_inside" (top 5) ("driftwood.boxes") 187 41 219 10 2 ++
 dN "box_gap" "box_gap" (top 6) ("driftwood.boxes") 187 46 225 12 2 ++
 dN "box_written" "box_written" (top 8) mA 231 51 233 16 1 ++
 dA "beats_of" "beats_of" (top 10) ("driftwood.meeting") 239 56 241 19 4 ["need","rise","first","last","start","end"] ++
 dA "beats_below" "beats_below" (top 11) ("driftwood.meeting") 239 63 253 31 3 ["one","two","span"] ++
 dA "meeting" "meeting" (top 12) ("driftwood.meeting") 239 70 262 35 4 ["one","two","first","last","span","a","b"] ++
 dA "side_at" "side_at" (top 14) ("driftwood.swaths") 275 77 277 42 2 ["side","beat"] ++
 dN "still_swath" "still_swath" (top 15) ("driftwood.swaths") 275 84 285 44 1 ++
 dN "frame_at" "frame_at" (top 16) ("driftwood.swaths") 275 89 291 46 2 ++
 dA "thing_swath" "thing_swath" (top 18) ("driftwood.things") 297 94 299 49 1 ["thing"] ++
 dA "thing_marks" "thing_marks" (top 19) ("driftwood.things") 297 101 306 51 1 ["thing"] ++
 dA "thing_worth" "thing_worth" (top 20) ("driftwood.things") 297 108 313 53 1 ["thing"] ++
 dA "thing_box" "thing_box" (top 21) ("driftwood.things") 297 115 320 55 2 ["thing","beat"] ++
 dA "told_cover" "told_cover" (top 22) ("driftwood.things") 297 122 328 57 1 ["told"] ++
 dA "told_heart" "told_heart" (top 23) ("driftwood.things") 297 129 335 59 1 ["told"] ++
 dA "told_some" "told_some" (top 24) ("driftwood.things") 297 136 342 61 1 ["told"] ++
 dA "told_every" "told_every" (top 25) ("driftwood.things") 297 143 349 63 1 ["told"] ++
 dA "told_least" "told_least" (top 26) ("driftwood.things") 297 150 356 65 1 ["told"] ++
 dA "told_most" "told_most" (top 27) ("driftwood.things") 297 157 363 67 1 ["told"] ++
 dA "verdict_from" "verdict_from" (top 29) mB 370 164 372 70 2 ["all_suit","none_suits"] ++
 dA "cover_at" "cover_at" (top 30) mB 370 171 380 76 2 ["told","beat"] ++
 dA "heart_at" "heart_at" (top 31) mB 370 178 388 78 2 ["told","beat"] ++
 dA "has_each" "has_each" (top 32) mB 370 185 396 80 2 ["marks","asked"] ++
 dA "has_one" "has_one" (top 33) mB 370 192 404 82 2 ["marks","asked"] ++
 dA "crosses_box" "crosses_box" (top 34) mB 370 199 412 84 4 ["frame","box","first","last"] ++
 dA "written_above_or" "written_above_or" (top 35) mB 370 206 422 86 1 ["want","text"] ++
 dA "written_above_and" "written_above_and" (top 36) mB 370 213 430 89 1 ["want","text"]
noncomputable def b1 (P:Params) (w:Nat):List Obj:=[tu [],pr,dc [en P "__module__" 445 (.str ("driftwood.wants") 370),en P "__qualname__" 447 (.str ("Want") 446),en P "__firstlineno__" 449 (.int 92 448),er P "suits" 458 233,er P "verdict" 467 240,er P "written" 474 247,er P "__static_attributes__" 475 248] 7,tu [],nf (kl 4 [(94,232),(97,239),(100,246)]),cc "Want" 440 92 223,fr 225 222 "driftwood.wants" 370] ++
 dA "suits" "Want.suits" (mth 37 0) mB 370 227 450 94 3 ["self","thing","beat"] ++
 dA "verdict" "Want.verdict" (mth 37 1) mB 370 234 459 97 3 ["self","told","beat"] ++
 dA "written" "Want.written" (mth 37 2) mB 370 241 468 100 1 ["self"] ++
 [tu [],dc [en P "__module__" 445 (.str ("driftwood.wants") 370),en P "__firstlineno__" 449 (.int 92 448),er P "suits" 458 233,er P "verdict" 467 240,er P "written" 474 247,er P "__static_attributes__" 475 248,er P "__dict__" 477 251,er P "__weakref__" 479 252,en P "__doc__" 480 .none] 4,wO w,{ cls:=.type "getset_descriptor",data:=.fields #[.str ("__dict__") 476,.ref 250,.builtin "function.__dict__",.builtin "function.__dict__#set"] },{ cls:=.type "getset_descriptor",data:=.fields #[.str ("__weakref__") 478,.ref 250,.builtin "ExceptionGroup.__weakref__",.none] },su 250,ic 250,tu [.ref 250],pr,dc [en P "__module__" 490 (.str ("driftwood.wants") 370),en P "__qualname__" 492 (.str ("Anything") 491),en P "__firstlineno__" 494 (.int 102 493),er P "suits" 503 268,er P "verdict" 512 275,er P "written" 519 282,er P "__static_attributes__" 520 283] 7,tu [],nf (kl 4 [(104,267),(107,274),(110,281)]),cc "Anything" 485 102 258,fr 260 257 "driftwood.wants" 370] ++
 dA "suits" "Anything.suits" (mth 38 0) mB 370 262 495 104 3 ["self","thing","beat"] ++
 dA "verdict" "Anything.verdict" (mth 38 1) mB 370 269 504 107 3 ["self","told","beat"] ++
 dA "written" "Anything.written" (mth 38 2) mB 370 276 513 110 1 ["self"] ++
 [tu [],dc [en P "__module__" 490 (.str ("driftwood.wants") 370),en P "__firstlineno__" 494 (.int 102 493),er P "suits" 503 268,er P "verdict" 512 275,er P "written" 519 282,er P "__static_attributes__" 520 283,en P "__doc__" 521 .none] 2,ty "Anything" 285 255 483,su 285,ic 285,tu [.ref 250],pr,dc [en P "__module__" 531 (.str ("driftwood.wants") 370),en P "__qualname__" 533 (.str ("Meets") 532),en P "__firstlineno__" 535 (.int 112 534),er P "__init__" 543 301,er P "suits" 552 308,er P "verdict" 561 315,er P "written" 568 322,er P "__static_attributes__" 570 323] 8,tu [],nf (kl 4 [(114,300),(117,307),(120,314),(123,321)]),cc "Meets" 526 112 291,fr 293 290 "driftwood.wants" 370] ++
 dA "__init__" "Meets.__init__" (mth 39 0) mB 370 295 536 114 2 ["self","box"] ++
 dA "suits" "Meets.suits" (mth 39 1) mB 370 302 544 117 3 ["self","thing","beat"] ++
 dA "verdict" "Meets.verdict" (mth 39 2) mB 370 309 553 120 3 ["self","told","beat"] ++
 dA "written" "Meets.written" (mth 39 3) mB 370 316 562 123 1 ["self"] ++
 [tu (vt 569 ["box"]),dc [en P "__module__" 531 (.str ("driftwood.wants") 370),en P "__firstlineno__" 535 (.int 112 534),er P "__init__" 543 301,er P "suits" 552 308,er P "verdict" 561 315,er P "written" 568 322,er P "__static_attributes__" 570 323,en P "__doc__" 571 .none] 2,ty "Meets" 325 288 524,su 325,ic 325]
noncomputable def b2 (P:Params) (w:Nat):List Obj:=[tu [.ref 250],pr,dc [en P "__module__" 581 (.str ("driftwood.wants") 370),en P "__qualname__" 583 (.str ("Inside") 582),en P "__firstlineno__" 585 (.int 125 584),er P "__init__" 593 341,er P "suits" 602 348,er P "verdict" 611 355,er P "written" 618 362,er P "__static_attributes__" 620 363] 8,tu [],nf (kl 4 [(127,340),(130,347),(133,354),(136,361)]),cc "Inside" 576 125 331,fr 333 330 "driftwood.wants" 370] ++
 dA "__init__" "Inside.__init__" (mth 40 0) mB 370 335 586 127 2 ["self","box"] ++
 dA "suits" "Inside.suits" (mth 40 1) mB 370 342 594 130 3 ["self","thing","beat"] ++
 dA "verdict" "Inside.verdict" (mth 40 2) mB 370 349 603 133 3 ["self","told","beat"] ++
 dA "written" "Inside.written" (mth 40 3) mB 370 356 612 136 1 ["self"] ++
 [tu (vt 619 ["box"]),dc [en P "__module__" 581 (.str ("driftwood.wants") 370),en P "__firstlineno__" 585 (.int 125 584),er P "__init__" 593 341,er P "suits" 602 348,er P "verdict" 611 355,er P "written" 618 362,er P "__static_attributes__" 620 363,en P "__doc__" 621 .none] 2,ty "Inside" 365 328 574,su 365,ic 365,tu [.ref 250],pr,dc [en P "__module__" 631 (.str ("driftwood.wants") 370),en P "__qualname__" 633 (.str ("Holds") 632),en P "__firstlineno__" 635 (.int 138 634),er P "__init__" 643 381,er P "suits" 652 388,er P "verdict" 661 395,er P "written" 668 402,er P "__static_attributes__" 670 403] 8,tu [],nf (kl 4 [(140,380),(143,387),(146,394),(149,401)]),cc "Holds" 626 138 371,fr 373 370 "driftwood.wants" 370] ++
 dA "__init__" "Holds.__init__" (mth 41 0) mB 370 375 636 140 2 ["self","box"] ++
 dA "suits" "Holds.suits" (mth 41 1) mB 370 382 644 143 3 ["self","thing","beat"] ++
 dA "verdict" "Holds.verdict" (mth 41 2) mB 370 389 653 146 3 ["self","told","beat"] ++
 dA "written" "Holds.written" (mth 41 3) mB 370 396 662 149 1 ["self"] ++
 [tu (vt 669 ["box"]),dc [en P "__module__" 631 (.str ("driftwood.wants") 370),en P "__firstlineno__" 635 (.int 138 634),er P "__init__" 643 381,er P "suits" 652 388,er P "verdict" 661 395,er P "written" 668 402,er P "__static_attributes__" 670 403,en P "__doc__" 671 .none] 2,ty "Holds" 405 368 624,su 405,ic 405,tu [.ref 250],pr,dc [en P "__module__" 681 (.str ("driftwood.wants") 370),en P "__qualname__" 683 (.str ("Near") 682),en P "__firstlineno__" 685 (.int 151 684),er P "__init__" 694 421,er P "suits" 703 428,er P "verdict" 714 435,er P "written" 721 442,er P "__static_attributes__" 724 443] 8,tu [],nf (kl 4 [(153,420),(157,427),(160,434),(165,441)]),cc "Near" 676 151 411,fr 413 410 "driftwood.wants" 370] ++
 dA "__init__" "Near.__init__" (mth 42 0) mB 370 415 686 153 3 ["self","box","far"] ++
 dA "suits" "Near.suits" (mth 42 1) mB 370 422 695 157 3 ["self","thing","beat"] ++
 dA "verdict" "Near.verdict" (mth 42 2) mB 370 429 704 160 3 ["self","told","beat","farthest","nearest"] ++
 dA "written" "Near.written" (mth 42 3) mB 370 436 715 165 1 ["self"] ++
 [tu (vt 722 ["box","far"]),dc [en P "__module__" 681 (.str ("driftwood.wants") 370),en P "__firstlineno__" 685 (.int 151 684),er P "__init__" 694 421,er P "suits" 703 428,er P "verdict" 714 435,er P "written" 721 442,er P "__static_attributes__" 724 443,en P "__doc__" 725 .none] 2,ty "Near" 445 408 674,su 445,ic 445]
noncomputable def b3 (P:Params) (w:Nat):List Obj:=[tu [.ref 250],pr,dc [en P "__module__" 735 (.str ("driftwood.wants") 370),en P "__qualname__" 737 (.str ("Marked") 736),en P "__firstlineno__" 739 (.int 167 738),er P "__init__" 747 461,er P "suits" 756 468,er P "verdict" 765 475,er P "written" 772 482,er P "__static_attributes__" 774 483] 8,tu [],nf (kl 4 [(169,460),(172,467),(175,474),(178,481)]),cc "Marked" 730 167 451,fr 453 450 "driftwood.wants" 370] ++
 dA "__init__" "Marked.__init__" (mth 43 0) mB 370 455 740 169 2 ["self","marks"] ++
 dA "suits" "Marked.suits" (mth 43 1) mB 370 462 748 172 3 ["self","thing","beat"] ++
 dA "verdict" "Marked.verdict" (mth 43 2) mB 370 469 757 175 3 ["self","told","beat"] ++
 dA "written" "Marked.written" (mth 43 3) mB 370 476 766 178 1 ["self"] ++
 [tu (vt 773 ["marks"]),dc [en P "__module__" 735 (.str ("driftwood.wants") 370),en P "__firstlineno__" 739 (.int 167 738),er P "__init__" 747 461,er P "suits" 756 468,er P "verdict" 765 475,er P "written" 772 482,er P "__static_attributes__" 774 483,en P "__doc__" 775 .none] 2,ty "Marked" 485 448 728,su 485,ic 485,tu [.ref 250],pr,dc [en P "__module__" 785 (.str ("driftwood.wants") 370),en P "__qualname__" 787 (.str ("Touched") 786),en P "__firstlineno__" 789 (.int 180 788),er P "__init__" 797 501,er P "suits" 806 508,er P "verdict" 815 515,er P "written" 822 522,er P "__static_attributes__" 824 523] 8,tu [],nf (kl 4 [(182,500),(185,507),(188,514),(191,521)]),cc "Touched" 780 180 491,fr 493 490 "driftwood.wants" 370] ++
 dA "__init__" "Touched.__init__" (mth 44 0) mB 370 495 790 182 2 ["self","marks"] ++
 dA "suits" "Touched.suits" (mth 44 1) mB 370 502 798 185 3 ["self","thing","beat"] ++
 dA "verdict" "Touched.verdict" (mth 44 2) mB 370 509 807 188 3 ["self","told","beat"] ++
 dA "written" "Touched.written" (mth 44 3) mB 370 516 816 191 1 ["self"] ++
 [tu (vt 823 ["marks"]),dc [en P "__module__" 785 (.str ("driftwood.wants") 370),en P "__firstlineno__" 789 (.int 180 788),er P "__init__" 797 501,er P "suits" 806 508,er P "verdict" 815 515,er P "written" 822 522,er P "__static_attributes__" 824 523,en P "__doc__" 825 .none] 2,ty "Touched" 525 488 778,su 525,ic 525,tu [.ref 250],pr,dc [en P "__module__" 835 (.str ("driftwood.wants") 370),en P "__qualname__" 837 (.str ("Crosses") 836),en P "__firstlineno__" 839 (.int 193 838),er P "__init__" 849 541,er P "suits" 858 548,er P "verdict" 869 555,er P "written" 876 562,er P "__static_attributes__" 880 563] 8,tu [],nf (kl 4 [(195,540),(200,547),(203,554),(208,561)]),cc "Crosses" 830 193 531,fr 533 530 "driftwood.wants" 370] ++
 dA "__init__" "Crosses.__init__" (mth 45 0) mB 370 535 840 195 4 ["self","box","first","last"] ++
 dA "suits" "Crosses.suits" (mth 45 1) mB 370 542 850 200 3 ["self","thing","beat"] ++
 dA "verdict" "Crosses.verdict" (mth 45 2) mB 370 549 859 203 3 ["self","told","beat","heart_does","cover_does"] ++
 dA "written" "Crosses.written" (mth 45 3) mB 370 556 870 208 1 ["self"] ++
 [tu (vt 877 ["box","first","last"]),dc [en P "__module__" 835 (.str ("driftwood.wants") 370),en P "__firstlineno__" 839 (.int 193 838),er P "__init__" 849 541,er P "suits" 858 548,er P "verdict" 869 555,er P "written" 876 562,er P "__static_attributes__" 880 563,en P "__doc__" 881 .none] 2,ty "Crosses" 565 528 828,su 565,ic 565]
noncomputable def b4 (P:Params) (w:Nat):List Obj:=[tu [.ref 250],pr,dc [en P "__module__" 891 (.str ("driftwood.wants") 370),en P "__qualname__" 893 (.str ("Worthy") 892),en P "__firstlineno__" 895 (.int 210 894),er P "__init__" 903 581,er P "suits" 912 588,er P "verdict" 921 595,er P "written" 928 602,er P "__static_attributes__" 930 603] 8,tu [],nf (kl 4 [(212,580),(215,587),(218,594),(221,601)]),cc "Worthy" 886 210 571,fr 573 570 "driftwood.wants" 370] ++
 dA "__init__" "Worthy.__init__" (mth 46 0) mB 370 575 896 212 2 ["self","least"] ++
 dA "suits" "Worthy.suits" (mth 46 1) mB 370 582 904 215 3 ["self","thing","beat"] ++
 dA "verdict" "Worthy.verdict" (mth 46 2) mB 370 589 913 218 3 ["self","told","beat"] ++
 dA "written" "Worthy.written" (mth 46 3) mB 370 596 922 221 1 ["self"] ++
 [tu (vt 929 ["least"]),dc [en P "__module__" 891 (.str ("driftwood.wants") 370),en P "__firstlineno__" 895 (.int 210 894),er P "__init__" 903 581,er P "suits" 912 588,er P "verdict" 921 595,er P "written" 928 602,er P "__static_attributes__" 930 603,en P "__doc__" 931 .none] 2,ty "Worthy" 605 568 884,su 605,ic 605,tu [.ref 250],pr,dc [en P "__module__" 941 (.str ("driftwood.wants") 370),en P "__qualname__" 943 (.str ("Both") 942),en P "__firstlineno__" 945 (.int 223 944),er P "__init__" 954 621,er P "suits" 963 628,er P "verdict" 973 635,er P "written" 980 642,er P "__static_attributes__" 983 643] 8,tu [],nf (kl 4 [(225,620),(229,627),(232,634),(236,641)]),cc "Both" 936 223 611,fr 613 610 "driftwood.wants" 370] ++
 dA "__init__" "Both.__init__" (mth 47 0) mB 370 615 946 225 3 ["self","one","two"] ++
 dA "suits" "Both.suits" (mth 47 1) mB 370 622 955 229 3 ["self","thing","beat"] ++
 dA "verdict" "Both.verdict" (mth 47 2) mB 370 629 964 232 3 ["self","told","beat","judged"] ++
 dA "written" "Both.written" (mth 47 3) mB 370 636 974 236 1 ["self"] ++
 [tu (vt 981 ["one","two"]),dc [en P "__module__" 941 (.str ("driftwood.wants") 370),en P "__firstlineno__" 945 (.int 223 944),er P "__init__" 954 621,er P "suits" 963 628,er P "verdict" 973 635,er P "written" 980 642,er P "__static_attributes__" 983 643,en P "__doc__" 984 .none] 2,ty "Both" 645 608 934,su 645,ic 645,tu [.ref 250],pr,dc [en P "__module__" 994 (.str ("driftwood.wants") 370),en P "__qualname__" 996 (.str ("Either") 995),en P "__firstlineno__" 998 (.int 238 997),er P "__init__" 1007 661,er P "suits" 1016 668,er P "verdict" 1026 675,er P "written" 1033 682,er P "__static_attributes__" 1036 683] 8,tu [],nf (kl 4 [(240,660),(244,667),(247,674),(251,681)]),cc "Either" 989 238 651,fr 653 650 "driftwood.wants" 370] ++
 dA "__init__" "Either.__init__" (mth 48 0) mB 370 655 999 240 3 ["self","one","two"] ++
 dA "suits" "Either.suits" (mth 48 1) mB 370 662 1008 244 3 ["self","thing","beat"] ++
 dA "verdict" "Either.verdict" (mth 48 2) mB 370 669 1017 247 3 ["self","told","beat","judged"] ++
 dA "written" "Either.written" (mth 48 3) mB 370 676 1027 251 1 ["self"] ++
 [tu (vt 1034 ["one","two"]),dc [en P "__module__" 994 (.str ("driftwood.wants") 370),en P "__firstlineno__" 998 (.int 238 997),er P "__init__" 1007 661,er P "suits" 1016 668,er P "verdict" 1026 675,er P "written" 1033 682,er P "__static_attributes__" 1036 683,en P "__doc__" 1037 .none] 2,ty "Either" 685 648 987,su 685,ic 685]
noncomputable def b5 (P:Params) (w:Nat):List Obj:=[tu [.ref 250],pr,dc [en P "__module__" 1047 (.str ("driftwood.wants") 370),en P "__qualname__" 1049 (.str ("Unless") 1048),en P "__firstlineno__" 1051 (.int 253 1050),er P "__init__" 1059 701,er P "suits" 1068 708,er P "verdict" 1078 715,er P "written" 1085 722,er P "__static_attributes__" 1087 723] 8,tu [],nf (kl 4 [(255,700),(258,707),(261,714),(265,721)]),cc "Unless" 1042 253 691,fr 693 690 "driftwood.wants" 370] ++
 dA "__init__" "Unless.__init__" (mth 49 0) mB 370 695 1052 255 2 ["self","one"] ++
 dA "suits" "Unless.suits" (mth 49 1) mB 370 702 1060 258 3 ["self","thing","beat"] ++
 dA "verdict" "Unless.verdict" (mth 49 2) mB 370 709 1069 261 3 ["self","told","beat","judged"] ++
 dA "written" "Unless.written" (mth 49 3) mB 370 716 1079 265 1 ["self"] ++
 [tu (vt 1086 ["one"]),dc [en P "__module__" 1047 (.str ("driftwood.wants") 370),en P "__firstlineno__" 1051 (.int 253 1050),er P "__init__" 1059 701,er P "suits" 1068 708,er P "verdict" 1078 715,er P "written" 1085 722,er P "__static_attributes__" 1087 723,en P "__doc__" 1088 .none] 2,ty "Unless" 725 688 1040,su 725,ic 725] ++
 dA "_law_cell_at" "_law_cell_at" (top 51) mC 1091 728 1093 268 2 ["script","k"] ++
 dA "_law_stir" "_law_stir" (top 52) mC 1091 735 1101 272 1 ["cell"] ++
 dA "_law_next" "_law_next" (top 53) mC 1091 742 1108 274 1 ["left"] ++
 dN "_law_scene" "_law_scene" (top 54) mC 1091 749 1115 276 1 ++
 dA "_law_thing_by" "_law_thing_by" (top 55) mC 1091 754 1121 292 2 ["cell","scene","left","swath","k","speed","low","wide","marks","worth"] ++
 dA "_law_box_by" "_law_box_by" (top 56) mC 1091 761 1137 311 2 ["cell","scene","left","box","k","low","wide"] ++
 dA "_law_marks_by" "_law_marks_by" (top 57) mC 1091 768 1150 327 1 ["left"] ++
 dA "_law_window" "_law_window" (top 58) mC 1091 775 1157 333 2 ["left","beat","first"] ++
 dN "_law_atom_by" "_law_atom_by" (top 59) mC 1091 782 1166 336 2 ++
 dA "_law_want" "_law_want" (top 60) mC 1091 787 1172 364 1 ["atom"] ++
 dN "_law_poured" "_law_poured" (top 61) mC 1091 794 1179 382 1 ++
 dN "_law_box_text" "_law_box_text" (top 62) mC 1091 799 1185 398 1 ++
 dA "_law_atom_text" "_law_atom_text" (top 63) mC 1091 804 1191 400 1 ["atom","words","part"] ++
 dA "_law_bound" "_law_bound" (top 64) mC 1091 811 1200 408 3 ["line","bond","least"] ++
 dA "_law_pair" "_law_pair" (top 65) mC 1091 818 1209 412 2 ["stack","way","two","one","line"] ++
 dA "_law_push" "_law_push" (top 66) mC 1091 825 1220 421 3 ["stack","cell","scene","way","one","atom"] ++
 dA "_law_kinds" "_law_kinds" (top 67) mC 1091 832 1232 431 1 ["want","some","more","rest"] ++
 dA "_law_written" "_law_written" (top 68) mC 1091 839 1242 436 1 ["item","k","found"] ++
 dA "law" "law" (top 69) mC 1091 846 1251 444 1 ["script","scene","thing","plain","stack","cell","item"]
noncomputable def b (P:Params) (v:Value) (k c w j:Nat):List Obj:=[W.boot_o_0 P,W.boot_o_1 P,W.boot_o_2 P,nO P v k,W.boot_o_4 P,W.boot_o_5 P,W.boot_o_6 P,W.boot_o_7 P,W.boot_o_8 P,W.boot_o_9 P,W.boot_o_10 P,tu [],nf (kl 0 (kE.take c)),cc "<module>" 182 1 11,fr 13 3 "__main__" 164]++(match j with|0=>[]|1=>b0 P w|2=>b0 P w++(b1 P w)|3=>b0 P w++(b1 P w++(b2 P w))|4=>b0 P w++(b1 P w++(b2 P w++(b3 P w)))|5=>b0 P w++(b1 P w++(b2 P w++(b3 P w++(b4 P w))))|_=>b0 P w++(b1 P w++(b2 P w++(b3 P w++(b4 P w++(b5 P w))))))
noncomputable def sp:List Obj->List Obj×List Obj|[]=>([],[])|a::l=>(a::(sp l).2,(sp l).1)
noncomputable def bt:Nat->List Obj->W.BT|0,_=>.nil|_+1,[]=>.nil|n+1,a::l=>.node a (bt n (sp l).1) (bt n (sp l).2)
noncomputable def st (t:W.BT) (n k:Nat) (os:OsState):W.SharedT:=⟨t,n,{},⟨[]⟩,{},k,os⟩
noncomputable def i0 (P:Params):List Obj:=[W.boot_o_0 P,W.boot_o_1 P,W.boot_o_2 P,W.boot_o_3 P,W.boot_o_4 P,W.boot_o_5 P,W.boot_o_6 P,W.boot_o_7 P,W.boot_o_8 P,W.boot_o_9 P,W.boot_o_10 P,tu [],nf [],cc "<module>" 182 1 11,fr 13 3 "__main__" 164]
noncomputable def l1 (P:Params):List Obj:=b P (.str "driftwood.wants" 370) 39 31 0 1
noncomputable def l2 (P:Params):List Obj:=b P (.str "driftwood.wants" 370) 42 34 2 2
noncomputable def l3 (P:Params):List Obj:=b P (.str "driftwood.wants" 370) 45 37 5 3
noncomputable def l4 (P:Params):List Obj:=b P (.str "driftwood.wants" 370) 48 40 8 4
noncomputable def l5 (P:Params):List Obj:=b P (.str "driftwood.wants" 370) 51 43 11 5
noncomputable def l6 (P:Params):List Obj:=b P (.str "law_driftwood_k24_wants_written" 1091) 71 63 12 6
noncomputable abbrev pp:Program:=lw.row.toRowW.prog
noncomputable def ev:Env:={ scope:=pp.main.scope,locals:=mainNs,globals:=mainNs,cells:=[],code:=.ref 13,frame:=some 14 }
noncomputable abbrev cE:Code:=.body (W.behindTheImports pp) ev
noncomputable abbrev po (a b c d:Nat):Pos:=⟨a,b,c,d⟩
noncomputable abbrev B0:List Frame:=[W.topFrame (po 0 0 0 0)]
noncomputable def s1:List Stmt:=c0::c1::c2::c3::c4::c5::c6::c7::c8::c9::c10::c11::c12::c13::c14::c15::c16::c17::c18::c19::c20::c21::c22::c23::c24::c25::c26::c27::c28::c29::c30::c31::c32::c33::c34::c35::c36::[]
noncomputable def s2:List Stmt:=c37::c38::c39::[]
noncomputable def s3:List Stmt:=c40::c41::c42::[]
noncomputable def s4:List Stmt:=c43::c44::c45::[]
noncomputable def s5:List Stmt:=c46::c47::c48::[]
noncomputable def s6:List Stmt:=c49::c50::c51::c52::c53::c54::c55::c56::c57::c58::c59::c60::c61::c62::c63::c64::c65::c66::c67::c68::c69::[]
noncomputable abbrev sh (h:Heap) (k:Nat) (os:OsState):Shared:=⟨h,⟨[]⟩,{},k,os⟩
noncomputable def h0 (P:Params):Heap:=⟨(i0 P).toArray,{}⟩
noncomputable def hZ (P:Params):Heap:=⟨(l6 P).toArray,{}⟩
theorem q0 (w:World):(λos=>W.topGo treeTable pp w 11 (some (.ref 6)) 12 ⟨W.boot_heap w.params,⟨[]⟩,W.boot_drawn,W.boot_toks,os⟩ (W.topStub pp))=λos=>some (sh (h0 w.params) 187 os,⟨denote treeTable cE,cE,po 0 0 0 0,B0⟩):=by kernel_rfl
theorem qb (w:World):(λos=>W.segRun treeTable pp w 11 (some (.ref 6)) 1 1 (sh (h0 w.params) 187 os) (W.blockOf (W.behindTheImports pp) ev cE (po 0 0 0 0) B0))=λos=>some (.next,(st (bt 12 (i0 w.params)) 15 187 os).abs,cE,po 0 0 0 0):=by kernel_rfl
theorem q1 (w:World):(λos=>W.segRunT treeTable pp w 11 (some (.ref 6)) 1 986 (st (bt 12 (i0 w.params)) 15 187 os) (W.piecesOf s1 ev cE (po 0 0 0 0) B0))=λos=>some (.next,st (bt 12 (l1 w.params)) 220 438 os,cE,po 89 0 91 88):=by kernel_rfl
theorem q2 (w:World):(λos=>W.segRunT treeTable pp w 11 (some (.ref 6)) 1 960 (st (bt 12 (l1 w.params)) 220 438 os) (W.piecesOf s2 ev cE (po 89 0 91 88) B0))=λos=>some (.next,st (bt 12 (l2 w.params)) 328 574 os,cE,po 112 0 124 47):=by kernel_rfl
theorem q3 (w:World):(λos=>W.segRunT treeTable pp w 11 (some (.ref 6)) 1 1053 (st (bt 12 (l2 w.params)) 328 574 os) (W.piecesOf s3 ev cE (po 112 0 124 47) B0))=λos=>some (.next,st (bt 12 (l3 w.params)) 448 728 os,cE,po 151 0 166 68):=by kernel_rfl
theorem q4 (w:World):(λos=>W.segRunT treeTable pp w 11 (some (.ref 6)) 1 1055 (st (bt 12 (l3 w.params)) 448 728 os) (W.piecesOf s4 ev cE (po 151 0 166 68) B0))=λos=>some (.next,st (bt 12 (l4 w.params)) 568 884 os,cE,po 193 0 209 96):=by kernel_rfl
theorem q5 (w:World):(λos=>W.segRunT treeTable pp w 11 (some (.ref 6)) 1 1055 (st (bt 12 (l4 w.params)) 568 884 os) (W.piecesOf s5 ev cE (po 193 0 209 96) B0))=λos=>some (.next,st (bt 12 (l5 w.params)) 688 1040 os,cE,po 238 0 252 71):=by kernel_rfl
theorem q6 (w:World):(λos=>W.segRunT treeTable pp w 11 (some (.ref 6)) 1 956 (st (bt 12 (l5 w.params)) 688 1040 os) (W.piecesOf s6 ev cE (po 238 0 252 71) B0))=λos=>some (.next,st (bt 12 (l6 w.params)) 853 1264 os,cE,po 444 0 460 33):=by kernel_rfl
theorem qf (w:World):(λos=>W.topRun treeTable pp w 11 (some (.ref 6)) 2 (st (bt 12 (l6 w.params)) 853 1264 os).abs ⟨W.doneF .next,cE,po 444 0 460 33,B0⟩)=λos=>some (sh (hZ w.params) 1264 os):=by kernel_rfl
theorem hs:W.behindTheImports pp=s1++(s2++(s3++(s4++(s5++(s6++[]))))):=by kernel_rfl
theorem run (w:World) (os:OsState):W.topRun treeTable pp w 11 (some (.ref 6)) (12+(1+(986+(960+(1053+(1055+(1055+(956+2)))))))) ⟨W.boot_heap w.params,⟨[]⟩,W.boot_drawn,W.boot_toks,os⟩ (W.topStub pp)=some (sh (hZ w.params) 1264 os):=
 W.go_top (congrFun (q0 w) os) (W.piece_block (congrFun (qb w) os) (Eq.subst (motive:=λb=>W.topRun treeTable pp w 11 (some (.ref 6)) _ _ (W.restOf b ev cE (po 0 0 0 0) B0)=_) hs.symm (W.piece_app (W.segRun_of (congrFun (q1 w) os)) (W.piece_app (W.segRun_of (congrFun (q2 w) os)) (W.piece_app (W.segRun_of (congrFun (q3 w) os)) (W.piece_app (W.segRun_of (congrFun (q4 w) os)) (W.piece_app (W.segRun_of (congrFun (q5 w) os)) (W.piece_app (W.segRun_of (congrFun (q6 w) os)) (W.piece_nil (congrFun (qf w) os))))))))))
noncomputable def ad:List Nat:=3::54::55::211::212::218::219::232::233::239::240::246::247::249::250::251::252::281::282::284::285::300::301::321::322::324::325::340::341::361::362::364::365::380::381::401::402::404::405::420::421::441::442::444::445::460::461::481::482::484::485::500::501::521::522::524::525::540::541::561::562::564::565::580::581::601::602::604::605::620::621::641::642::644::645::660::661::681::682::684::685::700::701::721::722::724::725::733::734::740::741::747::748::752::753::759::760::766::767::773::774::780::781::785::786::792::793::797::798::802::803::809::810::816::817::823::824::830::831::837::838::844::845::851::852::[]
noncomputable def heap (P:Params):Frag:=ad.map λa=>(a,(l6 P).getD a default)
theorem qLF:∀x∈qAI,gx.defs.lookup x=none:=by decide +kernel
noncomputable abbrev cq (s:Stmt):=cSs gx 60 (qAb s) (qAx (qAb s)) (qIm 60 (qAx (qAb s)) (qAJ s)) (qAJ s)
noncomputable def scB (s:Stmt) (ps:List Str):Bool:=(qAb s).kind == .function&&!(qAb s).isCoroutine&&!(qAb s).isGenerator&&decide (qAx (qAb s)).Nodup&&decide ((qAx (qAb s)).take ps.length=ps)&&ps.all (λx=>(qAb s).names.lookup x == some .local||(qAb s).names.lookup x == some .cell)&&(qAb s).names.all λy=>y.2 != .free
theorem qA7 {s:Stmt}{ps:List Str}(h:scB s ps=true):FnScope (qAx (qAb s)) ps (qAb s):=by
 unfold scB at h
 simp only [Bool.and_eq_true,List.all_eq_true,Bool.or_eq_true,beq_iff_eq,bne_iff_ne,Bool.not_eq_true',decide_eq_true_eq] at h
 obtain⟨⟨⟨⟨⟨⟨h1,h2⟩,h3⟩,h4⟩,h5⟩,h6⟩,h7⟩:=h
 exact⟨h1,h2,h3,h4,h5,h6,h7⟩
theorem us1 {P:List Value->Prop}(h:∀a,P [a]) (us:List Value) (hl:us.length=1):P us:=by
 obtain⟨a,rfl⟩:=List.length_eq_one_iff.mp hl
 exact h a
theorem us2 {P:List Value->Prop}(h:∀a0 a1,P [a0,a1]) (us:List Value) (hl:us.length=2):P us:=by
 cases us with
 | nil=>cases hl
 | cons a r=>exact us1 (P:=λr=>P (a::r)) (h a) r (Nat.succ.inj hl)
theorem us3 {P:List Value->Prop}(h:∀a0 a1 a2,P [a0,a1,a2]) (us:List Value) (hl:us.length=3):P us:=by
 cases us with
 | nil=>cases hl
 | cons a r=>exact us2 (P:=λr=>P (a::r)) (h a) r (Nat.succ.inj hl)
theorem us4 {P:List Value->Prop}(h:∀a0 a1 a2 a3,P [a0,a1,a2,a3]) (us:List Value) (hl:us.length=4):P us:=by
 cases us with
 | nil=>cases hl
 | cons a r=>exact us3 (P:=λr=>P (a::r)) (h a) r (Nat.succ.inj hl)
theorem bd1 {fd:FuncData}{ps:List Str}(hp:ps.length=1) (h:∀a0,bindArgs fd ⟨[a0],[]⟩=pure (ps.zip [a0])) (us:List Value) (hl:us.length=ps.length):bindArgs fd ⟨us,[]⟩=pure (ps.zip us):=us1 (P:=λus=>bindArgs fd ⟨us,[]⟩=pure (ps.zip us)) h us (hl.trans hp)
theorem bd2 {fd:FuncData}{ps:List Str}(hp:ps.length=2) (h:∀a0 a1,bindArgs fd ⟨[a0,a1],[]⟩=pure (ps.zip [a0,a1])) (us:List Value) (hl:us.length=ps.length):bindArgs fd ⟨us,[]⟩=pure (ps.zip us):=us2 (P:=λus=>bindArgs fd ⟨us,[]⟩=pure (ps.zip us)) h us (hl.trans hp)
theorem bd3 {fd:FuncData}{ps:List Str}(hp:ps.length=3) (h:∀a0 a1 a2,bindArgs fd ⟨[a0,a1,a2],[]⟩=pure (ps.zip [a0,a1,a2])) (us:List Value) (hl:us.length=ps.length):bindArgs fd ⟨us,[]⟩=pure (ps.zip us):=us3 (P:=λus=>bindArgs fd ⟨us,[]⟩=pure (ps.zip us)) h us (hl.trans hp)
theorem bd4 {fd:FuncData}{ps:List Str}(hp:ps.length=4) (h:∀a0 a1 a2 a3,bindArgs fd ⟨[a0,a1,a2,a3],[]⟩=pure (ps.zip [a0,a1,a2,a3])) (us:List Value) (hl:us.length=ps.length):bindArgs fd ⟨us,[]⟩=pure (ps.zip us):=us4 (P:=λus=>bindArgs fd ⟨us,[]⟩=pure (ps.zip us)) h us (hl.trans hp)
theorem fc {α:Type}{p:α->Prop}{a:α}{l:List α}(h:p a) (t:∀x∈l,p x):∀x∈a::l,p x:=List.forall_mem_cons.mpr ⟨h,t⟩
section
variable {K:Frag}{h:Heap}{mg:Str->Option Value}
noncomputable abbrev Bd (x q:Str) (s:Stmt) (ps:List Str):Prop:=∀(kV doc pm:Value) (an:Option Addr) (cdv ct:Value) (us:List Value),us.length=ps.length->bindArgs (fnOf x q (qBR s) (qAJ s) (qAb s) .none kV doc pm an cdv ct) ⟨us,[]⟩=pure (ps.zip us)
theorem mkD (X:K.In h) (G:h.Ns mainGlobals mg) {x:Str}(m:Str) (t:Tok) (i f c:Nat) {g:Nat}(ps:List Str) (fd:Fd) (tt:tab[g]?=some fd) (a:nsIn K mainGlobals x=some (some (.ref f))) (l:K.lookup f=some (fo x x (top i) m t c)) (cc:codeIn K (.ref c) x=true) (k:keepIn K (.ref f)=true) (b:Bd x x (top i) ps) (sc:scB (top i) ps=true) (cs:cq (top i)=some fd.body) (np:fd.np=ps.length) (ns:fd.ns=(qAx (qAb (top i))).length):DefIn K mg gx tab 60 x g:=
 ⟨⟨f,_,top i,ps,fd,mg_of X G a,qEV (qEh (st:=top i) l cc k),(qEh (st:=top i) l cc k).binds b,qA7 sc,cs,tt,np,ns⟩⟩
theorem mkF {x q:Str}{s:Stmt}{f:Nat}(m:Str) (t:Tok) (c:Nat) (ps:List Str) (l:K.lookup f=some (fo x q s m t c)) (cc:codeIn K (.ref c) q=true) (k:keepIn K (.ref f)=true) (b:Bd x q s ps):∃fd,FunD K x q s f fd/\Binds K fd ps []:=⟨_,qEV (qEh (st:=s) l cc k),(qEh (st:=s) l cc k).binds b⟩
theorem mkI {q:Str}{s:Stmt}{C:Nat}{ps ns:List Str}(f:Nat) (F:∃fd,FunD K "__init__" q s f fd/\Binds K fd ps []) (M:Mk K C f) (sc:FnScope (qAx (qAb s)) ps (qAb s)) (ib:qEc (qAb s) (qAx (qAb s)) 0 ns (qAJ s)=true) (pl:ps.length=ns.length+1) (nl:ns.length<1000):qL4 K C ns:=let ⟨fd,F1,F2⟩:=F;.inl ⟨f,fd,s,ps,q,M,F1,F2,sc,ib,pl,nl⟩
theorem mkM {c m q:Str}{s:Stmt}{C i:Nat}{ps ns:List Str}{fd:Fd}(f:Nat) (a:mg c=some (.ref C)) (I:qL4 K C ns) (L:Cls K C) (N:∀f∈ns,NoAttr K C f) (M:Meth K C m f) (F:∃fd,FunD K m q s f fd/\Binds K fd ps []) (sc:FnScope (qAx (qAb s)) ps (qAb s)) (cs:cq s=some fd.body) (t:tab[i]?=some fd) (np:fd.np=ps.length) (n2:fd.ns=(qAx (qAb s)).length) (hn:m∉ns) (nd:ns.Nodup):MthIn K mg gx tab 60 c m i C ns:=let ⟨fdt,F1,F2⟩:=F;⟨⟨f,fdt,s,ps,q,fd,a,I,L,N,M,F1,F2,sc,cs,t,np,n2,hn,nd⟩⟩
end
section
variable {h:Heap}{mg:Str->Option Value}{P:Params}(X:(heap P).In h) (G:h.Ns mainGlobals mg)
include X G
theorem hd:∀p∈gx.defs,DefIn (heap P) mg gx tab 60 p.1 p.2:=by
 refine fc (mkD X G mA 231 8 55 54 ["box"] f_box_written t6 ?_ ?_ ?_ ?_ ?_ ?_ ?_ ?_ ?_) (
  fc (mkD X G mB 370 35 212 211 ["want"] f_written_above_or t29 ?_ ?_ ?_ ?_ ?_ ?_ ?_ ?_ ?_) (
  fc (mkD X G mB 370 36 219 218 ["want"] f_written_above_and t30 ?_ ?_ ?_ ?_ ?_ ?_ ?_ ?_ ?_) (
  fc (mkD X G mC 1091 51 734 733 ["script","k"] f_law_cell_at t31 ?_ ?_ ?_ ?_ ?_ ?_ ?_ ?_ ?_) (
  fc (mkD X G mC 1091 52 741 740 ["cell"] f_law_stir t32 ?_ ?_ ?_ ?_ ?_ ?_ ?_ ?_ ?_) (
  fc (mkD X G mC 1091 53 748 747 ["left"] f_law_next t33 ?_ ?_ ?_ ?_ ?_ ?_ ?_ ?_ ?_) (
  fc (mkD X G mC 1091 54 753 752 ["script"] f_law_scene t34 ?_ ?_ ?_ ?_ ?_ ?_ ?_ ?_ ?_) (
  fc (mkD X G mC 1091 55 760 759 ["cell","scene"] f_law_thing_by t35 ?_ ?_ ?_ ?_ ?_ ?_ ?_ ?_ ?_) (
  fc (mkD X G mC 1091 56 767 766 ["cell","scene"] f_law_box_by t36 ?_ ?_ ?_ ?_ ?_ ?_ ?_ ?_ ?_) (
  fc (mkD X G mC 1091 57 774 773 ["left"] f_law_marks_by t37 ?_ ?_ ?_ ?_ ?_ ?_ ?_ ?_ ?_) (
  fc (mkD X G mC 1091 58 781 780 ["left","beat"] f_law_window t38 ?_ ?_ ?_ ?_ ?_ ?_ ?_ ?_ ?_) (
  fc (mkD X G mC 1091 59 786 785 ["cell","scene"] f_law_atom_by t39 ?_ ?_ ?_ ?_ ?_ ?_ ?_ ?_ ?_) (
  fc (mkD X G mC 1091 60 793 792 ["atom"] f_law_want t40 ?_ ?_ ?_ ?_ ?_ ?_ ?_ ?_ ?_) (
  fc (mkD X G mC 1091 61 798 797 ["things"] f_law_poured t41 ?_ ?_ ?_ ?_ ?_ ?_ ?_ ?_ ?_) (
  fc (mkD X G mC 1091 62 803 802 ["box"] f_law_box_text t42 ?_ ?_ ?_ ?_ ?_ ?_ ?_ ?_ ?_) (
  fc (mkD X G mC 1091 63 810 809 ["atom"] f_law_atom_text t43 ?_ ?_ ?_ ?_ ?_ ?_ ?_ ?_ ?_) (
  fc (mkD X G mC 1091 64 817 816 ["line","bond","least"] f_law_bound t44 ?_ ?_ ?_ ?_ ?_ ?_ ?_ ?_ ?_) (
  fc (mkD X G mC 1091 65 824 823 ["stack","way"] f_law_pair t45 ?_ ?_ ?_ ?_ ?_ ?_ ?_ ?_ ?_) (
  fc (mkD X G mC 1091 66 831 830 ["stack","cell","scene"] f_law_push t46 ?_ ?_ ?_ ?_ ?_ ?_ ?_ ?_ ?_) (
  fc (mkD X G mC 1091 67 838 837 ["want"] f_law_kinds t47 ?_ ?_ ?_ ?_ ?_ ?_ ?_ ?_ ?_) (
  fc (mkD X G mC 1091 68 845 844 ["item"] f_law_written t48 ?_ ?_ ?_ ?_ ?_ ?_ ?_ ?_ ?_) (
  fc (mkD X G mC 1091 69 852 851 ["script"] f_law t49 ?_ ?_ ?_ ?_ ?_ ?_ ?_ ?_ ?_) (
  λ_ h=>nomatch h))))))))))))))))))))))
 all_goals first|kernel_rfl|exact λ_ _ _ _ _ _=>bd1 rfl λ_=>rfl|exact λ_ _ _ _ _ _=>bd2 rfl λ_ _=>rfl|exact λ_ _ _ _ _ _=>bd3 rfl λ_ _ _=>rfl|exact λ_ _ _ _ _ _=>bd4 rfl λ_ _ _ _=>rfl
theorem hb:∀x∈qAI,mg x=none:=by
 refine fc (mg_none_of X G ?_) (fc (mg_none_of X G ?_) (fc (mg_none_of X G ?_) (fc (mg_none_of X G ?_) (fc (mg_none_of X G ?_) (fc (mg_none_of X G ?_) (fc (mg_none_of X G ?_) (fc (mg_none_of X G ?_) (fc (mg_none_of X G ?_) (fc (mg_none_of X G ?_) (fc (mg_none_of X G ?_) (fc (mg_none_of X G ?_) (fc (mg_none_of X G ?_) (fc (mg_none_of X G ?_) (fc (mg_none_of X G ?_) (fc (mg_none_of X G ?_) (fc (mg_none_of X G ?_) (fc (mg_none_of X G ?_) (λ_ h=>nomatch h))))))))))))))))))
 all_goals kernel_rfl
theorem hmt:∀u∈gx.meth,MthIn (heap P) mg gx tab 60 u.c u.m u.i u.kn.c u.kn.ns:=by
 refine fc (mkM (q:="Want.suits") (s:=mth 37 0) 233 (mg_of X G ?_) (.inr ⟨rfl,⟨?_,?_,?_⟩⟩) ⟨?_,?_,?_,?_⟩ (λ_ h=>nomatch h) ⟨?_,?_,?_⟩ (mkF mB 370 232 ["self","thing","beat"] ?_ ?_ ?_ ?_) (qA7 ?_) ?_ t50 ?_ ?_ ?_ ?_) (
  fc (mkM (q:="Want.verdict") (s:=mth 37 1) 240 (mg_of X G ?_) (.inr ⟨rfl,⟨?_,?_,?_⟩⟩) ⟨?_,?_,?_,?_⟩ (λ_ h=>nomatch h) ⟨?_,?_,?_⟩ (mkF mB 370 239 ["self","told","beat"] ?_ ?_ ?_ ?_) (qA7 ?_) ?_ t51 ?_ ?_ ?_ ?_) (
  fc (mkM (q:="Want.written") (s:=mth 37 2) 247 (mg_of X G ?_) (.inr ⟨rfl,⟨?_,?_,?_⟩⟩) ⟨?_,?_,?_,?_⟩ (λ_ h=>nomatch h) ⟨?_,?_,?_⟩ (mkF mB 370 246 ["self"] ?_ ?_ ?_ ?_) (qA7 ?_) ?_ t52 ?_ ?_ ?_ ?_) (
  fc (mkM (q:="Anything.written") (s:=mth 38 2) 282 (mg_of X G ?_) (.inr ⟨rfl,⟨?_,?_,?_⟩⟩) ⟨?_,?_,?_,?_⟩ (λ_ h=>nomatch h) ⟨?_,?_,?_⟩ (mkF mB 370 281 ["self"] ?_ ?_ ?_ ?_) (qA7 ?_) ?_ t53 ?_ ?_ ?_ ?_) (
  fc (mkM (q:="Meets.written") (s:=mth 39 3) 322 (mg_of X G ?_) (mkI (q:="Meets.__init__") (s:=mth 39 0) 301 (mkF mB 370 300 ["self","box"] ?_ ?_ ?_ ?_) ⟨?_,?_,?_,?_⟩ (qA7 ?_) ?_ ?_ ?_) ⟨?_,?_,?_,?_⟩ (fc ?_ (λ_ h=>nomatch h)) ⟨?_,?_,?_⟩ (mkF mB 370 321 ["self"] ?_ ?_ ?_ ?_) (qA7 ?_) ?_ t54 ?_ ?_ ?_ ?_) (
  fc (mkM (q:="Inside.written") (s:=mth 40 3) 362 (mg_of X G ?_) (mkI (q:="Inside.__init__") (s:=mth 40 0) 341 (mkF mB 370 340 ["self","box"] ?_ ?_ ?_ ?_) ⟨?_,?_,?_,?_⟩ (qA7 ?_) ?_ ?_ ?_) ⟨?_,?_,?_,?_⟩ (fc ?_ (λ_ h=>nomatch h)) ⟨?_,?_,?_⟩ (mkF mB 370 361 ["self"] ?_ ?_ ?_ ?_) (qA7 ?_) ?_ t55 ?_ ?_ ?_ ?_) (
  fc (mkM (q:="Holds.written") (s:=mth 41 3) 402 (mg_of X G ?_) (mkI (q:="Holds.__init__") (s:=mth 41 0) 381 (mkF mB 370 380 ["self","box"] ?_ ?_ ?_ ?_) ⟨?_,?_,?_,?_⟩ (qA7 ?_) ?_ ?_ ?_) ⟨?_,?_,?_,?_⟩ (fc ?_ (λ_ h=>nomatch h)) ⟨?_,?_,?_⟩ (mkF mB 370 401 ["self"] ?_ ?_ ?_ ?_) (qA7 ?_) ?_ t56 ?_ ?_ ?_ ?_) (
  fc (mkM (q:="Near.written") (s:=mth 42 3) 442 (mg_of X G ?_) (mkI (q:="Near.__init__") (s:=mth 42 0) 421 (mkF mB 370 420 ["self","box","far"] ?_ ?_ ?_ ?_) ⟨?_,?_,?_,?_⟩ (qA7 ?_) ?_ ?_ ?_) ⟨?_,?_,?_,?_⟩ (fc ?_ (fc ?_ (λ_ h=>nomatch h))) ⟨?_,?_,?_⟩ (mkF mB 370 441 ["self"] ?_ ?_ ?_ ?_) (qA7 ?_) ?_ t57 ?_ ?_ ?_ ?_) (
  fc (mkM (q:="Marked.written") (s:=mth 43 3) 482 (mg_of X G ?_) (mkI (q:="Marked.__init__") (s:=mth 43 0) 461 (mkF mB 370 460 ["self","marks"] ?_ ?_ ?_ ?_) ⟨?_,?_,?_,?_⟩ (qA7 ?_) ?_ ?_ ?_) ⟨?_,?_,?_,?_⟩ (fc ?_ (λ_ h=>nomatch h)) ⟨?_,?_,?_⟩ (mkF mB 370 481 ["self"] ?_ ?_ ?_ ?_) (qA7 ?_) ?_ t58 ?_ ?_ ?_ ?_) (
  fc (mkM (q:="Touched.written") (s:=mth 44 3) 522 (mg_of X G ?_) (mkI (q:="Touched.__init__") (s:=mth 44 0) 501 (mkF mB 370 500 ["self","marks"] ?_ ?_ ?_ ?_) ⟨?_,?_,?_,?_⟩ (qA7 ?_) ?_ ?_ ?_) ⟨?_,?_,?_,?_⟩ (fc ?_ (λ_ h=>nomatch h)) ⟨?_,?_,?_⟩ (mkF mB 370 521 ["self"] ?_ ?_ ?_ ?_) (qA7 ?_) ?_ t59 ?_ ?_ ?_ ?_) (
  fc (mkM (q:="Crosses.written") (s:=mth 45 3) 562 (mg_of X G ?_) (mkI (q:="Crosses.__init__") (s:=mth 45 0) 541 (mkF mB 370 540 ["self","box","first","last"] ?_ ?_ ?_ ?_) ⟨?_,?_,?_,?_⟩ (qA7 ?_) ?_ ?_ ?_) ⟨?_,?_,?_,?_⟩ (fc ?_ (fc ?_ (fc ?_ (λ_ h=>nomatch h)))) ⟨?_,?_,?_⟩ (mkF mB 370 561 ["self"] ?_ ?_ ?_ ?_) (qA7 ?_) ?_ t60 ?_ ?_ ?_ ?_) (
  fc (mkM (q:="Worthy.written") (s:=mth 46 3) 602 (mg_of X G ?_) (mkI (q:="Worthy.__init__") (s:=mth 46 0) 581 (mkF mB 370 580 ["self","least"] ?_ ?_ ?_ ?_) ⟨?_,?_,?_,?_⟩ (qA7 ?_) ?_ ?_ ?_) ⟨?_,?_,?_,?_⟩ (fc ?_ (λ_ h=>nomatch h)) ⟨?_,?_,?_⟩ (mkF mB 370 601 ["self"] ?_ ?_ ?_ ?_) (qA7 ?_) ?_ t61 ?_ ?_ ?_ ?_) (
  fc (mkM (q:="Both.written") (s:=mth 47 3) 642 (mg_of X G ?_) (mkI (q:="Both.__init__") (s:=mth 47 0) 621 (mkF mB 370 620 ["self","one","two"] ?_ ?_ ?_ ?_) ⟨?_,?_,?_,?_⟩ (qA7 ?_) ?_ ?_ ?_) ⟨?_,?_,?_,?_⟩ (fc ?_ (fc ?_ (λ_ h=>nomatch h))) ⟨?_,?_,?_⟩ (mkF mB 370 641 ["self"] ?_ ?_ ?_ ?_) (qA7 ?_) ?_ t62 ?_ ?_ ?_ ?_) (
  fc (mkM (q:="Either.written") (s:=mth 48 3) 682 (mg_of X G ?_) (mkI (q:="Either.__init__") (s:=mth 48 0) 661 (mkF mB 370 660 ["self","one","two"] ?_ ?_ ?_ ?_) ⟨?_,?_,?_,?_⟩ (qA7 ?_) ?_ ?_ ?_) ⟨?_,?_,?_,?_⟩ (fc ?_ (fc ?_ (λ_ h=>nomatch h))) ⟨?_,?_,?_⟩ (mkF mB 370 681 ["self"] ?_ ?_ ?_ ?_) (qA7 ?_) ?_ t63 ?_ ?_ ?_ ?_) (
  fc (mkM (q:="Unless.written") (s:=mth 49 3) 722 (mg_of X G ?_) (mkI (q:="Unless.__init__") (s:=mth 49 0) 701 (mkF mB 370 700 ["self","one"] ?_ ?_ ?_ ?_) ⟨?_,?_,?_,?_⟩ (qA7 ?_) ?_ ?_ ?_) ⟨?_,?_,?_,?_⟩ (fc ?_ (λ_ h=>nomatch h)) ⟨?_,?_,?_⟩ (mkF mB 370 721 ["self"] ?_ ?_ ?_ ?_) (qA7 ?_) ?_ t64 ?_ ?_ ?_ ?_) (
  λ_ h=>nomatch h)))))))))))))))
 all_goals first|kernel_rfl|exact λ_ _ _ _ _ _=>bd1 rfl λ_=>rfl|exact λ_ _ _ _ _ _=>bd2 rfl λ_ _=>rfl|exact λ_ _ _ _ _ _=>bd3 rfl λ_ _ _=>rfl|exact λ_ _ _ _ _ _=>bd4 rfl λ_ _ _ _=>rfl|(unfold NoAttr;kernel_rfl)|decide +kernel
noncomputable abbrev IsC (K:Frag) (c:Nat):Prop:=Cls K c/\findIn K (.ref c) "__class__"=some (some (.builtin "object.__class__"))/\PySem.W.specialIn K (.builtin "object.__class__") "__get__"=some (some (.builtin "getset_descriptor.__get__"))/\PySem.W.takesIn K (.builtin "object.__class__")=some true/\PySem.W.mroIn K c (.type "object")=some true
omit X G in
theorem iC:∀c∈iCl,IsC (heap P) c:=by
 refine fc ⟨⟨?_,?_,?_,?_⟩,?_,?_,?_,?_⟩ (fc ⟨⟨?_,?_,?_,?_⟩,?_,?_,?_,?_⟩ (fc ⟨⟨?_,?_,?_,?_⟩,?_,?_,?_,?_⟩ (fc ⟨⟨?_,?_,?_,?_⟩,?_,?_,?_,?_⟩ (fc ⟨⟨?_,?_,?_,?_⟩,?_,?_,?_,?_⟩ (fc ⟨⟨?_,?_,?_,?_⟩,?_,?_,?_,?_⟩ (fc ⟨⟨?_,?_,?_,?_⟩,?_,?_,?_,?_⟩ (fc ⟨⟨?_,?_,?_,?_⟩,?_,?_,?_,?_⟩ (fc ⟨⟨?_,?_,?_,?_⟩,?_,?_,?_,?_⟩ (fc ⟨⟨?_,?_,?_,?_⟩,?_,?_,?_,?_⟩ (fc ⟨⟨?_,?_,?_,?_⟩,?_,?_,?_,?_⟩ (fc ⟨⟨?_,?_,?_,?_⟩,?_,?_,?_,?_⟩ (λ_ h=>nomatch h))))))))))))
 all_goals kernel_rfl
theorem mkA {t:Str}{C:Nat}{p:Nat->Bool}(a:mg t=some (.ref C)) (h:iCl.map (λc=>PySem.W.kitOne (heap P) (.ref c) (.ref C))=iCl.map λc=>some (p c)):Dia (heap P) mg t (iTb p):=
 ⟨C,a,λq hq=>by
  obtain⟨c,hc,rfl⟩:=List.mem_map.mp hq
  obtain⟨h1,h2,h3,h4,h5⟩:=iC (P:=P) c hc
  exact⟨h1,h2,h3,h4,h5,List.map_inj_left.mp h c hc⟩⟩
theorem hia:∀q∈gx.isa,Dia (heap P) mg q.1 q.2:=by
 refine fc (mkA X G (t:="Want") (C:=250) (p:=λ_=>true) (mg_of X G ?_) ?_) (fc (mkA X G (t:="Anything") (C:=285) (p:=(· == 285)) (mg_of X G ?_) ?_) (fc (mkA X G (t:="Meets") (C:=325) (p:=(· == 325)) (mg_of X G ?_) ?_) (fc (mkA X G (t:="Inside") (C:=365) (p:=(· == 365)) (mg_of X G ?_) ?_) (fc (mkA X G (t:="Holds") (C:=405) (p:=(· == 405)) (mg_of X G ?_) ?_) (fc (mkA X G (t:="Near") (C:=445) (p:=(· == 445)) (mg_of X G ?_) ?_) (fc (mkA X G (t:="Marked") (C:=485) (p:=(· == 485)) (mg_of X G ?_) ?_) (fc (mkA X G (t:="Touched") (C:=525) (p:=(· == 525)) (mg_of X G ?_) ?_) (fc (mkA X G (t:="Crosses") (C:=565) (p:=(· == 565)) (mg_of X G ?_) ?_) (fc (mkA X G (t:="Worthy") (C:=605) (p:=(· == 605)) (mg_of X G ?_) ?_) (fc (mkA X G (t:="Both") (C:=645) (p:=(· == 645)) (mg_of X G ?_) ?_) (fc (mkA X G (t:="Either") (C:=685) (p:=(· == 685)) (mg_of X G ?_) ?_) (fc (mkA X G (t:="Unless") (C:=725) (p:=(· == 725)) (mg_of X G ?_) ?_) (λ_ h=>nomatch h)))))))))))))
 all_goals kernel_rfl
theorem fin {l:PySem.W.OpenLaw}{w:World}{fa:Addr}(hfa:mg "law"=some (.ref fa)):∃fd:FuncData,(∀(s:Shared) (v:Value),BindsTo s fd ⟨[v],[]⟩ [("script",v)])/\∀base:Heap,(heap P).In base->base.Ns mainGlobals mg->FnOk l.prog w (heap P) mg base CX0 106 fa fd ["script"] (spD (heap P) 1 (qAH tab 104 49)):=by
 have e:=hfa.symm.trans (mg_of X G (n:="law") (v:=.ref 852) (by kernel_rfl))
 cases e
 have l0:(heap P).lookup 852=some (fo "law" "law" (top 69) mC 1091 851):=by kernel_rfl
 exact⟨_,λs v=>.of_eq rfl,λbase _ _=>(fns qPc qLF (hb X G) (λx i h=>nomatch h) (λx i h=>hd X G (x,i) (PySem.mem_of_lookup h)) (λ_ h=>nomatch h) (hmt X G) (λt tb h=>hia X G (t,tb) (PySem.mem_of_lookup h)) 104 "law" "law" 49 _ _ (top 69) ["script"] f_law (qEV (qEh (st:=top 69) l0 (by kernel_rfl) (by kernel_rfl))) (qA7 (by kernel_rfl)) (by kernel_rfl) t49 rfl (by kernel_rfl)).1⟩
end
end Dw.K24
open PySem PySem.W PyProof.Rows
namespace Dw.K24
noncomputable def hk:Hook:=kHook heap ad (λ_=>by kernel_rfl)
noncomputable def q:Program:={ lw.prog with main:={ lw.prog.main with body:=c1::c2::c3::c4::c5::c6::c8::c10::c11::c12::c14::c15::c16::c18::c19::c20::c21::c22::c23::c24::c25::c26::c27::c29::c30::c31::c32::c33::c34::c35::c36::c37::c38::c39::c40::c41::c42::c43::c44::c45::c46::c47::c48::c49::c51::c52::c53::c54::c55::c56::c57::c58::c59::c60::c61::c62::c63::c64::c65::c66::c67::c68::c69::[] } }
theorem hl:LeftO lw.row.toRowW.prog q [] (λs=>xlAt q [] s&&recOk (RowW.records lw.row.toRowW) s) (Hook.obs hk) (Hook.val hk) 8000:=
 LeftO.of_pieces (H₀:=boot_heap) (H₁:=hZ) (gs₀:=⟨[]⟩) (gs₁:=⟨[]⟩) (d₀:=boot_drawn) (d₁:={}) (k₀:=boot_toks) (k₁:=1264) (m₀:=11) (ann:=some (.ref 6)) (boot_open (by kernel_rfl) rfl λs=>rfl) (λw=>by kernel_rfl) run (by kernel_rfl) λw=>by kernel_rfl
theorem said:lw.wellSaid=true:=by kernel_rfl
end Dw.K24
set_option maxRecDepth 100000 in
set_option maxHeartbeats 0 in
theorem PySem.Challenge.cw_driftwood_k24_wants_written_holds : PySem.Challenge.rw_driftwood_k24_wants_written.Holds := by
 rw [Dw.K24.lw_eq]
 w_on
 refine holds_law Dw.K24.said λsaid=>?_
 refine holds_open (q:=Dw.K24.q) (loose:=[]) (Xt:=λs=>xlAt Dw.K24.q [] s&&recOk (RowW.records Dw.K24.lw.row.toRowW) s) (XP:=XL Dw.K24.q []) (Yf:=Hook.obs Dw.K24.hk) (Ya:=Hook.val Dw.K24.hk) (YP:=Hook.says Dw.K24.hk) (N:=8000) Dw.K24.hl (Hook.of Dw.K24.hk) (Hook.keeps Dw.K24.hk) (λs e=>xl_of s (Bool.and_eq_true_iff.mp e).1) XL.keeps (by rfl) (by rfl) (by rfl) (λs e=>recFacts_of (Bool.and_eq_true_iff.mp e).2) (by rfl) (by assumption) (by kernel_rfl) ⟨rfl,rfl,rfl,rfl,rfl,by kernel_rfl⟩ ?hw ?hc
 case hw=>w_witness2
 exact Dw.dw_walk (l:=Dw.K24.lw) (tab:=Dw.T.tab) (n:=104) (i:=49) (λns h w=>Dw.T.c_law24 0 ns h w) rfl rfl ⟨rfl,by decide,by decide⟩ (λw h Y=>PySem.W.kIn_of Y) λw mg fa h KX G hmg=>Dw.K24.fin KX G hmg
