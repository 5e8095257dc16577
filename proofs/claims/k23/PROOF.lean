import PyProof.Rows.All
import Wide.All
import OpenK.AllK
import Wide.FinOn
import Lean
import PyProof.EqAt
import PyProof.EqKinds
import PyProof.TupleCall
import PySem.Challenge.RW_driftwood_k23_whole_verdicts_true
set_option linter.all false
set_option Elab.async false
set_option maxRecDepth 100000
set_option maxHeartbeats 4000000
namespace Dw
open PySem
structure Kn where
 c:Nat
 ns:List Str
 deriving DecidableEq,Inhabited
inductive D where
 | non|bl (b:Bool)|int (i:Int)|str (x:Str)|tup (ds:List D)|lst (ds:List D)
  | dct (m:Bool) (ks:List Int)
  | obj (ns:Kn) (ds:List D)
 deriving Inhabited
inductive BOp where|add|sub|mul|fdiv|mod|pow|shl|shr|band|bor|bxor
 deriving DecidableEq,Inhabited
inductive COp where|eq|ne|lt|le|gt|ge|isin|notin
 deriving DecidableEq,Inhabited
inductive BI where|len|abs|min|max|sum|all|tuple|list|int|any|str|sorted
 deriving DecidableEq,Inhabited
inductive Ty where|int|bool|tuple|list|str
 deriving DecidableEq,Inhabited
inductive Tg where|one (i:Nat)|two (i j:Nat)|many (is:List Nat)
 deriving DecidableEq,Inhabited
inductive Ar where|pos (i:Nat)|kw (i:Nat)|dft (j:Nat) (d:D)
 deriving Inhabited
inductive C where
 | v (i:Nat)
 | k (d:D)
 | bin (o:BOp) (a b:C)
 | neg (a:C)
 | cmp (o:COp) (a b:C)
 | isC (neg:Bool) (a:C) (d:D)
 | inV (neg:Bool) (a:C) (i:Nat)
 | and (a b:C)|or (a b:C)|not (a:C)
 | ix (a b:C)
 | sl (a:C) (lo hi:Option C)
 | tup (as:List C)|lst (as:List C)
 | call (f:Nat) (as:List C)
 | bi (b:BI) (as:List C)
 | isi (a:C) (t:Ty)
 | bitl (a:C)
 | ifx (c a b:C)
 | rev (a:C)
 | join (a b:C)
 | fstr (as:List C)
 | chn (o p:COp) (a b c:C)
 | callP (f:Nat) (as ks:List C) (pl:List Ar)
 | compS (e:C) (nl:Nat) (ks:List Nat) (tg:Tg) (src:C)
 | compR (e:C) (nl:Nat) (ks:List Nat) (tg:Tg) (rs:List C)
 | compZ (e:C) (nl:Nat) (ks:List Nat) (tg:Tg) (a b:C)
 | compE (e:C) (nl:Nat) (ks:List Nat) (tg:Tg) (a:C)
 | compF (e c:C) (nl:Nat) (ks:List Nat) (tg:Tg) (src:C)
 | compG (e c:C) (nl:Nat) (ks:List Nat) (tg:Tg) (rs:List C)
 | fld (a:C) (j:Nat) (f:Str)
 | mk (kn:Kn) (as:List C)
 | mc (a:C) (m:Str) (tb:List (Nat×Nat)) (bs:List C)
 deriving Inhabited
inductive S where
 | frz (is:List Nat)
 | set (i:Nat) (keep:Bool) (e:C)
 | dnew (i:Nat)
 | aug (i:Nat) (e:C)
 | popE (i:Nat)
 | setIx (i:Nat) (k e:C)
 | hnd (i f:Nat) (as:List C)
 | app (i:Nat) (e:C)
 | ret (e:C)
 | ite (c:C) (a b:List S)
 | forS (tg:Tg) (src:C) (body:List S)
 | forR (tg:Tg) (rs:List C) (body:List S)
 | forZ (tg:Tg) (a b:C) (body:List S)
 | forE (tg:Tg) (a:C) (body:List S)
 | forV (tg:Tg) (rs:List C) (body:List S)
 | ext (i:Nat) (e:C)
 | asgT (tg:Tg) (e:C)
 | pop (tg:Tg) (i:Nat)
 | whl (c:C) (body:List S)
 | brk
 | cnt
 | stk
 deriving Inhabited
noncomputable abbrev R:=Bool×D
noncomputable abbrev En:=List (Option R)
mutual
@[simp] noncomputable def eqD:D->D->Bool
 | .non,.non=>true
 | .bl a,.bl b=>a == b
 | .bl a,.int b=>(if a then (1:Int) else 0) == b
 | .int a,.bl b=>a == (if b then (1:Int) else 0)
 | .int a,.int b=>a == b
 | .str a,.str b=>a == b
 | .tup xs,.tup ys=>qLP xs ys
 | .lst xs,.lst ys=>qLP xs ys
 | .dct a ks,.dct b js=>a == b&&ks == js
 | .obj a xs,.obj b ys=>a == b&&qLP xs ys
 | _,_=>false
@[simp] noncomputable def qLP:List D->List D->Bool
 | [],[]=>true
 | x::xs,y::ys=>eqD x y&&qLP xs ys
 | _,_=>false
end
mutual
@[simp] noncomputable def qCN:Nat->D->Bool
 | 0,.tup _=>false
 | 0,.lst _=>false
 | n+1,.tup ds=>qIO n ds
 | n+1,.lst ds=>qIO n ds
 | _,_=>true
@[simp] noncomputable def qIO:Nat->List D->Bool
 | _,[]=>true
 | n,d::ds=>qCN n d&&qIO n ds
end
mutual
@[simp] noncomputable def nob:D->Bool
 | .tup ds=>qD7 ds
 | .lst ds=>qD7 ds
 | .obj _ _=>false
 | _=>true
@[simp] noncomputable def qD7:List D->Bool
 | []=>true
 | d::ds=>nob d&&qD7 ds
end
theorem qFF {α:Type}(f:α->D):∀l:List α,qD7 (l.map f)=l.all λx=>nob (f x)
 | []=>rfl
 | x::r=>by simp [qFF f r]
@[simp] noncomputable def qOG:D->D->Option Bool
 | .lst xs,.lst []=>some xs.isEmpty
 | _,_=>none
noncomputable def HX:Nat:=1000000
noncomputable def lim:Nat:=2^24
noncomputable def big:Nat:=2^4000
noncomputable def qDh:Nat:=2^1048576
noncomputable def qCf (a b:Int):Bool:=decide ((a.natAbs<2^240/\b.natAbs<2^240)∨a.natAbs<2^64∨b.natAbs<2^64∨(a.natAbs<qDh/\b.natAbs<qDh))
noncomputable def qAW (b:Int):Bool:=decide (b≠0/\(b.natAbs<2^240∨b.natAbs<big))
noncomputable def qIN (a b:Int):Bool:=decide (0<=b/\b<=1000/\a.natAbs<2^64)
noncomputable def qCI (a b:Int):Bool:=decide (a.natAbs<2^240/\0<=b/\b<=200)
noncomputable def qQF (is:List Int):List Int:=is.mergeSort (λa b=>decide (a<=b))
noncomputable def qQf (i:Int):Str:=Str.ofString (toString i)
noncomputable def qN0 (sep:Str) (ts:List Str):Str:=⟨(ts.drop 1).foldl (λacc p=>acc++sep.cps++p.cps) (ts.headD Str.empty).cps⟩
@[simp] noncomputable def qFt:List D->Option (List Str)
 | []=>some []
 | .str i::r=>(qFt r).map (i::·)
 | _=>none
noncomputable def qNQ (sep:Str) (ts:List Str):Bool:=decide (ts.toArray.foldl (λn t=>n+t.length+sep.length) 0<=lim/\(qN0 sep ts).length<=lim)
@[simp] noncomputable def qPw:D->D->Option R
 | .str sep,.lst xs=>(qFt xs).bind λts=>if qNQ sep ts then some (false,.str (qN0 sep ts)) else none
 | _,_=>none
noncomputable def qOI (acc:Str):List Str->Option Str
 | []=>some acc
 | t::r=>if (acc++t).length<=lim then qOI (acc++t) r else none
@[simp] noncomputable def qQH:D->Option R
 | .tup xs=>some (false,.tup xs.reverse)
 | _=>none
noncomputable def qEM:BOp->D->D->Option R
 | .add,.int a,.int b=>some (false,.int (a+b))
 | .sub,.int a,.int b=>some (false,.int (a - b))
 | .mul,.int a,.int b=>if qCf a b then some (false,.int (a * b)) else none
 | .fdiv,.int a,.int b=>if qAW b then some (false,.int (a.fdiv b)) else none
 | .mod,.int a,.int b=>if qAW b then some (false,.int (a.fmod b)) else none
 | .pow,.int a,.int b=>if qCI a b then some (false,.int (a^b.toNat)) else none
 | .shl,.int a,.int b=>if qIN a b then some (false,.int (a * 2^b.toNat)) else none
 | .shr,.int a,.int b=>if 0<=b then some (false,.int (a / 2^b.toNat)) else none
 | .band,.int a,.int b=>if 0<=a/\0<=b then some (false,.int ((a.toNat &&& b.toNat:Nat):Int)) else none
 | .bor,.int a,.int b=>if 0<=a/\0<=b then some (false,.int ((a.toNat ||| b.toNat:Nat):Int)) else none
 | .bxor,.int a,.int b=>if 0<=a/\0<=b then some (false,.int (((a.toNat ||| b.toNat:Nat):Int) - ((a.toNat &&& b.toNat:Nat):Int))) else none
 | .add,.lst a,.lst b=>if a.length+b.length<=lim then some (true,.lst (a++b)) else none
 | .add,.str a,.str b=>if a.length+b.length<=lim then some (false,.str (a++b)) else none
 | .add,.tup [],.tup b=>some (false,.tup b)
 | .add,.tup (x::a),.tup b=>if a.length+1+b.length<=lim then some (false,.tup (x::a++b)) else none
 | .mul,.lst a,.int b=>if a.length * b.toNat<=lim/\-(2^62)<b/\b<2^62 then some (true,.lst (List.replicate b.toNat a).flatten) else none
 | _,_,_=>none
@[simp] noncomputable def qCi:List D->Option (List Int)
 | []=>some []
 | .int i::r=>(qCi r).map (i::·)
 | _=>none
noncomputable def qD3 (ys:List D) (x:D):Bool:=ys.any λy=>eqD y x
@[simp] noncomputable def inD (n:Bool):D->D->Option R
 | x,.tup ys=>if qCN 19 x&&(nob x&&qD7 ys) then some (false,.bl (if n then !(qD3 ys x) else qD3 ys x)) else none
 | x,.lst ys=>if qCN 19 x&&(nob x&&qD7 ys) then some (false,.bl (if n then !(qD3 ys x) else qD3 ys x)) else none
 | _,_=>none
@[simp] noncomputable def qFd:COp->D->D->Option R
 | .isin,a,b=>inD false a b
 | .notin,a,b=>inD true a b
 | .eq,a,b=>if (qCN 20 a||qCN 20 b)&&(nob a&&nob b) then some (false,.bl (eqD a b)) else none
 | .ne,a,b=>if (qCN 20 a||qCN 20 b)&&(nob a&&nob b) then some (false,.bl (!eqD a b)) else (qOG a b).map λe=>(false,.bl (!e))
 | .lt,.int a,.int b=>some (false,.bl (decide (a<b)))
 | .le,.int a,.int b=>some (false,.bl (decide (a<=b)))
 | .gt,.int a,.int b=>some (false,.bl (decide (b<a)))
 | .ge,.int a,.int b=>some (false,.bl (decide (b<=a)))
 | _,_,_=>none
@[simp] noncomputable def ixN (n:Nat) (i:Int):Option Nat:=if 0<=i then (if i<n then some i.toNat else none) else if -(n:Int)<=i then some (i+n).toNat else none
@[simp] noncomputable def ixD (xs:List D) (i:Int):Option D:=(ixN xs.length i).bind λj=>xs[j]?
@[simp] noncomputable def cutAt (n d:Nat):Option Int->Nat
 | none=>d
 | some v=>if v<0 then (v+n).toNat else min v.toNat n
@[simp] noncomputable def qJo (xs:List D) (lo hi:Option Int):List D:=(xs.drop (cutAt xs.length 0 lo)).take (cutAt xs.length xs.length hi - cutAt xs.length 0 lo)
@[simp] noncomputable def qDu:List D->Option (List Bool)
 | []=>some []
 | .bl i::r=>(qDu r).map (i::·)
 | _=>none
noncomputable def mnL:List Int->Option Int
 | []=>none
 | a::r=>some (r.foldl (λm x=>if x<m then x else m) a)
noncomputable def mxL:List Int->Option Int
 | []=>none
 | a::r=>some (r.foldl (λm x=>if m<x then x else m) a)
noncomputable def qNF (xs:List D):Option R:=match qCi xs with
 | some is=>(mnL is).map λm=>(false,.int m)
 | none=>none
noncomputable def biD:BI->List D->Option R
 | .len,[.tup xs]=>some (false,.int xs.length)
 | .len,[.lst xs]=>some (false,.int xs.length)
 | .abs,[.int i]=>some (false,.int (if i<0 then -i else i))
 | .min,[.int i,.int j]=>some (false,.int (if j<i then j else i))
 | .max,[.int i,.int j]=>some (false,.int (if j > i then j else i))
 | .max,[.int i,.int j,.int k]=>some (false,.int (if k > (if j > i then j else i) then k else (if j > i then j else i)))
 | .min,[.lst xs]=>qNF xs
 | .max,[.lst xs]=>(qCi xs).bind λis=>(mxL is).map λm=>(false,.int m)
 | .sum,[.lst xs]=>(qCi xs).map λis=>(false,.int is.sum)
 | .all,[.lst xs]=>(qDu xs).map λbs=>(false,.bl (bs.all id))
 | .sorted,[.lst xs]=>(qCi xs).bind λis=>if is.length<64 then some (true,.lst ((qQF is).map .int)) else none
 | .any,[.lst xs]=>(qDu xs).map λbs=>(false,.bl (bs.any id))
 | .str,[.int i]=>if i.natAbs<2^240 then some (false,.str (qQf i)) else none
 | .tuple,[.lst xs]=>some (false,.tup xs)
 | .tuple,[.tup xs]=>some (false,.tup xs)
 | .list,[.lst xs]=>some (true,.lst xs)
 | .list,[.tup xs]=>some (true,.lst xs)
 | .int,[.bl b]=>some (false,.int (if b then 1 else 0))
 | .int,[.int i]=>some (false,.int i)
 | _,_=>none
@[simp] noncomputable def tyD:Ty->D->Bool
 | .int,.int _=>true
 | .int,.bl _=>true
 | .bool,.bl _=>true
 | .tuple,.tup _=>true
 | .list,.lst _=>true
 | .str,.str _=>true
 | _,_=>false
@[simp] noncomputable def tyR (t:Ty):D->Option R
 | .obj _ _=>none
 | d=>some (false,.bl (tyD t d))
@[simp] noncomputable def isD (neg:Bool):D->D->Option R
 | .obj _ _,_=>none
 | .non,.non=>some (false,.bl (!neg))
 | _,.non=>some (false,.bl neg)
 | .bl a,.bl b=>some (false,.bl (if a == b then !neg else neg))
 | _,.bl _=>some (false,.bl neg)
 | _,_=>none
@[simp] noncomputable def qAe (σ:En) (i:Nat):Option R:=(σ[i]?).join
noncomputable def qEi (σ:En):List Nat->List D->Option En
 | [],[]=>some σ
 | i::is,d::ds=>qEi (σ.set i (some (false,d))) is ds
 | _,_=>none
noncomputable def qBq (σ:En):Tg->D->Option En
 | .one i,d=>some (σ.set i (some (false,d)))
 | .two i j,.tup [x,y]=>some ((σ.set i (some (false,x))).set j (some (false,y)))
 | .many is,.tup ds=>qEi σ is ds
 | _,_=>none
noncomputable def qEJ (a b c:Int):Int:=if c > 0 then if a<b then (b - a - 1) / c+1 else 0 else if a > b then (a - b - 1) / -c+1 else 0
@[simp] noncomputable def qEK:List D->Option (List D)
 | [.int n]=>if -(2^62)<=n/\n<2^62 then some ((List.range n.toNat).map λi=>.int (i:Nat)) else none
 | [.int a,.int b]=>some ((List.range (b - a).toNat).map λi=>.int (a+(i:Nat)))
 | [.int a,.int b,.int c]=>if -(2^62)<=a/\a<2^62/\-(2^62)<=b/\b<2^62/\c≠0/\c.natAbs<2^30 then some ((List.range (qEJ a b c).toNat).map λi=>.int (a+(i:Nat) * c)) else none
 | _=>none
@[simp] noncomputable def rvD:List D->Option (List D)
 | [.int n]=>if -(2^62)<=n/\n<2^62 then some ((List.range n.toNat).map λi=>.int ((n.toNat:Int) - 1 - (i:Nat))) else none
 | _=>none
@[simp] noncomputable def qCw:D->Option (List D)
 | .lst xs=>some xs
 | .tup xs=>some xs
 | _=>none
@[simp] noncomputable def qF6:D->Option (List D)
 | .tup xs=>some xs
 | .lst xs=>some xs
 | _=>none
noncomputable def qLQ:Nat->List D->List D
 | _,[]=>[]
 | n,x::r=>.tup [.int (n:Nat),x]::qLQ (n+1) r
noncomputable def qCk (a b:List D):List D:=List.zipWith (λx y=>.tup [x,y]) a b
noncomputable def qDD (f:En->Option R) (σ:En) (tg:Tg):List D->Option (List D)
 | []=>some []
 | x::r=>(qBq σ tg x).bind fun σ'=>(f σ').bind λy=>(qDD f σ tg r).bind λys=>some (y.2::ys)
noncomputable def qQh (a b:Option (List D)):R->Option (List D)
 | (_,.bl true)=>a
 | (_,.bl false)=>b
 | _=>none
noncomputable def qDr (c f:En->Option R) (σ:En) (tg:Tg):List D->Option (List D)
 | []=>some []
 | x::r=>(qBq σ tg x).bind fun σ'=>(c σ').bind (qQh ((f σ').bind λy=>(qDr c f σ tg r).bind λys=>some (y.2::ys)) (qDr c f σ tg r))
@[simp] noncomputable def qBb (σ:En) (nl:Nat) (ks:List Nat):En:=List.replicate nl none++ks.map λj=>qAe σ j
@[simp] noncomputable def pkR:R->Option D
 | (false,d)=>some d
 | (true,.lst ds)=>some (.lst ds)
 | _=>none
@[simp] noncomputable def pk (σ:En) (c:C) (r:Option R):Option D:=match c with
 | .v i=>(qAe σ i).bind pkR
 | _=>r.map (·.2)
@[simp] noncomputable def agR:R->Option D
 | (false,d)=>some d
 | (true,.dct _ ks)=>some (.dct false ks)
 | _=>none
@[simp] noncomputable def ag (σ:En) (c:C) (r:Option R):Option D:=match c with
 | .v i=>(qAe σ i).bind agR
 | _=>r.map (·.2)
@[simp] noncomputable def inR (n:Bool):D->R->Option R
 | .int k,(true,.dct _ ks)=>some (false,.bl (if n then !(ks.any (· == k)) else ks.any (· == k)))
 | .bl b,(true,.lst ds)=>(qDu ds).map λbs=>(false,.bl (if n then !(bs.any (· == b)) else bs.any (· == b)))
 | x,(false,d)=>inD n x d
 | _,_=>none
noncomputable def mtb (m:Str) (tb:List (Nat×Nat)):D->Option Nat
 | .obj kn _=>if kn.ns.all (λf=>f != m) then tb.lookup kn.c else none
 | _=>none
noncomputable def qCQ (j:Nat) (f:Str):D->Option R
 | .obj ns ds=>if ns.ns[j]?=some f then (ds[j]?).map (false,·) else none
 | _=>none
@[simp] noncomputable def qL6:D->Option (Option Int)
 | .int i=>some (some i)
 | _=>none
@[simp] noncomputable def qPr:D->Option R
 | .int i=>some (false,.int (-i))
 | _=>none
@[simp] noncomputable def ixx:D->D->Option R
 | .lst xs,.int i=>(ixD xs i).map (false,·)
 | .tup xs,.int i=>(ixD xs i).map (false,·)
 | _,_=>none
@[simp] noncomputable def slx (l h:Option Int):D->Option R
 | .lst xs=>some (true,.lst (qJo xs l h))
 | .tup xs=>some (false,.tup (qJo xs l h))
 | _=>none
@[simp] noncomputable def qPU (k:Option R):R->Option R
 | (_,.bl true)=>k
 | (_,.bl false)=>some (false,.bl false)
 | _=>none
@[simp] noncomputable def orK (k:Option R):R->Option R
 | (_,.bl true)=>some (false,.bl true)
 | (_,.bl false)=>k
 | _=>none
@[simp] noncomputable def qP9:R->Option R
 | (_,.bl c)=>some (false,.bl (!c))
 | _=>none
noncomputable def qQ1 (i:Int):Int:=if i=0 then 0 else ((i.natAbs.log2+1:Nat):Int)
@[simp] noncomputable def qQ2:D->Option R
 | .int i=>some (false,.int (qQ1 i))
 | _=>none
@[simp] noncomputable def ifK (a b:Option R):R->Option R
 | (_,.bl true)=>a
 | (_,.bl false)=>b
 | _=>none
@[simp] noncomputable def qAR:Option R->Option R
 | some (false,d)=>some (false,d)
 | _=>none
noncomputable def arD (xs zs:List D):Ar->Option D
 | .pos i=>xs[i]?
 | .kw i=>zs[i]?
 | .dft _ d=>some d
noncomputable def plD (xs zs:List D):List Ar->Option (List D)
 | []=>some []
 | a::r=>(arD xs zs a).bind λx=>(plD xs zs r).bind λys=>some (x::ys)
section
variable (call:Nat->List D->Option R)
mutual
noncomputable def evE (σ:En):C->Option R
 | .v i=>qAR (qAe σ i)
 | .k d=>some (false,d)
 | .bin o a b=>(pk σ a (evE σ a)).bind λx=>(pk σ b (evE σ b)).bind λy=>qEM o x y
 | .neg a=>(pk σ a (evE σ a)).bind qPr
 | .cmp o a b=>(pk σ a (evE σ a)).bind λx=>(pk σ b (evE σ b)).bind λy=>qFd o x y
 | .isC n a d=>(pk σ a (evE σ a)).bind λx=>isD n x d
 | .and a b=>(evE σ a).bind (qPU (evE σ b))
 | .or a b=>(evE σ a).bind (orK (evE σ b))
 | .not a=>(evE σ a).bind qP9
 | .ix a b=>(pk σ a (evE σ a)).bind λx=>(pk σ b (evE σ b)).bind λy=>ixx x y
 | .sl a lo hi=>(pk σ a (evE σ a)).bind λx=>(evO σ lo).bind λl=>(evO σ hi).bind λh=>slx l h x
 | .tup as=>(evA σ as).bind λxs=>if xs.length<=lim then some (false,.tup xs) else none
 | .lst as=>(evA σ as).bind λxs=>if xs.length<=lim then some (true,.lst xs) else none
 | .call f as=>(evG σ as).bind λxs=>call f xs
 | .inV n a i=>(pk σ a (evE σ a)).bind λx=>(qAe σ i).bind λy=>inR n x y
 | .bi b as=>(qCt σ as).bind λxs=>biD b xs
 | .isi a t=>(pk σ a (evE σ a)).bind (tyR t)
 | .bitl a=>(pk σ a (evE σ a)).bind qQ2
 | .ifx c a b=>(evE σ c).bind (ifK (evE σ a) (evE σ b))
 | .rev a=>(pk σ a (evE σ a)).bind qQH
 | .join a b=>(pk σ a (evE σ a)).bind λx=>(pk σ b (evE σ b)).bind λy=>qPw x y
 | .fstr as=>(evA σ as).bind λxs=>(qFt xs).bind λts=>(qOI Str.empty ts).map λz=>(false,.str z)
 | .chn o p a b c=>(pk σ a (evE σ a)).bind λx=>(pk σ b (evE σ b)).bind λy=>(qFd o x y).bind (qPU ((pk σ c (evE σ c)).bind λz=>qFd p y z))
 | .callP f as ks pl=>(evA σ as).bind λxs=>(evA σ ks).bind λzs=>(plD xs zs pl).bind λds=>call f ds
 | .compS e nl ks tg src=>(evE σ src).bind λx=>(qCw x.2).bind λits=>(qDD (fun σ'=>evE σ' e) (qBb σ nl ks) tg its).bind λys=>some (true,.lst ys)
 | .compR e nl ks tg rs=>(qCt σ rs).bind λx=>(qEK x).bind λits=>if its.length<=lim then (qDD (fun σ'=>evE σ' e) (qBb σ nl ks) tg its).bind λys=>some (true,.lst ys) else none
 | .compZ e nl ks tg a b=>(evE σ a).bind λx=>(evE σ b).bind λy=>(qCw x.2).bind λxs=>(qF6 y.2).bind λys =>
   (qDD (fun σ'=>evE σ' e) (qBb σ nl ks) tg (qCk xs ys)).bind λzs=>some (true,.lst zs)
 | .compE e nl ks tg a=>(evE σ a).bind λx=>(qCw x.2).bind λxs=>(qDD (fun σ'=>evE σ' e) (qBb σ nl ks) tg (qLQ 0 xs)).bind λzs=>some (true,.lst zs)
 | .compF e c nl ks tg src=>(evE σ src).bind λx=>(qCw x.2).bind λits=>(qDr (fun σ'=>evE σ' c) (fun σ'=>evE σ' e) (qBb σ nl ks) tg its).bind λys=>some (true,.lst ys)
 | .compG e c nl ks tg rs=>(qCt σ rs).bind λx=>(qEK x).bind λits=>if its.length<=lim then (qDr (fun σ'=>evE σ' c) (fun σ'=>evE σ' e) (qBb σ nl ks) tg its).bind λys=>some (true,.lst ys) else none
 | .fld a j f=>(evE σ a).bind λx=>qCQ j f x.2
 | .mk kn as=>(evA σ as).bind λxs=>if xs.length=kn.ns.length then some (false,.obj kn xs) else none
 | .mc a m tb bs=>(evE σ a).bind λx=>(mtb m tb x.2).bind λf=>(evA σ bs).bind λys=>call f (x.2::ys)
termination_by structural c=>c
noncomputable def evA (σ:En):List C->Option (List D)
 | []=>some []
 | a::r=>(evE σ a).bind λx=>(evA σ r).bind λxs=>some (x.2::xs)
termination_by structural c=>c
noncomputable def qCt (σ:En):List C->Option (List D)
 | []=>some []
 | a::r=>(pk σ a (evE σ a)).bind λx=>(qCt σ r).bind λxs=>some (x::xs)
termination_by structural c=>c
noncomputable def evG (σ:En):List C->Option (List D)
 | []=>some []
 | a::r=>(ag σ a (evE σ a)).bind λx=>(evG σ r).bind λxs=>some (x::xs)
termination_by structural c=>c
noncomputable def evO (σ:En):Option C->Option (Option Int)
 | none=>some none
 | some c=>(pk σ c (evE σ c)).bind qL6
termination_by structural c=>c
end
inductive Ou where|nx (σ:En)|rt (r:R)|bk (σ:En)|ct (σ:En)
@[simp] noncomputable def frz1 (σ:En) (i:Nat):En:=match qAe σ i with|some (true,.lst ds)=>σ.set i (some (false,.lst ds))|_=>σ
@[simp] noncomputable def qAz (keep:Bool) (r:R):R:=(keep&&r.1,r.2)
noncomputable def qEq (f:En->Option Ou) (tg:Tg):List D->En->Option Ou
 | [],σ=>some (.nx σ)
 | x::r,σ=>(qBq σ tg x).bind fun σ1=>(f σ1).bind λo=>match o with
   | .nx σ2=>qEq f tg r σ2
   | .ct σ2=>qEq f tg r σ2
   | .bk σ2=>some (.nx σ2)
   | .rt v=>some (.rt v)
@[simp] noncomputable def qQd (a b:Option Ou):R->Option Ou
 | (_,.bl true)=>a
 | (_,.bl false)=>b
 | _=>none
@[simp] noncomputable def qMO (σ:En) (i:Nat) (k e:D):Option Ou:=match qAe σ i,k with
 | some (true,.lst xs),.int n=>(ixN xs.length n).bind λj=>some (.nx (σ.set i (some (true,.lst (xs.set j e)))))
 | some (true,.dct true ks),.int n=>match e with
  | .bl true=>if ks.length<lim then some (.nx (σ.set i (some (true,.dct true (if ks.any (· == n) then ks else ks++[n]))))) else none
  | _=>none
 | _,_=>none
@[simp] noncomputable def qJy (σ:En) (i:Nat) (e:D):Option Ou:=match qAe σ i with
 | some (true,.lst xs)=>if xs.length<lim then some (.nx (σ.set i (some (true,.lst (xs++[e]))))) else none
 | _=>none
@[simp] noncomputable def rtR:R->Option R
 | (false,d)=>some (false,d)
 | (true,.lst ds)=>some (true,.lst ds)
 | _=>none
@[simp] noncomputable def qA2 (σ:En) (c:C) (r:Option R):Option R:=match c with
 | .v i=>(qAe σ i).bind rtR
 | _=>r
@[simp] noncomputable def qKq (k:En->Option Ou):Ou->Option Ou
 | .nx σ=>k σ
 | .rt r=>some (.rt r)
 | .bk σ=>some (.bk σ)
 | .ct σ=>some (.ct σ)
@[simp] noncomputable def qJa (k:En->Option Ou):Ou->Option Ou
 | .nx σ=>k σ
 | .ct σ=>k σ
 | .bk σ=>some (.nx σ)
 | .rt r=>some (.rt r)
@[simp] noncomputable def qOL (σ:En) (k:Option Ou):R->Option Ou
 | (_,.bl true)=>k
 | (_,.bl false)=>some (.nx σ)
 | _=>none
noncomputable def qDF (c:En->Option R) (b:En->Option Ou):Nat->En->Option Ou
 | 0,_=>none
 | n+1,σ=>(c σ).bind (qOL σ ((b σ).bind (qJa (qDF c b n))))
@[simp] noncomputable def qQW (σ:En) (i:Nat):R->Option Ou
 | (true,.lst ys)=>match qAe σ i with
  | some (true,.lst xs)=>if xs.length+ys.length<=lim then some (.nx (σ.set i (some (true,.lst (xs++ys))))) else none
  | _=>none
 | (false,.tup ys)=>match qAe σ i with
  | some (true,.lst xs)=>if xs.length+ys.length<=lim then some (.nx (σ.set i (some (true,.lst (xs++ys))))) else none
  | _=>none
 | _=>none
@[simp] noncomputable def qQ4 (σ:En) (tg:Tg):R->Option Ou
 | (false,d)=>(qBq σ tg d).map .nx
 | _=>none
@[simp] noncomputable def qOE (σ:En) (tg:Tg) (i:Nat):Option Ou:=match qAe σ i with
 | some (true,.lst xs)=>(xs.getLast?).bind λd=>(qBq (σ.set i (some (true,.lst xs.dropLast))) tg d).map .nx
 | _=>none
@[simp] noncomputable def qQ3 (σ:En) (i:Nat) (y:D):Option Ou:=match qAe σ i,y with
 | some (false,.int a),.int b=>some (.nx (σ.set i (some (false,.int (a+b)))))
 | _,_=>none
@[simp] noncomputable def qPc (σ:En) (i:Nat):Option Ou:=match qAe σ i with
 | some (true,.lst xs)=>(xs.getLast?).bind λ_=>some (.nx (σ.set i (some (true,.lst xs.dropLast))))
 | _=>none
@[simp] noncomputable def qLd:R->Option (List D)
 | (true,.lst xs)=>some xs
 | _=>none
@[simp] noncomputable def qQg (σ:En) (i:Nat):R->Option Ou
 | (_,.lst ys)=>some (.nx (σ.set i (some (true,.lst ys))))
 | _=>none
mutual
noncomputable def evS (σ:En):S->Option Ou
 | .frz is=>some (.nx (is.foldl frz1 σ))
 | .set i keep e=>(evE call σ e).bind λr=>some (.nx (σ.set i (some (qAz keep r))))
 | .aug i e=>(pk σ e (evE call σ e)).bind (qQ3 σ i)
 | .popE i=>qPc σ i
 | .dnew i=>some (.nx (σ.set i (some (true,.dct true []))))
 | .setIx i k e=>(evE call σ e).bind λx=>(pk σ k (evE call σ k)).bind λn=>qMO σ i n x.2
 | .hnd i f as=>(qAe σ i).bind λr=>(qLd r).bind λxs=>(evA call σ as).bind λys=>(call (f+HX) (.lst xs::ys)).bind (qQg σ i)
 | .app i e=>(evE call σ e).bind λx=>qJy σ i x.2
 | .ret e=>(qA2 σ e (evE call σ e)).bind λr=>some (.rt r)
 | .ite c a b=>(evE call σ c).bind (qQd (qAr σ a) (qAr σ b))
 | .forS tg src body=>(evE call σ src).bind λx=>(qCw x.2).bind λits=>qEq (fun σ'=>qAr σ' body) tg its σ
 | .forR tg rs body=>(qCt call σ rs).bind λx=>(qEK x).bind λits=>qEq (fun σ'=>qAr σ' body) tg its σ
 | .forV tg rs body=>(qCt call σ rs).bind λx=>(rvD x).bind λits=>qEq (fun σ'=>qAr σ' body) tg its σ
 | .ext i e=>(evE call σ e).bind (qQW σ i)
 | .asgT tg e=>(evE call σ e).bind (qQ4 σ tg)
 | .pop tg i=>qOE σ tg i
 | .whl c body=>qDF (fun σ'=>evE call σ' c) (fun σ'=>qAr σ' body) big σ
 | .brk=>some (.bk σ)
 | .cnt=>some (.ct σ)
 | .stk=>none
 | .forZ tg a b body=>(evE call σ a).bind λx=>(evE call σ b).bind λy=>(qCw x.2).bind λxs=>(qF6 y.2).bind λys=>qEq (fun σ'=>qAr σ' body) tg (qCk xs ys) σ
 | .forE tg a body=>(evE call σ a).bind λx=>(qCw x.2).bind λxs=>qEq (fun σ'=>qAr σ' body) tg (qLQ 0 xs) σ
termination_by structural c=>c
noncomputable def qAr (σ:En):List S->Option Ou
 | []=>some (.nx σ)
 | a::r=>(evS σ a).bind (qKq fun σ'=>qAr σ' r)
termination_by structural c=>c
end
end
section
variable (call:Nat->List D->Option R) (σ:En)
noncomputable def qAM (e:C) (σ:En) (tg:Tg) (its:List D):Option (List D):=qDD (fun σ'=>evE call σ' e) σ tg its
noncomputable def qBa (c e:C) (σ:En) (tg:Tg) (its:List D):Option (List D):=qDr (fun σ'=>evE call σ' c) (fun σ'=>evE call σ' e) σ tg its
noncomputable def qA7 (body:List S) (tg:Tg) (its:List D) (σ:En):Option Ou:=qEq (fun σ'=>qAr call σ' body) tg its σ
@[simp] theorem qPK (i):evE call σ (.v i)=qAR (qAe σ i):=rfl
@[simp] theorem qHL (o a b):evE call σ (.bin o a b)=(pk σ a (evE call σ a)).bind λx=>(pk σ b (evE call σ b)).bind λy=>qEM o x y:=rfl
@[simp] theorem qHH (a):evE call σ (.neg a)=(pk σ a (evE call σ a)).bind qPr:=rfl
@[simp] theorem qE9 (o a b):evE call σ (.cmp o a b)=(pk σ a (evE call σ a)).bind λx=>(pk σ b (evE call σ b)).bind λy=>qFd o x y:=rfl
@[simp] theorem qE8 (n a d):evE call σ (.isC n a d)=(pk σ a (evE call σ a)).bind λx=>isD n x d:=rfl
@[simp] theorem qHM (a b):evE call σ (.and a b)=(evE call σ a).bind (qPU (evE call σ b)):=rfl
@[simp] theorem qJ4 (a b):evE call σ (.or a b)=(evE call σ a).bind (orK (evE call σ b)):=rfl
@[simp] theorem qHG (a):evE call σ (.not a)=(evE call σ a).bind qP9:=rfl
@[simp] theorem qJ7 (a b):evE call σ (.ix a b)=(pk σ a (evE call σ a)).bind λx=>(pk σ b (evE call σ b)).bind λy=>ixx x y:=rfl
@[simp] theorem qJ3 (a lo hi):evE call σ (.sl a lo hi)=(pk σ a (evE call σ a)).bind λx=>(evO call σ lo).bind λl=>(evO call σ hi).bind λh=>slx l h x:=rfl
@[simp] theorem qHF (as):evE call σ (.tup as)=(evA call σ as).bind λxs=>if xs.length<=lim then some (false,.tup xs) else none:=rfl
@[simp] theorem qHI (as):evE call σ (.lst as)=(evA call σ as).bind λxs=>if xs.length<=lim then some (true,.lst xs) else none:=rfl
@[simp] theorem qFS (f as):evE call σ (.call f as)=(evG call σ as).bind λxs=>call f xs:=rfl
@[simp] theorem qHJ (n a i):evE call σ (.inV n a i)=(pk σ a (evE call σ a)).bind λx=>(qAe σ i).bind λy=>inR n x y:=rfl
@[simp] theorem qAm:evG call σ []=some []:=rfl
@[simp] theorem qFR (a r):evG call σ (a::r)=(ag σ a (evE call σ a)).bind λx=>(evG call σ r).bind λxs=>some (x::xs):=rfl
@[simp] theorem qFT (b as):evE call σ (.bi b as)=(qCt call σ as).bind λxs=>biD b xs:=rfl
@[simp] theorem qLO (a t):evE call σ (.isi a t)=(pk σ a (evE call σ a)).bind (tyR t):=rfl
@[simp] theorem qDl (e nl ks tg src):evE call σ (.compS e nl ks tg src)=(evE call σ src).bind λx=>(qCw x.2).bind λits=>(qAM call e (qBb σ nl ks) tg its).bind λys=>some (true,.lst ys):=rfl
@[simp] theorem qDm (e nl ks tg rs):evE call σ (.compR e nl ks tg rs)=(qCt call σ rs).bind λx=>(qEK x).bind λits=>if its.length<=lim then (qAM call e (qBb σ nl ks) tg its).bind λys=>some (true,.lst ys) else none:=rfl
@[simp] theorem qDk (e nl ks tg a b):evE call σ (.compZ e nl ks tg a b)=(evE call σ a).bind λx=>(evE call σ b).bind λy=>(qCw x.2).bind λxs=>(qF6 y.2).bind λys =>
   (qAM call e (qBb σ nl ks) tg (qCk xs ys)).bind λzs=>some (true,.lst zs):=rfl
@[simp] theorem qEs (e c nl ks tg src):evE call σ (.compF e c nl ks tg src)=(evE call σ src).bind λx=>(qCw x.2).bind λits=>(qBa call c e (qBb σ nl ks) tg its).bind λys=>some (true,.lst ys):=rfl
@[simp] theorem qDn (e c nl ks tg rs):evE call σ (.compG e c nl ks tg rs)=(qCt call σ rs).bind λx=>(qEK x).bind λits=>if its.length<=lim then (qBa call c e (qBb σ nl ks) tg its).bind λys=>some (true,.lst ys) else none:=rfl
@[simp] theorem qHK (a j f):evE call σ (.fld a j f)=(evE call σ a).bind λx=>qCQ j f x.2:=rfl
@[simp] theorem qJ5 (kn as):evE call σ (.mk kn as)=(evA call σ as).bind λxs=>if xs.length=kn.ns.length then some (false,.obj kn xs) else none:=rfl
@[simp] theorem qJ6 (a m tb bs):evE call σ (.mc a m tb bs)=(evE call σ a).bind λx=>(mtb m tb x.2).bind λf=>(evA call σ bs).bind λys=>call f (x.2::ys):=rfl
@[simp] theorem qAt:evA call σ []=some []:=rfl
@[simp] theorem qCA (a r):evA call σ (a::r)=(evE call σ a).bind λx=>(evA call σ r).bind λxs=>some (x.2::xs):=rfl
@[simp] theorem qAv:qCt call σ []=some []:=rfl
@[simp] theorem qCB (a r):qCt call σ (a::r)=(pk σ a (evE call σ a)).bind λx=>(qCt call σ r).bind λxs=>some (x::xs):=rfl
@[simp] theorem qFQ (c):evO call σ (some c)=(pk σ c (evE call σ c)).bind qL6:=rfl
@[simp] theorem qHz (i keep e):evS call σ (.set i keep e)=(evE call σ e).bind λr=>some (.nx (σ.set i (some (qAz keep r)))):=rfl
@[simp] theorem qHC (i f as):evS call σ (.hnd i f as)=(qAe σ i).bind λr=>(qLd r).bind λxs=>(evA call σ as).bind λys=>(call (f+HX) (.lst xs::ys)).bind (qQg σ i):=rfl
@[simp] theorem qHD (i e):evS call σ (.app i e)=(evE call σ e).bind λx=>qJy σ i x.2:=rfl
@[simp] theorem qE7 (e):evS call σ (.ret e)=(qA2 σ e (evE call σ e)).bind λr=>some (.rt r):=rfl
@[simp] theorem qHB (c a b):evS call σ (.ite c a b)=(evE call σ c).bind (qQd (qAr call σ a) (qAr call σ b)):=rfl
@[simp] theorem qFO (tg src body):evS call σ (.forS tg src body)=(evE call σ src).bind λx=>(qCw x.2).bind λits=>qA7 call body tg its σ:=rfl
@[simp] theorem qFP (tg rs body):evS call σ (.forR tg rs body)=(qCt call σ rs).bind λx=>(qEK x).bind λits=>qA7 call body tg its σ:=rfl
@[simp] theorem qHA (tg i):evS call σ (.pop tg i)=qOE σ tg i:=rfl
@[simp] theorem qHy (c body):evS call σ (.whl c body)=qDF (fun σ'=>evE call σ' c) (fun σ'=>qAr call σ' body) big σ:=rfl
@[simp] theorem qFN (tg a b body):evS call σ (.forZ tg a b body)=(evE call σ a).bind λx=>(evE call σ b).bind λy=>(qCw x.2).bind λxs=>(qF6 y.2).bind λys=>qA7 call body tg (qCk xs ys) σ:=rfl
@[simp] theorem qJm:qAr call σ []=some (.nx σ):=rfl
@[simp] theorem qAS (a r):qAr call σ (a::r)=(evS call σ a).bind (qKq fun σ'=>qAr call σ' r):=rfl
theorem qBD (body tg x r):qA7 call body tg (x::r) σ=(qBq σ tg x).bind fun σ1=>(qAr call σ1 body).bind λo=>qJa (qA7 call body tg r) o:=by
 show (qBq σ tg x).bind _=(qBq σ tg x).bind _
 congr
theorem qDo (e tg x r):qAM call e σ tg (x::r)=(qBq σ tg x).bind fun σ1=>(evE call σ1 e).bind λy=>(qAM call e σ tg r).bind λys=>some (y.2::ys):=rfl
theorem qCP (c e tg x r):qBa call c e σ tg (x::r)=(qBq σ tg x).bind fun σ1=>(evE call σ1 c).bind (qQh ((evE call σ1 e).bind λy=>(qBa call c e σ tg r).bind λys=>some (y.2::ys)) (qBa call c e σ tg r)):=rfl
theorem qAX {α:Type}{e:C}{tg:Tg}(enc g:α->D):∀(l:List α),(∀x∈l,∃σ' b,qBq σ tg (enc x)=some σ'/\evE call σ' e=some (b,g x))->qAM call e σ tg (l.map enc)=some (l.map g)
 | [],_=>rfl
 | x::r,h=>by
  obtain⟨σ',b,h1,h2⟩:=h x List.mem_cons_self
  simp [qDo,h1,h2,qAX enc g r λy hy=>h y (List.mem_cons_of_mem _ hy)]
end
theorem qCj {call:Nat->List D->Option R}{σ:En}{α:Type}{c e:C}{tg:Tg}(enc g:α->D) (p:α->Bool):∀(l:List α),(∀x∈l,∃σ',qBq σ tg (enc x)=some σ'/\evE call σ' c=some (false,.bl (p x))/\(p x=true->∃b,evE call σ' e=some (b,g x)))->qBa call c e σ tg (l.map enc)=some ((l.filter p).map g)
 | [],_=>rfl
 | x::r,h=>by
  obtain⟨σ',h1,h2,h3⟩:=h x List.mem_cons_self
  have ih:=qCj enc g p r λy hy=>h y (List.mem_cons_of_mem _ hy)
  rw [List.map_cons,qCP,h1,Option.bind_some,h2,Option.bind_some,ih]
  cases hp:p x with
  | false=>rw [List.filter_cons_of_neg (by simp [hp])];rfl
  | true =>
   obtain⟨b,hb⟩:=h3 hp
   rw [List.filter_cons_of_pos hp]
   show (evE call σ' e).bind _=_
   rw [hb]
   rfl
theorem qBB {α:Type}(f:α->Int):∀l:List α,qCi (l.map λx=>.int (f x))=some (l.map f)
 | []=>rfl
 | x::r=>by simp [qBB f r]
theorem qEA {α:Type}(f:α->Bool):∀l:List α,qDu (l.map λx=>.bl (f x))=some (l.map f)
 | []=>rfl
 | x::r=>by simp [qEA f r]
structure Fd where
 np:Nat
 ns:Nat
 body:List S
@[simp] noncomputable def qQX:Ou->Option R
 | .nx _=>some (false,.non)
 | .rt r=>some r
 | _=>none
@[simp] noncomputable def agE:Bool->List D->En
 | _,[]=>[]
 | true,.dct _ _::r=>none::agE true r
 | false,.dct m ks::r=>some (true,.dct m ks)::agE true r
 | b,d::r=>some (false,d)::agE b r
noncomputable def qL5 (call:Nat->List D->Option R) (fd:Fd) (as:List D):Option R:=
 if as.length=fd.np then (qAr call (agE false as++List.replicate (fd.ns - fd.np) none) fd.body).bind qQX else none
@[simp] noncomputable def qQi:Ou->Option R
 | .nx σ=>(qAe σ 0).bind λr=>(qLd r).map λxs=>(true,.lst xs)
 | _=>none
noncomputable def qOD (call:Nat->List D->Option R) (fd:Fd):List D->Option R
 | .lst xs::as=>if as.length+1=fd.np then (qAr call (some (true,.lst xs)::as.map (λd=>some (false,d))++List.replicate (fd.ns - fd.np) none) fd.body).bind qQi else none
 | _=>none
noncomputable def qAC (tab:List Fd):Nat->Nat->List D->Option R
 | 0,_,_=>none
 | n+1,f,as=>match tab[f]? with
  | some fd=>qL5 (qAC tab n) fd as
  | none=>if HX<=f then (match tab[f - HX]? with|some fd=>qOD (qAC tab n) fd as|none=>none) else none
theorem qDZ {tab:List Fd}{f:Nat}{fd:Fd}(h:tab[f]?=some fd) (n:Nat) (as:List D):qAC tab (n+1) f as=qL5 (qAC tab n) fd as:=by
 rw [qAC,h]
theorem qD0 {tab:List Fd}{f:Nat}{fd:Fd}(hT:tab.length<=HX) (h:tab[f]?=some fd) (n:Nat) (as:List D):qAC tab (n+1) (f+HX) as=qOD (qAC tab n) fd as:=by
 rw [qAC,List.getElem?_eq_none (by omega)]
 show (if HX<=f+HX then _ else _)=_
 rw [if_pos (Nat.le_add_left _ _),Nat.add_sub_cancel,h]
end Dw
namespace Dw
open PySem
structure Uc where
 f:Str
 i:Nat
 np:Nat
 ks:List Str
 pl:List Ar
structure Mt where
 c:Str
 kn:Kn
 m:Str
 i:Nat
structure Gx where
 defs:List (Str×Nat)
 cons:List (Str×Int):=[]
 ucal:List Uc:=[]
 meth:List Mt:=[]
 flds:List (Str×Nat):=[]
noncomputable def qPR (x:Str) (n:Nat):Option BI:=
 if x=Str.ofString "len" then (if n=1 then some .len else none) else
 if x=Str.ofString "min" then (if n=2∨n=1 then some .min else none) else
 if x=Str.ofString "max" then (if n=2∨n=3∨n=1 then some .max else none) else
 if x=Str.ofString "sum" then (if n=1 then some .sum else none) else
 if x=Str.ofString "all" then (if n=1 then some .all else none) else
 if x=Str.ofString "tuple" then (if n=1 then some .tuple else none) else
 if x=Str.ofString "list" then (if n=1 then some .list else none) else
 if x=Str.ofString "int" then (if n=1 then some .int else none) else none
noncomputable def qOB (x:Str):Option Ty:=
 if x=Str.ofString "int" then some .int else
 if x=Str.ofString "bool" then some .bool else
 if x=Str.ofString "tuple" then some .tuple else
 if x=Str.ofString "list" then some .list else
 if x=Str.ofString "str" then some .str else none
noncomputable def qOo:Operator->Option BOp
 | .Add=>some .add|.Sub=>some .sub|.Mult=>some .mul|.FloorDiv=>some .fdiv|.Mod=>some .mod|.Pow=>some .pow|.LShift=>some .shl|.RShift=>some .shr|.BitAnd=>some .band|.BitOr=>some .bor|.BitXor=>some .bxor|_=>none
noncomputable def qJp:CmpOp->Option COp
 | .Eq=>some .eq|.NotEq=>some .ne|.Lt=>some .lt|.LtE=>some .le|.Gt=>some .gt|.GtE=>some .ge|.In=>some .isin|.NotIn=>some .notin|_=>none
noncomputable def kOf:Const->Option D
 | .int i=>some (.int i)|.bool b=>some (.bl b)|.none=>some .non|.str x=>some (.str x)|_=>none
noncomputable def qAP (N:List Str) (x:Str):Option Nat:=N.findIdx? (· == x)
noncomputable def qL4 (sc:Scope) (x:Str):Bool:=sc.names.lookup x == some .local||sc.names.lookup x == some .cell||sc.names.lookup x == some .free
noncomputable def glB (sc:Scope) (x:Str):Bool:=sc.names.lookup x == some .globalImplicit
noncomputable def qAQ (x:Str):Bool:=x != Str.ofString "__debug__"&&x != Str.ofString "__classdict__"&&x != Str.ofString "__name__"
noncomputable def qBr (sc:Scope) (N:List Str) (x:Str):Option Nat:=if qL4 sc x&&qAQ x then qAP N x else none
noncomputable def qMa (sc:Scope) (x:Str):Bool:=sc.names.lookup x == some .cell||sc.names.lookup x == some .free
noncomputable def qCg (sc:Scope) (N:List Str) (x:Str):Option Nat:=if qMa sc x then qBr sc N x else none
noncomputable def qAO (sc:Scope):List Str:=(sc.names.filter λp=>p.2 == .local&&p.1 != Str.ofString ".0").map (·.1)
noncomputable def qAw (sc:Scope):List Str:=(sc.names.filter λp=>p.2 == .free).map (·.1)
noncomputable def qDN (sc:Scope):Bool:=sc.kind == .function&&sc.names.all (λp=>p.2 != .cell)&&decide ((sc.names.map (·.1)).Nodup)&&(qAO sc++qAw sc).all qAQ
noncomputable def qAV {α β:Type}(f:α->Option β):List α->Option (List β)
 | []=>some []
 | a::r=>(f a).bind λx=>(qAV f r).bind λxs=>some (x::xs)
noncomputable def qIp (sc:Scope) (N:List Str):Expr->Option Nat
 | .Name x _=>if sc.names.lookup x == some .local||sc.names.lookup x == some .cell then qAP N x else none
 | _=>none
noncomputable def qCX (sc:Scope) (N:List Str):Expr->Option Tg
 | .Name x _=>if sc.names.lookup x == some .local||sc.names.lookup x == some .cell then (qAP N x).map .one else none
 | .Tuple [.Name x _,.Name y _] _ _=>if (sc.names.lookup x == some .local||sc.names.lookup x == some .cell)&&(sc.names.lookup y == some .local||sc.names.lookup y == some .cell)&&x != y then
   (qAP N x).bind λi=>(qAP N y).bind λj=>some (.two i j) else none
 | _=>none
noncomputable def tgM (sc:Scope) (N:List Str) (e:Expr):Option Tg:=match qCX sc N e with
 | some t=>some t
 | none=>match e with
  | .Tuple es _ _=>(qAV (qIp sc N) es).map .many
  | _=>none
inductive Sr where|seq (e:Expr)|rng (es:List Expr)|zip (a b:Expr)|rev (es:List Expr)|enm (a:Expr)
noncomputable def qIn (sc:Scope):Expr->Sr
 | .Call (.Name f p) as [] pos =>
  if glB sc f&&f == Str.ofString "range"&&(as.length == 1||as.length == 2||as.length == 3) then .rng as else
  if glB sc f&&f == Str.ofString "zip" then (match as with|[a,b]=>.zip a b|_=>.seq (.Call (.Name f p) as [] pos)) else
  if glB sc f&&f == Str.ofString "reversed" then (match as with
   | [.Call (.Name h _) [a] [] _]=>if glB sc h&&h == Str.ofString "range" then .rev [a] else .seq (.Call (.Name f p) as [] pos)
   | _=>.seq (.Call (.Name f p) as [] pos)) else
  if glB sc f&&f == Str.ofString "enumerate" then (match as with|[a]=>.enm a|_=>.seq (.Call (.Name f p) as [] pos)) else .seq (.Call (.Name f p) as [] pos)
 | e=>.seq e
noncomputable def qJg:Tg->Bool
 | .two _ _=>true
 | _=>false
noncomputable def qNE (o:COp) (x y:C) (b:Expr):C:=match o,b,y with
 | .isin,.Name _ _,.v i=>.inV false x i
 | .notin,.Name _ _,.v i=>.inV true x i
 | _,_,_=>.cmp o x y
variable (G:Gx)
noncomputable def qLy (c:Str):Option Mt:=G.meth.find? λu=>u.c == c
noncomputable def tbM (m:Str):List (Nat×Nat):=(G.meth.filter λu=>u.m == m).map λu=>(u.kn.c,u.i)
noncomputable def qEF:Expr->Bool
 | .Name _ _=>true
 | .Attribute _ _ _=>true
 | .Subscript _ _ _=>true
 | _=>false
noncomputable def cGl (sc:Scope) (x:Str):Option C:=if glB sc x&&qAQ x then (G.cons.lookup x).map λi=>.k (.int i) else none
mutual
noncomputable def cE:Nat->Scope->List Str->Expr->Option C
 | 0,_,_,_=>none
 | n+1,sc,N,e=>match e with
  | .Name x _=>match qBr sc N x with|some i=>some (.v i)|none=>cGl G sc x
  | .Constant c _ _=>(kOf c).map .k
  | .BinOp a op b _=>(qOo op).bind λo=>(cE n sc N a).bind λx=>(cE n sc N b).bind λy=>some (.bin o x y)
  | .UnaryOp .USub a _=>(cE n sc N a).map .neg
  | .UnaryOp .Not a _=>(cE n sc N a).map .not
  | .BoolOp .And es _=>if 2<=es.length then qMb n sc N es else none
  | .BoolOp .Or es _=>if 2<=es.length then cOr n sc N es else none
  | .Compare a [.Is] [.Constant c _ _] _=>(kOf c).bind λd=>(cE n sc N a).bind λx=>some (.isC false x d)
  | .Compare a [.IsNot] [.Constant c _ _] _=>(kOf c).bind λd=>(cE n sc N a).bind λx=>some (.isC true x d)
  | .Compare a [op] [b] _=>(qJp op).bind λo=>(cE n sc N a).bind λx=>(cE n sc N b).bind λy=>some (qNE o x y b)
  | .Subscript a (.Slice lo hi none _) _=>(cE n sc N a).bind λx=>(cO n sc N lo).bind λl=>(cO n sc N hi).bind λh=>some (.sl x l h)
  | .Subscript a b _=>(cE n sc N a).bind λx=>(cE n sc N b).bind λy=>some (.ix x y)
  | .Tuple es _ _=>(cEs n sc N es).map .tup
  | .List es _=>(cEs n sc N es).map .lst
  | .Call (.Name f _) as [] _=>if glB sc f&&qAQ f then qLV n sc N f as else none
  | .ListComp e [⟨tg,it,[],0⟩] sc' _ =>
   if qDN sc' then
    (qCX sc' (qAO sc'++qAw sc') tg).bind λt=>(qAV (qCg sc N) (qAw sc')).bind λks=>(cE n sc' (qAO sc'++qAw sc') e).bind λc =>
     match qIn sc it with
     | .seq s=>(cE n sc N s).bind λx=>some (.compS c (qAO sc').length ks t x)
     | .rng rs=>(cEs n sc N rs).bind λxs=>some (.compR c (qAO sc').length ks t xs)
     | .zip a b=>if qJg t then (cE n sc N a).bind λx=>(cE n sc N b).bind λy=>some (.compZ c (qAO sc').length ks t x y) else none
     | .rev _=>none
     | .enm _=>none
   else none
  | e=>cX n sc N e
noncomputable def cX:Nat->Scope->List Str->Expr->Option C
 | 0,_,_,_=>none
 | n+1,sc,N,e=>match e with
  | .ListComp e [⟨tg,it,[cd],0⟩] sc' _ =>
   if qDN sc' then
    (qCX sc' (qAO sc'++qAw sc') tg).bind λt=>(qAV (qCg sc N) (qAw sc')).bind λks=>(cE n sc' (qAO sc'++qAw sc') e).bind λc=>(cE n sc' (qAO sc'++qAw sc') cd).bind λcc =>
     match qIn sc it with
     | .seq s=>(cE n sc N s).bind λx=>some (.compF c cc (qAO sc').length ks t x)
     | .rng rs=>(cEs n sc N rs).bind λxs=>some (.compG c cc (qAO sc').length ks t xs)
     | _=>none
   else none
  | .Attribute a f _=>if qEF a then (G.flds.lookup f).bind λj=>(cE n sc N a).map λx=>.fld x j f else none
  | .Call (.Attribute a m p2) bs [] p3=>if qEF a&&!bs.isEmpty&&(p2.endLine == p3.line)&&decide (bs.length<30) then (cE n sc N a).bind λx=>(cEs n sc N bs).map λys=>.mc x m (tbM G m) ys else none
  | _=>none
noncomputable def qLV:Nat->Scope->List Str->Str->List Expr->Option C
 | 0,_,_,_,_=>none
 | n+1,sc,N,f,as=>match G.defs.lookup f with
  | some i=>if as.isEmpty then none else (cEs n sc N as).map (.call i)
  | none=>match qLy G f with
   | some u=>(cEs n sc N as).map (.mk u.kn)
   | none=>match f == Str.ofString "isinstance",as with
   | true,[a,.Name t _]=>if glB sc t&&(G.defs.lookup t).isNone then (qOB t).bind λty=>(cE n sc N a).bind λx=>some (.isi x ty) else none
   | false,as=>(qPR f as.length).bind λb=>(cEs n sc N as).map (.bi b)
   | _,_=>none
noncomputable def cEs:Nat->Scope->List Str->List Expr->Option (List C)
 | 0,_,_,_=>none
 | n+1,sc,N,es=>match es with
  | []=>some []
  | a::r=>(cE n sc N a).bind λx=>(cEs n sc N r).bind λxs=>some (x::xs)
noncomputable def cO:Nat->Scope->List Str->Option Expr->Option (Option C)
 | 0,_,_,_=>none
 | n+1,sc,N,o=>match o with
  | none=>some none
  | some e=>(cE n sc N e).map some
noncomputable def cJ:Nat->Scope->List Str->List Expr->Option (List C)
 | 0,_,_,_=>none
 | n+1,sc,N,es=>match es with
  | []=>some []
  | .Constant (.str x) _ _::r=>(cJ n sc N r).map λxs=>.k (.str x)::xs
  | .FormattedValue e (-1) none _::r=>(cE n sc N e).bind λx=>(cJ n sc N r).bind λxs=>some (.bi .str [x]::xs)
  | _=>none
noncomputable def qMb:Nat->Scope->List Str->List Expr->Option C
 | 0,_,_,_=>none
 | n+1,sc,N,es=>match es with
  | [a]=>cE n sc N a
  | a::b::r=>(cE n sc N a).bind λx=>(qMb n sc N (b::r)).bind λy=>some (.and x y)
  | []=>none
noncomputable def cOr:Nat->Scope->List Str->List Expr->Option C
 | 0,_,_,_=>none
 | n+1,sc,N,es=>match es with
  | [a]=>cE n sc N a
  | a::b::r=>(cE n sc N a).bind λx=>(cOr n sc N (b::r)).bind λy=>some (.or x y)
  | []=>none
end
noncomputable def qIq:Nat->List Str->List Stmt->List Nat
 | 0,_,_=>[]
 | _+1,_,[]=>[]
 | n+1,N,st::r=>(match st with
  | .Assign [.Subscript (.Name x _) _ _] _ _=>(qAP N x).toList
  | .Expr (.Call (.Attribute (.Name x _) m _) _ _ _) _=>if m == Str.ofString "append"||m == Str.ofString "extend"||m == Str.ofString "pop" then (qAP N x).toList else []
  | .Assign _ (.Call (.Attribute (.Name x _) m _) _ _ _) _=>if m == Str.ofString "pop" then (qAP N x).toList else []
  | .Expr (.Call (.Name _ _) (.Name x _::_) _ _) _=>(qAP N x).toList
  | .If _ a b _=>qIq n N a++qIq n N b
  | .For _ _ b _ _=>qIq n N b
  | .While _ b _ _=>qIq n N b
  | _=>[])++qIq n N r
noncomputable def alK (c:C) (r:List Nat):List Nat:=match c with
 | .v _=>[]
 | _=>r
mutual
noncomputable def alC:C->List Nat
 | .v i=>[i]
 | .k _=>[]
 | .bin _ a b=>alK a (alC a)++alK b (alC b)
 | .neg a=>alK a (alC a)
 | .cmp _ a b=>alK a (alC a)++alK b (alC b)
 | .isC _ a _=>alK a (alC a)
 | .inV _ a _=>alK a (alC a)
 | .and a b=>alC a++alC b
 | .or a b=>alC a++alC b
 | .not a=>alC a
 | .ix a b=>alK a (alC a)++alK b (alC b)
 | .sl a _ _=>alK a (alC a)
 | .tup as=>qIs as
 | .lst as=>qIs as
 | .call _ as=>qIs as
 | .bi _ as=>qOz as
 | .isi a _=>alK a (alC a)
 | .bitl a=>alK a (alC a)
 | .ifx c a b=>alC c++alC a++alC b
 | .rev a=>alK a (alC a)
 | .join a b=>alK a (alC a)++alK b (alC b)
 | .fstr as=>qIs as
 | .callP _ as ks _=>qIs as++qIs ks
 | .chn _ _ a b c=>alK a (alC a)++alK b (alC b)++alK c (alC c)
 | .compS e nl ks _ s=>alC s++(alC e).filterMap λj=>if nl<=j then ks[j - nl]? else none
 | .compR e nl ks _ rs=>qOz rs++(alC e).filterMap λj=>if nl<=j then ks[j - nl]? else none
 | .compZ e nl ks _ a b=>alC a++alC b++(alC e).filterMap λj=>if nl<=j then ks[j - nl]? else none
 | .compE e nl ks _ a=>alC a++(alC e).filterMap λj=>if nl<=j then ks[j - nl]? else none
 | .compF e c nl ks _ a=>alC a++(alC e++alC c).filterMap λj=>if nl<=j then ks[j - nl]? else none
 | .compG e c nl ks _ rs=>qOz rs++(alC e++alC c).filterMap λj=>if nl<=j then ks[j - nl]? else none
 | .fld a _ _=>alC a
 | .mk _ as=>qIs as
 | .mc a _ _ bs=>alC a++qIs bs
termination_by structural c=>c
noncomputable def qIs:List C->List Nat
 | []=>[]
 | a::r=>alC a++qIs r
termination_by structural c=>c
noncomputable def qOz:List C->List Nat
 | []=>[]
 | a::r=>alK a (alC a)++qOz r
termination_by structural c=>c
end
noncomputable def qCV (mt:List Nat) (is:List Nat) (s:S):List S:=match is.filter (mt.contains ·) with
 | []=>[s]
 | js=>[.frz js,s]
mutual
noncomputable def cS:Nat->Scope->List Str->List Nat->Stmt->Option (List S)
 | 0,_,_,_,_=>none
 | n+1,sc,N,mt,st=>match st with
  | .Assign [tg] (.Call (.Attribute (.Name x _) m p2) [] [] p3) _=>if m == Str.ofString "pop"&&p2.endLine == p3.line then (tgM sc N tg).bind λt=>(qBr sc N x).bind λi=>some [.pop t i] else none
  | .Assign [.Name x _] e _=>if sc.names.lookup x == some .local||sc.names.lookup x == some .cell then (qAP N x).bind λi=>if i == 0&&mt.contains i then none else (cE G n sc N e).bind λc=>some (qCV mt (alC c) (.set i (mt.contains i) c)) else none
  | .Expr (.Call (.Attribute (.Name x _) m p2) [e] [] p3) _=>if m == Str.ofString "append"&&p2.endLine == p3.line then (qBr sc N x).bind λi=>(cE G n sc N e).bind λc=>some (qCV mt (alC c) (.app i c)) else none
  | .While t body [] _=>(cE G n sc N t).bind λc=>(cSs n sc N mt body).bind λb=>some (qCV mt (alC c) (.whl c b))
  | .Expr (.Call (.Name f _) (.Name x _::as) [] _) _=>if glB sc f&&qAQ f then (G.defs.lookup f).bind λfi=>(qBr sc N x).bind λi=>(cEs G n sc N as).bind λcs=>some (qCV mt (qIs cs) (.hnd i fi cs)) else none
  | .Return (some e) _=>(cE G n sc N e).bind λc=>some (qCV mt (alK c (alC c)) (.ret c))
  | .If t a b _=>(cE G n sc N t).bind λc=>(cSs n sc N mt a).bind λx=>(cSs n sc N mt b).bind λy=>some (qCV mt (alC c) (.ite c x y))
  | .For tg it body [] _=>(tgM sc N tg).bind λt=>(cSs n sc N mt body).bind λb=>match qIn sc it with
   | .seq s=>(cE G n sc N s).bind λx=>some (qCV mt (alC x) (.forS t x b))
   | .rng rs=>(cEs G n sc N rs).bind λxs=>some (qCV mt (qOz xs) (.forR t xs b))
   | .zip a z=>if qJg t then (cE G n sc N a).bind λx=>(cE G n sc N z).bind λy=>some (qCV mt (alC x++alC y) (.forZ t x y b)) else none
   | .rev _=>none
   | .enm _=>none
  | _=>none
noncomputable def cSs:Nat->Scope->List Str->List Nat->List Stmt->Option (List S)
 | 0,_,_,_,_=>none
 | n+1,sc,N,mt,st=>match st with
  | []=>some []
  | a::r=>(cS n sc N mt a).bind λx=>(cSs n sc N mt r).bind λy=>some (x++y)
end
noncomputable def qAx (sc:Scope):List Str:=(sc.names.filter λp=>p.2 == .local||p.2 == .cell).map (·.1)
end Dw
namespace L2
open PySem PySem.Spec PyProof.Rows
noncomputable abbrev Key:=Sum Int Str
noncomputable def qGh:Key->Value->Bool
 | .inl k,v=>Value.isInt k v
 | .inr x,v=>Value.isStrOf x v
noncomputable def qQT (w:World):Key->Int
 | .inl k=>hashInt k
 | .inr x=>hashStr w x
theorem qAT:∀{k:Key}{v:Value},qGh k v=true->(∃i t,k=Sum.inl i/\v=Value.int i t)∨(∃x t,k=Sum.inr x/\v=Value.str x t)
 | .inl i,v,h=>by
  obtain⟨t,e⟩:=Value.isInt_shape (k:=i) (v:=v) h
  exact .inl ⟨i,t,rfl,e⟩
 | .inr x,v,h=>by
  obtain⟨t,e⟩:=Value.isStrOf_shape (x:=x) (v:=v) h
  exact .inr ⟨x,t,rfl,e⟩
theorem qHn (i:Int) (t:Tok):qGh (.inl i) (.int i t)=true:=by simp [qGh,Value.isInt]
theorem qHm (x:Str) (t:Tok):qGh (.inr x) (.str x t)=true:=by simp [qGh,Value.isStrOf]
theorem qNP (a b:Int):decide ((Sum.inl a:Key)=Sum.inl b)=(a == b):=by
 by_cases e:a=b
 ·subst e;simp
 ·have h:¬(Sum.inl a:Key)=Sum.inl b:=λq=>e (Sum.inl.inj q)
  rw [decide_eq_false h]
  exact (beq_eq_false_iff_ne.mpr e).symm
theorem qNM (a b:Str):decide ((Sum.inr a:Key)=Sum.inr b)=decide (a=b):=by
 by_cases e:a=b
 ·subst e;simp
 ·have h:¬(Sum.inr a:Key)=Sum.inr b:=λq=>e (Sum.inr.inj q)
  rw [decide_eq_false h,decide_eq_false e]
theorem qNO (a:Int) (b:Str):decide ((Sum.inl a:Key)=Sum.inr b)=false:=decide_eq_false (λq=>nomatch q)
theorem qNN (a:Str) (b:Int):decide ((Sum.inr a:Key)=Sum.inl b)=false:=decide_eq_false (λq=>nomatch q)
noncomputable def qBw (prog:Program) (w:World):PySem.KeyKind prog w Key where
 is:=qGh
 hash:=qQT w
 inj:=λv a b ha hb=>by
  rcases qAT ha with ⟨i,t,rfl,rfl⟩|⟨x,t,rfl,rfl⟩
  ·rcases qAT hb with ⟨j,u,rfl,e⟩|⟨y,u,rfl,e⟩
   ·injection e with e1 _;rw [e1]
   ·exact nomatch e
  ·rcases qAT hb with ⟨j,u,rfl,e⟩|⟨y,u,rfl,e⟩
   ·exact nomatch e
   ·injection e with e1 _;rw [e1]
 byValue:=λk v h=>by
  rcases qAT h with ⟨i,t,rfl,rfl⟩|⟨x,t,rfl,rfl⟩<;>rfl
 pyHash:=λhv h=>by
  rcases qAT hv with ⟨i,t,rfl,rfl⟩|⟨x,t,rfl,rfl⟩
  ·exact wpAny_pyHash_int h
  ·exact wpAny_pyHash_str h
 eqBool:=λhu hv h=>by
  rcases qAT hu with ⟨i,t,rfl,rfl⟩|⟨x,t,rfl,rfl⟩
  ·rcases qAT hv with ⟨j,u,rfl,rfl⟩|⟨y,u,rfl,rfl⟩
   ·rw [qNP] at h;exact wpAny_eqBool_int h
   ·rw [qNO] at h;exact SeqAt.EqAt.int_str i t y u _ _ _ _ h
  ·rcases qAT hv with ⟨j,u,rfl,rfl⟩|⟨y,u,rfl,rfl⟩
   ·rw [qNN] at h;exact SeqAt.EqAt.str_int x t j u _ _ _ _ h
   ·rw [qNM] at h;exact wpAny_eqBool_str h
 «strs»:=λk x t v h=>by
  rcases qAT h with ⟨i,u,rfl,e⟩|⟨y,u,rfl,e⟩
  ·exact nomatch e
  ·injection e with e1 _
   subst e1
   cases v<;>rfl
theorem qE0 (prog:Program) (w:World) (i:Int) (t:Tok):(qBw prog w).is (.inl i) (.int i t)=true:=qHn i t
theorem qEZ (prog:Program) (w:World) (x:Str) (t:Tok):(qBw prog w).is (.inr x) (.str x t)=true:=qHm x t
end L2
namespace L2
open PySem PySem.Spec PyProof.Rows
inductive V where
 | non|bl (b:Bool)|int (i:Int)|str (x:Str)|byt (b:Array UInt8)|flt (b:UInt64)|ref (a:Addr)|ty (n:String)
 deriving DecidableEq
noncomputable def RelV:V->Value->Prop
 | .non,u=>u=Value.none
 | .bl b,u=>u=Value.bool b
 | .int i,u=>∃t,u=Value.int i t
 | .str x,u=>∃t,u=Value.str x t
 | .byt b,u=>∃t,u=Value.bytes b t
 | .flt b,u=>∃t,u=Value.float b t
 | .ref a,u=>u=Value.ref a
 | .ty n,u=>u=Value.type n
noncomputable abbrev Vals:List V->List Value->Prop:=Paired RelV
theorem Vals.length {xs:List V}{us:List Value}(r:Vals xs us):xs.length=us.length:=Paired.length r
theorem Vals.get:∀{xs:List V}{us:List Value}{i:Nat}{x:V},Vals xs us->xs[i]?=some x->∃u,us[i]?=some u/\RelV x u
 | _,_,_,_,.nil,e=>by simp at e
 | _,_,0,_,.cons r _,e=>by simp at e;subst e;exact⟨_,rfl,r⟩
 | _,_,i+1,x,.cons _ t,e=>by
  obtain⟨u,h1,h2⟩:=Vals.get (i:=i) (x:=x) t (by simpa using e)
  exact⟨u,by simpa using h1,h2⟩
theorem Vals.append:∀{xs ys:List V}{us ws:List Value},Vals xs us->Vals ys ws->Vals (xs++ys) (us++ws)
 | _,_,_,_,.nil,s=>s
 | _,_,_,_,.cons r t,s=>.cons r (Vals.append t s)
theorem Vals.take:∀{xs:List V}{us:List Value}(n:Nat),Vals xs us->Vals (xs.take n) (us.take n)
 | _,_,0,_=>.nil
 | _,_,_+1,.nil=>.nil
 | _,_,n+1,.cons r t=>.cons r (Vals.take n t)
theorem Vals.drop:∀{xs:List V}{us:List Value}(n:Nat),Vals xs us->Vals (xs.drop n) (us.drop n)
 | _,_,0,r=>r
 | _,_,_+1,.nil=>.nil
 | _,_,n+1,.cons _ t=>Vals.drop n t
noncomputable def RelO:Option V->Option Value->Prop
 | some v,some u=>RelV v u
 | none,none=>True
 | _,_=>False
noncomputable def KV {κ:Type}:List (κ×V)->List (κ×Value)->Prop:=Paired λ(p:κ×V) (q:κ×Value)=>p.1=q.1/\RelV p.2 q.2
noncomputable def kV:Key->V
 | .inl i=>.int i
 | .inr x=>.str x
inductive HO where
  | lst (xs:List V)
  | tup (xs:List V)
  | dK (kvs:List (Key×V))|dT (kvs:List (List Key×V))
  | set (S:Int->Bool) (n:Nat)
  | ins (C dx:Addr) (fs:List (Str×V))
  | own (x:Addr)
  | xd (fs:List (Str×V))
  | met (f x:Addr)
  | rng (lo hi:Int)
  | frz (o:Obj) (u:HO)
  | tbl (ps:Array Value)
  | ext (φ:Heap->Prop)
noncomputable abbrev Hp:=Addr->Option HO
noncomputable def upd (H:Hp) (a:Addr) (o:HO):Hp:=λb=>if b=a then some o else H b
theorem qAJ {H:Hp}{a:Addr}{o:HO}:upd H a o a=some o:=by unfold upd;rw [if_pos rfl]
theorem qAq {H:Hp}{a b:Addr}{o:HO}(h:b≠a):upd H a o b=H b:=by unfold upd;rw [if_neg h]
theorem qGv {H:Hp}{a:Addr}{o u:HO}:upd (upd H a o) a u=upd H a u:=by
 funext b;unfold upd;split<;>rfl
theorem qAA {H:Hp}{a b:Addr}{o:HO}(h:H a=some o) (h':H b=none):a≠b:=by
 intro e;subst e;rw [h] at h';cases h'
section
variable (P:Program) (w:World)
noncomputable def ObjOk (H:Hp) (h:Heap) (a:Addr):HO->Prop
 | .lst xs=>xs.length<=sizeLine/\∃(its:List Value) (n:Nat),Vals xs its/\h.get? a=some { cls:=.type "list",data:=.seq its.toArray n }
 | .tup xs=>xs.length<=sizeLine/\∃its:List Value,Vals xs its/\IsTup h a its.toArray
 | .dK kvs=>kvs.length<=sizeLine/\(a == sysModules)=false/\∃vs,KV kvs vs/\h.DictOf (qBw P w) a vs
 | .dT kvs=>kvs.length<=sizeLine/\(a == sysModules)=false/\∃xs:List (List Key×Addr×Value),
   Paired (λ(p:List Key×V) (q:List Key×Addr×Value)=>p.1=q.1/\H q.2.1=some (.tup (p.1.map kV))/\RelV p.2 q.2.2) kvs xs /\
   ∃o es ep,h.get? a=some o/\o.ExactDict/\o.data=.dict es ep/\es.toList=xs.map (entryOfKey (tupleKind (qBw P w)))/\(xs.map (·.1)).Nodup
 | .set S n=>h.SetOf (intKind P w) a S n
 | .ins C dx fs=>H dx=some (.own a)/\fs.length<=1000/\dx≠a/\h.get? a=some (PySem.W.instObj C dx) /\
   ∃mA,h.Ns1 dx mA/\(∀f,RelO (fs.lookup f) (mA f))/\PySem.Within mA (fs.map (·.1))
 | .own _=>∃o,h.get? a=some o
 | .xd fs=>∃mA,h.Ns1 a mA/\∀f,RelO (fs.lookup f) (mA f)
 | .rng lo hi=>∃t u v,h.get? a=some { cls:=.type "range",data:=.fields #[.int lo t,.int hi u,.int 1 v] }
 | .frz o u=>h.get? a=some o/\ObjOk H h a u
 | .tbl ps=>h.get? a=some { cls:=.none,data:=.fields ps }
 | .met f x=>h.get? a=some (PySem.W.methodObj (.ref f) (.ref x))
 | .ext φ=>φ h/\(∃o,h.get? a=some o)/\∀h1 h2:Heap,φ h1->(∀o,h1.get? a=some o->h2.get? a=some o)->φ h2
noncomputable def HOk (H:Hp) (h:Heap):Prop:=∀a o,H a=some o->ObjOk P w H h a o
end
section
variable {P:Program}{w:World}{H H':Hp}{h h':Heap}{a:Addr}{o:HO}
theorem ObjOk.lt (x:ObjOk P w H h a o):a<h.objs.size:=by
 cases o with
 | lst xs=>obtain⟨_,_,_,_,e⟩:=x;exact Heap.lt_size e
 | tup xs=>obtain⟨_,_,_,p⟩:=x;exact p.lt
 | dK kvs=>obtain⟨_,_,_,_,o,_,_,e,_⟩:=x;exact Heap.lt_size e
 | dT kvs=>obtain⟨_,_,_,_,o,_,_,e,_⟩:=x;exact Heap.lt_size e
 | set S n=>obtain⟨o,_,_,_,e,_⟩:=x;exact Heap.lt_size e
 | ins C dx fs=>obtain⟨_,_,_,e,_⟩:=x;exact Heap.lt_size e
 | own y=>obtain⟨_,e⟩:=x;exact Heap.lt_size e
 | xd fs=>obtain⟨_,⟨_,_,_,e,_⟩,_⟩:=x;exact Heap.lt_size e
 | rng lo hi=>obtain⟨_,_,_,e⟩:=x;exact Heap.lt_size e
 | frz ob u=>obtain⟨e,_⟩:=x;exact Heap.lt_size e
 | tbl ps=>exact Heap.lt_size (show h.get? a=some _ from x)
 | met f y=>exact Heap.lt_size (show h.get? a=some _ from x)
 | ext φ=>obtain⟨_,⟨_,e⟩,_⟩:=x;exact Heap.lt_size e
theorem Paired.mapP {α β:Type}{F G:α->β->Prop}:∀{l₁:List α}{l₂:List β},Paired F l₁ l₂->(∀a b,F a b->G a b)->Paired G l₁ l₂
 | _,_,.nil,_=>.nil
 | _,_,.cons r t,f=>.cons (f _ _ r) (Paired.mapP t f)
theorem ObjOk.stay (x:ObjOk P w H h a o) (k:∀b u,(b=a∨H b=some (.own a))->h.get? b=some u->h'.get? b=some u)
  (ho:∀b,H b=some (.own a)->H' b=some (.own a)) (ht:∀b xs,H b=some (.tup xs)->H' b=some (.tup xs)):ObjOk P w H' h' a o:=by
 induction o with
 | lst xs=>obtain⟨z,its,n,r,e⟩:=x;exact⟨z,its,n,r,k _ _ (.inl rfl) e⟩
 | tup xs=>obtain⟨z,its,r,ob,e,c⟩:=x;exact⟨z,its,r,ob,k _ _ (.inl rfl) e,c⟩
 | dK kvs=>obtain⟨z,y,vs,r,ob,es,ep,e,c⟩:=x;exact⟨z,y,vs,r,ob,es,ep,k _ _ (.inl rfl) e,c⟩
 | dT kvs =>
  obtain⟨z,y,xs,r,ob,es,ep,e,c⟩:=x
  exact⟨z,y,xs,Paired.mapP r λp q z=>⟨z.1,ht _ _ z.2.1,z.2.2⟩,ob,es,ep,k _ _ (.inl rfl) e,c⟩
 | set S n=>obtain⟨ob,es,ep,t,e,c⟩:=x;exact⟨ob,es,ep,t,k _ _ (.inl rfl) e,c⟩
 | ins C dx fs =>
  obtain⟨d,z,ne,e,mA,⟨od,es,ep,e2,c⟩,r⟩:=x
  exact⟨ho _ d,z,ne,k _ _ (.inl rfl) e,mA,⟨od,es,ep,k _ _ (.inr d) e2,c⟩,r⟩
 | own y=>obtain⟨ob,e⟩:=x;exact⟨ob,k _ _ (.inl rfl) e⟩
 | xd fs=>obtain⟨mA,⟨od,es,ep,e,c⟩,r⟩:=x;exact⟨mA,⟨od,es,ep,k _ _ (.inl rfl) e,c⟩,r⟩
 | rng lo hi=>obtain⟨t,u,v,e⟩:=x;exact⟨t,u,v,k _ _ (.inl rfl) e⟩
 | frz ob u ih=>obtain⟨e,q⟩:=x;exact⟨k _ _ (.inl rfl) e,ih q⟩
 | tbl ps =>
  have e:h.get? a=some { cls:=.none,data:=.fields ps }:=x
  show h'.get? a=some { cls:=.none,data:=.fields ps }
  exact k a _ (.inl rfl) e
 | met f y =>
  have e:h.get? a=some (PySem.W.methodObj (.ref f) (.ref y)):=x
  show h'.get? a=some (PySem.W.methodObj (.ref f) (.ref y))
  exact k a _ (.inl rfl) e
 | ext φ=>obtain⟨p,⟨o,e⟩,st⟩:=x;exact⟨st _ _ p λo q=>k _ _ (.inl rfl) q,⟨o,k _ _ (.inl rfl) e⟩,st⟩
theorem HOk.lt (x:HOk P w H h) (e:H a=some o):a<h.objs.size:=(x a o e).lt
theorem HOk.fresh (x:HOk P w H h) (e:h.objs.size<=a):H a=none:=by
 cases q:H a with
 | none=>rfl
 | some u=>exact absurd (Nat.lt_of_lt_of_le (x.lt q) e) (Nat.lt_irrefl _)
theorem HOk.kept (x:HOk P w H h) (k:∀b u,h.get? b=some u->h'.get? b=some u):HOk P w H h':=λa o e =>
 (x a o e).stay (λb u _ q=>k b u q) (λ_ q=>q) λ_ _ q=>q
theorem HOk.laid (x:HOk P w H h) (k:∀b u,h.get? b=some u->h'.get? b=some u) (hp:h.objs.size<=a) (new:ObjOk P w (upd H a o) h' a o):HOk P w (upd H a o) h':=λb u e=>by
 have hn:=x.fresh hp
 by_cases hb:b=a
 ·subst hb;rw [qAJ] at e;cases e;exact new
 ·rw [qAq hb] at e
  exact (x b u e).stay (λc v _ q=>k c v q) (λc q=>by rw [qAq (qAA q hn)];exact q) λc xs q=>by rw [qAq (qAA q hn)];exact q
end
noncomputable def Rd (H:Hp) (a:Addr) (u:HO):Prop:=H a=some u∨∃o,H a=some (.frz o u)
theorem Rd.ok {P:Program}{w:World}{H:Hp}{h:Heap}{a:Addr}{u:HO}(r:Rd H a u) (x:HOk P w H h):ObjOk P w H h a u:=by
 rcases r with r|⟨o,r⟩
 ·exact x a u r
 ·obtain⟨_,q⟩:=x a _ r
  exact q
noncomputable def Mut:Option HO->Prop
 | some (.lst _)=>True
 | some (.dK _)=>True
 | some (.dT _)=>True
 | some (.set _ _)=>True
 | some (.ins _ _ _)=>True
 | some (.ext _)=>True
 | _=>False
section
variable {P:Program}{w:World}{H:Hp}{h h':Heap}{x e:Addr}{o':HO}
theorem HOk.write (ok:HOk P w H h) (mu:Mut (H x)) (he:e=x∨H e=some (.own x)) (k:∀b u,b≠e->h.get? b=some u->h'.get? b=some u) (heo:∃u,h'.get? e=some u)
  (new:ObjOk P w (upd H x o') h' x o'):HOk P w (upd H x o') h':=λb u q=>by
 have nown:∀c y,H c=some (.own y)->c≠x:=λc y r z=>by subst z;rw [r] at mu;exact mu
 have ntup:∀c xs,H c=some (.tup xs)->c≠x:=λc xs r z=>by subst z;rw [r] at mu;exact mu
 by_cases hb:b=x
 ·subst hb;rw [qAJ] at q;cases q;exact new
 ·rw [qAq hb] at q
  by_cases hbe:b=e
  ·have q':H b=some (.own x):=by
    rcases he with z|z
    ·exact absurd (hbe.trans z) hb
    ·rw [hbe];exact z
   rw [q] at q';cases q'
   obtain⟨v,hv⟩:=heo
   exact⟨v,by rw [hbe];exact hv⟩
  ·refine (ok b u q).stay (λc v hc r=>k c v ?_ r) (λc r=>by rw [qAq (nown c b r)];exact r) λc xs r=>by rw [qAq (ntup c xs r)];exact r
   rcases hc with rfl|hc
   ·exact hbe
   ·rintro rfl
    rcases he with z|z
    ·exact nown c b hc z
    ·rw [hc] at z;cases z;exact hb rfl
end
structure Un (fs ex:List Addr) (H H':Hp) (h h':Heap):Prop where
 keep:∀b o,h.get? b=some o->H b=none->b∉fs->b∉ex->h'.get? b=some o
 slot:∀b o,h.get? b=some o->H b=none->b∈fs->b∉ex->∃sl,h'.get? b=some { o with slots:=sl }
 free:∀b o,h.get? b=some o->H b=none->b∉ex->H' b=none
 there:∀b o,h.get? b=some o->b∉ex->∃o',h'.get? b=some o'
 tups:∀b xs,H b=some (.tup xs)->H' b=some (.tup xs)
 frzs:∀b o u,H b=some (.frz o u)->H' b=some (.frz o u)
 tbls:∀b ps,H b=some (.tbl ps)->∃more,H' b=some (.tbl (ps++more))
section
variable {fs fs' ex ex':List Addr}{H H1 H2:Hp}{h h1 h2 h':Heap}{a x e:Addr}{o:HO}
theorem Un.any (u:Un fs ex H H1 h h1) {b:Addr}{ob:Obj}(q:h.get? b=some ob) (n:H b=none) (hx:b∉ex):∃sl,h1.get? b=some { ob with slots:=sl }:=by
 by_cases hb:b∈fs
 ·exact u.slot b ob q n hb hx
 ·exact⟨ob.slots,u.keep b ob q n hb hx⟩
theorem Un.kept (k:∀b u,h.get? b=some u->h'.get? b=some u):Un fs ex H H h h':=
 ⟨λb ob q _ _ _=>k b ob q,λb ob q _ _ _=>⟨ob.slots,k b ob q⟩,λ_ _ _ n _=>n,λb ob q _=>⟨ob,k b ob q⟩,λ_ _ q=>q,λ_ _ _ q=>q,λ_ ps q=>⟨#[],by rw [q];simp⟩⟩
theorem Un.refl:Un fs ex H H h h:=Un.kept λ_ _ q=>q
theorem Un.laid (k:∀b u,h.get? b=some u->h'.get? b=some u) (hp:h.objs.size<=a) (hn:H a=none):Un fs ex H (upd H a o) h h' where
 keep:=λb u q _ _ _=>k b u q
 slot:=λb u q _ _ _=>⟨u.slots,k b u q⟩
 free:=λb u q n _=>by rw [qAq (Nat.ne_of_lt (Nat.lt_of_lt_of_le (Heap.lt_size q) hp))];exact n
 there:=λb u q _=>⟨u,k b u q⟩
 tups:=λb xs q=>by rw [qAq (qAA q hn)];exact q
 frzs:=λb u xs q=>by rw [qAq (qAA q hn)];exact q
 tbls:=λb ps q=>⟨#[],by rw [qAq (qAA q hn),q];simp⟩
theorem Un.write (mu:Mut (H x)) (he:e=x∨H e=some (.own x)) (k:∀b u,b≠e->h.get? b=some u->h'.get? b=some u) (heo:∃u,h'.get? e=some u):Un fs ex H (upd H x o) h h':=by
 have hx:∀b,H b=none->b≠x:=λb n z=>by subst z;rw [n] at mu;exact mu
 have hb:∀b,H b=none->b≠e:=λb n z=>by
  subst z
  rcases he with r|r
  ·exact hx b n r
  ·rw [n] at r;cases r
 have hm:∀b u,H b=some u->¬Mut (some u)->b≠x:=λb u q nm z=>by subst z;rw [q] at mu;exact nm mu
 refine⟨λb u q n _ _=>k b u (hb b n) q,λb u q n _ _=>⟨u.slots,k b u (hb b n) q⟩,λb u q n _=>by rw [qAq (hx b n)];exact n,λb u q _=>?_,
  λb xs q=>by rw [qAq (hm b _ q λz=>z)];exact q,λb u xs q=>by rw [qAq (hm b _ q λz=>z)];exact q,λb ps q=>⟨#[],by rw [qAq (hm b _ q λz=>z),q];simp⟩⟩
 by_cases hbe:b=e
 ·subst hbe;exact heo
 ·exact⟨u,k b u hbe q⟩
end
noncomputable def trk (h:Heap) (H:Hp):List Addr:=(List.range h.objs.size).filter λa=>(H a).isSome
noncomputable def qJi (h:Heap) (H:Hp):Heap:=PySem.W.hideAll h (trk h H)
theorem qHu (h:Heap) (H:Hp):(qJi h H).objs.size=h.objs.size:=PySem.W.hideAll_size _ _
theorem qJh {h:Heap}{H:Hp}{b:Addr}{o:Obj}(e:h.get? b=some o) (n:H b=none):(qJi h H).get? b=some o:=
 PySem.W.hideAll_get _ e λhm=>by
  have q:(H b).isSome=true:=(List.mem_filter.mp hm).2
  rw [n] at q;simp at q
theorem qLr {h:Heap}{H:Hp}{b:Addr}{o:Obj}(e:(qJi h H).get? b=some o):h.get? b=some o/\H b=none:=by
 have e':h.get? b=some o:=PySem.W.of_hideAll (trk h H) e
 refine⟨e',?_⟩
 cases q:H b with
 | none=>rfl
 | some x =>
  have hm:b∈trk h H:=List.mem_filter.mpr ⟨List.mem_range.mpr (Heap.lt_size e'),by simp [q]⟩
  have z:(qJi h H).get? b=none:=PySem.W.hideAll_none (trk h H) hm
  rw [z] at e;cases e
noncomputable def qL2 (g h:Heap) (L:Addr):List (Addr×Obj):=(List.range h.objs.size).filterMap λa=>if a=L∨(g.get? a).isSome=true then none else (h.get? a).map λo=>(a,o)
noncomputable def qAZ (g h:Heap) (L d:Addr):List (Addr×Obj):=(qL2 g h L).filter λp=>decide (p.1≠d)
end L2
namespace L2
open PySem PySem.Spec PyProof.Rows
structure Mod (K:PySem.W.Frag) (mg:Str->Option Value) (base:Heap):Prop where
 kin:K.In base
 glob:base.Ns mainGlobals mg
 blt:∃mb,base.Ns builtinsNs mb/\∀x:Str,x≠"__name__"->mb x=bootBuiltins x
 nolimit:base.NoLimit
structure Cx where
 prog:Program
 w:World
 K:PySem.W.Frag
 mg:Str->Option Value
 base:Heap
 A:Around
 N:List Str
 s₀:Shared
 H₀:Hp
 env:Env
 outer:List Env
 stack:List Env
 ex:List Addr
 fn:Str->Bool
 calm:Bool
 pn:List (Addr×Obj)
 xe:Value->Shared->Prop
noncomputable def frs (l:List Env):List Addr:=l.filterMap (·.frame)
noncomputable abbrev Cx.fs (X:Cx):List Addr:=frs X.outer
noncomputable def Vis (sc:Scope) (x:Str):Prop:=sc.names.lookup x=some .local∨sc.names.lookup x=some .cell∨sc.names.lookup x=some .free
noncomputable def Loc (sc:Scope) (x:Str):Prop:=sc.names.lookup x=some .local∨sc.names.lookup x=some .cell
noncomputable def qQ6 (env:Env) (h:Heap) (m:Str->Option Value) (x:Str) (u:Value):Prop:=
 (env.kindOf x=some .local/\m x=some u)∨((env.kindOf x=some .cell∨env.kindOf x=some .free)/\∃c,env.cells.lookup x=some c/\h.IsCell c (some u))
structure Cx.Ok (X:Cx):Prop where
 mod:Mod X.K X.mg X.base
 kind:X.env.scope.kind=.function
 glob:X.env.globals=mainGlobals
 blt:X.env.builtins=builtinsNs
 above:X.s₀.heap.objs.size<=X.env.locals
 inj:∀x y c,X.env.cells.lookup x=some c->X.env.cells.lookup y=some c->x=y
 has:∀x,(X.env.kindOf x=some .cell∨X.env.kindOf x=some .free)->∃c,X.env.cells.lookup x=some c
 cab:∀x c,X.fn x=true->X.env.cells.lookup x=some c->X.s₀.heap.objs.size<=c
 hd:X.calm=true->X.A.handled=none
 frames:X.A.frames=some X.stack
 stk:X.stack=X.outer∨(X.stack=X.env::X.outer/\X.env.frame=some X.env.locals)
 exf:∀b∈X.ex,b≠X.env.locals/\∀x c,X.env.cells.lookup x=some c->c≠b
 bs:∀b o,X.base.get? b=some o->X.s₀.heap.get? b=some o/\X.H₀ b=none
 bsz:X.base.objs.size<=X.s₀.heap.objs.size
 noex:∀b o,X.base.get? b=some o->b∉X.ex
 exfs:∀b∈X.ex,b∉X.fs
 funs:X.s₀.heap.FunFrames X.base X.outer
 frf:∀b∈X.fs,X.H₀ b=none
structure Inv (X:Cx) (pins:List (Addr×Obj)) (σ:List (Option V)) (H:Hp) (s:Shared):Prop where
 ok:X.Ok
 os:s.os=X.s₀.os
 bare:AllBare s.gens
 base:Un X.fs X.ex X.H₀ H X.s₀.heap s.heap
 loc:∃m,s.heap.Ns X.env.locals m/\∀(i:Nat) (x:Str) (v:V),X.N[i]?=some x->σ[i]?=some (some v)->Vis X.env.scope x->∃u,RelV v u/\qQ6 X.env s.heap m x u
 cell:∀x c,X.env.cells.lookup x=some c->∃v,s.heap.IsCell c v
 free:H X.env.locals=none
 freeC:∀x c,X.env.cells.lookup x=some c->H c=none
 pin:∀p∈X.pn++pins,s.heap.get? p.1=some p.2/\H p.1=none/\p.1≠X.env.locals/\p.1∉X.fs/\∀v,p.2.data≠.cell v
 hok:HOk X.prog X.w H s.heap
 len:σ.length=X.N.length
section
variable {X:Cx}{pins:List (Addr×Obj)}{σ:List (Option V)}{H H':Hp}{s:Shared}{h':Heap}
theorem Cx.Ok.nofr (ok:X.Ok) {b:Addr}{o:Obj}(e:X.base.get? b=some o):b∉X.fs:=λhb=>by
 have:=(ok.funs.mem hb).1
 rw [e] at this;cases this
theorem Inv.bs (I:Inv X pins σ H s):∀b o,X.base.get? b=some o->s.heap.get? b=some o/\H b=none:=λb o e =>
 ⟨I.base.keep b o (I.ok.bs b o e).1 (I.ok.bs b o e).2 (I.ok.nofr e) (I.ok.noex b o e),I.base.free b o (I.ok.bs b o e).1 (I.ok.bs b o e).2 (I.ok.noex b o e)⟩
theorem Inv.bk (I:Inv X pins σ H s):∀b o,X.base.get? b=some o->s.heap.get? b=some o:=λb o e=>(I.bs b o e).1
theorem Inv.mod (I:Inv X pins σ H s):Mod X.K X.mg X.base:=I.ok.mod
theorem Inv.kIn (I:Inv X pins σ H s):X.K.In s.heap:=I.ok.mod.kin.keeps I.bk
theorem Inv.lt (I:Inv X pins σ H s):X.env.locals<s.heap.objs.size:=let ⟨_,hn,_⟩:=I.loc;hn.lt
theorem Inv.sz (I:Inv X pins σ H s):X.s₀.heap.objs.size<=s.heap.objs.size:=Nat.le_trans I.ok.above (Nat.le_of_lt I.lt)
theorem Inv.nofs (I:Inv X pins σ H s) {a:Addr}(h:s.heap.objs.size<=a):a∉X.fs:=λhb=>by
 obtain⟨_,o,ho,_⟩:=I.ok.funs.mem hb
 exact absurd (Nat.lt_of_lt_of_le (Heap.lt_size ho) (Nat.le_trans I.sz h)) (Nat.lt_irrefl _)
theorem Inv.cne (I:Inv X pins σ H s):∀x c,X.env.cells.lookup x=some c->c≠X.env.locals:=λx c e z=>by
 obtain⟨v,o,ho,hd⟩:=I.cell x c e
 obtain⟨m,⟨o',es,ep,ho',hd',_⟩,_⟩:=I.loc
 rw [z,ho'] at ho;cases ho;rw [hd'] at hd;cases hd
theorem Inv.funs (I:Inv X pins σ H s):s.heap.FunFrames X.base X.outer:=by
 have all:∀(l:List Env),(∀b∈frs l,b∈X.fs)->X.s₀.heap.FunFrames X.base l->s.heap.FunFrames X.base l:=by
  intro l
  induction l with
  | nil=>intro _ _;trivial
  | cons env r ih =>
   intro hs hl
   obtain⟨hk,⟨L,o,hf,hn,ho,hd⟩,hr⟩:=hl
   have hL:L∈X.fs:=hs L (by unfold frs;rw [List.filterMap_cons,hf];exact List.mem_cons_self)
   obtain⟨sl,e⟩:=I.base.slot L o ho (I.ok.frf L hL) hL λz=>I.ok.exfs L z hL
   exact⟨hk,⟨L,_,hf,hn,e,hd⟩,ih (λb hb=>hs b (by unfold frs;rw [List.filterMap_cons,hf];exact List.mem_cons_of_mem _ hb)) hr⟩
 exact all X.outer (λ_ hb=>hb) I.ok.funs
theorem Inv.stack (I:Inv X pins σ H s):s.heap.FunFrames X.base X.stack:=by
 rcases I.ok.stk with e|⟨e,hf⟩
 ·rw [e];exact I.funs
 ·rw [e]
  obtain⟨m,hn,_⟩:=I.loc
  refine .cons (by rw [I.ok.kind];decide) hf hn ?_ I.funs
  exact Heap.get?_none_of_le (Nat.le_trans I.ok.bsz I.ok.above)
theorem Inv.stkSub (I:Inv X pins σ H s):∀b∈frs X.stack,b∈X.env.locals::X.fs:=λb hb=>by
 rcases I.ok.stk with e|⟨e,hf⟩
 ·rw [e] at hb;exact List.mem_cons_of_mem _ hb
 ·rw [e] at hb
  unfold frs at hb
  rw [List.filterMap_cons,hf] at hb
  exact hb
theorem Inv.stkFree (I:Inv X pins σ H s):∀b∈frs X.stack,H b=none:=λb hb=>by
 rcases List.mem_cons.mp (I.stkSub b hb) with e|hb
 ·rw [e];exact I.free
 ·obtain⟨_,o,ho,_⟩:=I.ok.funs.mem hb
  exact I.base.free b o ho (I.ok.frf b hb) λz=>I.ok.exfs b z hb
theorem Inv.step {g':Array GenState}{t':Nat}{d':Drawn}{ch:List Addr}(I:Inv X pins σ H s)
  (hch:∀b∈ch,(b∈X.ex∨X.s₀.heap.objs.size<=b)/\b≠X.env.locals/\(∀x c,X.env.cells.lookup x=some c->c≠b)/\∀p∈X.pn++pins,p.1≠b)
  (keep:∀b o,b≠X.env.locals->b∉X.fs->b∉ch->s.heap.get? b=some o->H b=none->h'.get? b=some o)
  (slot:∀b o,b≠X.env.locals->b∈X.fs->b∉ch->s.heap.get? b=some o->H b=none->∃sl,h'.get? b=some { o with slots:=sl }) (free:∀b o,b∉ch->s.heap.get? b=some o->H b=none->H' b=none)
  (there:∀b o,b∉ch->s.heap.get? b=some o->∃o',h'.get? b=some o')
  (tups:∀b xs,H b=some (.tup xs)->H' b=some (.tup xs)) (frzs:∀b o u,H b=some (.frz o u)->H' b=some (.frz o u)) (tbls:∀b ps,H b=some (.tbl ps)->∃more,H' b=some (.tbl (ps++more)))
  (ns:∀m,s.heap.Ns X.env.locals m->h'.Ns X.env.locals m) (hok:HOk X.prog X.w H' h') (hg:AllBare g') :
  Inv X pins σ H' { s with heap:=h',gens:=g',drawn:=d',toks:=t' }:=by
 have neL:∀b o,X.s₀.heap.get? b=some o->b≠X.env.locals:=λb o e=>Nat.ne_of_lt (Nat.lt_of_lt_of_le (Heap.lt_size e) I.ok.above)
 have neC:∀b o,X.s₀.heap.get? b=some o->b∉X.ex->b∉ch:=λb o e hx hb=>by
  rcases (hch b hb).1 with z|z
  ·exact hx z
  ·exact absurd (Nat.lt_of_lt_of_le (Heap.lt_size e) z) (Nat.lt_irrefl _)
 have cellK:∀x c,X.env.cells.lookup x=some c->∀v,s.heap.IsCell c v->h'.IsCell c v:=λx c e v ⟨o,ho,hd⟩=>by
  have nch:c∉ch:=λz=>(hch c z).2.2.1 x c e rfl
  by_cases hc:c∈X.fs
  ·obtain⟨sl,q⟩:=slot c o (I.cne x c e) hc nch ho (I.freeC x c e)
   exact⟨_,q,hd⟩
  ·exact⟨o,keep c o (I.cne x c e) hc nch ho (I.freeC x c e),hd⟩
 refine⟨I.ok,I.os,hg,⟨λb o e n hb hx=>?_,λb o e n hb hx=>?_,λb o e n hx=>?_,λb o e hx=>?_,λb xs e=>tups b xs (I.base.tups b xs e),λb o xs e=>frzs b o xs (I.base.frzs b o xs e),λb ps e=>?_⟩,?_,λx c e=>?_,?_,λx c e=>?_,λp hp=>?_,hok,I.len⟩
 ·exact keep b o (neL b o e) hb (neC b o e hx) (I.base.keep b o e n hb hx) (I.base.free b o e n hx)
 ·obtain⟨sl,e1⟩:=I.base.slot b o e n hb hx
  obtain⟨sl',e2⟩:=slot b _ (neL b o e) hb (neC b o e hx) e1 (I.base.free b o e n hx)
  exact⟨sl',e2⟩
 ·obtain⟨o',e1⟩:=I.base.there b o e hx
  exact free b o' (neC b o e hx) e1 (I.base.free b o e n hx)
 ·obtain⟨o',e1⟩:=I.base.there b o e hx
  exact there b o' (neC b o e hx) e1
 ·obtain⟨m1,e1⟩:=I.base.tbls b ps e
  obtain⟨m2,e2⟩:=tbls b _ e1
  exact⟨m1++m2,by rw [e2,Array.append_assoc]⟩
 ·obtain⟨m,hn,hl⟩:=I.loc
  refine⟨m,ns m hn,λi x v e1 e2 e3=>?_⟩
  obtain⟨u,r,l⟩:=hl i x v e1 e2 e3
  refine⟨u,r,?_⟩
  rcases l with l|⟨k,c,e,z⟩
  ·exact .inl l
  ·exact .inr ⟨k,c,e,cellK x c e _ z⟩
 ·obtain⟨v,z⟩:=I.cell x c e
  exact⟨v,cellK x c e v z⟩
 ·obtain⟨m,⟨o,_,_,ho,_⟩,_⟩:=I.loc
  exact free _ o (λz=>(hch _ z).2.1 rfl) ho I.free
 ·obtain⟨v,o,ho,hd⟩:=I.cell x c e
  exact free c o (λz=>(hch c z).2.2.1 x c e rfl) ho (I.freeC x c e)
 ·obtain⟨e,n,ne,nf,d⟩:=I.pin p hp
  have nch:p.1∉ch:=λz=>(hch p.1 z).2.2.2 p hp rfl
  exact⟨keep p.1 p.2 ne nf nch e n,free p.1 p.2 nch e n,ne,nf,d⟩
theorem Inv.un {t':Nat}(I:Inv X pins σ H s) (u:Un X.fs [] H H' s.heap h') (hok:HOk X.prog X.w H' h'):Inv X pins σ H' { s with heap:=h',toks:=t' }:=by
 obtain⟨m,⟨o,es,ep,ho,r⟩,_⟩:=id I.loc
 obtain⟨sl,hL⟩:=u.any ho I.free (by simp)
 exact I.step (g':=s.gens) (d':=s.drawn) (ch:=[]) (λ_ z=>nomatch z) (λb o _ hb _ e n=>u.keep b o e n hb (by simp)) (λb o _ hb _ e n=>u.slot b o e n hb (by simp)) (λb o _ e n=>u.free b o e n (by simp)) (λb o _ e=>u.there b o e (by simp)) u.tups u.frzs u.tbls (λm' hm=>by
  obtain⟨o',es',ep',ho',r'⟩:=hm
  rw [ho] at ho';cases ho'
  exact⟨_,es',ep',hL,r'⟩) hok I.bare
theorem Inv.call {g':Array GenState}{t':Nat}{d':Drawn}{ch:List Addr}(I:Inv X pins σ H s) (u:Un (frs X.stack) ch H H' s.heap h') (hok:HOk X.prog X.w H' h') (hg:AllBare g')
  (hch:∀b∈ch,(b∈X.ex∨X.s₀.heap.objs.size<=b)/\b≠X.env.locals/\(∀x c,X.env.cells.lookup x=some c->c≠b)/\∀p∈X.pn++pins,p.1≠b) :
  Inv X pins σ H' { s with heap:=h',gens:=g',drawn:=d',toks:=t' }:=by
 obtain⟨m,⟨o,es,ep,ho,r⟩,_⟩:=id I.loc
 obtain⟨sl,hL⟩:=u.any ho I.free λz=>(hch _ z).2.1 rfl
 exact I.step (ch:=ch) hch (λb o hL hb hc e n=>u.keep b o e n (λz=>(List.mem_cons.mp (I.stkSub b z)).elim hL hb) hc) (λb o _ _ hc e n=>u.any e n hc) (λb o hc e n=>u.free b o e n hc) (λb o hc e=>u.there b o e hc) u.tups u.frzs u.tbls (λm' hm=>by
  obtain⟨o',es',ep',ho',r'⟩:=hm
  rw [ho] at ho';cases ho'
  exact⟨_,es',ep',hL,r'⟩) hok hg
theorem Inv.turned {t':Nat}{it:Addr}(I:Inv X pins σ H s) (k:∀b o,b≠it->s.heap.get? b=some o->h'.get? b=some o) (hn:H it=none) (hL:it≠X.env.locals)
  (h1:it∈X.ex∨X.s₀.heap.objs.size<=it) (h2:∀x c,X.env.cells.lookup x=some c->c≠it) (h3:∀p∈X.pn++pins,p.1≠it):Inv X pins σ H { s with heap:=h',toks:=t' }:=by
 have nit:∀b u,H b=some u->b≠it:=λb u e z=>by rw [z,hn] at e;cases e
 refine I.step (g':=s.gens) (d':=s.drawn) (ch:=[it]) (λb hb=>?_) (λb o _ _ hc e _=>k b o (λz=>hc (by simp [z])) e) (λb o _ _ hc e _=>⟨o.slots,k b o (λz=>hc (by simp [z])) e⟩) (λ_ _ _ _ n=>n)
  (λb o hc e=>⟨o,k b o (λz=>hc (by simp [z])) e⟩) (λ_ _ e=>e) (λ_ _ _ e=>e) (λb ps e=>⟨#[],by rw [e];simp⟩) (λm hm=>?_) (λb u e=>?_) I.bare
 ·have e:b=it:=by simpa using hb
  subst e
  exact⟨h1,hL,h2,h3⟩
 ·obtain⟨o,es,ep,ho,r⟩:=hm
  exact⟨o,es,ep,k _ o (Ne.symm hL) ho,r⟩
 ·refine (I.hok b u e).stay (λc v hc q=>k c v ?_ q) (λ_ q=>q) λ_ _ q=>q
  rcases hc with z|z
  ·rw [z];exact nit b u e
  ·exact nit c _ z
theorem Inv.tok (I:Inv X pins σ H s) (t:Nat):Inv X pins σ H { s with toks:=t }:=I.un (h':=s.heap) (t':=t) Un.refl I.hok
theorem Inv.kept {t':Nat}(I:Inv X pins σ H s) (k:∀b u,s.heap.get? b=some u->h'.get? b=some u):Inv X pins σ H { s with heap:=h',toks:=t' }:=I.un (Un.kept k) (I.hok.kept k)
theorem Inv.laid {a:Addr}{o:HO}{t':Nat}(I:Inv X pins σ H s) (k:∀b u,s.heap.get? b=some u->h'.get? b=some u) (hp:s.heap.objs.size<=a) (new:ObjOk X.prog X.w (upd H a o) h' a o) :
  Inv X pins σ (upd H a o) { s with heap:=h',toks:=t' }:=I.un (Un.laid k hp (I.hok.fresh hp)) (I.hok.laid k hp new)
theorem Inv.write {x e:Addr}{o:HO}{t':Nat}(I:Inv X pins σ H s) (mu:Mut (H x)) (he:e=x∨H e=some (.own x)) (k:∀b u,b≠e->s.heap.get? b=some u->h'.get? b=some u) (heo:∃u,h'.get? e=some u)
  (new:ObjOk X.prog X.w (upd H x o) h' x o):Inv X pins σ (upd H x o) { s with heap:=h',toks:=t' }:=I.un (Un.write mu he k heo) (I.hok.write mu he k heo new)
theorem Inv.pins_of {pins':List (Addr×Obj)}(I:Inv X pins σ H s) (h:∀p∈pins',s.heap.get? p.1=some p.2/\H p.1=none/\p.1≠X.env.locals/\p.1∉X.fs/\∀v,p.2.data≠.cell v):Inv X pins' σ H s:=
 ⟨I.ok,I.os,I.bare,I.base,I.loc,I.cell,I.free,I.freeC,λp hp=>(List.mem_append.mp hp).elim (λz=>I.pin p (List.mem_append_left _ z)) (h p),I.hok,I.len⟩
theorem qDU {N:List Str}(hN:N.Nodup) {i j:Nat}{x:Str}(a:N[i]?=some x) (b:N[j]?=some x):i=j:=by
 obtain⟨h1,e1⟩:=List.getElem?_eq_some_iff.mp a
 obtain⟨h2,e2⟩:=List.getElem?_eq_some_iff.mp b
 exact (List.getElem_inj hN).mp (e1.trans e2.symm)
theorem qCY {M:Model}{A:Around}{E:Value->Shared->Prop}{i:Nat}{x:Str}{v:V}{u:Value}{Q:Unit->Shared->Prop}(I:Inv X pins σ H s) (hN:X.N.Nodup) (hi:X.N[i]?=some x) (hx:Loc X.env.scope x) (r:RelV v u)
  (h:∀s',Inv X pins (σ.set i (some v)) H s'->(∃a,Heap.SameBut a s.heap s'.heap/\(a=X.env.locals∨X.env.cells.lookup x=some a))->Q () s') (hf:X.fn x=true∨X.env.scope.names.lookup x=some .local:=by first|exact .inl rfl|exact .inr rfl|assumption):wpAny M A (storeName X.env x u) Q E s:=by
 obtain⟨m,hn,hl⟩:=id I.loc
 have hcls:(X.env.scope.kind == .class||(X.env.scope.kind == .module&&X.env.locals != X.env.globals))=false:=by rw [I.ok.kind];rfl
 have hiσ:i<σ.length:=by rw [I.len];exact (List.getElem?_eq_some_iff.mp hi).1
 have cne:=I.cne
 have tracked:∀{a:Addr} {h':Heap},(∃o,s.heap.get? a=some o/\H a=none)->Heap.SameBut a s.heap h'->HOk X.prog X.w H h':=λ{a h'} ha hs b ob e=>by
  obtain⟨_,_,hfree⟩:=ha
  refine (I.hok b ob e).stay (λc w' hc q=>(hs.2 c ?_).trans q) (λ_ q=>q) λ_ _ q=>q
  rintro rfl
  rcases hc with rfl|hc
  ·rw [hfree] at e;cases e
  ·rw [hfree] at hc;cases hc
 rcases hx with hk|hk
 ·refine wpAny_storeName_local hk hn (λh' hn' hs=>?_) hcls
  obtain⟨oL,_,_,hoL,_⟩:=id hn
  refine h _ ⟨I.ok,I.os,I.bare,⟨λb o e n hb hx=>?_,λb o e n hb hx=>?_,I.base.free,λb o e hx=>?_,I.base.tups,I.base.frzs,I.base.tbls⟩,⟨_,hn',λj y v' e1 e2 e3=>?_⟩,λy c e=>?_,I.free,I.freeC,λp hp=>?_,tracked ⟨oL,hoL,I.free⟩ hs,by simpa using I.len⟩ ⟨_,hs,.inl rfl⟩
  ·exact (hs.2 b (Nat.ne_of_lt (Nat.lt_of_lt_of_le (Heap.lt_size e) I.ok.above))).trans (I.base.keep b o e n hb hx)
  ·obtain⟨sl,e1⟩:=I.base.slot b o e n hb hx
   exact⟨sl,(hs.2 b (Nat.ne_of_lt (Nat.lt_of_lt_of_le (Heap.lt_size e) I.ok.above))).trans e1⟩
  ·obtain⟨o',e1⟩:=I.base.there b o e hx
   exact⟨o',(hs.2 b (Nat.ne_of_lt (Nat.lt_of_lt_of_le (Heap.lt_size e) I.ok.above))).trans e1⟩
  ·by_cases hj:j=i
   ·subst hj
    rw [hi] at e1;cases e1
    rw [List.getElem?_set_self hiσ] at e2
    cases e2
    exact⟨u,r,.inl ⟨hk,by simp⟩⟩
   ·rw [List.getElem?_set_ne (Ne.symm hj)] at e2
    obtain⟨u',r',q⟩:=hl j y v' e1 e2 e3
    refine⟨u',r',?_⟩
    rcases q with ⟨k,e⟩|⟨k,c,e,z⟩
    ·refine .inl ⟨k,?_⟩
     have:y≠x:=λe=>hj (qDU hN e1 (e▸hi))
     simp [this,e]
    ·exact .inr ⟨k,c,e,z.sameBut hs (cne y c e)⟩
  ·obtain⟨w',z⟩:=I.cell y c e
   exact⟨w',z.sameBut hs (cne y c e)⟩
  ·obtain⟨e,n,ne,nf,d⟩:=I.pin p hp
   exact⟨(hs.2 p.1 ne).trans e,n,ne,nf,d⟩
 ·have hfn:X.fn x=true:=by
   rcases hf with z|z
   ·exact z
   ·rw [z] at hk;cases hk
  obtain⟨c,hc⟩:=I.ok.has x (.inl hk)
  obtain⟨w',z⟩:=I.cell x c hc
  refine wpAny_storeName_cell I.ok.kind hk hc z (λh' hc' hs=>?_)
  obtain⟨oc,hoc,hocd⟩:=id z
  refine h { s with heap:=h' } ⟨I.ok,I.os,I.bare,⟨λb o e n hb hx=>?_,λb o e n hb hx=>?_,I.base.free,λb o e hx=>?_,I.base.tups,I.base.frzs,I.base.tbls⟩,⟨m,hn.sameBut hs (Ne.symm (cne x c hc)),λj y v' e1 e2 e3=>?_⟩,λy c' e=>?_,I.free,I.freeC,λp hp=>?_,tracked ⟨oc,hoc,I.freeC x c hc⟩ hs,by simpa using I.len⟩ ⟨c,hs,.inr hc⟩
  ·exact (hs.2 b (Nat.ne_of_lt (Nat.lt_of_lt_of_le (Heap.lt_size e) (I.ok.cab x c hfn hc)))).trans (I.base.keep b o e n hb hx)
  ·obtain⟨sl,e1⟩:=I.base.slot b o e n hb hx
   exact⟨sl,(hs.2 b (Nat.ne_of_lt (Nat.lt_of_lt_of_le (Heap.lt_size e) (I.ok.cab x c hfn hc)))).trans e1⟩
  ·obtain⟨o',e1⟩:=I.base.there b o e hx
   exact⟨o',(hs.2 b (Nat.ne_of_lt (Nat.lt_of_lt_of_le (Heap.lt_size e) (I.ok.cab x c hfn hc)))).trans e1⟩
  ·by_cases hj:j=i
   ·subst hj
    rw [hi] at e1;cases e1
    rw [List.getElem?_set_self hiσ] at e2
    cases e2
    exact⟨u,r,.inr ⟨.inl hk,c,hc,hc'⟩⟩
   ·rw [List.getElem?_set_ne (Ne.symm hj)] at e2
    obtain⟨u',r',q⟩:=hl j y v' e1 e2 e3
    refine⟨u',r',?_⟩
    rcases q with q|⟨k,c',e,z'⟩
    ·exact .inl q
    ·refine .inr ⟨k,c',e,z'.sameBut hs ?_⟩
     rintro rfl
     exact hj (qDU hN e1 (I.ok.inj _ _ _ e hc▸hi))
  ·by_cases hcc:c'=c
   ·subst hcc;exact⟨_,hc'⟩
   ·obtain⟨w2,z2⟩:=I.cell y c' e
    exact⟨w2,z2.sameBut hs hcc⟩
  ·obtain⟨e,n,ne,nf,d⟩:=I.pin p hp
   refine⟨(hs.2 p.1 ?_).trans e,n,ne,nf,d⟩
   intro q
   rw [q,hoc] at e
   have q':oc=p.2:=Option.some.inj e
   exact d w' (by rw [<-q'];exact hocd)
theorem qFu {M:Model}{A:Around}{E:Value->Shared->Prop}{i:Nat}{x:Str}{v:V}{u:Value}{Q:Unit->Shared->Prop}(I:Inv X pins σ H s) (hN:X.N.Nodup) (hi:X.N[i]?=some x) (hx:Loc X.env.scope x) (r:RelV v u)
  (h:∀s',Inv X pins (σ.set i (some v)) H s'->Q () s') (hf:X.fn x=true∨X.env.scope.names.lookup x=some .local:=by first|exact .inl rfl|exact .inr rfl|assumption):wpAny M A (storeName X.env x u) Q E s:=
 qCY I hN hi hx r (λs' I' _=>h s' I') hf
theorem Inv.call' {s':Shared}{ch:List Addr}(I:Inv X pins σ H s) (ho:s'.os=s.os) (u:Un (frs X.stack) ch H H' s.heap s'.heap) (hok:HOk X.prog X.w H' s'.heap) (hg:AllBare s'.gens)
  (hch:∀b∈ch,(b∈X.ex∨X.s₀.heap.objs.size<=b)/\b≠X.env.locals/\(∀x c,X.env.cells.lookup x=some c->c≠b)/\∀p∈X.pn++pins,p.1≠b):Inv X pins σ H' s':=by
 obtain⟨h',g',d',t',o'⟩:=s'
 have e:o'=s.os:=ho
 subst e
 exact I.call (g':=g') (t':=t') (d':=d') u hok hg hch
end
noncomputable abbrev XK:=Value->Option Addr->Hp->Prop
noncomputable abbrev St:=List (Option V)
noncomputable abbrev VK:=V->Hp->Prop
noncomputable abbrev TE:=St->Hp->VK->Prop
noncomputable abbrev TT:=St->Hp->(Bool->Hp->Prop)->Prop
noncomputable abbrev TA:=St->Hp->(List V->Hp->Prop)->Prop
structure Ends where
 nx:St->Hp->Prop
 rt:VK
 bk:St->Hp->Prop:=λ_ _=>False
 ct:St->Hp->Prop:=λ_ _=>False
noncomputable abbrev TS:=Ends->St->Hp->Prop
noncomputable def EP (X:Cx) (pins:List (Addr×Obj)) (σ:St) (Q:VK) (u:Value) (s':Shared):Prop:=∃v H',Inv X pins σ H' s'/\RelV v u/\Q v H'
noncomputable def TP (X:Cx) (pins:List (Addr×Obj)) (σ:St) (Q:Bool->Hp->Prop) (b:Bool) (s':Shared):Prop:=∃H',Inv X pins σ H' s'/\Q b H'
noncomputable def AP (X:Cx) (pins:List (Addr×Obj)) (σ:St) (Q:List V->Hp->Prop) (us:List Value) (s':Shared):Prop:=∃vs H',Inv X pins σ H' s'/\Vals vs us/\Q vs H'
noncomputable def SP (X:Cx) (pins:List (Addr×Obj)) (D:Ends) (f:Flow) (s':Shared):Prop:=
 match f with
 | .next=>∃σ' H',Inv X pins σ' H' s'/\D.nx σ' H'
 | .brk=>∃σ' H',Inv X pins σ' H' s'/\D.bk σ' H'
 | .cont=>∃σ' H',Inv X pins σ' H' s'/\D.ct σ' H'
 | .ret u=>∃v σ' H',Inv X pins σ' H' s'/\RelV v u/\D.rt v H'
noncomputable def PE (X:Cx) (e:Expr) (t:TE):Prop:=
 ∀(pins:List (Addr×Obj)) (s:Shared) (σ:St) (H:Hp) (Q:VK),Inv X pins σ H s->t σ H Q->wpAny (model X.prog X.w) X.A (eval e X.env) (EP X pins σ Q) X.xe s
noncomputable def PT (X:Cx) (e:Expr) (t:TT):Prop:=
 ∀(pins:List (Addr×Obj)) (s:Shared) (σ:St) (H:Hp) (Q:Bool->Hp->Prop),Inv X pins σ H s->t σ H Q->wpAny (model X.prog X.w) X.A (isTrue e X.env (eval e X.env)) (TP X pins σ Q) X.xe s
noncomputable def PW (X:Cx) (e:Expr) (t:TT):Prop:=
 ∀(whole:Sem Value) (pins:List (Addr×Obj)) (s:Shared) (σ:St) (H:Hp) (Q:Bool->Hp->Prop),Inv X pins σ H s->t σ H Q->wpAny (model X.prog X.w) X.A (isTrue e X.env whole) (TP X pins σ Q) X.xe s
theorem PW.pt {X:Cx}{e:Expr}{t:TT}(h:PW X e t):PT X e t:=h _
noncomputable def PA (X:Cx) (es:List Expr) (t:TA):Prop:=
 ∀(pos:Pos) (pins:List (Addr×Obj)) (s:Shared) (σ:St) (H:Hp) (Q:List V->Hp->Prop),Inv X pins σ H s->t σ H Q->wpAny (model X.prog X.w) X.A (spliced (backTo pos (starEach es X.env))) (AP X pins σ Q) X.xe s
noncomputable def PS (X:Cx) (st:Stmt) (t:TS):Prop:=
 ∀(pins:List (Addr×Obj)) (s:Shared) (σ:St) (H:Hp) (D:Ends),Inv X pins σ H s->t D σ H->wpAny (model X.prog X.w) X.A (exec st X.env) (SP X pins D) X.xe s
noncomputable def PSs (X:Cx) (st:List Stmt) (t:TS):Prop:=
 ∀(pins:List (Addr×Obj)) (s:Shared) (σ:St) (H:Hp) (D:Ends),Inv X pins σ H s->t D σ H->wpAny (model X.prog X.w) X.A (execs st X.env) (SP X pins D) X.xe s
theorem thn {α:Type}{t:Sem α}{Q Q':α->Shared->Prop}{M:Model}{A:Around}{E:Value->Shared->Prop}{s:Shared}(h:wpAny M A t Q E s) (hQ:∀a s,Q a s->Q' a s):wpAny M A t Q' E s:=wpAny_mono h hQ λ_ _ x=>x
end L2
namespace L2
open PySem PySem.Spec PyProof.Rows
section
variable {X:Cx}
theorem bin {a b:Expr}{ta tb:TE}(ha:PE X a ta) (hb:PE X b tb) {pins:List (Addr×Obj)}{s:Shared}{σ:St}{H:Hp}{R:V->V->Hp->Prop}(I:Inv X pins σ H s) (h:ta σ H λx H1=>tb σ H1 λy H2=>R x y H2)
  {α:Type} {Q:α->Shared->Prop} {f:Value->Value->Sem α}
  (hf:∀v u s2 x y H2,Inv X pins σ H2 s2->RelV x v->RelV y u->R x y H2->wpAny (model X.prog X.w) X.A (f v u) Q X.xe s2) :
  wpAny (model X.prog X.w) X.A (eval a X.env) (λv s₁=>wpAny (model X.prog X.w) X.A (eval b X.env) (λu s₂=>wpAny (model X.prog X.w) X.A (f v u) Q X.xe s₂) X.xe s₁) X.xe s:=by
 refine thn (ha pins s σ H _ I h) λv s1 ⟨x,H1,I1,r1,q1⟩=>?_
 refine thn (hb pins s1 σ H1 _ I1 q1) λu s2 ⟨y,H2,I2,r2,q2⟩=>?_
 exact hf v u s2 x y H2 I2 r1 r2 q2
noncomputable def qMx (i:Nat):TE:=fun σ H Q=>∃v,σ[i]?=some (some v)/\Q v H
noncomputable def tC (v:V):TE:=λ_ H Q=>Q v H
theorem qCh {i:Nat}{x:Str}{pos:Pos}(hN:X.N[i]?=some x) (hv:Vis X.env.scope x) (hd:(x == ("__debug__":Str))=false:=by decide) (hcd:(x == ("__classdict__":Str))=false:=by decide):PE X (.Name x pos) (qMx i):=by
 intro pins s σ H Q I h
 obtain⟨v,e,h⟩:=h
 obtain⟨m,hn,hl⟩:=I.loc
 obtain⟨u,r,l⟩:=hl i x v hN e hv
 have fin:EP X pins σ Q u s:=⟨v,H,I,r,h⟩
 rcases l with ⟨hk,hm⟩|⟨hk,c,hc,hcell⟩
 ·exact wpAny_Name (wpAny_loadName_local I.ok.kind hk hn hm fin) hd
 ·rcases hk with hk|hk
  ·exact wpAny_Name (wpAny_loadName_cell I.ok.kind hk hc hcell fin) hd
  ·exact wpAny_Name (wpAny_loadName_free I.ok.kind hk hc hcell fin hcd) hd
theorem qNf {i j pos}:PE X (.Constant (.int i) j pos) (tC (.int i)):=λ_ _ _ H _ I h=>wpAny_Constant_int ⟨.int i,H,I.tok _,⟨_,rfl⟩,h⟩
theorem qPj {b j pos}:PE X (.Constant (.bool b) j pos) (tC (.bl b)):=λ_ _ _ H _ I h=>Constant_bool ⟨.bl b,H,I,rfl,h⟩
theorem qNd {j pos}:PE X (.Constant .none j pos) (tC .non):=λ_ _ _ H _ I h=>Constant_none ⟨.non,H,I,rfl,h⟩
theorem qNa {x j pos}:PE X (.Constant (.str x) j pos) (tC (.str x)):=λ_ _ _ H _ I h=>Calls.Constant_str ⟨.str x,H,I.tok _,⟨_,rfl⟩,h⟩
noncomputable def Gl (X:Cx) (x:Str):Prop:=X.env.kindOf x=some .globalImplicit
theorem qDb {E:Value->Shared->Prop}{pins:List (Addr×Obj)}{s:Shared}{σ:St}{H:Hp}{x:Str}{u:Value}{pos:Pos}{Q:Value->Shared->Prop}(I:Inv X pins σ H s) (hg:Gl X x) (hm:X.mg x=some u) (h:Q u s)
  (hd:(x == ("__debug__":Str))=false:=by decide):wpAny (model X.prog X.w) X.A (eval (.Name x pos) X.env) Q E s:=
 Calls.Name_function_global I.ok.kind hg (Calls.loadGlobal_global (by rw [I.ok.glob];exact I.mod.glob.keeps I.bk) hm h) hd
theorem qDc {E:Value->Shared->Prop}{pins:List (Addr×Obj)}{s:Shared}{σ:St}{H:Hp}{x:Str}{u:Value}{pos:Pos}{Q:Value->Shared->Prop}(I:Inv X pins σ H s) (hg:Gl X x) (hm:X.mg x=none) (hv:bootBuiltins x=some u) (h:Q u s)
  (hn:x≠"__name__":=by decide) (hd:(x == ("__debug__":Str))=false:=by decide):wpAny (model X.prog X.w) X.A (eval (.Name x pos) X.env) Q E s:=by
 obtain⟨mb,h1,h2⟩:=I.mod.blt
 exact Calls.Name_function_global I.ok.kind hg (Calls.loadGlobal_builtin (by rw [I.ok.glob];exact I.mod.glob.keeps I.bk) hm (by rw [I.ok.blt];exact h1.keeps I.bk) ((h2 x hn).trans hv) h) hd
theorem qLb {x:Str}{v:V}{u:Value}{pos:Pos}(hg:Gl X x) (hm:X.mg x=some u) (r:RelV v u) (hd:(x == ("__debug__":Str))=false:=by decide):PE X (.Name x pos) (tC v):=
 λ_ _ _ H _ I h=>qDb I hg hm ⟨v,H,I,r,h⟩ hd
theorem qLc {x:Str}{v:V}{u:Value}{pos:Pos}(hg:Gl X x) (hm:X.mg x=none) (hv:bootBuiltins x=some u) (r:RelV v u) (hn:x≠"__name__":=by decide) (hd:(x == ("__debug__":Str))=false:=by decide):PE X (.Name x pos) (tC v):=
 λ_ _ _ H _ I h=>qDc I hg hm hv ⟨v,H,I,r,h⟩ hn hd
variable {a b:Expr}{ta tb:TE}{pos:Pos}
noncomputable def tB (t:TE):TT:=fun σ H Q=>t σ H λx H1=>∃c,x=.bl c/\Q c H1
theorem qMY {e:Expr}{t:TE}(h:PE X e t) (he:∀whole,isTrue e X.env whole=(do let v <-whole;standAt e.pos;holding [v] (truthy v)):=by intro _;rfl):PT X e (tB t):=by
 intro pins s σ H Q I hw
 refine isTrue_plain (thn (h pins s σ H _ I hw) λv s1 ⟨x,H1,I1,r1,q1⟩=>?_) (he _)
 obtain⟨d,rfl,q⟩:=q1
 cases r1
 exact wpAny_truthy_bool ⟨H1,I1,q⟩
variable {tA tB':TT}{qAZ:List Expr}
noncomputable def qQE (t u:TT):TT:=fun σ H Q=>t σ H λc H1=>if c=true then u σ H1 Q else Q false H1
noncomputable def tOr (t u:TT):TT:=fun σ H Q=>t σ H λc H1=>if c=true then Q true H1 else u σ H1 Q
noncomputable def qQx (t:TT):TT:=fun σ H Q=>t σ H λc H1=>Q (!c) H1
theorem qK3 (ha:PT X a tA):PW X (.BoolOp .And [a] pos) tA:=by
 intro wh pins s σ H Q I h
 refine isTrue_and (thn (ha pins s σ H Q I h) λc s1 e=>?_)
 cases c with
 | true=>exact isTrue_and_nil e
 | false=>exact e
theorem qMW (ha:PT X a tA):PW X (.BoolOp .Or [a] pos) tA:=by
 intro wh pins s σ H Q I h
 refine isTrue_or (thn (ha pins s σ H Q I h) λc s1 e=>?_)
 cases c with
 | false=>exact isTrue_or_nil e
 | true=>exact e
theorem qMX (ha:PT X a tA) (hb:PW X (.BoolOp .And (b::qAZ) pos) tB'):PW X (.BoolOp .And (a::b::qAZ) pos) (qQE tA tB'):=by
 intro wh pins s σ H Q I h
 refine isTrue_and (thn (ha pins s σ H _ I h) λc s1 ⟨H1,I1,q1⟩=>?_)
 cases c with
 | true=>exact hb wh pins s1 σ H1 Q I1 q1
 | false=>exact⟨H1,I1,q1⟩
theorem qPa (ha:PT X a tA) (hb:PW X (.BoolOp .Or (b::qAZ) pos) tB'):PW X (.BoolOp .Or (a::b::qAZ) pos) (tOr tA tB'):=by
 intro wh pins s σ H Q I h
 refine isTrue_or (thn (ha pins s σ H _ I h) λc s1 ⟨H1,I1,q1⟩=>?_)
 cases c with
 | true=>exact⟨H1,I1,q1⟩
 | false=>exact hb wh pins s1 σ H1 Q I1 q1
theorem qMZ (ha:PT X a tA):PT X (.UnaryOp .Not a pos) (qQx tA):=by
 intro pins s σ H Q I h
 exact isTrue_not (ha pins s σ H (λc H1=>Q (!c) H1) I h)
noncomputable def qO2 (ta tb:TE):TE:=fun σ H Q=>ta σ H λx H1=>∃c,x=.bl c/\if c=true then tb σ H1 Q else Q (.bl false) H1
noncomputable def qQw (ta tb:TE):TE:=fun σ H Q=>ta σ H λx H1=>∃c,x=.bl c/\if c=true then Q (.bl true) H1 else tb σ H1 Q
noncomputable def qOW (ta:TE):TE:=fun σ H Q=>ta σ H λx H1=>∃c,x=.bl c/\Q (.bl (!c)) H1
theorem qNb {op}{t:TE}(h:PE X a t):PE X (.BoolOp op [a] pos) t:=λpins s σ H Q I hw=>BoolOp_one (h pins s σ H Q I hw)
theorem qNj (ha:PE X a ta) (hb:PE X (.BoolOp .And (b::qAZ) pos) tb):PE X (.BoolOp .And (a::b::qAZ) pos) (qO2 ta tb):=by
 intro pins s σ H Q I h
 refine BoolOp_and (thn (ha pins s σ H _ I h) λv s1 ⟨x,H1,I1,r1,q1⟩=>?_)
 obtain⟨c,rfl,q1⟩:=q1
 cases r1
 refine wpAny_truthy_bool ?_
 cases c with
 | true=>exact hb pins s1 σ H1 Q I1 q1
 | false=>exact⟨.bl false,H1,I1,rfl,q1⟩
theorem qPe (ha:PE X a ta) (hb:PE X (.BoolOp .Or (b::qAZ) pos) tb):PE X (.BoolOp .Or (a::b::qAZ) pos) (qQw ta tb):=by
 intro pins s σ H Q I h
 refine BoolOp_or (thn (ha pins s σ H _ I h) λv s1 ⟨x,H1,I1,r1,q1⟩=>?_)
 obtain⟨c,rfl,q1⟩:=q1
 cases r1
 refine wpAny_truthy_bool ?_
 cases c with
 | false=>exact hb pins s1 σ H1 Q I1 q1
 | true=>exact⟨.bl true,H1,I1,rfl,q1⟩
theorem qNc (ha:PE X a ta):PE X (.UnaryOp .Not a pos) (qOW ta):=by
 intro pins s σ H Q I h
 refine UnaryOp_ (thn (ha pins s σ H _ I h) λv s1 ⟨x,H1,I1,r1,q1⟩=>?_)
 obtain⟨c,rfl,q1⟩:=q1
 cases r1
 exact not_of (wpAny_truthy_bool ⟨.bl (!c),H1,I1,rfl,q1⟩)
end
end L2
namespace L2
open PySem PySem.Spec PyProof.Rows
noncomputable def SqL (K:PySem.W.Frag) (H:Hp) (a:Addr) (xs:List V):Prop:=
 Rd H a (.lst xs) ∨
  ∃(o:Obj) (its:Array Value) (n:Nat),K.lookup a=some o/\o.cls=.type "list"/\o.dict=none/\o.data=.seq its n/\its.size<=sizeLine/\Vals xs its.toList
noncomputable def SqT (K:PySem.W.Frag) (H:Hp) (a:Addr) (xs:List V):Prop:=
 Rd H a (.tup xs) ∨
  ∃(o:Obj) (its:Array Value) (n:Nat),K.lookup a=some o/\o.cls=.type "tuple"/\o.data=.seq its n/\its.size<=sizeLine/\Vals xs its.toList
noncomputable def qQ5:Value->Option V
 | .none=>some .non
 | .bool b=>some (.bl b)
 | .int i _=>some (.int i)
 | .str x _=>some (.str x)
 | .bytes b _=>some (.byt b)
 | .float b _=>some (.flt b)
 | .ref a=>some (.ref a)
 | .type n=>some (.ty n)
 | _=>none
theorem RelV.abs {x:V}{u:Value}(r:RelV x u):qQ5 u=some x:=by
 cases x with
 | non=>cases r;rfl
 | bl _=>cases r;rfl
 | int _=>obtain⟨t,rfl⟩:=r;rfl
 | str _=>obtain⟨t,rfl⟩:=r;rfl
 | byt _=>obtain⟨t,rfl⟩:=r;rfl
 | flt _=>obtain⟨t,rfl⟩:=r;rfl
 | ref _=>cases r;rfl
 | ty _=>cases r;rfl
theorem RelV.inj {x y:V}{u:Value}(r:RelV x u) (q:RelV y u):x=y:=Option.some.inj (r.abs.symm.trans q.abs)
theorem Vals.inj:∀{xs ys:List V}{us:List Value},Vals xs us->Vals ys us->xs=ys
 | _,_,_,.nil,.nil=>rfl
 | _,_,_,.cons r t,.cons r' t'=>by rw [r.inj r',Vals.inj t t']
section
variable {X:Cx}{pins:List (Addr×Obj)}{σ:St}{H:Hp}{s:Shared}{a:Addr}{xs ys:List V}
theorem SqL.of {K:PySem.W.Frag}(h:H a=some (.lst xs)):SqL K H a xs:=.inl (.inl h)
theorem SqT.of {K:PySem.W.Frag}(h:H a=some (.tup xs)):SqT K H a xs:=.inl (.inl h)
theorem Inv.list (I:Inv X pins σ H s) (h:SqL X.K H a xs):∃its:List Value,Vals xs its/\PlainL s.heap a its.toArray/\xs.length<=sizeLine:=by
 rcases h with h|⟨o,its,n,hk,hc,hd,hs,hz,r⟩
 ·obtain⟨z,its,n,r,e⟩:=h.ok I.hok
  exact⟨its,r,⟨_,n,e,rfl,rfl,rfl⟩,z⟩
 ·refine⟨its.toList,r,⟨o,n,I.kIn a o hk,hc,hd,by simpa using hs⟩,?_⟩
  have e:=r.length
  simp only [Array.length_toList] at e
  omega
theorem Inv.tuple (I:Inv X pins σ H s) (h:SqT X.K H a xs):∃its:List Value,Vals xs its/\IsTup s.heap a its.toArray/\xs.length<=sizeLine:=by
 rcases h with h|⟨o,its,n,hk,hc,hs,hz,r⟩
 ·obtain⟨z,its,r,p⟩:=h.ok I.hok
  exact⟨its,r,p,z⟩
 ·refine⟨its.toList,r,⟨o,I.kIn a o hk,hc,n,by simpa using hs⟩,?_⟩
  have e:=r.length
  simp only [Array.length_toList] at e
  omega
theorem Inv.list_inj (I:Inv X pins σ H s) (h:SqL X.K H a xs) (h':SqL X.K H a ys):xs=ys:=by
 obtain⟨its,r,⟨o,n,e,_,_,d⟩,_⟩:=I.list h
 obtain⟨its',r',⟨o',n',e',_,_,d'⟩,_⟩:=I.list h'
 rw [e] at e';cases e'
 rw [d] at d'
 injection d' with d1 _
 have:its=its':=by simpa using congrArg Array.toList d1
 subst this
 exact r.inj r'
theorem Inv.tuple_inj (I:Inv X pins σ H s) (h:SqT X.K H a xs) (h':SqT X.K H a ys):xs=ys:=by
 obtain⟨its,r,⟨o,e,_,n,d⟩,_⟩:=I.tuple h
 obtain⟨its',r',⟨o',e',_,n',d'⟩,_⟩:=I.tuple h'
 rw [e] at e';cases e'
 rw [d] at d'
 injection d' with d1 _
 have:its=its':=by simpa using congrArg Array.toList d1
 subst this
 exact r.inj r'
end
noncomputable abbrev Cx.wish (X:Cx) (E:Value->Shared->Prop):Cx:={ X with xe:=E }
noncomputable abbrev Cx.nox (X:Cx):Cx:=X.wish λ_ _=>False
theorem Cx.Ok.wish {X:Cx}(ok:X.Ok) (E:Value->Shared->Prop):(X.wish E).Ok:=
 ⟨ok.mod,ok.kind,ok.glob,ok.blt,ok.above,ok.inj,ok.has,ok.cab,ok.hd,ok.frames,ok.stk,ok.exf,ok.bs,ok.bsz,ok.noex,ok.exfs,ok.funs,ok.frf⟩
theorem Cx.Ok.unwish {X:Cx}{E:Value->Shared->Prop}(ok:(X.wish E).Ok):X.Ok:=
 ⟨ok.mod,ok.kind,ok.glob,ok.blt,ok.above,ok.inj,ok.has,ok.cab,ok.hd,ok.frames,ok.stk,ok.exf,ok.bs,ok.bsz,ok.noex,ok.exfs,ok.funs,ok.frf⟩
section
variable {X:Cx}{pins:List (Addr×Obj)}{σ:St}{H:Hp}{s:Shared}{E:Value->Shared->Prop}
theorem Inv.wish (I:Inv X pins σ H s) (E:Value->Shared->Prop):Inv (X.wish E) pins σ H s:=⟨I.ok.wish E,I.os,I.bare,I.base,I.loc,I.cell,I.free,I.freeC,I.pin,I.hok,I.len⟩
theorem Inv.unwish (I:Inv (X.wish E) pins σ H s):Inv X pins σ H s:=⟨I.ok.unwish,I.os,I.bare,I.base,I.loc,I.cell,I.free,I.freeC,I.pin,I.hok,I.len⟩
theorem SP.unwish {D:Ends}{f:Flow}{s':Shared}(h:SP (X.wish E) pins D f s'):SP X pins D f s':=by
 cases f with
 | next=>obtain⟨σ',H',I,q⟩:=h;exact⟨σ',H',I.unwish,q⟩
 | brk=>obtain⟨σ',H',I,q⟩:=h;exact⟨σ',H',I.unwish,q⟩
 | cont=>obtain⟨σ',H',I,q⟩:=h;exact⟨σ',H',I.unwish,q⟩
 | ret u=>obtain⟨v,σ',H',I,r,q⟩:=h;exact⟨v,σ',H',I.unwish,r,q⟩
theorem PSs.nox {st:List Stmt}{t:TS}(h:PSs X.nox st t):PSs X st t:=λpins s σ H D I hw =>
 wpAny_mono (h pins s σ H D (I.wish _) hw) (λ_ _ q=>q.unwish) λ_ _ z=>False.elim z
end
section
variable {X:Cx}{st:Stmt}{qAZ:List Stmt}{t u:TS}{e:Expr}{te:TE}{pos:Pos}
noncomputable def qOY:TS:=λD σ H=>D.nx σ H
noncomputable def qQu (t u:TS):TS:=λD σ H=>t { D with nx:=u D } σ H
theorem qG1:PSs X [] qOY:=λ_ _ σ H _ I h=>wpAny_execs_nil ⟨σ,H,I,h⟩
theorem qFz (h1:PS X st t) (h2:PSs X qAZ u):PSs X (st::qAZ) (qQu t u):=by
 intro pins s σ H D I h
 refine wpAny_execs_cons (thn (h1 pins s σ H { D with nx:=u D } I h) λf s1 q=>?_)
 cases f with
 | next =>
  obtain⟨σ',H',I',q⟩:=q
  exact h2 pins s1 σ' H' D I' q
 | ret v=>exact q
 | brk=>exact q
 | cont=>exact q
theorem Inv.quiet {pins:List (Addr×Obj)}{σ:St}{H:Hp}{s:Shared}(I:Inv X pins σ H s):interactive X.env=false:=by simp [interactive,I.ok.kind]
noncomputable def qO0 (te:TE):TS:=λD σ H=>te σ H λ_ H1=>D.nx σ H1
theorem qG2 (he:PE X e te) (hs:swapsWith e none pos.line X.env=pure false:=by rfl):PS X (.Expr e pos) (qO0 te):=by
 intro pins s σ H D I h
 exact wpAny_Expr_any (thn (he pins s σ H _ I h) λv s1 ⟨x,H1,I1,r1,q1⟩=>⟨σ,H1,I1,q1⟩) I.quiet hs
noncomputable def qQv (te:TE):TS:=λD σ H=>te σ H D.rt
theorem qJS (he:PE X e te):PS X (.Return (some e) pos) (qQv te):=by
 intro pins s σ H D I h
 exact wpAny_Return_some (thn (he pins s σ H _ I h) λv s1 ⟨x,H1,I1,r1,q1⟩=>⟨x,σ,H1,I1,r1,q1⟩)
noncomputable def qQz (c:TT) (t u:TS):TS:=λD σ H=>c σ H λb H1=>if b=true then t D σ H1 else u D σ H1
theorem qPb {c:Expr}{a b:List Stmt}{tc:TT}(hc:PT X c tc) (ha:PSs X a t) (hb:PSs X b u):PS X (.If c a b pos) (qQz tc t u):=by
 intro pins s σ H D I h
 refine wpAny_If (thn (hc pins s σ H _ I h) λd s1 ⟨H1,I1,q1⟩=>?_)
 cases d with
 | true=>exact ha pins s1 σ H1 D I1 q1
 | false=>exact hb pins s1 σ H1 D I1 q1
end
noncomputable abbrev TG:=V->St->Hp->(St->Hp->Prop)->Prop
noncomputable abbrev TGs:=List V->St->Hp->(St->Hp->Prop)->Prop
noncomputable def PG (X:Cx) (target:Expr) (t:TG):Prop:=
 ∀(pins:List (Addr×Obj)) (s:Shared) (σ:St) (H:Hp) (v:V) (u:Value) (Q:St->Hp->Prop),Inv X pins σ H s->RelV v u->t v σ H Q ->
   wpAny (model X.prog X.w) X.A (assign target X.env u) (λ_ s'=>∃σ' H',Inv X pins σ' H' s'/\Q σ' H') X.xe s
noncomputable def PGs (X:Cx) (ts:List Expr) (t:TGs):Prop:=
 ∀(pins:List (Addr×Obj)) (s:Shared) (σ:St) (H:Hp) (vs:List V) (us:List Value) (Q:St->Hp->Prop),Inv X pins σ H s->Vals vs us->t vs σ H Q ->
   wpAny (model X.prog X.w) X.A (assignInOrder ((assignEach ts X.env).map (·.2)) us) (λ_ s'=>∃σ' H',Inv X pins σ' H' s'/\Q σ' H') X.xe s
section
variable {X:Cx}{pos:Pos}
noncomputable def qE4 (i:Nat):TG:=λv σ H Q=>Q (σ.set i (some v)) H
theorem qDS {i:Nat}{x:Str}(hN:X.N.Nodup) (hi:X.N[i]?=some x) (hx:Loc X.env.scope x) (hf:X.fn x=true∨X.env.scope.names.lookup x=some .local:=by first|exact .inl rfl|exact .inr rfl|assumption):PG X (.Name x pos) (qE4 i):=by
 intro pins s σ H v u Q I r h
 exact wpAny_assign_Name (qFu I hN hi hx r (λs' I'=>⟨_,H,I',h⟩) hf)
noncomputable def qPH:TGs:=λvs σ H Q=>vs=[]/\Q σ H
noncomputable def qJk (t:TG) (u:TGs):TGs:=λvs σ H Q=>∃v r,vs=v::r/\t v σ H fun σ' H'=>u r σ' H' Q
theorem qG6:PGs X [] qPH:=by
 intro pins s σ H vs us Q I r h
 obtain⟨e,h⟩:=h
 subst e
 cases r
 exact assignInOrder_nil ⟨σ,H,I,h⟩
theorem qDR {e:Expr}{es:List Expr}{t:TG}{u:TGs}(h1:PG X e t) (h2:PGs X es u)
  (hs:(assignEach (e::es) X.env).map (·.2)=assign e X.env::(assignEach es X.env).map (·.2):=by rfl):PGs X (e::es) (qJk t u):=by
 intro pins s σ H vs us Q I r h
 obtain⟨v,vr,e1,h⟩:=h
 subst e1
 cases r with
 | cons r rr =>
  rw [hs]
  refine assignInOrder_cons (thn (h1 pins s σ H _ _ _ I r h) λ_ s1 ⟨σ1,H1,I1,q1⟩=>?_)
  exact h2 pins s1 σ1 H1 _ _ Q I1 rr q1
noncomputable def qPG (K:PySem.W.Frag) (n:Nat) (t:TGs):TG:=λv σ H Q=>∃a xs,v=.ref a/\SqT K H a xs/\xs.length=n/\t xs σ H Q
theorem qJU {es:List Expr}{k:Nat}{t:TGs}{n:Nat}(hc:X.calm=true) (h:PGs X es t)
  (hn:(assignEach es X.env).length=n:=by rfl) (hst:(assignEach es X.env).findIdx? (·.1)=none:=by rfl):PG X (.Tuple es k pos) (qPG X.K n t):=by
 intro pins s σ H v u Q I r hw
 obtain⟨a,xs,e1,hq,hl,hw⟩:=hw
 subst e1
 cases r
 obtain⟨its,rv,ht,hz⟩:=I.tuple hq
 refine assign_Tuple_tuple (I.ok.hd hc) ht (by simp [hn,<-hl,rv.length]) hst λh' hx=>?_
 have I1:Inv X pins σ H { s with heap:=h' }:=I.kept (t':=s.toks) λb o e=>hx b o (Nat.ne_of_lt (Heap.lt_size e)) e
 exact h pins _ σ H xs _ Q I1 (by simpa using rv) hw
noncomputable def qP7 (te:TE) (g:TG):TS:=λD σ H=>te σ H λx H1=>g x σ H1 D.nx
theorem qM3 {tg e:Expr}{te:TE}{g:TG}(he:PE X e te) (hg:PG X tg g) (hs:swapsWithSole [tg] e pos.line X.env=pure false:=by rfl) (hw:swappedStores [tg] e X.env=pure none:=by rfl)
  (h1:(assignEach [tg] X.env).map (·.2)=[assign tg X.env]:=by rfl):PS X (.Assign [tg] e pos) (qP7 te g):=by
 intro pins s σ H D I h
 refine wpAny_Assign_stores (thn (he pins s σ H _ I h) λv s1 ⟨x,H1,I1,r1,q1⟩=>?_) hs hw
 rw [h1]
 exact thn (hg pins s1 σ H1 x v _ I1 r1 q1) λ_ s2 q=>q
theorem qM0 {i:Nat}{x:Str}{e:Expr}{te:TE}{pos':Pos}(hN:X.N.Nodup) (hi:X.N[i]?=some x) (hx:Loc X.env.scope x) (he:PE X e te) (hs:swapsWith e (some (.Name x pos')) pos.line X.env=pure false:=by rfl) (hf:X.fn x=true∨X.env.scope.names.lookup x=some .local:=by first|exact .inl rfl|exact .inr rfl|assumption) :
  PS X (.Assign [.Name x pos'] e pos) (qP7 te (qE4 i)):=by
 intro pins s σ H D I h
 refine wpAny_Assign_Name (thn (he pins s σ H _ I h) λv s1 ⟨y,H1,I1,r1,q1⟩=>?_) hs
 exact qFu I1 hN hi hx r1 (λs2 I2=>⟨_,H1,I2,q1⟩) hf
end
section
variable {X:Cx}{pos:Pos}
noncomputable def qMw (c:TT) (tb:TS):TS:=λD σ H=>∃W:Nat->St->Hp->Prop,(∃m,W m σ H)/\∀m σ H,W m σ H ->
 c σ H λb H1=>if b=true then ∃N:St->Hp->Prop,(∀σ' H',N σ' H'->∃m',m'<m/\W m' σ' H')/\tb { D with nx:=N,ct:=N,bk:=D.nx } σ H1 else D.nx σ H1
theorem qIR {c:Expr}{body:List Stmt}{tc:TT}{tb:TS}(hp:PassesOwn (model X.prog X.w) X.A X.env X.xe) (hc:PT X c tc) (hb:PSs X body tb):PS X (.While c body [] pos) (qMw tc tb):=by
 intro pins s σ H D I h
 obtain⟨W,⟨m0,w0⟩,turn⟩:=h
 refine wpAny_While (codeAny_whileLoop (λn s'=>∃σ' H',Inv X pins σ' H' s'/\W n σ' H') ?_ m0 ⟨σ,H,I,w0⟩)
 rintro n s1 ⟨σ1,H1,I1,w1⟩
 refine wpAny_passesOwn hp (thn (hc pins s1 σ1 H1 _ I1 (turn n σ1 H1 w1)) λb s2 ⟨H2,I2,q2⟩=>?_)
 cases b with
 | true =>
  obtain⟨N,hN,q2⟩:=q2
  rw [if_pos rfl]
  refine wpAny_passesOwn hp (thn (hb pins s2 σ1 H2 _ I2 q2) λf s3 q3=>?_)
  cases f with
  | next =>
   obtain⟨σ3,H3,I3,n3⟩:=q3
   obtain⟨m',hm,w3⟩:=hN σ3 H3 n3
   exact⟨m',hm,σ3,H3,I3,w3⟩
  | cont =>
   obtain⟨σ3,H3,I3,n3⟩:=q3
   obtain⟨m',hm,w3⟩:=hN σ3 H3 n3
   exact⟨m',hm,σ3,H3,I3,w3⟩
  | brk=>exact q3
  | ret v=>exact q3
 | false =>
  rw [if_neg Bool.false_ne_true]
  exact wpAny_execs_nil ⟨σ1,H2,I2,q2⟩
end
structure It where
 go:Nat->Hp->Prop
 yld:Nat->Hp->V->Hp->Prop
 stop:Nat->Hp->Prop
noncomputable def qD6 (X:Cx) (pins:List (Addr×Obj)) (H:Hp) (b:Addr):Prop:=
 H b=none/\b≠X.env.locals/\b∉X.fs/\(b∈X.ex∨X.s₀.heap.objs.size<=b)/\(∀x c,X.env.cells.lookup x=some c->c≠b)/\∀p∈X.pn++pins,p.1≠b
theorem Inv.fpOk {X:Cx}{pins:List (Addr×Obj)}{σ:St}{H H':Hp}{s:Shared}{b:Addr}(I:Inv X pins σ H s) (hb:s.heap.objs.size<=b) (hn:H' b=none):qD6 X pins H' b:=by
 refine⟨hn,Nat.ne_of_gt (Nat.lt_of_lt_of_le I.lt hb),I.nofs hb,.inr (Nat.le_trans I.sz hb),λx c e z=>?_,λp hp z=>?_⟩
 ·obtain⟨v,q⟩:=I.cell x c e
  exact absurd (Nat.lt_of_lt_of_le q.lt (by rw [z];exact hb)) (Nat.lt_irrefl _)
 ·exact absurd (Nat.lt_of_lt_of_le (Heap.lt_size (I.pin p hp).1) (by rw [z];exact hb)) (Nat.lt_irrefl _)
structure Turn (P:Program) (w:World) (K:PySem.W.Frag) (tg:Expr) (J:It) (fp:List Addr) (it:Addr) (tn:Nat->Heap->Prop):Prop where
 mem:it∈fp
 obj:∀i h,tn i h->∀b∈fp,∃o,h.get? b=some o/\∀v,o.data≠.cell v
 keep:∀i h h',tn i h->(∀b∈fp,∀o,h.get? b=some o->h'.get? b=some o)->tn i h'
 item:∀(X:Cx),X.prog=P->X.w=w->X.K=K->X.calm=true->∀(i:Nat) (pins:List (Addr×Obj)) (s:Shared) (σ:St) (H:Hp) (E:Value->Shared->Prop),Inv X pins σ H s->(∀b∈fp,qD6 X pins H b)->tn i s.heap->J.go i H ->
  wpAny (model P w) X.A (pyNext (.ref it)) (λr s1=>∃u,r=some u /\
   wpAny (model P w) X.A (letOwnedTupleGo tg (.ref it) u) (λ_ s2=>∃x H',Inv X pins σ H' s2/\RelV x u/\J.yld i H x H'/\tn (i+1) s2.heap/\∀b∈fp,H' b=none) E s1) E s
 done:∀(X:Cx),X.prog=P->X.w=w->X.K=K->X.calm=true->∀(i:Nat) (pins:List (Addr×Obj)) (s:Shared) (σ:St) (H:Hp) (E:Value->Shared->Prop),Inv X pins σ H s->(∀b∈fp,qD6 X pins H b)->tn i s.heap->J.stop i H ->
  wpAny (model P w) X.A (pyNext (.ref it)) (λr s1=>r=none/\Inv X pins σ H s1) E s
 self:∀(A:Around) (i:Nat) (s:Shared) (Q:Value->Shared->Prop) (E:Value->Shared->Prop),tn i s.heap->Q (.ref it) s->wpAny (model P w) A (pyIter (.ref it)) Q E s
noncomputable abbrev TI:=St->Hp->(It->Hp->Prop)->Prop
noncomputable def PIE (X:Cx) (pins:List (Addr×Obj)) (σ:St) (tg:Expr) (R:It->Hp->Prop) (itv:Value) (s2:Shared):Prop:=
 ∃(it:Addr) (fp:List Addr) (tn:Nat->Heap->Prop) (J:It) (H':Hp),itv=.ref it/\Inv X pins σ H' s2/\Turn X.prog X.w X.K tg J fp it tn/\tn 0 s2.heap/\(∀b∈fp,qD6 X pins H' b)/\R J H'
noncomputable def PI (X:Cx) (tg iter:Expr) (wi:TI):Prop:=
 ∀(pins:List (Addr×Obj)) (s:Shared) (σ:St) (H:Hp) (R:It->Hp->Prop),Inv X pins σ H s->wi σ H R ->
   wpAny (model X.prog X.w) X.A (eval iter X.env) (λv s1=>wpAny (model X.prog X.w) X.A (pyIter v) (PIE X pins σ tg R) X.xe s1) X.xe s
theorem qHw {M:Model}{A:Around}{E:Value->Shared->Prop}{s:Shared}{tg:Expr}{it:Addr}{u:Value}{o:Obj}{n:String}{vs:Array Value}{Q:Unit->Shared->Prop}(ho:s.heap.get? it=some o) (hc:o.cls=.type n) (hd:o.data=.fields vs)
  (hn:["enumerate","zip","dict_itemiterator","dict_reverseitemiterator","odict_iterator","itertools.zip_longest","itertools.pairwise"].contains n=false) (hQ:Q () s):wpAny M A (letOwnedTupleGo tg (.ref it) u) Q E s:=by
 unfold letOwnedTupleGo
 cases tg<;>first
  | exact wpAny_pure hQ
  | (cases u<;>first
    | exact wpAny_pure hQ
    | (refine wpAny_bind (wpAny_load ho ?_)
       rw [hc,hd]
       show wpAny M A (if (["enumerate","zip","dict_itemiterator","dict_reverseitemiterator","odict_iterator","itertools.zip_longest","itertools.pairwise"].contains n&&vs[0]? == some (rawInt _))=true then _ else _) Q E s
       rw [if_neg (by intro h;rw [hn,Bool.false_and] at h;cases h)]
       exact wpAny_pure hQ))
noncomputable def Itl (K:PySem.W.Frag) (a:Addr):It:=
 ⟨λi H=>∃xs x,SqL K H a xs/\xs[i]?=some x,λi H x H'=>H'=H/\∀xs,SqL K H a xs->xs[i]?=some x,λi H=>∃xs,SqL K H a xs/\xs.length<=i⟩
noncomputable def Itt (K:PySem.W.Frag) (a:Addr):It:=
 ⟨λi H=>∃xs x,SqT K H a xs/\xs[i]?=some x,λi H x H'=>H'=H/\∀xs,SqT K H a xs->xs[i]?=some x,λi H=>∃xs,SqT K H a xs/\xs.length<=i⟩
noncomputable def Itr (lo:Int) (n:Nat):It:=⟨λi _=>i<n,λi H x H'=>H'=H/\x=.int (lo+i),λi _=>n<=i⟩
theorem qGw {P:Program}{w:World}{K:PySem.W.Frag}{tg:Expr}(a it:Addr):Turn P w K tg (Itl K a) [it] it (λi h=>h.IsListIter it a i) where
 mem:=by simp
 obj:=λi h st b hb=>by
  have e:b=it:=by simpa using hb
  subst e
  obtain⟨o,e,c,d⟩:=st
  exact⟨o,e,λv z=>by rw [d] at z;cases z⟩
 keep:=λi h h' st k=>st.at λo e=>k it (by simp) o e
 item:=by
  intro X hP hw hK hc i pins s σ H E I hf st hg
  subst hP hw hK
  obtain⟨xs,x,hq,hx⟩:=hg
  obtain⟨its,rv,p,hz⟩:=I.list hq
  obtain⟨u,hu,ru⟩:=rv.get hx
  obtain⟨f0,f1,f2,f3,f4,f5⟩:=hf it (by simp)
  refine wpAny_pyNext_list_item st p.isList (x:=u) (by simpa using hu) λh' st' sb=>?_
  have I1:Inv X pins σ H { s with heap:=h' }:=I.turned (t':=s.toks) (λb o hb e=>(sb.2 b hb).trans e) f0 f1 f3 f4 f5
  obtain⟨o,e,c,d⟩:=id st'
  exact⟨u,rfl,qHw (s:={ s with heap:=h' }) e c d (by decide) ⟨x,H,I1,ru,⟨rfl,λys hy=>by rw [I.list_inj hy hq];exact hx⟩,st',λb hb=>(hf b hb).1⟩⟩
 done:=by
  intro X hP hw hK hc i pins s σ H E I hf st hg
  subst hP hw hK
  obtain⟨xs,hq,hx⟩:=hg
  obtain⟨its,rv,p,hz⟩:=I.list hq
  obtain⟨f0,f1,f2,f3,f4,f5⟩:=hf it (by simp)
  have hl:=rv.length
  exact wpAny_pyNext_list_end (I.ok.hd hc) st p.isList (by simp;omega) λh' eb=>⟨rfl,I.turned (t':=s.toks) (λb o hb e=>eb b o hb e) f0 f1 f3 f4 f5⟩
 self:=λ_ _ _ _ _ st h=>wpAny_pyIter_listiter st h
theorem qF4 {P:Program}{w:World}{K:PySem.W.Frag}{tg:Expr}(a it:Addr):Turn P w K tg (Itt K a) [it] it (λi h=>h.IsTupleIter it a i) where
 mem:=by simp
 obj:=λi h st b hb=>by
  have e:b=it:=by simpa using hb
  subst e
  obtain⟨o,e,c,d⟩:=st
  exact⟨o,e,λv z=>by rw [d] at z;cases z⟩
 keep:=λi h h' st k=>st.at λo e=>k it (by simp) o e
 item:=by
  intro X hP hw hK hc i pins s σ H E I hf st hg
  subst hP hw hK
  obtain⟨xs,x,hq,hx⟩:=hg
  obtain⟨its,rv,p,hz⟩:=I.tuple hq
  obtain⟨u,hu,ru⟩:=rv.get hx
  obtain⟨f0,f1,f2,f3,f4,f5⟩:=hf it (by simp)
  refine wpAny_pyNext_tuple_item st (show s.heap.IsTuple a its.toArray from p) (x:=u) (by simpa using hu) λh' st' sb=>?_
  have I1:Inv X pins σ H { s with heap:=h' }:=I.turned (t':=s.toks) (λb o hb e=>(sb.2 b hb).trans e) f0 f1 f3 f4 f5
  obtain⟨o,e,c,d⟩:=id st'
  exact⟨u,rfl,qHw (s:={ s with heap:=h' }) e c d (by decide) ⟨x,H,I1,ru,⟨rfl,λys hy=>by rw [I.tuple_inj hy hq];exact hx⟩,st',λb hb=>(hf b hb).1⟩⟩
 done:=by
  intro X hP hw hK hc i pins s σ H E I hf st hg
  subst hP hw hK
  obtain⟨xs,hq,hx⟩:=hg
  obtain⟨its,rv,p,hz⟩:=I.tuple hq
  obtain⟨f0,f1,f2,f3,f4,f5⟩:=hf it (by simp)
  have hl:=rv.length
  exact wpAny_pyNext_tuple_end (I.ok.hd hc) st (show s.heap.IsTuple a its.toArray from p) (by simp;omega) λh' eb=>⟨rfl,I.turned (t':=s.toks) (λb o hb e=>eb b o hb e) f0 f1 f3 f4 f5⟩
 self:=λ_ _ _ _ _ st h=>wpAny_pyIter_tupleiter st h
theorem qF5 {P:Program}{w:World}{K:PySem.W.Frag}{tg:Expr}(it:Addr) (lo:Int) (n:Nat):Turn P w K tg (Itr lo n) [it] it (λi h=>IsRangeIter h it (lo+(i:Nat) * 1) ((n:Int) - (i:Nat)) 1) where
 mem:=by simp
 obj:=λi h st b hb=>by
  have e:b=it:=by simpa using hb
  subst e
  exact⟨_,st,λv z=>by
   have z':Data.fields _=Data.cell v:=z
   cases z'⟩
 keep:=λi h h' st k=>k it (by simp) _ st
 item:=by
  intro X hP hw hK hc i pins s σ H E I hf st hg
  subst hP hw hK
  obtain⟨f0,f1,f2,f3,f4,f5⟩:=hf it (by simp)
  have W:=Walks.range (prog:=X.prog) (w:=X.w) (I.ok.hd hc) it lo 1 n
  refine W.item i s _ _ hg st λv h' tk hv st' kk=>?_
  obtain⟨t,rfl⟩:=hv
  have I1:Inv X pins σ H { s with heap:=h',toks:=tk }:=I.turned (λb o hb e=>kk b o (by simpa using hb) e) f0 f1 f3 f4 f5
  refine⟨_,rfl,qHw (s:={ s with heap:=h',toks:=tk }) (n:="range_iterator") st' rfl rfl (by decide) ⟨.int (lo+i),H,I1,⟨t,?_⟩,⟨rfl,rfl⟩,st',λb hb=>(hf b hb).1⟩⟩
  rw [Int.mul_one]
 done:=by
  intro X hP hw hK hc i pins s σ H E I hf st hg
  subst hP hw hK
  obtain⟨f0,f1,f2,f3,f4,f5⟩:=hf it (by simp)
  exact wpAny_pyNext_range_end (I.ok.hd hc) st (by have:n<=i:=hg;omega) λh' eb=>⟨rfl,I.turned (t':=s.toks) (λb o hb e=>eb b o hb e) f0 f1 f3 f4 f5⟩
 self:=λ_ _ _ _ _ st h=>wpAny_pyIter_rangeiter st h
end L2
namespace L2
open PySem PySem.Spec PyProof.Rows
section
variable {X:Cx}{tg:Expr}
theorem qIP {pins:List (Addr×Obj)}{σ:St}{H:Hp}{s:Shared}{R:It->Hp->Prop}{E:Value->Shared->Prop}{lo hi:Int}{t u v:Tok}{tk:Nat}(I:Inv X pins σ H s) (h1:-(2^62)<=lo) (h2:lo<2^62) (h3:-(2^62)<=hi) (h4:hi<2^62)
  (q:R (Itr lo (hi - lo).toNat) H):wpAny (model X.prog X.w) X.A (pyIter (.ref s.heap.objs.size)) (PIE X pins σ tg R) E { s with heap:=s.heap.push { cls:=.type "range",data:=.fields #[.int lo t,.int hi u,.int 1 v] },toks:=tk }:=by
 refine wpAny_pyIter_range (IsRange.new ..) (small_one h1 h2 h3 h4) ?_
 have I1:Inv X pins σ H { s with heap:=s.heap.push { cls:=.type "range",data:=.fields #[.int lo t,.int hi u,.int 1 v] },toks:=tk }:=I.kept λb o e=>Heap.get?_push_of_some _ e
 refine⟨(s.heap.push { cls:=.type "range",data:=.fields #[.int lo t,.int hi u,.int 1 v] }).objs.size,[(s.heap.push { cls:=.type "range",data:=.fields #[.int lo t,.int hi u,.int 1 v] }).objs.size],_,_,H,rfl,
  I1.kept (t':=tk) λb o e=>Heap.get?_push_of_some _ e,qF5 _ lo (hi - lo).toNat,?_,λb hb=>?_,q⟩
 ·have e1:lo+((0:Nat):Int) * 1=lo:=by simp
  have e2:(((hi - lo).toNat:Nat):Int) - ((0:Nat):Int)=Builtin.Range.rangeSize lo hi 1:=by rw [rangeSize_one];split<;>omega
  show IsRangeIter _ _ (lo+((0:Nat):Int) * 1) ((((hi - lo).toNat:Nat):Int) - ((0:Nat):Int)) 1
  rw [e1,e2]
  exact Heap.get?_push_size _ rfl
 ·have e:b=(s.heap.push { cls:=.type "range",data:=.fields #[.int lo t,.int hi u,.int 1 v] }).objs.size:=by simpa using hb
  subst e
  exact I1.fpOk (Nat.le_refl _) (I1.hok.fresh (Nat.le_refl _))
noncomputable def qPE (ta:TA):TI:=fun σ H R=>ta σ H λvs H1=>∃j:Int,vs=[.int j]/\-(2^62)<=j/\j<2^62/\R (Itr 0 j.toNat) H1
theorem qG5 {a:Expr}{ta:TA}{p pos:Pos}(hg:Gl X "range") (hm:X.mg "range"=none) (ha:PA X [a] ta) (hs:starEach [a] X.env=[(false,eval a X.env)]:=by rfl):PI X tg (.Call (.Name "range" p) [a] [] pos) (qPE ta):=by
 intro pins s σ H R I h
 refine Call_ (qDc I hg hm boot_range (PyProof.Rows.callWith_type1 (thn (ha pos pins s σ H _ I h) λus s1 ⟨vs,H1,I1,r1,q1⟩=>?_) hs rfl))
 obtain⟨j,e,q1,q2,q⟩:=q1
 subst e
 cases r1 with
 | cons r rr =>
  cases rr
  obtain⟨t,rfl⟩:=r
  exact call_range_1 (qIP I1 (by omega) (by omega) q1 q2 (by simpa using q))
noncomputable def qQA (wi:TI) (g:TG) (tb:TS):TS:=λD σ H=>wi σ H λJ H1=>∃W:Nat->Nat->St->Hp->Prop,(∃m,W 0 m σ H1)/\∀i m σ H,W i m σ H ->
 (J.stop i H/\D.nx σ H)∨(J.go i H/\∃N:St->Hp->Prop,(∀σ' H',N σ' H'->∃m',m'<m/\W (i+1) m' σ' H')/\∀x H',J.yld i H x H'->g x σ H' fun σ2 H2=>tb { D with nx:=N,ct:=N,bk:=D.nx } σ2 H2)
noncomputable def qFA (fp:List Addr) (h:Heap):List (Addr×Obj):=fp.filterMap λb=>(h.get? b).map λo=>(b,o)
theorem qA3 {fp:List Addr}{h:Heap}{b:Addr}{o:Obj}(hb:b∈fp) (e:h.get? b=some o):(b,o)∈qFA fp h:=List.mem_filterMap.mpr ⟨b,hb,by rw [e];rfl⟩
theorem qHd {fp:List Addr}{h:Heap}{p:Addr×Obj}(hp:p∈qFA fp h):p.1∈fp/\h.get? p.1=some p.2:=by
 obtain⟨b,hb,e⟩:=List.mem_filterMap.mp hp
 cases q:h.get? b with
 | none=>rw [q] at e;cases e
 | some o =>
  rw [q] at e
  have e':(b,o)=p:=Option.some.inj e
  subst e'
  exact⟨hb,q⟩
theorem Inv.pinned {pins:List (Addr×Obj)}{σ:St}{H:Hp}{s:Shared}{fp:List Addr}(I:Inv X pins σ H s) (hf:∀b∈fp,qD6 X pins H b) (ho:∀b∈fp,∃o,s.heap.get? b=some o/\∀v,o.data≠.cell v):Inv X (pins++qFA fp s.heap) σ H s:=
 I.pins_of λp hp=>(List.mem_append.mp hp).elim (λz=>I.pin p (List.mem_append_right _ z)) λz=>by
  obtain⟨hb,e⟩:=qHd z
  obtain⟨f0,f1,f2,_⟩:=hf p.1 hb
  obtain⟨o,e',d⟩:=ho p.1 hb
  rw [e] at e';cases e'
  exact⟨e,f0,f1,f2,d⟩
theorem Inv.unpinned {pins pl:List (Addr×Obj)}{σ:St}{H:Hp}{s:Shared}(I:Inv X (pins++pl) σ H s):Inv X pins σ H s:=I.pins_of λp hp=>I.pin p (List.mem_append_right _ (List.mem_append_left _ hp))
theorem qM1 {iter:Expr}{body:List Stmt}{wi:TI}{g:TG}{tb:TS}{pos:Pos}(hp:PassesOwn (model X.prog X.w) X.A X.env X.xe) (hc:X.calm=true) (hi:PI X tg iter wi) (hg:PG X tg g) (hb:PSs X body tb)
  (hs:∀x,foldedSetIterable iter X.env x=pure x:=by intro _;rfl):PS X (.For tg iter body [] pos) (qQA wi g tb):=by
 intro pins s σ H D I h
 refine wpAny_For (thn (hi pins s σ H _ I h) λv s1 h1=>thn h1 λitv s2 h2=>?_) hs
 obtain⟨it,fp,tn,J,H2,e,I2,T,st2,f2,W,⟨m0,w0⟩,turn⟩:=h2
 subst e
 have stat:∀{H':Hp},(∀b∈fp,H' b=none)->∀b∈fp,qD6 X pins H' b:=λhn b hb=>⟨hn b hb,(f2 b hb).2⟩
 refine codeAny_forLoop_any (λn s'=>∃i σ' H',Inv X pins σ' H' s'/\tn i s'.heap/\(∀b∈fp,H' b=none)/\W i n σ' H') ?_ m0 ⟨0,σ,H2,I2,st2,λb hb=>(f2 b hb).1,w0⟩
 rintro n s3 ⟨i,σ3,H3,I3,st3,fr3,w3⟩
 rcases turn i n σ3 H3 w3 with ⟨stop,qn⟩|⟨go,N,hN,step⟩
 ·refine wpAny_passesOwn hp (thn (T.done X rfl rfl rfl hc i pins s3 σ3 H3 X.xe I3 (stat fr3) st3 stop) λr s4 ⟨hr,I4⟩=>?_)
  subst hr
  exact wpAny_execs_nil ⟨σ3,H3,I4,qn⟩
 ·refine wpAny_passesOwn hp (thn (T.item X rfl rfl rfl hc i pins s3 σ3 H3 X.xe I3 (stat fr3) st3 go) λr s4 ⟨u,hr,h4⟩=>?_)
  subst hr
  refine wpAny_passesOwn hp (thn h4 λ_ s5 ⟨x,H5,I5,r5,y5,st5,fr5⟩=>?_)
  have I5':=I5.pinned (stat fr5) (T.obj _ _ st5)
  refine wpAny_passesOwn hp (thn (hg _ s5 σ3 H5 x u _ I5' r5 (step x H5 y5)) λ_ s6 ⟨σ6,H6,I6,q6⟩=>?_)
  refine wpAny_passesOwn hp (thn (hb _ s6 σ6 H6 _ I6 q6) λf s7 q7=>?_)
  have again:∀{σ7:St} {H7:Hp},Inv X (pins++qFA fp s5.heap) σ7 H7 s7->N σ7 H7->∃m,m<n/\∃i σ' H',Inv X pins σ' H' s7/\tn i s7.heap/\(∀b∈fp,H' b=none)/\W i m σ' H':=λ{σ7 H7} I7 n7=>by
   obtain⟨m',hm,w7⟩:=hN σ7 H7 n7
   refine⟨m',hm,i+1,σ7,H7,I7.unpinned,T.keep _ _ _ st5 λb hb o e=>(I7.pin (b,o) (List.mem_append_right _ (List.mem_append_right _ (qA3 hb e)))).1,λb hb=>?_,w7⟩
   obtain⟨o,e,d⟩:=T.obj _ _ st5 b hb
   exact (I7.pin (b,o) (List.mem_append_right _ (List.mem_append_right _ (qA3 hb e)))).2.1
  cases f with
  | next=>obtain⟨σ7,H7,I7,n7⟩:=q7;exact again I7 n7
  | cont=>obtain⟨σ7,H7,I7,n7⟩:=q7;exact again I7 n7
  | brk=>obtain⟨σ7,H7,I7,q7⟩:=q7;exact⟨σ7,H7,I7.unpinned,q7⟩
  | ret v=>obtain⟨x7,σ7,H7,I7,r7,q7⟩:=q7;exact⟨x7,σ7,H7,I7.unpinned,r7,q7⟩
end
end L2
namespace L2
open PySem PySem.Spec PyProof.Rows
noncomputable abbrev R2:=V->V->Hp->VK->Prop
noncomputable def OpR (X:Cx) (f:Value->Value->Sem Value) (r:R2):Prop:=
 ∀(pins:List (Addr×Obj)) (s:Shared) (σ:St) (H:Hp) (x y:V) (v u:Value) (Q:VK),Inv X pins σ H s->RelV x v->RelV y u->r x y H Q ->
   wpAny (model X.prog X.w) X.A (f v u) (EP X pins σ Q) X.xe s
noncomputable def UnR (X:Cx) (f:Value->Sem Value) (r:V->Hp->VK->Prop):Prop:=
 ∀(pins:List (Addr×Obj)) (s:Shared) (σ:St) (H:Hp) (x:V) (v:Value) (Q:VK),Inv X pins σ H s->RelV x v->r x H Q ->
   wpAny (model X.prog X.w) X.A (f v) (EP X pins σ Q) X.xe s
noncomputable def CallR (X:Cx) (f:Value) (r:List V->Hp->VK->Prop):Prop:=
 ∀(pins:List (Addr×Obj)) (s:Shared) (σ:St) (H:Hp) (xs:List V) (us:List Value) (Q:VK),Inv X pins σ H s->Vals xs us->r xs H Q ->
   wpAny (model X.prog X.w) X.A (call f us) (EP X pins σ Q) X.xe s
noncomputable def tOp (r:R2) (ta tb:TE):TE:=fun σ H Q=>ta σ H λx H1=>tb σ H1 λy H2=>r x y H2 Q
noncomputable def tUn (r:V->Hp->VK->Prop) (ta:TE):TE:=fun σ H Q=>ta σ H λx H1=>r x H1 Q
noncomputable def rI (C:Int->Int->Prop) (g:Int->Int->V):R2:=λx y H Q=>∃i j,x=.int i/\y=.int j/\C i j/\Q (g i j) H
noncomputable def rI0 (g:Int->Int->V):R2:=λx y H Q=>∃i j,x=.int i/\y=.int j/\Q (g i j) H
noncomputable def rU (g:Int->V):V->Hp->VK->Prop:=λx H Q=>∃i,x=.int i/\Q (g i) H
section
variable {X:Cx}{a b c:Expr}{ta tb tc:TE}{pos:Pos}
theorem qPQ (ha:PE X a ta) (hb:PE X b tb) {pins:List (Addr×Obj)}{s:Shared}{σ:St}{H:Hp}{R:V->V->Hp->Prop}(I:Inv X pins σ H s)
  (h:ta σ H λx H1=>tb σ H1 λy H2=>R x y H2) {Q:Value->Shared->Prop}{f:Value->Value->Sem Value}
  (hf:∀v u s2 x y H2,Inv X pins σ H2 s2->RelV x v->RelV y u->R x y H2->wpAny (model X.prog X.w) X.A (f v u) Q X.xe s2) :
  wpAny (model X.prog X.w) X.A (eval a X.env) (λv s₁=>wpAny (model X.prog X.w) X.A (eval b X.env) (λu s₂=>wpAny (model X.prog X.w) X.A (f v u) Q X.xe s₂) X.xe s₁) X.xe s:=by
 refine thn (ha pins s σ H _ I h) λv s1 ⟨x,H1,I1,r1,q1⟩=>?_
 refine thn (hb pins s1 σ H1 _ I1 q1) λu s2 ⟨y,H2,I2,r2,q2⟩=>?_
 exact hf v u s2 x y H2 I2 r1 r2 q2
theorem qPf {op:Operator}{r:R2}(ho:OpR X (binaryOp op) r) (ha:PE X a ta) (hb:PE X b tb):PE X (.BinOp a op b pos) (tOp r ta tb):=by
 intro pins s σ H Q I h
 exact wpAny_BinOp (qPQ ha hb I h λv u s2 x y H2 I2 rx ry q=>ho pins s2 σ H2 x y v u Q I2 rx ry q)
theorem qPd {op:UnaryOp}{r:V->Hp->VK->Prop}(ho:UnR X (unaryOp op) r) (ha:PE X a ta):PE X (.UnaryOp op a pos) (tUn r ta):=by
 intro pins s σ H Q I h
 exact UnaryOp_ (thn (ha pins s σ H _ I h) λv s1 ⟨x,H1,I1,r1,q1⟩=>ho pins s1 σ H1 x v Q I1 r1 q1)
theorem opI {f:Value->Value->Sem Value}{C:Int->Int->Prop}{g:Int->Int->Int}
  (rule:∀(i j:Int) (t u:Tok) (s:Shared) (Q:Value->Shared->Prop) (E:Value->Shared->Prop),C i j->Q (.int (g i j) s.toks) { s with toks:=s.toks+1 }->wpAny (model X.prog X.w) X.A (f (.int i t) (.int j u)) Q E s) :
  OpR X f (rI C λi j=>.int (g i j)):=by
 intro pins s σ H x y v u Q I rx ry h
 obtain⟨i,j,rfl,rfl,hc,q⟩:=h
 obtain⟨t,rfl⟩:=rx
 obtain⟨t',rfl⟩:=ry
 exact rule i j t t' s _ _ hc ⟨.int (g i j),H,I.tok _,⟨_,rfl⟩,q⟩
theorem qP8 {f:Value->Value->Sem Value}{g:Int->Int->Int}
  (rule:∀(i j:Int) (t u:Tok) (s:Shared) (Q:Value->Shared->Prop) (E:Value->Shared->Prop),Q (.int (g i j) s.toks) { s with toks:=s.toks+1 }->wpAny (model X.prog X.w) X.A (f (.int i t) (.int j u)) Q E s) :
  OpR X f (rI0 λi j=>.int (g i j)):=by
 intro pins s σ H x y v u Q I rx ry h
 obtain⟨i,j,rfl,rfl,q⟩:=h
 obtain⟨t,rfl⟩:=rx
 obtain⟨t',rfl⟩:=ry
 exact rule i j t t' s _ _ ⟨.int (g i j),H,I.tok _,⟨_,rfl⟩,q⟩
theorem qOF {f:Value->Value->Sem Value}{g:Int->Int->Bool}
  (rule:∀(i j:Int) (t u:Tok) (s:Shared) (Q:Value->Shared->Prop) (E:Value->Shared->Prop),Q (.bool (g i j)) s->wpAny (model X.prog X.w) X.A (f (.int i t) (.int j u)) Q E s) :
  OpR X f (rI0 λi j=>.bl (g i j)):=by
 intro pins s σ H x y v u Q I rx ry h
 obtain⟨i,j,rfl,rfl,q⟩:=h
 obtain⟨t,rfl⟩:=rx
 obtain⟨t',rfl⟩:=ry
 exact rule i j t t' s _ _ ⟨.bl (g i j),H,I,rfl,q⟩
noncomputable def qQ8 (i j:Int):Prop:=0<=j/\j<=1000000/\i.natAbs<2^64
theorem qF3 (k:Nat):(0:Int)<=2^k:=by
 rw [two_pow_cast]
 exact Int.natCast_nonneg _
theorem op_add:OpR X (binaryOp .Add) (rI0 λi j=>.int (i+j)):=qP8 λ_ _ _ _ _ _ _ q=>add_int q
theorem qNl:OpR X (binaryOp .Sub) (rI0 λi j=>.int (i - j)):=qP8 λ_ _ _ _ _ _ _ q=>sub_int q
theorem qNn:OpR X (binaryOp .LShift) (rI qQ8 λi j=>.int (i * 2^j.toNat)):=opI λ_ _ _ _ _ _ _ hc q=>lshift_int_small hc.1 hc.2.1 hc.2.2 q
theorem qNm:OpR X (binaryOp .RShift) (rI (λ_ j=>0<=j) λi j=>.int (i / 2^j.toNat)):=opI λi j _ _ _ _ _ hc q =>
 rshift_int hc (by rw [Int.fdiv_eq_ediv_of_nonneg i (qF3 _)];exact q)
theorem unI {f:Value->Sem Value}{g:Int->Int}
  (rule:∀(i:Int) (t:Tok) (s:Shared) (Q:Value->Shared->Prop) (E:Value->Shared->Prop),Q (.int (g i) s.toks) { s with toks:=s.toks+1 }->wpAny (model X.prog X.w) X.A (f (.int i t)) Q E s) :
  UnR X f (rU λi=>.int (g i)):=by
 intro pins s σ H x v Q I rx h
 obtain⟨i,rfl,q⟩:=h
 obtain⟨t,rfl⟩:=rx
 exact rule i t s _ _ ⟨.int (g i),H,I.tok _,⟨_,rfl⟩,q⟩
theorem qMj:UnR X (unaryOp .USub) (rU λi=>.int (-i)):=unI λ_ _ _ _ _ q=>neg_int q
end
section
variable {X:Cx}{a b c:Expr}{ta tb tc:TE}{pos:Pos}
theorem qPm:OpR X (compareOp .Lt) (rI0 λi j=>.bl (decide (i<j))):=qOF λ_ _ _ _ _ _ _ q=>lt_int q
theorem qPn:OpR X (compareOp .LtE) (rI0 λi j=>.bl (decide (i<=j))):=qOF λ_ _ _ _ _ _ _ q=>le_int q
theorem qPo:OpR X (compareOp .Gt) (rI0 λi j=>.bl (decide (j<i))):=qOF λ_ _ _ _ _ _ _ q=>gt_int q
theorem qPp:OpR X (compareOp .GtE) (rI0 λi j=>.bl (decide (j<=i))):=qOF λ_ _ _ _ _ _ _ q=>ge_int q
theorem OpR.or {f:Value->Value->Sem Value}{r r':R2}(h:OpR X f r) (h':OpR X f r'):OpR X f (λx y H Q=>r x y H Q∨r' x y H Q):=by
 intro pins s σ H x y v u Q I rx ry q
 rcases q with q|q
 ·exact h pins s σ H x y v u Q I rx ry q
 ·exact h' pins s σ H x y v u Q I rx ry q
theorem qNv (b:Expr) {op:CmpOp}(h:op≠.In:=by decide) (h2:op≠.NotIn:=by decide):behindInMarks op b=false:=by
 have e1:(op == CmpOp.In)=false:=by cases op<;>first|rfl|exact absurd rfl h
 have e2:(op == CmpOp.NotIn)=false:=by cases op<;>first|rfl|exact absurd rfl h2
 cases b<;>simp [behindInMarks,e1,e2]
theorem qEX {op:CmpOp}{r:R2}(ho:OpR X (compareOp op) r) (ha:PE X a ta) (hb:PE X b tb) (hm:behindInMarks op b=false):PE X (.Compare a [op] [b] pos) (tOp r ta tb):=by
 intro pins s σ H Q I h
 exact wpAny_Compare1 (qPQ ha hb I h λv u s2 x y H2 I2 rx ry q=>ho pins s2 σ H2 x y v u Q I2 rx ry q) hm
noncomputable def qOU (t:TE):TT:=fun σ H Q=>t σ H λx H'=>∃k,x=.bl k/\Q k H'
theorem qEV {op:CmpOp}{r:R2}(ho:OpR X (compareOp op) r) (ha:PE X a ta) (hb:PE X b tb) (hm:behindInMarks op b=false):PT X (.Compare a [op] [b] pos) (qOU (tOp r ta tb)):=by
 intro pins s σ H Q I h
 refine wpAny_isTrue_Compare1 (thn (ha pins s σ H _ I h) λv s1 ⟨x,H1,I1,r1,q1⟩=>thn (hb pins s1 σ H1 _ I1 q1) λu s2 ⟨y,H2,I2,r2,q2⟩ =>
  thn (ho pins s2 σ H2 x y v u _ I2 r1 r2 q2) λc s3 ⟨z,H3,I3,r3,k,e,q3⟩=>?_) hm
 subst e
 cases r3
 exact wpAny_truthy_bool ⟨H3,I3,q3⟩
theorem qHk:(sizeLine:Nat)<2^63:=by rw [sizeLine_eq];decide
theorem qGe:OpR X (binaryOp .Add) (λx y H Q=>∃i j,x=.str i/\y=.str j/\i.length+j.length<=sizeLine/\Q (.str (i++j)) H):=by
 intro pins s σ H x y v u Q I rx ry h
 obtain⟨i,j,rfl,rfl,hz,q⟩:=h
 obtain⟨t,rfl⟩:=rx
 obtain⟨t',rfl⟩:=ry
 exact add_str (λt' tk=>⟨.str (i++j),H,I.tok _,⟨_,rfl⟩,q⟩) hz
theorem qDH {x:V}{us:List Value}(r:Vals [x] us):∃u,us=[u]/\RelV x u:=by
 cases r with
 | cons r1 r2=>cases r2;exact⟨_,rfl,r1⟩
theorem qKl {x y:V}{us:List Value}(r:Vals [x,y] us):∃u w',us=[u,w']/\RelV x u/\RelV y w':=by
 cases r with
 | cons r1 r2 =>
  cases r2 with
  | cons r3 r4=>cases r4;exact⟨_,_,rfl,r1,r3⟩
theorem qH0 (hc:X.calm=true):CallR X (.builtin "max") (λxs H Q=>∃i j,xs=[.int i,.int j]/\Q (.int (if j > i then j else i)) H):=by
 intro pins s σ H xs us Q I r h
 obtain⟨i,j,rfl,q⟩:=h
 obtain⟨u,w',rfl,⟨t,rfl⟩,⟨t',rfl⟩⟩:=qKl r
 refine max_two_ints (I.ok.hd hc) λh' tk k=>⟨_,H,I.kept k,?_,q⟩
 by_cases hj:j > i
 ·rw [if_pos hj,if_pos hj];exact⟨_,rfl⟩
 ·rw [if_neg hj,if_neg hj];exact⟨_,rfl⟩
theorem qHX (hc:X.calm=true):CallR X (.builtin "min") (λxs H Q=>∃i j,xs=[.int i,.int j]/\Q (.int (if j<i then j else i)) H):=by
 intro pins s σ H xs us Q I r h
 obtain⟨i,j,rfl,q⟩:=h
 obtain⟨u,w',rfl,⟨t,rfl⟩,⟨t',rfl⟩⟩:=qKl r
 refine min_two_ints (I.ok.hd hc) λh' tk k=>⟨_,H,I.kept k,?_,q⟩
 by_cases hj:j<i
 ·rw [if_pos hj,if_pos hj];exact⟨_,rfl⟩
 ·rw [if_neg hj,if_neg hj];exact⟨_,rfl⟩
theorem qH3:CallR X (.type "int") (λxs H Q=>(∃i,xs=[.int i]/\Q (.int i) H)∨∃k,xs=[.bl k]/\Q (.int (if k then 1 else 0)) H):=by
 intro pins s σ H xs us Q I r h
 rcases h with ⟨i,rfl,q⟩|⟨k,rfl,q⟩
 ·obtain⟨u,rfl,t,rfl⟩:=qDH r
  exact call_int_int ⟨.int i,H,I,⟨_,rfl⟩,q⟩
 ·obtain⟨u,rfl,r1⟩:=qDH r
  cases r1
  exact call_int_bool ⟨.int (if k then 1 else 0),H,I.tok _,⟨_,rfl⟩,q⟩
end
end L2
namespace L2
open PySem PySem.Spec PyProof.Rows
structure ObjM (h:Heap) (x dx C:Addr) (mA:Str->Option Value):Prop where
 obj:h.get? x=some (PySem.W.instObj C dx)
 ns:h.Ns1 dx mA
 ne:dx≠x
theorem qHi {h:Heap}{dx:Addr}{mA:Str->Option Value}(n:h.Ns1 dx mA):∃od,h.get? dx=some od/\∀name,PySem.W.lookIn name od=some (mA name):=by
 obtain⟨o,es,ep,ho,hd,hk,_,hm⟩:=n
 refine⟨o,ho,λname=>?_⟩
 have e:=hm name
 unfold nsFind findBy at e
 rw [<-Array.find?_toList] at e
 unfold PySem.W.lookIn
 rw [hd]
 dsimp only
 split
 ·rename_i y q
  rw [q] at e
  exact congrArg some e
 ·rename_i q
  rw [q] at e
  have a:es.toList.any (·.refKey)=false:=by
   rw [List.any_eq_false]
   intro y hy
   obtain⟨z,t,hkey⟩:=hk y (Array.mem_toList_iff.mp hy)
   simp [DictEntry.refKey,hkey]
  have a':¬es.toList.any (·.refKey)=true:=by rw [a];exact Bool.false_ne_true
  rw [if_neg a']
  exact congrArg some e
theorem ObjM.look {h:Heap}{x dx C:Addr}{mA:Str->Option Value}(I:ObjM h x dx C mA):∃od,PySem.W.InstAt h x (PySem.W.instObj C dx) C (some od)/\∀name,PySem.W.lookIn name od=some (mA name):=
 let ⟨od,ho,hl⟩:=qHi I.ns
 ⟨od,⟨I.obj,rfl,rfl,ho⟩,hl⟩
section
variable {prog:Program}{w:World}{A:Around}{E:Value->Shared->Prop}{s:Shared}{K:PySem.W.Frag}{x dx C f:Addr}{mA:Str->Option Value}{name:Str}{v:Value}
theorem qLM {expr:Bool}{Q:Value->Shared->Prop}(X:K.In s.heap) (I:ObjM s.heap x dx C mA) (hg:PySem.W.plainGet K C name=true) (hh:PySem.W.hasDictIn K C=true)
  (ha:PySem.W.findIn K (.ref C) name=some none) (hv:mA name=some v) (hv':PySem.W.handedIn v=true) (h:Q v { s with toks:=s.toks+1 }) :
  wpAny (model prog w) A (getAttr (.ref x) name expr) Q E s:=by
 obtain⟨od,J,hl⟩:=I.look
 exact PySem.W.get_value X J (PySem.W.plainGet_of hg).1 (PySem.W.findObj_own hh ha rfl (by rw [hl,hv])) hv' h
theorem qJj {pl:Sem Bool}{Q:Value×List Value->Shared->Prop}(X:K.In s.heap) (I:ObjM s.heap x dx C mA) (hg:PySem.W.plainGet K C name=true)
  (hf:PySem.W.findIn K (.ref C) name=some (some (.ref f))) (ht:PySem.W.isFn K (.ref f)=true) (hv:mA name=none) (h:Q (.ref f,[.ref x]) s) :
  wpAny (model prog w) A (getMethod (.ref x) name pl) Q E s:=by
 obtain⟨od,J,hl⟩:=I.look
 exact PySem.W.method_fn X J (PySem.W.plainGet_of hg).1 (PySem.W.plainGet_of hg).2 hf (beq_iff_eq.mp ht) (by show (PySem.W.lookIn name od).map (·.isSome)=some false;rw [hl,hv];rfl) h
theorem qKZ {ns:List Str}{Q:Unit->Shared->Prop}(X:K.In s.heap) (I:ObjM s.heap x dx C mA)
  (hs:PySem.W.findIn K (.ref C) "__setattr__"=some (some (.builtin "object.__setattr__"))) (hp:PySem.W.plainOver K C=true) (ht:PySem.W.takerIn K C name=some none) (hh:PySem.W.hasDictIn K C=true)
  (hw:PySem.Within mA ns) (hsz:ns.length<=sizeLine)
  (h:∀h',ObjM h' x dx C (λy=>if y=name then some v else mA y)->Heap.SameBut dx s.heap h'->Q () { s with heap:=h',toks:=s.toks+2 }) :
  wpAny (model prog w) A (setAttr (.ref x) name v) Q E s:=by
 obtain⟨od,J,hl⟩:=I.look
 refine PySem.W.set_plain X J hs (PySem.W.osa_open (s:={ s with toks:=s.toks+1 }) (r:=none) X J hp ht λb=>?_)
 obtain⟨cd,hc,hd'⟩:=PySem.W.any_some hh
 have hx:s.heap.get? x=some ⟨.ref C,some dx,.plain,#[]⟩:=I.obj
 refine wpAny_bind (wpAny_pure (wpAny_bind (wpAny_bind (wpAny_loadPart hx (wpAny_bind (PySem.W.Looks.here (s:={ s with toks:=s.toks+1 }) (PySem.W.looks_clsIn X hc) ?_))))))
 rw [hd']
 refine wpAny_pure (a:=some dx) (wpAny_bind (wpAny_pure (wpAny_bind ?_)))
 refine wpAny_nsSet1 (s:={ s with toks:=s.toks+1 }) I.ns λh' hn2 hs2=>?_
 obtain⟨oD,esD,epD,hoD,hdD,hcD⟩:=hn2.count (PySem.Within.cons name v hw)
 refine wpAny_bind (wpAny_lookBehind hoD (by rw [hdD];exact pastItsLine_dict (Nat.le_trans hcD (by rw [List.length_cons];omega))) ?_)
 exact wpAny_pure (h _ ⟨(hs2.2 _ (Ne.symm I.ne)).trans I.obj,hn2,I.ne⟩ hs2)
theorem qI8 {R:Result->Shared->Prop}{vs:List Value}{kw:List (Str×Value)}(X:K.In s.heap) (hm:PySem.W.makesIn K C=true)
  (hi:PySem.W.findIn K (.ref C) "__init__"=some (some (.ref f))) (hf:PySem.W.typeIn K (.ref f)=some (.type "function"))
  (h:codeAny (model prog w) (A.under (.builtin "type.__call__" ⟨.ref C::vs,kw⟩)) (.call (.ref f) ⟨.ref (s.heap.objs.size+1)::vs,kw⟩) (PySem.W.InitBack (s.heap.objs.size+1) R)
   { s with heap:=(s.heap.push PySem.W.emptyDict).push (PySem.W.instObj C s.heap.objs.size) }) :
  codeAny (model prog w) A (.call (.ref C) ⟨vs,kw⟩) R s:=by
 obtain⟨hh,g,d,t,os⟩:=s
 exact PySem.W.make_core (PySem.W.makes_of X hm) (PySem.W.looks_findIn X hi) (λself=>PySem.W.bind_fn X self hf) (.inl rfl) h
theorem qHg {R:Result->Shared->Prop}(X:K.In s.heap) (hm:PySem.W.makesIn K C=true)
  (hi:PySem.W.findIn K (.ref C) "__init__"=some (some (.builtin "object.__init__")))
  (hb:∀self,PySem.W.Looks (model prog w) s.heap (bindSpecial (.builtin "object.__init__") self) (.builtin "object.__init__",[self]))
  (h:codeAny (model prog w) (A.under (.builtin "type.__call__" ⟨[.ref C],[]⟩)) (.call (.builtin "object.__init__") ⟨[.ref (s.heap.objs.size+1)],[]⟩) (PySem.W.InitBack (s.heap.objs.size+1) R)
   { s with heap:=(s.heap.push PySem.W.emptyDict).push (PySem.W.instObj C s.heap.objs.size) }) :
  codeAny (model prog w) A (.call (.ref C) ⟨[],[]⟩) R s:=by
 obtain⟨hh,g,d,t,os⟩:=s
 exact PySem.W.make_core (PySem.W.makes_of X hm) (PySem.W.looks_findIn X hi) hb (.inr ⟨rfl,rfl⟩) h
end
noncomputable def qCS (f:Str) (v:V):List (Str×V)->List (Str×V)
 | []=>[(f,v)]
 | (g,x)::r=>if g=f then (g,v)::r else (g,x)::qCS f v r
theorem qBI (f g:Str) (v:V):∀fs:List (Str×V),(qCS f v fs).lookup g=if g=f then some v else fs.lookup g
 | []=>by
  show List.lookup g [(f,v)]=_
  by_cases h:g=f
  ·have hb:(g == f)=true:=beq_iff_eq.mpr h
   simp only [List.lookup,hb,if_pos h]
  ·have hb:(g == f)=false:=beq_eq_false_iff_ne.mpr h
   simp only [List.lookup,hb,if_neg h]
 | (k,x)::r=>by
  have ih:=qBI f g v r
  rw [show qCS f v ((k,x)::r)=(if k=f then (k,v)::r else (k,x)::qCS f v r) from rfl]
  by_cases hk:k=f
  ·rw [if_pos hk]
   by_cases h:g=k
   ·have hb:(g == k)=true:=beq_iff_eq.mpr h
    simp only [List.lookup,hb,if_pos (h.trans hk)]
   ·have hb:(g == k)=false:=beq_eq_false_iff_ne.mpr h
    simp only [List.lookup,hb,if_neg (λe:g=f=>h (e.trans hk.symm))]
  ·rw [if_neg hk]
   by_cases h:g=k
   ·have hb:(g == k)=true:=beq_iff_eq.mpr h
    simp only [List.lookup,hb,if_neg (λe:g=f=>hk (h.symm.trans e))]
   ·have hb:(g == k)=false:=beq_eq_false_iff_ne.mpr h
    simp only [List.lookup,hb]
    exact ih
theorem qDd (f:Str) (v:V):∀fs:List (Str×V),f∈(qCS f v fs).map (·.1)/\∀g,g∈fs.map (·.1)->g∈(qCS f v fs).map (·.1)
 | []=>⟨by simp [qCS],λg h=>by simp at h⟩
 | (k,x)::r=>by
  obtain⟨i1,i2⟩:=qDd f v r
  rw [show qCS f v ((k,x)::r)=(if k=f then (k,v)::r else (k,x)::qCS f v r) from rfl]
  by_cases hk:k=f
  ·rw [if_pos hk]
   subst hk
   exact⟨by simp,λg h=>by simpa using h⟩
  ·rw [if_neg hk]
   refine⟨?_,λg h=>?_⟩
   ·rw [List.map_cons]
    exact List.mem_cons_of_mem _ i1
   ·rw [List.map_cons] at h ⊢
    rcases List.mem_cons.mp h with e|e
    ·exact List.mem_cons.mpr (.inl e)
    ·exact List.mem_cons_of_mem _ (i2 g e)
theorem qDa (f:Str) (v:V):∀fs:List (Str×V),(qCS f v fs).length<=fs.length+1
 | []=>by simp [qCS]
 | (k,x)::r=>by
  have ih:=qDa f v r
  rw [show qCS f v ((k,x)::r)=(if k=f then (k,v)::r else (k,x)::qCS f v r) from rfl]
  by_cases hk:k=f
  ·rw [if_pos hk,List.length_cons,List.length_cons];omega
  ·rw [if_neg hk,List.length_cons,List.length_cons];omega
theorem RelO.some_of {v:V}{o:Option Value}(r:RelO (some v) o):∃u,o=some u/\RelV v u:=by
 cases o with
 | none=>exact (show False from r).elim
 | some u=>exact⟨u,rfl,r⟩
theorem RelO.none_of {o:Option Value}(r:RelO none o):o=none:=by
 cases o with
 | none=>rfl
 | some u=>exact (show False from r).elim
theorem qHv {v:V}{u:Value}(r:RelV v u):PySem.W.handedIn u=true:=by
 cases v with
 | non=>cases (show u=Value.none from r);rfl
 | bl b=>cases (show u=Value.bool b from r);rfl
 | int i=>obtain⟨t,e⟩:=(show ∃t,u=Value.int i t from r);cases e;rfl
 | str x=>obtain⟨t,e⟩:=(show ∃t,u=Value.str x t from r);cases e;rfl
 | byt b=>obtain⟨t,e⟩:=(show ∃t,u=Value.bytes b t from r);cases e;rfl
 | flt b=>obtain⟨t,e⟩:=(show ∃t,u=Value.float b t from r);cases e;rfl
 | ref a=>cases (show u=Value.ref a from r);rfl
 | ty n=>cases (show u=Value.type n from r);rfl
section
variable {P:Program}{w:World}{H H':Hp}{h h':Heap}{a C dx:Addr}{fs fs':List (Str×V)}
theorem qE3 (hok:HOk P w H h) (e:H a=some (.ins C dx fs)):∃mA,ObjM h a dx C mA/\(∀f,RelO (fs.lookup f) (mA f))/\PySem.Within mA (fs.map (·.1))/\fs.length<=1000/\H dx=some (.own a):=by
 obtain⟨d,z,ne,ob,mA,n,r,q⟩:=(show ObjOk P w H h a (.ins C dx fs) from hok a _ e)
 exact⟨mA,⟨ob,n,ne⟩,r,q,z,d⟩
end
structure Cls (K:PySem.W.Frag) (C:Addr):Prop where
 pg:PySem.W.plainGet K C Str.empty=true
 hd:PySem.W.hasDictIn K C=true
 po:PySem.W.plainOver K C=true
 sa:PySem.W.findIn K (.ref C) "__setattr__"=some (some (.builtin "object.__setattr__"))
theorem Cls.get {K:PySem.W.Frag}{C:Addr}(c:Cls K C) (f:Str):PySem.W.plainGet K C f=true:=c.pg
noncomputable def NoAttr (K:PySem.W.Frag) (C:Addr) (f:Str):Prop:=PySem.W.findIn K (.ref C) f=some none
theorem NoAttr.taker {K:PySem.W.Frag}{C:Addr}{f:Str}(n:NoAttr K C f):PySem.W.takerIn K C f=some none:=by
 unfold PySem.W.takerIn
 rw [show PySem.W.findIn K (.ref C) f=some none from n]
 rfl
structure Con (K:PySem.W.Frag) (C:Addr) (f:Str) (v:V) (u:Value):Prop where
 at_:PySem.W.findIn K (.ref C) f=some (some u)
 rel:RelV v u
 get:PySem.W.specialIn K u "__get__"=some none
 cp:PySem.W.copiedNames.contains f=false
structure Meth (K:PySem.W.Frag) (C:Addr) (m:Str) (f:Addr):Prop where
 at_:PySem.W.findIn K (.ref C) m=some (some (.ref f))
 fn:PySem.W.isFn K (.ref f)=true
 kp:PySem.W.keepIn K (.ref f)=true
section
variable {X:Cx}{pins:List (Addr×Obj)}{σ:St}{H:Hp}{s:Shared}{a C dx:Addr}{fs:List (Str×V)}{f:Str}{v:V}{A:Around}{E:Value->Shared->Prop}
theorem qGk {b:Bool}{Q:Value->Shared->Prop}(I:Inv X pins σ H s) (e:H a=some (.ins C dx fs)) (c:Cls X.K C) (n:NoAttr X.K C f) (l:fs.lookup f=some v)
  (h:∀u s',Inv X pins σ H s'->RelV v u->Q u s'):wpAny (model X.prog X.w) A (getAttr (.ref a) f b) Q E s:=by
 obtain⟨mA,O,r,_,_,_⟩:=qE3 I.hok e
 obtain⟨u,hu,ru⟩:=RelO.some_of (v:=v) (o:=mA f) (by rw [<-l];exact r f)
 exact qLM I.kIn O (c.get f) c.hd n hu (qHv ru) (h u _ (I.tok _) ru)
theorem qGj {m:Str}{g:Addr}{pl:Sem Bool}{Q:Value×List Value->Shared->Prop}(I:Inv X pins σ H s) (e:H a=some (.ins C dx fs)) (c:Cls X.K C) (k:Meth X.K C m g) (l:fs.lookup m=none)
  (h:Q (.ref g,[.ref a]) s):wpAny (model X.prog X.w) A (getMethod (.ref a) m pl) Q E s:=by
 obtain⟨mA,O,r,_,_,_⟩:=qE3 I.hok e
 have hn:mA m=none:=RelO.none_of (by rw [<-l];exact r m)
 exact qJj I.kIn O (c.get m) k.at_ k.fn hn h
theorem qGb {y:V}{u:Value}{Q:Unit->Shared->Prop}(I:Inv X pins σ H s) (e:H a=some (.ins C dx fs)) (c:Cls X.K C) (n:NoAttr X.K C f) (hl:fs.length<1000) (ry:RelV y u)
  (h:∀s',Inv X pins σ (upd H a (.ins C dx (qCS f y fs))) s'->Q () s'):wpAny (model X.prog X.w) A (setAttr (.ref a) f u) Q E s:=by
 obtain⟨mA,O,r,wi,_,ho⟩:=qE3 I.hok e
 have hz:(fs.map (·.1)).length<=sizeLine:=by rw [List.length_map,sizeLine_eq];omega
 refine qKZ I.kIn O c.sa c.po n.taker c.hd wi hz λh' O' sb=>h _ ?_
 have hd:∃o,h'.get? dx=some o:=let ⟨o,_,_,e',_⟩:=O'.ns;⟨o,e'⟩
 refine I.write (x:=a) (e:=dx) (by rw [e];exact True.intro) (.inr ho) (λb q hb z=>(sb.2 b hb).trans z) hd ?_
 refine⟨by rw [qAq O.ne];exact ho,?_,O.ne,O'.obj,_,O'.ns,λg=>?_,λg hg=>?_⟩
 ·have:=qDa f y fs;omega
 ·show RelO ((qCS f y fs).lookup g) (if g=f then some u else mA g)
  rw [qBI]
  by_cases q:g=f
  ·rw [if_pos q,if_pos q];exact ry
  ·rw [if_neg q,if_neg q];exact r g
 ·by_cases q:g=f
  ·rw [q];exact (qDd f y fs).1
  ·refine (qDd f y fs).2 g (wi g λz=>hg ?_)
   show (if g=f then some u else mA g)=none
   rw [if_neg q];exact z
theorem Inv.made (I:Inv X pins σ H s):Inv X pins σ (upd (upd H s.heap.objs.size (.own (s.heap.objs.size+1))) (s.heap.objs.size+1) (.ins C s.heap.objs.size []))
  { s with heap:=(s.heap.push PySem.W.emptyDict).push (PySem.W.instObj C s.heap.objs.size) }:=by
 have e1:(s.heap.push PySem.W.emptyDict).get? s.heap.objs.size=some PySem.W.emptyDict:=Heap.get?_push_size s.heap rfl
 have e2:((s.heap.push PySem.W.emptyDict).push (PySem.W.instObj C s.heap.objs.size)).get? (s.heap.objs.size+1)=some (PySem.W.instObj C s.heap.objs.size):=by
  have:=Heap.get?_push_size (s.heap.push PySem.W.emptyDict) (o:=PySem.W.instObj C s.heap.objs.size) rfl
  rwa [Heap.size_push] at this
 have e3:(s.heap.push PySem.W.emptyDict).Ns s.heap.objs.size (λ_=>none):=⟨PySem.W.emptyDict,#[],_,e1,rfl,(λe he=>absurd he (by simp)),λ_=>rfl⟩
 have I1:=I.laid (a:=s.heap.objs.size) (o:=.own (s.heap.objs.size+1)) (h':=s.heap.push PySem.W.emptyDict) (t':=s.toks) (λb u q=>Heap.get?_push_of_some _ q) (Nat.le_refl _) ⟨_,e1⟩
 refine I1.laid (a:=s.heap.objs.size+1) (o:=.ins C s.heap.objs.size []) (t':=s.toks) (λb u q=>Heap.get?_push_of_some _ q) (Nat.le_of_eq (Heap.size_push _ _)) ?_
 have ne:s.heap.objs.size≠s.heap.objs.size+1:=Nat.ne_of_lt (Nat.lt_succ_self _)
 refine⟨by rw [qAq ne,qAJ],Nat.zero_le _,ne,e2,λ_=>none,(Heap.Ns1.of_empty e3).at λo q=>Heap.get?_push_of_some _ q,λ_=>True.intro,λy hy=>absurd rfl hy⟩
theorem qL0 {prog:Program}{w:World}{env:Env}{e:Expr}{f:Str}{pos:Pos}{s:Shared}{Q:Value->Shared->Prop}(hb:attributeBase e f env (eval e env)=eval e env)
  (h:wpAny (model prog w) A (eval e env) (λo s₁=>wpAny (model prog w) A (getAttr o f true) Q E s₁) E s):wpAny (model prog w) A (eval (.Attribute e f pos) env) Q E s:=
 Attribute_any_ h (by rw [arm_eval_Attribute,hb])
end
noncomputable def qQB (K:PySem.W.Frag) (ta:TE) (f:Str):TE:=fun σ H Q=>ta σ H λx H1=>∃a C dx fs v,x=.ref a/\H1 a=some (.ins C dx fs)/\Cls K C/\NoAttr K C f/\fs.lookup f=some v/\Q v H1
noncomputable def qQG (K:PySem.W.Frag) (ta tv:TE) (f:Str):TS:=λD σ H=>tv σ H λy H1=>ta σ H1 λx H2=>∃a C dx fs,x=.ref a/\H2 a=some (.ins C dx fs)/\Cls K C/\NoAttr K C f/\fs.length<1000 /\
 D.nx σ (upd H2 a (.ins C dx (qCS f y fs)))
section
variable {X:Cx}{o e value:Expr}{f:Str}{pos pos' tpos:Pos}{ta tv:TE}
theorem qNg (he:PE X e ta) (hb:attributeBase e f X.env (eval e X.env)=eval e X.env):PE X (.Attribute e f pos) (qQB X.K ta f):=by
 intro pins s σ H Q I h
 refine qL0 hb (thn (he pins s σ H _ I h) λu s1 ⟨x,H1,I1,rx,a,C,dx,fs,v,ex,ea,c,n,l,q⟩=>?_)
 subst ex
 obtain rfl:u=Value.ref a:=rx
 exact qGk I1 ea c n l λu' s2 I2 ru=>⟨v,H1,I2,ru,q⟩
theorem qM2 (ha:PE X o ta) (hv:PE X value tv) (hs:swapsWith value (some (.Attribute o f pos')) pos.line X.env=pure false):PS X (.Assign [.Attribute o f pos'] value pos) (qQG X.K ta tv f):=by
 intro pins s σ H D I h
 refine plainObj_wpAny_Assign_Attribute (thn (hv pins s σ H _ I h) λu s1 ⟨y,H1,I1,ry,q⟩=>thn (ha pins s1 σ H1 _ I1 q) λov s2 ⟨x,H2,I2,rx,a,C,dx,fs,ex,ea,c,n,l,q2⟩=>?_) hs
 subst ex
 obtain rfl:ov=Value.ref a:=rx
 exact qGb I2 ea c n l ry λs3 I3=>⟨σ,_,I3,q2⟩
end
section
variable {X:Cx}{pins:List (Addr×Obj)}{σ:St}{H:Hp}{s:Shared}{A:Around}{E:Value->Shared->Prop}{Q:Value->Shared->Prop}{c:Value}{b:Bool}
inductive TyOf (K:PySem.W.Frag) (H:Hp):V->Value->Prop where
 | non:TyOf K H .non (.type "NoneType")
 | bl (x:Bool):TyOf K H (.bl x) (.type "bool")
 | int (i:Int):TyOf K H (.int i) (.type "int")
 | str (x:Str):TyOf K H (.str x) (.type "str")
 | flt (x:UInt64):TyOf K H (.flt x) (.type "float")
 | lst {a:Addr} {xs:List V} (e:H a=some (.lst xs)):TyOf K H (.ref a) (.type "list")
 | frz {a:Addr} {o:Obj} {xs:List V} (e:H a=some (.frz o (.lst xs))):TyOf K H (.ref a) (.type "list")
 | tup {a:Addr} {xs:List V} (e:H a=some (.tup xs)):TyOf K H (.ref a) (.type "tuple")
 | dK {a:Addr} {kvs:List (Key×V)} (e:H a=some (.dK kvs)):TyOf K H (.ref a) (.type "dict")
 | dT {a:Addr} {kvs:List (List Key×V)} (e:H a=some (.dT kvs)):TyOf K H (.ref a) (.type "dict")
 | ins {a C dx:Addr} {fs:List (Str×V)} (e:H a=some (.ins C dx fs)) (cl:Cls K C) (ha:PySem.W.findIn K (.ref C) "__class__"=some (some (.builtin "object.__class__")))
   (hn:PySem.W.specialIn K (.builtin "object.__class__") "__get__"=some (some (.builtin "getset_descriptor.__get__"))) (htk:PySem.W.takesIn K (.builtin "object.__class__")=some true)
   (hm:PySem.W.mroIn K C (.type "object")=some true):TyOf K H (.ref a) (.ref C)
end
end L2
namespace L2
open PySem PySem.Spec PyProof.Rows
structure Room (k:Nat) (A:Around):Prop where
 hd:A.handled=none
 dp:A.depth+3 * k+5<recursionLimit
 un:A.units+16 * k+200<cLine
theorem Room.mono {j k:Nat}{A:Around}(r:Room k A) (h:j<=k):Room j A:=⟨r.hd,by have:=r.dp;omega,by have:=r.un;omega⟩
theorem Room.deeper {k:Nat}{A:Around}(r:Room (k+1) A) (env:Env):Room k (A.deeper env):=
 ⟨r.hd,by have:=r.dp;show A.depth+1+3 * k+5<_;omega,by have:=r.un;show A.units+3+16 * k+200<_;omega⟩
theorem qGg {A:Around}{C:Addr}{us:List Value}{kw:List (Str×Value)}:(A.under (.builtin "type.__call__" ⟨.ref C::us,kw⟩)).depth=A.depth+1:=by
 first|rfl|simp [Around.under,Code.weight,Code.isCreation,Code.isGuard,Code.isCaller,Code.frames,Code.isFrame,guardIds]
theorem qGf {A:Around}{C:Addr}{us:List Value}{kw:List (Str×Value)}:(A.under (.builtin "type.__call__" ⟨.ref C::us,kw⟩)).units=A.units+1:=by
 first|rfl|simp [Around.under,Code.cUnits,Code.frames,Code.isFrame]
theorem Room.make {k:Nat}{A:Around}(r:Room (k+1) A) (C:Addr) (us:List Value) (kw:List (Str×Value)):Room k (A.under (.builtin "type.__call__" ⟨.ref C::us,kw⟩)):=
 ⟨r.hd,by have:=r.dp;rw [qGg];omega,by have:=r.un;rw [qGf];omega⟩
theorem Room.depth {k:Nat}{A:Around}(r:Room k A):A.depth<recursionLimit:=by have:=r.dp;omega
theorem Room.units {k:Nat}{A:Around}(r:Room k A):A.units+64<cLine:=by have:=r.un;omega
noncomputable def qOX:TA:=λ_ H Q=>Q [] H
noncomputable def qMz (ta:TE) (tr:TA):TA:=fun σ H Q=>ta σ H λx H1=>tr σ H1 λxs H2=>Q (x::xs) H2
section
variable {X:Cx}{e:Expr}{es:List Expr}{te:TE}{t:TA}{pos:Pos}
theorem qDC:PA X [] qOX:=λ_ _ _ _ H Q I h=>Calls.spliced_nil ⟨[],H,I,.nil,h⟩
theorem qBG (ha:PE X e te) (hr:PA X es t) (hs:starEach (e::es) X.env=(false,eval e X.env)::starEach es X.env:=by rfl):PA X (e::es) (qMz te t):=by
 intro pos pins s σ H Q I h
 rw [hs]
 show wpAny _ _ (spliced ((false,eval e X.env)::backTo pos (starEach es X.env))) _ _ s
 refine Calls.spliced_cons (thn (ha pins s σ H _ I h) λu s1 ⟨x,H1,I1,r1,q1⟩=>?_)
 exact thn (hr pos pins s1 σ H1 _ I1 q1) λus s2 ⟨xs,H2,I2,r2,q2⟩=>⟨x::xs,H2,I2,.cons r1 r2,q2⟩
noncomputable def qQt (t:TA):TE:=fun σ H Q=>t σ H λxs H1=>xs.length<=sizeLine/\∀p,H1 p=none->Q (.ref p) (upd H1 p (.tup xs))
noncomputable def qQy (t:TA):TE:=fun σ H Q=>t σ H λxs H1=>xs.length<=sizeLine/\∀p,H1 p=none->Q (.ref p) (upd H1 p (.lst xs))
theorem qM9 {x1}(h:PA X es t):PE X (.Tuple es x1 pos) (qQt t):=by
 intro pins s σ H Q I hq
 refine wpAny_Tuple_spliced (thn (h pos pins s σ H _ I hq) λus s1 ⟨xs,H1,I1,r,z,q⟩=>⟨by rw [<-r.length];exact z,?_⟩)
 have hf:H1 s1.heap.objs.size=none:=I1.hok.fresh (Nat.le_refl _)
 refine⟨.ref s1.heap.objs.size,upd H1 s1.heap.objs.size (.tup xs),I1.laid (t':=s1.toks) (λb u e=>Heap.get?_push_of_some _ e) (Nat.le_refl _) ?_,rfl,q _ hf⟩
 exact⟨z,us,r,⟨_,Heap.get?_push_size _ rfl,rfl,_,rfl⟩⟩
theorem qNe (h:PA X es t):PE X (.List es pos) (qQy t):=by
 intro pins s σ H Q I hq
 refine wpAny_List_spliced (thn (h pos pins s σ H _ I hq) λus s1 ⟨xs,H1,I1,r,z,q⟩=>⟨by rw [<-r.length];exact z,?_⟩)
 have hf:H1 s1.heap.objs.size=none:=I1.hok.fresh (Nat.le_refl _)
 refine⟨.ref s1.heap.objs.size,upd H1 s1.heap.objs.size (.lst xs),I1.laid (t':=s1.toks) (λb u e=>Heap.get?_push_of_some _ e) (Nat.le_refl _) ?_,rfl,q _ hf⟩
 exact⟨z,us,0,r,Heap.get?_push_size _ rfl⟩
end
noncomputable abbrev Sp:=List V->Hp->VK->XK->Prop
noncomputable abbrev CXT:=List Env->Hp->Shared->XK->Value->Shared->Prop
structure Env0 (P:Program) (w:World) (K:PySem.W.Frag) (mg:Str->Option Value) (base:Heap) (A:Around) (outer:List Env) (s:Shared) (H:Hp):Prop where
 frames:A.frames=some outer
 mod:Mod K mg base
 bs:∀b o,base.get? b=some o->s.heap.get? b=some o/\H b=none
 bsz:base.objs.size<=s.heap.objs.size
 funs:s.heap.FunFrames base outer
 frf:∀b∈frs outer,H b=none
 hok:HOk P w H s.heap
 bare:AllBare s.gens
noncomputable def CE (outer:List Env) (P:Program) (w:World) (H:Hp) (s:Shared) (Q:VK) (u:Value) (s':Shared):Prop:=
 ∃v H',s'.os=s.os/\AllBare s'.gens/\Un (frs outer) [] H H' s.heap s'.heap/\HOk P w H' s'.heap/\RelV v u/\Q v H'
noncomputable def CR (CX:CXT) (outer:List Env) (P:Program) (w:World) (H:Hp) (s:Shared) (Q:VK) (E:XK) (r:Result) (s':Shared):Prop:=
 match r with
 | .ok (.ret u)=>CE outer P w H s Q u s'
 | .ok _=>False
 | .error e=>CX outer H s E e s'
structure FnOk (P:Program) (w:World) (K:PySem.W.Frag) (mg:Str->Option Value) (base:Heap) (CX:CXT) (k:Nat) (f:Addr) (fd:FuncData) (ps:List Str) (sp:Sp):Prop where
 len:∀vs H Q E,sp vs H Q E->vs.length=ps.length
 run:∀(A:Around) (outer:List Env) (s:Shared) (H:Hp) (args:Args) (us:List Value) (vs:List V) (Q:VK) (E:XK),Room k A->Env0 P w K mg base A outer s H->BindsTo s fd args (ps.zip us)->Vals vs us->sp vs H Q E ->
  codeAny (model P w) A (.call (.ref f) args) (CR CX outer P w H s Q E) s
theorem Env0.make {P:Program}{w:World}{K:PySem.W.Frag}{mg:Str->Option Value}{base:Heap}{A:Around}{outer:List Env}{s:Shared}{H:Hp}(e:Env0 P w K mg base A outer s H) (C:Addr) (us:List Value) (kw:List (Str×Value)) :
  Env0 P w K mg base (A.under (.builtin "type.__call__" ⟨.ref C::us,kw⟩)) outer s H:=⟨by first|exact e.frames|(simpa [Around.under,Code.envs,Code.isFrame,pushEnvs] using e.frames),e.mod,e.bs,e.bsz,e.funs,e.frf,e.hok,e.bare⟩
section
variable {X:Cx}{pins:List (Addr×Obj)}{σ:St}{H:Hp}{s s':Shared}
theorem Inv.env0 (I:Inv X pins σ H s):Env0 X.prog X.w X.K X.mg X.base X.A X.stack s H:=
 ⟨I.ok.frames,I.ok.mod,I.bs,Nat.le_trans I.ok.bsz I.sz,I.stack,I.stkFree,I.hok,I.bare⟩
theorem Inv.after {Q:VK}{u:Value}(I:Inv X pins σ H s) (h:CE X.stack X.prog X.w H s Q u s'):EP X pins σ Q u s':=by
 obtain⟨v,H',os,bare,un,hok,r,q⟩:=h
 obtain⟨hh,g,d,t,os'⟩:=s'
 obtain rfl:os'=s.os:=os
 exact⟨v,H',I.call (h':=hh) (g':=g) (d':=d) (t':=t) (ch:=[]) un hok bare (λb z=>absurd z (by simp)),r,q⟩
end
noncomputable def qO1 (sp:Sp) (dvs:List V) (E:XK) (t:TA):TE:=fun σ H Q=>t σ H λvs H1=>sp (vs++dvs) H1 Q E
noncomputable def qOZ (C:Addr) (m:Str) (sp:Sp) (dvs:List V) (E:XK) (ta:TE) (t:TA):TE:=fun σ H Q=>ta σ H λx H1=>∃a dx fs,x=.ref a/\H1 a=some (.ins C dx fs)/\fs.lookup m=none /\
 t σ H1 λvs H2=>sp (x::(vs++dvs)) H2 Q E
noncomputable def qMy (C:Addr) (sp:Sp) (dvs:List V) (E:XK) (t:TA):TE:=fun σ H Q=>t σ H λvs H1=>∀x dx,H1 x=none->H1 dx=none->dx≠x ->
 sp (.ref x::(vs++dvs)) (upd (upd H1 dx (.own x)) x (.ins C dx [])) (λv H2=>v=.non/\Q (.ref x) H2) E
noncomputable def Binds (K:PySem.W.Frag) (fd:FuncData) (ps:List Str) (ds:List Value):Prop:=
 ∀(s:Shared) (us:List Value),K.In s.heap->(us++ds).length=ps.length->BindsTo s fd ⟨us,[]⟩ (ps.zip (us++ds))
theorem Binds.all {K:PySem.W.Frag}{fd:FuncData}{ps:List Str}(h:∀us:List Value,us.length=ps.length->bindArgs fd ⟨us,[]⟩=pure (ps.zip us)):Binds K fd ps []:=λs us _ hl=>by
 rw [List.append_nil] at hl ⊢
 exact .of_eq (h us hl)
noncomputable def qDv (CX:CXT) (X:Cx) (E:XK):Prop:=∀(pins:List (Addr×Obj)) (σ:St) (H:Hp) (s:Shared) (e:Value) (s':Shared),Inv X pins σ H s->CX X.stack H s E e s'->X.xe e s'
section
variable {X:Cx}{CX:CXT}{k:Nat}{f C:Addr}{fd:FuncData}{ps:List Str}{sp:Sp}{dvs:List V}{ds:List Value}{E:XK}{x m:Str}{p pos apos:Pos}{e o:Expr}{es:List Expr}{ta:TE}{t:TA}
theorem qJO {pins:List (Addr×Obj)}{σ:St}{H:Hp}{s:Shared}{Q:VK}{us:List Value}{vs:List V}(F:FnOk X.prog X.w X.K X.mg X.base CX k f fd ps sp) (hr:Room k X.A) (hb:Binds X.K fd ps ds) (hd:Vals dvs ds) (hx:qDv CX X E)
  (I:Inv X pins σ H s) (r:Vals vs us) (h:sp (vs++dvs) H Q E):wpAny (model X.prog X.w) X.A (call (.ref f) us) (EP X pins σ Q) X.xe s:=by
 have r2:Vals (vs++dvs) (us++ds):=r.append hd
 have hl:(us++ds).length=ps.length:=by rw [<-r2.length];exact F.len _ _ _ _ h
 refine wpAny_call (codeAny_mono (F.run X.A X.stack s H ⟨us,[]⟩ (us++ds) (vs++dvs) Q E hr I.env0 (hb s us I.kIn hl) r2 h) λr s' hq=>?_)
 cases r with
 | error e=>exact hx pins σ H s e s' I hq
 | ok fl =>
  cases fl with
  | ret u=>exact I.after hq
  | next=>exact False.elim hq
  | brk=>exact False.elim hq
  | cont=>exact False.elim hq
theorem qG8 (F:FnOk X.prog X.w X.K X.mg X.base CX k f fd ps sp) (hr:Room k X.A) (hg:Gl X x) (hm:X.mg x=some (.ref f)) (hk:PySem.W.keepIn X.K (.ref f)=true) (hb:Binds X.K fd ps ds) (hd:Vals dvs ds) (hx:qDv CX X E)
  (ha:PA X (e::es) t) (hdb:(x == ("__debug__":Str))=false:=by decide) (he:starEach (e::es) X.env=(false,eval e X.env)::starEach es X.env:=by rfl) (hpl:(backTo pos (starEach es X.env)).any (·.1)=false:=by rfl) :
  PE X (.Call (.Name x p) (e::es) [] pos) (qO1 sp dvs E t):=by
 intro pins s σ H Q I h
 refine wpAny_Call_Name_kw (qDb I hg hm ?_ hdb)
 refine PySem.W.callWith_K (h₀:=X.base) I.ok.mod.kin hk (thn (ha pos pins s σ H _ I h) λus s1 ⟨vs,H1,I1,r,q⟩=>⟨I1.kIn,?_⟩) he hpl
 exact qJO F hr hb hd hx I1 r q
theorem qK9 {pl:Sem Bool}(he:PE X o ta) (c:Cls X.K C) (hm:Meth X.K C m f) (F:FnOk X.prog X.w X.K X.mg X.base CX k f fd ps sp) (hr:Room k X.A) (hb:Binds X.K fd ps ds) (hd:Vals dvs ds) (hx:qDv CX X E) (ha:PA X (e::es) t)
  (hst:starEach (e::es) X.env=(false,eval e X.env)::starEach es X.env:=by rfl) (hpl:(backTo pos (starEach es X.env)).any (·.1)=false:=by rfl)
  (ht:eval (.Call (.Attribute o m apos) (e::es) [] pos) X.env=(do
   let ov <-eval o X.env
   standAt apos.atName
   let (f,first) <-holding [ov] (getMethod ov m pl)
   callWith pos f first (backTo pos (starEach (e::es) X.env)) (backToKw pos (keywordEach [] X.env))):=by rfl) :
  PE X (.Call (.Attribute o m apos) (e::es) [] pos) (qOZ C m sp dvs E ta t):=by
 intro pins s σ H Q I h
 refine PySem.W.methodCall_KW (pl:=pl) (thn (he pins s σ H _ I h) λu s1 ⟨x,H1,I1,rx,a,dx,fs,ex,ea,l,q⟩=>?_) ht
 subst ex
 obtain rfl:u=Value.ref a:=rx
 refine qGj I1 ea c hm l ?_
 refine PySem.W.callWith_K (first:=[.ref a]) (h₀:=X.base) I.ok.mod.kin hm.kp (thn (ha pos pins s1 σ H1 _ I1 q) λus s2 ⟨vs,H2,I2,r,q2⟩=>⟨I2.kIn,?_⟩) hst hpl
 exact qJO (us:=.ref a::us) (vs:=.ref a::vs) F hr hb hd hx I2 (.cons rfl r) q2
structure Mk (K:PySem.W.Frag) (C f:Addr):Prop where
 makes:PySem.W.makesIn K C=true
 init:PySem.W.findIn K (.ref C) "__init__"=some (some (.ref f))
 fn:PySem.W.isFn K (.ref f)=true
 kp:PySem.W.keepIn K (.ref C)=true
theorem qFw {pins:List (Addr×Obj)}{σ:St}{H:Hp}{s:Shared}{Q:VK}{us:List Value}{vs:List V}(M:Mk X.K C f) (F:FnOk X.prog X.w X.K X.mg X.base CX k f fd ps sp) (hr:Room (k+1) X.A) (hb:Binds X.K fd ps ds) (hd:Vals dvs ds)
  (hx:qDv CX X E) (I:Inv X pins σ H s) (r:Vals vs us)
  (h:∀x dx,H x=none->H dx=none->dx≠x->sp (.ref x::(vs++dvs)) (upd (upd H dx (.own x)) x (.ins C dx [])) (λv H2=>v=.non/\Q (.ref x) H2) E) :
  wpAny (model X.prog X.w) X.A (call (.ref C) us) (EP X pins σ Q) X.xe s:=by
 have hq:=h (s.heap.objs.size+1) s.heap.objs.size (I.hok.fresh (Nat.le_succ _)) (I.hok.fresh (Nat.le_refl _)) (Nat.ne_of_lt (Nat.lt_succ_self _))
 have I2:=Inv.made (C:=C) I
 have r2:Vals (V.ref (s.heap.objs.size+1)::(vs++dvs)) (Value.ref (s.heap.objs.size+1)::(us++ds)):=.cons rfl (r.append hd)
 have hl:(Value.ref (s.heap.objs.size+1)::us++ds).length=ps.length:=by
  have e:=r2.length
  rw [F.len _ _ _ _ hq] at e
  exact e.symm
 refine wpAny_call (qI8 (f:=f) I.kIn M.makes M.init (beq_iff_eq.mp M.fn) (codeAny_mono (F.run _ X.stack _ _ ⟨Value.ref (s.heap.objs.size+1)::us,[]⟩ (Value.ref (s.heap.objs.size+1)::(us++ds)) _ _ E (hr.make C us [])
  (I2.env0.make C us []) (hb _ (Value.ref (s.heap.objs.size+1)::us) I2.kIn hl) r2 hq) λr s' hq'=>?_))
 cases r with
 | error e=>exact hx pins σ _ _ e s' I2 hq'
 | ok fl =>
  cases fl with
  | ret u =>
   obtain⟨v,H',I3,rv,ev,q3⟩:=I2.after hq'
   subst ev
   exact⟨rv,⟨V.ref (s.heap.objs.size+1),H',I3,rfl,q3⟩⟩
  | next=>exact False.elim hq'
  | brk=>exact False.elim hq'
  | cont=>exact False.elim hq'
theorem qLa (M:Mk X.K C f) (F:FnOk X.prog X.w X.K X.mg X.base CX k f fd ps sp) (hr:Room (k+1) X.A) (hg:Gl X x) (hm:X.mg x=some (.ref C)) (hb:Binds X.K fd ps ds) (hd:Vals dvs ds) (hx:qDv CX X E)
  (ha:PA X (e::es) t) (hdb:(x == ("__debug__":Str))=false:=by decide) (he:starEach (e::es) X.env=(false,eval e X.env)::starEach es X.env:=by rfl) (hpl:(backTo pos (starEach es X.env)).any (·.1)=false:=by rfl) :
  PE X (.Call (.Name x p) (e::es) [] pos) (qMy C sp dvs E t):=by
 intro pins s σ H Q I h
 refine wpAny_Call_Name_kw (qDb I hg hm ?_ hdb)
 refine PySem.W.callWith_K (h₀:=X.base) I.ok.mod.kin M.kp (thn (ha pos pins s σ H _ I h) λus s1 ⟨vs,H1,I1,r,q⟩=>⟨I1.kIn,?_⟩) he hpl
 exact qFw M F hr hb hd hx I1 r q
theorem qIW (M:Mk X.K C f) (F:FnOk X.prog X.w X.K X.mg X.base CX k f fd ps sp) (hr:Room (k+1) X.A) (hg:Gl X x) (hm:X.mg x=some (.ref C)) (hb:Binds X.K fd ps ds) (hd:Vals dvs ds) (hx:qDv CX X E)
  (hdb:(x == ("__debug__":Str))=false:=by decide):PE X (.Call (.Name x p) [] [] pos) (qMy C sp dvs E qOX):=by
 intro pins s σ H Q I h
 refine wpAny_Call_Name_kw (qDb I hg hm ?_ hdb)
 exact PySem.W.callWith_K0 I.kIn M.kp (qFw (us:=[]) M F hr hb hd hx I .nil h)
end
noncomputable def PK (X:Cx) (kws:List Keyword) (t:TA):Prop:=
 ∀(pos:Pos) (pins:List (Addr×Obj)) (s:Shared) (σ:St) (H:Hp) (Q:List V->Hp->Prop),Inv X pins σ H s->t σ H Q->wpAny (model X.prog X.w) X.A (evalAll ((backToKw pos (keywordEach kws X.env)).map (·.2))) (AP X pins σ Q) X.xe s
section
variable {X:Cx}{CX:CXT}{k:Nat}{f C:Addr}{fd:FuncData}{ps ks:List Str}{sp:Sp}{E:XK}{x m:Str}{p pos apos kpos:Pos}{e o:Expr}{es:List Expr}{kws:List Keyword}{te ta:TE}{t tk:TA}{nm:Option Str}
theorem qM4:PK X [] qOX:=λ_ _ _ _ H Q I h=>wpAny_evalAll_nil ⟨[],H,I,.nil,h⟩
theorem qK7 (ha:PE X e te) (hr:PK X kws t):PK X (⟨nm,e,kpos⟩::kws) (qMz te t):=by
 intro pos pins s σ H Q I h
 show wpAny _ _ (evalAll ((do let v <-eval e X.env;standAt pos;pure v)::(backToKw pos (keywordEach kws X.env)).map (·.2))) _ _ s
 refine wpAny_evalAll_cons (wpAny_bind (thn (ha pins s σ H _ I h) λu s1 ⟨x,H1,I1,r1,q1⟩=>wpAny_bind (wpAny_standAt (wpAny_pure ?_))))
 exact thn (hr pos pins s1 σ H1 _ I1 q1) λus s2 ⟨xs,H2,I2,r2,q2⟩=>⟨x::xs,H2,I2,.cons r1 r2,q2⟩
structure KBinds (K:PySem.W.Frag) (fd:FuncData) (ps ks:List Str) (g:List Value->List Value->List Value) (gV:List V->List V->List V):Prop where
 to:∀(s:Shared) (us ws:List Value),K.In s.heap->(g us ws).length=ps.length->BindsTo s fd ⟨us,ks.zip ws⟩ (ps.zip (g us ws))
 rel:∀{vs:List V} {us:List Value} {zs:List V} {ws:List Value},Vals vs us->Vals zs ws->Vals (gV vs zs) (g us ws)
variable {g:List Value->List Value->List Value}{gV:List V->List V->List V}
end
structure FnScope (N P:List Str) (sc:Scope):Prop where
 kind:sc.kind=.function
 co:sc.isCoroutine=false
 gen:sc.isGenerator=false
 nd:N.Nodup
 pre:N.take P.length=P
 par:∀x∈P,sc.names.lookup x=some .local∨sc.names.lookup x=some .cell
 nofree:∀y∈sc.names,y.2≠.free
theorem qEB {kindOf:Str->Option NameKind}{x:Str}:∀{binds:List (Str×Value)}{m:Str->Option Value},(∀v,(x,v)∉binds)->bindL kindOf binds m x=m x
 | [],_,_=>rfl
 | (n,v)::r,m,h=>by
  unfold bindL
  rw [qEB λw hw=>h w (List.mem_cons_of_mem _ hw)]
  split
  ·have:x≠n:=by rintro rfl;exact h v List.mem_cons_self
   simp [this]
  ·rfl
theorem qED {kindOf:Str->Option NameKind}{x:Str}:∀{binds:List (Str×Value)}{m:Str->Option Value},(∀v,(x,v)∉binds)->bindC kindOf binds m x=m x
 | [],_,_=>rfl
 | (n,v)::r,m,h=>by
  unfold bindC
  rw [qED λw hw=>h w (List.mem_cons_of_mem _ hw)]
  split
  ·rfl
  ·have:x≠n:=by rintro rfl;exact h v List.mem_cons_self
   simp [this]
theorem qEC {kindOf:Str->Option NameKind}{x:Str}{v:Value}:∀{P:List Str}{vs:List Value}{i:Nat}{m:Str->Option Value},P.Nodup->P[i]?=some x->vs[i]?=some v->kindOf x=some .local ->
  bindL kindOf (P.zip vs) m x=some v
 | [],_,_,_,_,h,_,_=>by simp at h
 | _::_,[],_,_,_,_,h,_=>by simp at h
 | p::P,w::vs,0,m,nd,h1,h2,hk=>by
  simp at h1 h2;subst h1;subst h2
  show bindL kindOf ((p,w)::P.zip vs) m p=_
  unfold bindL
  rw [qEB λv hv=>(List.nodup_cons.mp nd).1 (List.of_mem_zip hv).1,if_pos hk]
  simp
 | p::P,w::vs,i+1,m,nd,h1,h2,hk=>by
  show bindL kindOf ((p,w)::P.zip vs) m x=_
  unfold bindL
  exact qEC (i:=i) (List.nodup_cons.mp nd).2 (by simpa using h1) (by simpa using h2) hk
theorem qEE {kindOf:Str->Option NameKind}{x:Str}{v:Value}:∀{P:List Str}{vs:List Value}{i:Nat}{m:Str->Option Value},P.Nodup->P[i]?=some x->vs[i]?=some v->kindOf x≠some .local ->
  bindC kindOf (P.zip vs) m x=some v
 | [],_,_,_,_,h,_,_=>by simp at h
 | _::_,[],_,_,_,_,h,_=>by simp at h
 | p::P,w::vs,0,m,nd,h1,h2,hk=>by
  simp at h1 h2;subst h1;subst h2
  show bindC kindOf ((p,w)::P.zip vs) m p=_
  unfold bindC
  rw [qED λv hv=>(List.nodup_cons.mp nd).1 (List.of_mem_zip hv).1,if_neg hk]
  simp
 | p::P,w::vs,i+1,m,nd,h1,h2,hk=>by
  show bindC kindOf ((p,w)::P.zip vs) m x=_
  unfold bindC
  exact qEE (i:=i) (List.nodup_cons.mp nd).2 (by simpa using h1) (by simpa using h2) hk
noncomputable def start (N:List Str) (vs:List V):St:=vs.map some++List.replicate (N.length - vs.length) none
noncomputable def qKa (CX:CXT) (P:Program) (w:World) (K:PySem.W.Frag) (mg:Str->Option Value) (base:Heap) (N:List Str) (qual:Str) (scope:Scope) (f:Addr) (cd:Value) (A:Around) (outer:List Env) (s:Shared) (H:Hp) (E:XK):Cx where
 prog:=P
 w:=w
 K:=K
 mg:=mg
 base:=base
 A:=A.deeper (envOfC qual scope s.heap.objs.size f cd)
 N:=N
 s₀:=s
 H₀:=H
 env:=envOfC qual scope s.heap.objs.size f cd
 outer:=outer
 stack:=envOfC qual scope s.heap.objs.size f cd::outer
 ex:=[]
 calm:=true
 fn:=λ_=>true
 pn:=[]
 xe:=λe s'=>wpAny (model P w) (A.deeper (envOfC qual scope s.heap.objs.size f cd)) (leaving (envOfC qual scope s.heap.objs.size f cd) e) (λ_ s''=>CX outer H s E e s'') (λe' s''=>CX outer H s E e' s'') s'
theorem qFW {sc:Scope}{n:Nat}{x:Str}(h:sc.names.lookup x=some .cell):∃c,(cellsFrom n sc.names []).lookup x=some c:=by
 have q:=PySem.W.cellsFrom_some sc.names n [] (.inl h)
 exact Option.isSome_iff_exists.mp q
theorem qHr {CX:CXT}{P:Program}{w:World}{K:PySem.W.Frag}{mg:Str->Option Value}{base:Heap}{N ps:List Str}{qual:Str}{scope:Scope}{f:Addr}{cd:Value}{A:Around}{outer:List Env}{s s1:Shared}{H:Hp}{E:XK}{us:List Value}{vs:List V}
  (S:FnScope N ps scope) (hd:A.handled=none) (e0:Env0 P w K mg base A outer s H) (hl:vs.length=ps.length) (r:Vals vs us)
  (x:InCallC s s.heap.objs.size (bindL (envOfC qual scope s.heap.objs.size f cd).kindOf (ps.zip us) λ_=>none) (cellsFrom (s.heap.objs.size+1) scope.names []) (bindC (envOfC qual scope s.heap.objs.size f cd).kindOf (ps.zip us) λ_=>none) s1) :
  Inv (qKa CX P w K mg base N qual scope f cd A outer s H E) [] (start N vs) H s1:=by
 have hpl:ps.length<=N.length:=by have:=congrArg List.length S.pre;rw [List.length_take] at this;omega
 obtain⟨h1,tk,rfl,hk⟩:=x.done
 have noA:∀b:Addr,b∉(qKa CX P w K mg base N qual scope f cd A outer s H E).ex:=λb z=>absurd (show b∈([]:List Addr) from z) (by simp)
 refine⟨⟨e0.mod,S.kind,rfl,rfl,Nat.le_refl _,λy z c h1 h2=>?_,λy hy=>?_,λy c _ h=>?_,λ_=>hd,Around.frames_deeper e0.frames,.inr ⟨rfl,rfl⟩,λb z=>absurd z (noA b),e0.bs,e0.bsz,λb _ _=>noA b,λb z=>absurd z (noA b),e0.funs,e0.frf⟩,
  rfl,e0.bare,Un.kept hk,⟨_,x.toInCall.ns,λi y v h1 h2 h3=>?_⟩,λy c h=>⟨_,x.cell y c h⟩,e0.hok.fresh (Nat.le_refl _),λy c h=>?_,λp hp=>absurd (show p∈([]:List (Addr×Obj)) from hp) (by simp),e0.hok.kept hk,?_⟩
 ·exact name_of_addr x.apart (PySem.mem_of_lookup h1) (PySem.mem_of_lookup h2)
 ·have hy:scope.names.lookup y=some .cell∨scope.names.lookup y=some .free:=hy
  rcases hy with hy|hy
  ·exact qFW hy
  ·exact absurd rfl (S.nofree _ (PySem.mem_of_lookup hy))
 ·exact Nat.le_of_lt (x.above y c (PySem.mem_of_lookup h))
 ·have hi:i<vs.length:=by
   unfold start at h2
   by_cases hi:i<vs.length
   ·exact hi
   ·rw [List.getElem?_append_right (by simpa using hi)] at h2
    rw [List.getElem?_replicate] at h2
    split at h2<;>cases h2
  have ha:vs[i]?=some v:=by
   unfold start at h2
   rw [List.getElem?_append_left (by simpa using hi),List.getElem?_map] at h2
   cases e:vs[i]? with
   | none=>rw [e] at h2;cases h2
   | some a=>rw [e] at h2;cases h2;rfl
  obtain⟨u,hu,rv⟩:=r.get ha
  have hp:ps[i]?=some y:=by
   rw [<-S.pre,List.getElem?_take_of_lt (by omega)];exact h1
  have ndP:ps.Nodup:=by rw [<-S.pre];exact S.nd.sublist (List.take_sublist _ _)
  refine⟨u,rv,?_⟩
  rcases S.par y (List.mem_of_getElem? hp) with k|k
  ·exact .inl ⟨k,qEC ndP hp hu k⟩
  ·obtain⟨c,e⟩:=qFW (n:=s.heap.objs.size+1) k
   refine .inr ⟨.inl k,c,e,?_⟩
   have q:=x.cell y c e
   rw [qEE ndP hp hu (by show scope.names.lookup y≠_;rw [k];decide)] at q
   exact q
 ·exact e0.hok.fresh (Nat.le_of_lt (x.above y c (PySem.mem_of_lookup h)))
 ·unfold start
  show _=N.length
  rw [List.length_append,List.length_map,List.length_replicate]
  omega
theorem qPJ {CX:CXT}{P:Program}{w:World}{K:PySem.W.Frag}{mg:Str->Option Value}{base:Heap}{k:Nat}{f:Addr}{name qual:Str}{params:Arguments}{body:List Stmt}{scope:Scope}{dV kV doc pm cdv ct oc:Value}{an od:Option Addr}
  {osl:Array (Option Value)} {N ps:List Str} {sp:Sp} (lk:K.lookup f=some ⟨oc,od,.func (PySem.W.fnOf name qual params body scope dV kV doc pm an cdv ct),osl⟩) (hcd:PySem.W.codeIn K cdv qual=true) (S:FnScope N ps scope)
  (len:∀vs H Q E,sp vs H Q E->vs.length=ps.length)
  (hbody:∀(A:Around) (outer:List Env) (s:Shared) (H:Hp) (vs:List V) (Q:VK) (E:XK),Room k (A.deeper (envOfC qual scope s.heap.objs.size f cdv))->sp vs H Q E ->
   ∃t,PSs (qKa CX P w K mg base N qual scope f cdv A outer s H E) body t/\t { nx:=λ_ H'=>Q .non H',rt:=Q } (start N vs) H) :
  FnOk P w K mg base CX (k+1) f (PySem.W.fnOf name qual params body scope dV kV doc pm an cdv ct) ps sp:=by
 refine⟨len,λA outer s H args us vs Q E hr e0 hb r hsp=>?_⟩
 have hl:=len _ _ _ _ hsp
 have KX:K.In s.heap:=e0.mod.kin.keeps λb o e=>(e0.bs b o e).1
 have lim:s.heap.NoLimit:=e0.mod.nolimit.keeps λb o e=>(e0.bs b o e).1
 have hkind:∀y∈ps.zip us,scope.names.lookup y.1=some .local∨(scope.names.lookup y.1=some .cell/\((cellsFrom (s.heap.objs.size+1) scope.names []).lookup y.1).isSome=true):=λ⟨n,v⟩ hy=>by
  rcases S.par n (List.of_mem_zip hy).1 with q|q
  ·exact .inl q
  ·exact .inr ⟨q,PySem.W.cellsFrom_some _ _ _ (.inl q)⟩
 refine codeAny_call_function hr.depth (KX _ _ lk) rfl S.co S.gen rfl (PySem.W.codeRec_of KX hcd) (hb _ _ _ _ ?_)
 refine wpAny_newFunctionEnv_cells S.kind hkind λenv he s1 x=>?_
 subst he
 refine⟨lim.keeps x.toInCall.keep,codeAny_func ?_⟩
 obtain⟨t,ht,hq⟩:=hbody A outer s H vs Q E (hr.deeper _) hsp
 have I:Inv (qKa CX P w K mg base N qual scope f cdv A outer s H E) [] (start N vs) H s1:=qHr S hr.hd e0 hl r x
 refine wpAny_mono (ht [] s1 (start N vs) H _ I hq) (λfl s' hs=>?_) λe s' hs=>hs
 have fin:∀{σ':St} {H':Hp} {v:V} {u:Value},Inv (qKa CX P w K mg base N qual scope f cdv A outer s H E) [] σ' H' s'->RelV v u->Q v H'->CE outer P w H s Q u s':=
  λ{σ' H' v u} J rv q=>⟨v,H',J.os,J.bare,J.base,J.hok,rv,q⟩
 cases fl with
 | ret u =>
  obtain⟨v,σ',H',J,rv,q⟩:=hs
  exact fin J rv q
 | next =>
  obtain⟨σ',H',J,q⟩:=hs
  exact fin (v:=V.non) (u:=Value.none) J rfl q
 | brk =>
  obtain⟨_,_,_,q⟩:=hs
  exact False.elim q
 | cont =>
  obtain⟨_,_,_,q⟩:=hs
  exact False.elim q
end L2
namespace L2
open PySem PySem.Spec PyProof.Rows
section
variable {X:Cx}{x:Str}{p pos:Pos}{e:Expr}{es:List Expr}{t:TA}{id T:String}{r:List V->Hp->VK->Prop}
noncomputable def tCB (r:List V->Hp->VK->Prop) (t:TA):TE:=fun σ H Q=>t σ H λvs H1=>r vs H1 Q
theorem qFB (hc:CallR X (.builtin id) r) (hg:Gl X x) (hm:X.mg x=none) (hv:bootBuiltins x=some (.builtin id)) (ha:PA X (e::es) t) (hn:x≠"__name__":=by decide) (hdb:(x == ("__debug__":Str))=false:=by decide)
  (he:starEach (e::es) X.env=(false,eval e X.env)::starEach es X.env:=by rfl) (hpl:(backTo pos (starEach es X.env)).any (·.1)=false:=by rfl):PE X (.Call (.Name x p) (e::es) [] pos) (tCB r t):=by
 intro pins s σ H Q I h
 refine wpAny_Call_Name_kw (qDc I hg hm hv ?_ hn hdb)
 exact PyProof.Rows.callWith_builtin1 (thn (ha pos pins s σ H _ I h) λus s1 ⟨vs,H1,I1,r1,q1⟩=>hc pins s1 σ H1 vs us Q I1 r1 q1) he hpl
theorem qG7 (hc:CallR X (.type T) r) (hg:Gl X x) (hm:X.mg x=none) (hv:bootBuiltins x=some (.type T)) (ha:PA X (e::es) t) (hn:x≠"__name__":=by decide) (hdb:(x == ("__debug__":Str))=false:=by decide)
  (he:starEach (e::es) X.env=(false,eval e X.env)::starEach es X.env:=by rfl) (hpl:(backTo pos (starEach es X.env)).any (·.1)=false:=by rfl):PE X (.Call (.Name x p) (e::es) [] pos) (tCB r t):=by
 intro pins s σ H Q I h
 refine wpAny_Call_Name_kw (qDc I hg hm hv ?_ hn hdb)
 exact PyProof.Rows.callWith_type1 (thn (ha pos pins s σ H _ I h) λus s1 ⟨vs,H1,I1,r1,q1⟩=>hc pins s1 σ H1 vs us Q I1 r1 q1) he hpl
end
end L2
namespace HT
open PySem PyProof.Rows
section
variable {prog:Program}{w:World}{A:Around}{E:Value->Shared->Prop}{s:Shared}
theorem cat_tup {t b:Addr}{vs ws:List Value}{Q:Value->Shared->Prop}(ht:IsTup s.heap t vs.toArray) (hb:IsTup s.heap b ws.toArray) (hv:vs≠[])
  (h1:ws=[]->Q (.ref t) s) (h2:ws≠[]->Q (.ref s.heap.objs.size) { s with heap:=s.heap.push { cls:=.type "tuple",data:=.seq (vs++ws).toArray } })
  (hsz:vs.length+ws.length<=sizeLine):wpAny (model prog w) A (binaryOp .Add (.ref t) (.ref b)) Q E s:=by
 obtain⟨⟨cls,dd,data,sl⟩,ho,hc,n,hd⟩:=id ht
 obtain⟨⟨cls2,dd2,data2,sl2⟩,ho2,hc2,n2,hd2⟩:=id hb
 simp only at hc hd hc2 hd2
 subst hc hd hc2 hd2
 have e:vs.toArray++ws.toArray=(vs++ws).toArray:=by simp
 by_cases hw:ws=[]
 ·exact concat_meets ⟨_,ho,rfl⟩ ⟨_,ho2,rfl⟩ noFill_tuple_add seq_tuple_add PySem.F.slot_tuple_add PySem.F.entry_tuple_add (PySem.F.args_tuple_add_2 _ _)
   (tuple_addW1 t b vs.toArray ws.toArray n n2 dd dd2 sl sl2 (by simpa using hv) (by simp [hw])) ⟨ho,ho2,h1 hw⟩
 ·refine concat_meets ⟨_,ho,rfl⟩ ⟨_,ho2,rfl⟩ noFill_tuple_add seq_tuple_add PySem.F.slot_tuple_add PySem.F.entry_tuple_add (PySem.F.args_tuple_add_2 _ _)
   (tuple_addW2 t b vs.toArray ws.toArray n n2 dd dd2 sl sl2 (by simpa using hv) (by simpa using hw) (by rw [List.size_toArray,List.size_toArray];exact hsz)) ⟨ho,ho2,?_⟩
  rw [e]
  exact h2 hw
noncomputable def sIx (n d:Nat):Option Int->Nat
 | none=>d
 | some v=>if v<0 then (v+(n:Int)).toNat else min v.toNat n
theorem qMP (n d:Nat) (hd:d<=n) (o:Option Int):sIx n d o<=n:=by
 cases o with
 | none=>exact hd
 | some v =>
  show (if v<0 then (v+(n:Int)).toNat else min v.toNat n)<=n
  by_cases hv:v<0
  ·rw [if_pos hv];omega
  ·rw [if_neg hv];exact Nat.min_le_right _ _
theorem clip_eq (v:Int) (n d:Nat):(if v<0 then max (v+(n:Int)) 0 else min v (n:Int))=((sIx n d (some v):Nat):Int):=by
 show (if v<0 then max (v+(n:Int)) 0 else min v (n:Int))=(((if v<0 then (v+(n:Int)).toNat else min v.toNat n):Nat):Int)
 by_cases hv:v<0
 ·simp only [if_pos hv];omega
 ·simp only [if_neg hv];omega
theorem qGn (lo hi:Option Int) (n:Nat):Builtin.Slice.sliceAdjust lo hi 1 (n:Int)=(((sIx n 0 lo:Nat):Int),((sIx n n hi:Nat):Int)):=by
 have h1:¬((1:Int)<0):=by omega
 unfold Builtin.Slice.sliceAdjust
 simp only [h1,if_false]
 refine Prod.ext ?_ ?_
 ·cases lo with
  | none=>rfl
  | some v=>exact clip_eq v n 0
 ·cases hi with
  | none=>rfl
  | some v=>exact clip_eq v n n
theorem qGd (i j:Nat):Builtin.Slice.slicePlaces (i:Int) (j:Int) 1=j - i:=by
 unfold Builtin.Slice.slicePlaces
 have h1:(1:Int) > 0:=by omega
 simp only [h1,if_true,Int.ediv_one]
 split<;>omega
theorem qDz {v:Value}{o:Option Int}{Q:Option Int->Shared->Prop}(p:IsPart v o) (h:Q o s):wpAny (model prog w) A (Builtin.Slice.slicePartIndex v) Q E s:=by
 cases p with
 | none=>exact slicePart_none h
 | int i t=>exact slicePart_int h
theorem qBR {sl:Addr}{vl vu:Value}{lo hi:Option Int}{n:Nat}{Q:Int×Int×Nat->Shared->Prop}(hs:s.heap.IsSliceOf sl vl vu .none) (pl:IsPart vl lo) (pu:IsPart vu hi)
  (h:Q (((sIx n 0 lo:Nat):Int),1,sIx n n hi - sIx n 0 lo) s):wpAny (model prog w) A (Builtin.Slice.sliceApplied (.ref sl) (pure (n:Int))) Q E s:=by
 obtain⟨os,hos,hcs,hds⟩:=id hs
 unfold Builtin.Slice.sliceApplied Builtin.Slice.sliceFields
 refine wpAny_bind (wpAny_bind (wpAny_field hos hds (x:=vl) rfl (wpAny_bind (wpAny_field hos hds (x:=vu) rfl (wpAny_bind (wpAny_field hos hds (x:=.none) rfl (wpAny_pure ?_)))))))
 refine wpAny_bind (slicePart_none ?_)
 show wpAny _ _ (if ((1:Int) == 0)=true then _ else _) _ _ s
 rw [if_neg (by decide)]
 refine wpAny_bind (qDz pl (wpAny_bind (qDz pu (wpAny_bind (wpAny_pure ?_)))))
 show wpAny _ _ (match Builtin.Slice.sliceAdjust lo hi 1 (n:Int) with|(lo,hi)=>pure (lo,(1:Int),Builtin.Slice.slicePlaces lo hi 1)) _ _ s
 rw [qGn lo hi n]
 show wpAny _ _ (pure (((sIx n 0 lo:Nat):Int),(1:Int),Builtin.Slice.slicePlaces ((sIx n 0 lo:Nat):Int) ((sIx n n hi:Nat):Int) 1)) _ _ s
 rw [qGd]
 exact wpAny_pure h
theorem qIT (xs:Array Value) (i k:Nat):((List.range k).filterMap λ(m:Nat)=>xs[((i:Int)+(m:Int) * 1).toNat]?).toArray=((xs.toList.drop i).take k).toArray:=by
 have e:(λ(m:Nat)=>xs[((i:Int)+(m:Int) * 1).toNat]?)=λm=>xs[i+m]?:=by
  funext m
  have:((i:Int)+(m:Int) * 1).toNat=i+m:=by omega
  rw [this]
 rw [e]
 have:=pick_run xs i k
 rw [List.filterMap_map] at this
 have e2:((λx=>xs[x]?) ∘ λx=>i+x)=λm=>xs[i+m]?:=rfl
 rw [e2] at this
 rw [this]
theorem getItem_tuple_cut {t sl:Addr}{items:Array Value}{vl vu:Value}{lo hi:Option Int}{Q:Value->Shared->Prop}(ht:IsTup s.heap t items) (hs:s.heap.IsSliceOf sl vl vu .none) (pl:IsPart vl lo) (pu:IsPart vu hi)
  (hw:¬(sIx items.size 0 lo=0/\sIx items.size items.size hi=items.size))
  (h:Q (.ref s.heap.objs.size) { s with heap:=s.heap.push { cls:=.type "tuple",data:=.seq ((items.toList.drop (sIx items.size 0 lo)).take (sIx items.size items.size hi - sIx items.size 0 lo)).toArray } })
  (hsz:items.size<=sizeLine):wpAny (model prog w) A (getItem (.ref t) (.ref sl)) Q E s:=by
 have htake:sizeOk (.seq ((items.toList.drop (sIx items.size 0 lo)).take (sIx items.size items.size hi - sIx items.size 0 lo)).toArray):=by
  show ((items.toList.drop (sIx items.size 0 lo)).take (sIx items.size items.size hi - sIx items.size 0 lo)).toArray.size<=sizeLine
  rw [List.size_toArray,List.length_take,List.length_drop,Array.length_toList]
  omega
 have hj:sIx items.size items.size hi<=items.size:=qMP _ _ (Nat.le_refl _) hi
 obtain⟨os,hos,hcs,hds⟩:=id hs
 have hTs:s.TypeIs (.ref sl) "slice":=⟨os,hos,hcs⟩
 unfold getItem
 try with_reducible refine wpAny_holding ?_
 first|refine wpAny_bind (wpAny_pure ?_)|skip
 refine wpAny_bind (wpAny_sequenceKey ht.typeIs (by decide) ?_)
 refine wpAny_bind (wpAny_callSpecial?_slot (name:=Str.ofString "__getitem__") ht.typeIs PyProof.Rows.slot_tuple_getitem
  (wpAny_call_entry PyProof.Rows.slot_tuple_getitem ht.typeIs entry_tuple_getitem ?_ (args_tuple_getitem _ _)))
 show wpAny _ _ (Builtin.Tuple.tupleItemsOf (.ref t) >>= _) _ _ s
 refine wpAny_bind (tupleItemsOf_ ht ?_)
 refine wpAny_bind (wpAny_typeOf hTs ?_)
 rw [if_pos (by decide)]
 refine wpAny_bind (qBR hs pl pu ?_)
 have hno:¬((((sIx items.size 0 lo:Nat):Int) == 0&&(1:Int) == 1&&(sIx items.size items.size hi - sIx items.size 0 lo) == items.size)=true):=by
  intro q
  rw [Bool.and_eq_true,Bool.and_eq_true] at q
  have q1:((sIx items.size 0 lo:Nat):Int)=0:=eq_of_beq q.1.1
  have q2:sIx items.size items.size hi - sIx items.size 0 lo=items.size:=eq_of_beq q.2
  exact hw ⟨by omega,by omega⟩
 show wpAny _ _ (if (((sIx items.size 0 lo:Nat):Int) == 0&&(1:Int) == 1&&(sIx items.size items.size hi - sIx items.size 0 lo) == items.size)=true then _ else _) _ _ s
 rw [if_neg hno,qIT]
 first
  | exact wpAny_bind (m:=Builtin.Tuple.tupleExact _) (wpAny_newObj_type (wpAny_pure ⟨_,rfl,wpAny_pure h⟩) htake)
  | exact wpAny_bind (m:=Builtin.Tuple.tupleExact _) (wpAny_newObj_type (wpAny_bind (wpAny_pure (wpAny_pure ⟨_,rfl,wpAny_pure h⟩))) htake)
  | exact wpAny_bind (wpAny_bind (m:=Builtin.Tuple.tupleExact _) (wpAny_newObj_type (wpAny_pure (wpAny_pure ⟨_,rfl,wpAny_pure h⟩)) htake))
  | exact wpAny_bind (wpAny_bind (m:=Builtin.Tuple.tupleExact _) (wpAny_newObj_type (wpAny_pure ⟨_,rfl,wpAny_pure h⟩) htake))
end
end HT
namespace L2
open PySem PySem.Spec PyProof.Rows
noncomputable abbrev TO:=St->Hp->(Option Int->Hp->Prop)->Prop
noncomputable def PO (X:Cx) (e:Option Expr) (t:TO):Prop:=
 ∀(pins:List (Addr×Obj)) (s:Shared) (σ:St) (H:Hp) (Q:Option Int->Hp->Prop),Inv X pins σ H s->t σ H Q ->
   wpAny (model X.prog X.w) X.A (evalPart e X.env) (λu s'=>∃o H',Inv X pins σ H' s'/\IsPart u o/\Q o H') X.xe s
noncomputable def qKC:TO:=λ_ H Q=>Q none H
noncomputable def qOV (t:TE):TO:=fun σ H Q=>t σ H λx H1=>∃i,x=.int i/\Q (some i) H1
section
variable {X:Cx}{e:Expr}{te:TE}{lo hi:Option Expr}{tl th:TO}{pos p2:Pos}
theorem qK5:PO X none qKC:=by
 intro pins s σ H Q I h
 rw [evalPart_none]
 exact wpAny_pure ⟨none,H,I,.none,h⟩
theorem qK4 (h:PE X e te):PO X (some e) (qOV te):=by
 intro pins s σ H Q I hw
 rw [evalPart_some]
 refine thn (h pins s σ H _ I hw) λu s1 ⟨x,H1,I1,r1,q1⟩=>?_
 obtain⟨i,rfl,q⟩:=q1
 obtain⟨t,rfl⟩:=r1
 exact⟨some i,H1,I1,.int i t,q⟩
noncomputable def SlR (X:Cx) (r:V->Option Int->Option Int->Hp->VK->Prop):Prop:=
 ∀(pins:List (Addr×Obj)) (s:Shared) (σ:St) (H:Hp) (x:V) (v vl vu:Value) (lo hi:Option Int) (sl:Addr) (Q:VK),Inv X pins σ H s->RelV x v->s.heap.IsSliceOf sl vl vu .none->IsPart vl lo->IsPart vu hi->r x lo hi H Q ->
   ∃T id,typeLookup (.type T) "__getitem__"=pure (some (.builtin id))/\s.TypeIs v T/\wpAny (model X.prog X.w) X.A (getItem v (.ref sl)) (EP X pins σ Q) X.xe s
theorem SlR.or {r r':V->Option Int->Option Int->Hp->VK->Prop}(h:SlR X r) (h':SlR X r'):SlR X (λx lo hi H Q=>r x lo hi H Q∨r' x lo hi H Q):=by
 intro pins s σ H x v vl vu lo hi sl Q I rx hs pl pu q
 rcases q with q|q
 ·exact h pins s σ H x v vl vu lo hi sl Q I rx hs pl pu q
 ·exact h' pins s σ H x v vl vu lo hi sl Q I rx hs pl pu q
noncomputable def tSl (r:V->Option Int->Option Int->Hp->VK->Prop) (te:TE) (tl th:TO):TE:=fun σ H Q=>te σ H λx H1=>tl σ H1 λl H2=>th σ H2 λu H3=>r x l u H3 Q
theorem qIU {r:V->Option Int->Option Int->Hp->VK->Prop}(hr:SlR X r) (he:PE X e te) (hl:PO X lo tl) (hu:PO X hi th):PE X (.Subscript e (.Slice lo hi none p2) pos) (tSl r te tl th):=by
 intro pins s σ H Q I h
 refine Subscript_ (thn (he pins s σ H _ I h) λv s1 ⟨x,H1,I1,r1,q1⟩=>?_)
 refine wpAny_Slice (thn (hl pins s1 σ H1 _ I1 q1) λvl s2 ⟨l,H2,I2,pl,q2⟩=>thn (hu pins s2 σ H2 _ I2 q2) λvu s3 ⟨u,H3,I3,pu,q3⟩=>?_)
 rw [evalPart_none]
 refine wpAny_pure ?_
 have I4:Inv X pins σ H3 { s3 with heap:=s3.heap.push { cls:=.type "slice",data:=.fields #[vl,vu,.none] } }:=I3.kept (t':=s3.toks) λb ob q=>Heap.get?_push_of_some _ q
 obtain⟨T,id,hT,ht,hg⟩:=hr pins { s3 with heap:=s3.heap.push { cls:=.type "slice",data:=.fields #[vl,vu,.none] } } σ H3 x v vl vu l u s3.heap.objs.size Q I4 r1 (Heap.IsSliceOf.new ..) pl pu q3
 show wpAny (model X.prog X.w) X.A (subscriptTail e (.Slice lo hi none p2) v (.ref s3.heap.objs.size)) (EP X pins σ Q) X.xe { s3 with heap:=s3.heap.push { cls:=.type "slice",data:=.fields #[vl,vu,.none] } }
 exact tail_any (ops:=[.ref s3.heap.objs.size,v]) ht hT hg (by with_unfolding_all rfl)
noncomputable def qKb (xs:List V) (lo hi:Option Int):List V:=(xs.drop (HT.sIx xs.length 0 lo)).take (HT.sIx xs.length xs.length hi - HT.sIx xs.length 0 lo)
theorem qDp (xs:List V) (lo hi:Option Int):(qKb xs lo hi).length<=xs.length:=by
 unfold qKb
 rw [List.length_take,List.length_drop]
 omega
noncomputable def qQI (K:PySem.W.Frag):V->Option Int->Option Int->Hp->VK->Prop:=λx lo hi H Q=>∃a xs,x=.ref a/\SqT K H a xs /\
 ¬(HT.sIx xs.length 0 lo=0/\HT.sIx xs.length xs.length hi=xs.length)/\∀p,H p=none->Q (.ref p) (upd H p (.tup (qKb xs lo hi)))
theorem qMM:SlR X (qQI X.K):=by
 intro pins s σ H x v vl vu lo hi sl Q I rx hs pl pu h
 obtain⟨a,xs,rfl,hx,hw,q⟩:=h
 cases rx
 obtain⟨its,r,ht,hz⟩:=I.tuple hx
 have hlen:its.toArray.size=xs.length:=by rw [List.size_toArray];exact r.length.symm
 refine⟨"tuple",_,PyProof.Rows.slot_tuple_getitem.lookup,ht.typeIs,?_⟩
 refine HT.getItem_tuple_cut ht hs pl pu (by rw [hlen];exact hw) ?_ (by rw [hlen];exact hz)
 rw [hlen]
 refine⟨.ref s.heap.objs.size,_,I.laid (t':=s.toks) (o:=.tup (qKb xs lo hi)) (λb ob q=>Heap.get?_push_of_some _ q) (Nat.le_refl _) ?_,rfl,q _ (I.hok.fresh (Nat.le_refl _))⟩
 exact⟨Nat.le_trans (qDp xs lo hi) hz,_,(r.drop (HT.sIx xs.length 0 lo)).take (HT.sIx xs.length xs.length hi - HT.sIx xs.length 0 lo),IsTup.new _ _⟩
noncomputable def qO8 (K:PySem.W.Frag):R2:=λx y H Q=>∃a b xs ys,x=.ref a/\y=.ref b/\SqT K H a xs/\SqT K H b ys/\xs≠[]/\xs.length+ys.length<=sizeLine /\
 (ys=[]->Q (.ref a) H)/\(ys≠[]->∀p,H p=none->Q (.ref p) (upd H p (.tup (xs++ys))))
theorem Vals.nil_iff {xs:List V}{us:List Value}(r:Vals xs us):us=[]↔xs=[]:=by
 cases r with
 | nil=>simp
 | cons _ _=>simp
theorem qLp:OpR X (binaryOp .Add) (qO8 X.K):=by
 intro pins s σ H x y v u Q I rx ry h
 obtain⟨a,b,xs,ys,rfl,rfl,ha,hb,hx,hz,q1,q2⟩:=h
 cases rx
 cases ry
 obtain⟨its,r1,p1,_⟩:=I.tuple ha
 obtain⟨its2,r2,p2,_⟩:=I.tuple hb
 refine HT.cat_tup p1 p2 (λz=>hx (r1.nil_iff.mp z)) (λz=>⟨.ref a,H,I,rfl,q1 (r2.nil_iff.mp z)⟩) (λz=>?_) (by rw [<-r1.length,<-r2.length];exact hz)
 refine⟨.ref s.heap.objs.size,_,I.laid (t':=s.toks) (o:=.tup (xs++ys)) (λb ob q=>Heap.get?_push_of_some _ q) (Nat.le_refl _) ?_,rfl,q2 (λw=>z (r2.nil_iff.mpr w)) _ (I.hok.fresh (Nat.le_refl _))⟩
 exact⟨by rw [List.length_append];exact hz,_,r1.append r2,IsTup.new _ _⟩
end
end L2
namespace L2
open PySem PySem.Spec PyProof.Rows
noncomputable def ixN (n:Nat) (i:Int):Option Nat:=if 0<=i then (if i<n then some i.toNat else none) else if -(n:Int)<=i then some (i+n).toNat else none
noncomputable def atI {α:Type}(xs:List α) (i:Int):Option α:=(ixN xs.length i).bind λj=>xs[j]?
theorem qLE {n:Nat}{i:Int}{j:Nat}(h:ixN n i=some j):seqIndex? i n=some j/\j<n/\-(n:Int)<=i/\i<n:=by
 unfold ixN at h
 by_cases h0:0<=i
 ·rw [if_pos h0] at h
  by_cases h1:i<n
  ·rw [if_pos h1] at h
   have e:i.toNat=j:=Option.some.inj h
   exact⟨by rw [seqIndex_of h0 h1,e],by omega,by omega,h1⟩
  ·rw [if_neg h1] at h;cases h
 ·rw [if_neg h0] at h
  by_cases h1:-(n:Int)<=i
  ·rw [if_pos h1] at h
   have e:(i+n).toNat=j:=Option.some.inj h
   exact⟨by rw [seqIndex_neg (by omega) h1,e],by omega,h1,by omega⟩
  ·rw [if_neg h1] at h;cases h
theorem qIh {α:Type}{xs:List α}{i:Int}{v:α}(h:atI xs i=some v):∃j,seqIndex? i xs.length=some j/\xs[j]?=some v/\j<xs.length/\-(xs.length:Int)<=i/\i<xs.length:=by
 unfold atI at h
 cases e:ixN xs.length i with
 | none=>rw [e] at h;cases h
 | some j =>
  rw [e] at h
  obtain⟨h1,h2,h3,h4⟩:=qLE e
  exact⟨j,h1,h,h2,h3,h4⟩
noncomputable def qFj (b:Expr):Prop:=∀o i,subscripted b false o i=operate [o,i] (getItem o i)
noncomputable def IxR (X:Cx) (r:R2):Prop:=
 ∀(value slice:Expr) (pins:List (Addr×Obj)) (s:Shared) (σ:St) (H:Hp) (x y:V) (v u:Value) (Q:VK),Inv X pins σ H s->RelV x v->RelV y u->r x y H Q ->
   subscripted slice false v u=operate [v,u] (getItem v u)->wpAny (model X.prog X.w) X.A (subscriptTail value slice v u) (EP X pins σ Q) X.xe s
noncomputable def MtR (X:Cx) (id:String) (r:V->List V->Hp->VK->Prop):Prop:=
 ∀(pins:List (Addr×Obj)) (s:Shared) (σ:St) (H:Hp) (x:V) (xs:List V) (v:Value) (us:List Value) (Q:VK),Inv X pins σ H s->RelV x v->Vals xs us->r x xs H Q ->
   wpAny (model X.prog X.w) X.A (call (.builtin id) (v::us)) (EP X pins σ Q) X.xe s
section
variable {X:Cx}{a b:Expr}{ta tb:TE}{pos:Pos}
theorem IxR.or {r r':R2}(h:IxR X r) (h':IxR X r'):IxR X (λx y H Q=>r x y H Q∨r' x y H Q):=by
 intro value slice pins s σ H x y v u Q I rx ry q hs
 rcases q with q|q
 ·exact h value slice pins s σ H x y v u Q I rx ry q hs
 ·exact h' value slice pins s σ H x y v u Q I rx ry q hs
theorem qPg {r:R2}(hr:IxR X r) (ha:PE X a ta) (hb:PE X b tb) (hs:qFj b):PE X (.Subscript a b pos) (tOp r ta tb):=by
 intro pins s σ H Q I h
 exact Subscript_ (qPQ ha hb I h λv u s2 x y H2 I2 rx ry q=>hr a b pins s2 σ H2 x y v u Q I2 rx ry q (hs _ _))
noncomputable def qQN (K:PySem.W.Frag):R2:=λx y H Q=>∃p xs i v,x=.ref p/\y=.int i/\SqL K H p xs/\atI xs i=some v/\Q v H
noncomputable def qQM (K:PySem.W.Frag):R2:=λx y H Q=>∃p xs i v,x=.ref p/\y=.int i/\SqT K H p xs/\atI xs i=some v/\Q v H
theorem ix_list:IxR X (qQN X.K):=by
 intro value slice pins s σ H x y v u Q I rx ry h hs
 obtain⟨p,xs,i,z,rfl,rfl,hq,he,q⟩:=h
 cases rx
 obtain⟨t,rfl⟩:=ry
 obtain⟨its,r,pl,hz⟩:=I.list hq
 obtain⟨j,h1,h2,h3,h4,h5⟩:=qIh he
 obtain⟨w,ew,rw'⟩:=r.get h2
 have hl:=r.length
 have hn:=qHk
 have fin:EP X pins σ Q w s:=⟨z,H,I,rw',q⟩
 by_cases h0:0<=i
 ·have hj:i.toNat=j:=by
   rw [seqIndex_of h0 h5] at h1
   exact Option.some.inj h1
  exact item_listR pl.isList h0 (by omega) (by rw [hj];simpa using ew) fin hs
 ·have hj:(i+(its.toArray.size:Int)).toNat=j:=by
   rw [seqIndex_neg (by omega) h4] at h1
   rw [List.size_toArray,<-hl]
   exact Option.some.inj h1
  exact subscriptTail_builtinR (x:=w) pl.isList.typeIs slot_list_getitem.lookup
   (wpAny_getItem_list_neg (Q:=λr s'=>r=w/\EP X pins σ Q r s') pl.isList (by omega) (by rw [List.size_toArray]<;>omega) (by omega) (by rw [hj];simpa using ew) ⟨rfl,fin⟩) hs
theorem qNR:IxR X (qQM X.K):=by
 intro value slice pins s σ H x y v u Q I rx ry h hs
 obtain⟨p,xs,i,z,rfl,rfl,hq,he,q⟩:=h
 cases rx
 obtain⟨t,rfl⟩:=ry
 obtain⟨its,r,pl,hz⟩:=I.tuple hq
 obtain⟨j,h1,h2,h3,h4,h5⟩:=qIh he
 obtain⟨w,ew,rw'⟩:=r.get h2
 have hl:=r.length
 have hn:=qHk
 have fin:EP X pins σ Q w s:=⟨z,H,I,rw',q⟩
 exact subscriptTail_builtinR (x:=w) pl.typeIs slot_tuple_getitem.lookup
  (getItem_tuple (j:=j) (Q:=λr s'=>r=w/\EP X pins σ Q r s') pl (by omega) (by omega) (by rw [List.size_toArray,<-hl];exact h1) (by simpa using ew) ⟨rfl,fin⟩) hs
theorem qEh (lo hi:Option Int) (n:Nat):(sliceBounds lo hi none n).1=((HT.sIx n 0 lo:Nat):Int)/\(sliceBounds lo hi none n).2.1=((HT.sIx n n hi:Nat):Int)/\(sliceBounds lo hi none n).2.2=1:=by
 refine⟨?_,?_,rfl⟩
 ·cases lo with
  | none=>simp [sliceBounds,HT.sIx]
  | some i =>
   simp only [sliceBounds,HT.sIx,Option.getD_none,show (1:Int) > 0 by decide,if_true]
   by_cases h:i<0
   ·simp only [h,if_true]<;>omega
   ·simp only [h,if_false]<;>omega
 ·cases hi with
  | none=>simp [sliceBounds,HT.sIx]
  | some i =>
   simp only [sliceBounds,HT.sIx,Option.getD_none,show (1:Int) > 0 by decide,if_true]
   by_cases h:i<0
   ·simp only [h,if_true]<;>omega
   ·simp only [h,if_false]<;>omega
theorem qDM (its:List Value) (lo hi:Option Int):slicePick its.toArray lo hi none=((its.drop (HT.sIx its.length 0 lo)).take (HT.sIx its.length its.length hi - HT.sIx its.length 0 lo)).toArray:=by
 obtain⟨h1,h2,h3⟩:=qEh lo hi its.toArray.size
 unfold slicePick
 rw [h1,h2,h3]
 simp only [sliceRange_one,pick_run,List.size_toArray]<;>rfl
noncomputable def qQJ (K:PySem.W.Frag):V->Option Int->Option Int->Hp->VK->Prop:=λx lo hi H Q=>∃a xs,x=.ref a/\SqL K H a xs/\∀p,H p=none->Q (.ref p) (upd H p (.lst (qKb xs lo hi)))
theorem sl_list:SlR X (qQJ X.K):=by
 intro pins s σ H x v vl vu lo hi sl Q I rx hs pl pu h
 obtain⟨a,xs,rfl,hx,q⟩:=h
 cases rx
 obtain⟨its,r,ht,hz⟩:=I.list hx
 have hlen:=r.length
 refine⟨"list",_,slot_list_getitem.lookup,ht.isList.typeIs,?_⟩
 refine wpAny_getItem_list_slice ht.isList hs pl pu .none (by simp) ?_ (by rw [List.size_toArray]<;>omega)
 rw [qDM,<-hlen]
 refine⟨.ref s.heap.objs.size,_,I.laid (t':=s.toks) (o:=.lst (qKb xs lo hi)) (λb ob q=>Heap.get?_push_of_some _ q) (Nat.le_refl _) ?_,rfl,q _ (I.hok.fresh (Nat.le_refl _))⟩
 exact⟨Nat.le_trans (qDp xs lo hi) hz,_,0,(r.drop (HT.sIx xs.length 0 lo)).take (HT.sIx xs.length xs.length hi - HT.sIx xs.length 0 lo),Heap.get?_push_size _ rfl⟩
noncomputable def eqV:V->V->Bool
 | .non,.non=>true
 | .bl a,.bl b=>a == b
 | .bl a,.int b=>(if a then 1 else 0) == b
 | .int a,.bl b=>a == (if b then 1 else 0)
 | .int a,.int b=>a == b
 | .str a,.str b=>a == b
 | _,_=>false
noncomputable def inV (x:V) (xs:List V):Bool:=xs.any λy=>eqV y x
theorem qEz:CallR X (.builtin "len") (λxs H Q=>∃p ys,xs=[.ref p]/\(SqL X.K H p ys∨SqT X.K H p ys)/\Q (.int ys.length) H):=by
 intro pins s σ H xs us Q I r h
 obtain⟨p,ys,rfl,hq,q⟩:=h
 obtain⟨u,rfl,rx⟩:=qDH r
 cases rx
 have hn:=qHk
 rcases hq with hq|hq
 ·obtain⟨its,r',pl,hz⟩:=I.list hq
  have hlen:=r'.length
  exact Calls.call_len_list pl.isList (by simp only [List.size_toArray]<;>omega) ⟨.int ys.length,H,I.tok _,⟨s.toks+1,by rw [List.size_toArray,hlen]⟩,q⟩
 ·obtain⟨its,r',pl,hz⟩:=I.tuple hq
  have hlen:=r'.length
  exact len_tuple pl (by simp only [List.size_toArray]<;>omega) ⟨.int ys.length,H,I.tok _,⟨s.toks+1,by rw [List.size_toArray,hlen]⟩,q⟩
theorem CallR.or {f:Value}{r r':List V->Hp->VK->Prop}(h:CallR X f r) (h':CallR X f r'):CallR X f (λxs H Q=>r xs H Q∨r' xs H Q):=by
 intro pins s σ H xs us Q I rs q
 rcases q with q|q
 ·exact h pins s σ H xs us Q I rs q
 ·exact h' pins s σ H xs us Q I rs q
theorem qEy:CallR X (.type "list") (λxs H Q=>∃p ys,xs=[.ref p]/\(SqL X.K H p ys∨SqT X.K H p ys)/\∀l,H l=none->Q (.ref l) (upd H l (.lst ys))):=by
 intro pins s σ H xs us Q I r h
 obtain⟨p,ys,rfl,hq,q⟩:=h
 obtain⟨u,rfl,rx⟩:=qDH r
 cases rx
 have fin:∀(its:List Value),Vals ys its->ys.length<=sizeLine->∀(h':Heap) (c':Nat),(∀b o',s.heap.get? b=some o'->h'.get? b=some o') ->
   h'.get? s.heap.objs.size=some { cls:=.type "list",dict:=none,data:=.seq its.toArray c',slots:=#[] }->EP X pins σ Q (.ref s.heap.objs.size) { s with heap:=h' }:=λits r' hz h' c' kp e =>
  ⟨.ref s.heap.objs.size,_,I.laid (t':=s.toks) kp (Nat.le_refl _) (show ObjOk X.prog X.w _ h' _ (.lst ys) from ⟨hz,its,c',r',e⟩),rfl,q _ (I.hok.fresh (Nat.le_refl _))⟩
 rcases hq with hq|hq
 ·obtain⟨its,r',pl,hz⟩:=I.list hq
  have hlen:=r'.length
  obtain⟨o,ho,hc,n,hd⟩:=pl.isList
  exact call_list_seq p (.inl rfl) ho hc hd (λh' c' kp e=>fin its r' hz h' c' kp e) (by simp only [List.size_toArray]<;>omega)
 ·obtain⟨its,r',pl,hz⟩:=I.tuple hq
  have hlen:=r'.length
  obtain⟨o,ho,hc,n,hd⟩:=pl
  exact call_list_seq p (.inr rfl) ho hc hd (λh' c' kp e=>fin its r' hz h' c' kp e) (by simp only [List.size_toArray]<;>omega)
theorem qDY:CallR X (.type "tuple") (λxs H Q=>∃p ys,xs=[.ref p]/\((SqL X.K H p ys/\∀l,H l=none->Q (.ref l) (upd H l (.tup ys)))∨(SqT X.K H p ys/\Q (.ref p) H))):=by
 intro pins s σ H xs us Q I r h
 obtain⟨p,ys,rfl,h⟩:=h
 obtain⟨u,rfl,rx⟩:=qDH r
 cases rx
 rcases h with ⟨hq,q⟩|⟨hq,q⟩
 ·obtain⟨its,r',pl,hz⟩:=I.list hq
  have hlen:=r'.length
  refine call_tuple_list pl.isList (λh' kp=>?_) (by simp only [List.size_toArray]<;>omega)
  have I1:Inv X pins σ H { s with heap:=h' }:=I.kept (t':=s.toks) kp
  have I2:Inv X pins σ (upd H h'.objs.size (.tup ys)) { s with heap:=h'.push { cls:=.type "tuple",data:=.seq its.toArray } }:=
   I1.laid (t':=s.toks) (λb o e=>Heap.get?_push_of_some _ e) (Nat.le_refl _) (show ObjOk X.prog X.w _ _ _ (.tup ys) from ⟨hz,its,r',IsTup.new _ _⟩)
  exact⟨.ref h'.objs.size,_,I2,rfl,q _ (I1.hok.fresh (Nat.le_refl _))⟩
 ·obtain⟨its,r',pl,hz⟩:=I.tuple hq
  exact call_tuple_same pl ⟨.ref p,H,I,rfl,q⟩
noncomputable def tyV (K:PySem.W.Frag) (T:String) (x:V) (H:Hp):Prop:=match x with
 | .str _=>T="str"
 | .int _=>T="int"
 | .ref p=>(T="list"/\∃xs,SqL K H p xs)∨(T="tuple"/\∃o,K.lookup p=some o/\o.cls=.type "tuple"/\o.dict=none) ∨
   (T="dict"/\((∃kvs,H p=some (.dK kvs))∨∃kvs,H p=some (.dT kvs)))∨(T="set"/\∃S n,H p=some (.set S n))
 | _=>False
theorem qJI {pins:List (Addr×Obj)}{σ:St}{H:Hp}{s:Shared}{T:String}{x:V}{v:Value}(I:Inv X pins σ H s) (r:RelV x v) (ty:tyV X.K T x H) :
  s.TypeIs v T/\∀a,v=.ref a->∃ob,s.heap.get? a=some ob/\ob.dict=none:=by
 cases x with
 | str z =>
  obtain⟨t,rfl⟩:=r
  cases (show T="str" from ty)
  exact⟨typeIs_str s z t,λ_ e=>nomatch e⟩
 | int i =>
  obtain⟨t,rfl⟩:=r
  cases (show T="int" from ty)
  exact⟨typeIs_int s i t,λ_ e=>nomatch e⟩
 | ref p =>
  cases r
  rcases ty with ⟨rfl,xs,hq⟩|⟨rfl,o,hk,hc,hd⟩|⟨rfl,hk⟩|⟨rfl,S,n,hk⟩
  ·obtain⟨its,_,pl,_⟩:=I.list hq
   refine⟨pl.isList.typeIs,λa e=>?_⟩
   cases e
   obtain⟨o,n,e,c,hd,_⟩:=pl
   exact⟨o,e,hd⟩
  ·refine⟨⟨o,I.kIn p o hk,hc⟩,λa e=>?_⟩
   cases e
   exact⟨o,I.kIn _ o hk,hd⟩
  ·have z:∃o,s.heap.get? p=some o/\o.ExactDict:=by
    rcases hk with ⟨kvs,hk⟩|⟨kvs,hk⟩
    ·obtain⟨_,_,_,_,o,_,_,e,ex,_⟩:=I.hok p _ hk
     exact⟨o,e,ex⟩
    ·obtain⟨_,_,_,_,o,_,_,e,ex,_⟩:=I.hok p _ hk
     exact⟨o,e,ex⟩
   obtain⟨o,e,ex⟩:=z
   refine⟨⟨o,e,ex.1⟩,λa e2=>?_⟩
   cases e2
   exact⟨o,e,ex.2.1⟩
  ·obtain⟨o,_,_,_,e,ex,_⟩:=I.hok p _ hk
   refine⟨⟨o,e,ex.1⟩,λa e2=>?_⟩
   cases e2
   exact⟨o,e,ex.2.1⟩
 | _=>exact False.elim ty
noncomputable def qQC (K:PySem.W.Frag) (T:String) (r:V->List V->Hp->VK->Prop) (to:TE):TE:=fun σ H Q=>to σ H λx H1=>tyV K T x H1/\r x [] H1 Q
noncomputable def tBM (K:PySem.W.Frag) (T:String) (r:V->List V->Hp->VK->Prop) (to:TE) (t:TA):TE:=fun σ H Q=>to σ H λx H1=>tyV K T x H1/\t σ H1 λxs H2=>r x xs H2 Q
variable {o e:Expr}{es:List Expr}{to:TE}{t:TA}{name:Str}{apos cpos:Pos}{T id:String}{r:V->List V->Hp->VK->Prop}
theorem qNh (pa:PlainAttrs T) (slot:Slot T name id) (hty:typeOf (.builtin id)=pure (.type "method_descriptor")) (hm:MtR X id r) (ho:PE X o to)
  (hbase:attributeBase o name X.env (eval o X.env)=eval o X.env:=by rfl) (hline:(apos.endLine == cpos.line)=true:=by rfl):PE X (.Call (.Attribute o name apos) [] [] cpos) (qQC X.K T r to):=by
 intro pins s σ H Q I h
 refine wpAny_Call_method0_late hbase hline (thn (ho pins s σ H _ I h) λv s1 ⟨x,H1,I1,r1,ty,q1⟩=>?_)
 obtain⟨h1,h2⟩:=qJI I1 r1 ty
 exact⟨T,id,pa,slot,hty,h1,h2,Calls.callWith_builtin rfl (PySem.evalArgs_none (hm pins s1 σ H1 x [] v [] Q I1 r1 .nil q1))⟩
theorem qPi (pa:PlainAttrs T) (slot:Slot T name id) (hty:typeOf (.builtin id)=pure (.type "method_descriptor")) (hm:MtR X id r) (ho:PE X o to) (ha:PA X (e::es) t)
  (hbase:attributeBase o name X.env (eval o X.env)=eval o X.env:=by rfl)
  (hfew:((backTo cpos (starEach (e::es) X.env)).all (λx=>!x.1)&&(backToKw cpos (keywordEach [] X.env)).all (λx=>x.1.isSome)
   && decide ((e::es).length+([]:List Keyword).length+(if ([]:List Keyword).isEmpty then 0 else 1)<30))=true:=by rfl)
  (hline:(apos.endLine == cpos.line)=true:=by rfl) (hs:starEach (e::es) X.env=(false,eval e X.env)::starEach es X.env:=by rfl) (hplain:(backTo cpos (starEach es X.env)).any (·.1)=false:=by rfl) :
  PE X (.Call (.Attribute o name apos) (e::es) [] cpos) (tBM X.K T r to t):=by
 intro pins s σ H Q I h
 refine wpAny_Call_method_late hbase hfew hline rfl (thn (ho pins s σ H _ I h) λv s1 ⟨x,H1,I1,r1,ty,q1⟩=>?_)
 obtain⟨h1,h2⟩:=qJI I1 r1 ty
 refine⟨T,id,pa,slot,hty,h1,h2,?_⟩
 have hA:=ha cpos pins s1 σ H1 _ I1 q1
 rw [hs] at hA ⊢
 refine Calls.callWith_builtin (by show (false||(backTo cpos (starEach es X.env)).any (·.1))=false;rw [hplain]<;>rfl) (Calls.evalArgs_plain ?_)
 exact thn hA λus s2 ⟨vs,H2,I2,r2,q2⟩=>hm pins s2 σ H2 x vs v us Q I2 r1 r2 q2
end
end L2
namespace L2
open PySem PySem.Spec PyProof.Rows
noncomputable def MtM (X:Cx) (id:String) (r:V->List V->Hp->VK->Prop):Prop:=
 ∀(pins:List (Addr×Obj)) (s:Shared) (σ:St) (H:Hp) (x:V) (xs:List V) (v:Value) (us:List Value) (Q:VK),Inv X pins σ H s->RelV x v->Vals xs us->r x xs H Q ->
   wpAny (model X.prog X.w) X.A (call (.builtin id) (v::us)) (EP X pins σ Q) X.xe s
theorem Vals.one:∀{x:V}{us:List Value},Vals [x] us->∃u,us=[u]/\RelV x u
 | _,_,.cons r .nil=>⟨_,rfl,r⟩
theorem Vals.zero:∀{us:List Value},Vals [] us->us=[]
 | _,.nil=>rfl
theorem Vals.dropLast {xs:List V}{us:List Value}(h:Vals xs us):Vals xs.dropLast us.dropLast:=by
 induction h with
 | nil=>exact .nil
 | cons r t ih =>
  cases t with
  | nil=>exact .nil
  | cons q t'=>exact .cons r ih
theorem Vals.rep {xs:List V}{us:List Value}(h:Vals xs us):∀k:Nat,Vals (List.replicate k xs).flatten (List.replicate k us).flatten
 | 0=>.nil
 | k+1=>by
  rw [List.replicate_succ,List.replicate_succ,List.flatten_cons,List.flatten_cons]
  exact Vals.append h (Vals.rep h k)
theorem qGl {α:Type}(l:List α):l.eraseIdx (l.length - 1)=l.dropLast:=by
 induction l with
 | nil=>rfl
 | cons a r ih =>
  cases r with
  | nil=>rfl
  | cons b r =>
   have e:(a::b::r).length - 1=((b::r).length - 1)+1:=by
    have h1:(a::b::r).length=r.length+2:=rfl
    have h2:(b::r).length=r.length+1:=rfl
    omega
   rw [e,List.eraseIdx_cons_succ,ih]
   all_goals rfl
theorem qEr (its:List Value):∀(k:Nat) (acc:List Value),
  List.foldl (λx1 x2=>x1++x2) acc.toArray (List.replicate k its.toArray)=(acc++(List.replicate k its).flatten).toArray
 | 0,acc=>by simp
 | k+1,acc=>by
  have e:acc.toArray++its.toArray=(acc++its).toArray:=by simp
  have e2:(acc++its)++(List.replicate k its).flatten=acc++(List.replicate (k+1) its).flatten:=by
   rw [List.replicate_succ,List.flatten_cons,List.append_assoc]
  rw [<-e2,<-qEr its k (acc++its),<-e,List.replicate_succ,List.foldl_cons]
section
variable {X:Cx}{pins:List (Addr×Obj)}{σ:St}{H:Hp}{s:Shared}{l b:Addr}{xs ys zs:List V}
theorem Inv.lset {its its':List Value}{n:Nat}{f:Array Value->Array Value}{t':Nat}(I:Inv X pins σ H s) (hH:H l=some (.lst xs))
  (e:s.heap.get? l=some { cls:=.type "list",data:=.seq its.toArray n }) (hf:f its.toArray=its'.toArray) (hv:Vals ys its') (hz:ys.length<=sizeLine) :
  Inv X pins σ (upd H l (.lst ys)) { s with heap:=s.heap.update l (Obj.mapSeq f),toks:=t' }:=by
 have q:=PySem.IsL.update e f
 rw [hf] at q
 refine I.write (x:=l) (e:=l) (by rw [hH];exact trivial) (.inl rfl) (λb' u hb hu=>(Heap.get?_update_other s.heap (Obj.mapSeq f) (Ne.symm hb)).trans hu) ⟨_,q⟩ ?_
 exact⟨hz,its',_,hv,q⟩
theorem Inv.lnew {its:List Value}{t':Nat}(I:Inv X pins σ H s) (hv:Vals ys its) (hz:ys.length<=sizeLine) :
  Inv X pins σ (upd H s.heap.objs.size (.lst ys)) { s with heap:=s.heap.push { cls:=.type "list",data:=.seq its.toArray },toks:=t' }:=
 I.laid (λ_ _ q=>Heap.get?_push_of_some _ q) (Nat.le_refl _) ⟨hz,its,0,hv,Heap.get?_push_size _ rfl⟩
theorem Inv.fresh (I:Inv X pins σ H s):H s.heap.objs.size=none:=I.hok.fresh (Nat.le_refl _)
theorem Inv.lstM (I:Inv X pins σ H s) (hH:H l=some (.lst xs)):xs.length<=sizeLine/\∃(its:List Value) (n:Nat),Vals xs its/\xs.length=its.length/\s.heap.get? l=some { cls:=.type "list",data:=.seq its.toArray n }:=by
 obtain⟨z,its,n,r,e⟩:=I.hok l _ hH
 exact⟨z,its,n,r,r.length,e⟩
theorem qI3 {n:Nat}(h:n<=sizeLine):Builtin.List.listTooLong n=false:=by
 unfold Builtin.List.listTooLong
 exact decide_eq_false (by omega)
end
section
variable {X:Cx}
noncomputable def qK2:V->List V->Hp->VK->Prop:=λx vs H Q=>∃l xs y,x=.ref l/\vs=[y]/\H l=some (.lst xs)/\xs.length<sizeLine/\Q .non (upd H l (.lst (xs++[y])))
theorem qC6:MtM X "list.append" qK2:=by
 intro pins s σ H x vs v us Q I rx rv h
 obtain⟨l,xs,y,rfl,rfl,hH,hz,q⟩:=h
 cases rx
 obtain⟨u,rfl,ru⟩:=rv.one
 obtain⟨z,its,n,r,hl,e⟩:=I.lstM hH
 refine call_meets F.slot_list_append ⟨_,e,rfl⟩ F.entry_list_append (F.args_list_append_2 _ _) (PySem.list_append l its.toArray n u (by rw [List.size_toArray];omega)) ⟨e,?_⟩
 refine⟨.non,_,I.lset (its':=its++[u]) hH e (by simp) (r.append (.cons ru .nil)) ?_,rfl,q⟩
 rw [List.length_append,List.length_singleton]
 omega
noncomputable def qQL:V->List V->Hp->VK->Prop:=λx vs H Q=>∃l xs y,x=.ref l/\vs=[]/\H l=some (.lst xs)/\xs[xs.length - 1]?=some y/\Q y (upd H l (.lst xs.dropLast))
theorem qNB:MtM X "list.pop" qQL:=by
 intro pins s σ H x vs v us Q I rx rv h
 obtain⟨l,xs,y,rfl,rfl,hH,hy,q⟩:=h
 cases rx
 have hus:=rv.zero
 subst hus
 obtain⟨z,its,n,r,hl,e⟩:=I.lstM hH
 obtain⟨u,hu,ru⟩:=r.get hy
 have hy':its.toArray[its.toArray.size - 1]?=some u:=by
  show its.toArray[its.length - 1]?=some u
  rw [<-Array.getElem?_toList,<-hl]
  exact hu
 refine call_meets F.slot_list_pop ⟨_,e,rfl⟩ F.entry_list_pop (F.args_list_pop_1 _) (MeetsSeq.list_pop_last l its.toArray n u hy' (by rw [List.size_toArray];omega)) ⟨e,?_⟩
 refine⟨y,_,I.lset (its':=its.dropLast) hH e ?_ r.dropLast ?_,ru,q⟩
 ·show its.toArray.eraseIdxIfInBounds (its.toArray.size - 1)=its.dropLast.toArray
  rw [List.size_toArray,List.eraseIdxIfInBounds_toArray,qGl]
 ·rw [List.length_dropLast]
  omega
theorem qLA {α:Type}(xs:List α) (k:Nat):(List.replicate k xs).flatten.length=k * xs.length:=by
 induction k with
 | zero=>simp
 | succ k ih=>rw [List.replicate_succ,List.flatten_cons,List.length_append,ih,Nat.succ_mul,Nat.add_comm]
end
end L2
namespace Att
open PySem PySem.W PySem.Calls PyProof.Rows
theorem qDf {P:Params}{h:Heap}:∀(ns:List Int) (vs:List Value),WellAll P h vs (ns.map WData.int)->IntsAre vs ns:=by
 intro ns
 induction ns with
 | nil =>
  intro vs w
  rw [List.map_nil] at w
  cases w
  exact .nil
 | cons n ns ih =>
  intro vs w
  rw [List.map_cons] at w
  cases w with
  | cons a b =>
   cases a
   exact .cons _ _ (ih _ b)
theorem script_of {l:OpenLaw}{n:Nat}(hn:l.most=some n) {P:Params}{h:Heap}{args:List WData}{vals:List Value}
  (hpre:l.row.toRowW.claim.pre args=true) (hwl:WellAll P h vals args) :
  ∃a vs ns,vals=[Value.ref a]/\args=[WData.list (ns.map WData.int)]/\h.get? a=some { cls:=.type "list",data:=.seq vs.toArray }/\IntsAre vs ns/\ns.length<=n:=by
 have hsh:WShape.hasAll [] args [.list .int]=true:=(pre_splitW hpre).1
 have hc:l.pre.holds [] { args:=args }=true:=(pre_splitW hpre).2
 obtain⟨d,r,rfl,h1,h2⟩:=hasAllW_cons hsh
 obtain rfl:=hasAllW_nil h2
 obtain⟨xs,rfl,h3⟩:=hasW_list h1
 obtain⟨ns,rfl⟩:=items_int h3
 have hlen:ns.length<=n:=by
  unfold OpenLaw.pre at hc
  have h4:(WTm.not (.lt (.lit (.int (n:Int))) (.len (.arg 0)))).holds [] { args:=[.list (ns.map .int)] }=true:=by
   have h4:=(holds_andW hc).1
   rw [hn] at h4
   exact h4
  have h5:=condW_of h4 (w_not (w_lt w_lit (w_len_list (w_arg rfl))))
  rw [List.length_map] at h5
  refine Nat.le_of_not_lt λq=>?_
  have q':(n:Int)<((ns.length:Nat):Int):=by omega
  first
   | (rw [decide_eq_true q'] at h5;exact absurd h5 (by decide))
   | (simp at h5;omega)
 cases hwl with
 | cons w1 w2 =>
  cases w2
  cases w1 with
  | list ho hall=>exact⟨_,_,ns,rfl,rfl,ho,qDf ns _ hall,hlen⟩
theorem post_true (l:OpenLaw) (args:List WData):l.row.toRowW.claim.post args (.bool true) args=true:=
 postW_of (r:=l.row.toRowW) (X:=(true == true))
  (show WShape.has [] (.bool true) .bool=true by first|rfl|decide|simp [WShape.has,WShape.arms,WShape.armsAll])
  (show (WTm.eq .res (.lit (.bool true))).value [] { args:=args,res:=some (.bool true),after:=args }=some (.bool (true == true)) from w_eq_bool (w_res rfl) w_lit) rfl
end Att
namespace L2
open PySem PySem.Spec PyProof.Rows
theorem qD8:∀{vs:List Value}{ns:List Int},IntsAre vs ns->Vals (ns.map V.int) vs
 | _,_,.nil=>.nil
 | _,_,.cons n t h=>.cons ⟨t,rfl⟩ (qD8 h)
noncomputable def qQm (H:Hp):Prop:=∀b,H b=none∨∃o xs,H b=some (.frz o (.lst xs))
theorem law_call {P:Program}{w:World}{K:PySem.W.Frag}{mg mb:Str->Option Value}{CX:CXT}{k:Nat}{fa a:Addr}{fd:FuncData}{x:Str}{sp:Sp}{s₁:Shared}{vs:List Value}{ns:List Int}
  (KX:K.In s₁.heap) (hns:s₁.heap.Ns mainGlobals mg) (hb:s₁.heap.Ns builtinsNs mb) (hbb:∀x:Str,x≠"__name__"->mb x=bootBuiltins x) (hlim:s₁.heap.NoLimit) (hg:s₁.gens=#[])
  (ha:s₁.heap.get? a=some { cls:=.type "list",data:=.seq vs.toArray }) (hi:IntsAre vs ns) (hl:ns.length<=sizeLine) (hr:Room k callerA)
  (F:∀base:Heap,K.In base->base.Ns mainGlobals mg->FnOk P w K mg base CX k fa fd [x] sp) (hbind:∀(s:Shared) (u:Value),BindsTo s fd ⟨[u],[]⟩ [(x,u)])
  (hsp:∀H:Hp,qQm H->SqL K H a (ns.map V.int)->sp [.ref a] H (λv _=>v=.bl true) λ_ _ _=>False)
  (hCX:∀H e s',CX [] H s₁ (λ_ _ _=>False) e s'->False) :
  codeAny (model P w) callerA (.call (.ref fa) ⟨[.ref a],[]⟩) (λr s'=>r=.ok (.ret (.bool true))/\OldK s₁.heap s'.heap/\s'.os=s₁.os/\AllBare s'.gens) s₁:=by
 have rv:=qD8 hi
 have lenV:=hi.length
 have core:∀H:Hp,qQm H->SqL K H a (ns.map V.int)->HOk P w H s₁.heap->(∀b,H b≠none->b=a)->(H a≠none->K.lookup a=none) ->
   codeAny (model P w) callerA (.call (.ref fa) ⟨[.ref a],[]⟩) (λr s'=>r=.ok (.ret (.bool true))/\OldK s₁.heap s'.heap/\s'.os=s₁.os/\AllBare s'.gens) s₁:=by
  intro H hO hS hok hA hK
  have base_of:∀{b:Addr} {o:Obj},s₁.heap.get? b=some o->H b=none->(qJi s₁.heap H).get? b=some o:=λe n=>qJh e n
  have noA:∀{b:Addr} {o:Obj} {es:Array DictEntry} {ep:Nat},s₁.heap.get? b=some o->o.data=.dict es ep->H b=none:=λ{b o es ep} e d=>by
   cases q:H b with
   | none=>rfl
   | some u =>
    have e':b=a:=hA b (by rw [q];simp)
    subst e'
    rw [ha] at e;cases e
    have d':Data.seq vs.toArray _=Data.dict es ep:=d
    cases d'
  have nsK:∀{b:Addr} {m:Str->Option Value},s₁.heap.Ns b m->(qJi s₁.heap H).Ns b m:=λ{b m} ⟨o,es,ep,e,d,r⟩=>⟨o,es,ep,base_of e (noA e d),d,r⟩
  have hKb:K.In (qJi s₁.heap H):=λb o e=>base_of (KX b o e) (by
   cases q:H b with
   | none=>rfl
   | some u =>
    have e':b=a:=hA b (by rw [q];simp)
    subst e'
    rw [hK (by rw [q];simp)] at e;cases e)
  have hM:Mod K mg (qJi s₁.heap H):=⟨hKb,nsK hns,⟨mb,nsK hb,hbb⟩,let ⟨mc,h1,h2⟩:=hlim;⟨mc,nsK h1,h2⟩⟩
  have e0:Env0 P w K mg (qJi s₁.heap H) callerA [] s₁ H:=⟨rfl,hM,λb o e=>qLr e,Nat.le_of_eq (qHu _ _),trivial,λb hb=>absurd (show b∈([]:List Addr) from hb) (by simp),hok,.of_eq hg⟩
  refine codeAny_mono ((F _ hKb (nsK hns)).run callerA [] s₁ H ⟨[.ref a],[]⟩ [.ref a] [.ref a] _ _ hr e0 (hbind s₁ (.ref a)) (.cons rfl .nil) (hsp H hO hS)) λr s' h=>?_
  cases r with
  | error e=>exact (hCX H e s' h).elim
  | ok fl =>
   cases fl with
   | next=>exact False.elim h
   | brk=>exact False.elim h
   | cont=>exact False.elim h
   | ret u =>
    obtain⟨v,H',os,bare,un,hok',r',q⟩:=h
    have q':v=.bl true:=q
    subst q'
    obtain rfl:u=Value.bool true:=r'
    refine⟨rfl,OldK.of_keep λb o e=>?_,os,bare⟩
    cases q:H b with
    | none=>exact un.keep b o e q (by intro z;exact absurd (show b∈([]:List Addr) from z) (by simp)) (by simp)
    | some u =>
     rcases hO b with z|⟨ob,xs,z⟩
     ·rw [q] at z;cases z
     ·have z2:=un.frzs b ob _ z
      obtain⟨e1,_⟩:=hok b _ z
      obtain⟨e2,_⟩:=hok' b _ z2
      rw [e] at e1;cases e1
      exact e2
 cases hk:K.lookup a with
 | some o =>
  have e:=KX a o hk
  rw [ha] at e
  cases e
  refine core (λ_=>none) (λ_=>.inl rfl) (.inr ⟨_,vs.toArray,_,hk,rfl,rfl,rfl,by rw [List.size_toArray,lenV];exact hl,by simpa using rv⟩) (λb u z=>by have z':(none:Option HO)=some u:=z;cases z') (λb z=>absurd rfl z) λz=>absurd rfl z
 | none =>
  refine core (λb=>if b=a then some (.frz { cls:=.type "list",data:=.seq vs.toArray } (.lst (ns.map V.int))) else none) (λb=>?_) (.inl (.inr ⟨{ cls:=.type "list",data:=.seq vs.toArray },if_pos rfl⟩)) (λb u z=>?_) (λb z=>?_) λ_=>hk
  ·by_cases hb:b=a
   ·exact .inr ⟨_,_,if_pos hb⟩
   ·exact .inl (if_neg hb)
  ·by_cases hb:b=a
   ·have z':=(if_pos hb).symm.trans z
    cases z'
    subst hb
    exact⟨ha,by rw [List.length_map];exact hl,vs,_,rv,ha⟩
   ·have z':=(if_neg hb).symm.trans z
    cases z'
  ·by_cases hb:b=a
   ·exact hb
   ·exact absurd (if_neg hb) z
end L2
namespace L2
open PySem PySem.Spec PyProof.Rows
noncomputable def qB7 (s:Stmt):Arguments:=match s with
 | .FunctionDef _ a _ _ _ _ _ _ _ _=>a
 | _=>{ posonlyargs:=[],args:=[],vararg:=none,kwonlyargs:=[],kw_defaults:=[],kwarg:=none,defaults:=[] }
noncomputable def qAL (s:Stmt):List Stmt:=match s with
 | .FunctionDef _ _ b _ _ _ _ _ _ _=>b
 | _=>[]
noncomputable def qAc (s:Stmt):Scope:=match s with
 | .FunctionDef _ _ _ _ _ _ sc _ _ _=>sc
 | _=>{ kind:=.function,names:=[],isGenerator:=false,isCoroutine:=false }
noncomputable abbrev CX0:CXT:=λ_ _ _ _ _ _=>False
noncomputable abbrev E0:XK:=λ_ _ _=>False
theorem qG9 {X:Cx}:qDv CX0 X E0:=λ_ _ _ _ _ _ _ h=>h.elim
structure Fun (K:PySem.W.Frag) (x qual:Str) (st:Stmt) (f:Addr) (fd:FuncData):Prop where
 ex:∃(oc:Value) (od:Option Addr) (kV doc pm:Value) (an:Option Addr) (cdv ct:Value) (osl:Array (Option Value)),
  fd=PySem.W.fnOf x qual (qB7 st) (qAL st) (qAc st) .none kV doc pm an cdv ct/\K.lookup f=some ⟨oc,od,.func fd,osl⟩/\PySem.W.codeIn K cdv qual=true
 kp:PySem.W.keepIn K (.ref f)=true
section
variable {P:Program}{w:World}{K:PySem.W.Frag}{mg:Str->Option Value}{base:Heap}
theorem Fun.binds {x qual:Str}{st:Stmt}{f:Addr}{fd:FuncData}{ps:List Str}(F:Fun K x qual st f fd)
  (h:∀(kV doc pm:Value) (an:Option Addr) (cdv ct:Value) (us:List Value),us.length=ps.length->bindArgs (PySem.W.fnOf x qual (qB7 st) (qAL st) (qAc st) .none kV doc pm an cdv ct) ⟨us,[]⟩=pure (ps.zip us)):Binds K fd ps []:=by
 obtain⟨oc,od,kV,doc,pm,an,cdv,ct,osl,rfl,lk,hcd⟩:=F.ex
 exact .all (h kV doc pm an cdv ct)
theorem qEp {x qual:Str}{st:Stmt}{f:Addr}{oc:Value}{od an:Option Addr}{osl:Array (Option Value)}{kV doc pm cdv ct:Value}(l:K.lookup f=some ⟨oc,od,.func (PySem.W.fnOf x qual (qB7 st) (qAL st) (qAc st) .none kV doc pm an cdv ct),osl⟩)
  (c:PySem.W.codeIn K cdv qual=true) (k:PySem.W.keepIn K (.ref f)=true):Fun K x qual st f (PySem.W.fnOf x qual (qB7 st) (qAL st) (qAc st) .none kV doc pm an cdv ct):=⟨⟨oc,od,kV,doc,pm,an,cdv,ct,osl,rfl,l,c⟩,k⟩
end
theorem qQe {A B:Prop}(h:B):if false=true then A else B:=by
 rw [if_neg Bool.false_ne_true]
 exact h
theorem qQc {A B:Prop}(h:A):if true=true then A else B:=by
 rw [if_pos rfl]
 exact h
noncomputable def Same (H H':Hp):Prop:=∀b o,H b=some o->H' b=some o
theorem Same.refl (H:Hp):Same H H:=λ_ _ h=>h
theorem Same.trans {H H1 H2:Hp}(a:Same H H1) (b:Same H1 H2):Same H H2:=λc o h=>b c o (a c o h)
theorem Same.free {H H':Hp}(e:Same H H') {l:Addr}(h:H' l=Option.none):H l=Option.none:=by
 cases q:H l with
 | none=>rfl
 | some o =>
  rw [e l o q] at h
  cases h
end L2
namespace L2
open PySem PySem.Spec PyProof.Rows
section
variable {κ:Type} [DecidableEq κ]
noncomputable def qF2 (kvs:List (κ×V)) (k:κ):Option V:=(kvs.find? λkv=>decide (kv.1=k)).map (·.2)
theorem qDI {p:κ×V}{r:List (κ×V)}{k:κ}(e:p.1=k):qF2 (p::r) k=some p.2:=by simp [qF2,List.find?_cons,e]
theorem qDJ {p:κ×V}{r:List (κ×V)}{k:κ}(e:¬p.1=k):qF2 (p::r) k=qF2 r k:=by simp [qF2,List.find?_cons,e]
theorem qFl (k:κ):∀kvs:List (κ×V),(kvs.any λkv=>decide (kv.1=k))=(qF2 kvs k).isSome
 | []=>rfl
 | p::r=>by
  rw [List.any_cons]
  by_cases e:p.1=k
  ·simp only [qDI e,decide_eq_true e,Bool.true_or,Option.isSome_some]
  ·rw [qDJ e,decide_eq_false e,Bool.false_or];exact qFl k r
theorem RelO.isSome_eq {o:Option V}{u:Option Value}(r:RelO o u):o.isSome=u.isSome:=by
 cases o with
 | none=>cases u with
  | none=>rfl
  | some _=>exact (show False from r).elim
 | some _=>cases u with
  | none=>exact (show False from r).elim
  | some _=>rfl
theorem KV.val {kvs:List (κ×V)}{vs:List (κ×Value)}(r:KV kvs vs) (k:κ):RelO (qF2 kvs k) (valueAt vs k):=by
 unfold KV at r
 induction r with
 | nil=>exact True.intro
 | @cons p q ps qs h t ih =>
  obtain⟨h1,h2⟩:=h
  by_cases e:p.1=k
  ·have e':q.1=k:=h1.symm.trans e
   have b:valueAt (q::qs) k=some q.2:=by simp [valueAt,List.find?_cons,e']
   rw [qDI e,b];exact h2
  ·have e':¬q.1=k:=λz=>e (h1.trans z)
   have b:valueAt (q::qs) k=valueAt qs k:=by simp [valueAt,List.find?_cons,e']
   rw [qDJ e,b];exact ih
end
theorem qLD {P:Program}{w:World}{k:Key}{u:Value}(r:RelV (kV k) u):(qBw P w).is k u=true:=by
 cases k with
 | inl i=>obtain⟨t,e⟩:=(show ∃t,u=Value.int i t from r);subst e;exact qE0 P w i t
 | inr x=>obtain⟨t,e⟩:=(show ∃t,u=Value.str x t from r);subst e;exact qEZ P w x t
theorem qEk {P:Program}{w:World}:∀{ks:List Key}{us:List Value},Vals (ks.map kV) us->ItemsAre (qBw P w) ks us
 | [],_,r=>by rw [List.map_nil] at r;cases r;exact .nil
 | k::ks,_,r=>by
  rw [List.map_cons] at r
  cases r with
  | cons h t=>exact .cons (qLD h) (qEk t)
noncomputable abbrev KT (H:Hp):List (List Key×V)->List (List Key×Addr×Value)->Prop:=Paired λp q=>p.1=q.1/\H q.2.1=some (.tup (p.1.map kV))/\RelV p.2 q.2.2
theorem KT.val {H:Hp}{kvs:List (List Key×V)}{xs:List (List Key×Addr×Value)}(r:KT H kvs xs) (k:List Key):RelO (qF2 kvs k) ((atKey xs k).map (·.2)):=by
 induction r with
 | nil=>exact True.intro
 | @cons p q ps qs h t ih =>
  obtain⟨h1,_,h2⟩:=h
  by_cases e:p.1=k
  ·have e':q.1=k:=h1.symm.trans e
   have b:atKey (q::qs) k=some q.2:=by simp [atKey,List.find?_cons,e']
   rw [qDI e,b];exact h2
  ·have e':¬q.1=k:=λz=>e (h1.trans z)
   have b:atKey (q::qs) k=atKey qs k:=by simp [atKey,List.find?_cons,e']
   rw [qDJ e,b];exact ih
section
variable {P:Program}{w:World}{H:Hp}{h:Heap}{a:Addr}
theorem qMU {u:HO}(ok:HOk P w H h) (e:Rd H a u):ObjOk P w H h a u:=e.ok ok
theorem qN6 {kvs:List (Key×V)}(ok:HOk P w H h) (e:Rd H a (.dK kvs)):kvs.length<=sizeLine/\(a == sysModules)=false/\∃vs,KV kvs vs/\h.DictOf (qBw P w) a vs:=
 show ObjOk P w H h a (.dK kvs) from qMU ok e
theorem qHl {ks:List Key}(ok:HOk P w H h) (e:H a=some (.tup (ks.map kV))):(tupleKind (qBw P w)).is h ks a:=by
 obtain⟨_,its,r,o,h1,h2,n,h3⟩:=(show ObjOk P w H h a (.tup (ks.map kV)) from ok a _ e)
 exact⟨o,its.toArray,n,h1,h2,h3,by simpa using qEk r⟩
theorem qN4 {kvs:List (List Key×V)}(ok:HOk P w H h) (e:Rd H a (.dT kvs)):kvs.length<=sizeLine/\(a == sysModules)=false /\
  ∃xs,KT H kvs xs/\h.DictOfH (tupleKind (qBw P w)) a xs:=by
 obtain⟨z,y,xs,r,o,es,ep,h1,h2,h3,h4,h5⟩:=(show ObjOk P w H h a (.dT kvs) from qMU ok e)
 refine⟨z,y,xs,r,o,es,ep,h1,h2,h3,h4,λx hx=>?_,h5⟩
 have all:∀{l:List (List Key×V)} {m:List (List Key×Addr×Value)},KT H l m->∀x∈m,(tupleKind (qBw P w)).is h x.1 x.2.1:=by
  intro l m q
  induction q with
  | nil=>intro x hx;exact nomatch hx
  | @cons p q ps qs hq t ih =>
   intro x hx
   rcases List.mem_cons.mp hx with e|hx
   ·subst e
    exact qHl ok (by rw [<-hq.1];exact hq.2.1)
   ·exact ih x hx
 exact all r x hx
end
noncomputable def DGet (H:Hp) (a:Addr) (y:V) (r:Option V):Prop:=
 (∃kvs k,Rd H a (.dK kvs)/\y=kV k/\r=qF2 kvs k)∨∃kvs k b,Rd H a (.dT kvs)/\y=.ref b/\H b=some (.tup (k.map kV))/\r=qF2 kvs k
theorem DGet.k {H:Hp}{a:Addr}{kvs:List (Key×V)}{k:Key}(e:H a=some (.dK kvs)):DGet H a (kV k) (qF2 kvs k):=.inl ⟨kvs,k,.inl e,rfl,rfl⟩
section
variable {X:Cx}{pins:List (Addr×Obj)}{σ:St}{H:Hp}{s:Shared}{a:Addr}{y v:V}{u r:Value}{o:Option V}{A:Around}{E:Value->Shared->Prop}
theorem qQ0 {Q:Value->Shared->Prop}(hu:A.units+1<cLine) (I:Inv X pins σ H s) (g:DGet H a y o) (ry:RelV y u) (h:∀s',Inv X pins σ H s'->Q (.bool o.isSome) s') :
  wpAny (model X.prog X.w) A (compareOp .In u (.ref a)) Q E s:=by
 rcases g with ⟨kvs,k,e,ey,l⟩|⟨kvs,k,b,e,ey,eb,l⟩
 ·subst ey
  obtain⟨z,hd,vs,rel,dd⟩:=qN6 I.hok e
  refine wpAny_in_of (qLD ry) hd dd.mapOf ?_
  rw [<-(rel.val k).isSome_eq,<-l]
  exact h _ (I.tok _)
 ·subst ey
  cases (show u=Value.ref b from ry)
  obtain⟨z,hd,xs,rel,dd⟩:=qN4 I.hok e
  refine wpAny_in_heap (tupleKind_room_in1 hu) (qHl I.hok eb) hd dd ?_
  have q:=(rel.val k).isSome_eq
  rw [Option.isSome_map] at q
  rw [<-q,<-l]
  exact h _ (I.tok _)
theorem qLS {Q:Value->Shared->Prop}(hu:A.units+1<cLine) (I:Inv X pins σ H s) (g:DGet H a y o) (ry:RelV y u) (h:∀s',Inv X pins σ H s'->Q (.bool (!o.isSome)) s') :
  wpAny (model X.prog X.w) A (compareOp .NotIn u (.ref a)) Q E s:=by
 rcases g with ⟨kvs,k,e,ey,l⟩|⟨kvs,k,b,e,ey,eb,l⟩
 ·subst ey
  obtain⟨z,hd,vs,rel,dd⟩:=qN6 I.hok e
  refine wpAny_notIn_of (qLD ry) hd dd.mapOf ?_
  rw [<-(rel.val k).isSome_eq,<-l]
  exact h _ (I.tok _)
 ·subst ey
  cases (show u=Value.ref b from ry)
  obtain⟨z,hd,xs,rel,dd⟩:=qN4 I.hok e
  refine wpAny_notIn_heap (tupleKind_room_in1 hu) (qHl I.hok eb) hd dd ?_
  have q:=(rel.val k).isSome_eq
  rw [Option.isSome_map] at q
  rw [<-q,<-l]
  exact h _ (I.tok _)
end
end L2
namespace Dw
open PySem PySem.Spec PyProof.Rows L2
noncomputable def Its (lo st:Int) (n:Nat):It:={ go:=λi _=>i<n,yld:=λi H x H'=>H'=H/\x=V.int (lo+(i:Nat) * st),stop:=λi _=>n<=i }
theorem qJP (a b c:Int):Builtin.Range.rangeSize a b c=qEJ a b c:=rfl
theorem qJQ (a b c:Int) (h:c≠0):0<=qEJ a b c/\qEJ a b c<=(b - a).natAbs:=by
 unfold qEJ
 split
 ·split
  ·have h1:0<=(b - a - 1) / c:=Int.ediv_nonneg (by omega) (by omega)
   have h2:(b - a - 1) / c<=b - a - 1:=Int.ediv_le_self _ (by omega)
   omega
  ·omega
 ·split
  ·have h1:0<=(a - b - 1) / -c:=Int.ediv_nonneg (by omega) (by omega)
   have h2:(a - b - 1) / -c<=a - b - 1:=Int.ediv_le_self _ (by omega)
   omega
  ·omega
theorem qGY {a b c:Int}(h1:-(2^62)<=a) (h2:a<2^62) (h3:-(2^62)<=b) (h4:b<2^62) (h5:c≠0) (h6:c.natAbs<2^30):Builtin.Range.small a b c=true:=by
 have hb:=qJQ a b c h5
 unfold Builtin.Range.small
 rw [qJP]
 generalize qEJ a b c=z at hb
 have f:∀x:Int,-(2^63)<=x->x<2^63->Builtin.Range.rangeFitsLong x=true:=by
  intro x p q
  simp [Builtin.Range.rangeFitsLong];omega
 rw [f a (by omega) (by omega),f b (by omega) (by omega),f c (by omega) (by omega),f z (by omega) (by omega)]
 simp only [Bool.true_and,Bool.or_eq_true]
 right
 split
 ·exact f _ (by omega) (by omega)
 ·exact f _ (by omega) (by omega)
theorem qFm {P:Program}{w:World}{K:PySem.W.Frag}{tg:Expr}(j:Addr) (lo st:Int) (n:Nat):Turn P w K tg (Its lo st n) [j] j (λi h=>IsRangeIter h j (lo+(i:Nat) * st) ((n:Int) - (i:Nat)) st) where
 mem:=by simp
 obj:=λi h y b hb=>by
  have e:b=j:=by simpa using hb
  subst e
  exact⟨_,y,λv z=>by
   have z':Data.fields _=Data.cell v:=z
   cases z'⟩
 keep:=λi h h' y k=>k j (by simp) _ y
 item:=by
  intro X hP hw hK hc i pins s σ H E I hf y hg
  subst hP hw hK
  obtain⟨u0,u1,u2,u3,u4,u5⟩:=hf j (by simp)
  have W:=Walks.range (prog:=X.prog) (w:=X.w) (I.ok.hd hc) j lo st n
  refine W.item i s _ _ hg y λv h' tk hv y' kk=>?_
  obtain⟨t,rfl⟩:=hv
  have J:Inv X pins σ H { s with heap:=h',toks:=tk }:=I.turned (λb o hb e=>kk b o (by simpa using hb) e) u0 u1 u3 u4 u5
  exact⟨_,rfl,qHw (s:={ s with heap:=h',toks:=tk }) (n:="range_iterator") y' rfl rfl (by decide) ⟨.int (lo+i * st),H,J,⟨t,rfl⟩,⟨rfl,rfl⟩,y',λb hb=>(hf b hb).1⟩⟩
 done:=by
  intro X hP hw hK hc i pins s σ H E I hf y hg
  subst hP hw hK
  obtain⟨u0,u1,u2,u3,u4,u5⟩:=hf j (by simp)
  exact wpAny_pyNext_range_end (I.ok.hd hc) y (by have:n<=i:=hg;omega) λh' eb=>⟨rfl,I.turned (t':=s.toks) (λb o hb e=>eb b o hb e) u0 u1 u3 u4 u5⟩
 self:=λ_ _ _ _ _ y h=>wpAny_pyIter_rangeiter y h
section
variable {X:Cx}{tg:Expr}
theorem qMB {pins:List (Addr×Obj)}{σ:L2.St}{H:Hp}{s:Shared}{R:It->Hp->Prop}{E:Value->Shared->Prop}{lo hi st:Int}{t u v:Tok}{tk:Nat}(I:L2.Inv X pins σ H s) (h1:-(2^62)<=lo) (h2:lo<2^62) (h3:-(2^62)<=hi) (h4:hi<2^62) (h5:st≠0) (h6:st.natAbs<2^30)
  (q:R (Its lo st (qEJ lo hi st).toNat) H):wpAny (model X.prog X.w) X.A (pyIter (.ref s.heap.objs.size)) (PIE X pins σ tg R) E { s with heap:=s.heap.push { cls:=.type "range",data:=.fields #[.int lo t,.int hi u,.int st v] },toks:=tk }:=by
 refine wpAny_pyIter_range (IsRange.new ..) (qGY h1 h2 h3 h4 h5 h6) ?_
 have J:Inv X pins σ H { s with heap:=s.heap.push { cls:=.type "range",data:=.fields #[.int lo t,.int hi u,.int st v] },toks:=tk }:=I.kept λb o e=>Heap.get?_push_of_some _ e
 refine⟨(s.heap.push { cls:=.type "range",data:=.fields #[.int lo t,.int hi u,.int st v] }).objs.size,[(s.heap.push { cls:=.type "range",data:=.fields #[.int lo t,.int hi u,.int st v] }).objs.size],_,_,H,rfl,
  J.kept (t':=tk) λb o e=>Heap.get?_push_of_some _ e,qFm _ lo st (qEJ lo hi st).toNat,?_,λb hb=>?_,q⟩
 ·have e1:lo+((0:Nat):Int) * st=lo:=by simp
  have e2:(((qEJ lo hi st).toNat:Nat):Int) - ((0:Nat):Int)=Builtin.Range.rangeSize lo hi st:=by
   have:=qJQ lo hi st h5
   rw [qJP];omega
  show IsRangeIter _ _ (lo+((0:Nat):Int) * st) ((((qEJ lo hi st).toNat:Nat):Int) - ((0:Nat):Int)) st
  rw [e1,e2]
  exact Heap.get?_push_size _ rfl
 ·have e:b=(s.heap.push { cls:=.type "range",data:=.fields #[.int lo t,.int hi u,.int st v] }).objs.size:=by simpa using hb
  subst e
  exact J.fpOk (Nat.le_refl _) (J.hok.fresh (Nat.le_refl _))
noncomputable def qPD (ta:TA):TI:=fun σ H R=>ta σ H λvs H1=>∃i j c:Int,vs=[.int i,.int j,.int c]/\(-(2^62)<=i/\i<2^62/\-(2^62)<=j/\j<2^62/\c≠0/\c.natAbs<2^30)/\R (Its i c (qEJ i j c).toNat) H1
theorem qHe (x y:Int) (h:y.natAbs<2^30):Builtin.divisionGoesByPylong x y=false:=by
 unfold Builtin.divisionGoesByPylong
 simp only [Bool.and_eq_false_iff,decide_eq_false_iff_not]
 left
 split
 ·decide
 ·have:y.natAbs.log2<30:=by
   by_cases h0:y.natAbs=0
   ·rw [h0];decide
   ·exact (Nat.log2_lt h0).mpr h
  omega
theorem qG4 {a b c:Expr}{ta:TA}{p pos:Pos}(hg:Gl X "range") (hm:X.mg "range"=none) (ha:PA X [a,b,c] ta) (hs:starEach [a,b,c] X.env=[(false,eval a X.env),(false,eval b X.env),(false,eval c X.env)]) (hs2:starEach [b,c] X.env=[(false,eval b X.env),(false,eval c X.env)]) :
  PI X tg (.Call (.Name "range" p) [a,b,c] [] pos) (qPD ta):=by
 intro pins s σ H R I h
 refine Call_ (qDc I hg hm boot_range (PyProof.Rows.callWith_type1 (thn (ha pos pins s σ H _ I h) λus s1 ⟨vs,H1,J,r1,q1⟩=>?_) (by rw [hs,hs2]) (by rw [hs2];rfl)))
 obtain⟨i,j,k,e,⟨q1,q2,q3,q4,q5,q6⟩,q⟩:=q1
 subst e
 cases r1 with
 | cons r rr =>
  cases rr with
  | cons r' rr =>
   cases rr with
   | cons r'' rr =>
    cases rr
    obtain⟨t,rfl⟩:=r
    obtain⟨t',rfl⟩:=r'
    obtain⟨t'',rfl⟩:=r''
    exact call_range_3 q5 (qMB J q1 q2 q3 q4 q5 q6 q) (.inl (qHe _ _ q6))
end
end Dw
namespace Dw
open PySem PySem.Spec PyProof.Rows L2 HT
section
variable {prog:Program}{w:World}{A:Around}{E:Value->Shared->Prop}{s:Shared}
theorem qHx {t:Addr}{items:Array Value}{Q:Bool->Shared->Prop}(ht:IsTup s.heap t items) (h:Q true s):wpAny (model prog w) A (Builtin.Tuple.tupleIsExact (.ref t)) Q E s:=by
 unfold Builtin.Tuple.tupleIsExact
 exact wpAny_bind (wpAny_typeOf ht.typeIs (wpAny_pure h))
theorem qGx {t sl:Addr}{items:Array Value}{vl vu:Value}{lo hi:Option Int}{Q:Value->Shared->Prop}(ht:IsTup s.heap t items) (hs:s.heap.IsSliceOf sl vl vu .none) (pl:IsPart vl lo) (pu:IsPart vu hi)
  (hw:sIx items.size 0 lo=0/\sIx items.size items.size hi=items.size) (h:Q (.ref t) s):wpAny (model prog w) A (getItem (.ref t) (.ref sl)) Q E s:=by
 obtain⟨os,hos,hcs,hds⟩:=id hs
 have hTs:s.TypeIs (.ref sl) "slice":=⟨os,hos,hcs⟩
 unfold getItem
 try with_reducible refine wpAny_holding ?_
 first|refine wpAny_bind (wpAny_pure ?_)|skip
 refine wpAny_bind (wpAny_sequenceKey ht.typeIs (by decide) ?_)
 refine wpAny_bind (wpAny_callSpecial?_slot (name:=Str.ofString "__getitem__") ht.typeIs PyProof.Rows.slot_tuple_getitem
  (wpAny_call_entry PyProof.Rows.slot_tuple_getitem ht.typeIs entry_tuple_getitem ?_ (args_tuple_getitem _ _)))
 show wpAny _ _ (Builtin.Tuple.tupleItemsOf (.ref t) >>= _) _ _ s
 refine wpAny_bind (tupleItemsOf_ ht (wpAny_bind (wpAny_typeOf hTs ?_)))
 rw [if_pos (by decide)]
 refine wpAny_bind (qBR hs pl pu ?_)
 have yes:(((sIx items.size 0 lo:Nat):Int) == 0&&(1:Int) == 1&&(sIx items.size items.size hi - sIx items.size 0 lo) == items.size)=true:=by
  rw [hw.1,hw.2];simp
 show wpAny _ _ (if (((sIx items.size 0 lo:Nat):Int) == 0&&(1:Int) == 1&&(sIx items.size items.size hi - sIx items.size 0 lo) == items.size)=true then _ else _) _ _ s
 rw [if_pos yes]
 refine wpAny_bind (qHx ht ?_)
 rw [if_pos rfl]
 refine wpAny_bind (wpAny_rule ?_)
 first
  | exact wpAny_bind (wpAny_pure (wpAny_pure ⟨_,rfl,wpAny_pure h⟩))
  | exact wpAny_bind (wpAny_pure ⟨_,rfl,wpAny_pure h⟩)
  | exact wpAny_pure ⟨_,rfl,wpAny_pure h⟩
end
section
variable {X:Cx}
noncomputable def qQK (K:PySem.W.Frag):V->Option Int->Option Int->Hp->VK->Prop:=λx lo hi H Q=>∃a xs,x=.ref a/\SqT K H a xs/\(HT.sIx xs.length 0 lo=0/\HT.sIx xs.length xs.length hi=xs.length)/\Q (.ref a) H
theorem qMN:SlR X (qQK X.K):=by
 intro pins s σ H x v vl vu lo hi sl Q I rx hs pl pu h
 obtain⟨a,xs,rfl,hx,hw,q⟩:=h
 cases rx
 obtain⟨its,r,ht,hz⟩:=I.tuple hx
 have hlen:its.toArray.size=xs.length:=by rw [List.size_toArray];exact r.length.symm
 exact⟨"tuple",_,PyProof.Rows.slot_tuple_getitem.lookup,ht.typeIs,qGx ht hs pl pu (by rw [hlen];exact hw) ⟨.ref a,H,I,rfl,q⟩⟩
theorem qLU {prog:Program}{w:World}{A:Around}{E:Value->Shared->Prop}{s:Shared}{t b:Addr}{ws:Array Value}{Q:Value->Shared->Prop}(ht:IsTup s.heap t #[]) (hb:IsTup s.heap b ws) (h:Q (.ref b) s):wpAny (model prog w) A (binaryOp .Add (.ref t) (.ref b)) Q E s:=by
 obtain⟨⟨cls,dd,data,sl⟩,ho,hc,n,hd⟩:=id ht
 obtain⟨⟨cls2,dd2,data2,sl2⟩,ho2,hc2,n2,hd2⟩:=id hb
 simp only at hc hd hc2 hd2
 subst hc hd hc2 hd2
 exact concat_meets ⟨_,ho,rfl⟩ ⟨_,ho2,rfl⟩ noFill_tuple_add seq_tuple_add PySem.F.slot_tuple_add PySem.F.entry_tuple_add (PySem.F.args_tuple_add_2 _ _) (tuple_addW0 t b #[] ws n n2 dd dd2 sl sl2 rfl) ⟨ho,ho2,h⟩
theorem op_catN:OpR X (binaryOp .Add) (λx y H Q=>∃a b ys,x=.ref a/\y=.ref b/\SqT X.K H a []/\SqT X.K H b ys/\Q (.ref b) H):=by
 intro pins s σ H x y v u Q I rx ry h
 obtain⟨a,b,ys,rfl,rfl,ha,hb,q⟩:=h
 cases rx
 cases ry
 obtain⟨its,r1,p1,_⟩:=I.tuple ha
 obtain⟨its2,r2,p2,_⟩:=I.tuple hb
 cases r1
 exact qLU p1 p2 ⟨.ref b,H,I,rfl,q⟩
end
end Dw
namespace Dw
open PySem PySem.Spec PyProof.Rows L2
section
variable {X:Cx}
noncomputable def tFv (te:TE):TE:=fun σ H Q=>te σ H λx H1=>∃i:Int,x=.int i/\i.natAbs.log2<1920/\Q (.str (Str.ofString (toString i))) H1
theorem qPh {e:Expr}{te:TE}{pos:Pos}(he:PE X e te):PE X (.FormattedValue e (-1) none pos) (tFv te):=by
 intro pins s σ H Q I h
 refine wpAny_FormattedValue_plain (thn (he pins s σ H _ I h) λv s1 ⟨x,H1,I1,r1,i,e1,hi,q⟩=>?_)
 subst e1
 obtain⟨t,rfl⟩:=r1
 exact wpAny_formatField_int hi ⟨.str _,H1,(I1.tok _).tok _,⟨_,rfl⟩,q⟩
noncomputable abbrev TJ:=Str->L2.St->Hp->(Str->Hp->Prop)->Prop
noncomputable def PJ (X:Cx) (es:List Expr) (t:TJ):Prop:=∀(pins:List (Addr×Obj)) (s:Shared) (σ:L2.St) (H:Hp) (acc:Str) (Q:Str->Hp->Prop),Inv X pins σ H s->t acc σ H Q ->
 Joins (model X.prog X.w) X.A X.xe (evalEach es X.env) acc (λout s'=>∃H',Inv X pins σ H' s'/\Q out H') s
noncomputable def qOR:TJ:=λacc _ H Q=>Q acc H
noncomputable def qMl (te:TE) (t:TJ):TJ:=λacc σ H Q=>te σ H λx H1=>∃y,x=.str y/\(acc++y).length<=sizeLine/\t (acc++y) σ H1 Q
theorem qM6:PJ X [] qOR:=λpins s σ H acc Q I h=>⟨H,I,h⟩
theorem qK8 {e:Expr}{es:List Expr}{te:TE}{t:TJ}(he:PE X e te) (hr:PJ X es t):PJ X (e::es) (qMl te t):=by
 intro pins s σ H acc Q I h
 refine thn (he pins s σ H _ I h) λv s1 ⟨x,H1,I1,r1,y,e1,hz,q⟩=>?_
 subst e1
 obtain⟨t',rfl⟩:=r1
 exact⟨y,t',rfl,hz,hr pins s1 σ H1 _ Q I1 q⟩
end
end Dw
namespace Dw
open PySem PySem.Spec PyProof.Rows L2
theorem qIA {P:Program}{w:World}{K:PySem.W.Frag}{tg:Expr}(j:Addr) (lo st:Int) (n:Nat):Turn P w K tg (Its lo st n) [j] j (λi h=>IsLongIter h j (lo+(i:Nat) * st) ((n:Int) - (i:Nat)) st) where
 mem:=by simp
 obj:=λi h y b hb=>by
  have e:b=j:=by simpa using hb
  subst e
  exact⟨_,y,λv z=>by
   have z':Data.fields _=Data.cell v:=z
   cases z'⟩
 keep:=λi h h' y k=>k j (by simp) _ y
 item:=by
  intro X hP hw hK hc i pins s σ H E I hf y hg
  subst hP hw hK
  obtain⟨u0,u1,u2,u3,u4,u5⟩:=hf j (by simp)
  have W:=Walks.longrange (prog:=X.prog) (w:=X.w) (I.ok.hd hc) j lo st n
  refine W.item i s _ _ hg y λv h' tk hv y' kk=>?_
  obtain⟨t,rfl⟩:=hv
  have J:Inv X pins σ H { s with heap:=h',toks:=tk }:=I.turned (λb o hb e=>kk b o (by simpa using hb) e) u0 u1 u3 u4 u5
  exact⟨_,rfl,qHw (s:={ s with heap:=h',toks:=tk }) (n:="longrange_iterator") y' rfl rfl (by decide) ⟨.int (lo+i * st),H,J,⟨t,rfl⟩,⟨rfl,rfl⟩,y',λb hb=>(hf b hb).1⟩⟩
 done:=by
  intro X hP hw hK hc i pins s σ H E I hf y hg
  subst hP hw hK
  obtain⟨u0,u1,u2,u3,u4,u5⟩:=hf j (by simp)
  exact wpAny_pyNext_long_end (I.ok.hd hc) y (by have:n<=i:=hg;omega) λh' eb=>⟨rfl,I.turned (t':=s.toks) (λb o hb e=>eb b o hb e) u0 u1 u3 u4 u5⟩
 self:=λ_ _ _ _ _ y h=>wpAny_pyIter_longiter y h
section
variable {X:Cx}{tg:Expr}
theorem qNH {pins:List (Addr×Obj)}{σ:L2.St}{H:Hp}{s:Shared}{R:It->Hp->Prop}{E:Value->Shared->Prop}{lo hi:Int}{t u v:Tok}{tk:Nat}(I:L2.Inv X pins σ H s)
  (q:R (Its lo 1 (hi - lo).toNat) H):wpAny (model X.prog X.w) X.A (pyIter (.ref s.heap.objs.size)) (PIE X pins σ tg R) E { s with heap:=s.heap.push { cls:=.type "range",data:=.fields #[.int lo t,.int hi u,.int 1 v] },toks:=tk }:=by
 have J:Inv X pins σ H { s with heap:=s.heap.push { cls:=.type "range",data:=.fields #[.int lo t,.int hi u,.int 1 v] },toks:=tk }:=I.kept λb o e=>Heap.get?_push_of_some _ e
 have e1:lo+((0:Nat):Int) * 1=lo:=by simp
 have e2:(((hi - lo).toNat:Nat):Int) - ((0:Nat):Int)=Builtin.Range.rangeSize lo hi 1:=by rw [rangeSize_one];split<;>omega
 have fp:∀b∈[(s.heap.push { cls:=.type "range",data:=.fields #[.int lo t,.int hi u,.int 1 v] }).objs.size],qD6 X pins H b:=λb hb=>by
  have e:b=(s.heap.push { cls:=.type "range",data:=.fields #[.int lo t,.int hi u,.int 1 v] }).objs.size:=by simpa using hb
  subst e
  exact J.fpOk (Nat.le_refl _) (J.hok.fresh (Nat.le_refl _))
 cases hsm:Builtin.Range.small lo hi 1 with
 | true =>
  refine wpAny_pyIter_range (IsRange.new ..) hsm ⟨_,[(s.heap.push { cls:=.type "range",data:=.fields #[.int lo t,.int hi u,.int 1 v] }).objs.size],_,_,H,rfl,J.kept (t':=tk) λb o e=>Heap.get?_push_of_some _ e,qFm _ lo 1 (hi - lo).toNat,?_,fp,q⟩
  show IsRangeIter _ _ (lo+((0:Nat):Int) * 1) ((((hi - lo).toNat:Nat):Int) - ((0:Nat):Int)) 1
  rw [e1,e2]
  exact Heap.get?_push_size _ rfl
 | false =>
  refine wpAny_pyIter_longrange (IsRange.new ..) hsm ⟨_,[(s.heap.push { cls:=.type "range",data:=.fields #[.int lo t,.int hi u,.int 1 v] }).objs.size],_,_,H,rfl,J.kept (t':=tk) λb o e=>Heap.get?_push_of_some _ e,qIA _ lo 1 (hi - lo).toNat,?_,fp,q⟩
  show IsLongIter _ _ (lo+((0:Nat):Int) * 1) ((((hi - lo).toNat:Nat):Int) - ((0:Nat):Int)) 1
  rw [e1,e2]
  exact Heap.get?_push_size _ rfl
noncomputable def qPC (ta:TA):TI:=fun σ H R=>ta σ H λvs H1=>∃i j:Int,vs=[.int i,.int j]/\R (Its i 1 (j - i).toNat) H1
theorem qG3 {a b:Expr}{ta:TA}{p pos:Pos}(hg:Gl X "range") (hm:X.mg "range"=none) (ha:PA X [a,b] ta) (hs:starEach [a,b] X.env=[(false,eval a X.env),(false,eval b X.env)]) (hs2:starEach [b] X.env=[(false,eval b X.env)]) :
  PI X tg (.Call (.Name "range" p) [a,b] [] pos) (qPC ta):=by
 intro pins s σ H R I h
 refine Call_ (qDc I hg hm boot_range (PyProof.Rows.callWith_type1 (thn (ha pos pins s σ H _ I h) λus s1 ⟨vs,H1,I1,r1,q1⟩=>?_) (by rw [hs,hs2]) (by rw [hs2];rfl)))
 obtain⟨i,j,e,q⟩:=q1
 subst e
 cases r1 with
 | cons r rr =>
  cases rr with
  | cons r' rr =>
   cases rr
   obtain⟨t,rfl⟩:=r
   obtain⟨t',rfl⟩:=r'
   exact call_range_2 (qNH I1 q)
end
end Dw
namespace Dw
open PySem PySem.Spec PyProof.Rows L2
noncomputable abbrev Fz:=Addr->Prop
noncomputable def qQ7 (K:PySem.W.Frag) (a:Addr) (xs:List V):Prop:=
 ∃(o:Obj) (its:Array Value) (n:Nat),K.lookup a=some o/\o.cls=.type "list"/\o.dict=none/\o.data=.seq its n/\its.size<=sizeLine/\Vals xs its.toList
noncomputable def LsR (K:PySem.W.Frag) (H:Hp) (F:Fz) (a:Addr) (xs:List V):Prop:=(F a/\Rd H a (.lst xs))∨qQ7 K a xs
theorem LsR.sq {K:PySem.W.Frag}{H:Hp}{F:Fz}{a:Addr}{xs:List V}(h:LsR K H F a xs):SqL K H a xs:=h.elim (λh=>.inl h.2) .inr
noncomputable def dk (ks:List Int):List (Key×V):=ks.map λk=>(Sum.inl k,V.bl true)
@[simp] noncomputable def qLH:D->Bool
 | .dct _ _=>true
 | _=>false
noncomputable def InsR (K:PySem.W.Frag) (H:Hp) (a:Addr) (kn:Kn) (vs:List V):Prop:=
 ∃(dx:Addr) (fs:List (Str×V)),H a=some (.ins kn.c dx fs)/\Cls K kn.c/\(∀(j:Nat) (f:Str),kn.ns[j]?=some f->NoAttr K kn.c f/\∃u,fs.lookup f=some u/\vs[j]?=some u)/\∀g,g∉kn.ns->fs.lookup g=none
mutual
noncomputable def RD (K:PySem.W.Frag) (H:Hp) (F:Fz):D->V->Prop
 | .non,v=>v=.non
 | .bl b,v=>v=.bl b
 | .int i,v=>v=.int i
 | .str x,v=>v=.str x
 | .tup ds,v=>∃a vs,v=.ref a/\SqT K H a vs/\RDs K H F ds vs
 | .lst ds,v=>∃a vs,v=.ref a/\LsR K H F a vs/\RDs K H F ds vs
 | .dct _ _,_=>False
 | .obj kn ds,v=>∃a vs,v=.ref a/\InsR K H a kn vs/\RDs K H F ds vs
noncomputable def RDs (K:PySem.W.Frag) (H:Hp) (F:Fz):List D->List V->Prop
 | [],vs=>vs=[]
 | d::ds,vs=>∃v r,vs=v::r/\RD K H F d v/\RDs K H F ds r
end
structure Keep (H:Hp) (F:Fz) (H':Hp) (F':Fz):Prop where
 tups:∀a xs,Rd H a (.tup xs)->Rd H' a (.tup xs)
 lsts:∀a xs,F a->Rd H a (.lst xs)->F' a/\Rd H' a (.lst xs)
 inss:∀a C dx fs,H a=some (.ins C dx fs)->H' a=some (.ins C dx fs)
theorem InsR.mono {K:PySem.W.Frag}{H H':Hp}{a:Addr}{kn:Kn}{vs:List V}(k:∀a C dx fs,H a=some (.ins C dx fs)->H' a=some (.ins C dx fs)):InsR K H a kn vs->InsR K H' a kn vs:=
 λ⟨dx,fs,h1,h2⟩=>⟨dx,fs,k _ _ _ _ h1,h2⟩
section
variable {K:PySem.W.Frag}{H H' H'':Hp}{F F' F'':Fz}
mutual
theorem RD.mono (k:Keep H F H' F'):∀{d:D}{v:V},RD K H F d v->RD K H' F' d v
 | .non,_,h=>h
 | .bl _,_,h=>h
 | .int _,_,h=>h
 | .str _,_,h=>h
 | .tup ds,v,h=>by
  simp only [RD] at h ⊢
  obtain⟨a,vs,e,hs,hr⟩:=h
  exact⟨a,vs,e,hs.elim (λz=>.inl (k.tups _ _ z)) .inr,RDs.mono k hr⟩
 | .lst ds,v,h=>by
  simp only [RD] at h ⊢
  obtain⟨a,vs,e,hs,hr⟩:=h
  exact⟨a,vs,e,hs.elim (λz=>.inl (k.lsts _ _ z.1 z.2)) .inr,RDs.mono k hr⟩
 | .dct _ _,_,h=>by simp only [RD] at h
 | .obj kn ds,v,h=>by
  simp only [RD] at h ⊢
  obtain⟨a,vs,e,hs,hr⟩:=h
  exact⟨a,vs,e,hs.mono k.inss,RDs.mono k hr⟩
theorem RDs.mono (k:Keep H F H' F'):∀{ds:List D}{vs:List V},RDs K H F ds vs->RDs K H' F' ds vs
 | [],_,h=>h
 | d::ds,vs,h=>by
  simp only [RDs] at h ⊢
  obtain⟨v,r,e,h1,h2⟩:=h
  exact⟨v,r,e,RD.mono k h1,RDs.mono k h2⟩
end
theorem RDs.length:∀{ds:List D}{vs:List V},RDs K H F ds vs->vs.length=ds.length
 | [],_,h=>by simp only [RDs] at h;subst h;rfl
 | d::ds,vs,h=>by
  simp only [RDs] at h
  obtain⟨v,r,rfl,_,h2⟩:=h
  simp [RDs.length h2]
theorem RDs.get:∀{ds:List D}{vs:List V}{i:Nat}{d:D},RDs K H F ds vs->ds[i]?=some d->∃v,vs[i]?=some v/\RD K H F d v
 | [],_,_,_,_,e=>by simp at e
 | x::ds,vs,i,d,h,e=>by
  simp only [RDs] at h
  obtain⟨v,r,rfl,h1,h2⟩:=h
  cases i with
  | zero=>simp at e;subst e;exact⟨v,rfl,h1⟩
  | succ i=>simp at e;obtain⟨w,e1,e2⟩:=RDs.get h2 e;exact⟨w,by simpa using e1,e2⟩
theorem RDs.append:∀{ds es:List D}{vs ws:List V},RDs K H F ds vs->RDs K H F es ws->RDs K H F (ds++es) (vs++ws)
 | [],_,_,_,h,h'=>by simp only [RDs] at h;subst h;exact h'
 | d::ds,es,vs,ws,h,h'=>by
  simp only [RDs] at h
  obtain⟨v,r,rfl,h1,h2⟩:=h
  exact⟨v,r++ws,rfl,h1,RDs.append h2 h'⟩
theorem RDs.take:∀{ds:List D}{vs:List V}(n:Nat),RDs K H F ds vs->RDs K H F (ds.take n) (vs.take n)
 | _,_,0,_=>by simp [RDs]
 | [],_,n+1,h=>by simp only [RDs] at h;subst h;simp [RDs]
 | d::ds,vs,n+1,h=>by
  simp only [RDs] at h
  obtain⟨v,r,rfl,h1,h2⟩:=h
  exact⟨v,r.take n,rfl,h1,RDs.take n h2⟩
theorem RDs.drop:∀{ds:List D}{vs:List V}(n:Nat),RDs K H F ds vs->RDs K H F (ds.drop n) (vs.drop n)
 | _,_,0,h=>by simpa using h
 | [],_,n+1,h=>by simp only [RDs] at h;subst h;simp [RDs]
 | d::ds,vs,n+1,h=>by
  simp only [RDs] at h
  obtain⟨v,r,rfl,h1,h2⟩:=h
  simpa using RDs.drop n h2
theorem RDs.rep {ds:List D}{vs:List V}(h:RDs K H F ds vs):∀n:Nat,RDs K H F (List.replicate n ds).flatten (List.replicate n vs).flatten
 | 0=>by simp [RDs]
 | n+1=>by simpa [List.replicate_succ] using RDs.append h (RDs.rep h n)
theorem RDs.ints:∀{ds:List D}{vs:List V}{is:List Int},RDs K H F ds vs->qCi ds=some is->vs=is.map V.int
 | [],_,_,h,e=>by simp only [RDs] at h;subst h;simp at e;subst e;rfl
 | d::ds,vs,is,h,e=>by
  simp only [RDs] at h
  obtain⟨v,r,rfl,h1,h2⟩:=h
  cases d with
  | int i =>
   cases q:qCi ds with
   | none=>simp [q] at e
   | some js =>
    simp [q] at e
    subst e
    have h1':v=.int i:=h1
    rw [h1',RDs.ints h2 q];rfl
  | _=>simp at e
theorem RDs.bls:∀{ds:List D}{vs:List V}{is:List Bool},RDs K H F ds vs->qDu ds=some is->vs=is.map V.bl
 | [],_,_,h,e=>by simp only [RDs] at h;subst h;simp at e;subst e;rfl
 | d::ds,vs,is,h,e=>by
  simp only [RDs] at h
  obtain⟨v,r,rfl,h1,h2⟩:=h
  cases d with
  | bl i =>
   cases q:qDu ds with
   | none=>simp [q] at e
   | some js =>
    simp [q] at e
    subst e
    have h1':v=.bl i:=h1
    rw [h1',RDs.bls h2 q];rfl
  | _=>simp at e
theorem RDs.of_ints (is:List Int):RDs K H F (is.map .int) (is.map V.int):=by
 induction is with
 | nil=>simp [RDs]
 | cons i r ih=>exact⟨_,_,rfl,rfl,ih⟩
end
structure Gr (H:Hp) (F:Fz) (H':Hp) (F':Fz):Prop where
 same:Same H H'
 sub:∀a,F a->F' a
 new:∀a,F' a->F a∨H a=none
 dom:∀a,H' a=none->¬F' a
section
variable {K:PySem.W.Frag}{H H1 H2:Hp}{F F1 F2:Fz}
theorem qGX {a:Addr}{u:HO}(s:Same H H1) (h:Rd H a u):Rd H1 a u:=h.elim (λz=>.inl (s _ _ z)) λ⟨o,z⟩=>.inr ⟨o,s _ _ z⟩
theorem Gr.keep (g:Gr H F H1 F1):Keep H F H1 F1:=⟨λ_ _ h=>qGX g.same h,λ_ _ f h=>⟨g.sub _ f,qGX g.same h⟩,λ_ _ _ _ h=>g.same _ _ h⟩
theorem Gr.refl (d:∀a,H a=none->¬F a):Gr H F H F:=⟨Same.refl H,λ_ h=>h,λ_ h=>.inl h,d⟩
theorem Gr.trans (g:Gr H F H1 F1) (g':Gr H1 F1 H2 F2):Gr H F H2 F2:=
 ⟨g.same.trans g'.same,λa h=>g'.sub a (g.sub a h),λa h=>(g'.new a h).elim (λz=>g.new a z) λz=>.inr (g.same.free z),g'.dom⟩
theorem Gr.laid {p:Addr}{o:HO}(d:∀a,H a=none->¬F a) (hp:H p=none):Gr H F (upd H p o) F:=
 ⟨λb u q=>by rw [qAq (qAA q hp)];exact q,λ_ h=>h,λ_ h=>.inl h,λa e=>by
  by_cases z:a=p
  ·subst z;exact d a hp
  ·rw [qAq z] at e;exact d a e⟩
theorem Gr.fz {p:Addr}{o:HO}(g:Gr H F H1 F1) (hp:H p=none) (h1:H1 p=some o):Gr H F H1 (λa=>a=p∨F1 a):=
 ⟨g.same,λa h=>.inr (g.sub a h),λa h=>h.elim (λz=>.inr (z▸hp)) (λz=>g.new a z),λa e h=>h.elim (λz=>by subst z;rw [h1] at e;cases e) (g.dom a e)⟩
noncomputable def RR (K:PySem.W.Frag) (H H':Hp) (F':Fz):R->V->Prop
 | (false,d),v=>RD K H' F' d v
 | (true,d),v=>∃a ds vs,d=.lst ds/\v=.ref a/\H a=none/\¬F' a/\H' a=some (.lst vs)/\RDs K H' F' ds vs
noncomputable def RP (K:PySem.W.Frag) (H:Hp) (F:Fz) (d:D) (v:V):Prop:=
 RD K H F d v∨∃a ds vs,d=.lst ds/\v=.ref a/\H a=some (.lst vs)/\RDs K H F ds vs
theorem RR.back {H0:Hp}{r:R}{v:V}(h:RR K H H1 F1 r v) (s:Same H0 H):RR K H0 H1 F1 r v:=by
 obtain⟨b,d⟩:=r
 cases b with
 | false=>exact h
 | true =>
  obtain⟨a,ds,vs,e1,e2,e3,e⟩:=h
  exact⟨a,ds,vs,e1,e2,s.free e3,e⟩
theorem RR.look {r:R}{v:V}(h:RR K H H1 F1 r v):RP K H1 F1 r.2 v:=by
 obtain⟨b,d⟩:=r
 cases b with
 | false=>exact .inl h
 | true =>
  obtain⟨a,ds,vs,e1,e2,e3,e4,e5,e6⟩:=h
  exact .inr ⟨a,ds,vs,e1,e2,e5,e6⟩
theorem RR.fz {r:R}{v:V}(h:RR K H H1 F1 r v) (g:Gr H F H1 F1):∃F2,Gr H F H1 F2/\RD K H1 F2 r.2 v:=by
 obtain⟨b,d⟩:=r
 cases b with
 | false=>exact⟨F1,g,h⟩
 | true =>
  obtain⟨a,ds,vs,rfl,rfl,e3,e4,e5,e6⟩:=h
  have g2:Keep H1 F1 H1 (λb=>b=a∨F1 b):=⟨λ_ _ h=>h,λ_ _ f h=>⟨.inr f,h⟩,λ_ _ _ _ h=>h⟩
  exact⟨λb=>b=a∨F1 b,g.fz e3 e5,⟨a,vs,rfl,.inl ⟨.inl rfl,.inl e5⟩,RDs.mono g2 e6⟩⟩
theorem RP.grow {d:D}{v:V}(h:RP K H F d v) (g:Gr H F H1 F1):RP K H1 F1 d v:=
 h.elim (λz=>.inl (RD.mono g.keep z)) λ⟨a,ds,vs,e1,e2,e3,e4⟩=>.inr ⟨a,ds,vs,e1,e2,g.same _ _ e3,RDs.mono g.keep e4⟩
theorem RP.int {i:Int}{v:V}(h:RP K H F (.int i) v):v=.int i:=h.elim (λz=>z) λ⟨_,_,_,e,_⟩=>by cases e
theorem RP.bl {i:Bool}{v:V}(h:RP K H F (.bl i) v):v=.bl i:=h.elim (λz=>z) λ⟨_,_,_,e,_⟩=>by cases e
theorem RP.non {v:V}(h:RP K H F .non v):v=.non:=h.elim (λz=>z) λ⟨_,_,_,e,_⟩=>by cases e
theorem RP.str {x:Str}{v:V}(h:RP K H F (.str x) v):v=.str x:=h.elim (λz=>z) λ⟨_,_,_,e,_⟩=>by cases e
theorem RP.tup {ds:List D}{v:V}(h:RP K H F (.tup ds) v):∃a vs,v=.ref a/\SqT K H a vs/\RDs K H F ds vs:=h.elim (λz=>z) λ⟨_,_,_,e,_⟩=>by cases e
theorem RP.noDct {m:Bool}{ks:List Int}{v:V}:¬RP K H F (.dct m ks) v:=λh=>h.elim (λz=>by simp only [RD] at z) λ⟨_,_,_,e,_⟩=>by cases e
theorem RP.obj {kn:Kn}{ds:List D}{v:V}(h:RP K H F (.obj kn ds) v):∃a vs,v=.ref a/\InsR K H a kn vs/\RDs K H F ds vs:=h.elim (λz=>by simpa only [RD] using z) λ⟨_,_,_,e,_⟩=>by cases e
theorem RP.lst {ds:List D}{v:V}(h:RP K H F (.lst ds) v):∃a vs,v=.ref a/\SqL K H a vs/\RDs K H F ds vs:=by
 rcases h with ⟨a,vs,e,h1,h2⟩|⟨a,ds',vs,e1,e2,e3,e4⟩
 ·exact⟨a,vs,e,h1.sq,h2⟩
 ·cases e1;exact⟨a,vs,e2,SqL.of e3,e4⟩
end
structure Gp where
 h:Hp
 pin:Option Addr
instance:Coe Gp Hp:=⟨Gp.h⟩
instance:CoeFun Gp λ_=>Addr->Option HO:=⟨Gp.h⟩
structure SR (K:PySem.W.Frag) (G:Gp) (H:Hp) (F:Fz) (σ:En) (τ:L2.St):Prop where
 len:σ.length=τ.length
 ent:Same G.h H
 dom:∀a,H a=none->¬F a
 val:∀i d,qAe σ i=some (false,d)->∃v,τ[i]?=some (some v)/\RD K H F d v
 own:∀i d,qAe σ i=some (true,d)->qLH d=false->∃a ds vs,d=.lst ds/\τ[i]?=some (some (.ref a))/\G a=none/\¬F a/\H a=some (.lst vs)/\RDs K H F ds vs
 sep:∀i j d e,qAe σ i=some (true,d)->qAe σ j=some (true,e)->τ[i]?=τ[j]?->i=j
 dct:∀i m ks,qAe σ i=some (true,.dct m ks)->∃a,τ[i]?=some (some (.ref a))/\¬F a/\H a=some (.dK (dk ks))/\(m=true->G a=none)
 pin:∀p d,G.pin=some p->qAe σ 0=some (true,d)->τ[0]?=some (some (.ref p))
theorem SR.grow {K:PySem.W.Frag}{G:Gp}{H H1:Hp}{F F1:Fz}{σ:En}{τ:L2.St}(s:SR K G H F σ τ) (g:Gr H F H1 F1):SR K G H1 F1 σ τ:=
 ⟨s.len,s.ent.trans g.same,g.dom,λi d e=>let ⟨v,h1,h2⟩:=s.val i d e;⟨v,h1,RD.mono g.keep h2⟩,
  λi d e hd=>let ⟨a,ds,vs,h1,h2,h3,h4,h5,h6⟩:=s.own i d e hd
   ⟨a,ds,vs,h1,h2,h3,(λz=>(g.new a z).elim h4 λz=>absurd (h5.symm.trans z) (by simp)),g.same _ _ h5,RDs.mono g.keep h6⟩,s.sep,
  λi m ks e=>let ⟨a,h1,h2,h3,h4⟩:=s.dct i m ks e
   ⟨a,h1,(λz=>(g.new a z).elim h2 λz=>absurd (h3.symm.trans z) (by simp)),g.same _ _ h3,h4⟩,s.pin⟩
theorem SR.addr {K:PySem.W.Frag}{G:Gp}{H:Hp}{F:Fz}{σ:En}{τ:L2.St}{i:Nat}{d:D}(s:SR K G H F σ τ) (h:qAe σ i=some (true,d)):∃a u,τ[i]?=some (some (.ref a))/\¬F a/\H a=some u:=by
 cases hd:qLH d with
 | false=>obtain⟨a,ds,vs,h1,h2,h3,h4,h5,h6⟩:=s.own i d h hd;exact⟨a,_,h2,h4,h5⟩
 | true =>
  cases d with
  | dct m ks=>obtain⟨a,h1,h2,h3,h4⟩:=s.dct i m ks h;exact⟨a,_,h1,h2,h3⟩
  | _=>cases hd
end Dw
namespace Dw
open PySem PySem.Spec PyProof.Rows L2
theorem qCs {a:Int}{n:Nat}(h:a.natAbs<2^n):Builtin.Int.intBits a<=n:=by
 unfold Builtin.Int.intBits
 split
 ·exact Nat.zero_le _
 ·rename_i hz
  have h0:a.natAbs≠0:=λz=>by
   have:a=0:=Int.natAbs_eq_zero.mp z
   subst this;simp at hz
  have:=(Nat.log2_lt h0).mpr h
  omega
theorem qNA {a b:Int}(h:qCf a b=true):IntMulOk a b:=by
 have h':=of_decide_eq_true h
 rcases h' with ⟨h1,h2⟩|h1|h1|⟨h1,h2⟩
 ·exact IntMulOk.of_bits (Nat.le_trans (qCs h1) (by decide)) (Nat.le_trans (qCs h2) (by decide))
 ·exact IntMulOk.of_left (qCs h1)
 ·exact IntMulOk.of_right (qCs h1)
 ·exact IntMulOk.of_bits (qCs h1) (qCs h2)
section
variable {X:Cx}
theorem op_mulD:OpR X (binaryOp .Mult) (rI (λi j=>qCf i j=true) λi j=>.int (i * j)):=opI λ_ _ _ _ _ _ _ hc q=>mul_int q (qNA hc)
theorem qI0:OpR X (binaryOp .FloorDiv) (rI (λ_ j=>qAW j=true) λi j=>.int (i.fdiv j)):=opI λi j _ _ _ _ _ hc q=>by
 have h:=of_decide_eq_true hc
 refine floordiv_int h.1 q (.inl (PyProof.noPylong_of_log2 ?_))
 rcases h.2 with h2|h2
 ·have:=(Nat.log2_lt (λz=>h.1 (Int.natAbs_eq_zero.mp z))).mpr h2
  omega
 ·have:=(Nat.log2_lt (λz=>h.1 (Int.natAbs_eq_zero.mp z))).mpr h2
  omega
theorem qLo:OpR X (binaryOp .Mod) (rI (λ_ j=>qAW j=true) λi j=>.int (i.fmod j)):=opI λ_ _ _ _ _ _ _ hc q=>mod_int' (of_decide_eq_true hc).1 q
theorem qLn:OpR X (binaryOp .Pow) (rI (λi j=>qCI i j=true) λi j=>.int (i^j.toNat)):=opI λi j _ _ _ _ _ hc q=>by
 obtain⟨h1,h2,h3⟩:=of_decide_eq_true hc
 refine pow_int h2 ?_ q
 have:=qCs h1
 calc (Builtin.Int.intBits i:Int) * j<=240 * 200:=Int.mul_le_mul (by exact_mod_cast this) h3 h2 (by decide)
  _<=2^27:=by decide
theorem qJc (l:Addr) (items:Array Value) (n:Nat) (sl:Array (Option Value)) (b:Addr) (items2:Array Value) (n2:Nat) (sl2:Array (Option Value)) (hc0:items.size+items2.size<=sizeLine) :
  Meets (Builtin.«list.__add__» ⟨[.ref l,.ref b],[]⟩) (λ_ R s=>s.heap.get? l=some ⟨.type "list",none,.seq items n,sl⟩/\s.heap.get? b=some ⟨.type "list",none,.seq items2 n2,sl2⟩ /\
   R (.ok (.ret (Value.ref s.heap.objs.size))) { s with heap:=s.heap.push { cls:=.type "list",data:=.seq (items++items2) } }):=
 .of_wp λprog w A R s h=>by
  obtain⟨hp,g,d,tk,os⟩:=s
  obtain⟨hl,hb,h⟩:=h
  have f3:=F.sub_list_list
  wp_walk using AutoSeq1.wpAny_loadPart' hl,AutoSeq1.wpAny_loadPart' hb
  exact⟨_,rfl,h⟩
theorem qJb (l:Addr) (items:Array Value) (n:Nat) (sl:Array (Option Value)) (x:Int) (u:Tok) (hc0:¬(!Builtin.List.listFitsIndex x)=true) (hc1:¬items.size * x.toNat > (2^63 - 1) / 8) (hc2:¬Builtin.List.listTooLong (items.size * x.toNat)=true) :
  Meets (Builtin.«list.__mul__» ⟨[.ref l,.int x u],[]⟩) (λ_ R s=>s.heap.get? l=some ⟨.type "list",none,.seq items n,sl⟩ /\
   R (.ok (.ret (Value.ref s.heap.objs.size))) { s with heap:=s.heap.push { cls:=Value.type "list",data:=Data.seq (List.foldl (λx1 x2=>x1++x2) #[] (List.replicate (if items.isEmpty=true then 0 else x.toNat) items)) } }):=
 .of_wp λprog w A R s h=>by
  obtain⟨hp,g,d,tk,os⟩:=s
  obtain⟨hl,h⟩:=h
  have hsz:=AutoListH.joined_fits hc2
  wp_walk
  refine wpAny_ite_false (decide_eq_false (Nat.not_lt.mpr hsz)) ?_
  wp_walk
  exact⟨_,rfl,h⟩
theorem qO6 (a:Int) (t:Tok) (l:Addr) (items:Array Value) (n:Nat) (sl:Array (Option Value)) :
  Meets (Builtin.«int.__rmul__» ⟨[.int a t,.ref l],[]⟩) (λ_ R s=>s.heap.get? l=some ⟨.type "list",none,.seq items n,sl⟩/\R (.ok (.ret Value.notImplemented)) s):=
 .of_wp λprog w A R s h=>by
  obtain⟨hp,g,d,tk,os⟩:=s
  obtain⟨hl,h⟩:=h
  wp_walk
  exact⟨_,rfl,h⟩
theorem Inv.lobj {pins:List (Addr×Obj)}{σ:L2.St}{H:Hp}{s:Shared}{a:Addr}{xs:List V}(I:Inv X pins σ H s) (h:SqL X.K H a xs) :
  ∃(its:List Value) (n:Nat) (sl:Array (Option Value)),Vals xs its/\xs.length=its.length/\s.heap.get? a=some ⟨.type "list",none,.seq its.toArray n,sl⟩/\xs.length<=sizeLine:=by
 obtain⟨its,r,⟨⟨c,dd,da,sl⟩,n,e,e1,e2,e3⟩,z⟩:=I.list h
 simp only at e1 e2 e3
 subst e1 e2 e3
 exact⟨its,n,sl,r,r.length,e,z⟩
noncomputable def qO9 (K:PySem.W.Frag):R2:=λx y H Q=>∃l b xs zs,x=.ref l/\y=.ref b/\SqL K H l xs/\SqL K H b zs/\xs.length+zs.length<=sizeLine/\∀p,H p=none->Q (.ref p) (upd H p (.lst (xs++zs)))
theorem op_catD:OpR X (binaryOp .Add) (qO9 X.K):=by
 intro pins s σ H x y v u Q I rx ry h
 obtain⟨l,b,xs,zs,rfl,rfl,hH,hB,hz,q⟩:=h
 cases rx
 cases ry
 obtain⟨its,n,sl,r,hl,e,z⟩:=Inv.lobj I hH
 obtain⟨its2,n2,sl2,r2,hl2,e2,z2⟩:=Inv.lobj I hB
 refine concat_meets ⟨_,e,rfl⟩ ⟨_,e2,rfl⟩ noFill_list_add seq_list_add F.slot_list_add F.entry_list_add (F.args_list_add_2 _ _)
  (qJc l its.toArray n sl b its2.toArray n2 sl2 (by rw [List.size_toArray,List.size_toArray];omega)) ⟨e,e2,?_⟩
 have ea:its.toArray++its2.toArray=(its++its2).toArray:=by simp
 rw [ea]
 exact⟨.ref _,_,I.lnew (t':=s.toks) (r.append r2) (by rw [List.length_append];omega),rfl,q _ I.fresh⟩
noncomputable def qO7 (K:PySem.W.Frag):R2:=λx y H Q=>∃l k xs,x=.ref l/\y=.int k/\SqL K H l xs/\-(2^63)<=k/\k<2^63/\xs.length * k.toNat<=sizeLine /\
 ∀p,H p=none->Q (.ref p) (upd H p (.lst (List.replicate k.toNat xs).flatten))
theorem qLm:OpR X (binaryOp .Mult) (qO7 X.K):=by
 intro pins s σ H x y v u Q I rx ry h
 obtain⟨l,k,xs,rfl,rfl,hH,h1,h2,hz,q⟩:=h
 cases rx
 obtain⟨t,rfl⟩:=ry
 obtain⟨its,n,sl,r,hl,e,z⟩:=Inv.lobj I hH
 have hlen:its.toArray.size * k.toNat<=sizeLine:=by rw [List.size_toArray,<-hl];exact hz
 have hcap:¬its.toArray.size * k.toNat > (2^63 - 1) / 8:=by
  have:(sizeLine:Nat)<=(2^63 - 1) / 8:=by decide
  omega
 have hfit:¬(!Builtin.List.listFitsIndex k)=true:=by rw [fitsIndex_both h1 h2];exact Bool.false_ne_true
 have hlong:¬Builtin.List.listTooLong (its.toArray.size * k.toNat)=true:=by rw [qI3 hlen];exact Bool.false_ne_true
 have hnew:List.foldl (λx1 x2=>x1++x2) #[] (List.replicate (if its.toArray.isEmpty=true then 0 else k.toNat) its.toArray)=(List.replicate k.toNat its).flatten.toArray:=by
  have f0:∀m:Nat,List.foldl (λx1 x2=>x1++x2) #[] (List.replicate m its.toArray)=(List.replicate m its).flatten.toArray:=λm=>by simpa using qEr its m []
  rw [f0]
  cases its with
  | nil=>simp
  | cons a r'=>rw [if_neg (by simp)]
 refine wpAny_binaryOp_repeat_ref (T:="list") (U:="int") (by decide) ⟨_,e,rfl⟩ (λs'=>typeIs_int s' k t) noFill_list_mul F.fills_int_mul F.slot_int_rmul repeat_list F.slot_int_index.lookup
  (call_meets F.slot_int_rmul (typeIs_int s k t) F.entry_int_rmul (F.args_int_rmul_2 _ _) (qO6 k t l its.toArray n sl)
   ⟨e,rfl,⟨_,e,rfl⟩,call_meets F.slot_list_mul ⟨_,e,rfl⟩ F.entry_list_mul (F.args_list_mul_2 _ _) (qJb l its.toArray n sl k t hfit hcap hlong) ⟨e,?_⟩⟩)
 rw [hnew]
 exact⟨.ref _,_,I.lnew (t':=s.toks) (r.rep k.toNat) (by rw [qLA,Nat.mul_comm];exact hz),rfl,q _ I.fresh⟩
theorem qHZ (hc:X.calm=true):CallR X (.builtin "max") (λxs H Q=>∃i j k,xs=[.int i,.int j,.int k]/\Q (.int (if k > (if j > i then j else i) then k else (if j > i then j else i))) H):=by
 intro pins s σ H xs us Q I r h
 obtain⟨i,j,k,rfl,q⟩:=h
 obtain _|⟨⟨t,rfl⟩,_|⟨⟨t',rfl⟩,_|⟨⟨t2,rfl⟩,_|_⟩⟩⟩:=r
 refine max_three_ints (I.ok.hd hc) λh' tk hk=>?_
 have I1:Inv X pins σ H { s with heap:=h',toks:=tk }:=I.kept hk
 have fin:∀(z:Int) (tok:Tok),z=(if k > (if j > i then j else i) then k else (if j > i then j else i))->EP X pins σ Q (.int z tok) { s with heap:=h',toks:=tk }:=λz tok e=>⟨.int z,H,I1,⟨_,rfl⟩,by rw [e];exact q⟩
 by_cases hba:j > i<;>by_cases hc1:k > j<;>by_cases hc2:k > i<;>simp only [hba,hc1,hc2,if_true,if_false] at fin ⊢<;>first|exact fin _ _ rfl|exact fin _ _ (by omega)
end
end Dw
namespace Dw
open PySem PySem.Spec PyProof.Rows L2
section
variable {X:Cx}
theorem qCc:∀{is:List Int}{its:List Value},Vals (is.map V.int) its->∃xs:List (Int×Tok),its=xs.map (λp=>Value.int p.1 p.2)/\xs.map (·.1)=is
 | [],_,.nil=>⟨[],rfl,rfl⟩
 | i::is,_,.cons ⟨t,e⟩ r=>by
  obtain⟨xs,h1,h2⟩:=qCc r
  exact⟨(i,t)::xs,by rw [e,h1];rfl,by rw [List.map_cons,h2]⟩
theorem qEW (xs:Array (Int×Tok)):preSum (numAt xs) xs.size=(xs.toList.map (·.1)).sum:=by
 rw [preSum_eq,List.take_of_length_le (by simp)]
theorem qHW (hc:X.calm=true):CallR X (.builtin "sum") (λxs H Q=>∃(p:Addr) (is:List Int),xs=[.ref p]/\SqL X.K H p (is.map V.int)/\Q (.int is.sum) H):=by
 intro pins s σ H xs us Q I r h
 obtain⟨p,is,rfl,hq,q⟩:=h
 obtain⟨u,rfl,ru⟩:=qDH r
 cases ru
 obtain⟨its,rv,pl,z⟩:=I.list hq
 obtain⟨ps,rfl,rfl⟩:=qCc rv
 have e:(ps.map λp=>Value.int p.1 p.2).toArray=intItems ps.toArray:=by simp [intItems]
 have hl:s.heap.IsList p (intItems ps.toArray):=by rw [<-e];exact pl.isList
 refine sum_intListG (I.ok.hd hc) hl λh' tk t' hk=>?_
 rw [qEW]
 exact⟨.int _,H,I.kept hk,⟨_,rfl⟩,q⟩
theorem qI7 {is:List Int}{m:Int}(h:mnL is=some m):m∈is/\∀a∈is,m<=a:=by
 cases is with
 | nil=>cases h
 | cons a r =>
  cases h
  have:∀(l:List Int) (b:Int),(l.foldl (λm x=>if x<m then x else m) b=b∨l.foldl (λm x=>if x<m then x else m) b∈l)/\l.foldl (λm x=>if x<m then x else m) b<=b/\∀y∈l,l.foldl (λm x=>if x<m then x else m) b<=y:=by
   intro l
   induction l with
   | nil=>intro b;exact⟨.inl rfl,Int.le_refl _,λ_ h=>nomatch h⟩
   | cons x l ih =>
    intro b
    rw [List.foldl_cons]
    obtain⟨h1,h2,h3⟩:=ih (if x<b then x else b)
    generalize l.foldl (λm x=>if x<m then x else m) (if x<b then x else b)=z at h1 h2 h3
    refine⟨?_,?_,λy hy=>?_⟩
    ·rcases h1 with h1|h1
     ·split at h1
      ·exact .inr (h1▸List.mem_cons_self)
      ·exact .inl h1
     ·exact .inr (List.mem_cons_of_mem _ h1)
    ·split at h2<;>omega
    ·rcases List.mem_cons.mp hy with rfl|hy
     ·split at h2<;>omega
     ·exact h3 y hy
  obtain⟨h1,h2,h3⟩:=this r a
  exact⟨List.mem_cons.mpr h1,λy hy=>(List.mem_cons.mp hy).elim (λe=>e▸h2) (h3 y)⟩
theorem qI6 {is:List Int}{m:Int}(h:mxL is=some m):m∈is/\∀a∈is,a<=m:=by
 cases is with
 | nil=>cases h
 | cons a r =>
  cases h
  have:∀(l:List Int) (b:Int),(l.foldl (λm x=>if m<x then x else m) b=b∨l.foldl (λm x=>if m<x then x else m) b∈l)/\b<=l.foldl (λm x=>if m<x then x else m) b/\∀y∈l,y<=l.foldl (λm x=>if m<x then x else m) b:=by
   intro l
   induction l with
   | nil=>intro b;exact⟨.inl rfl,Int.le_refl _,λ_ h=>nomatch h⟩
   | cons x l ih =>
    intro b
    rw [List.foldl_cons]
    obtain⟨h1,h2,h3⟩:=ih (if b<x then x else b)
    generalize l.foldl (λm x=>if m<x then x else m) (if b<x then x else b)=z at h1 h2 h3
    refine⟨?_,?_,λy hy=>?_⟩
    ·rcases h1 with h1|h1
     ·split at h1
      ·exact .inr (h1▸List.mem_cons_self)
      ·exact .inl h1
     ·exact .inr (List.mem_cons_of_mem _ h1)
    ·split at h2<;>omega
    ·rcases List.mem_cons.mp hy with rfl|hy
     ·split at h2<;>omega
     ·exact h3 y hy
  obtain⟨h1,h2,h3⟩:=this r a
  exact⟨List.mem_cons.mpr h1,λy hy=>(List.mem_cons.mp hy).elim (λe=>e▸h2) (h3 y)⟩
theorem qHY (hc:X.calm=true):CallR X (.builtin "min") (λxs H Q=>∃(p:Addr) (is:List Int) (m:Int),xs=[.ref p]/\SqL X.K H p (is.map V.int)/\mnL is=some m/\Q (.int m) H):=by
 intro pins s σ H xs us Q I r h
 obtain⟨p,is,m,rfl,hq,hm,q⟩:=h
 obtain⟨u,rfl,ru⟩:=qDH r
 cases ru
 obtain⟨its,rv,pl,z⟩:=I.list hq
 obtain⟨ps,rfl,rfl⟩:=qCc rv
 have e:(ps.map λp=>Value.int p.1 p.2).toArray=intItems ps.toArray:=by simp [intItems]
 have hl:s.heap.IsList p (intItems ps.toArray):=by rw [<-e];exact pl.isList
 obtain⟨m1,m2⟩:=qI7 hm
 have hsz:0<ps.toArray.size:=by
  cases ps with
  | nil=>cases hm
  | cons _ _=>simp
 refine min_intList (I.ok.hd hc) hl hsz λv h' tk hv hk=>?_
 obtain⟨t,rfl⟩:=intItems_at hv
 obtain⟨h1,h2⟩:=argBest_lt (numAt ps.toArray) (ps.toArray.size - 1)
 have key:numAt ps.toArray (argBest (λi j=>decide (numAt ps.toArray i<numAt ps.toArray j)) (ps.toArray.size - 1))=m:=by
  refine Int.le_antisymm ?_ (m2 _ ?_)
  ·obtain⟨j,hj,e⟩:=List.getElem_of_mem m1
   have:=h2 j (by simp at hj ⊢;omega)
   refine Int.le_trans this (Int.le_of_eq ?_)
   rw [<-e]
   simp [numAt] at hj ⊢
   rw [List.getElem?_eq_getElem hj];rfl
  ·generalize argBest (λi j=>decide (numAt ps.toArray i<numAt ps.toArray j)) (ps.toArray.size - 1)=k at h1 ⊢
   have hk:k<ps.length:=by simp at h1 hsz;omega
   refine List.mem_map.mpr ⟨ps[k],List.getElem_mem hk,?_⟩
   simp [numAt]
   rw [List.getElem?_eq_getElem hk];rfl
 rw [key]
 exact⟨.int _,H,I.kept hk,⟨_,rfl⟩,q⟩
theorem qH1 (hc:X.calm=true):CallR X (.builtin "max") (λxs H Q=>∃(p:Addr) (is:List Int) (m:Int),xs=[.ref p]/\SqL X.K H p (is.map V.int)/\mxL is=some m/\Q (.int m) H):=by
 intro pins s σ H xs us Q I r h
 obtain⟨p,is,m,rfl,hq,hm,q⟩:=h
 obtain⟨u,rfl,ru⟩:=qDH r
 cases ru
 obtain⟨its,rv,pl,z⟩:=I.list hq
 obtain⟨ps,rfl,rfl⟩:=qCc rv
 have e:(ps.map λp=>Value.int p.1 p.2).toArray=intItems ps.toArray:=by simp [intItems]
 have hl:s.heap.IsList p (intItems ps.toArray):=by rw [<-e];exact pl.isList
 obtain⟨m1,m2⟩:=qI6 hm
 have hsz:0<ps.toArray.size:=by
  cases ps with
  | nil=>cases hm
  | cons _ _=>simp
 refine max_intList (I.ok.hd hc) hl hsz λv h' tk hv hk=>?_
 obtain⟨t,rfl⟩:=intItems_at hv
 obtain⟨h1,h2⟩:=argBest_gt (numAt ps.toArray) (ps.toArray.size - 1)
 have key:numAt ps.toArray (argBest (λi j=>decide (numAt ps.toArray i > numAt ps.toArray j)) (ps.toArray.size - 1))=m:=by
  refine Int.le_antisymm (m2 _ ?_) ?_
  ·generalize argBest (λi j=>decide (numAt ps.toArray i > numAt ps.toArray j)) (ps.toArray.size - 1)=k at h1 ⊢
   have hk:k<ps.length:=by simp at h1 hsz;omega
   refine List.mem_map.mpr ⟨ps[k],List.getElem_mem hk,?_⟩
   simp [numAt]
   rw [List.getElem?_eq_getElem hk];rfl
  ·obtain⟨j,hj,e⟩:=List.getElem_of_mem m1
   have:=h2 j (by simp at hj ⊢;omega)
   refine Int.le_trans (Int.le_of_eq ?_) this
   rw [<-e]
   simp [numAt] at hj ⊢
   rw [List.getElem?_eq_getElem hj];rfl
 rw [key]
 exact⟨.int _,H,I.kept hk,⟨_,rfl⟩,q⟩
theorem qH5 (hc:X.calm=true):CallR X (.builtin "all") (λxs H Q=>∃(p:Addr) (bs:List Bool),xs=[.ref p]/\SqL X.K H p (bs.map V.bl)/\Q (.bl (bs.all id)) H):=by
 intro pins s σ H xs us Q I r h
 obtain⟨p,bs,rfl,hq,q⟩:=h
 obtain⟨u,rfl,ru⟩:=qDH r
 cases ru
 obtain⟨its,rv,pl,z⟩:=I.list hq
 have hlen:bs.length=its.length:=by simpa using rv.length
 have hlt:p<s.heap.objs.size:=by obtain⟨_,e,_⟩:=pl.isList;exact Heap.lt_size e
 refine call_all_walk (wpAny_pyIter_list pl.isList ?_)
 refine⟨s.heap.objs.size,_,_,_,_,_,λi=>(bs[i]?).getD false,rfl,Walks.list (A:=X.A.in1) (I.ok.hd hc) _ p (Nat.ne_of_lt hlt) its.toArray,⟨⟨_,Heap.get?_push_size _ rfl,rfl,rfl⟩,pl.isList.push _⟩,?_,λh' tk hk=>?_⟩
 ·intro i v s' Q' E' hv hQ
  have hi:its[i]?=some v:=by simpa using hv
  have hib:i<bs.length:=by
   have:=(List.getElem?_eq_some_iff.mp hi).1
   omega
  obtain⟨u,e1,e2⟩:=rv.get (i:=i) (x:=.bl bs[i]) (by simp [hib])
  rw [hi] at e1
  cases e1
  cases e2
  have:(bs[i]?).getD false=bs[i]:=by simp [hib]
  have hQ':Q' ((bs[i]?).getD false) s':=hQ
  rw [this] at hQ'
  exact wpAny_truthy_bool hQ'
 ·have e:(List.range its.toArray.size).all (λi=>(bs[i]?).getD false)=bs.all id:=by
   rw [List.size_toArray,<-hlen,Bool.eq_iff_iff,List.all_eq_true,List.all_eq_true]
   constructor
   ·intro h b hb
    obtain⟨i,hi,rfl⟩:=List.mem_iff_getElem.mp hb
    simpa [hi] using h i (by simpa using hi)
   ·intro h i hi
    have hi':i<bs.length:=by simpa using hi
    simpa [hi'] using h bs[i] (List.getElem_mem hi')
  rw [e]
  refine⟨.bl _,H,?_,rfl,q⟩
  refine I.kept (t':=tk) λb o eb=>hk b o (λhb=>?_) (Heap.get?_push_of_some _ eb)
  have:b=s.heap.objs.size:=by simpa using hb
  subst this
  exact absurd (Heap.lt_size eb) (Nat.lt_irrefl _)
end
theorem qDg (A:Around):A.in1.units=A.units+1:=rfl
theorem qCU:∀ds es:List D,qLP ds es=((List.range (min ds.length es.length)).all (λj=>eqD (ds.getD j .non) (es.getD j .non))&&ds.length == es.length)
 | [],[]=>rfl
 | [],e::es=>by
  have h:(([]:List D).length == (e::es).length)=false:=rfl
  rw [h,Bool.and_false];rfl
 | d::ds,[]=>by
  have h:((d::ds).length == ([]:List D).length)=false:=rfl
  rw [h,Bool.and_false];rfl
 | d::ds,e::es=>by
  have h:=qCU ds es
  simp only [qLP,h,List.length_cons,Nat.succ_min_succ,List.range_succ_eq_map,List.all_cons,List.getD_cons_zero,List.all_map]
  have e2:((λj=>eqD ((d::ds).getD j .non) ((e::es).getD j .non)) ∘ Nat.succ)=λj=>eqD (ds.getD j .non) (es.getD j .non):=by funext j;simp
  rw [e2,Bool.and_assoc]
  congr 2
  simp
mutual
theorem qDW:∀d:D,eqD d d=true
 | .non=>by simp
 | .bl _=>by simp
 | .int _=>by simp
 | .str _=>by simp
 | .tup ds=>by simpa using qCC ds
 | .lst ds=>by simpa using qCC ds
 | .dct _ _=>by simp
 | .obj _ ds=>by simpa using qCC ds
theorem qCC:∀ds:List D,qLP ds ds=true
 | []=>by simp
 | d::ds=>by simp [qDW d,qCC ds]
end
section
variable {X:Cx}{pins:List (Addr×Obj)}{σ:L2.St}{H:Hp}{s:Shared}{F:Fz}
theorem qNG {a:Addr}{xs ys:List V}(I:Inv X pins σ H s) (h:SqL X.K H a xs) (h':SqT X.K H a ys):False:=by
 obtain⟨its,_,p,_⟩:=I.list h
 obtain⟨its',_,p',_⟩:=I.tuple h'
 exact SeqAt.ne_of_list_tuple p.isList (show s.heap.IsTuple a its'.toArray from p') rfl
mutual
theorem RP.inj (I:Inv X pins σ H s):∀{d e:D}{v:V},nob d=true->nob e=true->RP X.K H F d v->RP X.K H F e v->d=e
 | .non,e,v,n,n',h,h'=>by
  have:=h.non;subst this
  cases e with
  | dct _ _=>exact absurd h' RP.noDct
  | obj _ _=>exact absurd n' (by simp)
  | non=>rfl
  | bl _=>exact absurd h'.bl (by simp)
  | int _=>exact absurd h'.int (by simp)
  | str _=>exact absurd h'.str (by simp)
  | tup _=>obtain⟨_,_,q,_⟩:=h'.tup;cases q
  | lst _=>obtain⟨_,_,q,_⟩:=h'.lst;cases q
 | .bl b,e,v,n,n',h,h'=>by
  have:=h.bl;subst this
  cases e with
  | dct _ _=>exact absurd h' RP.noDct
  | obj _ _=>exact absurd n' (by simp)
  | non=>exact absurd h'.non (by simp)
  | bl _=>have:=h'.bl;cases this;rfl
  | int _=>exact absurd h'.int (by simp)
  | str _=>exact absurd h'.str (by simp)
  | tup _=>obtain⟨_,_,q,_⟩:=h'.tup;cases q
  | lst _=>obtain⟨_,_,q,_⟩:=h'.lst;cases q
 | .int b,e,v,n,n',h,h'=>by
  have:=h.int;subst this
  cases e with
  | dct _ _=>exact absurd h' RP.noDct
  | obj _ _=>exact absurd n' (by simp)
  | non=>exact absurd h'.non (by simp)
  | bl _=>exact absurd h'.bl (by simp)
  | int _=>have:=h'.int;cases this;rfl
  | str _=>exact absurd h'.str (by simp)
  | tup _=>obtain⟨_,_,q,_⟩:=h'.tup;cases q
  | lst _=>obtain⟨_,_,q,_⟩:=h'.lst;cases q
 | .str b,e,v,n,n',h,h'=>by
  have:=h.str;subst this
  cases e with
  | dct _ _=>exact absurd h' RP.noDct
  | obj _ _=>exact absurd n' (by simp)
  | non=>exact absurd h'.non (by simp)
  | bl _=>exact absurd h'.bl (by simp)
  | int _=>exact absurd h'.int (by simp)
  | str _=>have:=h'.str;cases this;rfl
  | tup _=>obtain⟨_,_,q,_⟩:=h'.tup;cases q
  | lst _=>obtain⟨_,_,q,_⟩:=h'.lst;cases q
 | .tup ds,e,v,n,n',h,h'=>by
  obtain⟨a,vs,rfl,h1,h2⟩:=h.tup
  cases e with
  | dct _ _=>exact absurd h' RP.noDct
  | obj _ _=>exact absurd n' (by simp)
  | non=>exact absurd h'.non (by simp)
  | bl _=>exact absurd h'.bl (by simp)
  | int _=>exact absurd h'.int (by simp)
  | str _=>exact absurd h'.str (by simp)
  | tup es=>obtain⟨b,ws,q,h3,h4⟩:=h'.tup;cases q;rw [I.tuple_inj h3 h1] at h4;rw [RDs.inj I (by simpa using n) (by simpa using n') h2 h4]
  | lst _=>obtain⟨b,ws,q,h3,h4⟩:=h'.lst;cases q;exact (qNG I h3 h1).elim
 | .lst ds,e,v,n,n',h,h'=>by
  obtain⟨a,vs,rfl,h1,h2⟩:=h.lst
  cases e with
  | dct _ _=>exact absurd h' RP.noDct
  | obj _ _=>exact absurd n' (by simp)
  | non=>exact absurd h'.non (by simp)
  | bl _=>exact absurd h'.bl (by simp)
  | int _=>exact absurd h'.int (by simp)
  | str _=>exact absurd h'.str (by simp)
  | lst es=>obtain⟨b,ws,q,h3,h4⟩:=h'.lst;cases q;rw [I.list_inj h3 h1] at h4;rw [RDs.inj I (by simpa using n) (by simpa using n') h2 h4]
  | tup _=>obtain⟨b,ws,q,h3,h4⟩:=h'.tup;cases q;exact (qNG I h1 h3).elim
 | .dct _ _,e,v,n,n',h,h'=>absurd h RP.noDct
 | .obj _ _,e,v,n,n',h,h'=>absurd n (by simp)
theorem RDs.inj (I:Inv X pins σ H s):∀{ds es:List D}{vs:List V},qD7 ds=true->qD7 es=true->RDs X.K H F ds vs->RDs X.K H F es vs->ds=es
 | [],es,vs,n,n',h,h'=>by
  simp only [RDs] at h;subst h
  cases es with
  | nil=>rfl
  | cons _ _=>simp only [RDs] at h';obtain⟨_,_,q,_⟩:=h';cases q
 | d::ds,es,vs,n,n',h,h'=>by
  simp only [RDs] at h
  obtain⟨v,r,rfl,h1,h2⟩:=h
  cases es with
  | nil=>simp only [RDs] at h';cases h'
  | cons e es =>
   simp only [RDs] at h'
   obtain⟨v',r',q,h3,h4⟩:=h'
   cases q
   simp only [qD7,Bool.and_eq_true] at n n'
   rw [RP.inj I n.1 n'.1 (.inl h1) (.inl h3),RDs.inj I n.2 n'.2 h2 h4]
end
theorem RDs.vals {ds:List D}{vs:List V}{us:List Value}(h:RDs X.K H F ds vs) (r:Vals vs us) (j:Nat) (hj:j<us.toArray.size) :
  ∃v,RD X.K H F (ds.getD j .non) v/\RelV v us.toArray[j]:=by
 have l1:=RDs.length h
 have l2:=r.length
 have hj':j<us.length:=by simpa using hj
 have hd:ds[j]?=some (ds.getD j .non):=by simp [List.getD,show j<ds.length by omega]
 obtain⟨v,e1,e2⟩:=RDs.get h hd
 obtain⟨u,e3,e4⟩:=r.get e1
 refine⟨v,e2,?_⟩
 have:us.toArray[j]=u:=by
  have:=List.getElem?_eq_some_iff.mp e3
  obtain⟨_,q⟩:=this
  simpa using q
 rw [this];exact e4
theorem qBt:∀{ds:List D}(j:Nat),qD7 ds=true->nob (ds.getD j .non)=true
 | [],j,_=>by simp [List.getD]
 | d::ds,0,h=>by simp at h;simpa using h.1
 | d::ds,j+1,h=>by simp at h;simpa using qBt j h.2
theorem qBX:∀{n:Nat}{ds:List D}(j:Nat),qIO n ds=true->qCN n (ds.getD j .non)=true
 | n,[],j,_=>by cases n<;>simp [List.getD]
 | n,d::ds,0,h=>by simp at h;simpa using h.1
 | n,d::ds,j+1,h=>by simp at h;simpa using qBX j h.2
noncomputable def VS (X:Cx) (H:Hp) (F:Fz) (s:Shared):D->Value->Prop
 | .non,u=>u=.none
 | .bl b,u=>u=.bool b
 | .int i,u=>∃t,u=.int i t
 | .str x,u=>∃t,u=.str x t
 | .tup ds,u=>∃a its vs,u=.ref a/\s.heap.IsTuple a its.toArray/\RDs X.K H F ds vs/\Vals vs its
 | .lst ds,u=>∃a its vs,u=.ref a/\s.heap.IsList a its.toArray/\RDs X.K H F ds vs/\Vals vs its
 | .dct _ _,_=>False
 | .obj _ _,_=>True
theorem qEO (I:Inv X pins σ H s):∀{d:D}{x:V}{u:Value},RP X.K H F d x->RelV x u->VS X H F s d u
 | .non,x,u,h,r=>by have:=h.non;subst this;exact r
 | .bl _,x,u,h,r=>by have:=h.bl;subst this;exact r
 | .int _,x,u,h,r=>by have:=h.int;subst this;exact r
 | .str _,x,u,h,r=>by have:=h.str;subst this;exact r
 | .tup ds,x,u,h,r=>by
  obtain⟨a,vs,rfl,h1,h2⟩:=h.tup
  obtain⟨its,rv,p,_⟩:=I.tuple h1
  exact⟨a,its,vs,r,p,h2,rv⟩
 | .lst ds,x,u,h,r=>by
  obtain⟨a,vs,rfl,h1,h2⟩:=h.lst
  obtain⟨its,rv,p,_⟩:=I.list h1
  exact⟨a,its,vs,r,p.isList,h2,rv⟩
 | .dct _ _,x,u,h,r=>absurd h RP.noDct
 | .obj _ _,x,u,h,r=>trivial
theorem qHO (I:Inv X pins σ H s):∀(n:Nat) (d e:D) (x y:V) (u v:Value) (A:Around),RP X.K H F d x->RP X.K H F e y->RelV x u->RelV y v->(qCN n d||qCN n e)=true->nob d=true->nob e=true->A.units+n<cLine ->
   SeqAt.EqAt A s u v (eqD d e)/\SeqAt.RcAt A s u v (eqD d e)/\SeqAt.RcNeAt A s u v (!eqD d e):=by
 intro n d e x y u v A hx hy ru rv hs hn hn' hu
 have kx:=qEO I hx ru
 have ky:=qEO I hy rv
 have hA:A.units<cLine:=by omega
 cases d with
 | dct _ _=>exact absurd hx RP.noDct
 | obj _ _=>exact absurd hn (by simp)
 | non =>
  have kx:u=.none:=kx
  subst kx
  cases e with
  | dct _ _=>exact absurd hy RP.noDct
  | obj _ _=>exact absurd hn' (by simp)
  | non=>have ky:v=.none:=ky;subst ky;exact⟨SeqAt.EqAt.same _,SeqAt.RcAt.none_none,SeqAt.RcNeAt.none_none⟩
  | bl b=>have ky:v=.bool b:=ky;subst ky;exact⟨SeqAt.EqAt.none_bool _,SeqAt.RcAt.none_bool _,SeqAt.RcNeAt.none_bool _⟩
  | int b=>obtain⟨t,rfl⟩:=ky;exact⟨SeqAt.EqAt.none_int _ _,SeqAt.RcAt.none_int _ _,SeqAt.RcNeAt.none_int _ _⟩
  | str b=>obtain⟨t,rfl⟩:=ky;exact⟨SeqAt.EqAt.none_str _ _,SeqAt.RcAt.none_str _ _,SeqAt.RcNeAt.none_str _ _⟩
  | tup es=>obtain⟨a,its,vs,rfl,p,_⟩:=ky;exact⟨SeqAt.EqAt.none_tuple p hA,SeqAt.RcAt.none_tuple p hA,SeqAt.RcNeAt.none_tuple p hA⟩
  | lst es=>obtain⟨a,its,vs,rfl,p,_⟩:=ky;exact⟨SeqAt.EqAt.none_list p hA,SeqAt.RcAt.none_list p hA,SeqAt.RcNeAt.none_list p hA⟩
 | bl c =>
  have kx:u=.bool c:=kx
  subst kx
  cases e with
  | dct _ _=>exact absurd hy RP.noDct
  | obj _ _=>exact absurd hn' (by simp)
  | non=>have ky:v=.none:=ky;subst ky;exact⟨SeqAt.EqAt.bool_none _,SeqAt.RcAt.bool_none _,SeqAt.RcNeAt.bool_none _⟩
  | bl b=>have ky:v=.bool b:=ky;subst ky;exact⟨SeqAt.EqAt.bool_bool _ _,SeqAt.RcAt.bool_bool _ _,SeqAt.RcNeAt.bool_bool _ _⟩
  | int b=>obtain⟨t,rfl⟩:=ky;exact⟨SeqAt.EqAt.bool_int _ _ _,SeqAt.RcAt.bool_int _ _ _,SeqAt.RcNeAt.bool_int _ _ _⟩
  | str b=>obtain⟨t,rfl⟩:=ky;exact⟨SeqAt.EqAt.bool_str _ _ _,SeqAt.RcAt.bool_str _ _ _,SeqAt.RcNeAt.bool_str _ _ _⟩
  | tup es=>obtain⟨a,its,vs,rfl,p,_⟩:=ky;exact⟨SeqAt.EqAt.bool_tuple _ p hA,SeqAt.RcAt.bool_tuple _ p hA,SeqAt.RcNeAt.bool_tuple _ p hA⟩
  | lst es=>obtain⟨a,its,vs,rfl,p,_⟩:=ky;exact⟨SeqAt.EqAt.bool_list _ p hA,SeqAt.RcAt.bool_list _ p hA,SeqAt.RcNeAt.bool_list _ p hA⟩
 | int c =>
  obtain⟨tc,rfl⟩:=kx
  cases e with
  | dct _ _=>exact absurd hy RP.noDct
  | obj _ _=>exact absurd hn' (by simp)
  | non=>have ky:v=.none:=ky;subst ky;exact⟨SeqAt.EqAt.int_none _ _,SeqAt.RcAt.int_none _ _,SeqAt.RcNeAt.int_none _ _⟩
  | bl b=>have ky:v=.bool b:=ky;subst ky;exact⟨SeqAt.EqAt.int_bool _ _ _,SeqAt.RcAt.int_bool _ _ _,SeqAt.RcNeAt.int_bool _ _ _⟩
  | int b=>obtain⟨t,rfl⟩:=ky;exact⟨SeqAt.EqAt.int_int _ _ _ _,SeqAt.RcAt.int_int _ _ _ _,SeqAt.RcNeAt.int_int _ _ _ _⟩
  | str b=>obtain⟨t,rfl⟩:=ky;exact⟨SeqAt.EqAt.int_str _ _ _ _,SeqAt.RcAt.int_str _ _ _ _,SeqAt.RcNeAt.int_str _ _ _ _⟩
  | tup es=>obtain⟨a,its,vs,rfl,p,_⟩:=ky;exact⟨SeqAt.EqAt.int_tuple _ _ p hA,SeqAt.RcAt.int_tuple _ _ p hA,SeqAt.RcNeAt.int_tuple _ _ p hA⟩
  | lst es=>obtain⟨a,its,vs,rfl,p,_⟩:=ky;exact⟨SeqAt.EqAt.int_list _ _ p hA,SeqAt.RcAt.int_list _ _ p hA,SeqAt.RcNeAt.int_list _ _ p hA⟩
 | str c =>
  obtain⟨tc,rfl⟩:=kx
  cases e with
  | dct _ _=>exact absurd hy RP.noDct
  | obj _ _=>exact absurd hn' (by simp)
  | non=>have ky:v=.none:=ky;subst ky;exact⟨SeqAt.EqAt.str_none _ _,SeqAt.RcAt.str_none _ _,SeqAt.RcNeAt.str_none _ _⟩
  | bl b=>have ky:v=.bool b:=ky;subst ky;exact⟨SeqAt.EqAt.str_bool _ _ _,SeqAt.RcAt.str_bool _ _ _,SeqAt.RcNeAt.str_bool _ _ _⟩
  | int b=>obtain⟨t,rfl⟩:=ky;exact⟨SeqAt.EqAt.str_int _ _ _ _,SeqAt.RcAt.str_int _ _ _ _,SeqAt.RcNeAt.str_int _ _ _ _⟩
  | str b=>obtain⟨t,rfl⟩:=ky;exact⟨SeqAt.EqAt.str_str _ _ _ _,SeqAt.RcAt.str_str _ _ _ _,SeqAt.RcNeAt.str_str _ _ _ _⟩
  | tup es=>obtain⟨a,its,vs,rfl,p,_⟩:=ky;exact⟨SeqAt.EqAt.str_tuple _ _ p hA,SeqAt.RcAt.str_tuple _ _ p hA,SeqAt.RcNeAt.str_tuple _ _ p hA⟩
  | lst es=>obtain⟨a,its,vs,rfl,p,_⟩:=ky;exact⟨SeqAt.EqAt.str_list _ _ p hA,SeqAt.RcAt.str_list _ _ p hA,SeqAt.RcNeAt.str_list _ _ p hA⟩
 | tup ds =>
  obtain⟨a,its,vs,rfl,p,hd,hv⟩:=kx
  cases e with
  | dct _ _=>exact absurd hy RP.noDct
  | obj _ _=>exact absurd hn' (by simp)
  | non=>have ky:v=.none:=ky;subst ky;exact⟨SeqAt.EqAt.tuple_none p hA,SeqAt.RcAt.tuple_none p hA,SeqAt.RcNeAt.tuple_none p hA⟩
  | bl b=>have ky:v=.bool b:=ky;subst ky;exact⟨SeqAt.EqAt.tuple_bool _ p hA,SeqAt.RcAt.tuple_bool _ p hA,SeqAt.RcNeAt.tuple_bool _ p hA⟩
  | int b=>obtain⟨t,rfl⟩:=ky;exact⟨SeqAt.EqAt.tuple_int _ _ p hA,SeqAt.RcAt.tuple_int _ _ p hA,SeqAt.RcNeAt.tuple_int _ _ p hA⟩
  | str b=>obtain⟨t,rfl⟩:=ky;exact⟨SeqAt.EqAt.tuple_str _ _ p hA,SeqAt.RcAt.tuple_str _ _ p hA,SeqAt.RcNeAt.tuple_str _ _ p hA⟩
  | tup es =>
   obtain⟨b,its2,vs2,rfl,p2,hd2,hv2⟩:=ky
   cases n with
   | zero=>simp at hs
   | succ n =>
    have l1:=RDs.length hd
    have l2:=RDs.length hd2
    have l3:=hv.length
    have l4:=hv2.length
    have hj:∀j (h1:j<its.toArray.size) (h2:j<its2.toArray.size),SeqAt.EqAt A.in1 s its.toArray[j] its2.toArray[j] (eqD (ds.getD j .non) (es.getD j .non)):=λj h1 h2=>by
     obtain⟨v1,q1,q2⟩:=RDs.vals hd hv j h1
     obtain⟨v2,q3,q4⟩:=RDs.vals hd2 hv2 j h2
     refine (qHO I n _ _ v1 v2 _ _ A.in1 (.inl q1) (.inl q3) q2 q4 ?_ (qBt j (by simpa using hn)) (qBt j (by simpa using hn')) (by rw [qDg];omega)).1
     simp only [qCN,Bool.or_eq_true] at hs ⊢
     exact hs.imp (λz=>qBX j z) (λz=>qBX j z)
    have e1:((List.range (min its.toArray.size its2.toArray.size)).all (λj=>eqD (ds.getD j .non) (es.getD j .non))&&its.toArray.size == its2.toArray.size)=eqD (.tup ds) (.tup es):=by
     simp only [eqD,qCU,List.size_toArray,<-l3,<-l4,l1,l2]
    have r1:=SeqAt.RcAt.tuples p p2 hA hj
    have r2:=SeqAt.RcNeAt.tuples p p2 hA hj
    rw [e1] at r1 r2
    refine⟨?_,r1,r2⟩
    by_cases hab:a=b
    ·subst hab
     have:D.tup ds=D.tup es:=by
      cases ru':x with
      | ref a' =>
       cases ry':y with
       | ref b' =>
        subst ru' ry'
        have z1:Value.ref a=Value.ref a':=ru
        have z2:Value.ref a=Value.ref b':=rv
        cases z1;cases z2
        exact RP.inj I hn hn' hx hy
       | _=>subst ry';obtain⟨_,_,q,_⟩:=hy.tup;cases q
      | _=>subst ru';obtain⟨_,_,q,_⟩:=hx.tup;cases q
     rw [this,qDW]
     exact SeqAt.EqAt.same _
    ·exact SeqAt.EqAt.of_refs hab r1
  | lst es=>obtain⟨b,its2,vs2,rfl,p2,_⟩:=ky;exact⟨SeqAt.EqAt.tuple_list p p2 hA,SeqAt.RcAt.tuple_list p p2 hA,SeqAt.RcNeAt.tuple_list p p2 hA⟩
 | lst ds =>
  obtain⟨a,its,vs,rfl,p,hd,hv⟩:=kx
  cases e with
  | dct _ _=>exact absurd hy RP.noDct
  | obj _ _=>exact absurd hn' (by simp)
  | non=>have ky:v=.none:=ky;subst ky;exact⟨SeqAt.EqAt.list_none p hA,SeqAt.RcAt.list_none p hA,SeqAt.RcNeAt.list_none p hA⟩
  | bl b=>have ky:v=.bool b:=ky;subst ky;exact⟨SeqAt.EqAt.list_bool _ p hA,SeqAt.RcAt.list_bool _ p hA,SeqAt.RcNeAt.list_bool _ p hA⟩
  | int b=>obtain⟨t,rfl⟩:=ky;exact⟨SeqAt.EqAt.list_int _ _ p hA,SeqAt.RcAt.list_int _ _ p hA,SeqAt.RcNeAt.list_int _ _ p hA⟩
  | str b=>obtain⟨t,rfl⟩:=ky;exact⟨SeqAt.EqAt.list_str _ _ p hA,SeqAt.RcAt.list_str _ _ p hA,SeqAt.RcNeAt.list_str _ _ p hA⟩
  | tup es=>obtain⟨b,its2,vs2,rfl,p2,_⟩:=ky;exact⟨SeqAt.EqAt.list_tuple p p2 hA,SeqAt.RcAt.list_tuple p p2 hA,SeqAt.RcNeAt.list_tuple p p2 hA⟩
  | lst es =>
   obtain⟨b,its2,vs2,rfl,p2,hd2,hv2⟩:=ky
   cases n with
   | zero=>simp at hs
   | succ n =>
    have l1:=RDs.length hd
    have l2:=RDs.length hd2
    have l3:=hv.length
    have l4:=hv2.length
    have hj:∀j (h1:j<its.toArray.size) (h2:j<its2.toArray.size),SeqAt.EqAt A.in1 s its.toArray[j] its2.toArray[j] (eqD (ds.getD j .non) (es.getD j .non)):=λj h1 h2=>by
     obtain⟨v1,q1,q2⟩:=RDs.vals hd hv j h1
     obtain⟨v2,q3,q4⟩:=RDs.vals hd2 hv2 j h2
     refine (qHO I n _ _ v1 v2 _ _ A.in1 (.inl q1) (.inl q3) q2 q4 ?_ (qBt j (by simpa using hn)) (qBt j (by simpa using hn')) (by rw [qDg];omega)).1
     simp only [qCN,Bool.or_eq_true] at hs ⊢
     exact hs.imp (λz=>qBX j z) (λz=>qBX j z)
    have both:SeqAt.RcAt A s (.ref a) (.ref b) (eqD (.lst ds) (.lst es))/\SeqAt.RcNeAt A s (.ref a) (.ref b) (!eqD (.lst ds) (.lst es)):=by
     by_cases hsz:its.toArray.size=its2.toArray.size
     ·have e1:(List.range its.toArray.size).all (λj=>eqD (ds.getD j .non) (es.getD j .non))=eqD (.lst ds) (.lst es):=by
       have hl:ds.length=es.length:=by simp only [List.size_toArray] at hsz;omega
       have hm:its.toArray.size=min ds.length es.length:=by simp only [List.size_toArray];omega
       simp only [eqD,qCU,hm,hl,beq_self_eq_true,Bool.and_true]
      have r1:=SeqAt.RcAt.lists p p2 hsz hA hj
      have r2:=SeqAt.RcNeAt.lists p p2 hsz hA hj
      rw [e1] at r1 r2
      exact⟨r1,r2⟩
     ·have hb:(its.toArray.size != its2.toArray.size)=true:=by simpa using hsz
      have e1:eqD (.lst ds) (.lst es)=false:=by
       have hl:(ds.length == es.length)=false:=by
        simp only [List.size_toArray] at hsz
        rw [beq_eq_false_iff_ne];omega
       simp only [eqD,qCU,hl,Bool.and_false]
      rw [e1]
      exact⟨SeqAt.RcAt.lists_lengths p p2 hb hA,SeqAt.RcNeAt.lists_lengths p p2 hb hA⟩
    refine⟨?_,both⟩
    by_cases hab:a=b
    ·subst hab
     have:D.lst ds=D.lst es:=by
      cases ru':x with
      | ref a' =>
       cases ry':y with
       | ref b' =>
        subst ru' ry'
        have z1:Value.ref a=Value.ref a':=ru
        have z2:Value.ref a=Value.ref b':=rv
        cases z1;cases z2
        exact RP.inj I hn hn' hx hy
       | _=>subst ry';obtain⟨_,_,q,_⟩:=hy.lst;cases q
      | _=>subst ru';obtain⟨_,_,q,_⟩:=hx.lst;cases q
     rw [this,qDW]
     exact SeqAt.EqAt.same _
    ·exact SeqAt.EqAt.of_refs hab both.1
end
end Dw
namespace Dw
open PySem PySem.Spec PyProof.Rows L2
noncomputable def qEb:Ty->String
 | .int=>"int"|.bool=>"bool"|.tuple=>"tuple"|.list=>"list"|.str=>"str"
noncomputable def qJe:D->String
 | .non=>"NoneType"|.bl _=>"bool"|.int _=>"int"|.str _=>"str"|.tup _=>"tuple"|.lst _=>"list"|.dct _ _=>"NoneType"|.obj _ _=>"NoneType"
theorem qLC (K:PySem.W.Frag) (ty:Ty) (d:D):PySem.W.kitOne K (.type (qJe d)) (.type (qEb ty))=some (tyD ty d):=by
 cases ty<;>cases d<;>kernel_rfl
section
variable {X:Cx}
theorem qH2:CallR X (.builtin "isinstance") (λxs H Q=>∃(x:V) (d:D) (F:Fz) (ty:Ty) (b:Bool),xs=[x,.ty (qEb ty)]/\RP X.K H F d x/\tyR ty d=some (false,.bl b)/\Q (.bl b) H):=by
 intro pins s σ H xs us Q I r h
 obtain⟨x,d,F,ty,b,rfl,hx,hb,q⟩:=h
 have hb2:b=tyD ty d:=by cases d<;>first|(cases hb;rfl)|cases hb
 subst hb2
 obtain⟨u,w',rfl,ru,rw'⟩:=qKl r
 have rw'':w'=Value.type (qEb ty):=rw'
 subst rw''
 have fin:∀tk,EP X pins σ Q (.bool (tyD ty d)) { s with toks:=tk }:=λtk=>⟨.bl _,H,I.tok tk,rfl,q⟩
 have e:=qLC X.K ty d
 have k:=qEO I hx ru
 cases d with
 | dct _ _=>exact absurd hx RP.noDct
 | obj _ _=>cases hb
 | non=>have k:u=.none:=k;subst k;exact PySem.W.kia_one PySem.W.kitx_none I.kIn True.intro e (λz=>nomatch z) fin
 | bl b=>have k:u=.bool b:=k;subst k;exact PySem.W.kia_one PySem.W.kitx_bool I.kIn True.intro e (λz=>nomatch z) fin
 | int i=>obtain⟨t,rfl⟩:=k;exact PySem.W.kia_one PySem.W.kitx_int I.kIn True.intro e (λz=>nomatch z) fin
 | str i=>obtain⟨t,rfl⟩:=k;exact PySem.W.kia_one PySem.W.kitx_str I.kIn True.intro e (λz=>nomatch z) fin
 | tup ds=>obtain⟨a,its,vs,rfl,⟨o,h1,h2,_⟩,_⟩:=k;exact PySem.W.kia_one PySem.W.kitx_tuple I.kIn ⟨o,h1,h2⟩ e (λz=>nomatch z) fin
 | lst ds=>obtain⟨a,its,vs,rfl,⟨o,h1,h2,_⟩,_⟩:=k;exact PySem.W.kia_one PySem.W.kitx_list I.kIn ⟨o,h1,h2⟩ e (λz=>nomatch z) fin
theorem qNp (neg:Bool):OpR X (compareOp (if neg then .IsNot else .Is)) (λx y H Q=>∃(d e:D) (F:Fz) (b:Bool),RP X.K H F d x/\RP X.K H F e y/\isD neg d e=some (false,.bl b)/\Q (.bl b) H):=by
 intro pins s σ H x y v u Q I rx ry h
 obtain⟨d,e,F,b,hx,hy,hb,q⟩:=h
 have kx:=qEO I hx rx
 have ky:=qEO I hy ry
 have fin:∀c:Bool,c=b->EP X pins σ Q (.bool c) s:=λc z=>⟨.bl c,H,I,rfl,by rw [z];exact q⟩
 have go:∀(c:Bool),plainIs v u=true->(v == u)=c->(if neg then !c else c)=b->wpAny (model X.prog X.w) X.A (compareOp (if neg then .IsNot else .Is) v u) (EP X pins σ Q) X.xe s:=λc hp hv hc=>by
  subst hv
  cases neg with
  | true=>exact wpAny_isNot_plain hp (fin _ hc)
  | false=>exact wpAny_is_plain hp (fin _ hc)
 have no:∀{x y:Value},x≠y->(x == y)=false:=λh=>beq_eq_false_iff_ne.mpr h
 cases e with
 | non =>
  have ky:u=.none:=ky
  subst ky
  cases d with
  | dct _ _=>exact absurd hx RP.noDct
  | obj _ _=>cases hb
  | non=>have kx:v=.none:=kx;subst kx;exact go true rfl (beq_self_eq_true _) (by cases neg<;>simp at hb ⊢<;>exact hb)
  | bl c=>have kx:v=.bool c:=kx;subst kx;exact go false rfl (no (λz=>nomatch z)) (by cases neg<;>simp at hb ⊢<;>exact hb)
  | int c=>obtain⟨t,rfl⟩:=kx;exact go false rfl (no (λz=>nomatch z)) (by cases neg<;>simp at hb ⊢<;>exact hb)
  | str c=>obtain⟨t,rfl⟩:=kx;exact go false rfl (no (λz=>nomatch z)) (by cases neg<;>simp at hb ⊢<;>exact hb)
  | tup ds=>obtain⟨a,its,vs,rfl,_⟩:=kx;exact go false rfl (no (λz=>nomatch z)) (by cases neg<;>simp at hb ⊢<;>exact hb)
  | lst ds=>obtain⟨a,its,vs,rfl,_⟩:=kx;exact go false rfl (no (λz=>nomatch z)) (by cases neg<;>simp at hb ⊢<;>exact hb)
 | bl c2 =>
  have ky:u=.bool c2:=ky
  subst ky
  cases d with
  | dct _ _=>exact absurd hx RP.noDct
  | obj _ _=>cases hb
  | non=>have kx:v=.none:=kx;subst kx;exact go false rfl (no (λz=>nomatch z)) (by cases neg<;>simp at hb ⊢<;>exact hb)
  | bl c =>
   have kx:v=.bool c:=kx
   subst kx
   by_cases hc:c=c2
   ·subst hc
    exact go true rfl (beq_self_eq_true _) (by cases neg<;>simp at hb ⊢<;>exact hb)
   ·exact go false rfl (no (λz=>hc (by injection z))) (by cases neg<;>cases c<;>cases c2<;>simp at hb hc ⊢<;>exact hb)
  | int c=>obtain⟨t,rfl⟩:=kx;exact go false rfl (no (λz=>nomatch z)) (by cases neg<;>simp at hb ⊢<;>exact hb)
  | str c=>obtain⟨t,rfl⟩:=kx;exact go false rfl (no (λz=>nomatch z)) (by cases neg<;>simp at hb ⊢<;>exact hb)
  | tup ds=>obtain⟨a,its,vs,rfl,_⟩:=kx;exact go false rfl (no (λz=>nomatch z)) (by cases neg<;>simp at hb ⊢<;>exact hb)
  | lst ds=>obtain⟨a,its,vs,rfl,_⟩:=kx;exact go false rfl (no (λz=>nomatch z)) (by cases neg<;>simp at hb ⊢<;>exact hb)
 | _=>cases d<;>simp at hb
theorem qNr (hu:X.A.units+20<cLine):OpR X (compareOp .Eq) (λx y H Q=>∃(d e:D) (F:Fz),RP X.K H F d x/\RP X.K H F e y/\(qCN 20 d||qCN 20 e)=true/\nob d=true/\nob e=true/\Q (.bl (eqD d e)) H):=by
 intro pins s σ H x y v u Q I rx ry h
 obtain⟨d,e,F,hx,hy,hs,n1,n2,q⟩:=h
 exact (qHO I 20 d e x y v u X.A hx hy rx ry hs n1 n2 hu).2.1 _ _ _ _ ⟨.bl _,H,I,rfl,q⟩
theorem qNx {pins:List (Addr×Obj)}{σ:L2.St}{H:Hp}{s:Shared}{F:Fz}{ds:List D}{x y:V}{u v:Value}{A:Around}(I:Inv X pins σ H s) (hx:RP X.K H F (.lst ds) x) (hy:RP X.K H F (.lst []) y) (ru:RelV x u) (rv:RelV y v) (hA:A.units<cLine):SeqAt.RcNeAt A s u v (!ds.isEmpty):=by
 obtain⟨a,its,vs,rfl,p,hd,hv⟩:=qEO I hx ru
 obtain⟨b,its2,vs2,rfl,p2,hd2,hv2⟩:=qEO I hy rv
 have l1:=RDs.length hd
 have l2:=RDs.length hd2
 have l3:=hv.length
 have l4:=hv2.length
 rw [List.length_nil] at l2
 by_cases hsz:its.toArray.size=its2.toArray.size
 ·simp only [List.size_toArray] at hsz
  have e:ds=[]:=List.length_eq_zero_iff.mp (by omega)
  have e0:its.length=0:=by omega
  subst e
  have r2:=SeqAt.RcNeAt.lists (e:=λ_=>true) p p2 (by simpa using hsz) hA (λj h1 h2=>absurd h1 (by simp [e0]))
  rw [show its.toArray.size=0 by simpa using e0] at r2
  exact r2
 ·have hb:(its.toArray.size != its2.toArray.size)=true:=by simpa using hsz
  simp only [List.size_toArray] at hsz
  have e:ds.isEmpty=false:=by
   cases ds with
   | nil=>rw [List.length_nil] at l1;omega
   | cons _ _=>rfl
  rw [e]
  exact SeqAt.RcNeAt.lists_lengths p p2 hb hA
theorem qNo (hu:X.A.units+20<cLine):OpR X (compareOp .NotEq) (λx y H Q=>∃(d e:D) (F:Fz) (b:Bool),RP X.K H F d x/\RP X.K H F e y/\qFd .ne d e=some (false,.bl b)/\Q (.bl b) H):=by
 intro pins s σ H x y v u Q I rx ry h
 obtain⟨d,e,F,b,hx,hy,hs,q⟩:=h
 rw [qFd] at hs
 split at hs
 ·rename_i hc
  cases hs
  simp only [Bool.and_eq_true] at hc
  exact (qHO I 20 d e x y v u X.A hx hy rx ry hc.1 hc.2.1 hc.2.2 hu).2.2 _ _ _ _ ⟨.bl _,H,I,rfl,q⟩
 ·unfold qOG at hs
  split at hs
  ·cases hs
   exact qNx I hx hy rx ry (by omega) _ _ _ _ ⟨.bl _,H,I,rfl,q⟩
  ·cases hs
theorem RDs.at_ {K:PySem.W.Frag}{H:Hp}{F:Fz}:∀{ds:List D}{vs:List V},RDs K H F ds vs->∀i,i<vs.length->RD K H F (ds.getD i .non) (vs.getD i .non)
 | [],_,h,i,hi=>by cases h;exact absurd hi (Nat.not_lt_zero _)
 | _::_,_,⟨v,r,e,h1,h2⟩,i,hi=>by
  subst e
  cases i with
  | zero=>exact h1
  | succ i=>exact RDs.at_ h2 i (Nat.lt_of_succ_lt_succ hi)
theorem qDG {vs:List V}{us:List Value}(r:Vals vs us) (i:Nat) (hi:i<vs.length):L2.RelV (vs.getD i .non) (us.getD i .none):=by
 obtain⟨u,e1,e2⟩:=r.get (i:=i) (x:=vs[i]) (List.getElem?_eq_getElem hi)
 rw [List.getD_eq_getElem?_getD,List.getElem?_eq_getElem hi,List.getD_eq_getElem?_getD,e1]
 exact e2
theorem qNX {pins:List (Addr×Obj)}{s:Shared}{σ:L2.St}{H:Hp}{F:Fz}(I:Inv X pins σ H s) (hu:X.A.units+20<cLine) {d:D}{ds:List D}{x:V}{v:Value}{vs:List V}{us:List Value}(hx:RP X.K H F d x) (rx:L2.RelV x v) (hr:RDs X.K H F ds vs) (rv:Vals vs us) (hs:qCN 19 d=true) (n1:nob d=true) (n2:qD7 ds=true) :
  ∃e:Value->Bool,(∀y,y∈us.toArray->SeqAt.EqAt X.A.in1 s y v (e y))/\us.toArray.any e=qD3 ds d/\∀i,i<vs.length->e (us.getD i .none)=eqD (ds.getD i .non) d:=by
 have hl:vs.length=us.length:=rv.length
 have hd:vs.length=ds.length:=RDs.length hr
 have he:∀i,i<vs.length->SeqAt.EqAt X.A.in1 s (us.getD i .none) v (eqD (ds.getD i .non) d):=λi hi =>
  (qHO I 19 _ _ _ _ _ _ X.A.in1 (.inl (RDs.at_ hr i hi)) hx (qDG rv i hi) rx (by rw [hs,Bool.or_true]) (qBt i n2) n1 (by rw [qDg];omega)).1
 have same:∀i j,i<vs.length->j<vs.length->us.getD i .none=us.getD j .none->ds.getD i .non=ds.getD j .non:=λi j hi hj e=>by
  have a:=qDG rv i hi
  rw [e] at a
  have b:=a.inj (qDG rv j hj)
  have c:=RDs.at_ hr i hi
  rw [b] at c
  exact RP.inj I (qBt i n2) (qBt j n2) (.inl c) (.inl (RDs.at_ hr j hj))
 have val:∀i,i<vs.length->@decide (∃j,j<vs.length/\us.getD j .none=us.getD i .none/\eqD (ds.getD j .non) d=true) (Classical.propDecidable _)=eqD (ds.getD i .non) d:=λi hi'=>by
  cases hq:eqD (ds.getD i .non) d with
  | true=>exact @decide_eq_true _ (Classical.propDecidable _) ⟨i,hi',rfl,hq⟩
  | false =>
   refine @decide_eq_false _ (Classical.propDecidable _) ?_
   rintro⟨j,hj,ej,qj⟩
   rw [same j i hj hi' ej,hq] at qj
   cases qj
 refine⟨λy=>@decide (∃i,i<vs.length/\us.getD i .none=y/\eqD (ds.getD i .non) d=true) (Classical.propDecidable _),λy hy=>?_,?_,val⟩
 ·obtain⟨i,hi,rfl⟩:=List.mem_iff_getElem.mp (by simpa using hy:y∈us)
  have hi':i<vs.length:=by omega
  have g:us.getD i .none=us[i]:=by rw [List.getD_eq_getElem?_getD,List.getElem?_eq_getElem hi];rfl
  have h:=he i hi'
  rw [g] at h
  have e:=val i hi'
  rw [g] at e
  show SeqAt.EqAt X.A.in1 s us[i] v (@decide (∃j,j<vs.length/\us.getD j .none=us[i]/\eqD (ds.getD j .non) d=true) (Classical.propDecidable _))
  rw [e]
  exact h
 ·unfold qD3
  rw [List.any_toArray,Bool.eq_iff_iff,List.any_eq_true,List.any_eq_true]
  constructor
  ·rintro⟨y,_,hy⟩
   obtain⟨i,hi,_,q⟩:=@of_decide_eq_true _ (Classical.propDecidable _) hy
   rw [List.getD_eq_getElem?_getD,List.getElem?_eq_getElem (show i<ds.length by omega)] at q
   exact⟨_,List.getElem_mem (show i<ds.length by omega),q⟩
  ·rintro⟨d',hd',q⟩
   obtain⟨i,hi,rfl⟩:=List.mem_iff_getElem.mp hd'
   refine⟨us[i],List.getElem_mem (show i<us.length by omega),@decide_eq_true _ (Classical.propDecidable _) ⟨i,by omega,?_,?_⟩⟩
   ·rw [List.getD_eq_getElem?_getD,List.getElem?_eq_getElem (show i<us.length by omega)];rfl
   ·rw [List.getD_eq_getElem?_getD,List.getElem?_eq_getElem hi];exact q
theorem qNq (n:Bool) (hu:X.A.units+20<cLine):OpR X (compareOp (if n then .NotIn else .In)) (λx y H Q=>∃(d:D) (ds:List D) (F:Fz) (p:Addr) (vs:List V),RP X.K H F d x/\y=.ref p/\(SqL X.K H p vs∨SqT X.K H p vs)/\RDs X.K H F ds vs/\qCN 19 d=true/\nob d=true/\qD7 ds=true/\Q (.bl (if n then !(qD3 ds d) else qD3 ds d)) H):=by
 intro pins s σ H x y v u Q I rx ry h
 obtain⟨d,ds,F,p,vs,hx,rfl,hp,hr,hs,n1,n2,q⟩:=h
 cases ry
 rcases hp with hp|hp
 ·obtain⟨its,rv,ht,_⟩:=I.list hp
  obtain⟨e,he,ea,_⟩:=qNX I hu hx rx hr rv hs n1 n2
  cases n with
  | false=>exact SeqAt.in_listAt e ht.isList he ⟨.bl _,H,I,by rw [ea];rfl,q⟩
  | true=>exact SeqAt.notIn_listAt e ht.isList he ⟨.bl _,H,I,by rw [ea];rfl,q⟩
 ·obtain⟨its,rv,ht,_⟩:=I.tuple hp
  obtain⟨e,he,ea,_⟩:=qNX I hu hx rx hr rv hs n1 n2
  cases n with
  | false=>exact SeqAt.in_tupleAt e ht he ⟨.bl _,H,I,by rw [ea];rfl,q⟩
  | true=>exact SeqAt.notIn_tupleAt e ht he ⟨.bl _,H,I,by rw [ea];rfl,q⟩
end
end Dw
namespace Dw
open PySem PySem.Spec PyProof.Rows L2
noncomputable def RG (K:PySem.W.Frag) (H:Hp) (F:Fz) (d:D) (v:V):Prop:=RD K H F d v∨∃a ks,d=.dct false ks/\v=.ref a/\¬F a/\H a=some (.dK (dk ks))
noncomputable def RGs (K:PySem.W.Frag) (H:Hp) (F:Fz):List D->List V->Prop
 | [],vs=>vs=[]
 | d::ds,vs=>∃v r,vs=v::r/\RG K H F d v/\RGs K H F ds r
theorem RG.grow {K:PySem.W.Frag}{H H1:Hp}{F F1:Fz}(g:Gr H F H1 F1) {d:D}{v:V}(h:RG K H F d v):RG K H1 F1 d v:=
 h.elim (λz=>.inl (RD.mono g.keep z)) λ⟨a,ks,e1,e2,e3,e4⟩=>.inr ⟨a,ks,e1,e2,(λz=>(g.new a z).elim e3 λz=>absurd (e4.symm.trans z) (by simp)),g.same _ _ e4⟩
theorem RGs.of {K:PySem.W.Frag}{H:Hp}{F:Fz}:∀{ds:List D}{vs:List V},RDs K H F ds vs->RGs K H F ds vs
 | [],_,h=>h
 | _::_,_,⟨v,r,e,h1,h2⟩=>⟨v,r,e,.inl h1,RGs.of h2⟩
theorem RGs.length {K:PySem.W.Frag}{H:Hp}{F:Fz}:∀{ds:List D}{vs:List V},RGs K H F ds vs->vs.length=ds.length
 | [],_,h=>by rw [show _=[] from h];rfl
 | _::_,_,⟨v,r,e,h1,h2⟩=>by rw [e,List.length_cons,List.length_cons,RGs.length h2]
theorem RGs.get {K:PySem.W.Frag}{H:Hp}{F:Fz}:∀{ds:List D}{vs:List V}{i:Nat}{d:D},RGs K H F ds vs->ds[i]?=some d->∃v,vs[i]?=some v/\RG K H F d v
 | [],_,_,_,_,e=>by simp at e
 | x::ds,_,i,d,⟨v,r,e1,h1,h2⟩,e=>by
  subst e1
  cases i with
  | zero=>simp at e;subst e;exact⟨v,rfl,h1⟩
  | succ i=>simp at e;obtain⟨w,q1,q2⟩:=RGs.get h2 e;exact⟨w,by simpa using q1,q2⟩
noncomputable def spD (K:PySem.W.Frag) (n:Nat) (f:List D->Option R):Sp:=λvs H Q _=>vs.length=n/\∃(F:Fz) (ds:List D) (r:R),(∀a,H a=none->¬F a)/\RGs K H F ds vs/\f ds=some r /\
 ∀v H' F',Gr H F H' F'->RR K H H' F' r v->Q v H'
noncomputable def del (H:Hp) (a:Addr):Hp:=λb=>if b=a then none else H b
noncomputable def spH (K:PySem.W.Frag) (n:Nat) (f:List D->Option R):Sp:=λvs H Q _=>vs.length=n/\∃(F:Fz) (a:Addr) (xs ds ys:List D) (ws us:List V) (b:Bool),vs=.ref a::us/\(∀a,H a=none->¬F a)/\H a=some (.lst ws)/\¬F a/\RDs K H F xs ws/\RDs K H F ds us/\f (.lst xs::ds)=some (b,.lst ys) /\
 ∀H' F' zs,Gr (del H a) F H' F'->H' a=some (.lst zs)->¬F' a->RDs K H' F' ys zs->Q .non H'
structure Dfh (call:Nat->List D->Option R) (k:Nat) (X:Cx) (f:Str) (i:Nat):Prop where
 ex:∃(a:Addr) (fd:FuncData) (ps:List Str),X.mg f=some (.ref a)/\PySem.W.keepIn X.K (.ref a)=true/\Binds X.K fd ps []/\FnOk X.prog X.w X.K X.mg X.base CX0 k a fd ps (spH X.K ps.length (call (i+HX)))/\∀ds r,call (i+HX) ds=some r->ds.length=ps.length
structure Dfn (call:Nat->List D->Option R) (k:Nat) (X:Cx) (f:Str) (i:Nat):Prop where
 ex:∃(a:Addr) (fd:FuncData) (ps:List Str),X.mg f=some (.ref a)/\PySem.W.keepIn X.K (.ref a)=true/\Binds X.K fd ps []/\FnOk X.prog X.w X.K X.mg X.base CX0 k a fd ps (spD X.K ps.length (call i))/\∀ds r,call i ds=some r->ds.length=ps.length
noncomputable def kV:D->V
 | .int i=>.int i
 | .bl b=>.bl b
 | .str x=>.str x
 | _=>.non
noncomputable def isK:D->Bool
 | .tup _=>false
 | .lst _=>false
 | .dct _ _=>false
 | .obj _ _=>false
 | _=>true
noncomputable def arV (vs zs:List V):Ar->V
 | .pos i=>vs.getD i .non
 | .kw i=>zs.getD i .non
 | .dft _ d=>kV d
structure Dfu (call:Nat->List D->Option R) (k:Nat) (X:Cx) (u:Uc):Prop where
 ex:∃(a:Addr) (fd:FuncData) (ps:List Str) (g:List Value->List Value->List Value) (gV:List V->List V->List V),X.mg u.f=some (.ref a)/\PySem.W.keepIn X.K (.ref a)=true/\KBinds X.K fd ps u.ks g gV/\(∀vs zs,vs.length=u.np->zs.length=u.ks.length->gV vs zs=u.pl.map (arV vs zs)) /\
  (∀j d,Ar.dft j d∈u.pl->isK d=true)/\FnOk X.prog X.w X.K X.mg X.base CX0 k a fd ps (spD X.K ps.length (call u.i))/\∀ds r,call u.i ds=some r->ds.length=ps.length
noncomputable def qJR:List Str->List V->List (Str×V)->List (Str×V)
 | f::ns,v::vs,fs=>qJR ns vs (qCS f v fs)
 | _,_,fs=>fs
noncomputable def spI (K:PySem.W.Frag) (ns:List Str):Sp:=λvs H Q _=>∃(x C dx:Addr) (ws:List V),vs=.ref x::ws/\ws.length=ns.length/\H x=some (.ins C dx [])/\Cls K C/\(∀f∈ns,NoAttr K C f)/\Q .non (upd H x (.ins C dx (qJR ns ws [])))
structure Mk0 (K:PySem.W.Frag) (C:Addr):Prop where
 makes:PySem.W.makesIn K C=true
 init:PySem.W.findIn K (.ref C) "__init__"=some (some (.builtin "object.__init__"))
 kp:PySem.W.keepIn K (.ref C)=true
noncomputable def Ini (X:Cx) (C:Addr) (ns:List Str):Prop:=(∃(fi:Addr) (fdi:FuncData) (psi:List Str),Mk X.K C fi/\Binds X.K fdi psi []/\FnOk X.prog X.w X.K X.mg X.base CX0 1 fi fdi psi (spI X.K ns))∨(ns=[]/\Mk0 X.K C)
structure Dfm (call:Nat->List D->Option R) (k:Nat) (X:Cx) (ns:List Str) (c m:Str) (i:Nat) (C:Addr):Prop where
 ex:∃(fm:Addr) (fdm:FuncData) (psm:List Str),X.mg c=some (.ref C)/\Ini X C ns/\Cls X.K C/\(∀f∈ns,NoAttr X.K C f)/\Meth X.K C m fm/\Binds X.K fdm psm [] /\
  FnOk X.prog X.w X.K X.mg X.base CX0 k fm fdm psm (spD X.K psm.length (call i))/\(∀ds r,call i ds=some r->ds.length=psm.length)/\m∉ns/\ns.Nodup
noncomputable def qAI:List Str:=["len","abs","min","max","sum","all","tuple","list","int","bool","str","isinstance","range","zip","reversed","sorted","enumerate","any"].map Str.ofString
structure XG (call:Nat->List D->Option R) (G:Gx) (k:Nat) (X:Cx) (sc:Scope) (N:List Str):Prop where
 hN:X.N=N
 nd:N.Nodup
 vis:∀x,qL4 sc x=true->Vis X.env.scope x
 loc:∀x,(sc.names.lookup x == some .local||sc.names.lookup x == some .cell)=true->Loc X.env.scope x/\(X.fn x=true∨X.env.scope.names.lookup x=some .local)
 gl:∀x,glB sc x=true->Gl X x
 cap:∀x,qMa sc x=true->X.env.kindOf x=some .cell∨X.env.kindOf x=some .free
 calm:X.calm=true
 xe:X.xe=λ_ _=>False
 room:Room k X.A
 defs:∀f i,G.defs.lookup f=some i->Dfn call k X f i
 blt:∀x,G.defs.lookup x=none->x∈qAI->X.mg x=none
 cons:∀x i,G.cons.lookup x=some i->∃t,X.mg x=some (.int i t)
 ucal:∀u∈G.ucal,Dfu call k X u
 meth:∀u∈G.meth,Dfm call k X u.kn.ns u.c u.m u.i u.kn.c
 two:G.meth≠[]->2<=k
 hnd:∀f i,G.defs.lookup f=some i->Dfh call k X f i
section
variable {call:Nat->List D->Option R}{G:Gx}{k:Nat}{X:Cx}{sc:Scope}{N:List Str}
variable (call X) in
noncomputable def SndE (e:Expr) (c:C):Prop:=∃t:TE,PE X e t/\∀(Ge:Gp) (H:Hp) (F:Fz) (σ:En) (τ:L2.St) (r:R) (Q:VK),evE call σ c=some r->SR X.K Ge H F σ τ->(∀v H' F',Gr H F H' F'->RR X.K H H' F' r v->Q v H')->t τ H Q
variable (call X) in
noncomputable def qEH (e:Expr) (c:C):Prop:=∃t:TE,PE X e t/\∀(Ge:Gp) (H:Hp) (F:Fz) (σ:En) (τ:L2.St) (d:D) (Q:VK),pk σ c (evE call σ c)=some d->SR X.K Ge H F σ τ->(∀v H' F',Gr H F H' F'->RP X.K H' F' d v->Q v H')->t τ H Q
variable (call X) in
noncomputable def qEG (e:Expr) (c:C):Prop:=∃t:TT,PT X e t/\∀(Ge:Gp) (H:Hp) (F:Fz) (σ:En) (τ:L2.St) (x b:Bool) (Q:Bool->Hp->Prop),evE call σ c=some (x,.bl b)->SR X.K Ge H F σ τ->(∀H' F',Gr H F H' F'->Q b H')->t τ H Q
variable (call X) in
noncomputable def qJD (es:List Expr) (cs:List C):Prop:=∃t:TA,PA X es t/\∀(Ge:Gp) (H:Hp) (F:Fz) (σ:En) (τ:L2.St) (ds:List D) (Q:List V->Hp->Prop),evA call σ cs=some ds->SR X.K Ge H F σ τ->(∀vs H' F',Gr H F H' F'->RDs X.K H' F' ds vs->Q vs H')->t τ H Q
noncomputable def RPs (K:PySem.W.Frag) (H:Hp) (F:Fz):List D->List V->Prop
 | [],vs=>vs=[]
 | d::ds,vs=>∃v r,vs=v::r/\RP K H F d v/\RPs K H F ds r
variable (call X) in
noncomputable def qEI (es:List Expr) (cs:List C):Prop:=∃t:TA,PA X es t/\∀(Ge:Gp) (H:Hp) (F:Fz) (σ:En) (τ:L2.St) (ds:List D) (Q:List V->Hp->Prop),qCt call σ cs=some ds->SR X.K Ge H F σ τ->(∀vs H' F',Gr H F H' F'->RPs X.K H' F' ds vs->Q vs H')->t τ H Q
variable (call X) in
noncomputable def qJC (e:Expr) (c:C):Prop:=∃t:TE,PE X e t/\∀(Ge:Gp) (H:Hp) (F:Fz) (σ:En) (τ:L2.St) (d:D) (Q:VK),ag σ c (evE call σ c)=some d->SR X.K Ge H F σ τ->(∀v H' F',Gr H F H' F'->RG X.K H' F' d v->Q v H')->t τ H Q
variable (call X) in
noncomputable def qIm (es:List Expr) (cs:List C):Prop:=∃t:TA,PA X es t/\∀(Ge:Gp) (H:Hp) (F:Fz) (σ:En) (τ:L2.St) (ds:List D) (Q:List V->Hp->Prop),evG call σ cs=some ds->SR X.K Ge H F σ τ->(∀vs H' F',Gr H F H' F'->RGs X.K H' F' ds vs->Q vs H')->t τ H Q
variable (call X) in
noncomputable def qOA (e:Option Expr) (c:Option C):Prop:=∃t:TO,PO X e t/\∀(Ge:Gp) (H:Hp) (F:Fz) (σ:En) (τ:L2.St) (o:Option Int) (Q:Option Int->Hp->Prop),evO call σ c=some o->SR X.K Ge H F σ τ->(∀H' F',Gr H F H' F'->Q o H')->t τ H Q
theorem SndE.look {e:Expr}{c:C}(h:SndE call X e c) (hc:∀i,c≠.v i):qEH call X e c:=by
 obtain⟨t,p,q⟩:=h
 refine⟨t,p,λGe H F σ τ d Q hd hs k=>?_⟩
 have hd':(evE call σ c).map (·.2)=some d:=by
  cases c with
  | v i=>exact absurd rfl (hc i)
  | _=>exact hd
 cases hr:evE call σ c with
 | none=>rw [hr] at hd';cases hd'
 | some r =>
  rw [hr] at hd'
  cases hd'
  exact q Ge H F σ τ r Q hr hs λv H' F' g z=>k v H' F' g z.look
theorem SndE.lend {e:Expr}{c:C}(h:SndE call X e c) (hc:∀i,c≠.v i):qJC call X e c:=by
 obtain⟨t,p,q⟩:=h
 refine⟨t,p,λGe H F σ τ d Q hd hs k=>?_⟩
 have hd':(evE call σ c).map (·.2)=some d:=by
  cases c with
  | v i=>exact absurd rfl (hc i)
  | _=>exact hd
 cases hr:evE call σ c with
 | none=>rw [hr] at hd';cases hd'
 | some r =>
  rw [hr] at hd'
  cases hd'
  refine q Ge H F σ τ r Q hr hs λv H' F' g z=>?_
  obtain⟨F2,g2,rd⟩:=z.fz g
  exact k v H' F2 g2 (.inl rd)
theorem qBc {x:Str}{i:Nat}(h:qAP N x=some i):N[i]?=some x:=by
 unfold qAP at h
 obtain⟨h1,h2,_⟩:=List.findIdx?_eq_some_iff_getElem.mp h
 rw [List.getElem?_eq_getElem h1]
 simpa using h2
theorem qCL (g:XG call G k X sc N) {x:Str}{i:Nat}(h:qBr sc N x=some i):X.N[i]?=some x/\Vis X.env.scope x/\(x == ("__debug__":Str))=false/\(x == ("__classdict__":Str))=false:=by
 unfold qBr at h
 split at h
 ·rename_i hv
  rw [Bool.and_eq_true] at hv
  have hp:=hv.2
  unfold qAQ at hp
  simp only [Bool.and_eq_true,bne_iff_ne,ne_eq] at hp
  refine⟨by rw [g.hN];exact qBc h,g.vis x hv.1,?_,?_⟩
  ·exact beq_eq_false_iff_ne.mpr hp.1.1
  ·exact beq_eq_false_iff_ne.mpr hp.1.2
 ·cases h
theorem qIH (g:XG call G k X sc N) {x:Str}{pos:Pos}{i:Nat}(h:qBr sc N x=some i):SndE call X (.Name x pos) (.v i)/\qEH call X (.Name x pos) (.v i)/\qJC call X (.Name x pos) (.v i):=by
 obtain⟨h1,h2,h3,h4⟩:=qCL g h
 refine⟨?_,?_,?_⟩
 ·refine⟨_,qCh h1 h2 h3 h4,λGe H F σ τ r Q hr hs k=>?_⟩
  change qAR (qAe σ i)=some r at hr
  cases hv:qAe σ i with
  | none=>rw [hv] at hr;cases hr
  | some z =>
   obtain⟨b,d⟩:=z
   rw [hv] at hr
   cases b with
   | true=>cases hr
   | false =>
    cases hr
    obtain⟨v,e,rd⟩:=hs.val i d hv
    exact⟨v,e,k v H F (Gr.refl hs.dom) rd⟩
 ·refine⟨_,qCh h1 h2 h3 h4,λGe H F σ τ d Q hr hs k=>?_⟩
  change (qAe σ i).bind pkR=some d at hr
  cases hv:qAe σ i with
  | none=>rw [hv] at hr;cases hr
  | some z =>
   obtain⟨b,d'⟩:=z
   rw [hv] at hr
   cases b with
   | false =>
    cases hr
    obtain⟨v,e,rd⟩:=hs.val i _ hv
    exact⟨v,e,k v H F (Gr.refl hs.dom) (.inl rd)⟩
   | true =>
    cases d' with
    | lst ds' =>
     cases hr
     obtain⟨a,ds,vs,e1,e2,e3,e4,e5,e6⟩:=hs.own i _ hv rfl
     exact⟨.ref a,e2,k _ H F (Gr.refl hs.dom) (.inr ⟨a,ds,vs,e1,rfl,e5,e6⟩)⟩
    | _=>cases hr
 ·refine⟨_,qCh h1 h2 h3 h4,λGe H F σ τ d Q hr hs k=>?_⟩
  change (qAe σ i).bind agR=some d at hr
  cases hv:qAe σ i with
  | none=>rw [hv] at hr;cases hr
  | some z =>
   obtain⟨b,d'⟩:=z
   rw [hv] at hr
   cases b with
   | false =>
    cases hr
    obtain⟨v,e,rd⟩:=hs.val i _ hv
    exact⟨v,e,k v H F (Gr.refl hs.dom) (.inl rd)⟩
   | true =>
    cases d' with
    | dct m ks =>
     cases hr
     obtain⟨a,e1,e2,e3,e4⟩:=hs.dct i m ks hv
     exact⟨.ref a,e1,k _ H F (Gr.refl hs.dom) (.inr ⟨a,ks,rfl,rfl,e2,e3⟩)⟩
    | _=>cases hr
theorem qC2 {c:Const}{d:D}{j:Nat}{pos:Pos}(h:kOf c=some d):SndE call X (.Constant c j pos) (.k d):=by
 cases c with
 | int i=>cases h;exact⟨_,qNf,λGe H F σ τ r Q hr hs k=>by cases hr;exact k _ H F (Gr.refl hs.dom) rfl⟩
 | bool i=>cases h;exact⟨_,qPj,λGe H F σ τ r Q hr hs k=>by cases hr;exact k _ H F (Gr.refl hs.dom) rfl⟩
 | str x=>cases h;exact⟨_,qNa,λGe H F σ τ r Q hr hs k=>by cases hr;exact k _ H F (Gr.refl hs.dom) rfl⟩
 | none=>cases h;exact⟨_,qNd,λGe H F σ τ r Q hr hs k=>by cases hr;exact k _ H F (Gr.refl hs.dom) rfl⟩
 | _=>cases h
theorem qMK (g:XG call G k X sc N) {x:Str}{c:C}{pos:Pos}(h:cGl G sc x=some c):SndE call X (.Name x pos) c/\∀i,c≠.v i:=by
 unfold cGl at h
 split at h
 ·rename_i hb
  rw [Bool.and_eq_true] at hb
  cases hc:G.cons.lookup x with
  | none=>rw [hc] at h;cases h
  | some i =>
   rw [hc] at h
   cases h
   obtain⟨t,ht⟩:=g.cons x i hc
   have hd:(x == ("__debug__":Str))=false:=by
    have:=hb.2
    unfold qAQ at this
    simp only [Bool.and_eq_true,bne_iff_ne,ne_eq] at this
    simpa using this.1.1
   exact⟨⟨_,qLb (v:=.int i) (g.gl x hb.1) ht ⟨t,rfl⟩ hd,λGe H F σ τ r Q hr hs k=>by cases hr;exact k _ H F (Gr.refl hs.dom) rfl⟩,λi z=>nomatch z⟩
 ·cases h
noncomputable def OpD (X:Cx) (f:Value->Value->Sem Value) (b:D->D->Option R):Prop:=
 ∃r:R2,OpR X f r/\∀(H:Hp) (F:Fz) (d e:D) (x y:V) (z:R) (Q:VK),b d e=some z->(∀a,H a=none->¬F a)->RP X.K H F d x->RP X.K H F e y->(∀v H' F',Gr H F H' F'->RR X.K H H' F' z v->Q v H')->r x y H Q
theorem qJs {α β γ:Type}{a:Option α}{b:Option β}{f:α->β->Option γ}{z:γ}(h:(a.bind λx=>b.bind λy=>f x y)=some z):∃x y,a=some x/\b=some y/\f x y=some z:=by
 cases a with
 | none=>cases h
 | some x =>
  cases b with
  | none=>cases h
  | some y=>exact⟨x,y,rfl,rfl,h⟩
theorem qAb {α γ:Type}{a:Option α}{f:α->Option γ}{z:γ}(h:a.bind f=some z):∃x,a=some x/\f x=some z:=by
 cases a with
 | none=>cases h
 | some x=>exact⟨x,rfl,h⟩
theorem qGc {a b:Expr}{ca cb:C}{ta tb:TE}{Ge:Gp}{H:Hp}{F:Fz}{σ:En}{τ:L2.St}{x y:D}{R':V->V->Hp->Prop}
  (qa:∀(Ge:Gp) (H:Hp) (F:Fz) (σ:En) (τ:L2.St) (d:D) (Q:VK),pk σ ca (evE call σ ca)=some d->SR X.K Ge H F σ τ->(∀v H' F',Gr H F H' F'->RP X.K H' F' d v->Q v H')->ta τ H Q)
  (qb:∀(Ge:Gp) (H:Hp) (F:Fz) (σ:En) (τ:L2.St) (d:D) (Q:VK),pk σ cb (evE call σ cb)=some d->SR X.K Ge H F σ τ->(∀v H' F',Gr H F H' F'->RP X.K H' F' d v->Q v H')->tb τ H Q)
  (ex:pk σ ca (evE call σ ca)=some x) (ey:pk σ cb (evE call σ cb)=some y) (hs:SR X.K Ge H F σ τ)
  (h:∀v w H2 F2,Gr H F H2 F2->RP X.K H2 F2 x v->RP X.K H2 F2 y w->R' v w H2):ta τ H λv H1=>tb τ H1 λw H2=>R' v w H2:=by
 refine qa Ge H F σ τ x _ ex hs λv H1 F1 g1 r1=>?_
 refine qb Ge H1 F1 σ τ y _ ey (hs.grow g1) λw H2 F2 g2 r2=>?_
 exact h v w H2 F2 (g1.trans g2) (r1.grow g2) r2
theorem qKV {a b:Expr}{ca cb:C}{op:Operator}{o:BOp}{pos:Pos}(ho:OpD X (binaryOp op) (qEM o)) (ha:qEH call X a ca) (hb:qEH call X b cb):SndE call X (.BinOp a op b pos) (.bin o ca cb):=by
 obtain⟨r,hr,hq⟩:=ho
 obtain⟨ta,pa,qa⟩:=ha
 obtain⟨tb,pb,qb⟩:=hb
 refine⟨_,qPf hr pa pb,λGe H F σ τ z Q hz hs k=>?_⟩
 obtain⟨x,y,ex,ey,ez⟩:=qJs (by simpa only [qHL] using hz)
 refine qGc (a:=a) (b:=b) qa qb ex ey hs λv w H2 F2 g rx ry=>?_
 exact hq H2 F2 x y v w z Q ez g.dom rx ry λu H' F' g' rr=>k u H' F' (g.trans g') (rr.back g.same)
theorem qKU {a b:Expr}{ca cb:C}{op:CmpOp}{o:COp}{pos:Pos}(ho:OpD X (compareOp op) (qFd o)) (hm:behindInMarks op b=false) (hb2:∀x y z,qFd o x y=some z->∃c,z=(false,.bl c)) (ha:qEH call X a ca) (hb:qEH call X b cb) :
  SndE call X (.Compare a [op] [b] pos) (.cmp o ca cb)/\qEG call X (.Compare a [op] [b] pos) (.cmp o ca cb):=by
 obtain⟨r,hr,hq⟩:=ho
 obtain⟨ta,pa,qa⟩:=ha
 obtain⟨tb,pb,qb⟩:=hb
 constructor
 ·refine⟨_,qEX hr pa pb hm,λGe H F σ τ z Q hz hs k=>?_⟩
  obtain⟨x,y,ex,ey,ez⟩:=qJs (by simpa only [qE9] using hz)
  refine qGc (a:=a) (b:=b) qa qb ex ey hs λv w H2 F2 g rx ry=>?_
  exact hq H2 F2 x y v w z Q ez g.dom rx ry λu H' F' g' rr=>k u H' F' (g.trans g') (rr.back g.same)
 ·refine⟨_,qEV hr pa pb hm,λGe H F σ τ xx bb Q hz hs k=>?_⟩
  obtain⟨x,y,ex,ey,ez⟩:=qJs (by simpa only [qE9] using hz)
  refine qGc (a:=a) (b:=b) qa qb ex ey hs λv w H2 F2 g rx ry=>?_
  obtain⟨c,ec⟩:=hb2 _ _ _ ez
  cases ec
  exact hq H2 F2 x y v w _ _ ez g.dom rx ry λu H' F' g' rr=>⟨bb,rr,k H' F' (g.trans g')⟩
theorem qN7 (ks:List Int) (k:Int):(qF2 (dk ks) (Sum.inl k:Key)).isSome=ks.any (· == k):=by
 rw [<-qFl]
 unfold dk
 rw [List.any_map]
 congr 1
 funext x
 rw [Bool.eq_iff_iff]
 simp [Function.comp]
theorem qNs (hu:X.A.units+1<cLine):OpR X (compareOp .In) (λx y H Q=>∃a o,y=.ref a/\DGet H a x o/\Q (.bl o.isSome) H):=by
 intro pins s σ H x y v u Q I rx ry h
 obtain⟨a,o,rfl,g,q⟩:=h
 cases ry
 exact qQ0 hu I g rx λs' I'=>⟨.bl o.isSome,H,I',rfl,q⟩
theorem qHc (hu:X.A.units+1<cLine):OpR X (compareOp .NotIn) (λx y H Q=>∃a o,y=.ref a/\DGet H a x o/\Q (.bl (!o.isSome)) H):=by
 intro pins s σ H x y v u Q I rx ry h
 obtain⟨a,o,rfl,g,q⟩:=h
 cases ry
 exact qLS hu I g rx λs' I'=>⟨.bl (!o.isSome),H,I',rfl,q⟩
theorem qPB (n:Bool) (x d:D):inR n x (false,d)=inD n x d:=by cases x<;>rfl
theorem qPA {n:Bool}{x d:D}{z:R}(h:inR n x (true,d)=some z):(∃k m ks,x=.int k/\d=.dct m ks/\z=(false,.bl (if n then !(ks.any (· == k)) else ks.any (· == k))))∨∃b ds bs,x=.bl b/\d=.lst ds/\qDu ds=some bs/\z=(false,.bl (if n then !(bs.any (· == b)) else bs.any (· == b))):=by
 cases x with
 | int k =>
  cases d with
  | dct m ks=>cases h;exact .inl ⟨k,m,ks,rfl,rfl,rfl⟩
  | _=>cases h
 | bl b =>
  cases d with
  | lst ds =>
   have h:(qDu ds).map (λbs=>(false,D.bl (if n then !(bs.any (· == b)) else bs.any (· == b))))=some z:=h
   cases e:qDu ds with
   | none=>rw [e] at h;cases h
   | some bs=>rw [e] at h;cases h;exact .inr ⟨b,ds,bs,rfl,rfl,e,rfl⟩
  | _=>cases h
 | _=>cases h
theorem qD9 (i:Bool):∀{is:List Bool}{us:List Value},Vals (is.map V.bl) us->(∀u∈us,∃j,u=Value.bool j)/\us.any (λu=>match u with|.bool j=>j == i|_=>false)=is.any (· == i)
 | [],us,h=>by cases h;exact⟨(λ_ z=>nomatch z),rfl⟩
 | n::is,us,h=>by
  cases h with
  | cons h1 h2 =>
   have h1:_=Value.bool n:=h1
   subst h1
   obtain⟨q1,q2⟩:=qD9 i h2
   refine⟨λu hu=>?_,?_⟩
   ·rcases List.mem_cons.mp hu with rfl|hu
    ·exact⟨n,rfl⟩
    ·exact q1 u hu
   ·rw [List.any_cons,List.any_cons,q2]
theorem qHb (n:Bool):OpR X (compareOp (if n then .NotIn else .In)) (λx y H Q=>∃(i:Bool) (p:Addr) (is:List Bool),x=.bl i/\y=.ref p/\SqL X.K H p (is.map V.bl)/\Q (.bl (if n then !(is.any (· == i)) else is.any (· == i))) H):=by
 intro pins s σ H x y v u Q I rx ry h
 obtain⟨i,p,is,rfl,rfl,hp,q⟩:=h
 have rx:v=Value.bool i:=rx
 subst rx
 cases ry
 obtain⟨its,rv,ht,_⟩:=I.list hp
 obtain⟨q1,q2⟩:=qD9 i rv
 have he:∀y,y∈its.toArray->SeqAt.EqAt X.A.in1 s y (.bool i) ((λu:Value=>match u with|.bool j=>j == i|_=>false) y):=λy hy=>by
  obtain⟨j,rfl⟩:=q1 y (by simpa using hy)
  exact SeqAt.EqAt.bool_bool _ _
 have ea:its.toArray.any (λu:Value=>match u with|.bool j=>j == i|_=>false)=is.any (· == i):=by rw [List.any_toArray];exact q2
 cases n with
 | false=>exact SeqAt.in_listAt _ ht.isList he ⟨.bl _,H,I,by rw [ea];rfl,q⟩
 | true=>exact SeqAt.notIn_listAt _ ht.isList he ⟨.bl _,H,I,by rw [ea];rfl,q⟩
theorem qFE {f:Value->Value->Sem Value}{r r':R2}(h:OpR X f r) (h':OpR X f r'):OpR X f (λx y H Q=>r x y H Q∨r' x y H Q):=
 λpins s σ H x y v u Q I rx ry z=>z.elim (h pins s σ H x y v u Q I rx ry) (h' pins s σ H x y v u Q I rx ry)
theorem qGS (n:Bool) (g:XG call G k X sc N) (hu:X.A.units+20<cLine) {a:Expr}{x:Str}{px pos:Pos}{ca:C}{i:Nat}{op:CmpOp}{o:COp}(hn:(n=false/\op=.In/\o=.isin)∨(n=true/\op=.NotIn/\o=.notin)) (ho:OpD X (compareOp op) (qFd o)) (hv:qBr sc N x=some i) (ha:qEH call X a ca) :
  SndE call X (.Compare a [op] [.Name x px] pos) (.inV n ca i)/\qEG call X (.Compare a [op] [.Name x px] pos) (.inV n ca i):=by
 obtain⟨h1,h2,h3,h4⟩:=qCL g hv
 have pn:PE X (.Name x px) (qMx i):=qCh h1 h2 h3 h4
 obtain⟨r,hr,hq⟩:=ho
 obtain⟨ta,pa,qa⟩:=ha
 have hc:∀x d:D,qFd o x d=inD n x d:=λx d=>by rcases hn with ⟨rfl,_,rfl⟩|⟨rfl,_,rfl⟩<;>rfl
 have hm:behindInMarks op (.Name x px)=false:=by rcases hn with ⟨_,rfl,_⟩|⟨_,rfl,_⟩<;>rfl
 have hd:OpR X (compareOp op) (λx y H Q=>∃a o',y=.ref a/\DGet H a x o'/\Q (.bl (if n then !o'.isSome else o'.isSome)) H):=by
  rcases hn with ⟨rfl,rfl,_⟩|⟨rfl,rfl,_⟩
  ·exact qNs (by omega)
  ·exact qHc (by omega)
 have hl:OpR X (compareOp op) (λx y H Q=>∃(i:Bool) (p:Addr) (is:List Bool),x=.bl i/\y=.ref p/\SqL X.K H p (is.map V.bl)/\Q (.bl (if n then !(is.any (· == i)) else is.any (· == i))) H):=by
  rcases hn with ⟨rfl,rfl,_⟩|⟨rfl,rfl,_⟩
  ·exact qHb false
  ·exact qHb true
 have key:∀(Ge:Gp) (H:Hp) (F:Fz) (σ:En) (τ:L2.St) (z:R) (Q:VK),evE call σ (.inV n ca i)=some z->SR X.K Ge H F σ τ->(∀v H' F',Gr H F H' F'->RR X.K H H' F' z v->Q v H') ->
   ta τ H λv H1=>qMx i τ H1 λw H2=>(r v w H2 Q∨((∃a o',w=.ref a/\DGet H2 a v o'/\Q (.bl (if n then !o'.isSome else o'.isSome)) H2)∨∃(i:Bool) (p:Addr) (is:List Bool),v=.bl i/\w=.ref p/\SqL X.K H2 p (is.map V.bl)/\Q (.bl (if n then !(is.any (· == i)) else is.any (· == i))) H2)):=λGe H F σ τ z Q hz hs kk=>by
  rw [qHJ] at hz
  obtain⟨x,ex,hz⟩:=qAb hz
  obtain⟨y,ey,ez⟩:=qAb hz
  refine qa Ge H F σ τ x _ ex hs λv H1 F1 g1 rx=>?_
  have hs1:=hs.grow g1
  obtain⟨b,d⟩:=y
  cases b with
  | false =>
   rw [qPB] at ez
   obtain⟨w,e,rd⟩:=hs1.val i d ey
   refine⟨w,e,.inl (hq H1 F1 x d v w z _ (by rw [hc];exact ez) g1.dom rx (.inl rd) λu H' F' g' rr=>kk u H' F' (g1.trans g') (rr.back g1.same))⟩
  | true =>
   rcases qPA ez with ⟨kk',m,ks,rfl,rfl,rfl⟩|⟨b,ds,bs,rfl,rfl,eb,rfl⟩
   ·obtain⟨a,e1,e2,e3,e4⟩:=hs1.dct i m ks ey
    have hx:=rx.int
    subst hx
    refine⟨.ref a,e1,.inr (.inl ⟨a,qF2 (dk ks) (Sum.inl kk'),rfl,DGet.k (k:=Sum.inl kk') e3,?_⟩)⟩
    rw [qN7]
    exact kk _ H1 F1 g1 (by cases n<;>rfl)
   ·obtain⟨a,ds',vs,e1,e2,e3,e4,e5,e6⟩:=hs1.own i _ ey rfl
    cases e1
    have hx:=rx.bl
    subst hx
    obtain rfl:=RDs.bls e6 eb
    exact⟨.ref a,e2,.inr (.inr ⟨b,a,bs,rfl,rfl,SqL.of e5,kk _ H1 F1 g1 (by cases n<;>rfl)⟩)⟩
 constructor
 ·exact⟨_,qEX (qFE hr (qFE hd hl)) pa pn hm,key⟩
 ·refine⟨_,qEV (qFE hr (qFE hd hl)) pa pn hm,λGe H F σ τ xx bb Q hz hs kk=>?_⟩
  exact key Ge H F σ τ _ _ hz hs λv H' F' g rr=>by
   cases xx with
   | false=>exact⟨bb,rr,kk H' F' g⟩
   | true=>obtain⟨_,_,_,e,_⟩:=rr;cases e
theorem qCb {K:PySem.W.Frag}{H:Hp}{F:Fz}{ds:List D}{vs:List V}{p:Addr}(dom:∀a,H a=none->¬F a) (hp:H p=none) (h:RDs K H F ds vs) :
  Gr H F (upd H p (.lst vs)) F/\RR K H (upd H p (.lst vs)) F (true,.lst ds) (.ref p):=by
 have g:Gr H F (upd H p (.lst vs)) F:=Gr.laid dom hp
 exact⟨g,p,ds,vs,rfl,rfl,hp,dom p hp,qAJ,RDs.mono g.keep h⟩
theorem qCz {K:PySem.W.Frag}{H:Hp}{F:Fz}{ds:List D}{vs:List V}{p:Addr}(dom:∀a,H a=none->¬F a) (hp:H p=none) (h:RDs K H F ds vs) :
  Gr H F (upd H p (.tup vs)) F/\RR K H (upd H p (.tup vs)) F (false,.tup ds) (.ref p):=by
 have g:Gr H F (upd H p (.tup vs)) F:=Gr.laid dom hp
 exact⟨g,p,vs,rfl,SqT.of qAJ,RDs.mono g.keep h⟩
theorem qBY {f:Value->Value->Sem Value}{b:D->D->Option R}{Cc:Int->Int->Prop}{gg:Int->Int->V}{kk:Int->Int->D}(h:OpR X f (rI Cc gg))
  (hb:∀d e z,b d e=some z->∃i j,d=.int i/\e=.int j/\Cc i j/\z=(false,kk i j)) (hk:∀(H:Hp) (F:Fz) i j,RD X.K H F (kk i j) (gg i j)):OpD X f b:=by
 refine⟨_,h,λH F d e x y z Q hz dom hx hy k=>?_⟩
 obtain⟨i,j,rfl,rfl,hc,rfl⟩:=hb d e z hz
 exact⟨i,j,hx.int,hy.int,hc,k _ H F (Gr.refl dom) (hk H F i j)⟩
theorem qCy {f:Value->Value->Sem Value}{b:D->D->Option R}{gg:Int->Int->V}{kk:Int->Int->D}(h:OpR X f (rI0 gg))
  (hb:∀d e z,b d e=some z->∃i j,d=.int i/\e=.int j/\z=(false,kk i j)) (hk:∀(H:Hp) (F:Fz) i j,RD X.K H F (kk i j) (gg i j)):OpD X f b:=by
 refine⟨_,h,λH F d e x y z Q hz dom hx hy k=>?_⟩
 obtain⟨i,j,rfl,rfl,rfl⟩:=hb d e z hz
 exact⟨i,j,hx.int,hy.int,k _ H F (Gr.refl dom) (hk H F i j)⟩
theorem qAB {α:Type}{c:Prop} [Decidable c] {a b:α}(h:(if c then some a else none)=some b):c/\a=b:=by
 by_cases hc:c
 ·rw [if_pos hc] at h;exact⟨hc,Option.some.inj h⟩
 ·rw [if_neg hc] at h;cases h
theorem qLe:OpD X (binaryOp .Sub) (qEM .sub):=qCy (kk:=λi j=>.int (i - j)) qNl (λd e z h=>by
 cases d<;>cases e<;>first|(cases h;exact⟨_,_,rfl,rfl,rfl⟩)|cases h) λ_ _ _ _=>rfl
theorem qIX:OpD X (binaryOp .FloorDiv) (qEM .fdiv):=qBY (kk:=λi j=>.int (i.fdiv j)) qI0 (λd e z h=>by
 cases d<;>cases e<;>first|(obtain⟨h1,rfl⟩:=qAB h;exact⟨_,_,rfl,rfl,h1,rfl⟩)|cases h) λ_ _ _ _=>rfl
theorem qLj:OpD X (binaryOp .Mod) (qEM .mod):=qBY (kk:=λi j=>.int (i.fmod j)) qLo (λd e z h=>by
 cases d<;>cases e<;>first|(obtain⟨h1,rfl⟩:=qAB h;exact⟨_,_,rfl,rfl,h1,rfl⟩)|cases h) λ_ _ _ _=>rfl
theorem qLh:OpD X (binaryOp .Pow) (qEM .pow):=qBY (kk:=λi j=>.int (i^j.toNat)) qLn (λd e z h=>by
 cases d<;>cases e<;>first|(obtain⟨h1,rfl⟩:=qAB h;exact⟨_,_,rfl,rfl,h1,rfl⟩)|cases h) λ_ _ _ _=>rfl
theorem qLg:OpD X (binaryOp .LShift) (qEM .shl):=qBY (kk:=λi j=>.int (i * 2^j.toNat)) qNn (λd e z h=>by
 cases d<;>cases e<;>first|(obtain⟨h1,rfl⟩:=qAB h;have h2:=of_decide_eq_true h1;exact⟨_,_,rfl,rfl,⟨h2.1,by omega,h2.2.2⟩,rfl⟩)|cases h) λ_ _ _ _=>rfl
theorem qLf:OpD X (binaryOp .RShift) (qEM .shr):=qBY (kk:=λi j=>.int (i / 2^j.toNat)) qNm (λd e z h=>by
 cases d<;>cases e<;>first|(obtain⟨h1,rfl⟩:=qAB h;exact⟨_,_,rfl,rfl,h1,rfl⟩)|cases h) λ_ _ _ _=>rfl
theorem qIg {x y:Int}(h1:0<=x) (h2:0<=y):Builtin.bitAnd x y=((x.toNat &&& y.toNat:Nat):Int):=by
 unfold Builtin.bitAnd;rw [decide_eq_true h1,decide_eq_true h2]
theorem qKf {x y:Int}(h1:0<=x) (h2:0<=y):Builtin.bitOr x y=((x.toNat ||| y.toNat:Nat):Int):=by
 have n:∀z:Int,Builtin.bitNot z=-z - 1:=λz=>by simp only [Builtin.bitNot]<;>omega
 unfold Builtin.bitOr Builtin.bitAnd
 rw [decide_eq_false (show ¬0<=Builtin.bitNot x by rw [n];omega),decide_eq_false (show ¬0<=Builtin.bitNot y by rw [n];omega)]
 simp only
 rw [n,n,n,n,n,n]
 rw [show -(-x - 1) - 1=x by omega,show -(-y - 1) - 1=y by omega]
 omega
theorem qI2:OpR X (binaryOp .BitAnd) (rI (λi j=>0<=i/\0<=j) λi j=>.int ((i.toNat &&& j.toNat:Nat):Int)):=opI λi j _ _ _ _ _ hc q=>and_int (by rw [qIg hc.1 hc.2];exact q)
theorem qLq:OpR X (binaryOp .BitOr) (rI (λi j=>0<=i/\0<=j) λi j=>.int ((i.toNat ||| j.toNat:Nat):Int)):=opI λi j _ _ _ _ _ hc q=>or_int (by rw [qKf hc.1 hc.2];exact q)
theorem qIZ:OpD X (binaryOp .BitAnd) (qEM .band):=qBY (kk:=λi j=>.int ((i.toNat &&& j.toNat:Nat):Int)) qI2 (λd e z h=>by
 cases d<;>cases e<;>first|(obtain⟨h1,rfl⟩:=qAB h;exact⟨_,_,rfl,rfl,h1,rfl⟩)|cases h) λ_ _ _ _=>rfl
theorem qLk:OpD X (binaryOp .BitOr) (qEM .bor):=qBY (kk:=λi j=>.int ((i.toNat ||| j.toNat:Nat):Int)) qLq (λd e z h=>by
 cases d<;>cases e<;>first|(obtain⟨h1,rfl⟩:=qAB h;exact⟨_,_,rfl,rfl,h1,rfl⟩)|cases h) λ_ _ _ _=>rfl
theorem qI1:OpR X (binaryOp .BitXor) (rI (λi j=>0<=i/\0<=j) λi j=>.int (((i.toNat ||| j.toNat:Nat):Int) - ((i.toNat &&& j.toNat:Nat):Int))):=opI λi j _ _ _ _ _ hc q=>xor_int (by unfold Builtin.bitXor;rw [qKf hc.1 hc.2,qIg hc.1 hc.2];exact q)
theorem qIY:OpD X (binaryOp .BitXor) (qEM .bxor):=qBY (kk:=λi j=>.int (((i.toNat ||| j.toNat:Nat):Int) - ((i.toNat &&& j.toNat:Nat):Int))) qI1 (λd e z h=>by
 cases d<;>cases e<;>first|(obtain⟨h1,rfl⟩:=qAB h;exact⟨_,_,rfl,rfl,h1,rfl⟩)|cases h) λ_ _ _ _=>rfl
theorem qLi:OpD X (binaryOp .Mult) (qEM .mul):=by
 refine⟨_,op_mulD.or qLm,λH F d e x y z Q hz dom hx hy k=>?_⟩
 cases d with
 | int i =>
  cases e with
  | int j=>obtain⟨h1,rfl⟩:=qAB hz;exact .inl ⟨i,j,hx.int,hy.int,h1,k _ H F (Gr.refl dom) rfl⟩
  | _=>cases hz
 | lst xs =>
  cases e with
  | int j =>
   obtain⟨⟨h1,h2,h3⟩,rfl⟩:=qAB hz
   obtain⟨a,vs,rfl,hl,hr⟩:=hx.lst
   refine .inr ⟨a,j,vs,rfl,hy.int,hl,by omega,by omega,by rw [RDs.length hr];exact h1,λp hp=>?_⟩
   obtain⟨g,rr⟩:=qCb dom hp (RDs.rep hr j.toNat)
   exact k _ _ _ g rr
  | _=>cases hz
 | _=>cases e<;>cases hz
theorem qLl:OpD X (binaryOp .Add) (qEM .add):=by
 refine⟨_,(op_add.or (op_catD.or qLp)).or (op_catN.or qGe),λH F d e x y z Q hz dom hx hy k=>?_⟩
 cases d with
 | int i =>
  cases e with
  | int j=>cases hz;exact .inl (.inl ⟨i,j,hx.int,hy.int,k _ H F (Gr.refl dom) rfl⟩)
  | _=>cases hz
 | str xs =>
  cases e with
  | str ys =>
   obtain⟨h1,rfl⟩:=qAB hz
   exact .inr (.inr ⟨xs,ys,hx.str,hy.str,h1,k _ H F (Gr.refl dom) rfl⟩)
  | _=>cases hz
 | lst xs =>
  cases e with
  | lst ys =>
   obtain⟨h1,rfl⟩:=qAB hz
   obtain⟨a,vs,rfl,hl,hr⟩:=hx.lst
   obtain⟨a2,vs2,rfl,hl2,hr2⟩:=hy.lst
   refine .inl (.inr (.inl ⟨a,a2,vs,vs2,rfl,rfl,hl,hl2,by rw [RDs.length hr,RDs.length hr2];exact h1,λp hp=>?_⟩))
   obtain⟨g,rr⟩:=qCb dom hp (RDs.append hr hr2)
   exact k _ _ _ g rr
  | _=>cases hz
 | tup xs =>
  cases e with
  | tup ys =>
   cases xs with
   | nil =>
    cases hz
    obtain⟨a,vs,rfl,hl,hr⟩:=hx.tup
    obtain⟨a2,vs2,rfl,hl2,hr2⟩:=hy.tup
    have hr:vs=[]:=hr
    subst hr
    exact .inr (.inl ⟨a,a2,vs2,rfl,rfl,hl,hl2,k _ H F (Gr.refl dom) ⟨a2,vs2,rfl,hl2,hr2⟩⟩)
   | cons x0 xs =>
    obtain⟨h1,rfl⟩:=qAB hz
    obtain⟨a,vs,rfl,hl,hr⟩:=hx.tup
    obtain⟨a2,vs2,rfl,hl2,hr2⟩:=hy.tup
    have hv:vs≠[]:=λz=>by have:=RDs.length hr;rw [z] at this;cases this
    refine .inl (.inr (.inr ⟨a,a2,vs,vs2,rfl,rfl,hl,hl2,hv,by rw [RDs.length hr,RDs.length hr2];exact h1,λz=>?_,λ_ p hp=>?_⟩))
    ·subst z
     have e0:ys=[]:=by have:=RDs.length hr2;exact List.length_eq_zero_iff.mp this.symm
     subst e0
     rw [List.append_nil] at k
     exact k _ H F (Gr.refl dom) ⟨a,vs,rfl,hl,hr⟩
    ·obtain⟨g,rr⟩:=qCz dom hp (RDs.append hr hr2)
     exact k _ _ _ g rr
  | _=>cases xs<;>cases hz
 | _=>cases e<;>cases hz
theorem qNk {op:Operator}{o:BOp}(h:qOo op=some o):OpD X (binaryOp op) (qEM o):=by
 cases op<;>first|(cases h;first|exact qLl|exact qLe|exact qLi|exact qIX|exact qLj|exact qLh|exact qLg|exact qLf|exact qIZ|exact qLk|exact qIY)|cases h
theorem qJW (n:Bool) (hu:X.A.units+20<cLine):OpD X (compareOp (if n then .NotIn else .In)) (inD n):=by
 refine⟨_,qNq n hu,λH F d e x y z Q hz dom hx hy k=>?_⟩
 cases e with
 | tup ys =>
  obtain⟨a,vs,rfl,hl,hr⟩:=hy.tup
  obtain⟨h1,rfl⟩:=qAB (show (if (qCN 19 d&&(nob d&&qD7 ys))=true then some (false,D.bl (if n then !(qD3 ys d) else qD3 ys d)) else none)=some z by cases d<;>exact hz)
  simp only [Bool.and_eq_true] at h1
  exact⟨d,ys,F,a,vs,hx,rfl,.inr hl,hr,h1.1,h1.2.1,h1.2.2,k _ H F (Gr.refl dom) rfl⟩
 | lst ys =>
  obtain⟨a,vs,rfl,hl,hr⟩:=hy.lst
  obtain⟨h1,rfl⟩:=qAB (show (if (qCN 19 d&&(nob d&&qD7 ys))=true then some (false,D.bl (if n then !(qD3 ys d) else qD3 ys d)) else none)=some z by cases d<;>exact hz)
  simp only [Bool.and_eq_true] at h1
  exact⟨d,ys,F,a,vs,hx,rfl,.inl hl,hr,h1.1,h1.2.1,h1.2.2,k _ H F (Gr.refl dom) rfl⟩
 | _=>cases d<;>cases hz
theorem qNy {d e:D}{z:R}(h:qFd .ne d e=some z):∃c,z=(false,.bl c):=by
 rw [qFd] at h
 split at h
 ·cases h;exact⟨_,rfl⟩
 ·cases e1:qOG d e with
  | none=>rw [e1] at h;cases h
  | some c=>rw [e1] at h;cases h;exact⟨_,rfl⟩
theorem qFc {op:CmpOp}{o:COp}(hu:X.A.units+20<cLine) (h:qJp op=some o):OpD X (compareOp op) (qFd o):=by
 cases op with
 | Eq =>
  cases h
  refine⟨_,qNr hu,λH F d e x y z Q hz dom hx hy k=>?_⟩
  obtain⟨h1,rfl⟩:=qAB (show (if ((qCN 20 d||qCN 20 e)&&(nob d&&nob e))=true then some (false,D.bl (eqD d e)) else none)=some z from hz)
  simp only [Bool.and_eq_true] at h1
  exact⟨d,e,F,hx,hy,h1.1,h1.2.1,h1.2.2,k _ H F (Gr.refl dom) rfl⟩
 | NotEq =>
  cases h
  refine⟨_,qNo hu,λH F d e x y z Q hz dom hx hy k=>?_⟩
  obtain⟨c,rfl⟩:=qNy hz
  exact⟨d,e,F,c,hx,hy,hz,k _ H F (Gr.refl dom) rfl⟩
 | Lt=>cases h;exact qCy (kk:=λi j=>.bl (decide (i<j))) qPm (λd e z h=>by cases d<;>cases e<;>first|(cases h;exact⟨_,_,rfl,rfl,rfl⟩)|cases h) λ_ _ _ _=>rfl
 | LtE=>cases h;exact qCy (kk:=λi j=>.bl (decide (i<=j))) qPn (λd e z h=>by cases d<;>cases e<;>first|(cases h;exact⟨_,_,rfl,rfl,rfl⟩)|cases h) λ_ _ _ _=>rfl
 | Gt=>cases h;exact qCy (kk:=λi j=>.bl (decide (j<i))) qPo (λd e z h=>by cases d<;>cases e<;>first|(cases h;exact⟨_,_,rfl,rfl,rfl⟩)|cases h) λ_ _ _ _=>rfl
 | GtE=>cases h;exact qCy (kk:=λi j=>.bl (decide (j<=i))) qPp (λd e z h=>by cases d<;>cases e<;>first|(cases h;exact⟨_,_,rfl,rfl,rfl⟩)|cases h) λ_ _ _ _=>rfl
 | In=>cases h;exact qJW false hu
 | NotIn=>cases h;exact qJW true hu
 | _=>cases h
theorem qNW {n:Bool}{d e:D}{z:R}(h:inD n d e=some z):∃c,z=(false,.bl c):=by
 cases e with
 | tup ys=>exact⟨_,(qAB (show (if (qCN 19 d&&(nob d&&qD7 ys))=true then some (false,D.bl (if n then !(qD3 ys d) else qD3 ys d)) else none)=some z by cases d<;>exact h)).2.symm⟩
 | lst ys=>exact⟨_,(qAB (show (if (qCN 19 d&&(nob d&&qD7 ys))=true then some (false,D.bl (if n then !(qD3 ys d) else qD3 ys d)) else none)=some z by cases d<;>exact h)).2.symm⟩
 | _=>cases d<;>cases h
theorem qOa {o:COp}{d e:D}{z:R}(h:qFd o d e=some z):∃c,z=(false,.bl c):=by
 cases o with
 | eq=>obtain⟨_,rfl⟩:=qAB (show (if ((qCN 20 d||qCN 20 e)&&(nob d&&nob e))=true then some (false,D.bl (eqD d e)) else none)=some z from h);exact⟨_,rfl⟩
 | ne=>exact qNy h
 | isin=>exact qNW h
 | notin=>exact qNW h
 | _=>cases d<;>cases e<;>first|(cases h;exact⟨_,rfl⟩)|cases h
end
end Dw
namespace Dw
open PySem PySem.Spec PyProof.Rows L2
section
variable {call:Nat->List D->Option R}{G:Gx}{k:Nat}{X:Cx}{sc:Scope}{N:List Str}
theorem qNV (neg:Bool):OpD X (compareOp (if neg then .IsNot else .Is)) (isD neg):=by
 refine⟨_,qNp neg,λH F d e x y z Q hz dom hx hy k=>?_⟩
 obtain⟨b,rfl⟩:∃b,z=(false,.bl b):=by
  cases d<;>cases e<;>first|(cases hz;exact⟨_,rfl⟩)|cases hz
 exact⟨d,e,F,b,hx,hy,hz,k _ H F (Gr.refl dom) rfl⟩
theorem qPz {neg:Bool}{d e:D}{z:R}(h:isD neg d e=some z):∃c,z=(false,.bl c):=by
 cases d<;>cases e<;>first|(cases h;exact⟨_,rfl⟩)|cases h
theorem qJN {a:Expr}{ca:C}{op:CmpOp}(neg:Bool) {c:Const}{d:D}{j:Nat}{pos pos':Pos}(hop:op=if neg then .IsNot else .Is) (hc:kOf c=some d) (ha:qEH call X a ca) :
  SndE call X (.Compare a [op] [.Constant c j pos'] pos) (.isC neg ca d)/\qEG call X (.Compare a [op] [.Constant c j pos'] pos) (.isC neg ca d):=by
 subst hop
 obtain⟨r,hr,hq⟩:=qNV (X:=X) neg
 obtain⟨ta,pa,qa⟩:=ha
 obtain⟨tb,pb,qb⟩:=(qC2 (call:=call) (X:=X) (j:=j) (pos:=pos') hc).look (λi z=>nomatch z)
 have hm:behindInMarks (if neg then CmpOp.IsNot else CmpOp.Is) (.Constant c j pos')=false:=by cases neg<;>exact qNv _
 constructor
 ·refine⟨_,qEX hr pa pb hm,λGe H F σ τ z Q hz hs k=>?_⟩
  obtain⟨x,ex,ez⟩:=qAb (by simpa only [qE8] using hz)
  refine qGc (call:=call) (cb:=.k d) (a:=a) (b:=a) (y:=d) qa qb ex rfl hs λv w H2 F2 g rx ry=>?_
  exact hq H2 F2 x d v w z Q ez g.dom rx ry λu H' F' g' rr=>k u H' F' (g.trans g') (rr.back g.same)
 ·refine⟨_,qEV hr pa pb hm,λGe H F σ τ xx bb Q hz hs k=>?_⟩
  obtain⟨x,ex,ez⟩:=qAb (by simpa only [qE8] using hz)
  refine qGc (call:=call) (cb:=.k d) (a:=a) (b:=a) (y:=d) qa qb ex rfl hs λv w H2 F2 g rx ry=>?_
  obtain⟨c,ec⟩:=qPz ez
  cases ec
  exact hq H2 F2 x d v w _ _ ez g.dom rx ry λu H' F' g' rr=>⟨bb,rr,k H' F' (g.trans g')⟩
theorem qKP {a:Expr}{ca:C}{pos:Pos}(ha:qEH call X a ca):SndE call X (.UnaryOp .USub a pos) (.neg ca):=by
 obtain⟨ta,pa,qa⟩:=ha
 refine⟨_,qPd qMj pa,λGe H F σ τ z Q hz hs k=>?_⟩
 obtain⟨x,ex,ez⟩:=qAb (by simpa only [qHH] using hz)
 refine qa Ge H F σ τ x _ ex hs λv H1 F1 g rx=>?_
 cases x with
 | int i=>cases ez;exact⟨i,rx.int,k _ H1 F1 g rfl⟩
 | _=>cases ez
theorem SndE.test {e:Expr}{c:C}(h:SndE call X e c) (he:∀whole,isTrue e X.env whole=(do let v <-whole;standAt e.pos;holding [v] (truthy v))):qEG call X e c:=by
 obtain⟨t,p,q⟩:=h
 refine⟨_,qMY p he,λGe H F σ τ x b Q hz hs k=>?_⟩
 refine q Ge H F σ τ (x,.bl b) _ hz hs λv H' F' g rr=>?_
 cases x with
 | false=>exact⟨b,rr,k H' F' g⟩
 | true=>obtain⟨_,_,_,e,_⟩:=rr;cases e
theorem qKN {a:Expr}{ca:C}{pos:Pos}(ha:SndE call X a ca) (ht:qEG call X a ca):SndE call X (.UnaryOp .Not a pos) (.not ca)/\qEG call X (.UnaryOp .Not a pos) (.not ca):=by
 have inv:∀{σ:En} {z:R},evE call σ (.not ca)=some z->∃x b,evE call σ ca=some (x,.bl b)/\z=(false,.bl (!b)):=λ{σ z} hz=>by
  obtain⟨⟨x,d⟩,e1,e2⟩:=qAb (by simpa only [qHG] using hz)
  cases d with
  | bl b=>cases e2;exact⟨x,b,e1,rfl⟩
  | _=>cases e2
 constructor
 ·obtain⟨t,p,q⟩:=ha
  refine⟨_,qNc p,λGe H F σ τ z Q hz hs k=>?_⟩
  obtain⟨x,b,e1,rfl⟩:=inv hz
  refine q Ge H F σ τ _ _ e1 hs λv H' F' g rr=>?_
  cases x with
  | false=>exact⟨b,rr,k _ H' F' g rfl⟩
  | true=>obtain⟨_,_,_,e,_⟩:=rr;cases e
 ·obtain⟨t,p,q⟩:=ht
  refine⟨_,qMZ p,λGe H F σ τ x b Q hz hs k=>?_⟩
  obtain⟨x',b',e1,e2⟩:=inv hz
  cases e2
  exact q Ge H F σ τ x' b' _ e1 hs λH' F' g=>k H' F' g
variable (call X) in
noncomputable def SndW (op:BoolOp) (es:List Expr) (c:C):Prop:=∀pos:Pos,SndE call X (.BoolOp op es pos) c/\∃t:TT,PW X (.BoolOp op es pos) t /\
 ∀(Ge:Gp) (H:Hp) (F:Fz) (σ:En) (τ:L2.St) (x b:Bool) (Q:Bool->Hp->Prop),evE call σ c=some (x,.bl b)->SR X.K Ge H F σ τ->(∀H' F',Gr H F H' F'->Q b H')->t τ H Q
theorem SndW.test {op:BoolOp}{es:List Expr}{c:C}{pos:Pos}(h:SndW call X op es c):qEG call X (.BoolOp op es pos) c:=by
 obtain⟨_,t,p,q⟩:=h pos
 exact⟨t,p.pt,q⟩
theorem qGQ {op:BoolOp}{a:Expr}{ca:C}(ha:SndE call X a ca) (ht:qEG call X a ca):SndW call X op [a] ca:=λpos=>by
 obtain⟨t,p,q⟩:=ha
 obtain⟨t',p',q'⟩:=ht
 refine⟨⟨t,qNb p,q⟩,?_⟩
 cases op with
 | And=>exact⟨t',qK3 p',q'⟩
 | Or=>exact⟨t',qMW p',q'⟩
theorem qOp {K:PySem.W.Frag}{H H':Hp}{F':Fz}{x b:Bool}{v:V}(h:RR K H H' F' (x,.bl b) v):v=.bl b:=by
 cases x with
 | false=>exact h
 | true=>obtain⟨_,_,_,e,_⟩:=h;cases e
theorem qKX {a b:Expr}{qAZ:List Expr}{ca cb:C}(ha:SndE call X a ca) (hta:qEG call X a ca) (hb:SndW call X .And (b::qAZ) cb):SndW call X .And (a::b::qAZ) (.and ca cb):=λpos=>by
 obtain⟨hb1,tb',pb',qb'⟩:=hb pos
 have inv:∀{σ:En} {z:R},evE call σ (.and ca cb)=some z->∃x c,evE call σ ca=some (x,.bl c)/\(if c=true then evE call σ cb=some z else z=(false,.bl false)):=λ{σ z} hz=>by
  obtain⟨⟨x,d⟩,e1,e2⟩:=qAb (by simpa only [qHM] using hz)
  cases d with
  | bl c=>cases c with
   | true=>exact⟨x,true,e1,e2⟩
   | false=>cases e2;exact⟨x,false,e1,rfl⟩
  | _=>cases e2
 constructor
 ·obtain⟨ta,pa,qa⟩:=ha
  obtain⟨tb,pb,qb⟩:=hb1
  refine⟨_,qNj pa pb,λGe H F σ τ z Q hz hs k=>?_⟩
  obtain⟨x,c,e1,e2⟩:=inv hz
  refine qa Ge H F σ τ _ _ e1 hs λv H' F' g rr=>⟨c,qOp rr,?_⟩
  cases c with
  | true=>exact qb Ge H' F' σ τ z Q e2 (hs.grow g) λu H2 F2 g2 r2=>k u H2 F2 (g.trans g2) (r2.back g.same)
  | false=>have e2':z=(false,.bl false):=e2;subst e2';exact k _ H' F' g rfl
 ·obtain⟨ta,pa,qa⟩:=hta
  refine⟨_,qMX pa pb',λGe H F σ τ x b Q hz hs k=>?_⟩
  obtain⟨x',c,e1,e2⟩:=inv hz
  refine qa Ge H F σ τ x' c _ e1 hs λH' F' g=>?_
  cases c with
  | true=>exact qb' Ge H' F' σ τ x b Q e2 (hs.grow g) λH2 F2 g2=>k H2 F2 (g.trans g2)
  | false=>have e2':(x,D.bl b)=(false,.bl false):=e2;cases e2';exact k H' F' g
theorem qMF {a b:Expr}{qAZ:List Expr}{ca cb:C}(ha:SndE call X a ca) (hta:qEG call X a ca) (hb:SndW call X .Or (b::qAZ) cb):SndW call X .Or (a::b::qAZ) (.or ca cb):=λpos=>by
 obtain⟨hb1,tb',pb',qb'⟩:=hb pos
 have inv:∀{σ:En} {z:R},evE call σ (.or ca cb)=some z->∃x c,evE call σ ca=some (x,.bl c)/\(if c=true then z=(false,.bl true) else evE call σ cb=some z):=λ{σ z} hz=>by
  obtain⟨⟨x,d⟩,e1,e2⟩:=qAb (by simpa only [qJ4] using hz)
  cases d with
  | bl c=>cases c with
   | false=>exact⟨x,false,e1,e2⟩
   | true=>cases e2;exact⟨x,true,e1,rfl⟩
  | _=>cases e2
 constructor
 ·obtain⟨ta,pa,qa⟩:=ha
  obtain⟨tb,pb,qb⟩:=hb1
  refine⟨_,qPe pa pb,λGe H F σ τ z Q hz hs k=>?_⟩
  obtain⟨x,c,e1,e2⟩:=inv hz
  refine qa Ge H F σ τ _ _ e1 hs λv H' F' g rr=>⟨c,qOp rr,?_⟩
  cases c with
  | false=>exact qb Ge H' F' σ τ z Q e2 (hs.grow g) λu H2 F2 g2 r2=>k u H2 F2 (g.trans g2) (r2.back g.same)
  | true=>have e2':z=(false,.bl true):=e2;subst e2';exact k _ H' F' g rfl
 ·obtain⟨ta,pa,qa⟩:=hta
  refine⟨_,qPa pa pb',λGe H F σ τ x b Q hz hs k=>?_⟩
  obtain⟨x',c,e1,e2⟩:=inv hz
  refine qa Ge H F σ τ x' c _ e1 hs λH' F' g=>?_
  cases c with
  | false=>exact qb' Ge H' F' σ τ x b Q e2 (hs.grow g) λH2 F2 g2=>k H2 F2 (g.trans g2)
  | true=>have e2':(x,D.bl b)=(false,.bl true):=e2;cases e2';exact k H' F' g
theorem qNS (n:Nat) (i:Int):Dw.ixN n i=L2.ixN n i:=rfl
theorem qHp {K:PySem.W.Frag}{H:Hp}{F:Fz}{ds:List D}{vs:List V}{i:Int}{d:D}(h:RDs K H F ds vs) (e:ixD ds i=some d):∃v,atI vs i=some v/\RD K H F d v:=by
 obtain⟨j,e1,e2⟩:=qAb e
 obtain⟨v,e3,e4⟩:=RDs.get h e2
 refine⟨v,?_,e4⟩
 unfold atI
 rw [RDs.length h,<-qNS,e1]
 exact e3
theorem qMI {a b:Expr}{ca cb:C}{pos:Pos}(hp:qFj b) (ha:qEH call X a ca) (hb:qEH call X b cb):SndE call X (.Subscript a b pos) (.ix ca cb):=by
 obtain⟨ta,pa,qa⟩:=ha
 obtain⟨tb,pb,qb⟩:=hb
 refine⟨_,qPg (ix_list.or qNR) pa pb hp,λGe H F σ τ z Q hz hs k=>?_⟩
 obtain⟨x,y,ex,ey,ez⟩:=qJs (by simpa only [qJ7] using hz)
 refine qGc (a:=a) (b:=b) qa qb ex ey hs λv w H2 F2 g rx ry=>?_
 cases x with
 | lst xs =>
  cases y with
  | int i =>
   obtain⟨d,e1,e2⟩:=Option.map_eq_some_iff.mp ez
   subst e2
   obtain⟨p,vs,rfl,hl,hr⟩:=rx.lst
   obtain⟨u,e3,e4⟩:=qHp hr e1
   exact .inl ⟨p,vs,i,u,rfl,ry.int,hl,e3,k u H2 F2 g e4⟩
  | _=>cases ez
 | tup xs =>
  cases y with
  | int i =>
   obtain⟨d,e1,e2⟩:=Option.map_eq_some_iff.mp ez
   subst e2
   obtain⟨p,vs,rfl,hl,hr⟩:=rx.tup
   obtain⟨u,e3,e4⟩:=qHp hr e1
   exact .inr ⟨p,vs,i,u,rfl,ry.int,hl,e3,k u H2 F2 g e4⟩
  | _=>cases ez
 | _=>cases y<;>cases ez
theorem qCd (n d:Nat) (o:Option Int):Dw.cutAt n d o=HT.sIx n d o:=by
 cases o with
 | none=>rfl
 | some v =>
  have h:=HT.clip_eq v n d
  unfold Dw.cutAt
  by_cases hv:v<0
  ·simp only [hv,if_true] at h ⊢;omega
  ·simp only [hv,if_false] at h ⊢;omega
theorem qHP {K:PySem.W.Frag}{H:Hp}{F:Fz}{ds:List D}{vs:List V}(h:RDs K H F ds vs) (l u:Option Int):RDs K H F (qJo ds l u) (qKb vs l u):=by
 unfold qJo qKb
 rw [RDs.length h,qCd,qCd]
 exact RDs.take _ (RDs.drop _ h)
theorem qME {a:Expr}{lo hi:Option Expr}{ca:C}{cl ch:Option C}{p2 pos:Pos}(ha:qEH call X a ca) (hl:qOA call X lo cl) (hh:qOA call X hi ch):SndE call X (.Subscript a (.Slice lo hi none p2) pos) (.sl ca cl ch):=by
 obtain⟨ta,pa,qa⟩:=ha
 obtain⟨tl,pl,ql⟩:=hl
 obtain⟨th,ph,qh⟩:=hh
 refine⟨_,qIU ((sl_list.or qMM).or qMN) pa pl ph,λGe H F σ τ z Q hz hs k=>?_⟩
 obtain⟨x,ex,hz⟩:=qAb (by simpa only [qJ3] using hz)
 obtain⟨l,el,hz⟩:=qAb hz
 obtain⟨u,eu,hz⟩:=qAb hz
 refine qa Ge H F σ τ x _ ex hs λv H1 F1 g1 rx=>?_
 refine ql Ge H1 F1 σ τ l _ el (hs.grow g1) λH2 F2 g2=>?_
 refine qh Ge H2 F2 σ τ u _ eu ((hs.grow g1).grow g2) λH3 F3 g3=>?_
 have g:=(g1.trans g2).trans g3
 have rx3:=(rx.grow g2).grow g3
 cases x with
 | lst xs =>
  cases hz
  obtain⟨p,vs,rfl,hl',hr⟩:=rx3.lst
  refine .inl (.inl ⟨p,vs,rfl,hl',λq hq=>?_⟩)
  obtain⟨g4,rr⟩:=qCb g.dom hq (qHP hr l u)
  exact k _ _ _ (g.trans g4) (rr.back g.same)
 | tup xs =>
  cases hz
  obtain⟨p,vs,rfl,hl',hr⟩:=rx3.tup
  by_cases hw:Dw.cutAt xs.length 0 l=0/\Dw.cutAt xs.length xs.length u=xs.length
  ·refine .inr ⟨p,vs,rfl,hl',?_,?_⟩
   ·rw [RDs.length hr,<-qCd,<-qCd];exact hw
   ·have e:qJo xs l u=xs:=by
     unfold qJo
     rw [hw.1,hw.2]
     simp
    have e':(false,D.tup (qJo xs l u))=(false,D.tup xs):=by rw [e]
    refine k _ H3 F3 g ?_
    rw [e]
    exact⟨p,vs,rfl,hl',hr⟩
  ·refine .inl (.inr ⟨p,vs,rfl,hl',?_,λq hq=>?_⟩)
   ·rw [RDs.length hr,<-qCd,<-qCd];exact hw
   ·obtain⟨g4,rr⟩:=qCz g.dom hq (qHP hr l u)
    exact k _ _ _ (g.trans g4) (rr.back g.same)
 | _=>cases hz
noncomputable def qOK (call:Nat->List D->Option R) (X:Cx) (es:List Expr) (cs:List C):Prop:=∃t:TJ,PJ X es t/\∀(Ge:Gp) (H:Hp) (F:Fz) (σ:En) (τ:L2.St) (acc out:Str) (ds:List D) (ts:List Str) (Q:Str->Hp->Prop),evA call σ cs=some ds->qFt ds=some ts->qOI acc ts=some out->SR X.K Ge H F σ τ->(∀H' F',Gr H F H' F'->Q out H')->t acc τ H Q
theorem qIJ:qOK call X [] []:=⟨_,qM6,λGe H F σ τ acc out ds ts Q h1 h2 h3 hs k=>by
 cases h1
 cases h2
 cases h3
 exact k H F (Gr.refl hs.dom)⟩
theorem qEe {e:Expr}{es:List Expr}{c:C}{cs:List C}(h:SndE call X e c) (hr:qOK call X es cs):qOK call X (e::es) (c::cs):=by
 obtain⟨t,p,q⟩:=h
 obtain⟨t',p',q'⟩:=hr
 refine⟨_,qK8 p p',λGe H F σ τ acc out ds ts Q h1 h2 h3 hs k=>?_⟩
 obtain⟨r,er,h1⟩:=qAb (by simpa only [qCA] using h1)
 obtain⟨ds',ed,h1⟩:=qAb h1
 cases h1
 obtain⟨b,d⟩:=r
 cases d with
 | str x =>
  obtain⟨ts',e1,e2⟩:=Option.map_eq_some_iff.mp h2
  subst e2
  obtain⟨h4,h5⟩:=ite_some' (show (if (acc++x).length<=lim then qOI (acc++x) ts' else none)=some out from h3)
  refine q Ge H F σ τ _ _ er hs λv H1 F1 g rr=>?_
  have hv:v=.str x:=by
   cases b with
   | false=>exact rr
   | true=>obtain⟨_,_,_,e,_⟩:=rr;cases e
  exact⟨x,hv,h4,q' Ge H1 F1 σ τ _ out ds' ts' _ ed e1 h5 (hs.grow g) λH' F' g2=>k H' F' (g.trans g2)⟩
 | _=>cases h2
where
 ite_some' {α:Type} {p:Prop} [Decidable p] {a:Option α} {z:α} (h:(if p then a else none)=some z):p/\a=some z:=by
  by_cases hp:p
  ·rw [if_pos hp] at h;exact⟨hp,h⟩
  ·rw [if_neg hp] at h;cases h
theorem qML {e:Expr}{c:C}{pos:Pos}(h:qEH call X e c):SndE call X (.FormattedValue e (-1) none pos) (.bi .str [c]):=by
 obtain⟨t,p,q⟩:=h
 refine⟨_,qPh p,λGe H F σ τ z Q hz hs k=>?_⟩
 obtain⟨ds,e1,hz⟩:=qAb (by simpa only [qFT] using hz)
 obtain⟨d,e2,e3⟩:=qAb (by simpa only [qCB] using e1)
 obtain⟨r,e4,e5⟩:=qAb e3
 cases e4
 cases e5
 refine q Ge H F σ τ d _ e2 hs λv H1 F1 g rx=>?_
 cases d with
 | int i =>
  obtain⟨h1,rfl⟩:=qAB (show (if i.natAbs<2^240 then some (false,D.str (qQf i)) else none)=some z from hz)
  exact⟨i,rx.int,small_log h1,k _ H1 F1 g rfl⟩
 | _=>cases hz
where
 small_log {n:Nat} (h:n<2^240):n.log2<1920:=by
  by_cases h0:n=0
  ·subst h0;decide
  ·have:=(Nat.log2_lt h0).mpr h;omega
theorem qGP:qOA call X none none:=⟨_,qK5,λGe H F σ τ o Q ho hs k=>by cases ho;exact k H F (Gr.refl hs.dom)⟩
theorem qGO {e:Expr}{c:C}(h:qEH call X e c):qOA call X (some e) (some c):=by
 obtain⟨t,p,q⟩:=h
 refine⟨_,qK4 p,λGe H F σ τ o Q ho hs k=>?_⟩
 obtain⟨x,ex,ez⟩:=qAb (by simpa only [qFQ] using ho)
 refine q Ge H F σ τ x _ ex hs λv H1 F1 g rx=>?_
 cases x with
 | int i=>cases ez;exact⟨i,rx.int,k H1 F1 g⟩
 | _=>cases ez
theorem qIM:qJD call X [] []:=⟨_,qDC,λGe H F σ τ ds Q h hs k=>by cases h;exact k [] H F (Gr.refl hs.dom) rfl⟩
theorem qGW {e:Expr}{es:List Expr}{c:C}{cs:List C}(hst:starEach (e::es) X.env=(false,eval e X.env)::starEach es X.env) (h:SndE call X e c) (hr:qJD call X es cs):qJD call X (e::es) (c::cs):=by
 obtain⟨t,p,q⟩:=h
 obtain⟨t',p',q'⟩:=hr
 refine⟨_,qBG p p' hst,λGe H F σ τ ds Q hd hs k=>?_⟩
 obtain⟨r,er,hd⟩:=qAb (by simpa only [qCA] using hd)
 obtain⟨ds',ed,hd⟩:=qAb hd
 cases hd
 refine q Ge H F σ τ r _ er hs λv H1 F1 g rr=>?_
 obtain⟨F2,g2,rd⟩:=rr.fz g
 refine q' Ge H1 F2 σ τ ds' _ ed (hs.grow g2) λvs H3 F3 g3 rs=>?_
 exact k (v::vs) H3 F3 (g2.trans g3) ⟨v,vs,rfl,RD.mono g3.keep rd,rs⟩
theorem qGT:qIm call X [] []:=⟨_,qDC,λGe H F σ τ ds Q h hs k=>by cases h;exact k [] H F (Gr.refl hs.dom) rfl⟩
theorem qF9 {e:Expr}{es:List Expr}{c:C}{cs:List C}(hst:starEach (e::es) X.env=(false,eval e X.env)::starEach es X.env) (h:qJC call X e c) (hr:qIm call X es cs):qIm call X (e::es) (c::cs):=by
 obtain⟨t,p,q⟩:=h
 obtain⟨t',p',q'⟩:=hr
 refine⟨_,qBG p p' hst,λGe H F σ τ ds Q hd hs k=>?_⟩
 obtain⟨r,er,hd⟩:=qAb (by simpa only [qFR] using hd)
 obtain⟨ds',ed,hd⟩:=qAb hd
 cases hd
 refine q Ge H F σ τ r _ er hs λv H1 F1 g rr=>?_
 refine q' Ge H1 F1 σ τ ds' _ ed (hs.grow g) λvs H3 F3 g3 rs=>?_
 exact k (v::vs) H3 F3 (g.trans g3) ⟨v,vs,rfl,rr.grow g3,rs⟩
theorem qGV:qEI call X [] []:=⟨_,qDC,λGe H F σ τ ds Q h hs k=>by cases h;exact k [] H F (Gr.refl hs.dom) rfl⟩
theorem qGa {e:Expr}{es:List Expr}{c:C}{cs:List C}(hst:starEach (e::es) X.env=(false,eval e X.env)::starEach es X.env) (h:qEH call X e c) (hr:qEI call X es cs):qEI call X (e::es) (c::cs):=by
 obtain⟨t,p,q⟩:=h
 obtain⟨t',p',q'⟩:=hr
 refine⟨_,qBG p p' hst,λGe H F σ τ ds Q hd hs k=>?_⟩
 obtain⟨r,er,hd⟩:=qAb (by simpa only [qCB] using hd)
 obtain⟨ds',ed,hd⟩:=qAb hd
 cases hd
 refine q Ge H F σ τ r _ er hs λv H1 F1 g rr=>?_
 refine q' Ge H1 F1 σ τ ds' _ ed (hs.grow g) λvs H3 F3 g3 rs=>?_
 exact k (v::vs) H3 F3 (g.trans g3) ⟨v,vs,rfl,rr.grow g3,rs⟩
theorem qKI {es:List Expr}{cs:List C}{x1:Nat}{pos:Pos}(h:qJD call X es cs):SndE call X (.Tuple es x1 pos) (.tup cs):=by
 obtain⟨t,p,q⟩:=h
 refine⟨_,qM9 p,λGe H F σ τ z Q hz hs k=>?_⟩
 obtain⟨ds,ed,hz⟩:=qAb (by simpa only [qHF] using hz)
 obtain⟨h1,rfl⟩:=qAB hz
 refine q Ge H F σ τ ds _ ed hs λvs H1 F1 g rs=>⟨by rw [RDs.length rs];exact h1,λp hp=>?_⟩
 obtain⟨g4,rr⟩:=qCz g.dom hp rs
 exact k _ _ _ (g.trans g4) (rr.back g.same)
theorem qKQ {es:List Expr}{cs:List C}{pos:Pos}(h:qJD call X es cs):SndE call X (.List es pos) (.lst cs):=by
 obtain⟨t,p,q⟩:=h
 refine⟨_,qNe p,λGe H F σ τ z Q hz hs k=>?_⟩
 obtain⟨ds,ed,hz⟩:=qAb (by simpa only [qHI] using hz)
 obtain⟨h1,rfl⟩:=qAB hz
 refine q Ge H F σ τ ds _ ed hs λvs H1 F1 g rs=>⟨by rw [RDs.length rs];exact h1,λp hp=>?_⟩
 obtain⟨g4,rr⟩:=qCb g.dom hp rs
 exact k _ _ _ (g.trans g4) (rr.back g.same)
noncomputable def qBj:Expr->Bool
 | .Starred _ _=>false
 | _=>true
theorem qAy {e:Expr}{es:List Expr}{env:Env}(h:qBj e=true):starEach (e::es) env=(false,eval e env)::starEach es env:=by
 cases e<;>first|rfl|cases h
theorem qBs:∀{es:List Expr}{env:Env}{pos:Pos},es.all qBj=true->(backTo pos (starEach es env)).any (·.1)=false
 | [],env,pos,_=>rfl
 | e::es,env,pos,h=>by
  rw [List.all_cons,Bool.and_eq_true] at h
  rw [qAy h.1]
  have:=qBs (env:=env) (pos:=pos) h.2
  simpa [backTo] using this
theorem qIL (g:XG call G k X sc N) {f:Str}{i:Nat}{es:List Expr}{cs:List C}{p pos:Pos}(hf:G.defs.lookup f=some i) (hg:glB sc f=true) (hd:(f == ("__debug__":Str))=false) (hn:es.all qBj=true) (hne:es≠[]) (h:qIm call X es cs) :
  SndE call X (.Call (.Name f p) es [] pos) (.call i cs):=by
 obtain⟨a,fd,ps,hm,hk,hb,hF,hl⟩:=(g.defs f i hf).ex
 obtain⟨t,pt,q⟩:=h
 cases es with
 | nil=>exact absurd rfl hne
 | cons e es =>
  rw [List.all_cons,Bool.and_eq_true] at hn
  refine⟨_,qG8 hF g.room (g.gl f hg) hm hk hb .nil qG9 pt hd (qAy hn.1) (qBs hn.2),λGe H F σ τ z Q hz hs k=>?_⟩
  obtain⟨ds,ed,hz⟩:=qAb (by simpa only [qFS] using hz)
  refine q Ge H F σ τ ds _ ed hs λvs H1 F1 g1 rs=>?_
  rw [List.append_nil]
  exact⟨by rw [RGs.length rs];exact hl ds z hz,F1,ds,z,g1.dom,rs,hz,λv H' F' g2 rr=>k v H' F' (g1.trans g2) (rr.back g1.same)⟩
variable (call X) in
noncomputable def qOJ (kws:List Keyword) (cs:List C):Prop:=∃t:TA,PK X kws t/\∀(Ge:Gp) (H:Hp) (F:Fz) (σ:En) (τ:L2.St) (ds:List D) (Q:List V->Hp->Prop),evA call σ cs=some ds->SR X.K Ge H F σ τ->(∀vs H' F',Gr H F H' F'->RDs X.K H' F' ds vs->Q vs H')->t τ H Q
theorem qII:qOJ call X [] []:=⟨_,qM4,λGe H F σ τ ds Q h hs k=>by cases h;exact k [] H F (Gr.refl hs.dom) rfl⟩
theorem qGR {kw:Keyword}{kws:List Keyword}{c:C}{cs:List C}(h:SndE call X kw.value c) (hr:qOJ call X kws cs):qOJ call X (kw::kws) (c::cs):=by
 obtain⟨nm,e,kp⟩:=kw
 obtain⟨t,p,q⟩:=h
 obtain⟨t',p',q'⟩:=hr
 refine⟨_,qK7 p p',λGe H F σ τ ds Q hd hs k=>?_⟩
 obtain⟨r,er,hd⟩:=qAb (by simpa only [qCA] using hd)
 obtain⟨ds',ed,hd⟩:=qAb hd
 cases hd
 refine q Ge H F σ τ r _ er hs λv H1 F1 g rr=>?_
 obtain⟨F2,g2,rd⟩:=rr.fz g
 refine q' Ge H1 F2 σ τ ds' _ ed (hs.grow g2) λvs H3 F3 g3 rs=>?_
 exact k (v::vs) H3 F3 (g2.trans g3) ⟨v,vs,rfl,RD.mono g3.keep rd,rs⟩
theorem qHN {σ:En}:∀{cs:List C}{ds:List D},evA call σ cs=some ds->ds.length=cs.length
 | [],ds,h=>by cases h;rfl
 | c::cs,ds,h=>by
  obtain⟨r,er,h⟩:=qAb (by simpa only [qCA] using h)
  obtain⟨ds',ed,h⟩:=qAb h
  cases h
  simp [qHN ed]
theorem qEg {x:Str}{id:String}{b:BI}{es:List Expr}{cs:List C}{p pos:Pos}{r:List V->Hp->VK->Prop}(hc:CallR X (.builtin id) r) (hg:Gl X x) (hm:X.mg x=none) (hv:bootBuiltins x=some (.builtin id)) (hnm:x≠"__name__") (hdb:(x == ("__debug__":Str))=false)
  (hn:es.all qBj=true) (hne:es≠[]) (h:qEI call X es cs)
  (hr:∀(H:Hp) (F:Fz) (ds:List D) (vs:List V) (z:R) (Q:VK),biD b ds=some z->(∀a,H a=none->¬F a)->RPs X.K H F ds vs->(∀v H' F',Gr H F H' F'->RR X.K H H' F' z v->Q v H')->r vs H Q) :
  SndE call X (.Call (.Name x p) es [] pos) (.bi b cs):=by
 obtain⟨t,pt,q⟩:=h
 cases es with
 | nil=>exact absurd rfl hne
 | cons e es =>
  rw [List.all_cons,Bool.and_eq_true] at hn
  refine⟨_,qFB hc hg hm hv pt hnm hdb (qAy hn.1) (qBs hn.2),λGe H F σ τ z Q hz hs k=>?_⟩
  obtain⟨ds,ed,hz⟩:=qAb (by simpa only [qFT] using hz)
  refine q Ge H F σ τ ds _ ed hs λvs H1 F1 g1 rs=>?_
  exact hr H1 F1 ds vs z Q hz g1.dom rs λv H' F' g2 rr=>k v H' F' (g1.trans g2) (rr.back g1.same)
theorem qDL {x:Str}{id:String}{b:BI}{es:List Expr}{cs:List C}{p pos:Pos}{r:List V->Hp->VK->Prop}(hc:CallR X (.type id) r) (hg:Gl X x) (hm:X.mg x=none) (hv:bootBuiltins x=some (.type id)) (hnm:x≠"__name__") (hdb:(x == ("__debug__":Str))=false)
  (hn:es.all qBj=true) (hne:es≠[]) (h:qEI call X es cs)
  (hr:∀(H:Hp) (F:Fz) (ds:List D) (vs:List V) (z:R) (Q:VK),biD b ds=some z->(∀a,H a=none->¬F a)->RPs X.K H F ds vs->(∀v H' F',Gr H F H' F'->RR X.K H H' F' z v->Q v H')->r vs H Q) :
  SndE call X (.Call (.Name x p) es [] pos) (.bi b cs):=by
 obtain⟨t,pt,q⟩:=h
 cases es with
 | nil=>exact absurd rfl hne
 | cons e es =>
  rw [List.all_cons,Bool.and_eq_true] at hn
  refine⟨_,qG7 hc hg hm hv pt hnm hdb (qAy hn.1) (qBs hn.2),λGe H F σ τ z Q hz hs k=>?_⟩
  obtain⟨ds,ed,hz⟩:=qAb (by simpa only [qFT] using hz)
  refine q Ge H F σ τ ds _ ed hs λvs H1 F1 g1 rs=>?_
  exact hr H1 F1 ds vs z Q hz g1.dom rs λv H' F' g2 rr=>k v H' F' (g1.trans g2) (rr.back g1.same)
end
end Dw
namespace Dw
open PySem PySem.Spec PyProof.Rows L2
section
variable {call:Nat->List D->Option R}{G:Gx}{k:Nat}{X:Cx}{sc:Scope}{N:List Str}
theorem RPs.one {K:PySem.W.Frag}{H:Hp}{F:Fz}{d:D}{vs:List V}(h:RPs K H F [d] vs):∃v,vs=[v]/\RP K H F d v:=by
 obtain⟨v,r,e,h1,h2⟩:=h
 cases h2
 exact⟨v,e,h1⟩
theorem RPs.two {K:PySem.W.Frag}{H:Hp}{F:Fz}{d e:D}{vs:List V}(h:RPs K H F [d,e] vs):∃v w,vs=[v,w]/\RP K H F d v/\RP K H F e w:=by
 obtain⟨v,r,e1,h1,h2⟩:=h
 obtain⟨w,e2,h3⟩:=RPs.one h2
 exact⟨v,w,by rw [e1,e2],h1,h3⟩
theorem RPs.three {K:PySem.W.Frag}{H:Hp}{F:Fz}{d e f:D}{vs:List V}(h:RPs K H F [d,e,f] vs):∃v w u,vs=[v,w,u]/\RP K H F d v/\RP K H F e w/\RP K H F f u:=by
 obtain⟨v,r,e1,h1,h2⟩:=h
 obtain⟨w,u,e2,h3,h4⟩:=RPs.two h2
 exact⟨v,w,u,by rw [e1,e2],h1,h3,h4⟩
variable (X) in
noncomputable def BiR (b:BI) (r:List V->Hp->VK->Prop):Prop:=∀(H:Hp) (F:Fz) (ds:List D) (vs:List V) (z:R) (Q:VK),biD b ds=some z->(∀a,H a=none->¬F a)->RPs X.K H F ds vs->(∀v H' F',Gr H F H' F'->RR X.K H H' F' z v->Q v H')->r vs H Q
theorem qOu:BiR X .len (λxs H Q=>∃p ys,xs=[.ref p]/\(SqL X.K H p ys∨SqT X.K H p ys)/\Q (.int ys.length) H):=by
 intro H F ds vs z Q hz dom hs kk
 match ds,hz,hs with
 | [.tup xs],hz,hs =>
  cases hz
  obtain⟨v,rfl,hv⟩:=RPs.one hs
  obtain⟨p,ws,rfl,h1,h2⟩:=hv.tup
  exact⟨p,ws,rfl,.inr h1,by rw [RDs.length h2];exact kk _ H F (Gr.refl dom) rfl⟩
 | [.lst xs],hz,hs =>
  cases hz
  obtain⟨v,rfl,hv⟩:=RPs.one hs
  obtain⟨p,ws,rfl,h1,h2⟩:=hv.lst
  exact⟨p,ws,rfl,.inl h1,by rw [RDs.length h2];exact kk _ H F (Gr.refl dom) rfl⟩
theorem qOs:BiR X .min (λxs H Q=>(∃i j,xs=[.int i,.int j]/\Q (.int (if j<i then j else i)) H)∨∃(p:Addr) (is:List Int) (m:Int),xs=[.ref p]/\SqL X.K H p (is.map V.int)/\mnL is=some m/\Q (.int m) H):=by
 intro H F ds vs z Q hz dom hs kk
 match ds,hz,hs with
 | [.int i,.int j],hz,hs =>
  cases hz
  obtain⟨v,w,rfl,hv,hw⟩:=RPs.two hs
  exact .inl ⟨i,j,by rw [hv.int,hw.int],kk _ H F (Gr.refl dom) rfl⟩
 | [.lst xs],hz,hs =>
  have hz:qNF xs=some z:=hz
  unfold qNF at hz
  split at hz
  ·rename_i is e1
   obtain⟨m,e3,e4⟩:=Option.map_eq_some_iff.mp hz
   subst e4
   obtain⟨v,rfl,hv⟩:=RPs.one hs
   obtain⟨p,ws,rfl,h1,h2⟩:=hv.lst
   rw [RDs.ints h2 e1] at h1
   exact .inr ⟨p,is,m,rfl,h1,e3,kk _ H F (Gr.refl dom) rfl⟩
  ·cases hz
theorem qOt:BiR X .max (λxs H Q=>((∃i j,xs=[.int i,.int j]/\Q (.int (if j > i then j else i)) H)∨∃i j k,xs=[.int i,.int j,.int k]/\Q (.int (if k > (if j > i then j else i) then k else (if j > i then j else i))) H)∨∃(p:Addr) (is:List Int) (m:Int),xs=[.ref p]/\SqL X.K H p (is.map V.int)/\mxL is=some m/\Q (.int m) H):=by
 intro H F ds vs z Q hz dom hs kk
 match ds,hz,hs with
 | [.int i,.int j],hz,hs =>
  cases hz
  obtain⟨v,w,rfl,hv,hw⟩:=RPs.two hs
  exact .inl (.inl ⟨i,j,by rw [hv.int,hw.int],kk _ H F (Gr.refl dom) rfl⟩)
 | [.int i,.int j,.int l],hz,hs =>
  cases hz
  obtain⟨v,w,u,rfl,hv,hw,hu⟩:=RPs.three hs
  exact .inl (.inr ⟨i,j,l,by rw [hv.int,hw.int,hu.int],kk _ H F (Gr.refl dom) rfl⟩)
 | [.lst xs],hz,hs =>
  obtain⟨is,e1,e2⟩:=qAb hz
  obtain⟨m,e3,e4⟩:=Option.map_eq_some_iff.mp e2
  subst e4
  obtain⟨v,rfl,hv⟩:=RPs.one hs
  obtain⟨p,ws,rfl,h1,h2⟩:=hv.lst
  rw [RDs.ints h2 e1] at h1
  exact .inr ⟨p,is,m,rfl,h1,e3,kk _ H F (Gr.refl dom) rfl⟩
theorem qOr:BiR X .sum (λxs H Q=>∃(p:Addr) (is:List Int),xs=[.ref p]/\SqL X.K H p (is.map V.int)/\Q (.int is.sum) H):=by
 intro H F ds vs z Q hz dom hs kk
 match ds,hz,hs with
 | [.lst xs],hz,hs =>
  obtain⟨is,e1,e2⟩:=Option.map_eq_some_iff.mp hz
  subst e2
  obtain⟨v,rfl,hv⟩:=RPs.one hs
  obtain⟨p,ws,rfl,h1,h2⟩:=hv.lst
  rw [RDs.ints h2 e1] at h1
  exact⟨p,is,rfl,h1,kk _ H F (Gr.refl dom) rfl⟩
theorem qOw:BiR X .all (λxs H Q=>∃(p:Addr) (bs:List Bool),xs=[.ref p]/\SqL X.K H p (bs.map V.bl)/\Q (.bl (bs.all id)) H):=by
 intro H F ds vs z Q hz dom hs kk
 match ds,hz,hs with
 | [.lst xs],hz,hs =>
  obtain⟨is,e1,e2⟩:=Option.map_eq_some_iff.mp hz
  subst e2
  obtain⟨v,rfl,hv⟩:=RPs.one hs
  obtain⟨p,ws,rfl,h1,h2⟩:=hv.lst
  rw [RDs.bls h2 e1] at h1
  exact⟨p,is,rfl,h1,kk _ H F (Gr.refl dom) rfl⟩
theorem qJu:BiR X .tuple (λxs H Q=>∃p ys,xs=[.ref p]/\((SqL X.K H p ys/\∀l,H l=none->Q (.ref l) (upd H l (.tup ys)))∨(SqT X.K H p ys/\Q (.ref p) H))):=by
 intro H F ds vs z Q hz dom hs kk
 match ds,hz,hs with
 | [.lst xs],hz,hs =>
  cases hz
  obtain⟨v,rfl,hv⟩:=RPs.one hs
  obtain⟨p,ws,rfl,h1,h2⟩:=hv.lst
  refine⟨p,ws,rfl,.inl ⟨h1,λl hl=>?_⟩⟩
  obtain⟨g,rr⟩:=qCz dom hl h2
  exact kk _ _ _ g rr
 | [.tup xs],hz,hs =>
  cases hz
  obtain⟨v,rfl,hv⟩:=RPs.one hs
  obtain⟨p,ws,rfl,h1,h2⟩:=hv.tup
  exact⟨p,ws,rfl,.inr ⟨h1,kk _ H F (Gr.refl dom) ⟨p,ws,rfl,h1,h2⟩⟩⟩
theorem qLX:BiR X .list (λxs H Q=>∃p ys,xs=[.ref p]/\(SqL X.K H p ys∨SqT X.K H p ys)/\∀l,H l=none->Q (.ref l) (upd H l (.lst ys))):=by
 intro H F ds vs z Q hz dom hs kk
 match ds,hz,hs with
 | [.lst xs],hz,hs =>
  cases hz
  obtain⟨v,rfl,hv⟩:=RPs.one hs
  obtain⟨p,ws,rfl,h1,h2⟩:=hv.lst
  refine⟨p,ws,rfl,.inl h1,λl hl=>?_⟩
  obtain⟨g,rr⟩:=qCb dom hl h2
  exact kk _ _ _ g rr
 | [.tup xs],hz,hs =>
  cases hz
  obtain⟨v,rfl,hv⟩:=RPs.one hs
  obtain⟨p,ws,rfl,h1,h2⟩:=hv.tup
  refine⟨p,ws,rfl,.inr h1,λl hl=>?_⟩
  obtain⟨g,rr⟩:=qCb dom hl h2
  exact kk _ _ _ g rr
theorem qOv:BiR X .int (λxs H Q=>(∃i,xs=[.int i]/\Q (.int i) H)∨∃k,xs=[.bl k]/\Q (.int (if k then 1 else 0)) H):=by
 intro H F ds vs z Q hz dom hs kk
 match ds,hz,hs with
 | [.bl b],hz,hs =>
  cases hz
  obtain⟨v,rfl,hv⟩:=RPs.one hs
  exact .inr ⟨b,by rw [hv.bl],kk _ H F (Gr.refl dom) rfl⟩
 | [.int i],hz,hs =>
  cases hz
  obtain⟨v,rfl,hv⟩:=RPs.one hs
  exact .inl ⟨i,by rw [hv.int],kk _ H F (Gr.refl dom) rfl⟩
theorem qOl:bootBuiltins (Str.ofString "len")=some (.builtin "len"):=by decide +kernel
theorem qOj:bootBuiltins (Str.ofString "min")=some (.builtin "min"):=by decide +kernel
theorem qOk:bootBuiltins (Str.ofString "max")=some (.builtin "max"):=by decide +kernel
theorem qOh:bootBuiltins (Str.ofString "sum")=some (.builtin "sum"):=by decide +kernel
theorem qOn:bootBuiltins (Str.ofString "all")=some (.builtin "all"):=by decide +kernel
theorem qOm:bootBuiltins (Str.ofString "isinstance")=some (.builtin "isinstance"):=by decide +kernel
theorem qFY:bootBuiltins (Str.ofString "tuple")=some (.type "tuple"):=by decide +kernel
theorem qIb:bootBuiltins (Str.ofString "list")=some (.type "list"):=by decide +kernel
theorem qKe:bootBuiltins (Str.ofString "int")=some (.type "int"):=by decide +kernel
theorem qLW:bootBuiltins (Str.ofString "bool")=some (.type "bool"):=by decide +kernel
theorem qOi:bootBuiltins (Str.ofString "str")=some (.type "str"):=by decide +kernel
theorem qCx {x:Str}(h:qAQ x=true):x≠"__name__"/\(x == ("__debug__":Str))=false:=by
 unfold qAQ at h
 simp only [Bool.and_eq_true,bne_iff_ne,ne_eq] at h
 exact⟨h.2,beq_eq_false_iff_ne.mpr h.1.1⟩
theorem qBH {x:Str}{s:String}(h:x=Str.ofString s) (hs:s∈["len","abs","min","max","sum","all","tuple","list","int","bool","str","isinstance","range","zip","reversed","sorted","enumerate","any"]):x∈qAI:=by
 subst h
 exact List.mem_map.mpr ⟨s,hs,rfl⟩
theorem qGU (g:XG call G k X sc N) {x:Str}{b:BI}{es:List Expr}{cs:List C}{p pos:Pos}(hb:qPR x es.length=some b) (hd:G.defs.lookup x=none) (hg:glB sc x=true) (hp:qAQ x=true) (hn:es.all qBj=true) (h:qEI call X es cs) :
  SndE call X (.Call (.Name x p) es [] pos) (.bi b cs):=by
 obtain⟨h1,h2⟩:=qCx hp
 have gx:=g.gl x hg
 have bl:∀s:String,x=Str.ofString s->s∈["len","abs","min","max","sum","all","tuple","list","int","bool","str","isinstance","range","zip","reversed","sorted","enumerate","any"]->X.mg x=none:=λs e hs=>g.blt x hd (qBH e hs)
 have ne:∀{n:Nat},es.length=n+1->es≠[]:=λe z=>by rw [z] at e;cases e
 unfold qPR at hb
 split at hb
 ·rename_i e
  split at hb
  ·rename_i hl
   cases hb
   exact qEg qEz gx (bl _ e (by decide)) (by rw [e];exact qOl) h1 h2 hn (ne hl) h qOu
  ·cases hb
 split at hb
 ·rename_i e
  split at hb
  ·rename_i hl
   cases hb
   exact qEg ((qHX g.calm).or (qHY g.calm)) gx (bl _ e (by decide)) (by rw [e];exact qOj) h1 h2 hn (hl.elim (λz=>ne z) (λz=>ne z)) h qOs
  ·cases hb
 split at hb
 ·rename_i e
  split at hb
  ·rename_i hl
   cases hb
   exact qEg (((qH0 g.calm).or (qHZ g.calm)).or (qH1 g.calm)) gx (bl _ e (by decide)) (by rw [e];exact qOk) h1 h2 hn (hl.elim (λz=>ne z) (λz=>z.elim (λz=>ne z) (λz=>ne z))) h qOt
  ·cases hb
 split at hb
 ·rename_i e
  split at hb
  ·rename_i hl
   cases hb
   exact qEg (qHW g.calm) gx (bl _ e (by decide)) (by rw [e];exact qOh) h1 h2 hn (ne hl) h qOr
  ·cases hb
 split at hb
 ·rename_i e
  split at hb
  ·rename_i hl
   cases hb
   exact qEg (qH5 g.calm) gx (bl _ e (by decide)) (by rw [e];exact qOn) h1 h2 hn (ne hl) h qOw
  ·cases hb
 split at hb
 ·rename_i e
  split at hb
  ·rename_i hl
   cases hb
   exact qDL qDY gx (bl _ e (by decide)) (by rw [e];exact qFY) h1 h2 hn (ne hl) h qJu
  ·cases hb
 split at hb
 ·rename_i e
  split at hb
  ·rename_i hl
   cases hb
   exact qDL qEy gx (bl _ e (by decide)) (by rw [e];exact qIb) h1 h2 hn (ne hl) h qLX
  ·cases hb
 split at hb
 ·rename_i e
  split at hb
  ·rename_i hl
   cases hb
   exact qDL qH3 gx (bl _ e (by decide)) (by rw [e];exact qKe) h1 h2 hn (ne hl) h qOv
  ·cases hb
 ·cases hb
theorem qKp {t:Str}{ty:Ty}(h:qOB t=some ty):bootBuiltins t=some (.type (qEb ty))/\t∈qAI/\qAQ t=true:=by
 unfold qOB at h
 split at h
 ·rename_i e;subst e;cases h;exact⟨qKe,qBH rfl (by decide),by decide +kernel⟩
 split at h
 ·rename_i e;subst e;cases h;exact⟨qLW,qBH rfl (by decide),by decide +kernel⟩
 split at h
 ·rename_i e;subst e;cases h;exact⟨qFY,qBH rfl (by decide),by decide +kernel⟩
 split at h
 ·rename_i e;subst e;cases h;exact⟨qIb,qBH rfl (by decide),by decide +kernel⟩
 split at h
 ·rename_i e;subst e;cases h;exact⟨qOi,qBH rfl (by decide),by decide +kernel⟩
 ·cases h
theorem qKR (g:XG call G k X sc N) {f t:Str}{ty:Ty}{a:Expr}{ca:C}{p p2 pos:Pos}(hf:f=Str.ofString "isinstance") (hd:G.defs.lookup f=none) (hdt:G.defs.lookup t=none) (hg:glB sc f=true) (hgt:glB sc t=true) (ht:qOB t=some ty) (hn:qBj a=true) (h:qEH call X a ca) :
  SndE call X (.Call (.Name f p) [a,.Name t p2] [] pos) (.isi ca ty):=by
 obtain⟨b1,b2,b3⟩:=qKp ht
 obtain⟨n1,n2⟩:=qCx b3
 have hm:X.mg f=none:=g.blt f hd (qBH hf (by decide))
 obtain⟨ta,pa,qa⟩:=h
 have pt:PE X (.Name t p2) (tC (.ty (qEb ty))):=qLc (g.gl t hgt) (g.blt t hdt b2) b1 rfl n1 n2
 refine⟨_,qFB qH2 (g.gl f hg) hm (by rw [hf];exact qOm) (qBG pa (qBG pt qDC) (qAy hn)) (by rw [hf];decide +kernel) (by rw [hf];decide +kernel) (qAy hn) (by rfl),λGe H F σ τ z Q hz hs kk=>?_⟩
 obtain⟨x,ex,ez⟩:=qAb (by simpa only [qLO] using hz)
 have ez0:tyR ty x=some z:=ez
 obtain⟨b,rfl⟩:∃b,z=(false,.bl b):=by cases x<;>first|(cases ez;exact⟨_,rfl⟩)|cases ez
 refine qa Ge H F σ τ x _ ex hs λv H1 F1 g1 rx=>?_
 exact⟨v,x,F1,ty,b,rfl,rx,ez0,kk _ H1 F1 g1 rfl⟩
end
end Dw
namespace Dw
open PySem PySem.Spec PyProof.Rows L2
theorem qC4:∀(ns:List Str) (ws:List V) (fs:List (Str×V)) (g:Str),g∉ns->(qJR ns ws fs).lookup g=fs.lookup g
 | [],_,_,_,_=>rfl
 | f::ns,[],_,_,_=>rfl
 | f::ns,w::ws,fs,g,h=>by
  show (qJR ns ws (qCS f w fs)).lookup g=_
  rw [qC4 ns ws _ g (λz=>h (List.mem_cons_of_mem _ z)),qBI,if_neg (λz=>h (by rw [z];exact List.mem_cons_self))]
theorem qG0:∀(ns:List Str) (ws:List V) (fs:List (Str×V)) (j:Nat) (f:Str),ns.Nodup->ws.length=ns.length->ns[j]?=some f->∃u,(qJR ns ws fs).lookup f=some u/\ws[j]?=some u
 | [],_,_,j,f,_,_,h=>by simp at h
 | g::ns,[],_,j,f,_,hl,_=>by simp at hl
 | g::ns,w::ws,fs,j,f,nd,hl,h=>by
  rw [List.nodup_cons] at nd
  cases j with
  | zero =>
   have h:g=f:=by simpa using h
   subst h
   refine⟨w,?_,rfl⟩
   show (qJR ns ws (qCS g w fs)).lookup g=_
   rw [qC4 ns ws _ g nd.1,qBI,if_pos rfl]
  | succ j =>
   obtain⟨u,h1,h2⟩:=qG0 ns ws (qCS g w fs) j f nd.2 (by simpa using hl) (by simpa using h)
   exact⟨u,h1,by simpa using h2⟩
theorem qFy (f:Str) (v:V):∀fs:List (Str×V),(qCS f v fs).length<=fs.length+1
 | []=>by simp [qCS]
 | (g,x)::r=>by
  unfold qCS
  split
  ·simp
  ·have:=qFy f v r;simp;omega
section
variable {call:Nat->List D->Option R}{G:Gx}{k:Nat}{X:Cx}{sc:Scope}{N:List Str}
theorem qIf {e:Expr}(h:qEF e=true) (m:Str) (env:Env):attributeBase e m env (eval e env)=eval e env:=by
 cases e<;>first|rfl|cases h
theorem qKT {a:Expr}{ca:C}{f:Str}{j:Nat}{pos:Pos}(hb:qEF a=true) (h:SndE call X a ca):SndE call X (.Attribute a f pos) (.fld ca j f):=by
 obtain⟨t,pt,qt⟩:=h
 refine⟨_,qNg pt (qIf hb _ _),λGe H F σ τ r Q hr hs kk=>?_⟩
 rw [qHK] at hr
 obtain⟨⟨b,d⟩,ey,hr⟩:=qAb hr
 cases d with
 | obj ns ds =>
  have hr:(if ns.ns[j]?=some f then (ds[j]?).map (false,·) else none)=some r:=hr
  by_cases hf:ns.ns[j]?=some f
  ·rw [if_pos hf] at hr
   cases ed:ds[j]? with
   | none=>rw [ed] at hr;cases hr
   | some d =>
    rw [ed] at hr
    cases hr
    refine qt Ge H F σ τ _ _ ey hs λv H1 F1 g1 rr=>?_
    obtain⟨a,vs,rfl,⟨dx,fs,o2,o3,o4,o5⟩,o6⟩:=rr.look.obj
    obtain⟨n1,u,q1,q2⟩:=o4 j f hf
    obtain⟨v',w1,w2⟩:=RDs.get o6 ed
    rw [q2] at w1
    cases w1
    exact⟨a,ns.c,dx,fs,u,rfl,o2,o3,n1,q1,kk u H1 F1 g1 w2⟩
  ·rw [if_neg hf] at hr
   cases hr
 | _=>cases hr
theorem qIF:∀{es:List Expr}{env:Env}{pos:Pos},es.all qBj=true->(backTo pos (starEach es env)).all (λx=>!x.1)=true:=λ{es env pos} h=>by
 have:=qBs (env:=env) (pos:=pos) h
 rw [<-List.not_any_eq_all_not,this]
 rfl
theorem qLx {o:Expr}{m:Str}{p2 pos2:Pos}{env:Env}{args:List Expr}(hb:attributeBase o m env (eval o env)=eval o env) (few:methodCallForm (args.length+([]:List Keyword).length) (backTo pos2 (starEach args env)) (backToKw pos2 (keywordEach [] env))=true) (hln:(p2.endLine == pos2.line)=true) :
  eval (.Call (.Attribute o m p2) args [] pos2) env=(do
   let ov <-eval o env
   standAt p2.atName
   let (f,first) <-holding [ov] (getMethod ov m (do return (<-importBound o env).getD true))
   callWith pos2 f first (backTo pos2 (starEach args env)) (backToKw pos2 (keywordEach [] env))):=by
 have e1:eval (.Call (.Attribute o m p2) args [] pos2) env=(do
   let ov <-attributeBase o m env (eval o env)
   standAt p2.atName
   methodCall o m p2 pos2 env ov (args.length+([]:List Keyword).length) (backTo pos2 (starEach args env)) (backToKw pos2 (keywordEach [] env))):=rfl
 rw [e1,hb]
 unfold methodCall calleeOf methodCallPos
 rw [few,hln]
 rfl
theorem qIV {x:Str}{C:Addr}{p pos:Pos}(M:Mk0 X.K C) (hg:Gl X x) (hm:X.mg x=some (.ref C)) (hdb:(x == ("__debug__":Str))=false) :
  PE X (.Call (.Name x p) [] [] pos) (λ_ H Q=>∀a dx,H a=none->H dx=none->dx≠a->Q (.ref a) (upd (upd H dx (.own a)) a (.ins C dx []))):=by
 intro pins s σ H Q I h
 refine wpAny_Call_Name_kw (qDb I hg hm ?_ hdb)
 refine PySem.W.callWith_K0 I.kIn M.kp ?_
 have hq:=h (s.heap.objs.size+1) s.heap.objs.size (I.hok.fresh (Nat.le_succ _)) (I.hok.fresh (Nat.le_refl _)) (Nat.ne_of_lt (Nat.lt_succ_self _))
 have I2:=Inv.made (C:=C) I
 have Y:=PySem.W.makes_of (M:=model X.prog X.w) I.kIn M.makes
 refine wpAny_call (qHg I.kIn M.makes M.init (λself=>PySem.W.Looks.of_pure (PySem.W.oi_bind self)) ?_)
 obtain⟨hh,gg,dd,tt,oo⟩:=s
 have e2:((hh.push PySem.W.emptyDict).push (PySem.W.instObj C hh.objs.size)).get? (hh.objs.size+1)=some (PySem.W.instObj C hh.objs.size):=by
  have:=Heap.get?_push_size (hh.push PySem.W.emptyDict) (o:=PySem.W.instObj C hh.objs.size) rfl
  rwa [Heap.size_push] at this
 have t1:PySem.W.Looks (model X.prog X.w) ((hh.push PySem.W.emptyDict).push (PySem.W.instObj C hh.objs.size)) (typeOf (.ref (hh.objs.size+1))) (.ref C):=(PySem.W.Looks.ld e2).andThen .now
 have t2:PySem.W.Looks (model X.prog X.w) ((hh.push PySem.W.emptyDict).push (PySem.W.instObj C hh.objs.size)) (isInstance (.ref (hh.objs.size+1)) (.type "object")) true:=t1.andThen (Y.top.keeps λb o e=>Heap.get?_push_of_some _ (Heap.get?_push_of_some _ e))
 refine PySem.codeAny_call_builtin PySem.W.oi_plain PySem.W.entry_oi (@PySem.W.check_slot (model X.prog X.w) _ _ _ "object.__init__" "object" "__init__" (.ref (hh.objs.size+1)) [] [] _ PySem.W.oi_kind PySem.W.oi_split t2 (PySem.W.oi_args (.ref (hh.objs.size+1))) ?_)
 rw [PySem.W.oi_run]
 exact wpAny_pure (And.intro rfl ⟨V.ref (hh.objs.size+1),_,I2,rfl,hq⟩)
theorem qPt (g:XG call G k X sc N) {u:Mt}(hu:u∈G.meth) (hg:glB sc u.c=true) (hd:(u.c == ("__debug__":Str))=false) {es:List Expr}{cs:List C}{p pos:Pos}(hn:es.all qBj=true) (h:qJD call X es cs) (hlen:cs.length=es.length) :
  ∃t:TE,PE X (.Call (.Name u.c p) es [] pos) t/\∀(Ge:Gp) (H:Hp) (F:Fz) (σ:En) (τ:L2.St) (xs:List D) (Q:VK),evA call σ cs=some xs->xs.length=u.kn.ns.length->SR X.K Ge H F σ τ ->
   (∀x H' F',Gr H F H' F'->RD X.K H' F' (.obj u.kn xs) (.ref x)->Q (.ref x) H')->t τ H Q:=by
 obtain⟨fm,fdm,psm,q1,q2,q3,q4,q7,q8,q9,q10,q11,q12⟩:=(g.meth u hu).ex
 have h2k:=g.two (λz=>by rw [z] at hu;cases hu)
 obtain⟨t,pt,q⟩:=h
 have key:∀(H:Hp) (F:Fz) (H1:Hp) (F1:Fz) (xs:List D) (vs:List V) (Q:VK),xs.length=u.kn.ns.length->Gr H F H1 F1->RDs X.K H1 F1 xs vs->(∀x H' F',Gr H F H' F'->RD X.K H' F' (.obj u.kn xs) (.ref x)->Q (.ref x) H')->∀x dx,H1 x=none->H1 dx=none->dx≠x ->
   spI X.K u.kn.ns (.ref x::(vs++[])) (upd (upd H1 dx (.own x)) x (.ins u.kn.c dx [])) (λv H2=>v=.non/\Q (.ref x) H2) E0:=λH F H1 F1 xs vs Q hl g1 rs kk x dx hx hdx hne3=>by
  have hvl:vs.length=u.kn.ns.length:=by rw [RDs.length rs,hl]
  have g2:Gr H1 F1 (upd (upd H1 dx (.own x)) x (.ins u.kn.c dx (qJR u.kn.ns vs []))) F1:=(Gr.laid g1.dom hdx).trans (Gr.laid (Gr.laid g1.dom hdx).dom (by rw [qAq hne3.symm];exact hx))
  refine⟨x,u.kn.c,dx,vs,by rw [List.append_nil],hvl,qAJ,q3,q4,rfl,?_⟩
  rw [qGv]
  refine kk x _ F1 (g1.trans g2) ⟨x,vs,rfl,⟨dx,_,qAJ,q3,λj f hj=>⟨q4 f (List.mem_of_getElem? hj),qG0 _ vs [] j f q12 hvl hj⟩,λgg hgg=>?_⟩,RDs.mono g2.keep rs⟩
  rw [qC4 _ _ _ _ hgg]
  rfl
 rcases q2 with ⟨fi,fdi,psi,q2,q5,q6⟩|⟨hns,q2⟩
 rotate_left
 ·have e0:es=[]∨es≠[]:=by cases es<;>simp
  rcases e0 with rfl|hne
  ·refine⟨_,qIV (p:=p) (pos:=pos) q2 (g.gl _ hg) q1 hd,λGe H F σ τ xs Q ex hl hs kk=>?_⟩
   intro x dx hx hdx hne3
   have hc:cs=[]:=List.length_eq_zero_iff.mp hlen
   subst hc
   cases ex
   have g2:Gr H F (upd (upd H dx (.own x)) x (.ins u.kn.c dx [])) F:=(Gr.laid hs.dom hdx).trans (Gr.laid (Gr.laid hs.dom hdx).dom (by rw [qAq hne3.symm];exact hx))
   refine kk x _ F g2 ⟨x,[],rfl,⟨dx,_,qAJ,q3,λj f hj=>?_,λgg hgg=>rfl⟩,rfl⟩
   rw [hns] at hj
   simp at hj
  ·refine⟨λ_ _ _=>False,λ_ _ _ _ _ _ z=>z.elim,λGe H F σ τ xs Q ex hl hs kk=>?_⟩
   have h1:=qHN ex
   rw [hns,List.length_nil] at hl
   rw [hlen,hl] at h1
   exact hne (List.length_eq_zero_iff.mp h1.symm)
 cases es with
 | nil =>
  refine⟨_,qIW (p:=p) (pos:=pos) q2 q6 (g.room.mono h2k) (g.gl _ hg) q1 q5 .nil qG9 hd,λGe H F σ τ xs Q ex hl hs kk=>?_⟩
  have hc:cs=[]:=List.length_eq_zero_iff.mp hlen
  subst hc
  cases ex
  exact key H F H F [] [] Q hl (Gr.refl hs.dom) rfl kk
 | cons e es =>
  rw [List.all_cons,Bool.and_eq_true] at hn
  refine⟨_,qLa (p:=p) (pos:=pos) q2 q6 (g.room.mono h2k) (g.gl _ hg) q1 q5 .nil qG9 pt hd (qAy hn.1) (qBs hn.2),λGe H F σ τ xs Q ex hl hs kk=>?_⟩
  refine q Ge H F σ τ xs _ ex hs λvs H1 F1 g1 rs=>?_
  exact key H F H1 F1 xs vs Q hl g1 rs kk
noncomputable def qQD (X:Cx) (e:Expr):TE:=fun σ H Q=>∃t:TE,PE X e t/\t σ H Q
theorem qNi {e:Expr}:PE X e (qQD X e):=λpins s σ H Q I h=>let ⟨_,p,q⟩:=h;p pins s σ H Q I q
theorem qN1 {bs:List Expr}{pos2:Pos}(hn2:bs.all qBj=true) (h30:bs.length<30):methodCallForm (bs.length+([]:List Keyword).length) (backTo pos2 (starEach bs X.env)) (backToKw pos2 (keywordEach [] X.env))=true:=by
 unfold methodCallForm
 rw [qIF hn2,Bool.true_and,Bool.and_eq_true]
 exact⟨rfl,decide_eq_true h30⟩
theorem qC8 {β:Type}{c:Nat}{b:β}:∀{l:List (Nat×β)},l.lookup c=some b->(c,b)∈l
 | (a,x)::r,h=>by
  rw [List.lookup_cons] at h
  split at h
  ·rename_i hc
   have hc:c=a:=by simpa using hc
   cases h
   rw [hc]
   exact List.mem_cons_self
  ·exact List.mem_cons_of_mem _ (qC8 h)
theorem qMH (g:XG call G k X sc N) {a:Expr}{ca:C}{m:Str}{bs:List Expr}{ds:List C}{p2 pos2:Pos}(hb:qEF a=true) (h1:SndE call X a ca) (hn2:bs.all qBj=true) (hne2:bs≠[]) (hln:(p2.endLine == pos2.line)=true) (h30:bs.length<30)
  (h2:qJD call X bs ds):SndE call X (.Call (.Attribute a m p2) bs [] pos2) (.mc ca m (tbM G m) ds):=by
 obtain⟨t1,pt1,qt1⟩:=h1
 obtain⟨t2,pt2,qq⟩:=h2
 refine⟨_,qNi,λGe H F σ τ r Q hr hs kk=>?_⟩
 rw [qJ6] at hr
 obtain⟨⟨b,d⟩,ey,hr⟩:=qAb hr
 obtain⟨f,eq,hr⟩:=qAb hr
 obtain⟨ys,ez,hr⟩:=qAb hr
 cases d with
 | obj kn os =>
  have eq:(if kn.ns.all (λf=>f != m)=true then (tbM G m).lookup kn.c else none)=some f:=eq
  split at eq
  ·rename_i hm
   have hmem:=qC8 eq
   unfold tbM at hmem
   obtain⟨u,hu,eu⟩:=List.mem_map.mp hmem
   obtain⟨hu2,hum⟩:=List.mem_filter.mp hu
   clear hu hmem
   have hum:u.m=m:=by simpa using hum
   have e1:u.kn.c=kn.c:=(Prod.mk.inj eu).1
   have e2:u.i=f:=(Prod.mk.inj eu).2
   subst hum e2
   obtain⟨fm,fdm,psm,q1,q2,q3,q4,q7,q8,q9,q10,q11,q12⟩:=(g.meth u hu2).ex
   cases bs with
   | nil=>exact absurd rfl hne2
   | cons b2 bs =>
    have few:=qN1 (X:=X) (pos2:=pos2) hn2 h30
    rw [List.all_cons,Bool.and_eq_true] at hn2
    refine⟨_,qK9 (apos:=p2) (pos:=pos2) pt1 q3 q7 q9 g.room q8 .nil qG9 pt2 (qAy hn2.1) (qBs hn2.2) (qLx (qIf hb _ _) few hln),?_⟩
    refine qt1 Ge H F σ τ _ _ ey hs λv H1 F1 g1 rr=>?_
    obtain⟨a',vs,rfl,⟨dx,fs,o2,o3,o4,o5⟩,o6⟩:=rr.look.obj
    rw [<-e1] at o2
    refine⟨a',dx,fs,rfl,o2,o5 _ λz=>?_,?_⟩
    ·have:=List.all_eq_true.mp hm _ z
     simp at this
    refine qq Ge H1 F1 σ τ ys _ ez (hs.grow g1) λws H3 F3 g3 rs2=>?_
    have rd:RD X.K H3 F3 (.obj kn os) (.ref a'):=RD.mono g3.keep (by
     cases b with
     | false=>exact rr
     | true=>obtain⟨_,_,_,z,_⟩:=rr;cases z)
    have rg:RGs X.K H3 F3 (.obj kn os::ys) (.ref a'::(ws++[])):=by
     rw [List.append_nil]
     exact⟨.ref a',ws,rfl,.inl rd,RGs.of rs2⟩
    exact⟨by rw [RGs.length rg];exact q10 _ _ hr,F3,_,r,g3.dom,rg,hr,λv H' F' g4 rr=>kk v H' F' ((g1.trans g3).trans g4) (rr.back (g1.trans g3).same)⟩
  ·cases eq
 | _=>cases eq
theorem qMG (g:XG call G k X sc N) {u:Mt}(hu:u∈G.meth) (hg:glB sc u.c=true) (hd:(u.c == ("__debug__":Str))=false) {es:List Expr}{cs:List C}{p pos:Pos}(hn:es.all qBj=true) (h:qJD call X es cs) (hlen:cs.length=es.length):SndE call X (.Call (.Name u.c p) es [] pos) (.mk u.kn cs):=by
 obtain⟨t,pt,qt⟩:=qPt (p:=p) (pos:=pos) g hu hg hd hn h hlen
 refine⟨t,pt,λGe H F σ τ r Q hr hs kk=>?_⟩
 rw [qJ5] at hr
 obtain⟨xs,ex,hr⟩:=qAb hr
 split at hr
 ·rename_i hl
  cases hr
  exact qt Ge H F σ τ xs Q ex hl hs λx H' F' g' rd=>kk _ H' F' g' rd
 ·cases hr
theorem qHh {c:Str}{u:Mt}(h:qLy G c=some u):u∈G.meth/\u.c=c:=by
 unfold qLy at h
 have h1:=List.mem_of_find?_eq_some h
 have h2:=List.find?_some h
 simp only [beq_iff_eq] at h2
 exact⟨h1,h2⟩
end
noncomputable def qEm (sc:Scope) (N:List Str):Nat->List Str->List Stmt->Bool
 | _,[],[]=>true
 | j,f::ns,.Assign [.Attribute (.Name s _) g _] (.Name p _) _::r=>g == f&&qBr sc N s == some 0&&qBr sc N p == some (j+1)&&qEm sc N (j+1) ns r
 | _,_,_=>false
section
variable {call:Nat->List D->Option R}{G:Gx}{k:Nat}{X:Cx}{sc:Scope}{N:List Str}
theorem qGi {sc:Scope}{N:List Str}{j:Nat}{f:Str}{ns:List Str}{st:Stmt}{r:List Stmt}(h:qEm sc N j (f::ns) (st::r)=true):∃s sp gp p pp ap,st=.Assign [.Attribute (.Name s sp) f gp] (.Name p pp) ap/\qBr sc N s=some 0/\qBr sc N p=some (j+1)/\qEm sc N (j+1) ns r=true:=by
 unfold qEm at h
 split at h
 ·rename_i h1 h2;cases h2
 ·rename_i _ _ _ _ s sp g' gp p pp ap _ e1 e2
  cases e1
  cases e2
  rw [Bool.and_eq_true,Bool.and_eq_true,Bool.and_eq_true] at h
  obtain⟨⟨⟨hf,hs⟩,hp⟩,hr⟩:=h
  have hf:g'=f:=by simpa using hf
  subst hf
  exact⟨s,sp,gp,p,pp,ap,rfl,by simpa using hs,by simpa using hp,hr⟩
 ·cases h
theorem qEl (g:XG call G k X sc N):∀(ns:List Str) (j:Nat) (body:List Stmt),qEm sc N j ns body=true->∃t,PSs X body t/\∀(σ:L2.St) (H:Hp) (x C dx:Addr) (fs:List (Str×V)) (ws:List V) (Dn:Ends),σ[0]?=some (some (.ref x))->(∀i w,ws[i]?=some w->σ[j+1+i]?=some (some w))->ws.length=ns.length ->
  H x=some (.ins C dx fs)->Cls X.K C->(∀f∈ns,NoAttr X.K C f)->fs.length+ns.length<1000->Dn.nx σ (upd H x (.ins C dx (qJR ns ws fs)))->t Dn σ H
 | [],j,[],_=>⟨_,qG1,fun σ H x C dx fs ws Dn h0 hw hl hH hC hN hz hq=>by
   have e:upd H x (.ins C dx fs)=H:=by
    funext b
    by_cases h:b=x
    ·subst h;rw [qAJ,hH]
    ·rw [qAq h]
   have hq:Dn.nx σ (upd H x (.ins C dx fs)):=hq
   rw [e] at hq
   exact hq⟩
 | [],_,_::_,h=>by cases h
 | f::ns,j,[],h=>by cases h
 | f::ns,j,st::r,h=>by
  obtain⟨s,sp,gp,p,pp,ap,rfl,hs,hp,hr⟩:=qGi h
  obtain⟨s1,s2,s3,s4⟩:=qCL g hs
  obtain⟨p1,p2,p3,p4⟩:=qCL g hp
  obtain⟨t,pt,qt⟩:=qEl g ns (j+1) r hr
  refine⟨_,qFz (qM2 (qCh (i:=0) s1 s2 s3 s4) (qCh (i:=j+1) p1 p2 p3 p4) rfl) pt,fun σ H x C dx fs ws Dn h0 hw hl hH hC hN hz hq=>?_⟩
  cases ws with
  | nil=>simp at hl
  | cons w ws =>
   refine⟨w,hw 0 w rfl,.ref x,h0,x,C,dx,fs,rfl,hH,hC,hN _ List.mem_cons_self,by simp at hz;omega,?_⟩
   refine qt σ _ x C dx (qCS f w fs) ws Dn h0 (λi u hi=>?_) (by simpa using hl) qAJ hC (λf hf=>hN f (List.mem_cons_of_mem _ hf)) (by have:=qFy f w fs;simp at hz;omega) ?_
   ·have:=hw (i+1) u (by simpa using hi)
    rw [show j+1+1+i=j+1+(i+1) by omega]
    exact this
   ·rw [qGv]
    exact hq
end
end Dw
namespace Dw
open PySem PySem.Spec PyProof.Rows L2
theorem qAD {σ:En}{i:Nat}{o:Option R}(h:i<σ.length):qAe (σ.set i o) i=o:=by
 simp [qAe,h]
theorem qAE {σ:En}{i j:Nat}{o:Option R}(h:i≠j):qAe (σ.set i o) j=qAe σ j:=by
 simp [qAe,List.getElem?_set_ne h]
theorem qA8 {σ:En}{i:Nat}{r:R}(h:qAe σ i=some r):i<σ.length:=by
 by_cases hi:i<σ.length
 ·exact hi
 ·have:σ[i]?=none:=List.getElem?_eq_none (by omega)
  simp [qAe,this] at h
section
variable {K:PySem.W.Frag}{G:Gp}{H H1:Hp}{F F1:Fz}{σ:En}{τ:L2.St}{i:Nat}{d:D}{v:V}
theorem SR.bind (s:SR K G H F σ τ) (h:RD K H F d v):SR K G H F (σ.set i (some (false,d))) (τ.set i (some v)):=by
 refine⟨by simp [s.len],s.ent,s.dom,λj e hj=>?_,λj e hj hd=>?_,λj k e e' hj hk hjk=>?_,λj m ks hj=>?_,λp e hp hj=>?_⟩
 ·by_cases hij:i=j
  ·subst hij
   have hl:i<σ.length:=by simpa using qA8 hj
   rw [qAD hl] at hj
   cases hj
   exact⟨v,by rw [List.getElem?_set_self (by rw [<-s.len];exact hl)],h⟩
  ·rw [qAE hij] at hj
   obtain⟨u,h1,h2⟩:=s.val j e hj
   exact⟨u,by rw [List.getElem?_set_ne hij];exact h1,h2⟩
 ·have hij:i≠j:=λz=>by
   subst z
   have hl:i<σ.length:=by simpa using qA8 hj
   rw [qAD hl] at hj
   cases hj
  rw [qAE hij] at hj
  obtain⟨a,ds,vs,h1,h2,h3⟩:=s.own j e hj hd
  exact⟨a,ds,vs,h1,by rw [List.getElem?_set_ne hij];exact h2,h3⟩
 ·have nj:∀{j:Nat} {e:D},qAe (σ.set i (some (false,d))) j=some (true,e)->i≠j:=λ{j e} hj z=>by
   subst z
   have hl:i<σ.length:=by simpa using qA8 hj
   rw [qAD hl] at hj
   cases hj
  have n1:=nj hj
  have n2:=nj hk
  rw [qAE n1] at hj
  rw [qAE n2] at hk
  rw [List.getElem?_set_ne n1,List.getElem?_set_ne n2] at hjk
  exact s.sep j k e e' hj hk hjk
 ·have hij:i≠j:=λz=>by
   subst z
   have hl:i<σ.length:=by simpa using qA8 hj
   rw [qAD hl] at hj
   cases hj
  rw [qAE hij] at hj
  obtain⟨a,h1,h2⟩:=s.dct j m ks hj
  exact⟨a,by rw [List.getElem?_set_ne hij];exact h1,h2⟩
 ·have hij:i≠0:=λz=>by
   subst z
   have hl:0<σ.length:=by simpa using qA8 hj
   rw [qAD hl] at hj
   cases hj
  rw [qAE hij] at hj
  rw [List.getElem?_set_ne hij]
  exact s.pin p e hp hj
theorem SR.skip (s:SR K G H F σ τ) (h:qAe σ i=none):SR K G H F σ (τ.set i (some v)):=by
 have ne:∀{j:Nat} {r:R},qAe σ j=some r->i≠j:=λ{j r} e z=>by subst z;rw [h] at e;cases e
 refine⟨by simp [s.len],s.ent,s.dom,λj e hj=>?_,λj e hj hd=>?_,λj k e e' hj hk hjk=>?_,λj m ks hj=>?_,λp e hp hj=>?_⟩
 ·obtain⟨u,h1,h2⟩:=s.val j e hj
  exact⟨u,by rw [List.getElem?_set_ne (ne hj)];exact h1,h2⟩
 ·obtain⟨a,ds,vs,h1,h2,h3⟩:=s.own j e hj hd
  exact⟨a,ds,vs,h1,by rw [List.getElem?_set_ne (ne hj)];exact h2,h3⟩
 ·rw [List.getElem?_set_ne (ne hj),List.getElem?_set_ne (ne hk)] at hjk
  exact s.sep j k e e' hj hk hjk
 ·obtain⟨a,h1,h2⟩:=s.dct j m ks hj
  exact⟨a,by rw [List.getElem?_set_ne (ne hj)];exact h1,h2⟩
 ·rw [List.getElem?_set_ne (ne hj)]
  exact s.pin p e hp hj
theorem SR.keep {G':Gp}(s:SR K G H F σ τ) (k:Keep H F H1 F1) (ent:Same G'.h H1) (dom:∀a,H1 a=none->¬F1 a)
  (own:∀i d,qAe σ i=some (true,d)->qLH d=false->∃a ds vs,d=.lst ds/\τ[i]?=some (some (.ref a))/\G' a=none/\¬F1 a/\H1 a=some (.lst vs)/\RDs K H1 F1 ds vs)
  (dct:∀i m ks,qAe σ i=some (true,.dct m ks)->∃a,τ[i]?=some (some (.ref a))/\¬F1 a/\H1 a=some (.dK (dk ks))/\(m=true->G' a=none))
  (pin:∀p d,G'.pin=some p->qAe σ 0=some (true,d)->τ[0]?=some (some (.ref p))):SR K G' H1 F1 σ τ:=
 ⟨s.len,ent,dom,λi d e=>let ⟨v,h1,h2⟩:=s.val i d e;⟨v,h1,RD.mono k h2⟩,own,s.sep,dct,pin⟩
theorem Keep.trans {H2:Hp}{F2:Fz}(a:Keep H F H1 F1) (b:Keep H1 F1 H2 F2):Keep H F H2 F2:=
 ⟨λp xs h=>b.tups p xs (a.tups p xs h),λp xs f h=>b.lsts p xs (a.lsts p xs f h).1 (a.lsts p xs f h).2,λp C dx fs h=>b.inss p C dx fs (a.inss p C dx fs h)⟩
theorem Keep.refl:Keep H F H F:=⟨λ_ _ h=>h,λ_ _ f h=>⟨f,h⟩,λ_ _ _ _ h=>h⟩
end
section
variable {call:Nat->List D->Option R}{G:Gx}{k:Nat}{X:Cx}{sc:Scope}{N:List Str}
noncomputable def gL:List Nat->TGs
 | []=>qPH
 | i::is=>qJk (qE4 i) (gL is)
noncomputable def gTg (K:PySem.W.Frag):Tg->TG
 | .one i=>qE4 i
 | .two i j=>qPG K 2 (qJk (qE4 i) (qJk (qE4 j) qPH))
 | .many is=>qPG K is.length (gL is)
theorem qC9 (g:XG call G k X sc N) {x:Str}(h:(sc.names.lookup x == some .local||sc.names.lookup x == some .cell)=true):Loc X.env.scope x/\(X.fn x=true∨X.env.scope.names.lookup x=some .local):=g.loc x h
theorem qGM (g:XG call G k X sc N) {tg:Expr}{t:Tg}(h:qCX sc N tg=some t):PG X tg (gTg X.K t):=by
 unfold qCX at h
 split at h
 ·rename_i x pos
  split at h
  ·rename_i hx
   cases hi:qAP N x with
   | none=>rw [hi] at h;cases h
   | some i =>
    rw [hi] at h
    cases h
    obtain⟨l1,l2⟩:=qC9 g hx
    exact qDS (by rw [g.hN];exact g.nd) (by rw [g.hN];exact qBc hi) l1 l2
  ·cases h
 ·rename_i x p y p' kk pos
  split at h
  ·rename_i hx
   rw [Bool.and_eq_true,Bool.and_eq_true] at hx
   obtain⟨⟨hx,hy⟩,hne⟩:=hx
   cases hi:qAP N x with
   | none=>rw [hi] at h;cases h
   | some i =>
    cases hj:qAP N y with
    | none=>rw [hi,hj] at h;cases h
    | some j =>
     rw [hi,hj] at h
     cases h
     obtain⟨l1,l2⟩:=qC9 g hx
     obtain⟨m1,m2⟩:=qC9 g hy
     exact qJU g.calm (qDR (qDS (by rw [g.hN];exact g.nd) (by rw [g.hN];exact qBc hi) l1 l2) (qDR (qDS (by rw [g.hN];exact g.nd) (by rw [g.hN];exact qBc hj) m1 m2) qG6))
  ·cases h
 ·cases h
theorem qGz {K:PySem.W.Frag}{Ge:Gp}{H:Hp}{F:Fz}{σ σ':En}{τ:L2.St}{t:Tg}{d:D}{v:V}{Q:L2.St->Hp->Prop}(hm:∀is,t≠.many is) (s:SR K Ge H F σ τ) (hb:qBq σ t d=some σ') (hv:RD K H F d v)
  (h:∀τ',SR K Ge H F σ' τ'->(∀σ0:En,SR K Ge H F σ0 τ->(∀i,(t=.one i∨∃j,t=.two i j∨t=.two j i)->qAe σ0 i=none)->SR K Ge H F σ0 τ')->Q τ' H):gTg K t v τ H Q:=by
 cases t with
 | one i =>
  cases hb
  exact h _ (s.bind hv) fun σ0 s0 hn=>s0.skip (hn i (.inl rfl))
 | two i j =>
  unfold qBq at hb
  split at hb
  ·rename_i heq;cases heq
  ·rename_i i' j' x y heq
   cases heq
   cases hb
   obtain⟨a,vs,rfl,hs,hr⟩:=hv
   obtain⟨v1,r,rfl,h1,w,r2,e2,h2,h3⟩:=hr
   have h3:r2=[]:=h3
   subst h3
   subst e2
   exact⟨a,[v1,w],rfl,hs,rfl,v1,[w],rfl,w,[],rfl,rfl,h _ ((s.bind h1).bind h2) fun σ0 s0 hn=>(s0.skip (hn i (.inr ⟨j,.inl rfl⟩))).skip (hn j (.inr ⟨i,.inr rfl⟩))⟩
  ·rename_i heq;cases heq
  ·cases hb
 | many is=>exact absurd rfl (hm is)
theorem qC3 {K:PySem.W.Frag}{Ge:Gp}{H:Hp}{F:Fz}{Q:L2.St->Hp->Prop}:∀{is:List Nat}{ds:List D}{vs:List V}{σ σ':En}{τ:L2.St},SR K Ge H F σ τ->qEi σ is ds=some σ'->RDs K H F ds vs->(∀τ',SR K Ge H F σ' τ'->Q τ' H)->gL is vs τ H Q
 | [],ds,vs,σ,σ',τ,s,hb,hv,h=>by
  cases ds with
  | nil=>cases hb;have hv:vs=[]:=hv;exact⟨hv,h _ s⟩
  | cons d r=>cases hb
 | i::is,ds,vs,σ,σ',τ,s,hb,hv,h=>by
  cases ds with
  | nil=>cases hb
  | cons d r =>
   obtain⟨v,w,rfl,h1,h2⟩:=hv
   exact⟨v,w,rfl,qC3 (s.bind h1) hb h2 h⟩
theorem qDA:∀{is:List Nat}{ds:List D}{σ σ':En},qEi σ is ds=some σ'->ds.length=is.length
 | [],[],_,_,_=>rfl
 | [],_::_,_,_,h=>by cases h
 | _::_,[],_,_,h=>by cases h
 | i::is,d::ds,σ,σ',h=>by rw [List.length_cons,List.length_cons,qDA (show qEi (σ.set i (some (false,d))) is ds=some σ' from h)]
theorem qCu {K:PySem.W.Frag}{Ge:Gp}{H:Hp}{F:Fz}{σ σ':En}{τ:L2.St}{t:Tg}{d:D}{v:V}{Q:L2.St->Hp->Prop}(s:SR K Ge H F σ τ) (hb:qBq σ t d=some σ') (hv:RD K H F d v)
  (h:∀τ',SR K Ge H F σ' τ'->Q τ' H):gTg K t v τ H Q:=by
 cases t with
 | one i=>exact qGz (λ_ z=>nomatch z) s hb hv fun τ' s' _=>h τ' s'
 | two i j=>exact qGz (λ_ z=>nomatch z) s hb hv fun τ' s' _=>h τ' s'
 | many is =>
  unfold qBq at hb
  split at hb
  ·rename_i heq;cases heq
  ·rename_i heq;cases heq
  ·rename_i is' ds heq
   cases heq
   obtain⟨a,vs,rfl,hs,hr⟩:=hv
   exact⟨a,vs,rfl,hs,by rw [RDs.length hr];exact qDA hb,qC3 s hb hr h⟩
  ·cases hb
theorem qPq (g:XG call G k X sc N) {e:Expr}{i:Nat}(h:qIp sc N e=some i):PG X e (qE4 i)/\∃x p,e=.Name x p:=by
 unfold qIp at h
 split at h
 ·rename_i x pos
  split at h
  ·rename_i hx
   obtain⟨l1,l2⟩:=qC9 g hx
   exact⟨qDS (by rw [g.hN];exact g.nd) (by rw [g.hN];exact qBc h) l1 l2,x,pos,rfl⟩
  ·cases h
 ·cases h
theorem qJY (g:XG call G k X sc N):∀{es:List Expr}{is:List Nat},qAV (qIp sc N) es=some is->PGs X es (gL is)/\(assignEach es X.env).length=is.length/\(assignEach es X.env).findIdx? (·.1)=none
 | [],is,h=>by cases h;exact⟨qG6,rfl,rfl⟩
 | e::es,is,h=>by
  unfold qAV at h
  cases hx:qIp sc N e with
  | none=>rw [hx] at h;cases h
  | some i =>
   rw [hx] at h
   cases hy:qAV (qIp sc N) es with
   | none=>simp only [Option.bind_some] at h;rw [hy] at h;cases h
   | some js =>
    simp only [Option.bind_some] at h
    rw [hy] at h
    cases h
    obtain⟨p1,x,p,rfl⟩:=qPq g hx
    obtain⟨q1,q2,q3⟩:=qJY g hy
    refine⟨qDR p1 q1 rfl,?_,?_⟩
    ·show (assignEach es X.env).length+1=_
     rw [q2];rfl
    ·show List.findIdx? _ ((false,_)::assignEach es X.env)=none
     rw [List.findIdx?_cons,q3];rfl
theorem qGA {tg:Expr}{t:Tg}(h:qCX sc N tg=some t):∀is,t≠.many is:=by
 intro is z
 subst z
 unfold qCX at h
 split at h
 ·split at h
  ·rename_i x _ _;cases hx:qAP N x<;>(rw [hx] at h;cases h)
  ·cases h
 ·split at h
  ·rename_i x _ y _ _ _ _;cases hx:qAP N x<;>rw [hx] at h<;>first|cases h|(cases hy:qAP N y<;>(rw [hy] at h;cases h))
  ·cases h
 ·cases h
theorem qGL (g:XG call G k X sc N) {tg:Expr}{t:Tg}(h:tgM sc N tg=some t):PG X tg (gTg X.K t):=by
 unfold tgM at h
 cases ht:qCX sc N tg with
 | some t' =>
  rw [ht] at h
  cases h
  exact qGM g ht
 | none =>
  rw [ht] at h
  cases tg with
  | Tuple es kk pos =>
   have h:(qAV (qIp sc N) es).map Tg.many=some t:=h
   cases hx:qAV (qIp sc N) es with
   | none=>rw [hx] at h;cases h
   | some is =>
    rw [hx] at h
    cases h
    obtain⟨q1,q2,q3⟩:=qJY g hx
    exact qJU g.calm q1 q2 q3
  | _=>cases h
end
noncomputable def qKh (K:PySem.W.Frag) (J:It) (H:Hp) (F:Fz) (its:List D):Prop:=∀H' F',Keep H F H' F'->(∀a,H' a=none->¬F' a) ->
 (∀i d,its[i]?=some d->J.go i H'/\∀x H3,J.yld i H' x H3->∃F3,Gr H' F' H3 F3/\RD K H3 F3 d x)/\J.stop its.length H'
theorem qLG {K:PySem.W.Frag}{H:Hp}{F:Fz}{a:Addr}{ds:List D}{vs:List V}(h:LsR K H F a vs) (r:RDs K H F ds vs):qKh K (Itl K a) H F ds:=by
 intro H' F' k dom
 have h':LsR K H' F' a vs:=h.elim (λz=>.inl (k.lsts _ _ z.1 z.2)) .inr
 have r':=RDs.mono k r
 have hl:=RDs.length r'
 refine⟨λi d hd=>?_,⟨vs,h'.sq,by omega⟩⟩
 obtain⟨v,e1,e2⟩:=RDs.get r' hd
 refine⟨⟨vs,v,h'.sq,e1⟩,λx H3 y=>?_⟩
 obtain⟨rfl,y⟩:=y
 have:=y vs h'.sq
 rw [e1] at this
 cases this
 exact⟨F',Gr.refl dom,e2⟩
theorem qNT {K:PySem.W.Frag}{H:Hp}{F:Fz}{a:Addr}{ds:List D}{vs:List V}(h:SqT K H a vs) (r:RDs K H F ds vs):qKh K (Itt K a) H F ds:=by
 intro H' F' k dom
 have h':SqT K H' a vs:=h.elim (λz=>.inl (k.tups _ _ z)) .inr
 have r':=RDs.mono k r
 have hl:=RDs.length r'
 refine⟨λi d hd=>?_,⟨vs,h',by omega⟩⟩
 obtain⟨v,e1,e2⟩:=RDs.get r' hd
 refine⟨⟨vs,v,h',e1⟩,λx H3 y=>?_⟩
 obtain⟨rfl,y⟩:=y
 have:=y vs h'
 rw [e1] at this
 cases this
 exact⟨F',Gr.refl dom,e2⟩
theorem qNU {K:PySem.W.Frag}{H:Hp}{F:Fz}(lo:Int) (n:Nat):qKh K (Itr lo n) H F ((List.range n).map λi=>.int (lo+(i:Nat))):=by
 intro H' F' k dom
 refine⟨λi d hd=>?_,?_⟩
 ·rw [List.getElem?_map] at hd
  cases q:(List.range n)[i]? with
  | none=>rw [q] at hd;cases hd
  | some j =>
   rw [q] at hd
   obtain⟨hl,ej⟩:=List.getElem?_eq_some_iff.mp q
   simp at hl ej
   subst ej
   cases hd
   refine⟨hl,λx H3 y=>?_⟩
   obtain⟨rfl,rfl⟩:=y
   exact⟨F',Gr.refl dom,rfl⟩
 ·show n<=_
  simp
theorem qHq {K:PySem.W.Frag}{H:Hp}{F:Fz}(lo st:Int) (n:Nat):qKh K (Its lo st n) H F ((List.range n).map λi=>.int (lo+(i:Nat) * st)):=by
 intro H' F' k dom
 refine⟨λi d hd=>?_,?_⟩
 ·rw [List.getElem?_map] at hd
  cases q:(List.range n)[i]? with
  | none=>rw [q] at hd;cases hd
  | some j =>
   rw [q] at hd
   obtain⟨hl,ej⟩:=List.getElem?_eq_some_iff.mp q
   simp at hl ej
   subst ej
   cases hd
   refine⟨hl,λx H3 y=>?_⟩
   obtain⟨rfl,rfl⟩:=y
   exact⟨F',Gr.refl dom,rfl⟩
 ·show n<=_
  simp
end Dw
namespace Dw
open PySem PySem.Spec PyProof.Rows L2
section
variable {prog:Program}{w:World}{A:Around}{E:Value->Shared->Prop}{s:Shared}
theorem qLs {p t:Addr}{k:Nat}{its:Array Value}{y:Value}{Q:Value->Shared->Prop}(hp:s.heap.IsTupleIter p t k) (ht:s.heap.IsTuple t its) (hy:its[k]?=some y)
  (q:∀h1,h1.IsTupleIter p t (k+1)->Heap.SameBut p s.heap h1->Q y { s with heap:=h1 }):wpAny (model prog w) A (Builtin.SmallTypes.nextOf (.ref p)) Q E s:=by
 obtain⟨b,b1,b2,b3⟩:=id hp;obtain⟨c,c1,_,n1,c3⟩:=ht;unfold Builtin.SmallTypes.nextOf
 refine wpAny_bind (wpAny_callSpecial?_slot (name:=Str.ofString "__next__") hp.typeIs F.slot_tuple_iterator_next (wpAny_call_entry F.slot_tuple_iterator_next hp.typeIs F.entry_tuple_iterator_next ?_ (F.args_tuple_iterator_next_1 _)))
 show wpAny _ _ (field (.ref p) 0 >>= _) _ _ s
 refine wpAny_bind (wpAny_field b1 b3 (x:=.ref t) rfl ?_);show wpAny _ _ (if (Value.ref t == Value.none)=true then _ else _) _ _ s
 rw [if_neg (show ¬((Value.ref t == Value.none)=true) from Bool.false_ne_true)];show wpAny _ _ (field (.ref p) 1 >>= _) _ _ s
 refine wpAny_bind (wpAny_field b1 b3 (x:=.int k 0) rfl ?_);show wpAny _ _ (seqItems? (.ref t) >>= _) _ _ s
 refine wpAny_bind (wpAny_seqItems c1 c3 ?_);simp only [hy,Int.toNat_natCast]
 refine wpAny_bind (wpAny_setField b1 b3 (by simp) (wpAny_pure ⟨y,rfl,wpAny_pure (q _ ?_ (Heap.SameBut.update ..))⟩))
 exact⟨_,Heap.get?_update_self _ b1 (Obj.isFreed_of_fields (Obj.data_mapFields b3 _)),(Obj.cls_mapFields ..).trans b2,by (rw [Obj.data_mapFields b3];simp [rawInt])⟩
theorem qNt {p t:Addr}{k:Nat}{its:Array Value}{Q:Value->Shared->Prop}(hh:A.handled=none) (hp:s.heap.IsTupleIter p t k) (ht:s.heap.IsTuple t its) (hy:its[k]?=none)
  (q:∀h1 e,Heap.ExtBut p s.heap h1->(∃o,h1.get? e=some o/\o.cls=.type "StopIteration")->E (.ref e) { s with heap:=h1 }):wpAny (model prog w) A (Builtin.SmallTypes.nextOf (.ref p)) Q E s:=by
 obtain⟨b,b1,b2,b3⟩:=id hp;obtain⟨c,c1,_,n1,c3⟩:=ht;unfold Builtin.SmallTypes.nextOf
 refine wpAny_bind (wpAny_callSpecial?_slot (name:=Str.ofString "__next__") hp.typeIs F.slot_tuple_iterator_next (wpAny_call_entry F.slot_tuple_iterator_next hp.typeIs F.entry_tuple_iterator_next ?_ (F.args_tuple_iterator_next_1 _)))
 show wpAny _ _ (field (.ref p) 0 >>= _) _ _ s
 refine wpAny_bind (wpAny_field b1 b3 (x:=.ref t) rfl ?_);show wpAny _ _ (if (Value.ref t == Value.none)=true then _ else _) _ _ s
 rw [if_neg (show ¬((Value.ref t == Value.none)=true) from Bool.false_ne_true)];show wpAny _ _ (field (.ref p) 1 >>= _) _ _ s
 refine wpAny_bind (wpAny_field b1 b3 (x:=.int k 0) rfl ?_);show wpAny _ _ (seqItems? (.ref t) >>= _) _ _ s
 refine wpAny_bind (wpAny_seqItems c1 c3 ?_);simp only [hy,Int.toNat_natCast]
 refine wpAny_bind (wpAny_rule (wpAny_bind (wpAny_setField b1 b3 (by simp) ?_)));show wpAny _ _ (newExc (.type "StopIteration") [] >>= _) _ _ _
 refine wpAny_bind ?_;simp only [newExc,newTuple];refine wpAny_bind (wpAny_newObj_type ?_ (by size_fits))
 refine wpAny_bind (m:=firstArgMember _ _) (wpAny_of_eq (a:=Value.none) (by first|rfl|(simp only [firstArgMember];rfl)) ?_);refine wpAny_newObj_type ?_ (by size_fits)
 simp only [raiseNew];refine wpAny_bind (wpAny_handled ?_);first|rw [show A.in1.handled=none from hh]|rw [hh]
 refine wpAny_bind (wpAny_pure (wpAny_throw ?_));exact q _ _ (((Heap.SameBut.update ..).extBut.push _).push _) ⟨_,Heap.get?_push_size _ rfl,rfl⟩
theorem qLv {p t:Addr}{k:Nat}{its:Array Value}{y:Value}{Q:Value->Shared->Prop}(hp:s.heap.IsListIter p t k) (ht:s.heap.IsList t its) (hy:its[k]?=some y)
  (q:∀h1,h1.IsListIter p t (k+1)->Heap.SameBut p s.heap h1->Q y { s with heap:=h1 }):wpAny (model prog w) A (Builtin.SmallTypes.nextOf (.ref p)) Q E s:=by
 obtain⟨b,b1,b2,b3⟩:=id hp;obtain⟨c,c1,_,n1,c3⟩:=ht;unfold Builtin.SmallTypes.nextOf
 refine wpAny_bind (wpAny_callSpecial?_slot (name:=Str.ofString "__next__") hp.typeIs PySem.slot_listiter_next (wpAny_call_entry PySem.slot_listiter_next hp.typeIs PySem.entry_listiter_next ?_ (PySem.args_listiter_next _)))
 show wpAny _ _ (field (.ref p) 0 >>= _) _ _ s
 refine wpAny_bind (wpAny_field b1 b3 (x:=.ref t) rfl ?_);show wpAny _ _ (if (Value.ref t == Value.none)=true then _ else _) _ _ s
 rw [if_neg (show ¬((Value.ref t == Value.none)=true) from Bool.false_ne_true)];show wpAny _ _ (field (.ref p) 1 >>= _) _ _ s
 refine wpAny_bind (wpAny_field b1 b3 (x:=.int k 0) rfl ?_);show wpAny _ _ (seqItems? (.ref t) >>= _) _ _ s
 refine wpAny_bind (wpAny_seqItems c1 c3 ?_);simp only [hy,Int.toNat_natCast]
 refine wpAny_bind (wpAny_setField b1 b3 (by simp) (wpAny_pure ⟨y,rfl,wpAny_pure (q _ ?_ (Heap.SameBut.update ..))⟩))
 exact⟨_,Heap.get?_update_self _ b1 (Obj.isFreed_of_fields (Obj.data_mapFields b3 _)),(Obj.cls_mapFields ..).trans b2,by (rw [Obj.data_mapFields b3];simp [rawInt])⟩
theorem qNw {p t:Addr}{k:Nat}{its:Array Value}{Q:Value->Shared->Prop}(hh:A.handled=none) (hp:s.heap.IsListIter p t k) (ht:s.heap.IsList t its) (hy:its[k]?=none)
  (q:∀h1 e,Heap.ExtBut p s.heap h1->(∃o,h1.get? e=some o/\o.cls=.type "StopIteration")->E (.ref e) { s with heap:=h1 }):wpAny (model prog w) A (Builtin.SmallTypes.nextOf (.ref p)) Q E s:=by
 obtain⟨b,b1,b2,b3⟩:=id hp;obtain⟨c,c1,_,n1,c3⟩:=ht;unfold Builtin.SmallTypes.nextOf
 refine wpAny_bind (wpAny_callSpecial?_slot (name:=Str.ofString "__next__") hp.typeIs PySem.slot_listiter_next (wpAny_call_entry PySem.slot_listiter_next hp.typeIs PySem.entry_listiter_next ?_ (PySem.args_listiter_next _)))
 show wpAny _ _ (field (.ref p) 0 >>= _) _ _ s
 refine wpAny_bind (wpAny_field b1 b3 (x:=.ref t) rfl ?_);show wpAny _ _ (if (Value.ref t == Value.none)=true then _ else _) _ _ s
 rw [if_neg (show ¬((Value.ref t == Value.none)=true) from Bool.false_ne_true)];show wpAny _ _ (field (.ref p) 1 >>= _) _ _ s
 refine wpAny_bind (wpAny_field b1 b3 (x:=.int k 0) rfl ?_);show wpAny _ _ (seqItems? (.ref t) >>= _) _ _ s
 refine wpAny_bind (wpAny_seqItems c1 c3 ?_);simp only [hy,Int.toNat_natCast]
 refine wpAny_bind (wpAny_rule (wpAny_bind (wpAny_setField b1 b3 (by simp) ?_)));show wpAny _ _ (newExc (.type "StopIteration") [] >>= _) _ _ _
 refine wpAny_bind ?_;simp only [newExc,newTuple];refine wpAny_bind (wpAny_newObj_type ?_ (by size_fits))
 refine wpAny_bind (m:=firstArgMember _ _) (wpAny_of_eq (a:=Value.none) (by first|rfl|(simp only [firstArgMember];rfl)) ?_);refine wpAny_newObj_type ?_ (by size_fits)
 simp only [raiseNew];refine wpAny_bind (wpAny_handled ?_);first|rw [show A.in1.handled=none from hh]|rw [hh]
 refine wpAny_bind (wpAny_pure (wpAny_throw ?_));exact q _ _ (((Heap.SameBut.update ..).extBut.push _).push _) ⟨_,Heap.get?_push_size _ rfl,rfl⟩
noncomputable def SqH:Bool->Heap->Addr->Array Value->Prop
 | true,h,t,its=>h.IsList t its
 | false,h,t,its=>h.IsTuple t its
noncomputable def SqI:Bool->Heap->Addr->Addr->Nat->Prop
 | true,h,p,t,k=>h.IsListIter p t k
 | false,h,p,t,k=>h.IsTupleIter p t k
theorem SqI.extBut {kd:Bool}{h h':Heap}{a b t:Addr}{i:Nat}(x:SqI kd h a t i) (hs:Heap.ExtBut b h h') (hab:a≠b):SqI kd h' a t i:=by
 cases kd with
 | true=>exact Heap.IsListIter.extBut x hs hab
 | false=>exact Heap.IsTupleIter.extBut x hs hab
theorem SqI.at {kd:Bool}{h h':Heap}{a t:Addr}{i:Nat}(x:SqI kd h a t i) (e:∀o,h.get? a=some o->h'.get? a=some o):SqI kd h' a t i:=by
 cases kd with
 | true=>exact Heap.IsListIter.at x e
 | false=>exact Heap.IsTupleIter.at x e
theorem SqI.rec' {kd:Bool}{h:Heap}{a t:Addr}{i:Nat}(x:SqI kd h a t i):∃o,h.get? a=some o/\∀v,o.data≠.cell v:=by
 cases kd with
 | true=>obtain⟨o,e,c,d⟩:=x;exact⟨o,e,λv r=>by rw [d] at r;cases r⟩
 | false=>obtain⟨o,e,c,d⟩:=x;exact⟨o,e,λv r=>by rw [d] at r;cases r⟩
theorem SqH.but {kd:Bool}{h h':Heap}{p t:Addr}{its:Array Value}(ht:SqH kd h t its) (hs:Heap.SameBut p h h') (ne:t≠p):SqH kd h' t its:=by
 cases kd with
 | true=>exact Heap.IsList.extBut ht hs.extBut ne
 | false=>exact Heap.IsTuple.extBut ht hs.extBut ne
theorem qEY {kd:Bool}{p t:Addr}{k:Nat}{its:Array Value}{y:Value}{Q:Value->Shared->Prop}(hp:SqI kd s.heap p t k) (ht:SqH kd s.heap t its) (hy:its[k]?=some y)
  (q:∀h1,SqI kd h1 p t (k+1)->Heap.SameBut p s.heap h1->Q y { s with heap:=h1 }):wpAny (model prog w) A (Builtin.SmallTypes.nextOf (.ref p)) Q E s:=by
 cases kd with
 | true=>exact qLv hp ht hy q
 | false=>exact qLs hp ht hy q
theorem qJX {kd:Bool}{p t:Addr}{k:Nat}{its:Array Value}{Q:Value->Shared->Prop}(hh:A.handled=none) (hp:SqI kd s.heap p t k) (ht:SqH kd s.heap t its) (hy:its[k]?=none)
  (q:∀h1 e,Heap.ExtBut p s.heap h1->(∃o,h1.get? e=some o/\o.cls=.type "StopIteration")->E (.ref e) { s with heap:=h1 }):wpAny (model prog w) A (Builtin.SmallTypes.nextOf (.ref p)) Q E s:=by
 cases kd with
 | true=>exact qNw hh hp ht hy q
 | false=>exact qNt hh hp ht hy q
structure Zp (z a b i j:Addr):Prop where
 az:a≠z
 bz:b≠z
 iz:i≠z
 jz:j≠z
 ab:a≠b
 ai:a≠i
 aj:a≠j
 bi:b≠i
 bj:b≠j
 ij:i≠j
structure Zs (kd ke:Bool) (h:Heap) (z a b i j t u:Addr) (k:Nat):Prop where
 hz:IsZip h z a b .none
 ha:IsPair h a (.ref i) (.ref j)
 hb:∃x y,IsPair h b x y
 hi:SqI kd h i t k
 hj:SqI ke h j u k
theorem qKk {kd ke:Bool}{z a b i j t u:Addr}{k:Nat}{xs ys:Array Value}{x y:Value}{Q:Option Value->Shared->Prop}(D:Zp z a b i j) (S:Zs kd ke s.heap z a b i j t u k) (ht:SqH kd s.heap t xs) (hu:SqH ke s.heap u ys)
  (nt:t∉[z,a,b,i,j]) (nu:u∉[z,a,b,i,j]) (hx:xs[k]?=some x) (hy:ys[k]?=some y)
  (q:∀h',IsZip h' z a b (rawInt s.heap.objs.size)->(∃x y,IsPair h' b x y)->SqI kd h' i t (k+1)->SqI ke h' j u (k+1)->IsPair h' s.heap.objs.size x y->h'.objs.size=s.heap.objs.size+1 ->
   (∀c o,c∉[z,b,i,j]->s.heap.get? c=some o->h'.get? c=some o)->Q (some (.ref s.heap.objs.size)) { s with heap:=h' }):wpAny (model prog w) A (pyNext (.ref z)) Q E s:=by
 obtain⟨hz,ha,⟨x0,y0,hb⟩,hi,hj⟩:=S
 simp only [List.mem_cons,List.not_mem_nil,or_false,not_or] at nt nu
 obtain⟨tz,ta,tb,ti,tj⟩:=nt
 obtain⟨uz,ua,ub,ui,uj⟩:=nu
 have hT:s.TypeIs (.ref z) "zip":=⟨_,hz,rfl⟩
 unfold pyNext
 refine wpAny_bind (wpAny_attempt (wpAny_callSpecial?_slot (name:=Str.ofString "__next__") hT F.slot_zip_next (wpAny_call_entry F.slot_zip_next hT F.entry_zip_next ?_ (F.args_zip_next_1 _))))
 show wpAny _ _ (field (.ref z) 2 >>= _) _ _ _
 refine wpAny_bind (wpAny_field hz rfl (x:=.bool false) rfl ?_);show wpAny _ _ (field (.ref z) 3 >>= _) _ _ _
 refine wpAny_bind (wpAny_field hz rfl (x:=.ref a) rfl ?_);refine wpAny_bind (wpAny_seqItems ha rfl ?_)
 show wpAny _ _ (Builtin.SmallTypes.ownedTupleIsFree (.ref z) >>= _) _ _ _
 refine wpAny_bind ?_;unfold Builtin.SmallTypes.ownedTupleIsFree
 refine wpAny_bind (wpAny_field hz rfl (x:=.none) rfl (wpAny_pure ?_));simp only [if_true]
 refine wpAny_bind (wpAny_rule ?_);refine wpAny_bind (wpAny_field hz rfl (x:=.ref b) rfl ?_)
 refine wpAny_bind (wpAny_setField_rec hz (by simp) λh1 z1 s1=>?_)
 replace z1:IsZip h1 z a b .ellipsis:=z1
 refine wpAny_bind ?_
 simp only [List.zipIdx_cons,List.zipIdx_nil,List.forIn_nil,List.forIn_cons]
 refine wpAny_bind (wpAny_bind (wpAny_onRaise ?_));show wpAny _ _ (Builtin.SmallTypes.nextOf (.ref i) >>= _) _ _ _
 refine wpAny_bind (qEY (hi.extBut s1.extBut D.iz) (ht.but s1 tz) hx λh2 i2 s2=>wpAny_pure ?_)
 have b2:IsPair h2 b x0 y0:=s2.extBut _ _ D.bi (s1.extBut _ _ D.bz hb)
 refine wpAny_bind (wpAny_seqItems b2 rfl ?_)
 refine wpAny_bind (wpAny_updateSeq_pair b2 λh3 b3 s3=>?_)
 replace b3:IsPair h3 b x y0:=b3
 refine wpAny_bind (wpAny_letGo (wpAny_pure ?_));refine wpAny_bind (wpAny_bind (wpAny_onRaise ?_))
 show wpAny _ _ (Builtin.SmallTypes.nextOf (.ref j) >>= _) _ _ _
 refine wpAny_bind (qEY (((hj.extBut s1.extBut D.jz).extBut s2.extBut D.ij.symm).extBut s3.extBut D.bj.symm) (((hu.but s1 uz).but s2 ui).but s3 ub) hy λh4 j4 s4=>wpAny_pure ?_)
 have b4:IsPair h4 b x y0:=s4.extBut _ _ D.bj b3
 refine wpAny_bind (wpAny_seqItems b4 rfl ?_)
 refine wpAny_bind (wpAny_updateSeq_pair b4 λh5 b5 s5=>?_)
 replace b5:IsPair h5 b x y:=b5
 refine wpAny_bind (wpAny_letGo (wpAny_pure (wpAny_pure ?_)));refine wpAny_bind (wpAny_seqItems b5 rfl ?_)
 refine wpAny_bind (wpAny_newTuple ?_)
 have hsz:h5.objs.size=s.heap.objs.size:=by rw [s5.1,s4.1,s3.1,s2.1,s1.1]
 have z5:IsZip h5 z a b .ellipsis:=s5.extBut _ _ D.bz.symm (s4.extBut _ _ D.jz.symm (s3.extBut _ _ D.bz.symm (s2.extBut _ _ D.iz.symm z1)))
 have k5:∀c o,c∉[z,b,i,j]->s.heap.get? c=some o->h5.get? c=some o:=λc o hc e=>by
  simp only [List.mem_cons,List.not_mem_nil,or_false,not_or] at hc
  exact s5.extBut _ _ hc.2.1 (s4.extBut _ _ hc.2.2.2 (s3.extBut _ _ hc.2.1 (s2.extBut _ _ hc.2.2.1 (s1.extBut _ _ hc.1 e))))
 have i5:SqI kd h5 i t (k+1):=((i2.extBut s3.extBut D.bi.symm).extBut s4.extBut D.ij).extBut s5.extBut D.bi.symm
 have j5:SqI ke h5 j u (k+1):=j4.extBut s5.extBut D.bj.symm
 have lz:z<h5.objs.size:=Heap.lt_size z5
 show wpAny _ _ (Builtin.SmallTypes.ownedTupleHandOut (.ref z) (.ref h5.objs.size) >>= _) _ _ _
 refine wpAny_bind ?_;unfold Builtin.SmallTypes.ownedTupleHandOut
 have z6:IsZip (h5.push { cls:=.type "tuple",data:=.seq #[x,y] }) z a b .ellipsis:=Heap.get?_push_of_some _ z5
 refine wpAny_bind (wpAny_setField_rec z6 (by simp) λh7 z7 s7=>?_)
 replace z7:IsZip h7 z a b (rawInt h5.objs.size):=z7
 refine wpAny_setField_rec z7 (by simp) λh8 z8 s8=>?_
 replace z8:IsZip h8 z a b (rawInt h5.objs.size):=z8
 have up:∀c o,c≠z->h5.get? c=some o->h8.get? c=some o:=λc o c1 e=>s8.extBut _ _ c1 (s7.extBut _ _ c1 (Heap.get?_push_of_some _ e))
 have t8:IsPair h8 h5.objs.size x y:=s8.extBut _ _ (Nat.ne_of_gt lz) (s7.extBut _ _ (Nat.ne_of_gt lz) (Heap.get?_push_size _ rfl))
 have n8:h8.objs.size=h5.objs.size+1:=by rw [s8.1,s7.1,Heap.size_push]
 rw [hsz] at z8 t8 n8
 refine wpAny_pure ⟨_,rfl,wpAny_pure ?_⟩
 show Q (some (.ref h5.objs.size)) _
 rw [hsz]
 refine q h8 z8 ⟨_,_,up _ _ D.bz b5⟩ (i5.at λo e=>up _ o D.iz e) (j5.at λo e=>up _ o D.jz e) t8 n8 λc o hc e=>up c o (λr=>hc (by simp [r])) (k5 c o hc e)
theorem qKj {kd ke:Bool}{z a b i j t u:Addr}{k:Nat}{xs ys:Array Value}{Q:Option Value->Shared->Prop}(hh:A.handled=none) (D:Zp z a b i j) (S:Zs kd ke s.heap z a b i j t u k) (ht:SqH kd s.heap t xs) (hu:SqH ke s.heap u ys)
  (nt:t∉[z,a,b,i,j]) (nu:u∉[z,a,b,i,j]) (hend:xs[k]?=none∨ys[k]?=none)
  (q:∀h',(∀c o,c∉[z,b,i,j]->s.heap.get? c=some o->h'.get? c=some o)->Q none { s with heap:=h' }):wpAny (model prog w) A (pyNext (.ref z)) Q E s:=by
 obtain⟨hz,ha,⟨x0,y0,hb⟩,hi,hj⟩:=S
 simp only [List.mem_cons,List.not_mem_nil,or_false,not_or] at nt nu
 obtain⟨tz,ta,tb,ti,tj⟩:=nt
 obtain⟨uz,ua,ub,ui,uj⟩:=nu
 have hT:s.TypeIs (.ref z) "zip":=⟨_,hz,rfl⟩
 unfold pyNext
 refine wpAny_bind (wpAny_attempt (wpAny_callSpecial?_slot (name:=Str.ofString "__next__") hT F.slot_zip_next (wpAny_call_entry F.slot_zip_next hT F.entry_zip_next ?_ (F.args_zip_next_1 _))))
 show wpAny _ _ (field (.ref z) 2 >>= _) _ _ _
 refine wpAny_bind (wpAny_field hz rfl (x:=.bool false) rfl ?_);show wpAny _ _ (field (.ref z) 3 >>= _) _ _ _
 refine wpAny_bind (wpAny_field hz rfl (x:=.ref a) rfl ?_);refine wpAny_bind (wpAny_seqItems ha rfl ?_)
 show wpAny _ _ (Builtin.SmallTypes.ownedTupleIsFree (.ref z) >>= _) _ _ _
 refine wpAny_bind ?_;unfold Builtin.SmallTypes.ownedTupleIsFree
 refine wpAny_bind (wpAny_field hz rfl (x:=.none) rfl (wpAny_pure ?_));simp only [if_true]
 refine wpAny_bind (wpAny_rule ?_);refine wpAny_bind (wpAny_field hz rfl (x:=.ref b) rfl ?_)
 refine wpAny_bind (wpAny_setField_rec hz (by simp) λh1 z1 s1=>?_)
 replace z1:IsZip h1 z a b .ellipsis:=z1
 refine wpAny_bind ?_
 simp only [List.zipIdx_cons,List.zipIdx_nil,List.forIn_nil,List.forIn_cons]
 refine wpAny_bind (wpAny_bind (wpAny_onRaise ?_));show wpAny _ _ (Builtin.SmallTypes.nextOf (.ref i) >>= _) _ _ _
 cases hx:xs[k]? with
 | none =>
  refine wpAny_bind (qJX hh (hi.extBut s1.extBut D.iz) (ht.but s1 tz) hx λh2 e s2 he=>?_)
  obtain⟨oe,hoe,hce⟩:=he
  have z2:IsZip h2 z a b .ellipsis:=s2 _ _ D.iz.symm z1
  have ez:e≠z:=λr=>by subst r;rw [z2] at hoe;cases hoe;simp at hce
  refine wpAny_setField_rec z2 (by simp) λh3 _ s3=>wpAny_bind (wpAny_isInstance (T:="StopIteration") (b:=true) ⟨oe,s3.extBut _ _ ez hoe,hce⟩ isSubtype_stop (wpAny_pure (q _ λc o hc r=>?_)))
  simp only [List.mem_cons,List.not_mem_nil,or_false,not_or] at hc
  exact s3.extBut _ _ hc.1 (s2 _ _ hc.2.2.1 (s1.extBut _ _ hc.1 r))
 | some x =>
  have hy:ys[k]?=none:=by rcases hend with r|r;rw [hx] at r;cases r;exact r
  refine wpAny_bind (qEY (hi.extBut s1.extBut D.iz) (ht.but s1 tz) hx λh2 i2 s2=>wpAny_pure ?_)
  have b2:IsPair h2 b x0 y0:=s2.extBut _ _ D.bi (s1.extBut _ _ D.bz hb)
  refine wpAny_bind (wpAny_seqItems b2 rfl ?_)
  refine wpAny_bind (wpAny_updateSeq_pair b2 λh3 b3 s3=>?_)
  refine wpAny_bind (wpAny_letGo (wpAny_pure ?_));refine wpAny_bind (wpAny_bind (wpAny_onRaise ?_))
  show wpAny _ _ (Builtin.SmallTypes.nextOf (.ref j) >>= _) _ _ _
  refine wpAny_bind (qJX hh (((hj.extBut s1.extBut D.jz).extBut s2.extBut D.ij.symm).extBut s3.extBut D.bj.symm) (((hu.but s1 uz).but s2 ui).but s3 ub) hy λh4 e s4 he=>?_)
  obtain⟨oe,hoe,hce⟩:=he
  have z4:IsZip h4 z a b .ellipsis:=s4 _ _ D.jz.symm (s3.extBut _ _ D.bz.symm (s2.extBut _ _ D.iz.symm z1))
  have ez:e≠z:=λr=>by subst r;rw [z4] at hoe;cases hoe;simp at hce
  refine wpAny_setField_rec z4 (by simp) λh5 _ s5=>wpAny_bind (wpAny_isInstance (T:="StopIteration") (b:=true) ⟨oe,s5.extBut _ _ ez hoe,hce⟩ isSubtype_stop (wpAny_pure (q _ λc o hc r=>?_)))
  simp only [List.mem_cons,List.not_mem_nil,or_false,not_or] at hc
  exact s5.extBut _ _ hc.1 (s4 _ _ hc.2.2.2 (s3.extBut _ _ hc.2.1 (s2.extBut _ _ hc.2.2.1 (s1.extBut _ _ hc.1 r))))
end
end Dw
namespace Dw
open PySem PySem.Spec PyProof.Rows L2
section
variable {X:Cx}{pins:List (Addr×Obj)}{σ:L2.St}{H:Hp}{s:Shared}{h':Heap}{fp:List Addr}
theorem qOO {t':Nat}(I:Inv X pins σ H s) (hf:∀b∈fp,qD6 X pins H b) (k:∀b o,b∉fp->s.heap.get? b=some o->h'.get? b=some o):Inv X pins σ H { s with heap:=h',toks:=t' }:=by
 have nit:∀b u,H b=some u->b∉fp:=λb u e z=>by have:=(hf b z).1;rw [this] at e;cases e
 refine I.step (g':=s.gens) (d':=s.drawn) (ch:=fp) (λb hb=>?_) (λb o _ _ hc e _=>k b o hc e) (λb o _ _ hc e _=>⟨o.slots,k b o hc e⟩) (λ_ _ _ _ n=>n) (λb o hc e=>⟨o,k b o hc e⟩) (λ_ _ e=>e) (λ_ _ _ e=>e) (λb ps e=>⟨#[],by rw [e];simp⟩) (λm hm=>?_) (λb u e=>?_) I.bare
 ·obtain⟨f0,f1,f2,f3,f4,f5⟩:=hf b hb
  exact⟨f3,f1,f4,f5⟩
 ·obtain⟨o,es,ep,ho,r⟩:=hm
  exact⟨o,es,ep,k _ o (λz=>(hf _ z).2.1 rfl) ho,r⟩
 ·refine (I.hok b u e).stay (λc v hc q=>k c v ?_ q) (λ_ q=>q) λ_ _ q=>q
  rcases hc with z|z
  ·rw [z];exact nit b u e
  ·exact nit c _ z
theorem qOP {t':Nat}{T:Addr}{o:HO}(I:Inv X pins σ H s) (hf:∀b∈fp,qD6 X pins H b) (k:∀b o,b∉fp->s.heap.get? b=some o->h'.get? b=some o) (hT:s.heap.objs.size<=T) (new:ObjOk X.prog X.w (upd H T o) h' T o):Inv X pins σ (upd H T o) { s with heap:=h',toks:=t' }:=by
 have hn:H T=none:=I.hok.fresh hT
 have neT:∀b ob,s.heap.get? b=some ob->b≠T:=λb ob e=>Nat.ne_of_lt (Nat.lt_of_lt_of_le (Heap.lt_size e) hT)
 have nit:∀b u,H b=some u->b∉fp:=λb u e z=>by have:=(hf b z).1;rw [this] at e;cases e
 refine I.step (g':=s.gens) (d':=s.drawn) (ch:=fp) (λb hb=>?_) (λb o _ _ hc e _=>k b o hc e) (λb o _ _ hc e _=>⟨o.slots,k b o hc e⟩) (λb ob _ e n=>by rw [qAq (neT b ob e)];exact n) (λb o hc e=>⟨o,k b o hc e⟩)
  (λb xs e=>by rw [qAq (qAA e hn)];exact e) (λb ob u e=>by rw [qAq (qAA e hn)];exact e) (λb ps e=>⟨#[],by rw [qAq (qAA e hn),e];simp⟩) (λm hm=>?_) (λb u e=>?_) I.bare
 ·obtain⟨f0,f1,f2,f3,f4,f5⟩:=hf b hb
  exact⟨f3,f1,f4,f5⟩
 ·obtain⟨o,es,ep,ho,r⟩:=hm
  exact⟨o,es,ep,k _ o (λz=>(hf _ z).2.1 rfl) ho,r⟩
 ·by_cases hb:b=T
  ·subst hb;rw [qAJ] at e;cases e;exact new
  ·rw [qAq hb] at e
   refine (I.hok b u e).stay (λc v hc q=>k c v ?_ q) (λc q=>by rw [qAq (qAA q hn)];exact q) λc xs q=>by rw [qAq (qAA q hn)];exact q
   rcases hc with z|z
   ·rw [z];exact nit b u e
   ·exact nit c _ z
theorem qNu (I:Inv X pins σ H s) (hf:∀b∈fp,qD6 X pins H b) {a:Addr}{xs:List V}(h:SqT X.K H a xs):a∉fp:=λz=>by
 obtain⟨f0,f1,f2,f3,f4,f5⟩:=hf a z
 rcases h with (h|⟨o,h⟩)|⟨o,its,n,hk,_⟩
 ·rw [f0] at h;cases h
 ·rw [f0] at h;cases h
 ·have hb:=I.ok.mod.kin a o hk
  rcases f3 with q|q
  ·exact I.ok.noex a o hb q
  ·exact absurd (Nat.lt_of_lt_of_le (Heap.lt_size (I.ok.bs a o hb).1) q) (Nat.lt_irrefl _)
end
theorem qLt {X:Cx}{pins:List (Addr×Obj)}{σ:L2.St}{H:Hp}{s:Shared}{fp:List Addr}(I:Inv X pins σ H s) (hf:∀b∈fp,qD6 X pins H b) {a:Addr}{xs:List V}(h:SqL X.K H a xs):a∉fp:=λz=>by
 obtain⟨f0,f1,f2,f3,f4,f5⟩:=hf a z
 rcases h with (h|⟨o,h⟩)|⟨o,its,n,hk,_⟩
 ·rw [f0] at h;cases h
 ·rw [f0] at h;cases h
 ·have hb:=I.ok.mod.kin a o hk
  rcases f3 with q|q
  ·exact I.ok.noex a o hb q
  ·exact absurd (Nat.lt_of_lt_of_le (Heap.lt_size (I.ok.bs a o hb).1) q) (Nat.lt_irrefl _)
noncomputable def SqK:Bool->PySem.W.Frag->Hp->Addr->List V->Prop
 | true,K,H,a,xs=>SqL K H a xs
 | false,K,H,a,xs=>SqT K H a xs
section
variable {X:Cx}{pins:List (Addr×Obj)}{σ:L2.St}{H:Hp}{s:Shared}{fp:List Addr}{a:Addr}{xs ys:List V}{kd:Bool}
theorem SqK.its (I:Inv X pins σ H s) (h:SqK kd X.K H a xs):∃its,Vals xs its/\SqH kd s.heap a its.toArray/\xs.length<=sizeLine:=by
 cases kd with
 | true=>obtain⟨its,r,p,z⟩:=I.list h;exact⟨its,r,p.isList,z⟩
 | false=>obtain⟨its,r,p,z⟩:=I.tuple h;exact⟨its,r,p,z⟩
theorem SqK.nfp (I:Inv X pins σ H s) (hf:∀b∈fp,qD6 X pins H b) (h:SqK kd X.K H a xs):a∉fp:=by
 cases kd with
 | true=>exact qLt I hf h
 | false=>exact qNu I hf h
theorem SqK.inj (I:Inv X pins σ H s) (h:SqK kd X.K H a xs) (h':SqK kd X.K H a ys):xs=ys:=by
 cases kd with
 | true=>exact I.list_inj h h'
 | false=>exact I.tuple_inj h h'
end
noncomputable def Itz (kd ke:Bool) (K:PySem.W.Frag) (a b:Addr):It:=
 ⟨λi H=>∃xs ys x y,SqK kd K H a xs/\SqK ke K H b ys/\xs[i]?=some x/\ys[i]?=some y,
  λi H v H'=>∃T x y,H T=none/\v=.ref T/\(∀xs,SqK kd K H a xs->xs[i]?=some x)/\(∀ys,SqK ke K H b ys->ys[i]?=some y)/\H'=upd H T (.tup [x,y]),
  λi H=>∃xs ys,SqK kd K H a xs/\SqK ke K H b ys/\(xs.length<=i∨ys.length<=i)⟩
theorem qIz {kd ke:Bool}{P:Program}{w:World}{K:PySem.W.Frag}{es:List Expr}{kk:Nat}{pos:Pos}{z p q i j:Addr}(a b:Addr) (D:Zp z p q i j):Turn P w K (.Tuple es kk pos) (Itz kd ke K a b) [z,p,q,i,j] z (λk h=>Zs kd ke h z p q i j a b k) where
 mem:=by simp
 obj:=λk h S c hc=>by
  obtain⟨hz,hp,⟨x,y,hq⟩,hi,hj⟩:=S
  simp only [List.mem_cons,List.not_mem_nil,or_false] at hc
  rcases hc with rfl|rfl|rfl|rfl|rfl
  ·exact⟨_,hz,λv r=>by have r':Data.fields _=Data.cell v:=r;cases r'⟩
  ·exact⟨_,hp,λv r=>by have r':Data.seq _ _=Data.cell v:=r;cases r'⟩
  ·exact⟨_,hq,λv r=>by have r':Data.seq _ _=Data.cell v:=r;cases r'⟩
  ·exact hi.rec'
  ·exact hj.rec'
 keep:=λk h h' S kp=>by
  obtain⟨hz,hp,⟨x,y,hq⟩,hi,hj⟩:=S
  exact⟨kp z (by simp) _ hz,kp p (by simp) _ hp,⟨x,y,kp q (by simp) _ hq⟩,hi.at λo e=>kp i (by simp) o e,hj.at λo e=>kp j (by simp) o e⟩
 item:=by
  intro X hP hw hK hc k pins s σ H E I hf S hg
  subst hP hw hK
  obtain⟨xs,ys,x,y,ha,hb,hx,hy⟩:=hg
  obtain⟨i1,r1,p1,z1⟩:=ha.its I
  obtain⟨i2,r2,p2,z2⟩:=hb.its I
  obtain⟨u,hu,ru⟩:=r1.get hx
  obtain⟨v,hv,rv⟩:=r2.get hy
  have na:=ha.nfp I hf
  have nb:=hb.nfp I hf
  refine qKk D S p1 p2 na nb (x:=u) (y:=v) (by simpa using hu) (by simpa using hv) λh' e1 e2 e3 e4 e5 e6 kp=>?_
  refine⟨_,rfl,wpAny_letOwnedTupleGo_zip e1 λh2 f1 f2=>?_⟩
  have ltz:z<s.heap.objs.size:=Heap.lt_size S.hz
  have nT:s.heap.objs.size≠z:=Nat.ne_of_gt ltz
  have kp2:∀c o,c∉[z,p,q,i,j]->s.heap.get? c=some o->h2.get? c=some o:=λc o hc e=>by
   simp only [List.mem_cons,List.not_mem_nil,or_false,not_or] at hc
   exact f2.extBut _ _ hc.1 (kp c o (by simp [hc]) e)
  have hpp:s.heap.get? p=some _:=S.ha
  have I2:=qOP (t':=s.toks) (T:=s.heap.objs.size) (o:=.tup [x,y]) I hf kp2 (Nat.le_refl _) ⟨by show 2<=sizeLine;decide,[u,v],.cons ru (.cons rv .nil),⟨_,f2.extBut _ _ nT e5,rfl,_,rfl⟩⟩
  have hn:H s.heap.objs.size=none:=I.hok.fresh (Nat.le_refl _)
  obtain⟨x1,y1,e2⟩:=e2
  refine⟨.ref s.heap.objs.size,upd H s.heap.objs.size (.tup [x,y]),I2,rfl,⟨_,x,y,hn,rfl,λzs hz=>by rw [SqK.inj I hz ha];exact hx,λzs hz=>by rw [SqK.inj I hz hb];exact hy,rfl⟩,
   ⟨f1,f2.extBut _ _ D.az (kp _ _ (by simp [D.az,D.ab,D.ai,D.aj]) S.ha),⟨x1,y1,f2.extBut _ _ D.bz e2⟩,e3.extBut f2.extBut D.iz,e4.extBut f2.extBut D.jz⟩,λc hc=>?_⟩
  have hlt:c<s.heap.objs.size:=by
   obtain⟨hz,hp,⟨x,y,hq⟩,hi,hj⟩:=S
   simp only [List.mem_cons,List.not_mem_nil,or_false] at hc
   rcases hc with rfl|rfl|rfl|rfl|rfl
   ·exact Heap.lt_size hz
   ·exact Heap.lt_size hp
   ·exact Heap.lt_size hq
   ·obtain⟨o,e,_⟩:=hi.rec';exact Heap.lt_size e
   ·obtain⟨o,e,_⟩:=hj.rec';exact Heap.lt_size e
  rw [qAq (Nat.ne_of_lt hlt)]
  exact (hf c hc).1
 done:=by
  intro X hP hw hK hc k pins s σ H E I hf S hg
  subst hP hw hK
  obtain⟨xs,ys,ha,hb,he⟩:=hg
  obtain⟨i1,r1,p1,z1⟩:=ha.its I
  obtain⟨i2,r2,p2,z2⟩:=hb.its I
  have l1:=r1.length
  have l2:=r2.length
  refine qKj (I.ok.hd hc) D S p1 p2 (ha.nfp I hf) (hb.nfp I hf) (by
   rcases he with r|r
   ·exact .inl (by simp;omega)
   ·exact .inr (by simp;omega)) λh' kp=>⟨rfl,qOO (t':=s.toks) I hf λc o hc e=>kp c o (by simp at hc ⊢;simp [hc]) e⟩
 self:=λ_ _ _ _ _ S h=>wpAny_pyIter_zip S.hz h
noncomputable def SqF:Bool->PySem.W.Frag->Hp->Fz->Addr->List V->Prop
 | true,K,H,F,a,xs=>LsR K H F a xs
 | false,K,H,_,a,xs=>SqT K H a xs
theorem SqF.keep {kd:Bool}{K:PySem.W.Frag}{H H':Hp}{F F':Fz}{a:Addr}{xs:List V}(h:SqF kd K H F a xs) (k:Keep H F H' F'):SqK kd K H' a xs:=by
 cases kd with
 | true=>exact LsR.sq (h.elim (λz=>.inl (k.lsts _ _ z.1 z.2)) .inr)
 | false=>exact h.elim (λz=>.inl (k.tups _ _ z)) .inr
theorem qFM {kd ke:Bool}{K:PySem.W.Frag}{H:Hp}{F:Fz}{a b:Addr}{ds es:List D}{vs ws:List V}(ha:SqF kd K H F a vs) (hb:SqF ke K H F b ws) (ra:RDs K H F ds vs) (rb:RDs K H F es ws):qKh K (Itz kd ke K a b) H F (qCk ds es):=by
 intro H' F' k dom
 have ha':SqK kd K H' a vs:=ha.keep k
 have hb':SqK ke K H' b ws:=hb.keep k
 have ra':=RDs.mono k ra
 have rb':=RDs.mono k rb
 have la:=RDs.length ra'
 have lb:=RDs.length rb'
 refine⟨λi d hd=>?_,⟨vs,ws,ha',hb',?_⟩⟩
 ·unfold qCk at hd
  rw [List.getElem?_zipWith] at hd
  cases h1:ds[i]? with
  | none=>simp [h1] at hd
  | some d1 =>
   cases h2:es[i]? with
   | none=>simp [h1,h2] at hd
   | some d2 =>
    simp [h1,h2] at hd
    subst hd
    obtain⟨v,e1,e2⟩:=RDs.get ra' h1
    obtain⟨w,e3,e4⟩:=RDs.get rb' h2
    refine⟨⟨vs,ws,v,w,ha',hb',e1,e3⟩,λx H3 y=>?_⟩
    obtain⟨T,x1,y1,hT,rfl,q1,q2,rfl⟩:=y
    have:=q1 vs ha'
    rw [e1] at this
    cases this
    have:=q2 ws hb'
    rw [e3] at this
    cases this
    obtain⟨g,rr⟩:=qCz (ds:=[d1,d2]) dom hT ⟨v,[w],rfl,e2,w,[],rfl,e4,rfl⟩
    exact⟨F',g,rr⟩
 ·unfold qCk
  rw [List.length_zipWith]
  omega
section
variable {prog:Program}{w:World}{A:Around}{E:Value->Shared->Prop}{s:Shared}
noncomputable def itN:Bool->String
 | true=>"list_iterator"
 | false=>"tuple_iterator"
noncomputable abbrev zq1 (kd:Bool) (h:Heap) (a:Addr):Heap:=h.push { cls:=.type (itN kd),data:=.fields #[.ref a,.int 0 0] }
noncomputable abbrev zq2 (kd ke:Bool) (h:Heap) (a b:Addr):Heap:=(zq1 kd h a).push { cls:=.type (itN ke),data:=.fields #[.ref b,.int 0 0] }
noncomputable abbrev zq3 (kd ke:Bool) (h:Heap) (a b:Addr):Heap:=(zq2 kd ke h a b).push { cls:=.type "tuple",data:=.seq #[.ref h.objs.size,.ref (zq1 kd h a).objs.size] }
noncomputable abbrev zq4 (kd ke:Bool) (h:Heap) (a b:Addr):Heap:=(zq3 kd ke h a b).push { cls:=.type "tuple",data:=.seq #[.none,.none] }
noncomputable abbrev zq5 (kd ke:Bool) (h:Heap) (a b:Addr):Heap:=(zq4 kd ke h a b).push { cls:=.type "zip",data:=.fields #[.none,.bool false,.bool false,.ref (zq2 kd ke h a b).objs.size,.ref (zq3 kd ke h a b).objs.size] }
theorem qIu (kd ke:Bool) (a b:Addr) (xs ys:Array Value):Meets (Builtin.«zip.__new__» ⟨[.type "zip",.ref a,.ref b],[]⟩) (λ_ R s=>SqH kd s.heap a xs/\SqH ke s.heap b ys/\R (.ok (.ret (.ref (zq4 kd ke s.heap a b).objs.size))) { s with heap:=zq5 kd ke s.heap a b }):=
 .of_wp λprog w A R s h=>by
  obtain⟨hp,g,d,tk,os⟩:=s;obtain⟨h1,h2,h⟩:=h;have hsub:=sub_zip
  cases kd with
  | false =>
   cases ke with
   | false =>
    have H1:Heap.IsTuple (Shared.heap ⟨hp,g,d,tk,os⟩) a xs:=h1
    have H2:Heap.IsTuple (Shared.heap ⟨hp.push { cls:=.type "tuple_iterator",data:=.fields #[.ref a,.int 0 0] },g,d,tk,os⟩) b ys:=Heap.IsTuple.push h2 _
    wp_walk using wpAny_pyIter_tuple H1,wpAny_pyIter_tuple H2
    exact⟨_,rfl,h⟩
   | true =>
    have H1:Heap.IsTuple (Shared.heap ⟨hp,g,d,tk,os⟩) a xs:=h1
    have H2:Heap.IsList (Shared.heap ⟨hp.push { cls:=.type "tuple_iterator",data:=.fields #[.ref a,.int 0 0] },g,d,tk,os⟩) b ys:=Heap.IsList.push h2 _
    wp_walk using wpAny_pyIter_tuple H1,wpAny_pyIter_list H2
    exact⟨_,rfl,h⟩
  | true =>
   cases ke with
   | false =>
    have H1:Heap.IsList (Shared.heap ⟨hp,g,d,tk,os⟩) a xs:=h1
    have H2:Heap.IsTuple (Shared.heap ⟨hp.push { cls:=.type "list_iterator",data:=.fields #[.ref a,.int 0 0] },g,d,tk,os⟩) b ys:=Heap.IsTuple.push h2 _
    wp_walk using wpAny_pyIter_list H1,wpAny_pyIter_tuple H2
    exact⟨_,rfl,h⟩
   | true =>
    have H1:Heap.IsList (Shared.heap ⟨hp,g,d,tk,os⟩) a xs:=h1
    have H2:Heap.IsList (Shared.heap ⟨hp.push { cls:=.type "list_iterator",data:=.fields #[.ref a,.int 0 0] },g,d,tk,os⟩) b ys:=Heap.IsList.push h2 _
    wp_walk using wpAny_pyIter_list H1,wpAny_pyIter_list H2
    exact⟨_,rfl,h⟩
theorem qIv {kd ke:Bool}{a b:Addr}{xs ys:Array Value}{Q:Value->Shared->Prop}(ha:SqH kd s.heap a xs) (hb:SqH ke s.heap b ys)
  (h:∀h',Zs kd ke h' (s.heap.objs.size+4) (s.heap.objs.size+2) (s.heap.objs.size+3) s.heap.objs.size (s.heap.objs.size+1) a b 0->(∀c o,s.heap.get? c=some o->h'.get? c=some o)->Q (.ref (s.heap.objs.size+4)) { s with heap:=h' }):wpAny (model prog w) A (call (.type "zip") [.ref a,.ref b]) Q E s:=by
 refine callType_new F.called_zip (by decide) (F.typeCall_zip_2 _ _) (F.newCall_zip_2 _ _) (λobj=>F.args_object_init_3 obj _ _) F.entry_zip_new (qIu kd ke a b xs ys) ⟨ha,hb,?_⟩
 have z1:(zq1 kd s.heap a).objs.size=s.heap.objs.size+1:=Heap.size_push ..
 have z2:(zq2 kd ke s.heap a b).objs.size=s.heap.objs.size+2:=by rw [Heap.size_push,z1]
 have z3:(zq3 kd ke s.heap a b).objs.size=s.heap.objs.size+3:=by rw [Heap.size_push,z2]
 have z4:(zq4 kd ke s.heap a b).objs.size=s.heap.objs.size+4:=by rw [Heap.size_push,z3]
 have g5:(zq5 kd ke s.heap a b).get? (zq4 kd ke s.heap a b).objs.size=some _:=Heap.get?_push_size _ rfl
 have g4:(zq5 kd ke s.heap a b).get? (zq3 kd ke s.heap a b).objs.size=some _:=Heap.get?_push_of_some _ (Heap.get?_push_size _ rfl)
 have g3:(zq5 kd ke s.heap a b).get? (zq2 kd ke s.heap a b).objs.size=some _:=Heap.get?_push_of_some _ (Heap.get?_push_of_some _ (Heap.get?_push_size _ rfl))
 have g2:(zq5 kd ke s.heap a b).get? (zq1 kd s.heap a).objs.size=some _:=Heap.get?_push_of_some _ (Heap.get?_push_of_some _ (Heap.get?_push_of_some _ (Heap.get?_push_size _ rfl)))
 have g1:(zq5 kd ke s.heap a b).get? s.heap.objs.size=some _:=Heap.get?_push_of_some _ (Heap.get?_push_of_some _ (Heap.get?_push_of_some _ (Heap.get?_push_of_some _ (Heap.get?_push_size _ rfl))))
 show _/\_
 rw [z2,z3,z4] at g5;rw [z1,z2] at g3;rw [z3] at g4;rw [z1] at g2;rw [z4]
 exact⟨⟨_,g5,rfl⟩,h _ ⟨g5,g3,⟨_,_,g4⟩,(by cases kd with|true=>exact⟨_,g1,rfl,rfl⟩|false=>exact⟨_,g1,rfl,rfl⟩),(by cases ke with|true=>exact⟨_,g2,rfl,rfl⟩|false=>exact⟨_,g2,rfl,rfl⟩)⟩ λc o x=>Heap.get?_push_of_some _ (Heap.get?_push_of_some _ (Heap.get?_push_of_some _ (Heap.get?_push_of_some _ (Heap.get?_push_of_some _ x))))⟩
end
theorem qIt (n:Nat):Zp (n+4) (n+2) (n+3) n (n+1):=by
 constructor<;>(intro h;have h':(_:Nat)=_:=h;omega)
section
variable {X:Cx}
theorem qJr:bootBuiltins (Str.ofString "zip")=some (.type "zip"):=by decide +kernel
noncomputable def qQU (K:PySem.W.Frag) (ta:TA):TI:=fun σ H R=>ta σ H λvs H1=>∃(kd ke:Bool) (a b:Addr) (xs ys:List V),vs=[.ref a,.ref b]/\SqK kd K H1 a xs/\SqK ke K H1 b ys/\(xs.length<=sizeLine->R (Itz kd ke K a b) H1)
theorem qM7 {es:List Expr}{kk:Nat}{tp:Pos}{x:Str}{a b:Expr}{ta:TA}{p pos:Pos}(hx:x=Str.ofString "zip") (hg:Gl X x) (hm:X.mg x=none) (ha:PA X [a,b] ta) (hs:starEach [a,b] X.env=[(false,eval a X.env),(false,eval b X.env)]) (hs2:starEach [b] X.env=[(false,eval b X.env)]) :
  PI X (.Tuple es kk tp) (.Call (.Name x p) [a,b] [] pos) (qQU X.K ta):=by
 subst hx
 intro pins s σ H R I h
 refine Call_ (qDc I hg hm qJr (PyProof.Rows.callWith_type1 (thn (ha pos pins s σ H _ I h) λus s1 ⟨vs,H1,I1,r1,q1⟩=>?_) (by rw [hs,hs2]) (by rw [hs2];rfl)))
 obtain⟨kd,ke,a1,b1,xs,ys,rfl,hx,hy,q⟩:=q1
 cases r1 with
 | cons ra rr =>
  cases rr with
  | cons rb rr =>
   cases rr
   cases ra
   cases rb
   obtain⟨t1,v1,p1,zl⟩:=hx.its I1
   obtain⟨t2,v2,p2,_⟩:=hy.its I1
   refine qIv p1 p2 λh' S kp=>wpAny_pyIter_zip S.hz ?_
   have I2:Inv X pins σ H1 { s1 with heap:=h' }:=I1.kept (t':=s1.toks) kp
   refine⟨_,[s1.heap.objs.size+4,s1.heap.objs.size+2,s1.heap.objs.size+3,s1.heap.objs.size,s1.heap.objs.size+1],_,_,H1,rfl,I2,qIz a1 b1 (qIt _),S,λc hc=>?_,q zl⟩
   have hge:s1.heap.objs.size<=c:=by
    simp only [List.mem_cons,List.not_mem_nil,or_false] at hc
    rcases hc with rfl|rfl|rfl|rfl|rfl<;>omega
   exact I1.fpOk hge (I1.hok.fresh hge)
end
end Dw
namespace Dw
open PySem PySem.Spec PyProof.Rows L2
structure Es (kd:Bool) (h:Heap) (e i t:Addr) (k:Nat):Prop where
 he:∃old,IsEnum h e i ((k:Nat):Int) old
 hi:SqI kd h i t k
end Dw
namespace Dw
open PySem PySem.Spec PyProof.Rows L2
noncomputable def qEw (env:Env):List (Str×NameKind)->List (Str×Addr)->List (Str×Addr)
 | [],acc=>acc
 | (n,k)::r,acc=>qEw env r (if k == .free then (n,(env.cells.lookup n).getD 0)::acc else acc)
theorem qHV (env:Env):∀(l:List (Str×NameKind)) (acc:List (Str×Addr)),(∀y∈l,y.2=.free->∃c,env.cells.lookup y.1=some c) ->
  (do
   let mut cs:=acc
   for (name,kind) in l do
    if kind == .free then cs:=(name,<-cellOf env name)::cs
   return cs:Sem (List (Str×Addr)))=pure (qEw env l acc)
 | [],acc,_=>rfl
 | (n,k)::r,acc,h=>by
  have ih:=λa=>qHV env r a λy hy=>h y (List.mem_cons_of_mem _ hy)
  simp only [List.forIn_cons]
  cases hk:k == NameKind.free with
  | true =>
   obtain⟨c,hc⟩:=h (n,k) List.mem_cons_self (by simpa using hk)
   have e:cellOf env n=pure c:=by unfold cellOf;rw [hc]
   simp only [if_true]
   rw [e]
   have:=ih ((n,c)::acc)
   simp only [qEw,hk,if_true,hc,Option.getD_some]
   exact this
  | false =>
   simp only [qEw,hk,Bool.false_eq_true,if_false]
   exact ih acc
theorem qHU (sc:Scope) (env:Env) (h:∀y∈sc.names,y.2=.free->∃c,env.cells.lookup y.1=some c):closureFor sc env=pure (qEw env sc.names []):=qHV env sc.names [] h
theorem qEv (env:Env):∀(l:List (Str×NameKind)) (acc:List (Str×Addr)) (x:Str) (c:Addr),(qEw env l acc).lookup x=some c->acc.lookup x=some c∨((x,NameKind.free)∈l/\c=(env.cells.lookup x).getD 0)
 | [],acc,x,c,h=>.inl h
 | (n,k)::r,acc,x,c,h=>by
  rcases qEv env r _ x c h with q|q
  ·split at q
   ·rename_i hk
    rw [List.lookup_cons] at q
    split at q
    ·rename_i hx
     have e1:x=n:=by simpa using hx
     have e2:k=.free:=by simpa using hk
     subst e1 e2
     cases q
     exact .inr ⟨List.mem_cons_self,rfl⟩
    ·exact .inl q
   ·exact .inl q
  ·exact .inr ⟨List.mem_cons_of_mem _ q.1,q.2⟩
theorem qDs (env:Env):∀(l:List (Str×NameKind)) (acc:List (Str×Addr)) (x:Str),((x,NameKind.free)∈l∨(acc.lookup x).isSome=true)->∃c,(qEw env l acc).lookup x=some c
 | [],acc,x,h=>by
  rcases h with h|h
  ·cases h
  ·exact Option.isSome_iff_exists.mp h
 | (n,k)::r,acc,x,h=>by
  refine qDs env r _ x ?_
  rcases h with h|h
  ·rcases List.mem_cons.mp h with e|e
   ·cases e
    exact .inr (by simp)
   ·exact .inl e
  ·refine .inr ?_
   split
   ·rw [List.lookup_cons]
    split
    ·rfl
    ·exact h
   ·exact h
theorem qEu {env:Env}{sc:Scope}{x:Str}{c:Addr}(h:∀y∈sc.names,y.2=.free->∃c,env.cells.lookup y.1=some c) (e:(qEw env sc.names []).lookup x=some c):env.cells.lookup x=some c:=by
 rcases qEv env _ _ x c e with q|⟨q1,q2⟩
 ·cases q
 ·obtain⟨c',hc⟩:=h _ q1 rfl
  have hc':env.cells.lookup x=some c':=hc
  rw [q2,hc']
  rfl
theorem qCO {env:Env}:∀{names:List (Str×NameKind)}{x:Str},
  (names.map λ(n,k)=>if (k == NameKind.free&&env.scope.kind == .function&&env.kindOf n == some .cell) then (n,NameKind.cell) else (n,k)).lookup x =
   (names.lookup x).map λk=>if (k == NameKind.free&&env.scope.kind == .function&&env.kindOf x == some .cell) then NameKind.cell else k
 | [],x=>rfl
 | (n,k)::r,x=>by
  have ih:=@qCO env r x
  show List.lookup x ((if (k == NameKind.free&&env.scope.kind == .function&&env.kindOf n == some .cell)=true then (n,NameKind.cell) else (n,k))::_)=_
  cases hx:x == n with
  | true =>
   have e:x=n:=by simpa using hx
   subst e
   cases hc:(k == NameKind.free&&env.scope.kind == .function&&env.kindOf x == some .cell)<;>simp only [List.lookup_cons,hc,beq_self_eq_true,if_true,Bool.false_eq_true,if_false,Option.map_some]
  | false =>
   cases hc:(k == NameKind.free&&env.scope.kind == .function&&env.kindOf n == some .cell)<;>(simp only [List.lookup_cons,hx,if_true,Bool.false_eq_true,if_false];exact ih)
theorem qDO (sc:Scope) (env:Env) (x:Str):(relabel sc env).names.lookup x=(sc.names.lookup x).map λk=>if (k == NameKind.free&&env.scope.kind == .function&&env.kindOf x == some .cell) then NameKind.cell else k:=qCO
theorem qDP {sc:Scope}{env:Env}{x:Str}(h:sc.names.lookup x=some .local):(relabel sc env).names.lookup x=some .local:=by
 rw [qDO,h];rfl
theorem qK0 {sc:Scope}{env:Env}{x:Str}(h:sc.names.lookup x=some .globalImplicit):(relabel sc env).names.lookup x=some .globalImplicit:=by
 rw [qDO,h];rfl
theorem qEU {sc:Scope}{env:Env}{x:Str}(h:sc.names.lookup x=some .free):(relabel sc env).names.lookup x=some .cell∨(relabel sc env).names.lookup x=some .free:=by
 rw [qDO,h]
 simp only [Option.map_some]
 split
 ·exact .inl rfl
 ·exact .inr rfl
theorem qK1 {sc:Scope}{env:Env}{x:Str}(hc:∀y∈sc.names,y.2≠.cell) (h:(relabel sc env).names.lookup x=some .cell∨(relabel sc env).names.lookup x=some .free):sc.names.lookup x=some .free:=by
 rw [qDO] at h
 cases hx:sc.names.lookup x with
 | none=>rw [hx] at h;rcases h with h|h<;>cases h
 | some k =>
  rw [hx] at h
  simp only [Option.map_some,Option.some.injEq] at h
  cases k with
  | free=>rfl
  | cell=>exact absurd rfl (hc _ (PySem.mem_of_lookup hx))
  | _=>rcases h with h|h<;>(split at h<;>first|(cases h;done)|(rename_i q;exfalso;revert q;simp;done))
noncomputable def qCE (X:Cx) (sc:Scope) (N:List Str) (C:Addr) (s:Shared) (H:Hp) (fp:List Addr):Cx where
 prog:=X.prog
 w:=X.w
 K:=X.K
 mg:=X.mg
 base:=X.base
 A:=X.A
 N:=N
 s₀:=s
 H₀:=H
 env:=compEnvC sc (qEw X.env sc.names []) C X.env
 outer:=X.stack
 stack:=X.stack
 ex:=fp
 calm:=X.calm
 fn:=λ_=>false
 pn:=[]
 xe:=λ_ _=>False
section
variable {call:Nat->List D->Option R}{G:Gx}{k:Nat}{X:Cx}{sc sc':Scope}{N:List Str}
structure ScOk (sc:Scope):Prop where
 kind:sc.kind=.function
 cell:∀y∈sc.names,y.2≠.cell
 nd:(sc.names.map (·.1)).Nodup
 pl:∀x∈qAO sc++qAw sc,qAQ x=true
theorem qCR (h:qDN sc=true):ScOk sc:=by
 unfold qDN at h
 simp only [Bool.and_eq_true,beq_iff_eq,List.all_eq_true,bne_iff_ne,ne_eq,decide_eq_true_eq] at h
 obtain⟨⟨⟨h1,h2⟩,h3⟩,h4⟩:=h
 exact⟨h1,h2,h3,h4⟩
theorem qCa {l:List (Str×NameKind)}(nd:(l.map (·.1)).Nodup) {x:Str}{k:NameKind}(h:(x,k)∈l):l.lookup x=some k:=by
 induction l with
 | nil=>cases h
 | cons p r ih =>
  obtain⟨n,k'⟩:=p
  simp only [List.map_cons,List.nodup_cons] at nd
  rcases List.mem_cons.mp h with e|e
  ·cases e
   simp [List.lookup_cons]
  ·have hne:(x == n)=false:=by
    rw [beq_eq_false_iff_ne]
    intro z
    subst z
    exact nd.1 (List.mem_map.mpr ⟨_,e,rfl⟩)
   rw [List.lookup_cons,hne]
   exact ih nd.2 e
theorem own_mem {x:Str}:x∈qAO sc↔(x,NameKind.local)∈sc.names/\x≠Str.ofString ".0":=by
 unfold qAO
 simp only [List.mem_map,List.mem_filter,Bool.and_eq_true,beq_iff_eq,bne_iff_ne,ne_eq]
 constructor
 ·rintro⟨⟨n,k⟩,⟨h1,h2,h3⟩,rfl⟩
  have h2:k=.local:=h2
  subst h2
  exact⟨h1,h3⟩
 ·rintro⟨h1,h2⟩
  exact⟨_,⟨h1,rfl,h2⟩,rfl⟩
theorem free_mem {x:Str}:x∈qAw sc↔(x,NameKind.free)∈sc.names:=by
 unfold qAw
 simp only [List.mem_map,List.mem_filter,beq_iff_eq]
 constructor
 ·rintro⟨⟨n,k⟩,⟨h1,h2⟩,rfl⟩
  have h2:k=.free:=h2
  subst h2
  exact h1
 ·intro h
  exact⟨_,⟨h,rfl⟩,rfl⟩
theorem qGG {p:(Str×NameKind)->Bool}(nd:(sc.names.map (·.1)).Nodup):((sc.names.filter p).map (·.1)).Nodup:=nd.sublist ((List.filter_sublist).map _)
theorem qI5 (S:ScOk sc):(qAO sc++qAw sc).Nodup:=by
 rw [List.nodup_append]
 refine⟨qGG S.nd,qGG S.nd,λx hx y hy e=>?_⟩
 subst e
 have h1:=qCa S.nd (own_mem.mp hx).1
 have h2:=qCa S.nd (free_mem.mp hy)
 rw [h1] at h2
 cases h2
end
end Dw
namespace Dw
open PySem PySem.Spec PyProof.Rows L2
section
variable {call:Nat->List D->Option R}{G:Gx}{k:Nat}{X:Cx}{sc sc':Scope}{N:List Str}
noncomputable def qJB (X:Cx) (sc':Scope):Prop:=∀x,(x,NameKind.free)∈sc'.names->X.env.kindOf x=some .cell∨X.env.kindOf x=some .free
theorem qBF (ok:X.Ok) (h:qJB X sc'):∀y∈sc'.names,y.2=.free->∃c,X.env.cells.lookup y.1=some c:=λy hy e=>by
 obtain⟨x,kk⟩:=y
 have e:kk=.free:=e
 subst e
 exact ok.has x (h x hy)
theorem qPN {pins:List (Addr×Obj)}{σ:L2.St}{H:Hp}{s:Shared}{fp:List Addr}{N':List Str}(I:Inv X pins σ H s) (S:ScOk sc') (T:qJB X sc') (hf:∀b∈fp,qD6 X pins H b) (hl:∀b∈fp,b<s.heap.objs.size) :
  (qCE X sc' N' s.heap.objs.size s H fp).Ok:=by
 have hc:=qBF I.ok T
 refine⟨I.ok.mod,S.kind,I.ok.glob,I.ok.blt,Nat.le_refl _,λx y c h1 h2=>?_,λx h=>?_,λx c h=>?_,I.ok.hd,I.ok.frames,.inl rfl,λb hb=>⟨Nat.ne_of_lt (hl b hb),λx c e=>?_⟩,I.bs,Nat.le_trans I.ok.bsz I.sz,λb o e hb=>?_,λb hb hs=>?_,I.stack,I.stkFree⟩
 ·exact I.ok.inj x y c (qEu hc h1) (qEu hc h2)
 ·have hx:=qK1 S.cell h
  exact qDs X.env _ _ x (.inl (PySem.mem_of_lookup hx))
 ·exact absurd h (by intro z;cases z)
 ·exact (hf b hb).2.2.2.2.1 x c (qEu hc e)
 ·rcases (hf b hb).2.2.2.1 with q|q
  ·exact I.ok.noex b o e q
  ·exact absurd (Nat.lt_of_lt_of_le (Heap.lt_size (I.ok.bs b o e).1) q) (Nat.lt_irrefl _)
 ·rcases List.mem_cons.mp (I.stkSub b hs) with e|e
  ·exact (hf b hb).2.1 e
  ·exact (hf b hb).2.2.1 e
theorem qFU {pins:List (Addr×Obj)}{σ:L2.St}{H:Hp}{s:Shared}{fp:List Addr}{N':List Str}{h':Heap}{t':Nat}{m:Str->Option Value}(I:Inv X pins σ H s) (S:ScOk sc') (T:qJB X sc') (hf:∀b∈fp,qD6 X pins H b) (hl:∀b∈fp,b<s.heap.objs.size)
  (kp:∀b o,s.heap.get? b=some o->h'.get? b=some o) (hn:h'.Ns s.heap.objs.size m) (τ:L2.St) (hlen:τ.length=N'.length)
  (hv:∀(i:Nat) (x:Str) (v:V),N'[i]?=some x->τ[i]?=some (some v)->(x,NameKind.free)∈sc'.names/\∃j:Nat,X.N[j]?=some x/\σ[j]?=some (some v)) (hvis:∀x,(x,NameKind.free)∈sc'.names->Vis X.env.scope x) :
  Inv (qCE X sc' N' s.heap.objs.size s H fp) (X.pn++pins) τ H { s with heap:=h',toks:=t' }:=by
 have hc:=qBF I.ok T
 refine⟨qPN I S T hf hl,rfl,I.bare,Un.kept kp,⟨m,hn,λi x v e1 e2 e3=>?_⟩,λx c e=>?_,I.hok.fresh (Nat.le_refl _),λx c e=>I.freeC x c (qEu hc e),λp hp=>?_,I.hok.kept kp,hlen⟩
 ·obtain⟨hx,j,q1,q2⟩:=hv i x v e1 e2
  obtain⟨m0,hm0,hl0⟩:=I.loc
  obtain⟨u,r,l⟩:=hl0 j x v q1 q2 (hvis x hx)
  refine⟨u,r,.inr ⟨?_,?_⟩⟩
  ·exact qEU (qCa S.nd hx)
  ·obtain⟨c,ec⟩:=qDs X.env _ [] x (.inl hx)
   refine⟨c,ec,?_⟩
   have ec':=qEu hc ec
   rcases l with ⟨hk,_⟩|⟨hk,c',hc',hcell⟩
   ·rcases T x hx with z|z<;>(rw [hk] at z;cases z)
   ·rw [ec'] at hc'
    cases hc'
    obtain⟨o,ho,hd⟩:=hcell
    exact⟨o,kp c o ho,hd⟩
 ·obtain⟨v,o,ho,hd⟩:=I.cell x c (qEu hc e)
  exact⟨v,o,kp c o ho,hd⟩
 ·have hp':p∈X.pn++pins:=hp
  obtain⟨e,n,ne,nf,d⟩:=I.pin p hp'
  refine⟨kp _ _ e,n,Nat.ne_of_lt (Heap.lt_size e),λhs=>?_,d⟩
  rcases List.mem_cons.mp (I.stkSub p.1 hs) with z|z
  ·exact ne z
  ·exact nf z
theorem qN8 (g:XG call G k X sc N) (S:ScOk sc') {C:Addr}{s:Shared}{H:Hp}{fp:List Addr}:XG call G k (qCE X sc' (qAO sc'++qAw sc') C s H fp) sc' (qAO sc'++qAw sc'):=by
 refine⟨rfl,qI5 S,λx h=>?_,λx h=>?_,λx h=>?_,λx h=>?_,g.calm,rfl,g.room,λf i h=>?_,g.blt,g.cons,λu hu=>?_,λu hu=>?_,g.two,λf i h=>⟨(g.hnd f i h).ex⟩⟩
 ·unfold qL4 at h
  simp only [Bool.or_eq_true,beq_iff_eq] at h
  rcases h with (h|h)|h
  ·exact .inl (qDP h)
  ·exact absurd rfl (S.cell _ (PySem.mem_of_lookup h))
  ·rcases qEU (env:=X.env) h with q|q
   ·exact .inr (.inl q)
   ·exact .inr (.inr q)
 ·simp only [Bool.or_eq_true,beq_iff_eq] at h
  rcases h with h|h
  ·exact⟨.inl (qDP h),.inr (qDP h)⟩
  ·exact absurd rfl (S.cell _ (PySem.mem_of_lookup h))
 ·unfold glB at h
  rw [beq_iff_eq] at h
  exact qK0 h
 ·unfold qMa at h
  simp only [Bool.or_eq_true,beq_iff_eq] at h
  rcases h with h|h
  ·exact absurd rfl (S.cell _ (PySem.mem_of_lookup h))
  ·exact qEU h
 ·obtain⟨a,fd,ps,h1,h2,h3,h4,h5⟩:=(g.defs f i h).ex
  exact⟨a,fd,ps,h1,h2,h3,h4,h5⟩
 ·obtain⟨a,fd,ps,gg,gV,h1,h2,h3,h4,h5,h6,h7⟩:=(g.ucal u hu).ex
  exact⟨a,fd,ps,gg,gV,h1,h2,h3,h4,h5,h6,h7⟩
 ·exact⟨(g.meth u hu).ex⟩
end
end Dw
namespace Dw
open PySem PySem.Spec PyProof.Rows L2
section
variable {call:Nat->List D->Option R}{G:Gx}{k:Nat}{X:Cx}{sc sc':Scope}{N:List Str}
variable (X) in
noncomputable def qFi (tg iter:Expr) (b:Bool) (src:En->Option (List D)):Prop:=∃wi:TI,PI X tg iter wi/\∀(Ge:Gp) (H:Hp) (F:Fz) (σ:En) (τ:L2.St) (its:List D) (Rr:It->Hp->Prop),src σ=some its->SR X.K Ge H F σ τ ->
 (∀J H' F',Gr H F H' F'->qKh X.K J H' F' its->(b=true->its.length<=lim)->Rr J H')->wi τ H Rr
noncomputable def qQV (K:PySem.W.Frag) (tl:TE):TI:=fun σ H R=>tl σ H λx H1=>∃a xs,x=.ref a/\((SqL K H1 a xs/\(xs.length<=sizeLine->R (Itl K a) H1))∨(SqT K H1 a xs/\(xs.length<=sizeLine->R (Itt K a) H1)))
theorem qM8 {tg l:Expr}{tl:TE}(hl:PE X l tl):PI X tg l (qQV X.K tl):=by
 intro pins s σ H R I h
 refine thn (hl pins s σ H _ I h) λv s1 ⟨x,H1,I1,r1,a,xs,e,q⟩=>?_
 subst e;cases r1
 have hf:∀b∈[s1.heap.objs.size],qD6 X pins H1 b:=λb hb=>by
  have e:b=s1.heap.objs.size:=by simpa using hb
  subst e;exact I1.fpOk (Nat.le_refl _) (I1.hok.fresh (Nat.le_refl _))
 rcases q with ⟨hq,q⟩|⟨hq,q⟩
 ·obtain⟨its,rv,p,hz⟩:=I1.list hq
  exact wpAny_pyIter_list p.isList ⟨s1.heap.objs.size,[s1.heap.objs.size],_,_,H1,rfl,I1.kept (t':=s1.toks) λb o e=>Heap.get?_push_of_some _ e,qGw a _,⟨_,Heap.get?_push_size _ rfl,rfl,rfl⟩,hf,q hz⟩
 ·obtain⟨its,rv,p,hz⟩:=I1.tuple hq
  exact wpAny_pyIter_tuple (show s1.heap.IsTuple a its.toArray from p) ⟨s1.heap.objs.size,[s1.heap.objs.size],_,_,H1,rfl,I1.kept (t':=s1.toks) λb o e=>Heap.get?_push_of_some _ e,qF4 a _,⟨_,Heap.get?_push_size _ rfl,rfl,rfl⟩,hf,q hz⟩
theorem qKK {tg l:Expr}{c:C}(h:SndE call X l c):qFi X tg l true (fun σ=>(evE call σ c).bind λx=>qCw x.2):=by
 obtain⟨t,p,q⟩:=h
 refine⟨_,qM8 p,λGe H F σ τ its Rr hs hr kk=>?_⟩
 obtain⟨r,e1,e2⟩:=qAb hs
 refine q Ge H F σ τ r _ e1 hr λv H1 F1 g rr=>?_
 obtain⟨F2,g2,rd⟩:=rr.fz g
 obtain⟨b,d⟩:=r
 cases d with
 | lst ds =>
  cases e2
  obtain⟨a,vs,rfl,hl,hrd⟩:=rd
  exact⟨a,vs,rfl,.inl ⟨hl.sq,λz=>kk _ H1 F2 g2 (qLG hl hrd) λ_=>by rw [<-RDs.length hrd];exact z⟩⟩
 | tup ds =>
  cases e2
  obtain⟨a,vs,rfl,hl,hrd⟩:=rd
  exact⟨a,vs,rfl,.inr ⟨hl,λz=>kk _ H1 F2 g2 (qNT hl hrd) λ_=>by rw [<-RDs.length hrd];exact z⟩⟩
 | _=>cases e2
theorem qKH {es:List Expr}{kk:Nat}{tp:Pos}{x:Str}{a b:Expr}{ca cb:C}{p pos:Pos}(hx:x=Str.ofString "zip") (hg:Gl X x) (hm:X.mg x=none) (hn:[a,b].all qBj=true) (ha:SndE call X a ca) (hb:SndE call X b cb) :
  qFi X (.Tuple es kk tp) (.Call (.Name x p) [a,b] [] pos) true (fun σ=>(evE call σ ca).bind λx=>(evE call σ cb).bind λy=>(qCw x.2).bind λxs=>(qF6 y.2).bind λys=>some (qCk xs ys)):=by
 simp only [List.all_cons,List.all_nil,Bool.and_true,Bool.and_eq_true] at hn
 have s2:starEach [b] X.env=[(false,eval b X.env)]:=qAy hn.2
 have s1:starEach [a,b] X.env=[(false,eval a X.env),(false,eval b X.env)]:=(qAy hn.1).trans (by rw [s2])
 obtain⟨ta,pa,qa⟩:=ha
 obtain⟨tb,pb,qb⟩:=hb
 refine⟨_,qM7 hx hg hm (qBG pa (qBG pb qDC s2) (qAy hn.1)) s1 s2,λGe H F σ τ its Rr hs hr kk=>?_⟩
 obtain⟨r,e1,e2⟩:=qAb hs
 obtain⟨r',e3,e4⟩:=qAb e2
 obtain⟨xs,e5,e6⟩:=qAb e4
 obtain⟨ys,e7,e8⟩:=qAb e6
 cases e8
 refine qa Ge H F σ τ r _ e1 hr λv H1 F1 g1 rr1=>?_
 obtain⟨F1',g1',rd1⟩:=rr1.fz g1
 refine qb Ge H1 F1' σ τ r' _ e3 (hr.grow g1') λw H2 F2 g2 rr2=>?_
 obtain⟨F2',g2',rd2⟩:=rr2.fz g2
 have rd1':=RD.mono g2'.keep rd1
 obtain⟨b1,d1⟩:=r
 obtain⟨b2,d2⟩:=r'
 cases d1 with
 | lst ds1 =>
  cases d2 with
  | tup ds2 =>
   cases e5
   cases e7
   obtain⟨p1,v1,rfl,h1,q1⟩:=rd1'
   obtain⟨p2,v2,rfl,h2,q2⟩:=rd2
   exact⟨true,false,p1,p2,v1,v2,rfl,LsR.sq h1,h2,λz=>kk _ H2 F2' (g1'.trans g2') (qFM (kd:=true) (ke:=false) h1 h2 q1 q2) λ_=>by
    have:=RDs.length q1
    unfold qCk
    rw [List.length_zipWith,<-this]
    exact Nat.le_trans (Nat.min_le_left _ _) z⟩
  | lst ds2 =>
   cases e5
   cases e7
   obtain⟨p1,v1,rfl,h1,q1⟩:=rd1'
   obtain⟨p2,v2,rfl,h2,q2⟩:=rd2
   exact⟨true,true,p1,p2,v1,v2,rfl,LsR.sq h1,LsR.sq h2,λz=>kk _ H2 F2' (g1'.trans g2') (qFM (kd:=true) (ke:=true) h1 h2 q1 q2) λ_=>by
    have:=RDs.length q1
    unfold qCk
    rw [List.length_zipWith,<-this]
    exact Nat.le_trans (Nat.min_le_left _ _) z⟩
  | _=>cases e7
 | tup ds1 =>
  cases d2 with
  | tup ds2 =>
   cases e5
   cases e7
   obtain⟨p1,v1,rfl,h1,q1⟩:=rd1'
   obtain⟨p2,v2,rfl,h2,q2⟩:=rd2
   exact⟨false,false,p1,p2,v1,v2,rfl,h1,h2,λz=>kk _ H2 F2' (g1'.trans g2') (qFM (kd:=false) (ke:=false) h1 h2 q1 q2) λ_=>by
    have:=RDs.length q1
    unfold qCk
    rw [List.length_zipWith,<-this]
    exact Nat.le_trans (Nat.min_le_left _ _) z⟩
  | lst ds2 =>
   cases e5
   cases e7
   obtain⟨p1,v1,rfl,h1,q1⟩:=rd1'
   obtain⟨p2,v2,rfl,h2,q2⟩:=rd2
   exact⟨false,true,p1,p2,v1,v2,rfl,h1,LsR.sq h2,λz=>kk _ H2 F2' (g1'.trans g2') (qFM (kd:=false) (ke:=true) h1 h2 q1 q2) λ_=>by
    have:=RDs.length q1
    unfold qCk
    rw [List.length_zipWith,<-this]
    exact Nat.le_trans (Nat.min_le_left _ _) z⟩
  | _=>cases e7
 | _=>cases e5
theorem qCT:∀{cs:List C}{σ:En}{ds:List D},qCt call σ cs=some ds->ds.length=cs.length
 | [],_,_,h=>by cases h;rfl
 | c::cr,σ,ds,h=>by
  obtain⟨x,e1,e2⟩:=qAb (by simpa only [qCB] using h)
  obtain⟨xs,e3,e4⟩:=qAb e2
  cases e4
  simp [qCT e3]
theorem qKL {tg:Expr}{x:Str}{rs:List Expr}{cs:List C}{p pos:Pos}(hx:x=Str.ofString "range") (hg:Gl X x) (hm:X.mg x=none) (hn:rs.all qBj=true) (hl:rs.length=1∨rs.length=2∨rs.length=3) (hcl:cs.length=rs.length) (h:qEI call X rs cs) :
  qFi X tg (.Call (.Name x p) rs [] pos) false (fun σ=>(qCt call σ cs).bind qEK):=by
 subst hx
 obtain⟨t,pt,q⟩:=h
 match rs,hl,hn,hcl,pt with
 | [a],_,hn,hcl,pt =>
  simp only [List.all_cons,List.all_nil,Bool.and_true] at hn
  refine⟨_,qG5 hg hm pt (qAy hn),λGe H F σ τ its Rr hs hr kk=>?_⟩
  obtain⟨ds,e1,e2⟩:=qAb hs
  have hlen:=qCT e1
  rw [hcl] at hlen
  refine q Ge H F σ τ ds _ e1 hr λvs H1 F1 g rr=>?_
  match ds,e2,rr,hlen with
  | [.int n],e2,rr,_ =>
   obtain⟨hc,rfl⟩:=qAB (show (if -(2^62)<=n/\n<2^62 then some ((List.range n.toNat).map λi=>D.int (i:Nat)) else none)=some its from e2)
   obtain⟨v,rfl,hv⟩:=RPs.one rr
   have e:(List.range n.toNat).map (λi:Nat=>D.int (i:Nat))=(List.range n.toNat).map λi:Nat=>D.int (0+(i:Nat)):=by simp
   exact⟨n,by rw [hv.int],hc.1,hc.2,kk _ H1 F1 g (by rw [e];exact qNU 0 n.toNat) λz=>nomatch z⟩
 | [a,b],_,hn,hcl,pt =>
  simp only [List.all_cons,List.all_nil,Bool.and_true,Bool.and_eq_true] at hn
  have s2:starEach [b] X.env=[(false,eval b X.env)]:=qAy hn.2
  have s1:starEach [a,b] X.env=[(false,eval a X.env),(false,eval b X.env)]:=(qAy hn.1).trans (by rw [s2])
  refine⟨_,qG3 hg hm pt s1 s2,λGe H F σ τ its Rr hs hr kk=>?_⟩
  obtain⟨ds,e1,e2⟩:=qAb hs
  have hlen:=qCT e1
  rw [hcl] at hlen
  refine q Ge H F σ τ ds _ e1 hr λvs H1 F1 g rr=>?_
  match ds,e2,rr,hlen with
  | [.int i,.int j],e2,rr,_ =>
   cases e2
   obtain⟨v,w,rfl,hv,hw⟩:=RPs.two rr
   have e:(List.range (j - i).toNat).map (λk:Nat=>D.int (i+(k:Nat)))=(List.range (j - i).toNat).map λk:Nat=>D.int (i+(k:Nat) * 1):=by
    refine List.map_congr_left λk _=>?_
    rw [Int.mul_one]
   exact⟨i,j,by rw [hv.int,hw.int],kk _ H1 F1 g (by rw [e];exact qHq i 1 (j - i).toNat) λz=>nomatch z⟩
 | [a,b,c],_,hn,hcl,pt =>
  simp only [List.all_cons,List.all_nil,Bool.and_true,Bool.and_eq_true] at hn
  have s3:starEach [c] X.env=[(false,eval c X.env)]:=qAy hn.2.2
  have s2:starEach [b,c] X.env=[(false,eval b X.env),(false,eval c X.env)]:=(qAy hn.2.1).trans (by rw [s3])
  have s1:starEach [a,b,c] X.env=[(false,eval a X.env),(false,eval b X.env),(false,eval c X.env)]:=(qAy hn.1).trans (by rw [s2])
  refine⟨_,qG4 hg hm pt s1 s2,λGe H F σ τ its Rr hs hr kk=>?_⟩
  obtain⟨ds,e1,e2⟩:=qAb hs
  have hlen:=qCT e1
  rw [hcl] at hlen
  refine q Ge H F σ τ ds _ e1 hr λvs H1 F1 g rr=>?_
  match ds,e2,rr,hlen with
  | [.int i,.int j,.int k],e2,rr,_ =>
   obtain⟨hc,rfl⟩:=qAB (show (if -(2^62)<=i/\i<2^62/\-(2^62)<=j/\j<2^62/\k≠0/\k.natAbs<2^30 then some ((List.range (qEJ i j k).toNat).map λn=>D.int (i+(n:Nat) * k)) else none)=some its from e2)
   obtain⟨v,w,x,rfl,hv,hw,hx⟩:=RPs.three rr
   exact⟨i,j,k,by rw [hv.int,hw.int,hx.int],hc,kk _ H1 F1 g (qHq i k (qEJ i j k).toNat) λz=>nomatch z⟩
end
end Dw
namespace Dw
open PySem PySem.Spec PyProof.Rows L2
section
variable {call:Nat->List D->Option R}{G:Gx}{k:Nat}{X:Cx}{sc sc':Scope}{N:List Str}
theorem qBl {α β:Type}{f:α->Option β}:∀{l:List α}{ks:List β},qAV f l=some ks->ks.length=l.length/\∀(i:Nat) (x:α),l[i]?=some x->∃j,ks[i]?=some j/\f x=some j
 | [],ks,h=>by cases h;exact⟨rfl,λi x e=>by simp at e⟩
 | a::r,ks,h=>by
  obtain⟨b,e1,e2⟩:=qAb (show ((f a).bind λx=>(qAV f r).bind λxs=>some (x::xs))=some ks from h)
  obtain⟨bs,e3,e4⟩:=qAb e2
  cases e4
  obtain⟨h1,h2⟩:=qBl e3
  refine⟨by simp [h1],λi x e=>?_⟩
  cases i with
  | zero=>simp at e;subst e;exact⟨b,rfl,e1⟩
  | succ i=>simp at e;obtain⟨j,q1,q2⟩:=h2 i x e;exact⟨j,by simpa using q1,q2⟩
theorem qEx {x:Str}{j:Nat}(h:qCg sc N x=some j):qMa sc x=true/\N[j]?=some x/\qL4 sc x=true:=by
 unfold qCg at h
 split at h
 ·rename_i hc
  unfold qBr at h
  split at h
  ·rename_i hv
   rw [Bool.and_eq_true] at hv
   exact⟨hc,qBc h,hv.1⟩
  ·cases h
 ·cases h
variable {ks:List Nat}
theorem qFq (g:XG call G k X sc N) (hk:qAV (qCg sc N) (qAw sc')=some ks):qJB X sc':=λx hx=>by
 obtain⟨i,hi⟩:=List.mem_iff_getElem?.mp (free_mem.mpr hx)
 obtain⟨j,e1,e2⟩:=(qBl hk).2 i x hi
 exact g.cap x (qEx e2).1
theorem qJG (g:XG call G k X sc N) (hk:qAV (qCg sc N) (qAw sc')=some ks):∀x,(x,NameKind.free)∈sc'.names->Vis X.env.scope x:=λx hx=>by
 obtain⟨i,hi⟩:=List.mem_iff_getElem?.mp (free_mem.mpr hx)
 obtain⟨j,e1,e2⟩:=(qBl hk).2 i x hi
 exact g.vis x (qEx e2).2.2
noncomputable def qGo (τ:L2.St) (nl:Nat) (ks:List Nat):L2.St:=List.replicate nl none++ks.map λj=>(τ[j]?).join
theorem qFo (τ:L2.St) (nl:Nat):(qGo τ nl ks).length=nl+ks.length:=by simp [qGo]
theorem qFp {τ:L2.St}{nl i:Nat}{v:V}(h:(qGo τ nl ks)[i]?=some (some v)):∃m j,i=nl+m/\ks[m]?=some j/\τ[j]?=some (some v):=by
 unfold qGo at h
 by_cases hi:i<nl
 ·rw [List.getElem?_append_left (by simpa using hi),List.getElem?_replicate] at h
  split at h<;>cases h
 ·rw [List.getElem?_append_right (by simpa using hi),List.getElem?_map] at h
  simp only [List.length_replicate] at h
  cases q:ks[i - nl]? with
  | none=>rw [q] at h;cases h
  | some j =>
   rw [q] at h
   refine⟨i - nl,j,by omega,q,?_⟩
   simp only [Option.map_some,Option.some.injEq] at h
   cases q2:τ[j]? with
   | none=>rw [q2] at h;cases h
   | some o=>rw [q2] at h;simpa using h
theorem qCl {τ:L2.St}{nl m j:Nat}{v:V}(h1:ks[m]?=some j) (h2:τ[j]?=some (some v)):(qGo τ nl ks)[nl+m]?=some (some v):=by
 unfold qGo
 rw [List.getElem?_append_right (by simp),List.getElem?_map]
 simp [h1,h2]
theorem qBu {σ:En}{nl i:Nat}{r:R}(h:qAe (qBb σ nl ks) i=some r):∃m j,i=nl+m/\ks[m]?=some j/\qAe σ j=some r:=by
 unfold qAe qBb at h
 by_cases hi:i<nl
 ·rw [List.getElem?_append_left (by simpa using hi),List.getElem?_replicate] at h
  split at h<;>cases h
 ·rw [List.getElem?_append_right (by simpa using hi),List.getElem?_map] at h
  simp only [List.length_replicate] at h
  cases q:ks[i - nl]? with
  | none=>rw [q] at h;cases h
  | some j =>
   rw [q] at h
   exact⟨i - nl,j,by omega,q,by simpa using h⟩
theorem qNL (S:ScOk sc') (hk:qAV (qCg sc N) (qAw sc')=some ks) {m m' j:Nat}(h1:ks[m]?=some j) (h2:ks[m']?=some j):m=m':=by
 obtain⟨hl,hg⟩:=qBl hk
 have get:∀{m:Nat},ks[m]?=some j->∃x,(qAw sc')[m]?=some x/\N[j]?=some x:=λ{m} h=>by
  obtain⟨q,_⟩:=List.getElem?_eq_some_iff.mp h
  have hx:(qAw sc')[m]?=some (qAw sc')[m]:=List.getElem?_eq_getElem (by omega)
  obtain⟨j',e1,e2⟩:=hg m _ hx
  rw [h] at e1
  cases e1
  exact⟨_,hx,(qEx e2).2.1⟩
 obtain⟨x,a1,a2⟩:=get h1
 obtain⟨y,b1,b2⟩:=get h2
 rw [a2] at b2
 cases b2
 exact qDU (qGG S.nd) a1 b1
theorem qFv (S:ScOk sc') (hk:qAV (qCg sc N) (qAw sc')=some ks) {K:PySem.W.Frag}{Ge:Gp}{H:Hp}{F:Fz}{σ:En}{τ:L2.St}(nl:Nat) (s:SR K Ge H F σ τ):SR K ⟨Ge.h,none⟩ H F (qBb σ nl ks) (qGo τ nl ks):=by
 refine⟨by simp [qBb,qGo],s.ent,s.dom,λi d e=>?_,λi d e hd=>?_,λi i' d e h1 h2 h3=>?_,λi m ks' e=>?_,λp d hp=>nomatch hp⟩
 ·obtain⟨m,j,rfl,h1,h2⟩:=qBu e
  obtain⟨v,q1,q2⟩:=s.val j d h2
  exact⟨v,qCl h1 q1,q2⟩
 ·obtain⟨m,j,rfl,h1,h2⟩:=qBu e
  obtain⟨a,ds,vs,q1,q2,q3⟩:=s.own j d h2 hd
  exact⟨a,ds,vs,q1,qCl h1 q2,q3⟩
 ·obtain⟨m,j,rfl,a1,a2⟩:=qBu h1
  obtain⟨m',j',rfl,b1,b2⟩:=qBu h2
  obtain⟨a,u,q2,_⟩:=s.addr a2
  obtain⟨a',u',p2,_⟩:=s.addr b2
  rw [qCl a1 q2,qCl b1 p2] at h3
  have:j=j':=s.sep j j' d e a2 b2 (by rw [q2,p2,Option.some.inj h3])
  subst this
  rw [qNL S hk a1 b1]
 ·obtain⟨m',j,rfl,h1,h2⟩:=qBu e
  obtain⟨a,q1,q2⟩:=s.dct j m ks' h2
  exact⟨a,qCl h1 q1,q2⟩
theorem qJJ (S:ScOk sc') {tg:Expr}{t:Tg}(h:qCX sc' (qAO sc'++qAw sc') tg=some t) (σ:En):∀i,(t=.one i∨∃j,t=.two i j∨t=.two j i)->qAe (qBb σ (qAO sc').length ks) i=none:=by
 have one:∀{x:Str} {i:Nat},(sc'.names.lookup x == some .local||sc'.names.lookup x == some .cell)=true->qAP (qAO sc'++qAw sc') x=some i->qAe (qBb σ (qAO sc').length ks) i=none:=λ{x i} hx hi=>by
  cases q:qAe (qBb σ (qAO sc').length ks) i with
  | none=>rfl
  | some r =>
   obtain⟨m,j,rfl,h1,h2⟩:=qBu q
   have hs:=qBc hi
   rw [List.getElem?_append_right (by omega)] at hs
   have hm:=free_mem.mp (List.mem_of_getElem? hs)
   have:=qCa S.nd hm
   rw [this] at hx
   simp at hx
 unfold qCX at h
 split at h
 ·rename_i x pos
  split at h
  ·rename_i hx
   cases hi:qAP (qAO sc'++qAw sc') x with
   | none=>rw [hi] at h;cases h
   | some i =>
    rw [hi] at h
    cases h
    intro i' z
    rcases z with z|⟨j,z|z⟩<;>cases z
    exact one hx hi
  ·cases h
 ·rename_i x p y p' kk pos
  split at h
  ·rename_i hx
   rw [Bool.and_eq_true,Bool.and_eq_true] at hx
   obtain⟨⟨hx,hy⟩,hne⟩:=hx
   cases hi:qAP (qAO sc'++qAw sc') x with
   | none=>rw [hi] at h;cases h
   | some i =>
    cases hj:qAP (qAO sc'++qAw sc') y with
    | none=>rw [hi,hj] at h;cases h
    | some j =>
     rw [hi,hj] at h
     cases h
     intro i' z
     rcases z with z|⟨j',z|z⟩<;>cases z
     ·exact one hx hi
     ·exact one hy hj
  ·cases h
 ·cases h
end
end Dw
namespace Dw
open PySem PySem.Spec PyProof.Rows L2
section
variable {call:Nat->List D->Option R}{G:Gx}{k:Nat}{X:Cx}{sc sc':Scope}{N:List Str}{ks:List Nat}
structure Off (X:Cx) (pins:List (Addr×Obj)) (H:Hp) (C:Addr) (h:Heap):Prop where
 n:H C=none
 ne:C≠X.env.locals
 ab:X.s₀.heap.objs.size<=C
 cl:∀x c,X.env.cells.lookup x=some c->c≠C
 pn:∀p∈X.pn++pins,p.1≠C
 ns:∃m,h.Ns C m
theorem Off.let {pins:List (Addr×Obj)}{τ:L2.St}{H:Hp}{s:Shared}{C:Addr}{h':Heap}(o:Off X pins H C s.heap) (I:Inv X pins τ H s) (hs:Heap.SameBut C s.heap h'):Inv X pins τ H { s with heap:=h' }:=
 I.turned (t':=s.toks) (λb ob hb e=>hs.extBut b ob hb e) o.n o.ne (.inr o.ab) o.cl o.pn
theorem qFn {K:PySem.W.Frag}{Ge:Gp}{H:Hp}{F:Fz}{σ σ':En}{τ:L2.St}{t:Tg}{d:D}{v:V}(hm:∀is,t≠.many is) (s:SR K Ge H F σ τ) (hb:qBq σ t d=some σ') (hv:RD K H F d v)
  (hn:∀i,(t=.one i∨∃j,t=.two i j∨t=.two j i)->qAe σ i=none):gTg K t v τ H fun τ' H'=>H'=H/\SR K Ge H F σ' τ'/\SR K Ge H F σ τ'/\∀j,qAe σ j≠none->τ'[j]?=τ[j]?:=by
 cases t with
 | one i =>
  cases hb
  have n1:=hn i (.inl rfl)
  exact⟨rfl,s.bind hv,s.skip n1,λj hj=>List.getElem?_set_ne λz:i=j=>hj (by rw [<-z];exact n1)⟩
 | two i j =>
  unfold qBq at hb
  split at hb
  ·rename_i heq;cases heq
  ·rename_i i' j' x y heq
   cases heq
   cases hb
   obtain⟨a,vs,rfl,hs,hr⟩:=hv
   obtain⟨v1,r,rfl,h1,w,r2,e2,h2,h3⟩:=hr
   have h3:r2=[]:=h3
   subst h3
   subst e2
   have n1:=hn i (.inr ⟨j,.inl rfl⟩)
   have n2:=hn j (.inr ⟨i,.inr rfl⟩)
   exact⟨a,[v1,w],rfl,hs,rfl,v1,[w],rfl,w,[],rfl,rfl,rfl,(s.bind h1).bind h2,(s.skip n1).skip n2,λq hq=>by
    rw [List.getElem?_set_ne λz:j=q=>hq (by rw [<-z];exact n2),List.getElem?_set_ne λz:i=q=>hq (by rw [<-z];exact n1)]⟩
  ·rename_i heq;cases heq
  ·cases hb
 | many is=>exact absurd rfl (hm is)
theorem qFV (g:XG call G k X sc N) {elt tg iter:Expr}{t:Tg}{ce:C}{b:Bool}{src:En->Option (List D)}{pos p':Pos}(S:ScOk sc') (ht:qCX sc' (qAO sc'++qAw sc') tg=some t) (hk:qAV (qCg sc N) (qAw sc')=some ks)
  (he:∀X':Cx,XG call G k X' sc' (qAO sc'++qAw sc')->SndE call X' elt ce) (hi:qFi X tg iter b src) (hfs:∀x,foldedSetIterable iter X.env x=pure x)
  {pins:List (Addr×Obj)} {s:Shared} {τ:L2.St} {H:Hp} {Ge:Gp} {F:Fz} {σ:En} {its ys:List D} {use:Option (Value->Sem Unit)} {Qv:Value->Shared->Prop}
  (I:Inv X pins τ H s) (hS:SR X.K Ge H F σ τ) (hsrc:src σ=some its) (hev:qAM call ce (qBb σ (qAO sc').length ks) t its=some ys) (hlen:(b=true->its.length<=lim)->its.length<=lim)
  (hend:∀(D C:Addr) (H':Hp) (F':Fz) (s':Shared),Gr H F H' F'->RR X.K H H' F' (true,.lst ys) (.ref D)->Inv X pins τ H' s'->Off X pins H' C s'.heap->compPost (model X.prog X.w) X.A X.xe use Qv (.ref D) C (.ok .next) s') :
  wpAny (model X.prog X.w) X.A (comprehension (.ListComp elt [⟨tg,iter,[],0⟩] sc' pos) sc' X.env p' (newList []) false (eval iter X.env) use) Qv X.xe s:=by
 have T:=qFq g hk
 have hcl:=qBF I.ok T
 refine wpAny_comprehension_free (use:=use) rfl hfs (qHU sc' X.env hcl) S.kind (λx hx e=>by obtain⟨n,kk⟩:=x;have e:kk=.local:=e;subst e;exact qCa S.nd hx) ?_
 obtain⟨wi,pi,qi⟩:=hi
 refine thn (pi pins s τ H (λJ H'=>∃F',Gr H F H' F'/\qKh X.K J H' F' its/\its.length<=lim) I (qi Ge H F σ τ its _ hsrc hS λJ H' F' g1 ok hl=>⟨F',g1,ok,hlen hl⟩)) λv s1 h1=>thn h1 λitv s2 h2=>?_
 obtain⟨it,fp,tn,J,H2,rfl,I2,Tn,st2,f2,F2,g2,ok2,hl2⟩:=h2
 refine wpAny_newObj_type (wpAny_newFunctionEnv S.cell (by intro y hy;simp at hy) (λh3 hns hsb=>?_) S.kind)
 dsimp only at hns hsb ⊢
 have hD:H2 s2.heap.objs.size=none:=I2.hok.fresh (Nat.le_refl _)
 generalize hDe:s2.heap.objs.size=Da at hns hsb hD ⊢
 have hD0:H Da=none:=g2.same.free hD
 have lt2:∀{c:Addr} {o:Obj},s2.heap.get? c=some o->c<Da:=λe=>by rw [<-hDe];exact Heap.lt_size e
 have I3:Inv X pins τ (upd H2 Da (.lst [])) { s2 with heap:=s2.heap.push { cls:=.type "list",dict:=none,data:=.seq ([]:List Value).toArray } }:=by
  subst hDe
  exact I2.laid (t':=s2.toks) (λc u e=>Heap.get?_push_of_some _ e) (Nat.le_refl _) ⟨Nat.zero_le _,[],0,.nil,Heap.get?_push_size _ rfl⟩
 generalize hHp:s2.heap.push { cls:=.type "list",dict:=none,data:=.seq ([]:List Value).toArray }=hp at hns hsb I3 ⊢
 have hCs:hp.objs.size=Da+1:=by rw [<-hHp,Heap.size_push,hDe]
 have kp:∀c o,hp.get? c=some o->h3.get? c=some o:=λc o e=>hsb.extBut c o (Nat.ne_of_lt (Heap.lt_size e)) (Heap.get?_push_of_some _ e)
 have lfp:∀c∈fp,c<Da:=λc hc=>by obtain⟨o,e,_⟩:=Tn.obj _ _ st2 c hc;exact lt2 e
 have f3:∀c∈fp,qD6 X pins (upd H2 Da (.lst [])) c:=λc hc=>⟨by rw [qAq (Nat.ne_of_lt (lfp c hc))];exact (f2 c hc).1,(f2 c hc).2⟩
 have lf3:∀c∈fp,c<({ s2 with heap:=hp }:Shared).heap.objs.size:=λc hc=>by show c<hp.objs.size;rw [hCs];exact Nat.lt_succ_of_lt (lfp c hc)
 obtain⟨kl,kg⟩:=qBl hk
 have I4:Inv (qCE X sc' (qAO sc'++qAw sc') hp.objs.size { s2 with heap:=hp } (upd H2 Da (.lst [])) fp) (X.pn++pins) (qGo τ (qAO sc').length ks) (upd H2 Da (.lst [])) { s2 with heap:=h3,toks:=s2.toks+([]:List (Str×Value)).length }:=by
  refine qFU (N':=qAO sc'++qAw sc') I3 S T f3 lf3 kp hns _ (by rw [qFo,List.length_append,kl]) (λi x v e1 e2=>?_) (qJG g hk)
  obtain⟨m,j,rfl,q1,q2⟩:=qFp e2
  rw [List.getElem?_append_right (by omega)] at e1
  have e1':(qAw sc')[m]?=some x:=by rw [<-e1];congr 1;omega
  obtain⟨j',r1,r2⟩:=kg m x e1'
  rw [q1] at r1
  cases r1
  exact⟨free_mem.mp (List.mem_of_getElem? e1'),j,by rw [g.hN];exact (qEx r2).2.1,q2⟩
 have g':XG call G k (qCE X sc' (qAO sc'++qAw sc') hp.objs.size { s2 with heap:=hp } (upd H2 Da (.lst [])) fp) sc' (qAO sc'++qAw sc'):=qN8 g S
 have se:=he _ g'
 have pg:=qGM g' ht
 have tow:=qJJ (ks:=ks) S ht σ
 generalize hX':qCE X sc' (qAO sc'++qAw sc') hp.objs.size { s2 with heap:=hp } (upd H2 Da (.lst [])) fp=X' at I4 g' se pg
 have eP:X'.prog=X.prog:=by rw [<-hX'];rfl
 have ew:X'.w=X.w:=by rw [<-hX'];rfl
 have eK:X'.K=X.K:=by rw [<-hX'];rfl
 have eA:X'.A=X.A:=by rw [<-hX'];rfl
 have eE:X'.env=compEnvC sc' (qEw X.env sc'.names []) hp.objs.size X.env:=by rw [<-hX'];rfl
 have ex:X'.xe=λ_ _=>False:=g'.xe
 have fpX:∀{H':Hp},(∀c∈fp,H' c=none)->∀c∈fp,qD6 X' (X.pn++pins) H' c:=λ{H'} hn c hc=>by
  obtain⟨a0,a1,a2,a3,a4,a5⟩:=f3 c hc
  rw [<-hX']
  refine⟨hn c hc,Nat.ne_of_lt (lf3 c hc),λhs=>?_,.inl hc,λx cc e=>a4 x cc (qEu hcl e),λp hp=>a5 p hp⟩
  rcases List.mem_cons.mp (I3.stkSub c hs) with z|z
  ·exact a1 z
  ·exact a2 z
 have loop:codeAny (model X.prog X.w) X.A (.compLoop (.ListComp elt [⟨tg,iter,[],0⟩] sc' pos) 0 (.ref it) (.ref Da) (compEnvC sc' (qEw X.env sc'.names []) hp.objs.size X.env)) (compPost (model X.prog X.w) X.A X.xe use Qv (.ref Da) hp.objs.size) { s2 with heap:=h3,toks:=s2.toks+([]:List (Str×Value)).length }:=by
  refine PySem.W.kcp_loop (λn s'=>∃(i:Nat) (τ':L2.St) (H':Hp) (F':Fz) (zs:List V),Inv X' (X.pn++pins) τ' H' s'/\tn i s'.heap/\(∀c∈fp,H' c=none)/\Gr H2 F2 H' F'/\H' Da=some (.lst zs)/\¬F' Da/\RDs X.K H' F' (ys.take i) zs/\i<=its.length/\n=its.length - i /\
   qAM call ce (qBb σ (qAO sc').length ks) t (its.drop i)=some (ys.drop i)/\zs.length=i/\SR X.K ⟨Ge.h,none⟩ H' F' (qBb σ (qAO sc').length ks) τ' /\
   ∀j d a,qAe (qBb σ (qAO sc').length ks) j=some (true,d)->τ'[j]?=some (some (.ref a))->a≠Da) ?_ its.length ?_
  ·rintro n s' ⟨i,τ',H',F',zs,I',st',fr',gr',hd',nf',rd',hi,rfl,hev',hzl,sr',nD'⟩
   have hx':∀{α:Type} {tr:Sem α} {Q1:α->Shared->Prop} {E1:Value->Shared->Prop} {s0:Shared},wpAny (model X'.prog X'.w) X'.A tr Q1 X'.xe s0->wpAny (model X.prog X.w) X.A tr Q1 E1 s0:=λ{α tr Q1 E1 s0} h=>by
    rw [eP,ew,eA,ex] at h
    exact wpAny_mono h (λ_ _ z=>z) λ_ _ z=>z.elim
   have kd:Keep H2 F2 H' F':=gr'.keep
   obtain⟨okI,okS⟩:=ok2 H' F' kd gr'.dom
   by_cases hlt:i<its.length
   ·have hdi:its[i]?=some its[i]:=List.getElem?_eq_getElem hlt
    obtain⟨go,yl⟩:=okI i _ hdi
    have hdr:its.drop i=its[i]::its.drop (i+1):=List.drop_eq_getElem_cons hlt
    rw [hdr,qDo] at hev'
    obtain⟨σ1,b1,hev'⟩:=qAb hev'
    obtain⟨y,b2,hev'⟩:=qAb hev'
    obtain⟨ys',b3,hev'⟩:=qAb hev'
    have hys:ys.drop i=y.2::ys':=(Option.some.inj hev').symm
    have ti:=Tn.item X' eP ew eK g'.calm i (X.pn++pins) s' τ' H' (notedBy (model X.prog X.w) X.A (compEnvC sc' (qEw X.env sc'.names []) hp.objs.size X.env) λe s'=>compPost (model X.prog X.w) X.A X.xe use Qv (.ref Da) hp.objs.size (.error e) s') I' (fpX fr') st' go
    rw [eA] at ti
    refine thn ti λr s4 ⟨u,hr,h4⟩=>?_
    subst hr
    refine thn h4 λ_ s5 ⟨x,H5,I5,r5,y5,st5,fr5⟩=>?_
    obtain⟨F5,g5,rd5⟩:=yl x H5 y5
    have I5':=I5.pinned (fpX fr5) (Tn.obj _ _ st5)
    have sr5:=sr'.grow g5
    rw [<-eE]
    have a6:=pg _ s5 τ' H5 x u (fun τ6 H6=>H6=H5/\SR X.K ⟨Ge.h,none⟩ H5 F5 σ1 τ6/\SR X.K ⟨Ge.h,none⟩ H5 F5 (qBb σ (qAO sc').length ks) τ6/\∀j,qAe (qBb σ (qAO sc').length ks) j≠none->τ6[j]?=τ'[j]?) I5' r5 (by
     rw [eK]
     exact qFn (qGA ht) sr5 b1 rd5 tow)
    refine hx' (thn a6 λ_ s6 ⟨τ6,H6,I6,e6,sr6,sc6,sm6⟩=>?_)
    subst e6
    obtain⟨te,pe,qe⟩:=se
    have a7:=pe _ s6 τ6 H6 (λv H7=>∃F7,Gr H6 F5 H7 F7/\RR X.K H6 H7 F7 y v) I6 (qe ⟨Ge.h,none⟩ H6 F5 σ1 τ6 y _ b2 (by rw [eK];exact sr6) λv H7 F7 g7 rr=>⟨F7,g7,by rw [<-eK];exact rr⟩)
    refine hx' (thn a7 λvv s7 ⟨v,H7,I7,r7,F7,g7,rr7⟩=>?_)
    obtain⟨F8,g8,rd8⟩:=rr7.fz g7
    have hd7:H7 Da=some (.lst zs):=g7.same _ _ (g5.same _ _ hd')
    have nf8:¬F8 Da:=λz=>by
     rcases g8.new Da z with q|q
     ·rcases g5.new Da q with q'|q'
      ·exact nf' q'
      ·rw [hd'] at q';cases q'
     ·rw [g5.same _ _ hd'] at q;cases q
    have a8:=qC6 (X:=X') _ s7 τ6 H7 (.ref Da) [v] (.ref Da) [vv] (λ_ H9=>H9=upd H7 Da (.lst (zs++[v]))) I7 rfl (.cons r7 .nil) ⟨Da,zs,v,rfl,rfl,hd7,Nat.lt_of_lt_of_le (by omega) hl2,rfl⟩
    refine hx' (thn a8 λ_ s9 ⟨_,H9,I9,_,e9⟩=>?_)
    subst e9
    have k8:Keep H7 F8 (upd H7 Da (.lst (zs++[v]))) F8:=⟨λp xs h=>by
     have ne:p≠Da:=λz=>by
      subst z
      rcases h with h|⟨o,h⟩<;>(rw [hd7] at h;cases h)
     rcases h with h|⟨o,h⟩
     ·exact .inl (by rw [qAq ne];exact h)
     ·exact .inr ⟨o,by rw [qAq ne];exact h⟩,λp xs f h=>by
     have ne:p≠Da:=λz=>by subst z;exact nf8 f
     refine⟨f,?_⟩
     rcases h with h|⟨o,h⟩
     ·exact .inl (by rw [qAq ne];exact h)
     ·exact .inr ⟨o,by rw [qAq ne];exact h⟩,λp C dx fs h=>by rw [qAq (λz=>by subst z;rw [hd7] at h;cases h)];exact h⟩
    have g58:Gr H' F' H7 F8:=g5.trans g8
    have gall:Gr H2 F2 (upd H7 Da (.lst (zs++[v]))) F8:=by
     have gg:=gr'.trans g58
     refine⟨λc o e=>?_,gg.sub,gg.new,λc e=>?_⟩
     ·rw [qAq (qAA e hD)];exact gg.same c o e
     ·by_cases z:c=Da
      ·subst z;rw [qAJ] at e;cases e
      ·rw [qAq z] at e;exact gg.dom c e
    refine⟨its.length - (i+1),by omega,i+1,τ6,upd H7 Da (.lst (zs++[v])),F8,zs++[v],I9.unpinned,?_,?_,gall,qAJ,nf8,?_,hlt,rfl,?_,by simp [hzl],?_,λj d a h1 h2=>?_⟩
    ·exact Tn.keep _ _ _ st5 λc hc o e=>(I9.pin (c,o) (List.mem_append_right _ (List.mem_append_right _ (qA3 hc e)))).1
    ·intro c hc
     obtain⟨o,e,d⟩:=Tn.obj _ _ st5 c hc
     exact (I9.pin (c,o) (List.mem_append_right _ (List.mem_append_right _ (qA3 hc e)))).2.1
    ·have e1:ys.take (i+1)=ys.take i++[y.2]:=by
      have:ys[i]?=some y.2:=by
       have:=congrArg (λl=>l[0]?) hys
       simpa using this
      rw [List.take_add_one,this];rfl
     rw [e1]
     exact RDs.append (RDs.mono (g58.keep.trans k8) rd') ⟨v,[],rfl,RD.mono k8 rd8,rfl⟩
    ·rw [b3]
     have:ys.drop (i+1)=ys':=by
      have:=congrArg List.tail hys
      simpa using this
     rw [this]
    ·have sc8:=sc6.grow g8
     refine sc8.keep k8 ?_ gall.dom (λj d hj hd=>?_) (λj m ks' hj=>?_) (λp d hp=>nomatch hp)
     ·intro c o e
      have h7:=sc8.ent c o e
      have:c≠Da:=λz=>by
       subst z
       have:=hS.ent c o e
       rw [hD0] at this
       cases this
      rw [qAq this];exact h7
     ·obtain⟨a,ds,vs,q1,q2,q3,q4,q5,q6⟩:=sc8.own j d hj hd
      have ne:a≠Da:=nD' j d a hj (by rw [<-sm6 j (by rw [hj];simp)];exact q2)
      exact⟨a,ds,vs,q1,q2,q3,q4,by rw [qAq ne];exact q5,RDs.mono k8 q6⟩
     ·obtain⟨a,q1,q2,q3,q4⟩:=sc8.dct j m ks' hj
      have ne:a≠Da:=nD' j _ a hj (by rw [<-sm6 j (by rw [hj];simp)];exact q1)
      exact⟨a,q1,q2,by rw [qAq ne];exact q3,q4⟩
    ·exact nD' j d a h1 (by rw [<-sm6 j (by rw [h1];simp)];exact h2)
   ·have hin:i=its.length:=by omega
    subst hin
    have td:=Tn.done X' eP ew eK g'.calm its.length (X.pn++pins) s' τ' H' (notedBy (model X.prog X.w) X.A (compEnvC sc' (qEw X.env sc'.names []) hp.objs.size X.env) λe s'=>compPost (model X.prog X.w) X.A X.xe use Qv (.ref Da) hp.objs.size (.error e) s') I' (fpX fr') st' okS
    rw [eA] at td
    refine thn td λr s4 ⟨hr,I4'⟩=>?_
    subst hr
    rw [List.drop_of_length_le (Nat.le_refl _)] at hev'
    have hyl:ys.drop its.length=[]:=(Option.some.inj hev').symm
    have hyt:ys.take its.length=ys:=by
     have:=List.take_append_drop its.length ys
     rw [hyl,List.append_nil] at this
     exact this
    rw [hyt] at rd'
    have Ib:=I4'.base
    rw [<-hX'] at Ib
    have Io:Inv X pins τ H' s4:=by
     refine I3.call' (ch:=fp) (by have:=I4'.os;rw [<-hX'] at this;exact this) Ib (by have:=I4'.hok;rw [eP,ew] at this;exact this) I4'.bare λc hc=>?_
     obtain⟨a0,a1,a2,a3,a4,a5⟩:=f3 c hc
     exact⟨a3,a1,a4,a5⟩
    refine hend Da hp.objs.size H' F' s4 (g2.trans gr') ⟨Da,ys,zs,rfl,rfl,hD0,nf',hd',rd'⟩ Io ⟨?_,Nat.ne_of_gt I3.lt,I3.sz,λx c e=>?_,λp hp=>?_,?_⟩
    ·have:=I4'.free
     rw [eE] at this
     exact this
    ·obtain⟨v,q⟩:=I3.cell x c e
     exact Nat.ne_of_lt q.lt
    ·exact Nat.ne_of_lt (Heap.lt_size (I3.pin p hp).1)
    ·obtain⟨m,hm,_⟩:=I4'.loc
     rw [eE] at hm
     exact⟨m,hm⟩
  ·refine⟨0,qGo τ (qAO sc').length ks,upd H2 Da (.lst []),F2,[],I4,?_,λc hc=>(f3 c hc).1,Gr.laid g2.dom hD,qAJ,g2.dom Da hD,by rw [List.take_zero];rfl,Nat.zero_le _,rfl,by simpa using hev,rfl,?_,λj d a h1 h2=>?_⟩
   ·exact Tn.keep _ _ _ st2 λc hc o e=>kp c o (by rw [<-hHp];exact Heap.get?_push_of_some _ e)
   ·exact qFv S hk _ (hS.grow (g2.trans (Gr.laid g2.dom hD)))
   ·obtain⟨m,j',rfl,q1,q2⟩:=qBu h1
    obtain⟨a',u',p2,_,p5⟩:=hS.addr q2
    rw [qCl q1 p2] at h2
    cases h2
    exact qAA p5 hD0
 exact codeAny_compStart_list loop (Tn.self _ 0 _ _ _ (Tn.keep _ _ _ st2 λc hc o e=>kp c o (by rw [<-hHp];exact Heap.get?_push_of_some _ e)) loop)
end
end Dw
namespace Dw
open PySem PySem.Spec PyProof.Rows L2
section
variable {call:Nat->List D->Option R}{G:Gx}{k:Nat}{X:Cx}{sc sc':Scope}{N:List Str}{ks:List Nat}
theorem qEt (g:XG call G k X sc N) {elt tg iter cnd:Expr}{t:Tg}{ce cc:C}{b:Bool}{src:En->Option (List D)}{pos p':Pos}(S:ScOk sc') (ht:qCX sc' (qAO sc'++qAw sc') tg=some t) (hk:qAV (qCg sc N) (qAw sc')=some ks)
  (he:∀X':Cx,XG call G k X' sc' (qAO sc'++qAw sc')->SndE call X' elt ce) (hcn:∀X':Cx,XG call G k X' sc' (qAO sc'++qAw sc')->qEG call X' cnd cc) (hi:qFi X tg iter b src) (hfs:∀x,foldedSetIterable iter X.env x=pure x)
  {pins:List (Addr×Obj)} {s:Shared} {τ:L2.St} {H:Hp} {Ge:Gp} {F:Fz} {σ:En} {its ys:List D} {use:Option (Value->Sem Unit)} {Qv:Value->Shared->Prop}
  (I:Inv X pins τ H s) (hS:SR X.K Ge H F σ τ) (hsrc:src σ=some its) (hev:qBa call cc ce (qBb σ (qAO sc').length ks) t its=some ys) (hlen:(b=true->its.length<=lim)->its.length<=lim)
  (hend:∀(D C:Addr) (H':Hp) (F':Fz) (s':Shared),Gr H F H' F'->RR X.K H H' F' (true,.lst ys) (.ref D)->Inv X pins τ H' s'->Off X pins H' C s'.heap->compPost (model X.prog X.w) X.A X.xe use Qv (.ref D) C (.ok .next) s') :
  wpAny (model X.prog X.w) X.A (comprehension (.ListComp elt [⟨tg,iter,[cnd],0⟩] sc' pos) sc' X.env p' (newList []) false (eval iter X.env) use) Qv X.xe s:=by
 have T:=qFq g hk
 have hcl:=qBF I.ok T
 refine wpAny_comprehension_free (use:=use) rfl hfs (qHU sc' X.env hcl) S.kind (λx hx e=>by obtain⟨n,kk⟩:=x;have e:kk=.local:=e;subst e;exact qCa S.nd hx) ?_
 obtain⟨wi,pi,qi⟩:=hi
 refine thn (pi pins s τ H (λJ H'=>∃F',Gr H F H' F'/\qKh X.K J H' F' its/\its.length<=lim) I (qi Ge H F σ τ its _ hsrc hS λJ H' F' g1 ok hl=>⟨F',g1,ok,hlen hl⟩)) λv s1 h1=>thn h1 λitv s2 h2=>?_
 obtain⟨it,fp,tn,J,H2,rfl,I2,Tn,st2,f2,F2,g2,ok2,hl2⟩:=h2
 refine wpAny_newObj_type (wpAny_newFunctionEnv S.cell (by intro y hy;simp at hy) (λh3 hns hsb=>?_) S.kind)
 dsimp only at hns hsb ⊢
 have hD:H2 s2.heap.objs.size=none:=I2.hok.fresh (Nat.le_refl _)
 generalize hDe:s2.heap.objs.size=Da at hns hsb hD ⊢
 have hD0:H Da=none:=g2.same.free hD
 have lt2:∀{c:Addr} {o:Obj},s2.heap.get? c=some o->c<Da:=λe=>by rw [<-hDe];exact Heap.lt_size e
 have I3:Inv X pins τ (upd H2 Da (.lst [])) { s2 with heap:=s2.heap.push { cls:=.type "list",dict:=none,data:=.seq ([]:List Value).toArray } }:=by
  subst hDe
  exact I2.laid (t':=s2.toks) (λc u e=>Heap.get?_push_of_some _ e) (Nat.le_refl _) ⟨Nat.zero_le _,[],0,.nil,Heap.get?_push_size _ rfl⟩
 generalize hHp:s2.heap.push { cls:=.type "list",dict:=none,data:=.seq ([]:List Value).toArray }=hp at hns hsb I3 ⊢
 have hCs:hp.objs.size=Da+1:=by rw [<-hHp,Heap.size_push,hDe]
 have kp:∀c o,hp.get? c=some o->h3.get? c=some o:=λc o e=>hsb.extBut c o (Nat.ne_of_lt (Heap.lt_size e)) (Heap.get?_push_of_some _ e)
 have lfp:∀c∈fp,c<Da:=λc hc=>by obtain⟨o,e,_⟩:=Tn.obj _ _ st2 c hc;exact lt2 e
 have f3:∀c∈fp,qD6 X pins (upd H2 Da (.lst [])) c:=λc hc=>⟨by rw [qAq (Nat.ne_of_lt (lfp c hc))];exact (f2 c hc).1,(f2 c hc).2⟩
 have lf3:∀c∈fp,c<({ s2 with heap:=hp }:Shared).heap.objs.size:=λc hc=>by show c<hp.objs.size;rw [hCs];exact Nat.lt_succ_of_lt (lfp c hc)
 obtain⟨kl,kg⟩:=qBl hk
 have I4:Inv (qCE X sc' (qAO sc'++qAw sc') hp.objs.size { s2 with heap:=hp } (upd H2 Da (.lst [])) fp) (X.pn++pins) (qGo τ (qAO sc').length ks) (upd H2 Da (.lst [])) { s2 with heap:=h3,toks:=s2.toks+([]:List (Str×Value)).length }:=by
  refine qFU (N':=qAO sc'++qAw sc') I3 S T f3 lf3 kp hns _ (by rw [qFo,List.length_append,kl]) (λi x v e1 e2=>?_) (qJG g hk)
  obtain⟨m,j,rfl,q1,q2⟩:=qFp e2
  rw [List.getElem?_append_right (by omega)] at e1
  have e1':(qAw sc')[m]?=some x:=by rw [<-e1];congr 1;omega
  obtain⟨j',r1,r2⟩:=kg m x e1'
  rw [q1] at r1
  cases r1
  exact⟨free_mem.mp (List.mem_of_getElem? e1'),j,by rw [g.hN];exact (qEx r2).2.1,q2⟩
 have g':XG call G k (qCE X sc' (qAO sc'++qAw sc') hp.objs.size { s2 with heap:=hp } (upd H2 Da (.lst [])) fp) sc' (qAO sc'++qAw sc'):=qN8 g S
 have se:=he _ g'
 have sn:=hcn _ g'
 have pg:=qGM g' ht
 have tow:=qJJ (ks:=ks) S ht σ
 generalize hX':qCE X sc' (qAO sc'++qAw sc') hp.objs.size { s2 with heap:=hp } (upd H2 Da (.lst [])) fp=X' at I4 g' se sn pg
 have eP:X'.prog=X.prog:=by rw [<-hX'];rfl
 have ew:X'.w=X.w:=by rw [<-hX'];rfl
 have eK:X'.K=X.K:=by rw [<-hX'];rfl
 have eA:X'.A=X.A:=by rw [<-hX'];rfl
 have eE:X'.env=compEnvC sc' (qEw X.env sc'.names []) hp.objs.size X.env:=by rw [<-hX'];rfl
 have ex:X'.xe=λ_ _=>False:=g'.xe
 have fpX:∀{H':Hp},(∀c∈fp,H' c=none)->∀c∈fp,qD6 X' (X.pn++pins) H' c:=λ{H'} hn c hc=>by
  obtain⟨a0,a1,a2,a3,a4,a5⟩:=f3 c hc
  rw [<-hX']
  refine⟨hn c hc,Nat.ne_of_lt (lf3 c hc),λhs=>?_,.inl hc,λx cc e=>a4 x cc (qEu hcl e),λp hp=>a5 p hp⟩
  rcases List.mem_cons.mp (I3.stkSub c hs) with z|z
  ·exact a1 z
  ·exact a2 z
 have loop:codeAny (model X.prog X.w) X.A (.compLoop (.ListComp elt [⟨tg,iter,[cnd],0⟩] sc' pos) 0 (.ref it) (.ref Da) (compEnvC sc' (qEw X.env sc'.names []) hp.objs.size X.env)) (compPost (model X.prog X.w) X.A X.xe use Qv (.ref Da) hp.objs.size) { s2 with heap:=h3,toks:=s2.toks+([]:List (Str×Value)).length }:=by
  refine PySem.W.kct_loop (λn s'=>∃(i:Nat) (τ':L2.St) (H':Hp) (F':Fz) (zs:List V) (y1 y2:List D),Inv X' (X.pn++pins) τ' H' s'/\tn i s'.heap/\(∀c∈fp,H' c=none)/\Gr H2 F2 H' F'/\H' Da=some (.lst zs)/\¬F' Da/\RDs X.K H' F' y1 zs/\i<=its.length/\n=its.length - i /\
   qBa call cc ce (qBb σ (qAO sc').length ks) t (its.drop i)=some y2/\ys=y1++y2/\zs.length<=i/\SR X.K ⟨Ge.h,none⟩ H' F' (qBb σ (qAO sc').length ks) τ' /\
   ∀j d a,qAe (qBb σ (qAO sc').length ks) j=some (true,d)->τ'[j]?=some (some (.ref a))->a≠Da) ?_ its.length ?_
  ·rintro n s' ⟨i,τ',H',F',zs,y1,y2,I',st',fr',gr',hd',nf',rd',hi,rfl,hev',hyy,hzl,sr',nD'⟩
   have hx':∀{α:Type} {tr:Sem α} {Q1:α->Shared->Prop} {E1:Value->Shared->Prop} {s0:Shared},wpAny (model X'.prog X'.w) X'.A tr Q1 X'.xe s0->wpAny (model X.prog X.w) X.A tr Q1 E1 s0:=λ{α tr Q1 E1 s0} h=>by
    rw [eP,ew,eA,ex] at h
    exact wpAny_mono h (λ_ _ z=>z) λ_ _ z=>z.elim
   have kd:Keep H2 F2 H' F':=gr'.keep
   obtain⟨okI,okS⟩:=ok2 H' F' kd gr'.dom
   by_cases hlt:i<its.length
   ·have hdi:its[i]?=some its[i]:=List.getElem?_eq_getElem hlt
    obtain⟨go,yl⟩:=okI i _ hdi
    have hdr:its.drop i=its[i]::its.drop (i+1):=List.drop_eq_getElem_cons hlt
    rw [hdr,qCP] at hev'
    obtain⟨σ1,b1,hev'⟩:=qAb hev'
    obtain⟨⟨x0,d0⟩,b0,hev'⟩:=qAb hev'
    have ti:=Tn.item X' eP ew eK g'.calm i (X.pn++pins) s' τ' H' (notedBy (model X.prog X.w) X.A (compEnvC sc' (qEw X.env sc'.names []) hp.objs.size X.env) λe s'=>compPost (model X.prog X.w) X.A X.xe use Qv (.ref Da) hp.objs.size (.error e) s') I' (fpX fr') st' go
    rw [eA] at ti
    refine thn ti λr s4 ⟨u,hr,h4⟩=>?_
    subst hr
    refine thn h4 λ_ s5 ⟨x,H5,I5,r5,y5,st5,fr5⟩=>?_
    obtain⟨F5,g5,rd5⟩:=yl x H5 y5
    have I5':=I5.pinned (fpX fr5) (Tn.obj _ _ st5)
    have sr5:=sr'.grow g5
    rw [<-eE]
    have a6:=pg _ s5 τ' H5 x u (fun τ6 H6=>H6=H5/\SR X.K ⟨Ge.h,none⟩ H5 F5 σ1 τ6/\SR X.K ⟨Ge.h,none⟩ H5 F5 (qBb σ (qAO sc').length ks) τ6/\∀j,qAe (qBb σ (qAO sc').length ks) j≠none->τ6[j]?=τ'[j]?) I5' r5 (by
     rw [eK]
     exact qFn (qGA ht) sr5 b1 rd5 tow)
    refine hx' (thn a6 λ_ s6 ⟨τ6,H6,I6,e6,sr6,sc6,sm6⟩=>?_)
    subst e6
    obtain⟨b00,rfl⟩:∃b00,d0=.bl b00:=by cases d0<;>first|exact⟨_,rfl⟩|cases hev'
    obtain⟨tt,pt,qt⟩:=sn
    have a6c:=pt _ s6 τ6 H6 (λbb H7=>∃F7,Gr H6 F5 H7 F7/\bb=b00) I6 (qt ⟨Ge.h,none⟩ H6 F5 σ1 τ6 x0 b00 _ b0 (by rw [eK];exact sr6) λH7 F7 g7=>⟨F7,g7,rfl⟩)
    refine hx' (thn a6c λokb s6b ⟨H6b,I6b,F6b,g6b,eb⟩=>?_)
    subst eb
    have hd6:H6b Da=some (.lst zs):=g6b.same _ _ (g5.same _ _ hd')
    have g56:Gr H' F' H6b F6b:=g5.trans g6b
    have nf6:¬F6b Da:=λz=>by
     rcases g56.new Da z with q|q
     ·exact nf' q
     ·rw [hd'] at q;cases q
    cases okb with
    | false =>
     rw [if_neg (by decide)]
     refine⟨its.length - (i+1),by omega,i+1,τ6,H6b,F6b,zs,y1,y2,I6b.unpinned,?_,?_,gr'.trans g56,hd6,nf6,RDs.mono g56.keep rd',hlt,rfl,hev',hyy,by omega,sc6.grow g6b,λj d a h1 h2=>?_⟩
     ·exact Tn.keep _ _ _ st5 λc hc o e=>(I6b.pin (c,o) (List.mem_append_right _ (List.mem_append_right _ (qA3 hc e)))).1
     ·intro c hc
      obtain⟨o,e,d⟩:=Tn.obj _ _ st5 c hc
      exact (I6b.pin (c,o) (List.mem_append_right _ (List.mem_append_right _ (qA3 hc e)))).2.1
     ·exact nD' j d a h1 (by rw [<-sm6 j (by rw [h1];simp)];exact h2)
    | true =>
    rw [if_pos rfl]
    obtain⟨y,b2,hev'⟩:=qAb hev'
    obtain⟨ys',b3,hev'⟩:=qAb hev'
    have hys:y2=y.2::ys':=(Option.some.inj hev').symm
    replace sr6:=sr6.grow g6b
    replace sc6:=sc6.grow g6b
    replace I6:=I6b
    replace hd':=hd6
    replace g5:=g56
    clear hd6 g56
    obtain⟨te,pe,qe⟩:=se
    have a7:=pe _ s6b τ6 H6b (λv H7=>∃F7,Gr H6b F6b H7 F7/\RR X.K H6b H7 F7 y v) I6 (qe ⟨Ge.h,none⟩ H6b F6b σ1 τ6 y _ b2 (by rw [eK];exact sr6) λv H7 F7 g7 rr=>⟨F7,g7,by rw [<-eK];exact rr⟩)
    refine hx' (thn a7 λvv s7 ⟨v,H7,I7,r7,F7,g7,rr7⟩=>?_)
    obtain⟨F8,g8,rd8⟩:=rr7.fz g7
    have hd7:H7 Da=some (.lst zs):=g7.same _ _ hd'
    have nf8:¬F8 Da:=λz=>by
     rcases g8.new Da z with q|q
     ·exact nf6 q
     ·rw [hd'] at q;cases q
    have a8:=qC6 (X:=X') _ s7 τ6 H7 (.ref Da) [v] (.ref Da) [vv] (λ_ H9=>H9=upd H7 Da (.lst (zs++[v]))) I7 rfl (.cons r7 .nil) ⟨Da,zs,v,rfl,rfl,hd7,Nat.lt_of_lt_of_le (by omega) hl2,rfl⟩
    refine hx' (thn a8 λ_ s9 ⟨_,H9,I9,_,e9⟩=>?_)
    subst e9
    have k8:Keep H7 F8 (upd H7 Da (.lst (zs++[v]))) F8:=⟨λp xs h=>by
     have ne:p≠Da:=λz=>by
      subst z
      rcases h with h|⟨o,h⟩<;>(rw [hd7] at h;cases h)
     rcases h with h|⟨o,h⟩
     ·exact .inl (by rw [qAq ne];exact h)
     ·exact .inr ⟨o,by rw [qAq ne];exact h⟩,λp xs f h=>by
     have ne:p≠Da:=λz=>by subst z;exact nf8 f
     refine⟨f,?_⟩
     rcases h with h|⟨o,h⟩
     ·exact .inl (by rw [qAq ne];exact h)
     ·exact .inr ⟨o,by rw [qAq ne];exact h⟩,λp C dx fs h=>by rw [qAq (λz=>by subst z;rw [hd7] at h;cases h)];exact h⟩
    have g58:Gr H' F' H7 F8:=g5.trans g8
    have gall:Gr H2 F2 (upd H7 Da (.lst (zs++[v]))) F8:=by
     have gg:=gr'.trans g58
     refine⟨λc o e=>?_,gg.sub,gg.new,λc e=>?_⟩
     ·rw [qAq (qAA e hD)];exact gg.same c o e
     ·by_cases z:c=Da
      ·subst z;rw [qAJ] at e;cases e
      ·rw [qAq z] at e;exact gg.dom c e
    refine⟨its.length - (i+1),by omega,i+1,τ6,upd H7 Da (.lst (zs++[v])),F8,zs++[v],y1++[y.2],ys',I9.unpinned,?_,?_,gall,qAJ,nf8,?_,hlt,rfl,b3,(by rw [hyy,hys,List.append_assoc];rfl),(by simp;omega),?_,λj d a h1 h2=>?_⟩
    ·exact Tn.keep _ _ _ st5 λc hc o e=>(I9.pin (c,o) (List.mem_append_right _ (List.mem_append_right _ (qA3 hc e)))).1
    ·intro c hc
     obtain⟨o,e,d⟩:=Tn.obj _ _ st5 c hc
     exact (I9.pin (c,o) (List.mem_append_right _ (List.mem_append_right _ (qA3 hc e)))).2.1
    ·exact RDs.append (RDs.mono (g58.keep.trans k8) rd') ⟨v,[],rfl,RD.mono k8 rd8,rfl⟩
    ·have sc8:=sc6.grow g8
     refine sc8.keep k8 ?_ gall.dom (λj d hj hd=>?_) (λj m ks' hj=>?_) (λp d hp=>nomatch hp)
     ·intro c o e
      have h7:=sc8.ent c o e
      have:c≠Da:=λz=>by
       subst z
       have:=hS.ent c o e
       rw [hD0] at this
       cases this
      rw [qAq this];exact h7
     ·obtain⟨a,ds,vs,q1,q2,q3,q4,q5,q6⟩:=sc8.own j d hj hd
      have ne:a≠Da:=nD' j d a hj (by rw [<-sm6 j (by rw [hj];simp)];exact q2)
      exact⟨a,ds,vs,q1,q2,q3,q4,by rw [qAq ne];exact q5,RDs.mono k8 q6⟩
     ·obtain⟨a,q1,q2,q3,q4⟩:=sc8.dct j m ks' hj
      have ne:a≠Da:=nD' j _ a hj (by rw [<-sm6 j (by rw [hj];simp)];exact q1)
      exact⟨a,q1,q2,by rw [qAq ne];exact q3,q4⟩
    ·exact nD' j d a h1 (by rw [<-sm6 j (by rw [h1];simp)];exact h2)
   ·have hin:i=its.length:=by omega
    subst hin
    have td:=Tn.done X' eP ew eK g'.calm its.length (X.pn++pins) s' τ' H' (notedBy (model X.prog X.w) X.A (compEnvC sc' (qEw X.env sc'.names []) hp.objs.size X.env) λe s'=>compPost (model X.prog X.w) X.A X.xe use Qv (.ref Da) hp.objs.size (.error e) s') I' (fpX fr') st' okS
    rw [eA] at td
    refine thn td λr s4 ⟨hr,I4'⟩=>?_
    subst hr
    rw [List.drop_of_length_le (Nat.le_refl _)] at hev'
    have hyl:y2=[]:=(Option.some.inj hev').symm
    subst hyl
    rw [List.append_nil] at hyy
    subst hyy
    have Ib:=I4'.base
    rw [<-hX'] at Ib
    have Io:Inv X pins τ H' s4:=by
     refine I3.call' (ch:=fp) (by have:=I4'.os;rw [<-hX'] at this;exact this) Ib (by have:=I4'.hok;rw [eP,ew] at this;exact this) I4'.bare λc hc=>?_
     obtain⟨a0,a1,a2,a3,a4,a5⟩:=f3 c hc
     exact⟨a3,a1,a4,a5⟩
    refine hend Da hp.objs.size H' F' s4 (g2.trans gr') ⟨Da,ys,zs,rfl,rfl,hD0,nf',hd',rd'⟩ Io ⟨?_,Nat.ne_of_gt I3.lt,I3.sz,λx c e=>?_,λp hp=>?_,?_⟩
    ·have:=I4'.free
     rw [eE] at this
     exact this
    ·obtain⟨v,q⟩:=I3.cell x c e
     exact Nat.ne_of_lt q.lt
    ·exact Nat.ne_of_lt (Heap.lt_size (I3.pin p hp).1)
    ·obtain⟨m,hm,_⟩:=I4'.loc
     rw [eE] at hm
     exact⟨m,hm⟩
  ·refine⟨0,qGo τ (qAO sc').length ks,upd H2 Da (.lst []),F2,[],[],ys,I4,?_,λc hc=>(f3 c hc).1,Gr.laid g2.dom hD,qAJ,g2.dom Da hD,rfl,Nat.zero_le _,rfl,by simpa using hev,rfl,Nat.le_refl _,?_,λj d a h1 h2=>?_⟩
   ·exact Tn.keep _ _ _ st2 λc hc o e=>kp c o (by rw [<-hHp];exact Heap.get?_push_of_some _ e)
   ·exact qFv S hk _ (hS.grow (g2.trans (Gr.laid g2.dom hD)))
   ·obtain⟨m,j',rfl,q1,q2⟩:=qBu h1
    obtain⟨a',u',p2,_,p5⟩:=hS.addr q2
    rw [qCl q1 p2] at h2
    cases h2
    exact qAA p5 hD0
 exact codeAny_compStart_list loop (Tn.self _ 0 _ _ _ (Tn.keep _ _ _ st2 λc hc o e=>kp c o (by rw [<-hHp];exact Heap.get?_push_of_some _ e)) loop)
end
end Dw
namespace Dw
open PySem PySem.Spec PyProof.Rows L2
section
variable {call:Nat->List D->Option R}{G:Gx}{k:Nat}{X:Cx}{sc sc':Scope}{N:List Str}{ks:List Nat}
theorem qDK (g:XG call G k X sc N) {elt tg iter:Expr}{t:Tg}{ce c:C}{b:Bool}{src:En->Option (List D)}{pos:Pos}(S:ScOk sc') (ht:qCX sc' (qAO sc'++qAw sc') tg=some t) (hk:qAV (qCg sc N) (qAw sc')=some ks)
  (he:∀X':Cx,XG call G k X' sc' (qAO sc'++qAw sc')->SndE call X' elt ce) (hi:qFi X tg iter b src) (hfs:∀x,foldedSetIterable iter X.env x=pure x)
  (hc:∀σ r,evE call σ c=some r->∃its ys,src σ=some its/\qAM call ce (qBb σ (qAO sc').length ks) t its=some ys/\r=(true,.lst ys)/\((b=true->its.length<=lim)->its.length<=lim)) :
  SndE call X (.ListComp elt [⟨tg,iter,[],0⟩] sc' pos) c:=by
 refine⟨fun τ H Q=>∃Ge F σ r,evE call σ c=some r/\SR X.K Ge H F σ τ/\∀v H' F',Gr H F H' F'->RR X.K H H' F' r v->Q v H',λpins s τ H Q I ⟨Ge,F,σ,r,h1,h2,h3⟩=>?_,λGe H F σ τ r Q h1 h2 h3=>⟨Ge,F,σ,r,h1,h2,h3⟩⟩
 obtain⟨its,ys,e1,e2,rfl,e4⟩:=hc σ r h1
 rw [eval_ListComp]
 refine qFV g S ht hk he hi hfs (use:=none) I h2 e1 e2 e4 λDa C H' F' s' gr rr I' o=>?_
 obtain⟨m,hm⟩:=o.ns
 exact⟨m,hm,λh' hs=>⟨.ref Da,H',o.let I' hs,rfl,h3 _ H' F' gr rr⟩⟩
theorem qJw (g:XG call G k X sc N) {elt tg iter:Expr}{t:Tg}{ce c:C}{b:Bool}{src:En->Option (List D)}{pos py spos:Pos}{x:Str}{i:Nat}(S:ScOk sc') (ht:qCX sc' (qAO sc'++qAw sc') tg=some t) (hk:qAV (qCg sc N) (qAw sc')=some ks)
  (he:∀X':Cx,XG call G k X' sc' (qAO sc'++qAw sc')->SndE call X' elt ce) (hi:qFi X tg iter b src) (hfs:∀x,foldedSetIterable iter X.env x=pure x)
  (hc:∀σ r,evE call σ c=some r->∃its ys,src σ=some its/\qAM call ce (qBb σ (qAO sc').length ks) t its=some ys/\r=(true,.lst ys)/\((b=true->its.length<=lim)->its.length<=lim))
  (hx:(sc.names.lookup x == some .local||sc.names.lookup x == some .cell)=true) (hsl:qAP N x=some i) (hsw:swapsWith (.ListComp elt [⟨tg,iter,[],0⟩] sc' pos) (some (.Name x py)) spos.line X.env=pure true) :
  PS X (.Assign [.Name x py] (.ListComp elt [⟨tg,iter,[],0⟩] sc' pos) spos) (λDn τ H=>∃Ge F σ r,evE call σ c=some r/\SR X.K Ge H F σ τ/\∀v H' F',Gr H F H' F'->RR X.K H H' F' r v->Dn.nx (τ.set i (some v)) H'):=by
 intro pins s τ H Dn I ⟨Ge,F,σ,r,h1,h2,h3⟩
 obtain⟨its,ys,e1,e2,rfl,e4⟩:=hc σ r h1
 rw [exec_Assign_Name_used _ _ _ _ hsw]
 refine wpAny_bind (wpAny_standAt (wpAny_bind ?_))
 obtain⟨l1,l2⟩:=qC9 g hx
 refine wpAny_bind (qFV g (p':=firstIterPos [⟨tg,iter,[],0⟩] pos) S ht hk he hi hfs (use:=some (assign (.Name x py) X.env)) I h2 e1 e2 e4 λDa C H' F' s' gr rr I' o=>?_)
 have q:=h3 _ H' F' gr rr
 refine wpAny_assign_Name (qCY (v:=.ref Da) I' (by rw [g.hN];exact g.nd) (by rw [g.hN];exact qBc hsl) l1 rfl (λs2 I2 hch=>?_) l2)
 obtain⟨m,hm⟩:=o.ns
 obtain⟨a,hsb,ha⟩:=hch
 have hCa:C≠a:=by
  rcases ha with e|e
  ·rw [e];exact o.ne
  ·exact (o.cl _ _ e).symm
 have o2:Off X pins H' C s2.heap:=⟨o.n,o.ne,o.ab,o.cl,o.pn,⟨m,hm.sameBut hsb hCa⟩⟩
 exact⟨m,hm.sameBut hsb hCa,λh' hs=>wpAny_pure (wpAny_pure ⟨_,H',o2.let I2 hs,q⟩)⟩
theorem qEf (g:XG call G k X sc N) {elt tg iter cnd:Expr}{t:Tg}{ce cc c:C}{b:Bool}{src:En->Option (List D)}{pos:Pos}(S:ScOk sc') (ht:qCX sc' (qAO sc'++qAw sc') tg=some t) (hk:qAV (qCg sc N) (qAw sc')=some ks)
  (he:∀X':Cx,XG call G k X' sc' (qAO sc'++qAw sc')->SndE call X' elt ce) (hcn:∀X':Cx,XG call G k X' sc' (qAO sc'++qAw sc')->qEG call X' cnd cc) (hi:qFi X tg iter b src) (hfs:∀x,foldedSetIterable iter X.env x=pure x)
  (hc:∀σ r,evE call σ c=some r->∃its ys,src σ=some its/\qBa call cc ce (qBb σ (qAO sc').length ks) t its=some ys/\r=(true,.lst ys)/\((b=true->its.length<=lim)->its.length<=lim)) :
  SndE call X (.ListComp elt [⟨tg,iter,[cnd],0⟩] sc' pos) c:=by
 refine⟨fun τ H Q=>∃Ge F σ r,evE call σ c=some r/\SR X.K Ge H F σ τ/\∀v H' F',Gr H F H' F'->RR X.K H H' F' r v->Q v H',λpins s τ H Q I ⟨Ge,F,σ,r,h1,h2,h3⟩=>?_,λGe H F σ τ r Q h1 h2 h3=>⟨Ge,F,σ,r,h1,h2,h3⟩⟩
 obtain⟨its,ys,e1,e2,rfl,e4⟩:=hc σ r h1
 rw [eval_ListComp]
 refine qEt g S ht hk he hcn hi hfs (use:=none) I h2 e1 e2 e4 λDa C H' F' s' gr rr I' o=>?_
 obtain⟨m,hm⟩:=o.ns
 exact⟨m,hm,λh' hs=>⟨.ref Da,H',o.let I' hs,rfl,h3 _ H' F' gr rr⟩⟩
theorem qIi (g:XG call G k X sc N) {elt tg iter cnd:Expr}{t:Tg}{ce cc c:C}{b:Bool}{src:En->Option (List D)}{pos py spos:Pos}{x:Str}{i:Nat}(S:ScOk sc') (ht:qCX sc' (qAO sc'++qAw sc') tg=some t) (hk:qAV (qCg sc N) (qAw sc')=some ks)
  (he:∀X':Cx,XG call G k X' sc' (qAO sc'++qAw sc')->SndE call X' elt ce) (hcn:∀X':Cx,XG call G k X' sc' (qAO sc'++qAw sc')->qEG call X' cnd cc) (hi:qFi X tg iter b src) (hfs:∀x,foldedSetIterable iter X.env x=pure x)
  (hc:∀σ r,evE call σ c=some r->∃its ys,src σ=some its/\qBa call cc ce (qBb σ (qAO sc').length ks) t its=some ys/\r=(true,.lst ys)/\((b=true->its.length<=lim)->its.length<=lim))
  (hx:(sc.names.lookup x == some .local||sc.names.lookup x == some .cell)=true) (hsl:qAP N x=some i) (hsw:swapsWith (.ListComp elt [⟨tg,iter,[cnd],0⟩] sc' pos) (some (.Name x py)) spos.line X.env=pure true) :
  PS X (.Assign [.Name x py] (.ListComp elt [⟨tg,iter,[cnd],0⟩] sc' pos) spos) (λDn τ H=>∃Ge F σ r,evE call σ c=some r/\SR X.K Ge H F σ τ/\∀v H' F',Gr H F H' F'->RR X.K H H' F' r v->Dn.nx (τ.set i (some v)) H'):=by
 intro pins s τ H Dn I ⟨Ge,F,σ,r,h1,h2,h3⟩
 obtain⟨its,ys,e1,e2,rfl,e4⟩:=hc σ r h1
 rw [exec_Assign_Name_used _ _ _ _ hsw]
 refine wpAny_bind (wpAny_standAt (wpAny_bind ?_))
 obtain⟨l1,l2⟩:=qC9 g hx
 refine wpAny_bind (qEt g (p':=firstIterPos [⟨tg,iter,[cnd],0⟩] pos) S ht hk he hcn hi hfs (use:=some (assign (.Name x py) X.env)) I h2 e1 e2 e4 λDa C H' F' s' gr rr I' o=>?_)
 have q:=h3 _ H' F' gr rr
 refine wpAny_assign_Name (qCY (v:=.ref Da) I' (by rw [g.hN];exact g.nd) (by rw [g.hN];exact qBc hsl) l1 rfl (λs2 I2 hch=>?_) l2)
 obtain⟨m,hm⟩:=o.ns
 obtain⟨a,hsb,ha⟩:=hch
 have hCa:C≠a:=by
  rcases ha with e|e
  ·rw [e];exact o.ne
  ·exact (o.cl _ _ e).symm
 have o2:Off X pins H' C s2.heap:=⟨o.n,o.ne,o.ab,o.cl,o.pn,⟨m,hm.sameBut hsb hCa⟩⟩
 exact⟨m,hm.sameBut hsb hCa,λh' hs=>wpAny_pure (wpAny_pure ⟨_,H',o2.let I2 hs,q⟩)⟩
theorem qIS {n:Nat}{e:Expr}{c:C}(h:cE G n sc N e=some c):qFj e:=by
 cases n with
 | zero=>cases h
 | succ n=>cases e<;>first|(intro o i;rfl)|(cases h;done)|(cases n<;>cases h)
theorem qCm {n:Nat}{e:Expr}{c:C}(h:cE G n sc N e=some c):qBj e=true:=by
 cases n with
 | zero=>cases h
 | succ n=>cases e<;>first|rfl|(cases h;done)|(cases n<;>cases h)
theorem qC5 {n:Nat}{e:Expr}{c:C}(h:cE G n sc N e=some c) (env:Env):∀x,foldedSetIterable e env x=pure x:=by
 cases n with
 | zero=>cases h
 | succ n=>cases e<;>first|(intro x;rfl)|(cases h;done)|(cases n<;>cases h)
theorem qLu {n:Nat}{e:Expr}{c:C}(h:cE G n sc N e=some c) (op:CmpOp):behindInMarks op e=false:=by
 cases n with
 | zero=>cases h
 | succ n=>cases e<;>first|rfl|(cases h;done)|(cases n<;>cases h)
structure Ok (call:Nat->List D->Option R) (X:Cx) (e:Expr) (c:C):Prop where
 he:SndE call X e c
 hp:qEH call X e c
 ht:qEG call X e c
 hg:qJC call X e c
 nv:(∃x p,e=.Name x p)∨∀i,c≠.v i
theorem Ok.of {e:Expr}{c:C}(h:SndE call X e c) (ht:qEG call X e c) (hc:∀i,c≠.v i):Ok call X e c:=⟨h,h.look hc,ht,h.lend hc,.inr hc⟩
structure AllE (call:Nat->List D->Option R) (G:Gx) (k n:Nat):Prop where
 e:∀(X:Cx) (sc:Scope) (N:List Str) (e:Expr) (c:C),XG call G k X sc N->cE G n sc N e=some c->Ok call X e c
 f:∀(X:Cx) (sc:Scope) (N:List Str) (f:Str) (es:List Expr) (c:C) (p pos:Pos),XG call G k X sc N->glB sc f=true->qAQ f=true->qLV G n sc N f es=some c->SndE call X (.Call (.Name f p) es [] pos) c/\∀i,c≠.v i
 a:∀(X:Cx) (sc:Scope) (N:List Str) (es:List Expr) (cs:List C),XG call G k X sc N->cEs G n sc N es=some cs->qJD call X es cs/\qEI call X es cs/\es.all qBj=true/\cs.length=es.length
 o:∀(X:Cx) (sc:Scope) (N:List Str) (e:Option Expr) (c:Option C),XG call G k X sc N->cO G n sc N e=some c->qOA call X e c
 kf:∀(X:Cx) (sc:Scope) (N:List Str) (kws:List Keyword) (cs:List C),XG call G k X sc N->cEs G n sc N (kws.map (·.value))=some cs->qOJ call X kws cs
 x:∀(X:Cx) (sc:Scope) (N:List Str) (e:Expr) (c:C),XG call G k X sc N->cX G n sc N e=some c->Ok call X e c/\∀i,c≠.v i
 j:∀(X:Cx) (sc:Scope) (N:List Str) (es:List Expr) (cs:List C),XG call G k X sc N->cJ G n sc N es=some cs->qOK call X es cs
 ga:∀(X:Cx) (sc:Scope) (N:List Str) (es:List Expr) (cs:List C),XG call G k X sc N->cEs G n sc N es=some cs->qIm call X es cs
 w:∀(X:Cx) (sc:Scope) (N:List Str) (es:List Expr) (c:C),XG call G k X sc N->qMb G n sc N es=some c->SndW call X .And es c
 v:∀(X:Cx) (sc:Scope) (N:List Str) (es:List Expr) (c:C),XG call G k X sc N->cOr G n sc N es=some c->SndW call X .Or es c
theorem qJz:AllE call G k 0:=by
 constructor
 ·intro X sc N e c _ h;cases h
 ·intro X sc N f es c p pos _ _ _ h;cases h
 ·intro X sc N e c _ h;cases h
 ·intro X sc N e c _ h;cases h
 ·intro X sc N e c _ h;cases h
 ·intro X sc N e c _ h;cases h
 ·intro X sc N e c _ h;cases h
 ·intro X sc N e c _ h;cases h
 ·intro X sc N e c _ h;cases h
 ·intro X sc N e c _ h;cases h
inductive Srk (sc:Scope):Expr->Sr->Prop where
 | seq (e:Expr):Srk sc e (.seq e)
 | rng (x:Str) (p:Pos) (as:List Expr) (pos:Pos):glB sc x=true->x=Str.ofString "range"->(as.length=1∨as.length=2∨as.length=3)->Srk sc (.Call (.Name x p) as [] pos) (.rng as)
 | zip (x:Str) (p:Pos) (a b:Expr) (pos:Pos):glB sc x=true->x=Str.ofString "zip"->Srk sc (.Call (.Name x p) [a,b] [] pos) (.zip a b)
 | enm (x:Str) (p:Pos) (a:Expr) (pos:Pos):glB sc x=true->x=Str.ofString "enumerate"->Srk sc (.Call (.Name x p) [a] [] pos) (.enm a)
 | rev (x y:Str) (p p2:Pos) (a:Expr) (pos pos2:Pos):glB sc x=true->x=Str.ofString "reversed"->glB sc y=true->y=Str.ofString "range"->Srk sc (.Call (.Name x p) [.Call (.Name y p2) [a] [] pos2] [] pos) (.rev [a])
theorem srk (it:Expr):Srk sc it (qIn sc it):=by
 unfold qIn
 split
 ·rename_i f p as pos
  split
  ·rename_i h
   simp only [Bool.and_eq_true,Bool.or_eq_true,beq_iff_eq,or_assoc] at h
   exact .rng f p as pos h.1.1 h.1.2 h.2
  ·split
   ·rename_i h
    simp only [Bool.and_eq_true,beq_iff_eq] at h
    split
    ·exact .zip f p _ _ pos h.1 h.2
    ·exact .seq _
   ·split
    ·rename_i h
     simp only [Bool.and_eq_true,beq_iff_eq] at h
     split
     ·split
      ·rename_i h'
       simp only [Bool.and_eq_true,beq_iff_eq] at h'
       exact .rev f _ p _ _ pos _ h.1 h.2 h'.1 h'.2
      ·exact .seq _
     ·exact .seq _
    ·split
     ·rename_i h
      simp only [Bool.and_eq_true,beq_iff_eq] at h
      split
      ·exact .enm f p _ pos h.1 h.2
      ·exact .seq _
     ·exact .seq _
 ·exact .seq _
theorem qFZ (g:XG call G k X sc N) (hG:∀x∈qAI,G.defs.lookup x=none) {x:Str}{s:String}(h:x=Str.ofString s) (hs:s∈["len","abs","min","max","sum","all","tuple","list","int","bool","str","isinstance","range","zip","reversed","sorted","enumerate","any"]):X.mg x=none:=g.blt x (hG x (qBH h hs)) (qBH h hs)
theorem qC0 {n:Nat}(A:AllE call G k n) (g:XG call G k X sc N) {tg it:Expr}{x:C}(h:cE G n sc N it=some x):qFi X tg it true (fun σ=>(evE call σ x).bind λr=>qCw r.2):=qKK (A.e X sc N it x g h).he
theorem qC1 {n:Nat}(A:AllE call G k n) (g:XG call G k X sc N) (hG:∀x∈qAI,G.defs.lookup x=none) {tg:Expr}{f:Str}{p pos:Pos}{as:List Expr}{xs:List C}(hg:glB sc f=true) (hf:f=Str.ofString "range") (hl:as.length=1∨as.length=2∨as.length=3) (h:cEs G n sc N as=some xs) :
  qFi X tg (.Call (.Name f p) as [] pos) false (fun σ=>(qCt call σ xs).bind qEK):=by
 obtain⟨_,a2,a3,a4⟩:=A.a X sc N as xs g h
 exact qKL hf (g.gl f hg) (qFZ g hG hf (by decide)) a3 hl a4 a2
theorem qES {n:Nat}(A:AllE call G k n) (g:XG call G k X sc N) (hG:∀x∈qAI,G.defs.lookup x=none) {es:List Expr}{kk:Nat}{tp:Pos}{f:Str}{p pos:Pos}{a b:Expr}{x y:C}(hg:glB sc f=true) (hf:f=Str.ofString "zip") (ha:cE G n sc N a=some x) (hb:cE G n sc N b=some y) :
  qFi X (.Tuple es kk tp) (.Call (.Name f p) [a,b] [] pos) true (fun σ=>(evE call σ x).bind λx=>(evE call σ y).bind λy=>(qCw x.2).bind λxs=>(qF6 y.2).bind λys=>some (qCk xs ys)):=
 qKH hf (g.gl f hg) (qFZ g hG hf (by decide)) (by simp [qCm ha,qCm hb]) (A.e X sc N a x g ha).he (A.e X sc N b y g hb).he
theorem qEQ {tg:Expr}{t:Tg}(h:qCX sc N tg=some t) (h2:qJg t=true):∃es kk tp,tg=.Tuple es kk tp:=by
 unfold qCX at h
 split at h
 ·split at h
  ·rename_i x _ _
   cases hs:qAP N x with
   | none=>rw [hs] at h;cases h
   | some i=>rw [hs] at h;cases h;cases h2
  ·cases h
 ·exact⟨_,_,_,rfl⟩
 ·cases h
theorem qFe {n:Nat}{x:Str}{p:Pos}{i:Nat}(h:cE G n sc N (.Name x p)=some (.v i)):qBr sc N x=some i:=by
 cases n with
 | zero=>cases h
 | succ n =>
  have h:(match qBr sc N x with|some i=>some (C.v i)|none=>cGl G sc x)=some (.v i):=h
  cases hv:qBr sc N x with
  | some j=>rw [hv] at h;cases h;rfl
  | none =>
   rw [hv] at h
   have h:cGl G sc x=some (.v i):=h
   unfold cGl at h
   split at h
   ·cases hc:G.cons.lookup x<;>(rw [hc] at h;cases h)
   ·cases h
theorem qN9 {op:CmpOp}(h:qJp op=some .isin):op=.In:=by cases op<;>first|rfl|cases h
theorem qHS {op:CmpOp}(h:qJp op=some .notin):op=.NotIn:=by cases op<;>first|rfl|cases h
theorem qCW (g:XG call G k X sc N):X.A.units+20<cLine:=by
 have:=g.room.units
 omega
theorem qOy {n:Nat}{es:List Expr}{c:C}(hl:2<=es.length) (h:qMb G n sc N es=some c):∀i,c≠.v i:=by
 cases n with
 | zero=>cases h
 | succ n =>
  unfold qMb at h
  split at h
  ·simp at hl
  ·obtain⟨x,e1,e2⟩:=qAb h
   obtain⟨y,e3,e4⟩:=qAb e2
   cases e4
   exact λi z=>nomatch z
  ·cases h
theorem qPl {n:Nat}{es:List Expr}{c:C}(hl:2<=es.length) (h:cOr G n sc N es=some c):∀i,c≠.v i:=by
 cases n with
 | zero=>cases h
 | succ n =>
  unfold cOr at h
  split at h
  ·simp at hl
  ·obtain⟨x,e1,e2⟩:=qAb h
   obtain⟨y,e3,e4⟩:=qAb e2
   cases e4
   exact λi z=>nomatch z
  ·cases h
theorem qJA (hG:∀x∈qAI,G.defs.lookup x=none) {n:Nat}(A:AllE call G k n):AllE call G k (n+1):=by
 constructor
 ·intro X sc N e c g h
  unfold cE at h
  split at h
  ·-- a name
   rename_i x pos
   cases hv:qBr sc N x with
   | none =>
    rw [hv] at h
    obtain⟨h1,h2⟩:=qMK (call:=call) (pos:=pos) g h
    exact .of h1 (h1.test λ_=>rfl) h2
   | some i =>
    rw [hv] at h
    cases h
    obtain⟨h1,h2,h3⟩:=qIH (call:=call) (pos:=pos) g hv
    exact⟨h1,h2,h1.test λ_=>rfl,h3,.inl ⟨_,_,rfl⟩⟩
  ·rename_i cc j pos
   cases hv:kOf cc with
   | none=>rw [hv] at h;cases h
   | some d =>
    rw [hv] at h
    cases h
    have h1:=qC2 (call:=call) (X:=X) (j:=j) (pos:=pos) hv
    exact .of h1 (h1.test λ_=>rfl) λi z=>nomatch z
  ·rename_i a op b pos
   obtain⟨o,e1,e2⟩:=qAb h
   obtain⟨x,e3,e4⟩:=qAb e2
   obtain⟨y,e5,e6⟩:=qAb e4
   cases e6
   have h1:=qKV (call:=call) (pos:=pos) (qNk (X:=X) e1) (A.e X sc N a x g e3).hp (A.e X sc N b y g e5).hp
   exact .of h1 (h1.test λ_=>rfl) λi z=>nomatch z
  ·rename_i a pos
   cases hx:cE G n sc N a with
   | none=>rw [hx] at h;cases h
   | some x =>
    rw [hx] at h
    cases h
    have h1:=qKP (pos:=pos) (A.e X sc N a x g hx).hp
    exact .of h1 (h1.test λ_=>rfl) λi z=>nomatch z
  ·rename_i a pos
   cases hx:cE G n sc N a with
   | none=>rw [hx] at h;cases h
   | some x =>
    rw [hx] at h
    cases h
    have h0:=A.e X sc N a x g hx
    obtain⟨h1,h2⟩:=qKN (pos:=pos) h0.he h0.ht
    exact .of h1 h2 λi z=>nomatch z
  ·rename_i es pos
   split at h
   ·rename_i hl
    have h0:=A.w X sc N es c g h
    exact .of (h0 pos).1 h0.test (qOy hl h)
   ·cases h
  ·rename_i es pos
   split at h
   ·rename_i hl
    have h0:=A.v X sc N es c g h
    exact .of (h0 pos).1 h0.test (qPl hl h)
   ·cases h
  ·rename_i a cc j p2 pos
   obtain⟨d,e1,e2⟩:=qAb h
   obtain⟨x,e3,e4⟩:=qAb e2
   cases e4
   obtain⟨h1,h2⟩:=qJN (call:=call) (X:=X) (pos:=pos) (pos':=p2) (j:=j) false rfl e1 (A.e X sc N a x g e3).hp
   exact .of h1 h2 λi z=>nomatch z
  ·rename_i a cc j p2 pos
   obtain⟨d,e1,e2⟩:=qAb h
   obtain⟨x,e3,e4⟩:=qAb e2
   cases e4
   obtain⟨h1,h2⟩:=qJN (call:=call) (X:=X) (pos:=pos) (pos':=p2) (j:=j) true rfl e1 (A.e X sc N a x g e3).hp
   exact .of h1 h2 λi z=>nomatch z
  ·rename_i a op b pos _ _
   obtain⟨o,e1,e2⟩:=qAb h
   obtain⟨x,e3,e4⟩:=qAb e2
   obtain⟨y,e5,e6⟩:=qAb e4
   have hm:behindInMarks op b=false:=qLu e5 op
   obtain⟨h1,h2⟩:=qKU (call:=call) (pos:=pos) (qFc (X:=X) (qCW g) e1) hm (λ_ _ _ hz=>qOa hz) (A.e X sc N a x g e3).hp (A.e X sc N b y g e5).hp
   unfold qNE at e6
   split at e6
   ·rename_i xn px i _ _
    cases e6
    obtain⟨k1,k2⟩:=qGS (call:=call) (pos:=pos) (px:=px) false g (qCW g) (.inl ⟨rfl,qN9 e1,rfl⟩) (qFc (X:=X) (qCW g) e1) (qFe e5) (A.e X sc N a x g e3).hp
    exact .of k1 k2 λi z=>nomatch z
   ·rename_i xn px i _ _
    cases e6
    obtain⟨k1,k2⟩:=qGS (call:=call) (pos:=pos) (px:=px) true g (qCW g) (.inr ⟨rfl,qHS e1,rfl⟩) (qFc (X:=X) (qCW g) e1) (qFe e5) (A.e X sc N a x g e3).hp
    exact .of k1 k2 λi z=>nomatch z
   ·cases e6
    exact .of h1 h2 λi z=>nomatch z
  ·rename_i a lo hi p2 pos
   obtain⟨x,e1,e2⟩:=qAb h
   obtain⟨l,e3,e4⟩:=qAb e2
   obtain⟨u,e5,e6⟩:=qAb e4
   cases e6
   have h1:=qME (p2:=p2) (pos:=pos) (A.e X sc N a x g e1).hp (A.o X sc N lo l g e3) (A.o X sc N hi u g e5)
   exact .of h1 (h1.test λ_=>rfl) λi z=>nomatch z
  ·rename_i a b pos _
   obtain⟨x,e1,e2⟩:=qAb h
   obtain⟨y,e3,e4⟩:=qAb e2
   cases e4
   have h1:=qMI (pos:=pos) (qIS e3) (A.e X sc N a x g e1).hp (A.e X sc N b y g e3).hp
   exact .of h1 (h1.test λ_=>rfl) λi z=>nomatch z
  ·rename_i es kk pos
   cases hx:cEs G n sc N es with
   | none=>rw [hx] at h;cases h
   | some xs =>
    rw [hx] at h
    cases h
    have h1:=qKI (x1:=kk) (pos:=pos) (A.a X sc N es xs g hx).1
    exact .of h1 (h1.test λ_=>rfl) λi z=>nomatch z
  ·rename_i es pos
   cases hx:cEs G n sc N es with
   | none=>rw [hx] at h;cases h
   | some xs =>
    rw [hx] at h
    cases h
    have h1:=qKQ (pos:=pos) (A.a X sc N es xs g hx).1
    exact .of h1 (h1.test λ_=>rfl) λi z=>nomatch z
  ·rename_i f p as pos
   split at h
   ·rename_i hf
    rw [Bool.and_eq_true] at hf
    obtain⟨h1,h2⟩:=A.f X sc N f as c p pos g hf.1 hf.2 h
    exact .of h1 (h1.test λ_=>rfl) h2
   ·cases h
  ·rename_i elt tg it sc' pos
   split at h
   ·rename_i hsc
    have S:=qCR hsc
    obtain⟨t,e1,e2⟩:=qAb h
    obtain⟨ks,e3,e4⟩:=qAb e2
    obtain⟨ce,e5,e6⟩:=qAb e4
    have he:∀X':Cx,XG call G k X' sc' (qAO sc'++qAw sc')->SndE call X' elt ce:=λX' g'=>(A.e X' sc' _ elt ce g' e5).he
    have hsr:=srk (sc:=sc) it
    cases hq:qIn sc it with
    | seq s =>
     rw [hq] at e6 hsr
     obtain⟨x,q1,q2⟩:=qAb e6
     cases q2
     cases hsr
     have h1:=qDK (pos:=pos) (c:=.compS ce (qAO sc').length ks t x) g S e1 e3 he (qC0 A g q1) (qC5 q1 X.env) fun σ r hr=>by
      obtain⟨y,r1,r2⟩:=qAb (by simpa only [qDl] using hr)
      obtain⟨its,r3,r4⟩:=qAb r2
      obtain⟨ys,r5,r6⟩:=qAb r4
      cases r6
      exact⟨its,ys,by simp only [r1];exact r3,r5,rfl,λz=>z rfl⟩
     exact .of h1 (h1.test λ_=>rfl) λi z=>nomatch z
    | rng rs =>
     rw [hq] at e6 hsr
     obtain⟨xs,q1,q2⟩:=qAb e6
     cases q2
     cases hsr with
     | rng f p as pos2 hg hf hl =>
      have h1:=qDK (pos:=pos) (c:=.compR ce (qAO sc').length ks t xs) g S e1 e3 he (qC1 (p:=p) (pos:=pos2) A g hG hg hf hl q1) (λ_=>rfl) fun σ r hr=>by
       obtain⟨y,r1,r2⟩:=qAb (by simpa only [qDm] using hr)
       obtain⟨its,r3,r4⟩:=qAb r2
       split at r4
       ·rename_i hle
        obtain⟨ys,r5,r6⟩:=qAb r4
        cases r6
        exact⟨its,ys,by simp only [r1];exact r3,r5,rfl,λ_=>hle⟩
       ·cases r4
      exact .of h1 (h1.test λ_=>rfl) λi z=>nomatch z
    | zip a b =>
     rw [hq] at e6 hsr
     simp only at e6
     split at e6
     ·rename_i h2
      obtain⟨x,q1,q2⟩:=qAb e6
      obtain⟨y,q3,q4⟩:=qAb q2
      cases q4
      obtain⟨es,kk,tp,rfl⟩:=qEQ e1 h2
      cases hsr with
      | zip f p a b pos2 hg hf =>
       have h1:=qDK (pos:=pos) (c:=.compZ ce (qAO sc').length ks t x y) g S e1 e3 he (qES (p:=p) (pos:=pos2) A g hG hg hf q1 q3) (λ_=>rfl) fun σ r hr=>by
        obtain⟨z,r1,r2⟩:=qAb (by simpa only [qDk] using hr)
        obtain⟨z2,r3,r4⟩:=qAb r2
        obtain⟨xs,r5,r6⟩:=qAb r4
        obtain⟨ys,r7,r8⟩:=qAb r6
        obtain⟨zs,r9,r10⟩:=qAb r8
        cases r10
        exact⟨qCk xs ys,zs,by simp only [r1,r3,r5,r7,Option.bind_some],r9,rfl,λz=>z rfl⟩
       exact .of h1 (h1.test λ_=>rfl) λi z=>nomatch z
     ·cases e6
    | rev rs=>rw [hq] at e6;cases e6
    | enm a=>rw [hq] at e6;cases e6
   ·cases h
  ·exact (A.x X sc N _ c g h).1
 ·intro X sc N f es c p pos g hg hp h
  unfold qLV at h
  split at h
  ·rename_i i hd
   split at h
   ·cases h
   ·rename_i hne
    cases hx:cEs G n sc N es with
    | none=>rw [hx] at h;cases h
    | some xs =>
     rw [hx] at h
     cases h
     obtain⟨a1,a2,a3,a4⟩:=A.a X sc N es xs g hx
     exact⟨qIL g hd hg (qCx hp).2 a3 (by intro z;subst z;exact hne rfl) (A.ga X sc N es xs g hx),(λi z=>nomatch z)⟩
  ·rename_i hd
   split at h
   ·rename_i u hu
    obtain⟨hu',rfl⟩:=qHh hu
    cases hx:cEs G n sc N es with
    | none=>rw [hx] at h;cases h
    | some xs =>
     rw [hx] at h
     cases h
     obtain⟨a1,a2,a3,a4⟩:=A.a X sc N es xs g hx
     exact⟨qMG g hu' hg (qCx hp).2 a3 a1 a4,λi z=>nomatch z⟩
   rename_i hnu
   split at h
   ·rename_i a t p2 hf
    split at h
    ·rename_i hq
     rw [Bool.and_eq_true] at hq
     obtain⟨ty,e1,e2⟩:=qAb h
     obtain⟨x,e3,e4⟩:=qAb e2
     cases e4
     have hdt:G.defs.lookup t=none:=by simpa using hq.2
     exact⟨qKR g (by simpa using hf) hd hdt hg hq.1 e1 (qCm e3) (A.e X sc N a x g e3).hp,λi z=>nomatch z⟩
    ·cases h
   ·obtain⟨b,e1,e2⟩:=qAb h
    rename_i as _ _ hf
    cases hx:cEs G n sc N as with
    | none=>rw [hx] at e2;cases e2
    | some xs =>
     rw [hx] at e2
     cases e2
     obtain⟨a1,a2,a3,a4⟩:=A.a X sc N as xs g hx
     exact⟨qGU g e1 hd hg hp a3 a2,λi z=>nomatch z⟩
   ·cases h
 ·intro X sc N es cs g h
  unfold cEs at h
  split at h
  ·cases h
   exact⟨qIM,qGV,rfl,rfl⟩
  ·rename_i a r
   obtain⟨x,e1,e2⟩:=qAb h
   obtain⟨xs,e3,e4⟩:=qAb e2
   cases e4
   have h0:=A.e X sc N a x g e1
   obtain⟨a1,a2,a3,a4⟩:=A.a X sc N r xs g e3
   have hs:=qAy (env:=X.env) (es:=r) (qCm e1)
   exact⟨qGW hs h0.he a1,qGa hs h0.hp a2,by simp [qCm e1];simpa using a3,by simp [a4]⟩
 ·intro X sc N e c g h
  unfold cO at h
  split at h
  ·cases h;exact qGP
  ·rename_i e
   cases hx:cE G n sc N e with
   | none=>rw [hx] at h;cases h
   | some x =>
    rw [hx] at h
    cases h
    exact qGO (A.e X sc N e x g hx).hp
 ·intro X sc N kws cs g h
  unfold cEs at h
  cases kws with
  | nil=>cases h;exact qII
  | cons kw kws =>
   obtain⟨x,e1,e2⟩:=qAb h
   obtain⟨xs,e3,e4⟩:=qAb e2
   cases e4
   exact qGR (A.e X sc N kw.value x g e1).he (A.kf X sc N kws xs g e3)
 ·intro X sc N e c g h
  unfold cX at h
  split at h
  ·rename_i elt tg it cd sc' pos
   split at h
   ·rename_i hsc
    have S:=qCR hsc
    obtain⟨t,e1,e2⟩:=qAb h
    obtain⟨ks,e3,e4⟩:=qAb e2
    obtain⟨ce,e5,e6⟩:=qAb e4
    obtain⟨cc,e7,e8⟩:=qAb e6
    have he:∀X':Cx,XG call G k X' sc' (qAO sc'++qAw sc')->SndE call X' elt ce:=λX' g'=>(A.e X' sc' _ elt ce g' e5).he
    have hc:∀X':Cx,XG call G k X' sc' (qAO sc'++qAw sc')->qEG call X' cd cc:=λX' g'=>(A.e X' sc' _ cd cc g' e7).ht
    have hsr:=srk (sc:=sc) it
    cases hq:qIn sc it with
    | seq s =>
     rw [hq] at e8 hsr
     obtain⟨x,q1,q2⟩:=qAb e8
     cases q2
     cases hsr
     have h1:=qEf (pos:=pos) (c:=.compF ce cc (qAO sc').length ks t x) g S e1 e3 he hc (qC0 A g q1) (qC5 q1 X.env) fun σ r hr=>by
      obtain⟨y,r1,r2⟩:=qAb (by simpa only [qEs] using hr)
      obtain⟨its,r3,r4⟩:=qAb r2
      obtain⟨ys,r5,r6⟩:=qAb r4
      cases r6
      exact⟨its,ys,by simp only [r1];exact r3,r5,rfl,λz=>z rfl⟩
     exact⟨.of h1 (h1.test λ_=>rfl) (λi z=>nomatch z),(λi z=>nomatch z)⟩
    | rng rs =>
     rw [hq] at e8 hsr
     obtain⟨xs,q1,q2⟩:=qAb e8
     cases q2
     cases hsr with
     | rng f p as pos2 hg hf hl =>
      have h1:=qEf (pos:=pos) (c:=.compG ce cc (qAO sc').length ks t xs) g S e1 e3 he hc (qC1 (p:=p) (pos:=pos2) A g hG hg hf hl q1) (λ_=>rfl) fun σ r hr=>by
       obtain⟨y,r1,r2⟩:=qAb (by simpa only [qDn] using hr)
       obtain⟨its,r3,r4⟩:=qAb r2
       split at r4
       ·rename_i hle
        obtain⟨ys,r5,r6⟩:=qAb r4
        cases r6
        exact⟨its,ys,by simp only [r1];exact r3,r5,rfl,λ_=>hle⟩
       ·cases r4
      exact⟨.of h1 (h1.test λ_=>rfl) (λi z=>nomatch z),(λi z=>nomatch z)⟩
    | _=>rw [hq] at e8;cases e8
   ·cases h
  ·rename_i a f pos
   split at h
   ·rename_i hb
    obtain⟨j,e1,h⟩:=qAb h
    cases e3:cE G n sc N a with
    | none=>rw [e3] at h;cases h
    | some x =>
     rw [e3] at h
     cases h
     have h1:=qKT (pos:=pos) (f:=f) (j:=j) hb (A.e X sc N a x g e3).he
     exact⟨.of h1 (h1.test λ_=>rfl) (λi z=>nomatch z),(λi z=>nomatch z)⟩
   ·cases h
  ·rename_i a m p2 bs pos2
   split at h
   ·rename_i hf
    rw [Bool.and_eq_true,Bool.and_eq_true,Bool.and_eq_true] at hf
    obtain⟨⟨⟨hb,hf⟩,hln⟩,h30⟩:=hf
    obtain⟨x,e1,h⟩:=qAb h
    cases e3:cEs G n sc N bs with
    | none=>rw [e3] at h;cases h
    | some ys =>
     rw [e3] at h
     cases h
     obtain⟨b1,b2,b3,b4⟩:=A.a X sc N bs ys g e3
     have h1:=qMH (p2:=p2) (pos2:=pos2) (m:=m) g hb (A.e X sc N a x g e1).he b3 (by intro z;subst z;exact absurd hf (by decide)) hln (of_decide_eq_true h30) b1
     exact⟨.of h1 (h1.test λ_=>rfl) (λi z=>nomatch z),(λi z=>nomatch z)⟩
   ·cases h
  ·cases h
 ·intro X sc N es cs g h
  unfold cJ at h
  split at h
  ·cases h;exact qIJ
  ·rename_i x j p r
   cases hx:cJ G n sc N r with
   | none=>rw [hx] at h;cases h
   | some xs =>
    rw [hx] at h
    cases h
    exact qEe (qC2 rfl) (A.j X sc N r xs g hx)
  ·rename_i e p r
   obtain⟨x,e1,e2⟩:=qAb h
   obtain⟨xs,e3,e4⟩:=qAb e2
   cases e4
   exact qEe (qML (A.e X sc N e x g e1).hp) (A.j X sc N r xs g e3)
  ·cases h
 ·intro X sc N es cs g h
  unfold cEs at h
  split at h
  ·cases h
   exact qGT
  ·rename_i a r
   obtain⟨x,e1,e2⟩:=qAb h
   obtain⟨xs,e3,e4⟩:=qAb e2
   cases e4
   exact qF9 (qAy (env:=X.env) (es:=r) (qCm e1)) (A.e X sc N a x g e1).hg (A.ga X sc N r xs g e3)
 ·intro X sc N es c g h
  unfold qMb at h
  split at h
  ·rename_i a
   have h0:=A.e X sc N a c g h
   exact qGQ h0.he h0.ht
  ·rename_i a b r
   obtain⟨x,e1,e2⟩:=qAb h
   obtain⟨y,e3,e4⟩:=qAb e2
   cases e4
   have h0:=A.e X sc N a x g e1
   exact qKX h0.he h0.ht (A.w X sc N (b::r) y g e3)
  ·cases h
 ·intro X sc N es c g h
  unfold cOr at h
  split at h
  ·rename_i a
   have h0:=A.e X sc N a c g h
   exact qGQ h0.he h0.ht
  ·rename_i a b r
   obtain⟨x,e1,e2⟩:=qAb h
   obtain⟨y,e3,e4⟩:=qAb e2
   cases e4
   have h0:=A.e X sc N a x g e1
   exact qMF h0.he h0.ht (A.v X sc N (b::r) y g e3)
  ·cases h
theorem qDE (hG:∀x∈qAI,G.defs.lookup x=none):∀n,AllE call G k n
 | 0=>qJz
 | n+1=>qJA hG (qDE hG n)
end
end Dw
namespace Dw
open PySem PySem.Spec PyProof.Rows L2
section
variable {call:Nat->List D->Option R}{G:Gx}{k:Nat}{X:Cx}{sc sc':Scope}{N:List Str}
theorem qJq (hG:∀x∈qAI,G.defs.lookup x=none) {n:Nat}(A:AllE call G k n) (g:XG call G k X sc N) {elt:Expr}{gens:List Comprehension}{pos:Pos}{c:C}(h:cE G (n+1) sc N (.ListComp elt gens sc' pos)=some c) (hx:cX G n sc N (.ListComp elt gens sc' pos)≠some c) :
  ∃(tg iter:Expr) (t:Tg) (ks:List Nat) (ce:C) (b:Bool) (src:En->Option (List D)),gens=[⟨tg,iter,[],0⟩]/\ScOk sc'/\qCX sc' (qAO sc'++qAw sc') tg=some t/\qAV (qCg sc N) (qAw sc')=some ks /\
    (∀X':Cx,XG call G k X' sc' (qAO sc'++qAw sc')->SndE call X' elt ce)/\qFi X tg iter b src/\(∀x,foldedSetIterable iter X.env x=pure x) /\
    (∀σ r,evE call σ c=some r->∃its ys,src σ=some its/\qAM call ce (qBb σ (qAO sc').length ks) t its=some ys/\r=(true,.lst ys)/\((b=true->its.length<=lim)->its.length<=lim)):=by
 unfold cE at h
 split at h
 any_goals (rename_i heq;first|cases heq|skip)
 all_goals first|(cases n<;>(cases h;done))|skip
 rotate_left
 ·exact absurd h hx
 rename_i _ tg it
 split at h
 ·rename_i hsc
  have S:=qCR hsc
  obtain⟨t,e1,e2⟩:=qAb h
  obtain⟨ks,e3,e4⟩:=qAb e2
  obtain⟨ce,e5,e6⟩:=qAb e4
  have he:∀X':Cx,XG call G k X' sc' (qAO sc'++qAw sc')->SndE call X' elt ce:=λX' g'=>(A.e X' sc' _ elt ce g' e5).he
  have hsr:=srk (sc:=sc) it
  cases hq:qIn sc it with
  | seq s =>
   rw [hq] at e6 hsr
   obtain⟨x,q1,q2⟩:=qAb e6
   cases q2
   cases hsr
   refine⟨tg,it,t,ks,ce,true,_,rfl,S,e1,e3,he,qC0 A g q1,qC5 q1 X.env,fun σ r hr=>?_⟩
   obtain⟨y,r1,r2⟩:=qAb (by simpa only [qDl] using hr)
   obtain⟨its,r3,r4⟩:=qAb r2
   obtain⟨ys,r5,r6⟩:=qAb r4
   cases r6
   exact⟨its,ys,by simp only [r1];exact r3,r5,rfl,λz=>z rfl⟩
  | rng rs =>
   rw [hq] at e6 hsr
   obtain⟨xs,q1,q2⟩:=qAb e6
   cases q2
   cases hsr with
   | rng f p as pos2 hg hf hl =>
    refine⟨tg,_,t,ks,ce,false,_,rfl,S,e1,e3,he,qC1 (p:=p) (pos:=pos2) A g hG hg hf hl q1,λ_=>rfl,fun σ r hr=>?_⟩
    obtain⟨y,r1,r2⟩:=qAb (by simpa only [qDm] using hr)
    obtain⟨its,r3,r4⟩:=qAb r2
    split at r4
    ·rename_i hle
     obtain⟨ys,r5,r6⟩:=qAb r4
     cases r6
     exact⟨its,ys,by simp only [r1];exact r3,r5,rfl,λ_=>hle⟩
    ·cases r4
  | zip a b =>
   rw [hq] at e6 hsr
   simp only at e6
   split at e6
   ·rename_i h2
    obtain⟨x,q1,q2⟩:=qAb e6
    obtain⟨y,q3,q4⟩:=qAb q2
    cases q4
    obtain⟨es,kk,tp,rfl⟩:=qEQ e1 h2
    cases hsr with
    | zip f p a b pos2 hg hf =>
     refine⟨_,_,t,ks,ce,true,_,rfl,S,e1,e3,he,qES (p:=p) (pos:=pos2) A g hG hg hf q1 q3,λ_=>rfl,fun σ r hr=>?_⟩
     obtain⟨z,r1,r2⟩:=qAb (by simpa only [qDk] using hr)
     obtain⟨z2,r3,r4⟩:=qAb r2
     obtain⟨xs,r5,r6⟩:=qAb r4
     obtain⟨ys,r7,r8⟩:=qAb r6
     obtain⟨zs,r9,r10⟩:=qAb r8
     cases r10
     exact⟨qCk xs ys,zs,by simp only [r1,r3,r5,r7,Option.bind_some],r9,rfl,λz=>z rfl⟩
   ·cases e6
  | rev rs=>rw [hq] at e6;cases e6
  | enm a=>rw [hq] at e6;cases e6
 ·cases h
theorem qHT (hG:∀x∈qAI,G.defs.lookup x=none) {n:Nat}(A:AllE call G k n) (g:XG call G k X sc N) {elt:Expr}{gens:List Comprehension}{pos:Pos}{c:C}(h:cX G (n+1) sc N (.ListComp elt gens sc' pos)=some c) :
  ∃(tg iter cnd:Expr) (t:Tg) (ks:List Nat) (ce cc:C) (b:Bool) (src:En->Option (List D)),gens=[⟨tg,iter,[cnd],0⟩]/\ScOk sc'/\qCX sc' (qAO sc'++qAw sc') tg=some t/\qAV (qCg sc N) (qAw sc')=some ks /\
    (∀X':Cx,XG call G k X' sc' (qAO sc'++qAw sc')->SndE call X' elt ce)/\(∀X':Cx,XG call G k X' sc' (qAO sc'++qAw sc')->qEG call X' cnd cc)/\qFi X tg iter b src/\(∀x,foldedSetIterable iter X.env x=pure x) /\
    (∀σ r,evE call σ c=some r->∃its ys,src σ=some its/\qBa call cc ce (qBb σ (qAO sc').length ks) t its=some ys/\r=(true,.lst ys)/\((b=true->its.length<=lim)->its.length<=lim)):=by
 unfold cX at h
 split at h
 any_goals (rename_i heq;first|cases heq|skip)
 all_goals first|(cases h;done)|skip
 rename_i _ tg it cd
 split at h
 ·rename_i hsc
  have S:=qCR hsc
  obtain⟨t,e1,e2⟩:=qAb h
  obtain⟨ks,e3,e4⟩:=qAb e2
  obtain⟨ce,e5,e6⟩:=qAb e4
  obtain⟨cc,e7,e8⟩:=qAb e6
  have hsr:=srk (sc:=sc) it
  cases hq:qIn sc it with
  | seq s =>
   rw [hq] at e8 hsr
   obtain⟨x,q1,q2⟩:=qAb e8
   cases q2
   cases hsr
   refine⟨tg,it,cd,t,ks,ce,cc,true,_,rfl,S,e1,e3,λX' g'=>(A.e X' sc' _ elt ce g' e5).he,λX' g'=>(A.e X' sc' _ cd cc g' e7).ht,qC0 A g q1,qC5 q1 X.env,fun σ r hr=>?_⟩
   obtain⟨y,r1,r2⟩:=qAb (by simpa only [qEs] using hr)
   obtain⟨its,r3,r4⟩:=qAb r2
   obtain⟨ys,r5,r6⟩:=qAb r4
   cases r6
   exact⟨its,ys,by simp only [r1];exact r3,r5,rfl,λz=>z rfl⟩
  | rng rs =>
   rw [hq] at e8 hsr
   obtain⟨xs,q1,q2⟩:=qAb e8
   cases q2
   cases hsr with
   | rng f p as pos2 hg hf hl =>
    refine⟨tg,_,cd,t,ks,ce,cc,false,_,rfl,S,e1,e3,λX' g'=>(A.e X' sc' _ elt ce g' e5).he,λX' g'=>(A.e X' sc' _ cd cc g' e7).ht,qC1 (p:=p) (pos:=pos2) A g hG hg hf hl q1,λ_=>rfl,fun σ r hr=>?_⟩
    obtain⟨y,r1,r2⟩:=qAb (by simpa only [qDn] using hr)
    obtain⟨its,r3,r4⟩:=qAb r2
    split at r4
    ·rename_i hle
     obtain⟨ys,r5,r6⟩:=qAb r4
     cases r6
     exact⟨its,ys,by simp only [r1];exact r3,r5,rfl,λ_=>hle⟩
    ·cases r4
  | _=>rw [hq] at e8;cases e8
 ·cases h
theorem qGF (elt:Expr) (gens:List Comprehension) (sc':Scope) (pos py:Pos) (x:Str) (ln:Nat) (env:Env):∃b:Bool,swapsWith (.ListComp elt gens sc' pos) (some (.Name x py)) ln env=pure b:=⟨_,rfl⟩
theorem qL1 (hG:∀x∈qAI,G.defs.lookup x=none) {n:Nat}(g:XG call G k X sc N) {e:Expr}{c:C}{x:Str}{i:Nat}{py spos:Pos}(h:cE G n sc N e=some c) (hx:(sc.names.lookup x == some .local||sc.names.lookup x == some .cell)=true) (hsl:qAP N x=some i) :
  ∃t:TS,PS X (.Assign [.Name x py] e spos) t/\∀(Ge:Gp) (H:Hp) (F:Fz) (σ:En) (τ:L2.St) (r:R) (Dn:Ends),evE call σ c=some r->SR X.K Ge H F σ τ->(∀v H' F',Gr H F H' F'->RR X.K H H' F' r v->Dn.nx (τ.set i (some v)) H')->t Dn τ H:=by
 obtain⟨l1,l2⟩:=qC9 g hx
 have plain:swapsWith e (some (.Name x py)) spos.line X.env=pure false->∃t:TS,PS X (.Assign [.Name x py] e spos) t/\∀(Ge:Gp) (H:Hp) (F:Fz) (σ:En) (τ:L2.St) (r:R) (Dn:Ends),evE call σ c=some r->SR X.K Ge H F σ τ->(∀v H' F',Gr H F H' F'->RR X.K H H' F' r v->Dn.nx (τ.set i (some v)) H')->t Dn τ H:=λhs=>by
  obtain⟨te,pe,qe⟩:=((qDE (call:=call) (k:=k) hG n).e X sc N e c g h).he
  exact⟨_,qM0 (i:=i) (by rw [g.hN];exact g.nd) (by rw [g.hN];exact qBc hsl) l1 pe hs l2,λGe H F σ τ r Dn h1 h2 h3=>qe Ge H F σ τ r _ h1 h2 h3⟩
 cases n with
 | zero=>cases h
 | succ n =>
  cases e with
  | ListComp elt gens sc' pos =>
   obtain⟨b,hb⟩:=qGF elt gens sc' pos py x spos.line X.env
   cases b with
   | false=>exact plain hb
   | true =>
    by_cases hx':cX G n sc N (.ListComp elt gens sc' pos)=some c
    ·cases n with
     | zero=>cases hx'
     | succ n =>
      obtain⟨tg,iter,cnd,t,ks,ce,cc,b,src,rfl,S,e1,e3,he,hcn,hi,hf,hc⟩:=qHT hG (qDE (call:=call) (k:=k) hG n) g hx'
      exact⟨_,qIi g S e1 e3 he hcn hi hf hc hx hsl hb,λGe H F σ τ r Dn h1 h2 h3=>⟨Ge,F,σ,r,h1,h2,h3⟩⟩
    obtain⟨tg,iter,t,ks,ce,b,src,rfl,S,e1,e3,he,hi,hf,hc⟩:=qJq hG (qDE (call:=call) (k:=k) hG n) g h hx'
    exact⟨_,qJw g S e1 e3 he hi hf hc hx hsl hb,λGe H F σ τ r Dn h1 h2 h3=>⟨Ge,F,σ,r,h1,h2,h3⟩⟩
  | SetComp _ _ _ _=>(cases n<;>cases h)
  | DictComp _ _ _ _ _=>(cases n<;>cases h)
  | _=>exact plain rfl
noncomputable def EndsOk (K:PySem.W.Frag) (Ge:Gp) (F0:Fz) (H:Hp) (F:Fz) (o:Ou) (Dn:Ends):Prop:=match o with
 | .nx σ'=>∀τ' H' F',Keep H F H' F'->Gr Ge F0 H' F'->SR K Ge H' F' σ' τ'->Dn.nx τ' H'
 | .rt r=>∀v H' F',Gr Ge F0 H' F'->RR K Ge H' F' r v->Dn.rt v H'
 | .bk σ'=>∀τ' H' F',Keep H F H' F'->Gr Ge F0 H' F'->SR K Ge H' F' σ' τ'->Dn.bk τ' H'
 | .ct σ'=>∀τ' H' F',Keep H F H' F'->Gr Ge F0 H' F'->SR K Ge H' F' σ' τ'->Dn.ct τ' H'
theorem EndsOk.mv {K:PySem.W.Frag}{Ge:Gp}{F0:Fz}{H H1:Hp}{F F1:Fz}{o:Ou}{Dn:Ends}(h:EndsOk K Ge F0 H F o Dn) (k:Keep H F H1 F1):EndsOk K Ge F0 H1 F1 o Dn:=by
 cases o with
 | nx σ'=>exact fun τ' H' F' k' g s=>h τ' H' F' (k.trans k') g s
 | rt r=>exact h
 | bk σ'=>exact fun τ' H' F' k' g s=>h τ' H' F' (k.trans k') g s
 | ct σ'=>exact fun τ' H' F' k' g s=>h τ' H' F' (k.trans k') g s
variable (call X) in
noncomputable def qKg (st:List Stmt) (cs:List S):Prop:=∃t:TS,PSs X st t/\∀(Ge:Gp) (F0:Fz) (H:Hp) (F:Fz) (σ:En) (τ:L2.St) (o:Ou) (Dn:Ends),qAr call σ cs=some o->SR X.K Ge H F σ τ->Gr Ge F0 H F->EndsOk X.K Ge F0 H F o Dn->t Dn τ H
variable (call X) in
noncomputable def qGp (st:Stmt) (cs:List S):Prop:=∃t:TS,PS X st t/\∀(Ge:Gp) (F0:Fz) (H:Hp) (F:Fz) (σ:En) (τ:L2.St) (o:Ou) (Dn:Ends),qAr call σ cs=some o->SR X.K Ge H F σ τ->Gr Ge F0 H F->EndsOk X.K Ge F0 H F o Dn->t Dn τ H
theorem qE6 (cx cy:List S):∀σ:En,qAr call σ (cx++cy)=(qAr call σ cx).bind (qKq fun σ'=>qAr call σ' cy):=by
 induction cx with
 | nil=>intro σ;rfl
 | cons a r ih =>
  intro σ
  rw [List.cons_append,qAS,qAS]
  rcases evS call σ a with _|(σ1|r1|σ1|σ1)
  ·rfl
  ·exact ih σ1
  ·rfl
  ·rfl
  ·rfl
theorem qKO:qKg call X [] []:=⟨_,qG1,λGe F0 H F σ τ o Dn h s g e=>by cases h;exact e τ H F Keep.refl g s⟩
theorem qIK {st:Stmt}{qAZ:List Stmt}{cx cy:List S}(h1:qGp call X st cx) (h2:qKg call X qAZ cy):qKg call X (st::qAZ) (cx++cy):=by
 obtain⟨t1,p1,q1⟩:=h1
 obtain⟨t2,p2,q2⟩:=h2
 refine⟨_,qFz p1 p2,λGe F0 H F σ τ o Dn h s g e=>?_⟩
 rw [qE6] at h
 obtain⟨o1,e1,e2⟩:=qAb h
 cases o1 with
 | nx σ1=>exact q1 Ge F0 H F σ τ (.nx σ1) { Dn with nx:=t2 Dn } e1 s g fun τ' H' F' k' g' s'=>q2 Ge F0 H' F' σ1 τ' o Dn e2 s' g' (e.mv k')
 | rt r=>cases e2;exact q1 Ge F0 H F σ τ (.rt r) { Dn with nx:=t2 Dn } e1 s g e
 | bk σ1=>cases e2;exact q1 Ge F0 H F σ τ (.bk σ1) { Dn with nx:=t2 Dn } e1 s g e
 | ct σ1=>cases e2;exact q1 Ge F0 H F σ τ (.ct σ1) { Dn with nx:=t2 Dn } e1 s g e
theorem SR.frz1 {K:PySem.W.Frag}{Ge:Gp}{H:Hp}{F F0:Fz}{σ:En}{τ:L2.St}(s:SR K Ge H F σ τ) (g:Gr Ge F0 H F) (i:Nat):∃F',SR K Ge H F' (Dw.frz1 σ i) τ/\Keep H F H F'/\Gr Ge F0 H F':=by
 unfold Dw.frz1
 split
 ·rename_i ds0 hd
  obtain⟨a,ds,vs,eq0,h2,h3,h4,h5,h6⟩:=s.own i _ hd rfl
  cases eq0
  have kp:Keep H F H (λb=>b=a∨F b):=⟨λ_ _ h=>h,λ_ _ f h=>⟨.inr f,h⟩,λ_ _ _ _ h=>h⟩
  refine⟨λb=>b=a∨F b,?_,kp,⟨g.same,λb f=>.inr (g.sub b f),λb f=>f.elim (λz=>.inr (z▸h3)) (g.new b),λb e f=>f.elim (λz=>by subst z;rw [h5] at e;cases e) (g.dom b e)⟩⟩
  have hl:=qA8 hd
  refine⟨by simp [s.len],s.ent,λb e f=>f.elim (λz=>by subst z;rw [h5] at e;cases e) (s.dom b e),λj e hj=>?_,λj e hj hde=>?_,λj l e e' hj hl' hjl=>?_,λj m ks hj=>?_,λp e hp hj=>?_⟩
  ·by_cases hij:i=j
   ·subst hij
    rw [qAD hl] at hj
    cases hj
    exact⟨.ref a,h2,a,vs,rfl,.inl ⟨.inl rfl,.inl h5⟩,RDs.mono kp h6⟩
   ·rw [qAE hij] at hj
    obtain⟨v,q1,q2⟩:=s.val j e hj
    exact⟨v,q1,RD.mono kp q2⟩
  ·have hij:i≠j:=λz=>by subst z;rw [qAD hl] at hj;cases hj
   rw [qAE hij] at hj
   obtain⟨a',ds',vs',p1,p2,p3,p4,p5,p6⟩:=s.own j e hj hde
   refine⟨a',ds',vs',p1,p2,p3,λf=>f.elim (λz=>?_) p4,p5,RDs.mono kp p6⟩
   subst z
   exact hij (s.sep i j _ _ hd hj (by rw [h2,p2]))
  ·have ne:∀{j:Nat} {e:D},qAe (σ.set i (some (false,.lst ds0))) j=some (true,e)->i≠j:=λ{j e} hj z=>by subst z;rw [qAD hl] at hj;cases hj
   have n1:=ne hj
   have n2:=ne hl'
   rw [qAE n1] at hj
   rw [qAE n2] at hl'
   exact s.sep j l e e' hj hl' hjl
  ·have hij:i≠j:=λz=>by subst z;rw [qAD hl] at hj;cases hj
   rw [qAE hij] at hj
   obtain⟨a',p1,p2,p3,p4⟩:=s.dct j m ks hj
   refine⟨a',p1,λf=>f.elim (λz=>?_) p2,p3,p4⟩
   subst z
   rw [h5] at p3
   cases p3
  ·have hij:i≠0:=λz=>by subst z;rw [qAD hl] at hj;cases hj
   rw [qAE hij] at hj
   exact s.pin p e hp hj
 ·exact⟨F,s,Keep.refl,g⟩
theorem SR.frzs {K:PySem.W.Frag}{Ge:Gp}{H:Hp}{F0:Fz}{τ:L2.St}:∀(js:List Nat) {σ:En}{F:Fz},SR K Ge H F σ τ->Gr Ge F0 H F->∃F',SR K Ge H F' (js.foldl Dw.frz1 σ) τ/\Keep H F H F'/\Gr Ge F0 H F'
 | [],σ,F,s,g=>⟨F,s,Keep.refl,g⟩
 | j::js,σ,F,s,g=>by
  obtain⟨F1,s1,k1,g1⟩:=SR.frz1 s g j
  obtain⟨F2,s2,k2,g2⟩:=SR.frzs js s1 g1
  exact⟨F2,s2,k1.trans k2,g2⟩
theorem qA5 {st:Stmt}{mt is:List Nat}{s:S}(h:qGp call X st [s]):qGp call X st (qCV mt is s):=by
 unfold qCV
 split
 ·exact h
 ·obtain⟨t,p,q⟩:=h
  refine⟨t,p,λGe F0 H F σ τ o Dn hv hs g e=>?_⟩
  obtain⟨F',s',k',g'⟩:=SR.frzs (is.filter (mt.contains ·)) hs g
  exact q Ge F0 H F' _ τ o Dn hv s' g' (e.mv k')
end
end Dw
namespace Dw
open PySem PySem.Spec PyProof.Rows L2
section
variable {call:Nat->List D->Option R}{G:Gx}{k:Nat}{X:Cx}{sc sc':Scope}{N:List Str}
theorem qBk (σ:En) (s:S):qAr call σ [s]=evS call σ s:=by
 rw [qAS]
 rcases evS call σ s with _|(_|_|_|_)<;>rfl
theorem SR.bindOwn {K:PySem.W.Frag}{Ge:Gp}{H H1:Hp}{F F1:Fz}{σ:En}{τ:L2.St}{i:Nat}{d:D}{v:V}(h0:i≠0) (s0:SR K Ge H F σ τ) (s:SR K Ge H1 F1 σ τ) (h:RR K H H1 F1 (true,d) v):SR K Ge H1 F1 (σ.set i (some (true,d))) (τ.set i (some v)):=by
 obtain⟨a,ds,vs,rfl,rfl,h3,h4,h5,h6⟩:=h
 have hne:∀{j:Nat} {e:D} {a':Addr},qAe σ j=some (true,e)->τ[j]?=some (some (.ref a'))->a'≠a:=λ{j e a'} hj ht z=>by
  obtain⟨b,u,q2,_,q5⟩:=s0.addr hj
  rw [ht] at q2
  cases q2
  subst z
  rw [h3] at q5
  cases q5
 refine⟨by simp [s.len],s.ent,s.dom,λj e hj=>?_,λj e hj hde=>?_,λj l e e' hj hl hjl=>?_,λj m ks hj=>?_,λp e hp hj=>?_⟩
 ·have hij:i≠j:=λz=>by
   subst z
   rw [qAD (by simpa using qA8 hj)] at hj
   cases hj
  rw [qAE hij] at hj
  obtain⟨u,q1,q2⟩:=s.val j e hj
  exact⟨u,by rw [List.getElem?_set_ne hij];exact q1,q2⟩
 ·by_cases hij:i=j
  ·subst hij
   have hl:i<σ.length:=by simpa using qA8 hj
   rw [qAD hl] at hj
   cases hj
   exact⟨a,ds,vs,rfl,by rw [List.getElem?_set_self (by rw [<-s.len];exact hl)],s0.ent.free h3,h4,h5,h6⟩
  ·rw [qAE hij] at hj
   obtain⟨a',ds',vs',q1,q2,q3⟩:=s.own j e hj hde
   exact⟨a',ds',vs',q1,by rw [List.getElem?_set_ne hij];exact q2,q3⟩
 ·by_cases n1:i=j
  ·by_cases n2:i=l
   ·rw [<-n1,<-n2]
   ·subst n1
    have hl':i<σ.length:=by simpa using qA8 hj
    rw [qAE n2] at hl
    obtain⟨b,u,q2,_⟩:=s.addr hl
    rw [List.getElem?_set_self (by rw [<-s.len];exact hl'),List.getElem?_set_ne n2,q2] at hjl
    cases hjl
    exact absurd rfl (hne hl q2)
  ·rw [qAE n1] at hj
   by_cases n2:i=l
   ·subst n2
    have hl':i<σ.length:=by simpa using qA8 hl
    obtain⟨b,u,q2,_⟩:=s.addr hj
    rw [List.getElem?_set_self (by rw [<-s.len];exact hl'),List.getElem?_set_ne n1,q2] at hjl
    cases hjl
    exact absurd rfl (hne hj q2)
   ·rw [qAE n2] at hl
    rw [List.getElem?_set_ne n1,List.getElem?_set_ne n2] at hjl
    exact s.sep j l e e' hj hl hjl
 ·have hij:i≠j:=λz=>by
   subst z
   rw [qAD (by simpa using qA8 hj)] at hj
   cases hj
  rw [qAE hij] at hj
  obtain⟨a',q1,q2⟩:=s.dct j m ks hj
  exact⟨a',by rw [List.getElem?_set_ne hij];exact q1,q2⟩
 ·rw [qAE h0] at hj
  rw [List.getElem?_set_ne h0]
  exact s.pin p e hp hj
theorem qKJ (hG:∀x∈qAI,G.defs.lookup x=none) {n:Nat}(g:XG call G k X sc N) {e:Expr}{c:C}{x:Str}{i:Nat}{keep:Bool}{py spos:Pos}(h0:keep=true->i≠0) (h:cE G n sc N e=some c) (hx:(sc.names.lookup x == some .local||sc.names.lookup x == some .cell)=true) (hsl:qAP N x=some i) :
  qGp call X (.Assign [.Name x py] e spos) [.set i keep c]:=by
 obtain⟨t,p,q⟩:=qL1 (py:=py) (spos:=spos) hG g h hx hsl
 refine⟨t,p,λGe F0 H F σ τ o Dn hv hs gr en=>?_⟩
 rw [qBk,qHz] at hv
 obtain⟨r,e1,e2⟩:=qAb hv
 cases e2
 refine q Ge H F σ τ r Dn e1 hs λv H' F' g' rr=>?_
 obtain⟨b,d⟩:=r
 have froz:qAz keep (b,d)=(false,d)->Dn.nx (τ.set i (some v)) H':=λhk=>by
  obtain⟨F2,g2,rd⟩:=rr.fz g'
  have en':∀τ' H' F',Keep H F H' F'->Gr Ge F0 H' F'->SR X.K Ge H' F' (σ.set i (some (qAz keep (b,d)))) τ'->Dn.nx τ' H':=en
  rw [hk] at en'
  exact en' _ H' F2 g2.keep (gr.trans g2) ((hs.grow g2).bind rd)
 cases b with
 | false=>exact froz (by cases keep<;>rfl)
 | true =>
  cases keep with
  | false=>exact froz rfl
  | true=>exact en _ H' F' g'.keep (gr.trans g') (SR.bindOwn (h0 rfl) hs (hs.grow g') rr)
theorem qDT {H:Hp}{F:Fz}{a:Addr}{vs ws:List V}(h:H a=some (.lst vs)) (hf:¬F a):Keep H F (upd H a (.lst ws)) F:=⟨λp xs q=>by
  have ne:p≠a:=λz=>by subst z;rcases q with q|⟨o,q⟩<;>(rw [h] at q;cases q)
  rcases q with q|⟨o,q⟩
  ·exact .inl (by rw [qAq ne];exact q)
  ·exact .inr ⟨o,by rw [qAq ne];exact q⟩,λp xs f q=>by
  have ne:p≠a:=λz=>by subst z;exact hf f
  refine⟨f,?_⟩
  rcases q with q|⟨o,q⟩
  ·exact .inl (by rw [qAq ne];exact q)
  ·exact .inr ⟨o,by rw [qAq ne];exact q⟩,λp C dx fs q=>by rw [qAq (λz=>by subst z;rw [h] at q;cases q)];exact q⟩
theorem qFD {Ge:Gp}{H:Hp}{F0 F:Fz}{a:Addr}{vs ws:List V}(g:Gr Ge F0 H F) (h:H a=some (.lst vs)) (hg:Ge a=none):Gr Ge F0 (upd H a (.lst ws)) F:=⟨λb o e=>by rw [qAq (qAA e hg)];exact g.same b o e,g.sub,g.new,λb e=>by
  by_cases z:b=a
  ·subst z;rw [qAJ] at e;cases e
  ·rw [qAq z] at e;exact g.dom b e⟩
theorem qJV {K:PySem.W.Frag}{Ge:Gp}{H:Hp}{F0 F:Fz}{σ:En}{τ:L2.St}{i:Nat}{a:Addr}{ds es:List D}{vs ws:List V}(s:SR K Ge H F σ τ) (g:Gr Ge F0 H F) (hi:qAe σ i=some (true,.lst ds)) (ht:τ[i]?=some (some (.ref a))) (hg:Ge a=none) (hf:¬F a) (h:H a=some (.lst vs)) (r:RDs K H F es ws) :
  SR K Ge (upd H a (.lst ws)) F (σ.set i (some (true,.lst es))) τ:=by
 have kp:=qDT (ws:=ws) h hf
 have hl:=qA8 hi
 refine⟨by simp [s.len],(qFD (ws:=ws) g h hg).same,(qFD (ws:=ws) g h hg).dom,λj e hj=>?_,λj e hj hde=>?_,λj l e e' hj hl' hjl=>?_,λj m ks hj=>?_,λp e hp hj=>?_⟩
 ·have hij:i≠j:=λz=>by subst z;rw [qAD hl] at hj;cases hj
  rw [qAE hij] at hj
  obtain⟨v,q1,q2⟩:=s.val j e hj
  exact⟨v,q1,RD.mono kp q2⟩
 ·by_cases hij:i=j
  ·subst hij
   rw [qAD hl] at hj
   cases hj
   exact⟨a,es,ws,rfl,ht,hg,hf,qAJ,RDs.mono kp r⟩
  ·rw [qAE hij] at hj
   obtain⟨a',ds',vs',p1,p2,p3,p4,p5,p6⟩:=s.own j e hj hde
   have ne:a'≠a:=λz=>by subst z;exact hij (s.sep i j _ _ hi hj (by rw [ht,p2]))
   exact⟨a',ds',vs',p1,p2,p3,p4,by rw [qAq ne];exact p5,RDs.mono kp p6⟩
 ·have back:∀{j:Nat} {e:D},qAe (σ.set i (some (true,.lst es))) j=some (true,e)->∃e',qAe σ j=some (true,e'):=λ{j e} hj=>by
   by_cases hij:i=j
   ·subst hij;exact⟨_,hi⟩
   ·rw [qAE hij] at hj;exact⟨e,hj⟩
  obtain⟨_,b1⟩:=back hj
  obtain⟨_,b2⟩:=back hl'
  exact s.sep j l _ _ b1 b2 hjl
 ·have hij:i≠j:=λz=>by subst z;rw [qAD hl] at hj;cases hj
  rw [qAE hij] at hj
  obtain⟨a',p1,p2,p3,p4⟩:=s.dct j m ks hj
  have ne:a'≠a:=λz=>by subst z;rw [h] at p3;cases p3
  exact⟨a',p1,p2,by rw [qAq ne];exact p3,p4⟩
 ·by_cases hij:i=0
  ·subst hij;exact s.pin p _ hp hi
  ·rw [qAE hij] at hj;exact s.pin p e hp hj
theorem qB9 {K:PySem.W.Frag}{Ge:Gp}{H:Hp}{F:Fz}{σ:En}{τ:L2.St}{i:Nat}{ds:List D}(s:SR K Ge H F σ τ) (h:qAe σ i=some (true,.lst ds)):∃a vs,τ[i]?=some (some (.ref a))/\Ge a=none/\¬F a/\H a=some (.lst vs)/\RDs K H F ds vs:=by
 obtain⟨a,ds',vs,e,h2,h3,h4,h5,h6⟩:=s.own i _ h rfl
 cases e
 exact⟨a,vs,h2,h3,h4,h5,h6⟩
theorem qCD {H H':Hp}{F F':Fz}{a b:Addr}{u:HO}(g:Gr (del H a) F H' F') (ne:b≠a) (q:H b=some u):H' b=some u:=g.same _ _ (by unfold del;rw [if_neg ne];exact q)
theorem qEn {H H':Hp}{F F':Fz}{a:Addr}{vs:List V}(h:H a=some (.lst vs)) (hf:¬F a) (g:Gr (del H a) F H' F'):Keep H F H' F':=⟨λp xs q=>by
  have ne:p≠a:=λz=>by subst z;rcases q with q|⟨o,q⟩<;>(rw [h] at q;cases q)
  rcases q with q|⟨o,q⟩
  ·exact .inl (qCD g ne q)
  ·exact .inr ⟨o,qCD g ne q⟩,λp xs f q=>by
  have ne:p≠a:=λz=>by subst z;exact hf f
  refine⟨g.sub _ f,?_⟩
  rcases q with q|⟨o,q⟩
  ·exact .inl (qCD g ne q)
  ·exact .inr ⟨o,qCD g ne q⟩,λp C dx fs q=>qCD g (λz=>by subst z;rw [h] at q;cases q) q⟩
theorem qLK {Ge:Gp}{H H':Hp}{F0 F F':Fz}{a:Addr}(g:Gr Ge F0 H F) (hg:Ge a=none) (g2:Gr (del H a) F H' F'):Gr Ge F0 H' F':=
 ⟨λb o e=>qCD g2 (qAA e hg) (g.same b o e),λb f=>g2.sub b (g.sub b f),λb f=>(g2.new b f).elim (λz=>g.new b z) λz=>by
  by_cases e:b=a
  ·subst e;exact .inr hg
  ·unfold del at z;rw [if_neg e] at z;exact .inr (g.same.free z),g2.dom⟩
theorem qLJ {K:PySem.W.Frag}{Ge:Gp}{H H':Hp}{F F':Fz}{σ:En}{τ:L2.St}{i:Nat}{a:Addr}{ds es:List D}{vs ws:List V}(s:SR K Ge H F σ τ) (hi:qAe σ i=some (true,.lst ds)) (ht:τ[i]?=some (some (.ref a))) (hg:Ge a=none) (hf:¬F a) (h:H a=some (.lst vs)) (g2:Gr (del H a) F H' F') (h':H' a=some (.lst ws)) (hf':¬F' a) (r:RDs K H' F' es ws) :
  SR K Ge H' F' (σ.set i (some (true,.lst es))) τ:=by
 have kp:=qEn h hf g2
 have hl:=qA8 hi
 have nf:∀{b:Addr} {u:HO},b≠a->H b=some u->¬F b->¬F' b:=λ{b u} ne q hb z=>(g2.new b z).elim hb λz=>by
  unfold del at z
  rw [if_neg ne,q] at z
  cases z
 refine⟨by simp [s.len],λb o e=>qCD g2 (qAA e hg) (s.ent b o e),g2.dom,λj e hj=>?_,λj e hj hde=>?_,λj l e e' hj hl' hjl=>?_,λj m ks hj=>?_,λp e hp hj=>?_⟩
 ·have hij:i≠j:=λz=>by subst z;rw [qAD hl] at hj;cases hj
  rw [qAE hij] at hj
  obtain⟨v,q1,q2⟩:=s.val j e hj
  exact⟨v,q1,RD.mono kp q2⟩
 ·by_cases hij:i=j
  ·subst hij
   rw [qAD hl] at hj
   cases hj
   exact⟨a,es,ws,rfl,ht,hg,hf',h',r⟩
  ·rw [qAE hij] at hj
   obtain⟨a',ds',vs',p1,p2,p3,p4,p5,p6⟩:=s.own j e hj hde
   have ne:a'≠a:=λz=>by subst z;exact hij (s.sep i j _ _ hi hj (by rw [ht,p2]))
   exact⟨a',ds',vs',p1,p2,p3,nf ne p5 p4,qCD g2 ne p5,RDs.mono kp p6⟩
 ·have back:∀{j:Nat} {e:D},qAe (σ.set i (some (true,.lst es))) j=some (true,e)->∃e',qAe σ j=some (true,e'):=λ{j e} hj=>by
   by_cases hij:i=j
   ·subst hij;exact⟨_,hi⟩
   ·rw [qAE hij] at hj;exact⟨e,hj⟩
  obtain⟨_,b1⟩:=back hj
  obtain⟨_,b2⟩:=back hl'
  exact s.sep j l _ _ b1 b2 hjl
 ·have hij:i≠j:=λz=>by subst z;rw [qAD hl] at hj;cases hj
  rw [qAE hij] at hj
  obtain⟨a',p1,p2,p3,p4⟩:=s.dct j m ks hj
  have ne:a'≠a:=λz=>by subst z;rw [h] at p3;cases p3
  exact⟨a',p1,nf ne p3 p2,qCD g2 ne p3,p4⟩
 ·by_cases hij:i=0
  ·subst hij;exact s.pin p _ hp hi
  ·rw [qAE hij] at hj;exact s.pin p e hp hj
theorem qFC {r:R}{xs:List D}(h:qLd r=some xs):r=(true,.lst xs):=by
 unfold qLd at h
 split at h
 ·cases h;rfl
 ·cases h
theorem qKS {n:Nat}(A:AllE call G k n) (g:XG call G k X sc N) {f x:Str}{fi i:Nat}(hf:G.defs.lookup f=some fi) (hg:glB sc f=true) (hd:(f == ("__debug__":Str))=false) {as:List Expr}{cs:List C}{p p2 pos spos:Pos}(hv:qBr sc N x=some i) (h:cEs G n sc N as=some cs) :
  qGp call X (.Expr (.Call (.Name f p) (.Name x p2::as) [] pos) spos) [.hnd i fi cs]:=by
 obtain⟨h1,h2,h3,h4⟩:=qCL g hv
 obtain⟨a1,_,hn,_⟩:=A.a X sc N as cs g h
 obtain⟨a,fd,ps,hm,hk,hb,hF,hl⟩:=(g.hnd f fi hf).ex
 obtain⟨t,pt,q⟩:=a1
 refine⟨_,qG2 (qG8 hF g.room (g.gl f hg) hm hk hb .nil qG9 (qBG (qCh (pos:=p2) (i:=i) h1 h2 h3 h4) pt (qAy rfl)) hd (qAy rfl) (qBs hn)),λGe F0 H F σ τ o Dn hv hs gr en=>?_⟩
 rw [qBk,qHC] at hv
 obtain⟨r,er,hv⟩:=qAb hv
 obtain⟨xs,ex,hv⟩:=qAb hv
 obtain⟨ys,ey,hv⟩:=qAb hv
 obtain⟨⟨b,d⟩,ec,hv⟩:=qAb hv
 rw [qFC ex] at er
 cases d with
 | lst zs =>
  cases hv
  obtain⟨a',vs,q1,q2,q3,q4,q5⟩:=qB9 hs er
  refine⟨.ref a',q1,?_⟩
  refine q Ge H F σ τ ys _ ey hs λws H1 F1 g1 rs=>?_
  have s1:=hs.grow g1
  obtain⟨a2,vs',q1',q2',q3',q4',q5'⟩:=qB9 s1 er
  rw [q1] at q1'
  cases q1'
  show spH X.K ps.length (call (fi+HX)) ((V.ref a'::ws)++[]) H1 _ _
  rw [List.append_nil]
  refine⟨by rw [List.length_cons,RDs.length rs];exact hl _ _ ec,F1,a',xs,ys,zs,vs',ws,b,rfl,g1.dom,q4',q3',q5',rs,ec,λH' F' us g2 h' hf' r'=>?_⟩
  exact en _ H' F' (g1.keep.trans (qEn q4' q3' g2)) (qLK (gr.trans g1) q2' g2) (qLJ s1 er q1 q2' q3' q4' g2 h' hf' r')
 | _=>cases hv
theorem qKW {n:Nat}(A:AllE call G k n) (g:XG call G k X sc N) {x m:Str}{i:Nat}{p p2 p3 spos:Pos}{e:Expr}{c:C}(hm:m=Str.ofString "append") (hln:(p2.endLine == p3.line)=true) (hv:qBr sc N x=some i) (h:cE G n sc N e=some c) :
  qGp call X (.Expr (.Call (.Attribute (.Name x p) m p2) [e] [] p3) spos) [.app i c]:=by
 subst hm
 obtain⟨h1,h2,h3,h4⟩:=qCL g hv
 obtain⟨te,pe,qe⟩:=(A.e X sc N e c g h).he
 have pn:PE X (.Name x p) (qMx i):=qCh h1 h2 h3 h4
 have hst:=qAy (env:=X.env) (es:=[]) (qCm h)
 refine⟨_,qG2 (qPi PySem.F.plainAttrs_list PySem.F.slot_list_append PySem.F.type_list_append qC6 pn (qBG pe qDC hst) (hfew:=by rw [hst];rfl) (hline:=hln) (hs:=hst)),λGe F0 H F σ τ o Dn hvv hs gr en=>?_⟩
 rw [qBk,qHD] at hvv
 obtain⟨r,e1,e2⟩:=qAb hvv
 unfold qJy at e2
 split at e2
 ·rename_i xs hg
  split at e2
  ·rename_i hlt
   cases e2
   obtain⟨a,vs,q1,q2,q3,q4,q5⟩:=qB9 hs hg
   refine⟨.ref a,q1,.inl ⟨rfl,_,SqL.of q4⟩,?_⟩
   refine qe Ge H F σ τ r _ e1 hs λv H1 F1 g1 rr=>?_
   obtain⟨F2,g2,rd⟩:=rr.fz g1
   have s2:=hs.grow g2
   obtain⟨a',vs',q1',q2',q3',q4',q5'⟩:=qB9 s2 hg
   rw [q1] at q1'
   cases q1'
   have gr2:=gr.trans g2
   refine⟨a,vs',v,rfl,rfl,q4',by rw [RDs.length q5'];exact hlt,?_⟩
   exact en _ _ F2 (g2.keep.trans (qDT q4' q3')) (qFD gr2 q4' q2') (qJV s2 gr2 hg q1 q2' q3' q4' (RDs.append q5' ⟨v,[],rfl,rd,rfl⟩))
  ·cases e2
 ·cases e2
theorem RDs.last {K:PySem.W.Frag}{H:Hp}{F:Fz}{ds:List D}{vs:List V}{d:D}(h:RDs K H F ds vs) (e:ds.getLast?=some d):∃v,vs[vs.length - 1]?=some v/\RD K H F d v:=by
 rw [List.getLast?_eq_getElem?] at e
 obtain⟨v,e1,e2⟩:=RDs.get h e
 exact⟨v,by rw [RDs.length h];exact e1,e2⟩
theorem RDs.init {K:PySem.W.Frag}{H:Hp}{F:Fz}{ds:List D}{vs:List V}(h:RDs K H F ds vs):RDs K H F ds.dropLast vs.dropLast:=by
 rw [List.dropLast_eq_take,List.dropLast_eq_take,RDs.length h]
 exact RDs.take _ h
theorem qGN (g:XG call G k X sc N) {tg:Expr}{x m:Str}{i:Nat}{p p2 p3 spos:Pos}{t:Tg}(hm:m=Str.ofString "pop") (hln:(p2.endLine == p3.line)=true) (ht:tgM sc N tg=some t) (hv:qBr sc N x=some i) (h1':swapsWithSole [tg] (.Call (.Attribute (.Name x p) m p2) [] [] p3) spos.line X.env=pure false) (h2':swappedStores [tg] (.Call (.Attribute (.Name x p) m p2) [] [] p3) X.env=pure none) (h3':(assignEach [tg] X.env).map (·.2)=[assign tg X.env]) :
  qGp call X (.Assign [tg] (.Call (.Attribute (.Name x p) m p2) [] [] p3) spos) [.pop t i]:=by
 subst hm
 obtain⟨h1,h2,h3,h4⟩:=qCL g hv
 have pn:PE X (.Name x p) (qMx i):=qCh h1 h2 h3 h4
 refine⟨_,qM3 (qNh PySem.F.plainAttrs_list PySem.F.slot_list_pop PySem.F.type_list_pop qNB pn (hline:=hln)) (qGL g ht) h1' h2' h3',λGe F0 H F σ τ o Dn hvv hs gr en=>?_⟩
 rw [qBk,qHA] at hvv
 unfold qOE at hvv
 split at hvv
 ·rename_i xs hg
  obtain⟨d,e1,e2⟩:=qAb hvv
  obtain⟨σ',e3,e4⟩:=Option.map_eq_some_iff.mp e2
  subst e4
  obtain⟨a,vs,q1,q2,q3,q4,q5⟩:=qB9 hs hg
  obtain⟨y,l1,l2⟩:=RDs.last q5 e1
  refine⟨.ref a,q1,.inl ⟨rfl,_,SqL.of q4⟩,a,vs,y,rfl,rfl,q4,l1,?_⟩
  have kp:=qDT (ws:=vs.dropLast) q4 q3
  have gr2:=qFD (ws:=vs.dropLast) gr q4 q2
  exact qCu (qJV hs gr hg q1 q2 q3 q4 (RDs.init q5)) e3 (RD.mono kp l2) fun τ' s'=>en τ' _ F kp gr2 s'
 ·cases hvv
theorem qGK {n:Nat}(A:AllE call G k n) (g:XG call G k X sc N) {t:Expr}{c:C}{body:List Stmt}{cb:List S}{spos:Pos}(h:cE G n sc N t=some c) (hb:qKg call X body cb):qGp call X (.While t body [] spos) [.whl c cb]:=by
 obtain⟨tt,pt,qt⟩:=(A.e X sc N t c g h).ht
 obtain⟨tb,pb,qb⟩:=hb
 refine⟨_,qIR (by rw [g.xe];exact PassesOwn.never) pt pb,λGe F0 H F σ τ o Dn hvv hs gr en=>?_⟩
 rw [qBk,qHy] at hvv
 refine⟨λm τ' H'=>∃F' σ',SR X.K Ge H' F' σ' τ'/\Gr Ge F0 H' F'/\Keep H F H' F'/\qDF (fun σ'=>evE call σ' c) (fun σ'=>qAr call σ' cb) m σ'=some o,⟨big,F,σ,hs,gr,Keep.refl,hvv⟩,?_⟩
 rintro m τ' H' ⟨F',σ',sr',gr',kp',ev'⟩
 cases m with
 | zero=>cases ev'
 | succ m =>
  obtain⟨⟨x,d⟩,e1,e2⟩:=qAb (show ((evE call σ' c).bind (qOL σ' ((qAr call σ' cb).bind (qJa (qDF (fun σ'=>evE call σ' c) (fun σ'=>qAr call σ' cb) m)))))=some o from ev')
  cases d with
  | bl b =>
   refine qt Ge H' F' σ' τ' x b _ e1 sr' λH1 F1 g1=>?_
   cases b with
   | false =>
    cases e2
    exact qQe (en τ' H1 F1 (kp'.trans g1.keep) (gr'.trans g1) (sr'.grow g1))
   | true =>
    obtain⟨o1,b2,e3⟩:=qAb (show ((qAr call σ' cb).bind (qJa (qDF (fun σ'=>evE call σ' c) (fun σ'=>qAr call σ' cb) m)))=some o from e2)
    refine qQc ?_
    cases o1 with
    | nx σ2=>exact⟨fun τ2 H2=>∃F2,SR X.K Ge H2 F2 σ2 τ2/\Gr Ge F0 H2 F2/\Keep H F H2 F2,fun τ2 H2 ⟨F2,q1,q2,q3⟩=>⟨m,by omega,F2,σ2,q1,q2,q3,e3⟩,qb Ge F0 H1 F1 σ' τ' (.nx σ2) _ b2 (sr'.grow g1) (gr'.trans g1) fun τ5 H5 F5 k5 g5 s5=>⟨F5,s5,g5,(kp'.trans g1.keep).trans k5⟩⟩
    | ct σ2=>exact⟨fun τ2 H2=>∃F2,SR X.K Ge H2 F2 σ2 τ2/\Gr Ge F0 H2 F2/\Keep H F H2 F2,fun τ2 H2 ⟨F2,q1,q2,q3⟩=>⟨m,by omega,F2,σ2,q1,q2,q3,e3⟩,qb Ge F0 H1 F1 σ' τ' (.ct σ2) _ b2 (sr'.grow g1) (gr'.trans g1) fun τ5 H5 F5 k5 g5 s5=>⟨F5,s5,g5,(kp'.trans g1.keep).trans k5⟩⟩
    | bk σ2 =>
     cases e3
     exact⟨λ_ _=>False,λ_ _ z=>z.elim,qb Ge F0 H1 F1 σ' τ' (.bk σ2) _ b2 (sr'.grow g1) (gr'.trans g1) fun τ5 H5 F5 k5 g5 s5=>en τ5 H5 F5 ((kp'.trans g1.keep).trans k5) g5 s5⟩
    | rt r =>
     cases e3
     exact⟨λ_ _=>False,λ_ _ z=>z.elim,qb Ge F0 H1 F1 σ' τ' (.rt r) _ b2 (sr'.grow g1) (gr'.trans g1) en⟩
  | _=>cases e2
theorem qKM (hG:∀x∈qAI,G.defs.lookup x=none) {n:Nat}(g:XG call G k X sc N) {e:Expr}{c:C}{spos:Pos}(h:cE G n sc N e=some c):qGp call X (.Return (some e) spos) [.ret c]:=by
 have ok:=(qDE (call:=call) (k:=k) hG n).e X sc N e c g h
 by_cases hc:∃i,c=.v i
 ·obtain⟨i,rfl⟩:=hc
  cases n with
  | zero=>cases h
  | succ n =>
   have hn:∃x p,e=.Name x p/\qBr sc N x=some i:=by
    rcases ok.nv with ⟨x,p,rfl⟩|z
    ·exact⟨x,p,rfl,qFe h⟩
    ·exact absurd rfl (z i)
   obtain⟨x,p,rfl,hv⟩:=hn
   obtain⟨h1,h2,h3,h4⟩:=qCL g hv
   refine⟨_,qJS (qCh h1 h2 h3 h4),λGe F0 H F σ τ o Dn hvv hs gr en=>?_⟩
   rw [qBk,qE7] at hvv
   obtain⟨r,e1,e2⟩:=qAb hvv
   cases e2
   have e1:(qAe σ i).bind rtR=some r:=e1
   obtain⟨⟨b,d⟩,e0,e1⟩:=qAb e1
   cases b with
   | false =>
    cases e1
    obtain⟨v,q1,q2⟩:=hs.val i d e0
    exact⟨v,q1,en v H F gr q2⟩
   | true =>
    cases d with
    | lst ds0 =>
     cases e1
     obtain⟨a,ds,vs,q1,q2,q3,q4,q5,q6⟩:=hs.own i _ e0 rfl
     exact⟨.ref a,q2,en _ H F gr ⟨a,ds,vs,q1,rfl,q3,q4,q5,q6⟩⟩
    | _=>cases e1
 ·obtain⟨te,pe,qe⟩:=ok.he
  refine⟨_,qJS pe,λGe F0 H F σ τ o Dn hvv hs gr en=>?_⟩
  rw [qBk,qE7] at hvv
  obtain⟨r,e1,e2⟩:=qAb hvv
  cases e2
  have e1':evE call σ c=some r:=by
   cases c with
   | v i=>exact absurd ⟨i,rfl⟩ hc
   | _=>exact e1
  exact qe Ge H F σ τ r _ e1' hs λv H' F' g' rr=>en v H' F' (gr.trans g') (rr.back hs.ent)
theorem qMJ {n:Nat}(A:AllE call G k n) (g:XG call G k X sc N) {t:Expr}{c:C}{a b:List Stmt}{ca cb:List S}{spos:Pos}(h:cE G n sc N t=some c) (ha:qKg call X a ca) (hb:qKg call X b cb):qGp call X (.If t a b spos) [.ite c ca cb]:=by
 obtain⟨tt,pt,qt⟩:=(A.e X sc N t c g h).ht
 obtain⟨ta,pa,qa⟩:=ha
 obtain⟨tb,pb,qb⟩:=hb
 refine⟨_,qPb pt pa pb,λGe F0 H F σ τ o Dn hvv hs gr en=>?_⟩
 rw [qBk,qHB] at hvv
 obtain⟨r,e1,e2⟩:=qAb hvv
 obtain⟨x,d⟩:=r
 cases d with
 | bl bb =>
  refine qt Ge H F σ τ x bb _ e1 hs λH' F' g'=>?_
  cases bb with
  | true=>exact qQc (qa Ge F0 H' F' σ τ o Dn e2 (hs.grow g') (gr.trans g') (en.mv g'.keep))
  | false=>exact qQe (qb Ge F0 H' F' σ τ o Dn e2 (hs.grow g') (gr.trans g') (en.mv g'.keep))
 | _=>cases e2
theorem qET (g:XG call G k X sc N) {tg it:Expr}{t:Tg}{b:Bool}{src:En->Option (List D)}{body:List Stmt}{cb:List S}{s:S}{spos:Pos}(ht:tgM sc N tg=some t) (hi:qFi X tg it b src) (hf:∀x,foldedSetIterable it X.env x=pure x) (hb:qKg call X body cb)
  (hv:∀σ o,evS call σ s=some o->∃its,src σ=some its/\qA7 call cb t its σ=some o):qGp call X (.For tg it body [] spos) [s]:=by
 obtain⟨wi,pi,qi⟩:=hi
 obtain⟨tb,pb,qb⟩:=hb
 have pg:=qGL g ht
 refine⟨_,qM1 (by rw [g.xe];exact PassesOwn.never) g.calm pi pg pb hf,λGe F0 H F σ τ o Dn hvv hs gr en=>?_⟩
 rw [qBk] at hvv
 obtain⟨its,e1,e2⟩:=hv σ o hvv
 refine qi Ge H F σ τ its _ e1 hs λJ H1 F1 g1 ok1 _=>?_
 refine⟨λi m τ' H'=>i<=its.length/\m=its.length - i/\∃F' σ',SR X.K Ge H' F' σ' τ'/\Gr Ge F0 H' F'/\Keep H1 F1 H' F'/\qA7 call cb t (its.drop i) σ'=some o,⟨its.length,Nat.zero_le _,rfl,F1,σ,hs.grow g1,gr.trans g1,Keep.refl,by simpa using e2⟩,?_⟩
 rintro i m τ' H' ⟨hi,rfl,F',σ',sr',gr',kp',ev'⟩
 obtain⟨okI,okS⟩:=ok1 H' F' kp' gr'.dom
 by_cases hlt:i<its.length
 ·refine .inr ?_
  have hdi:its[i]?=some its[i]:=List.getElem?_eq_getElem hlt
  obtain⟨go,yl⟩:=okI i _ hdi
  have hdr:its.drop i=its[i]::its.drop (i+1):=List.drop_eq_getElem_cons hlt
  rw [hdr,qBD] at ev'
  obtain⟨σ1,b1,ev'⟩:=qAb ev'
  obtain⟨o1,b2,ev'⟩:=qAb ev'
  cases o1 with
  | nx σ2 =>
   refine⟨go,fun τ2 H2=>∃F2,SR X.K Ge H2 F2 σ2 τ2/\Gr Ge F0 H2 F2/\Keep H1 F1 H2 F2,fun τ2 H2 ⟨F2,q1,q2,q3⟩=>⟨its.length - (i+1),by omega,hlt,rfl,F2,σ2,q1,q2,q3,ev'⟩,λx H3 y=>?_⟩
   obtain⟨F3,g3,rd3⟩:=yl x H3 y
   refine qCu (sr'.grow g3) b1 rd3 fun τ4 s4=>?_
   exact qb Ge F0 H3 F3 σ1 τ4 (.nx σ2) _ b2 s4 (gr'.trans g3) fun τ5 H5 F5 k5 g5 s5=>⟨F5,s5,g5,(kp'.trans g3.keep).trans k5⟩
  | rt r =>
   cases ev'
   refine⟨go,λ_ _=>False,λ_ _ z=>z.elim,λx H3 y=>?_⟩
   obtain⟨F3,g3,rd3⟩:=yl x H3 y
   refine qCu (sr'.grow g3) b1 rd3 fun τ4 s4=>?_
   exact qb Ge F0 H3 F3 σ1 τ4 (.rt r) _ b2 s4 (gr'.trans g3) en
  | ct σ2 =>
   refine⟨go,fun τ2 H2=>∃F2,SR X.K Ge H2 F2 σ2 τ2/\Gr Ge F0 H2 F2/\Keep H1 F1 H2 F2,fun τ2 H2 ⟨F2,q1,q2,q3⟩=>⟨its.length - (i+1),by omega,hlt,rfl,F2,σ2,q1,q2,q3,ev'⟩,λx H3 y=>?_⟩
   obtain⟨F3,g3,rd3⟩:=yl x H3 y
   refine qCu (sr'.grow g3) b1 rd3 fun τ4 s4=>?_
   exact qb Ge F0 H3 F3 σ1 τ4 (.ct σ2) _ b2 s4 (gr'.trans g3) fun τ5 H5 F5 k5 g5 s5=>⟨F5,s5,g5,(kp'.trans g3.keep).trans k5⟩
  | bk σ2 =>
   cases ev'
   refine⟨go,λ_ _=>False,λ_ _ z=>z.elim,λx H3 y=>?_⟩
   obtain⟨F3,g3,rd3⟩:=yl x H3 y
   refine qCu (sr'.grow g3) b1 rd3 fun τ4 s4=>?_
   exact qb Ge F0 H3 F3 σ1 τ4 (.bk σ2) _ b2 s4 (gr'.trans g3) fun τ5 H5 F5 k5 g5 s5=>en τ5 H5 F5 (((g1.keep.trans kp').trans g3.keep).trans k5) g5 s5
 ·have hin:i=its.length:=by omega
  subst hin
  rw [List.drop_of_length_le (Nat.le_refl _)] at ev'
  cases ev'
  exact .inl ⟨okS,en τ' H' F' (g1.keep.trans kp') gr' sr'⟩
end
end Dw
namespace Dw
open PySem PySem.Spec PyProof.Rows L2
section
variable {call:Nat->List D->Option R}{G:Gx}{k:Nat}
structure AllS (call:Nat->List D->Option R) (G:Gx) (k n:Nat):Prop where
 o:∀(X:Cx) (sc:Scope) (N:List Str) (mt:List Nat) (st:Stmt) (cs:List S),XG call G k X sc N->cS G n sc N mt st=some cs->qGp call X st cs
 s:∀(X:Cx) (sc:Scope) (N:List Str) (mt:List Nat) (st:List Stmt) (cs:List S),XG call G k X sc N->cSs G n sc N mt st=some cs->qKg call X st cs
theorem qKr {tg:Expr}{t:Tg}(h:tgM sc N tg=some t) (h2:qJg t=true):qCX sc N tg=some t:=by
 unfold tgM at h
 cases ht:qCX sc N tg with
 | some t'=>rw [ht] at h;exact h
 | none =>
  rw [ht] at h
  cases tg with
  | Tuple es kk pos =>
   have h:(qAV (qIp sc N) es).map Tg.many=some t:=h
   cases hx:qAV (qIp sc N) es with
   | none=>rw [hx] at h;cases h
   | some is=>rw [hx] at h;cases h;cases h2
  | _=>cases h
theorem qIB {tg:Expr}{t:Tg}(h:tgM sc N tg=some t):(∃y q,tg=.Name y q)∨∃es kk q,tg=.Tuple es kk q:=by
 unfold tgM at h
 cases ht:qCX sc N tg with
 | some t' =>
  cases tg with
  | Name y q=>exact .inl ⟨y,q,rfl⟩
  | Tuple es kk q=>exact .inr ⟨es,kk,q,rfl⟩
  | _=>cases ht
 | none =>
  rw [ht] at h
  cases tg with
  | Name y q=>exact .inl ⟨y,q,rfl⟩
  | Tuple es kk q=>exact .inr ⟨es,kk,q,rfl⟩
  | _=>cases h
theorem qKF (hG:∀x∈qAI,G.defs.lookup x=none) {n:Nat}(B:AllS call G k n):AllS call G k (n+1):=by
 have A:=qDE (call:=call) (k:=k) hG n
 constructor
 ·intro X sc N mt st cs g h
  unfold cS at h
  split at h
  ·rename_i tg x p m p2 p3 pos
   split at h
   ·rename_i hm
    rw [Bool.and_eq_true] at hm
    obtain⟨t,e1,e2⟩:=qAb h
    obtain⟨i,e3,e4⟩:=qAb e2
    cases e4
    have hk:=qIB e1
    rcases hk with ⟨y,q,rfl⟩|⟨es,kk,q,rfl⟩
    ·exact qGN g (by simpa using hm.1) hm.2 e1 e3 rfl rfl rfl
    ·exact qGN g (by simpa using hm.1) hm.2 e1 e3 rfl rfl rfl
   ·cases h
  ·rename_i x p e pos _
   split at h
   ·rename_i hx
    obtain⟨i,e1,e2⟩:=qAb h
    split at e2
    ·cases e2
    ·rename_i h0
     obtain⟨c,e3,e4⟩:=qAb e2
     cases e4
     exact qA5 (qKJ hG g (λz y=>h0 (by rw [z,y];rfl)) e3 hx e1)
   ·cases h
  ·rename_i x p m p2 e p3 pos
   split at h
   ·rename_i hm
    rw [Bool.and_eq_true] at hm
    obtain⟨i,e1,e2⟩:=qAb h
    obtain⟨c,e3,e4⟩:=qAb e2
    cases e4
    exact qA5 (qKW A g (by simpa using hm.1) hm.2 e1 e3)
   ·cases h
  ·rename_i t body pos
   obtain⟨c,e1,e2⟩:=qAb h
   obtain⟨cb,e3,e4⟩:=qAb e2
   cases e4
   exact qA5 (qGK A g e1 (B.s X sc N mt body cb g e3))
  ·rename_i f p x p2 as pos spos _
   split at h
   ·rename_i hf
    rw [Bool.and_eq_true] at hf
    obtain⟨fi,e1,h⟩:=qAb h
    obtain⟨i,e2,h⟩:=qAb h
    obtain⟨cs',e3,h⟩:=qAb h
    cases h
    exact qA5 (qKS A g e1 hf.1 (qCx hf.2).2 e2 e3)
   ·cases h
  ·rename_i e pos
   obtain⟨c,e1,e2⟩:=qAb h
   cases e2
   exact qA5 (qKM hG g e1)
  ·rename_i t a b pos
   obtain⟨c,e1,e2⟩:=qAb h
   obtain⟨ca,e3,e4⟩:=qAb e2
   obtain⟨cb,e5,e6⟩:=qAb e4
   cases e6
   exact qA5 (qMJ A g e1 (B.s X sc N mt a ca g e3) (B.s X sc N mt b cb g e5))
  ·rename_i tg it body pos
   obtain⟨t,e1,e2⟩:=qAb h
   obtain⟨cb,e3,e4⟩:=qAb e2
   have hb:=B.s X sc N mt body cb g e3
   have hsr:=srk (sc:=sc) it
   cases hq:qIn sc it with
   | seq s =>
    rw [hq] at e4 hsr
    obtain⟨x,q1,q2⟩:=qAb e4
    cases q2
    cases hsr
    refine qA5 (qET g e1 (qC0 A g q1) (qC5 q1 X.env) hb fun σ o hv=>?_)
    rw [qFO] at hv
    obtain⟨r,r1,r2⟩:=qAb hv
    obtain⟨its,r3,r4⟩:=qAb r2
    exact⟨its,by simp only [r1];exact r3,r4⟩
   | rng rs =>
    rw [hq] at e4 hsr
    obtain⟨xs,q1,q2⟩:=qAb e4
    cases q2
    cases hsr with
    | rng f p as pos2 hg hf hl =>
     refine qA5 (qET g e1 (qC1 (p:=p) (pos:=pos2) A g hG hg hf hl q1) (λ_=>rfl) hb fun σ o hv=>?_)
     rw [qFP] at hv
     obtain⟨r,r1,r2⟩:=qAb hv
     obtain⟨its,r3,r4⟩:=qAb r2
     exact⟨its,by simp only [r1];exact r3,r4⟩
   | zip a b =>
    rw [hq] at e4 hsr
    simp only at e4
    split at e4
    ·rename_i h2
     obtain⟨x,q1,q2⟩:=qAb e4
     obtain⟨y,q3,q4⟩:=qAb q2
     cases q4
     obtain⟨es,kk,tp,rfl⟩:=qEQ (qKr e1 h2) h2
     cases hsr with
     | zip f p a b pos2 hg hf =>
      refine qA5 (qET g e1 (qES (p:=p) (pos:=pos2) A g hG hg hf q1 q3) (λ_=>rfl) hb fun σ o hv=>?_)
      rw [qFN] at hv
      obtain⟨z,r1,r2⟩:=qAb hv
      obtain⟨z2,r3,r4⟩:=qAb r2
      obtain⟨xs,r5,r6⟩:=qAb r4
      obtain⟨ys,r7,r8⟩:=qAb r6
      exact⟨qCk xs ys,by simp only [r1,r3,r5,r7,Option.bind_some],r8⟩
    ·cases e4
   | enm a=>rw [hq] at e4;cases e4
   | rev rs=>rw [hq] at e4;cases e4
  ·cases h
 ·intro X sc N mt st cs g h
  unfold cSs at h
  split at h
  ·cases h;exact qKO
  ·rename_i a r
   obtain⟨x,e1,e2⟩:=qAb h
   obtain⟨y,e3,e4⟩:=qAb e2
   cases e4
   exact qIK (B.o X sc N mt a x g e1) (B.s X sc N mt r y g e3)
theorem qKE:AllS call G k 0:=by
 constructor
 ·intro X sc N mt st cs _ h;cases h
 ·intro X sc N mt st cs _ h;cases h
theorem qIj (hG:∀x∈qAI,G.defs.lookup x=none):∀n,AllS call G k n
 | 0=>qKE
 | n+1=>qKF hG (qIj hG n)
end
structure FunD (K:PySem.W.Frag) (x qual:Str) (st:Stmt) (f:Addr) (fd:FuncData):Prop where
 ex:∃(oc:Value) (od:Option Addr) (dV kV doc pm:Value) (an:Option Addr) (cdv ct:Value) (osl:Array (Option Value)),
  fd=PySem.W.fnOf x qual (qB7 st) (qAL st) (qAc st) dV kV doc pm an cdv ct/\K.lookup f=some ⟨oc,od,.func fd,osl⟩/\PySem.W.codeIn K cdv qual=true
 kp:PySem.W.keepIn K (.ref f)=true
theorem qE5 {K:PySem.W.Frag}{x qual:Str}{st:Stmt}{f:Addr}{fd:FuncData}(F:Fun K x qual st f fd):FunD K x qual st f fd:=by
 obtain⟨⟨oc,od,kV,doc,pm,an,cdv,ct,osl,h1,h2,h3⟩,kp⟩:=F
 exact⟨⟨oc,od,.none,kV,doc,pm,an,cdv,ct,osl,h1,h2,h3⟩,kp⟩
theorem FunD.ok {P:Program}{w:World}{K:PySem.W.Frag}{mg:Str->Option Value}{base:Heap}{x qual:Str}{st:Stmt}{f:Addr}{fd:FuncData}{N ps:List Str}{k:Nat}{sp:Sp}(F:FunD K x qual st f fd) (S:FnScope N ps (qAc st)) (len:∀vs H Q E,sp vs H Q E->vs.length=ps.length)
  (body:∀(cdv:Value) (A:Around) (outer:List Env) (s:Shared) (H:Hp) (vs:List V) (Q:VK) (E:XK),Room k (A.deeper (envOfC qual (qAc st) s.heap.objs.size f cdv))->sp vs H Q E ->
   ∃t,PSs (qKa CX0 P w K mg base N qual (qAc st) f cdv A outer s H E).nox (qAL st) t/\t { nx:=λ_ H'=>Q .non H',rt:=Q } (start N vs) H):FnOk P w K mg base CX0 (k+1) f fd ps sp:=by
 obtain⟨oc,od,dV,kV,doc,pm,an,cdv,ct,osl,rfl,lk,hcd⟩:=F.ex
 refine qPJ lk hcd S len λA outer s H vs Q E hr h=>?_
 obtain⟨t,h1,h2⟩:=body cdv A outer s H vs Q E hr h
 exact⟨t,h1.nox,h2⟩
structure DefIn (K:PySem.W.Frag) (mg:Str->Option Value) (G:Gx) (tab:List Fd) (fuel:Nat) (x:Str) (i:Nat):Prop where
 ex:∃(a:Addr) (fdt:FuncData) (st:Stmt) (ps:List Str) (fd:Fd),mg x=some (.ref a)/\FunD K x x st a fdt/\Binds K fdt ps []/\FnScope (qAx (qAc st)) ps (qAc st) /\
  cSs G fuel (qAc st) (qAx (qAc st)) (qIq fuel (qAx (qAc st)) (qAL st)) (qAL st)=some fd.body/\tab[i]?=some fd/\fd.np=ps.length/\fd.ns=(qAx (qAc st)).length
structure UseIn (K:PySem.W.Frag) (mg:Str->Option Value) (G:Gx) (tab:List Fd) (fuel:Nat) (u:Uc):Prop where
 ex:∃(a:Addr) (fdt:FuncData) (st:Stmt) (ps:List Str) (fd:Fd) (g:List Value->List Value->List Value) (gV:List V->List V->List V),mg u.f=some (.ref a)/\FunD K u.f u.f st a fdt/\KBinds K fdt ps u.ks g gV/\(∀vs zs,vs.length=u.np->zs.length=u.ks.length->gV vs zs=u.pl.map (arV vs zs))/\(∀j d,Ar.dft j d∈u.pl->isK d=true) /\
  FnScope (qAx (qAc st)) ps (qAc st)/\cSs G fuel (qAc st) (qAx (qAc st)) (qIq fuel (qAx (qAc st)) (qAL st)) (qAL st)=some fd.body/\tab[u.i]?=some fd/\fd.np=ps.length/\fd.ns=(qAx (qAc st)).length
noncomputable def qL3 (K:PySem.W.Frag) (C:Addr) (ns:List Str):Prop:=(∃(fi:Addr) (fdi:FuncData) (sti:Stmt) (psi:List Str) (qi:Str),Mk K C fi/\FunD K "__init__" qi sti fi fdi/\Binds K fdi psi []/\FnScope (qAx (qAc sti)) psi (qAc sti) /\
  qEm (qAc sti) (qAx (qAc sti)) 0 ns (qAL sti)=true/\psi.length=ns.length+1/\ns.length<1000)∨(ns=[]/\Mk0 K C)
structure MthIn (K:PySem.W.Frag) (mg:Str->Option Value) (G:Gx) (tab:List Fd) (fuel:Nat) (c m:Str) (i:Nat) (C:Addr) (ns:List Str):Prop where
 ex:∃(fm:Addr) (fdm:FuncData) (stm:Stmt) (psm:List Str) (qm:Str) (fd:Fd),mg c=some (.ref C)/\qL3 K C ns/\Cls K C/\(∀f∈ns,NoAttr K C f)/\Meth K C m fm/\FunD K m qm stm fm fdm/\Binds K fdm psm []/\FnScope (qAx (qAc stm)) psm (qAc stm) /\
  cSs G fuel (qAc stm) (qAx (qAc stm)) (qIq fuel (qAx (qAc stm)) (qAL stm)) (qAL stm)=some fd.body/\tab[i]?=some fd/\fd.np=psm.length/\fd.ns=(qAx (qAc stm)).length/\m∉ns/\ns.Nodup
theorem qDt {tab:List Fd}{n i:Nat}{fd:Fd}{ds:List D}{r:R}(ht:tab[i]?=some fd) (h:qAC tab n i ds=some r):ds.length=fd.np:=by
 cases n with
 | zero=>cases h
 | succ n =>
  rw [qDZ ht] at h
  unfold qL5 at h
  split at h
  ·assumption
  ·cases h
section
variable {P:Program}{w:World}{K:PySem.W.Frag}{mg:Str->Option Value}{base:Heap}{G:Gx}{tab:List Fd}{fuel:Nat}
theorem qD5:∀{b:Bool}{ds:List D}{m i:Nat}{r:R},qAe (agE b ds++List.replicate m none) i=some r->∃d,ds[i]?=some d/\r=(qLH d,d)
 | b,[],m,i,r,h=>by
  unfold qAe at h
  rw [show agE b []=[] by cases b<;>rfl,List.nil_append,List.getElem?_replicate] at h
  split at h<;>cases h
 | b,d::ds,m,i,r,h=>by
  cases i with
  | zero =>
   refine⟨d,rfl,?_⟩
   cases b<;>cases d<;>first|(cases h;rfl)|cases h
  | succ i =>
   have:∃b',qAe (agE b' ds++List.replicate m none) i=some r:=by
    cases b<;>cases d<;>first|exact⟨false,h⟩|exact⟨true,h⟩
   obtain⟨b',h'⟩:=this
   obtain⟨d',q1,q2⟩:=qD5 h'
   exact⟨d',by simpa using q1,q2⟩
theorem qFh:∀{ds:List D}{m i:Nat}{d:D},qAe (agE true ds++List.replicate m none) i=some (true,d)->False
 | [],m,i,d,h=>by
  unfold qAe at h
  rw [show agE true []=[] from rfl,List.nil_append,List.getElem?_replicate] at h
  split at h<;>cases h
 | x::ds,m,i,d,h=>by
  cases i with
  | zero=>cases x<;>cases h
  | succ i=>exact qFh (ds:=ds) (m:=m) (i:=i) (d:=d) (by cases x<;>exact h)
theorem qIk:∀{ds:List D}{m i j:Nat}{d e:D},qAe (agE false ds++List.replicate m none) i=some (true,d)->qAe (agE false ds++List.replicate m none) j=some (true,e)->i=j
 | [],m,i,j,d,e,h,h'=>by
  unfold qAe at h
  rw [show agE false []=[] from rfl,List.nil_append,List.getElem?_replicate] at h
  split at h<;>cases h
 | x::ds,m,i,j,d,e,h,h'=>by
  cases hx:qLH x with
  | true =>
   cases x with
   | dct m' ks =>
    cases i with
    | zero =>
     cases j with
     | zero=>rfl
     | succ j=>exact absurd h' (λz=>qFh (ds:=ds) (m:=m) (i:=j) z)
    | succ i=>exact absurd h (λz=>qFh (ds:=ds) (m:=m) (i:=i) z)
   | _=>cases hx
  | false =>
   have e1:agE false (x::ds)=some (false,x)::agE false ds:=by cases x<;>first|rfl|cases hx
   rw [e1] at h h'
   cases i with
   | zero=>cases h
   | succ i =>
    cases j with
    | zero=>cases h'
    | succ j=>rw [qIk (ds:=ds) (m:=m) (i:=i) (j:=j) h h']
theorem qIl:∀(b:Bool) (ds:List D),(agE b ds).length=ds.length
 | b,[]=>by cases b<;>rfl
 | b,d::ds=>by cases b<;>cases d<;>(show (agE _ ds).length+1=_;rw [qIl];rfl)
theorem qIE {H:Hp}{F:Fz}{ds:List D}{vs:List V}{N:List Str}{m:Nat}(dom:∀a,H a=none->¬F a) (h:RGs K H F ds vs) (hm:m=N.length - vs.length):SR K ⟨H,none⟩ H F (agE false ds++List.replicate m none) (L2.start N vs):=by
 have hl:=RGs.length h
 have at_:∀{i:Nat} {v:V},vs[i]?=some v->(L2.start N vs)[i]?=some (some v):=λ{i v} q1=>by
  unfold L2.start
  obtain⟨hi,_⟩:=List.getElem?_eq_some_iff.mp q1
  rw [List.getElem?_append_left (by simpa using hi),List.getElem?_map,q1]
  rfl
 refine⟨by simp [L2.start,hl,hm,qIl],Same.refl H,dom,λi d e=>?_,λi d e hd=>?_,λi j d e h1 h2 _=>qIk h1 h2,λi m' ks e=>?_,λ_ _ z=>nomatch z⟩
 ·obtain⟨d',e1,e2⟩:=qD5 e
  have hd:qLH d'=false:=(Prod.mk.inj e2).1.symm
  have hd2:d=d':=(Prod.mk.inj e2).2
  subst hd2
  obtain⟨v,q1,q2⟩:=RGs.get h e1
  refine⟨v,at_ q1,q2.elim (λz=>z) λ⟨a,ks,z,_⟩=>?_⟩
  subst z
  cases hd
 ·obtain⟨d',e1,e2⟩:=qD5 e
  have hd1:true=qLH d':=(Prod.mk.inj e2).1
  have hd2:d=d':=(Prod.mk.inj e2).2
  subst hd2
  rw [hd] at hd1
  cases hd1
 ·obtain⟨d',e1,e2⟩:=qD5 e
  have hd2:D.dct m' ks=d':=(Prod.mk.inj e2).2
  subst hd2
  obtain⟨v,q1,q2⟩:=RGs.get h e1
  rcases q2 with z|⟨a,ks',z1,z2,z3,z4⟩
  ·exact False.elim z
  ·cases z1
   subst z2
   exact⟨a,at_ q1,z3,z4,λz=>nomatch z⟩
theorem qEo {xs ds:List D}{m i:Nat}{r:R}(h:qAe (some (true,.lst xs)::ds.map (λd=>some (false,d))++List.replicate m none) i=some r):(i=0/\r=(true,.lst xs))∨∃j d,i=j+1/\ds[j]?=some d/\r=(false,d):=by
 cases i with
 | zero=>cases h;exact .inl ⟨rfl,rfl⟩
 | succ j =>
  have h:((ds.map (λd=>some (false,d))++List.replicate m none)[j]?).join=some r:=h
  by_cases hj:j<ds.length
  ·rw [List.getElem?_append_left (by simpa using hj),List.getElem?_map,List.getElem?_eq_getElem hj] at h
   cases h
   exact .inr ⟨j,_,rfl,List.getElem?_eq_getElem hj,rfl⟩
  ·rw [List.getElem?_append_right (by simpa using hj),List.getElem?_replicate] at h
   split at h<;>cases h
theorem qGH {H:Hp}{F:Fz}{a:Addr}{xs ds:List D}{ws us:List V}{N:List Str}{m:Nat}(dom:∀a,H a=none->¬F a) (h1:H a=some (.lst ws)) (h2:¬F a) (h3:RDs K H F xs ws) (h4:RDs K H F ds us) (hm:m=N.length - (us.length+1)):SR K ⟨del H a,some a⟩ H F (some (true,.lst xs)::ds.map (λd=>some (false,d))++List.replicate m none) (L2.start N (.ref a::us)):=by
 have hl:=RDs.length h4
 have at_:∀{i:Nat} {v:V},(V.ref a::us)[i]?=some v->(L2.start N (.ref a::us))[i]?=some (some v):=λ{i v} q1=>by
  unfold L2.start
  obtain⟨hi,_⟩:=List.getElem?_eq_some_iff.mp q1
  rw [List.getElem?_append_left (by simpa using hi),List.getElem?_map,q1]
  rfl
 refine⟨by simp [L2.start,hl,hm],λb u e=>?_,dom,λi d e=>?_,λi d e hd=>?_,λi j d e q1 q2 _=>?_,λi m' ks e=>?_,λp d hp hv=>?_⟩
 ·have e:(if b=a then none else H b)=some u:=e
  split at e
  ·cases e
  ·exact e
 ·rcases qEo e with ⟨_,z⟩|⟨j,d',rfl,q1,q2⟩
  ·cases z
  ·cases q2
   obtain⟨v,p1,p2⟩:=RDs.get h4 q1
   exact⟨v,at_ (by rw [List.getElem?_cons_succ];exact p1),p2⟩
 ·rcases qEo e with ⟨rfl,z⟩|⟨j,d',rfl,q1,q2⟩
  ·cases z
   exact⟨a,xs,ws,rfl,at_ rfl,if_pos rfl,h2,h1,h3⟩
  ·cases q2
 ·rcases qEo q1 with ⟨rfl,_⟩|⟨j',d',rfl,_,z⟩
  ·rcases qEo q2 with ⟨rfl,_⟩|⟨j',d',rfl,_,z⟩
   ·rfl
   ·cases z
  ·cases z
 ·rcases qEo e with ⟨rfl,z⟩|⟨j,d',rfl,q1,q2⟩
  ·cases z
  ·cases q2
 ·cases hp
  exact at_ rfl
theorem qH7 {n i:Nat}{fd:Fd}{ds:List D}{r:R}(hT:tab.length<=HX) (ht:tab[i]?=some fd) (h:qAC tab n (i+HX) ds=some r):ds.length=fd.np:=by
 cases n with
 | zero=>cases h
 | succ n =>
  rw [qD0 hT ht] at h
  unfold qOD at h
  split at h
  ·split at h
   ·rename_i hl;rw [List.length_cons];exact hl
   ·cases h
  ·cases h
theorem qJl {a:Addr}{fdt:FuncData}{ps:List Str}{i:Nat}:FnOk P w K mg base CX0 2 a fdt ps (spH K ps.length (qAC tab 0 i)):=
 ⟨λ_ _ _ _ h=>h.1,λA outer s H args us vs Q E _ _ _ _ h=>by obtain⟨_,F,a,xs,ds,ys,ws,us,b,_,_,_,_,_,_,z,_⟩:=h;cases z⟩
theorem qLN {a:Addr}{fdt:FuncData}{ps:List Str}{i:Nat}:FnOk P w K mg base CX0 2 a fdt ps (spD K ps.length (qAC tab 0 i)):=
 ⟨λ_ _ _ _ h=>h.1,λA outer s H args us vs Q E _ _ _ _ h=>by obtain⟨_,F,ds,r,_,_,z,_⟩:=h;cases z⟩
theorem qLI {fi:Addr}{fdi:FuncData}{sti:Stmt}{psi:List Str}{qi:Str}{ns:List Str}(hbl:∀x∈qAI,mg x=none) (Fn:FunD K "__init__" qi sti fi fdi) (Sc:FnScope (qAx (qAc sti)) psi (qAc sti)) (hi:qEm (qAc sti) (qAx (qAc sti)) 0 ns (qAL sti)=true) (hl:psi.length=ns.length+1) (hz:ns.length<1000) :
  FnOk P w K mg base CX0 1 fi fdi psi (spI K ns):=by
 refine Fn.ok (k:=0) Sc (λvs H Q E h=>?_) (λcdv A outer s H vs Q E hr h=>?_)
 ·obtain⟨x,C,dx,ws,rfl,h1,_⟩:=h
  rw [hl,List.length_cons,h1]
 ·obtain⟨x,C,dx,ws,rfl,h1,h2,h3,h4,hq⟩:=h
  have g:XG (λ_ _=>none) ⟨[],[],[],[],[]⟩ 0 (qKa CX0 P w K mg base (qAx (qAc sti)) qi (qAc sti) fi cdv A outer s H E).nox (qAc sti) (qAx (qAc sti)):=by
   refine⟨rfl,Sc.nd,λy h=>?_,λy h=>?_,λy h=>?_,λy h=>?_,rfl,rfl,hr,λy j h=>(nomatch h),λy _ h=>?_,λy i h=>(nomatch h),λu hm=>(nomatch hm),λu hm=>(nomatch hm),λz=>absurd rfl z,λy j h=>(nomatch h)⟩
   ·unfold qL4 at h
    simp only [Bool.or_eq_true,beq_iff_eq] at h
    rcases h with (h|h)|h
    ·exact .inl h
    ·exact .inr (.inl h)
    ·exact .inr (.inr h)
   ·simp only [Bool.or_eq_true,beq_iff_eq] at h
    exact⟨h,.inl rfl⟩
   ·unfold glB at h
    rw [beq_iff_eq] at h
    exact h
   ·unfold qMa at h
    simp only [Bool.or_eq_true,beq_iff_eq] at h
    exact h
   ·exact hbl y h
  obtain⟨t,pt,qt⟩:=qEl g ns 0 (qAL sti) hi
  refine⟨t,pt,qt _ H x C dx [] ws _ rfl (λi w hw=>?_) h1 h2 h3 h4 (by simpa using hz) hq⟩
  obtain⟨hlt,_⟩:=List.getElem?_eq_some_iff.mp hw
  unfold L2.start
  rw [List.getElem?_append_left (by simp;omega),List.getElem?_map,show 0+1+i=i+1 by omega,List.getElem?_cons_succ,hw]
  rfl
theorem fns (hT:tab.length<=HX) (hG:∀x∈qAI,G.defs.lookup x=none) (hb:∀x∈qAI,mg x=none) (hc:∀x i,G.cons.lookup x=some i->∃t,mg x=some (.int i t)) (hd:∀x i,G.defs.lookup x=some i->DefIn K mg G tab fuel x i) (hu:∀u∈G.ucal,UseIn K mg G tab fuel u) (hmt:∀u∈G.meth,MthIn K mg G tab fuel u.c u.m u.i u.kn.c u.kn.ns):∀(n:Nat) (x qn:Str) (i:Nat) (a:Addr) (fdt:FuncData) (st:Stmt) (ps:List Str) (fd:Fd),FunD K x qn st a fdt ->
  FnScope (qAx (qAc st)) ps (qAc st)->cSs G fuel (qAc st) (qAx (qAc st)) (qIq fuel (qAx (qAc st)) (qAL st)) (qAL st)=some fd.body->tab[i]?=some fd->fd.np=ps.length->fd.ns=(qAx (qAc st)).length ->
  FnOk P w K mg base CX0 (n+2) a fdt ps (spD K ps.length (qAC tab n i))/\FnOk P w K mg base CX0 (n+2) a fdt ps (spH K ps.length (qAC tab n (i+HX)))
 | 0,x,qn,i,a,fdt,st,ps,fd,_,_,_,_,_,_=>⟨qLN,qJl⟩
 | n+1,x,qn,i,a,fdt,st,ps,fd,Fn,Sc,hcs,ht,hp,hn=>by
  have gg:∀(cdv:Value) (A:Around) (outer:List Env) (s:Shared) (H:Hp) (E:XK),Room (n+2) (A.deeper (envOfC qn (qAc st) s.heap.objs.size a cdv))->XG (qAC tab n) G (n+2) (qKa CX0 P w K mg base (qAx (qAc st)) qn (qAc st) a cdv A outer s H E).nox (qAc st) (qAx (qAc st)):=λcdv A outer s H E hr=>by
   refine⟨rfl,Sc.nd,λy h=>?_,λy h=>?_,λy h=>?_,λy h=>?_,rfl,rfl,hr,λy j h=>?_,λy _ h=>hb y h,hc,λu hm=>?_,λu hm=>?_,λ_=>Nat.le_add_left 2 n,λy j h=>?_⟩
   ·unfold qL4 at h
    simp only [Bool.or_eq_true,beq_iff_eq] at h
    rcases h with (h|h)|h
    ·exact .inl h
    ·exact .inr (.inl h)
    ·exact .inr (.inr h)
   ·simp only [Bool.or_eq_true,beq_iff_eq] at h
    exact⟨h,.inl rfl⟩
   ·unfold glB at h
    rw [beq_iff_eq] at h
    exact h
   ·unfold qMa at h
    simp only [Bool.or_eq_true,beq_iff_eq] at h
    exact h
   ·obtain⟨a2,fdt2,st2,ps2,fd2,q1,q2,q3,q4,q5,q6,q7,q8⟩:=(hd y j h).ex
    exact⟨a2,fdt2,ps2,q1,q2.kp,q3,(fns hT hG hb hc hd hu hmt n y y j a2 fdt2 st2 ps2 fd2 q2 q4 q5 q6 q7 q8).1,λds r hr=>(qDt q6 hr).trans q7⟩
   ·obtain⟨a2,fdt2,st2,ps2,fd2,g2,gV2,q1,q2,q3,q3b,q3c,q4,q5,q6,q7,q8⟩:=(hu u hm).ex
    exact⟨a2,fdt2,ps2,g2,gV2,q1,q2.kp,q3,q3b,q3c,(fns hT hG hb hc hd hu hmt n u.f u.f u.i a2 fdt2 st2 ps2 fd2 q2 q4 q5 q6 q7 q8).1,λds r hr=>(qDt q6 hr).trans q7⟩
   ·obtain⟨fm,fdm,stm,psm,qm,fd2,q1,q2,q3,q4,q10,q11,q12,q13,q14,q15,q16,q17,q18,q19⟩:=(hmt u hm).ex
    exact⟨fm,fdm,psm,q1,q2.imp (λ⟨fi,fdi,sti,psi,qi,z1,z2,z3,z4,z5,z6,z7⟩=>⟨fi,fdi,psi,z1,z3,qLI hb z2 z4 z5 z6 z7⟩) id,q3,q4,q10,q12,(fns hT hG hb hc hd hu hmt n u.m qm u.i fm fdm stm psm fd2 q11 q13 q14 q15 q16 q17).1,λds r hr=>(qDt q15 hr).trans q16,q18,q19⟩
   ·obtain⟨a2,fdt2,st2,ps2,fd2,q1,q2,q3,q4,q5,q6,q7,q8⟩:=(hd y j h).ex
    exact⟨a2,fdt2,ps2,q1,q2.kp,q3,(fns hT hG hb hc hd hu hmt n y y j a2 fdt2 st2 ps2 fd2 q2 q4 q5 q6 q7 q8).2,λds r hr=>(qH7 hT q6 hr).trans q7⟩
  constructor
  ·refine Fn.ok Sc (λvs H Q E h=>h.1) (λcdv A outer s H vs Q E hr h=>?_)
   obtain⟨hvl,F,ds,r,dom,rds,hcall,hq⟩:=h
   have hlen:=RGs.length rds
   rw [qDZ ht] at hcall
   unfold qL5 at hcall
   split at hcall
   ·rename_i hal
    obtain⟨o,e1,e2⟩:=qAb hcall
    obtain⟨t,pt,qt⟩:=(qIj (call:=qAC tab n) (k:=n+2) hG fuel).s _ _ _ _ _ _ (gg cdv A outer s H E hr) hcs
    refine⟨t,pt,qt ⟨H,none⟩ F H F _ _ o _ e1 (qIE dom rds (by rw [hp,hn,hvl])) (Gr.refl dom) ?_⟩
    cases o with
    | nx σ' =>
     cases e2
     exact fun τ' H' F' _ g' _=>hq .non H' F' g' rfl
    | rt r' =>
     cases e2
     exact λv H' F' g' rr=>hq v H' F' g' rr
    | bk _=>cases e2
    | ct _=>cases e2
   ·cases hcall
  ·refine Fn.ok Sc (λvs H Q E h=>h.1) (λcdv A outer s H vs Q E hr h=>?_)
   obtain⟨hvl,F,a',xs,ds,ys,ws,us,b,rfl,dom,h1,h2,h3,h4,hcall,hq⟩:=h
   rw [qD0 hT ht] at hcall
   unfold qOD at hcall
   dsimp only at hcall
   split at hcall
   ·rename_i hal
    obtain⟨o,e1,e2⟩:=qAb hcall
    obtain⟨t,pt,qt⟩:=(qIj (call:=qAC tab n) (k:=n+2) hG fuel).s _ _ _ _ _ _ (gg cdv A outer s H E hr) hcs
    have g0:Gr (del H a') F H F:=⟨λb u e=>by
     have e:(if b=a' then none else H b)=some u:=e
     split at e
     ·cases e
     ·exact e,λ_ z=>z,λ_ z=>.inl z,dom⟩
    refine⟨t,pt,qt ⟨del H a',some a'⟩ F H F _ _ o _ e1 (qGH dom h1 h2 h3 h4 (by rw [hp,hn,<-hvl];rfl)) g0 ?_⟩
    cases o with
    | nx σ' =>
     refine fun τ' H' F' _ g' s'=>?_
     obtain⟨r0,w1,w2⟩:=qAb (show (qAe σ' 0).bind (λr=>(qLd r).map λxs=>(true,D.lst xs))=some (b,D.lst ys) from e2)
     obtain⟨zs,w3,w4⟩:=Option.map_eq_some_iff.mp w2
     cases w4
     rw [qFC w3] at w1
     obtain⟨a2,vs2,p1,p2,p3,p4,p5⟩:=qB9 s' w1
     rw [s'.pin a' _ rfl w1] at p1
     cases p1
     exact hq H' F' vs2 g' p4 p3 p5
    | rt r'=>cases e2
    | bk _=>cases e2
    | ct _=>cases e2
   ·cases hcall
theorem qNJ {n i:Nat}(h:∀ns:List Int,ns.length<=63->(∀i∈ns,2 * i.natAbs<qDh)->qAC tab n i [.lst (ns.map .int)]=some (false,.bl true)) (H:Hp) (a:Addr) (ns:List Int) (hl:ns.length<=63) (hw:∀i∈ns,2 * i.natAbs<qDh) (hS:SqL K H a (ns.map V.int)) (E:XK):spD K 1 (qAC tab n i) [.ref a] H (λv _=>v=.bl true) E:=by
 have fin:∀v H' F',Gr H (λ_=>False) H' F'∨True->RR K H H' F' (false,.bl true) v->v=.bl true:=λv H' F' _ rr=>rr
 rcases hS with hS|hS
 ·refine⟨rfl,λb=>b=a,[.lst (ns.map .int)],(false,.bl true),λb e z=>?_,⟨.ref a,[],rfl,.inl ⟨a,ns.map V.int,rfl,.inl ⟨rfl,hS⟩,RDs.of_ints ns⟩,rfl⟩,h ns hl hw,λv H' F' _ rr=>rr⟩
  subst z
  rcases hS with q|⟨o,q⟩<;>(rw [e] at q;cases q)
 ·exact⟨rfl,λ_=>False,[.lst (ns.map .int)],(false,.bl true),λ_ _ z=>z,⟨.ref a,[],rfl,.inl ⟨a,ns.map V.int,rfl,.inr hS,RDs.of_ints ns⟩,rfl⟩,h ns hl hw,λv H' F' _ rr=>rr⟩
end
theorem qJF:∀(ns:List Int) (i:Int),i∈ns->PySem.W.WData.weight (.int i)+1<=PySem.W.WData.weightAll (ns.map PySem.W.WData.int)
 | [],i,h=>nomatch h
 | n::ns,i,h=>by
  rw [List.map_cons,PySem.W.WData.weightAll]
  rcases List.mem_cons.mp h with rfl|h
  ·omega
  ·have:=qJF ns i h
   omega
theorem qJd {ns:List Int}(h:PySem.W.WData.layableAll [.list (ns.map PySem.W.WData.int)]=true) (i:Int) (hi:i∈ns):2 * i.natAbs<qDh:=by
 unfold PySem.W.WData.layableAll at h
 rw [List.all_cons,Bool.and_eq_true] at h
 have h1:=h.1
 unfold PySem.W.WData.layable at h1
 rw [Bool.and_eq_true] at h1
 have h2:PySem.W.WData.weight (.list (ns.map PySem.W.WData.int))<=2^20:=of_decide_eq_true h1.2
 rw [PySem.W.WData.weight] at h2
 have h3:=qJF ns i hi
 rw [PySem.W.WData.weight] at h3
 by_cases hz:i=0
 ·subst hz
  exact Nat.pow_pos (by decide)
 ·rw [if_neg (by simpa using hz)] at h3
  have h4:i.natAbs<2^(i.natAbs.log2+1):=Nat.lt_log2_self
  have h5:2 * i.natAbs<2^(i.natAbs.log2+2):=by rw [Nat.pow_succ];omega
  exact Nat.lt_of_lt_of_le h5 (Nat.pow_le_pow_right (by decide) (by omega))
theorem dw_walk {l:PySem.W.OpenLaw}{q:Program}{loose:List Str}{XP:(Str->Option Value)->Heap->Prop}{YP:World->Heap->Prop}{d:DefRec}{K:Params->PySem.W.Frag}{tab:List Fd}{n i:Nat}(hlaw:∀ns:List Int,ns.length<=63->(∀i∈ns,2 * i.natAbs<qDh)->qAC tab n i [.lst (ns.map .int)]=some (false,.bl true))
  (hn:l.most=some 63) (hdf:d.params.defaults=[]) (hr:Room (n+2) callerA) (hY:∀(w:World) (h:Heap),YP w h->(K w.params).In h)
  (F:∀(w:World) (mg:Str->Option Value) (fa:Addr) (h:Heap),(K w.params).In h->h.Ns mainGlobals mg->mg d.name=some (.ref fa) ->
   ∃fd:FuncData,(∀(s:Shared) (u:Value),BindsTo s fd ⟨[u],[]⟩ [("script",u)])/\∀base:Heap,(K w.params).In base->base.Ns mainGlobals mg->FnOk l.prog w (K w.params) mg base CX0 (n+2) fa fd ["script"] (spD (K w.params) 1 (qAC tab n i))) :
  PySem.W.WalkO q loose XP YP l.row.toRowW d [] (λf vs=>PySem.call f vs):=by
 intro w t₀ t₁ mg mb g y fa o pm cd doc v₁ v₂ ho hd hc e1 e2 e3 args vals as e4 lay e5 e6 e7
 obtain rfl:v₁=.none:=PySem.W.Dflts.none e1 hdf
 obtain rfl:v₂=.none:=PySem.W.Dflts.noKw e1
 obtain⟨a,vs,ns,rfl,rfl,s1,s2,s3⟩:=Att.script_of hn e4 e6
 have kx:=hY w _ y
 obtain⟨fd,hb,hF⟩:=F w mg fa _ kx g.T.g e2
 refine PySem.W.enter_call (codeAny_mono (L2.law_call kx g.T.g g.T.b g.T.builtins g.T.nolimit e3 s1 s2 (Nat.le_trans s3 (by decide)) hr hF hb (λH _ hS=>qNJ hlaw H a ns s3 (qJd lay) hS _) λH e s' z=>z) λr s' z=>?_)
 obtain⟨rfl,z2,z3,z4⟩:=z
 exact⟨.inl ⟨.bool true,.bool true,[],rfl,λ_=>rfl,.bool true,Att.post_true l _,λ_=>⟨List.Pairwise.nil,λ_ hm=>(nomatch hm)⟩⟩,z2,z3,z4⟩
end Dw
set_option exponentiation.threshold 6000
namespace Dw.T
open Dw
noncomputable def qN2:Fd:=⟨0,0,[]⟩
noncomputable def f_sides_meet:Fd:=⟨2,2,[.ret (.and (.cmp .le (.ix (.v 0) (.k (.int 0))) (.ix (.v 1) (.k (.int 1)))) (.cmp .le (.ix (.v 1) (.k (.int 0))) (.ix (.v 0) (.k (.int 1)))))]⟩
noncomputable def f_side_inside:Fd:=⟨2,2,[.ret (.and (.cmp .ge (.ix (.v 0) (.k (.int 0))) (.ix (.v 1) (.k (.int 0)))) (.cmp .le (.ix (.v 0) (.k (.int 1))) (.ix (.v 1) (.k (.int 1)))))]⟩
noncomputable def f_side_gap:Fd:=⟨2,2,[.ret (.bi .max [(.k (.int 0)),(.bin .sub (.ix (.v 0) (.k (.int 0))) (.ix (.v 1) (.k (.int 1)))),(.bin .sub (.ix (.v 1) (.k (.int 0))) (.ix (.v 0) (.k (.int 1))))])]⟩
noncomputable def f_boxes_meet:Fd:=⟨2,2,[.ret (.bi .all [(.compZ (.call 1 [(.v 0),(.v 1)]) 2 [] (.two 0 1) (.v 0) (.v 1))])]⟩
noncomputable def f_box_inside:Fd:=⟨2,2,[.ret (.bi .all [(.compZ (.call 2 [(.v 0),(.v 1)]) 2 [] (.two 0 1) (.v 0) (.v 1))])]⟩
noncomputable def f_box_gap:Fd:=⟨2,3,[.set 2 false (.compZ (.call 3 [(.v 0),(.v 1)]) 2 [] (.two 0 1) (.v 0) (.v 1)),
 .ret (.bi .sum [(.compS (.bin .mul (.v 0) (.v 0)) 1 [] (.one 0) (.v 2))])]⟩
noncomputable def f_beats_of:Fd:=⟨4,6,[.ite (.and (.cmp .eq (.v 1) (.k (.int 0))) (.cmp .gt (.v 0) (.k (.int 0)))) [.ret (.k .non)] [],
 .set 4 false (.v 2),
 .set 5 false (.v 3),
 .ite (.cmp .gt (.v 1) (.k (.int 0))) [.set 4 false (.bi .max [(.v 2),(.neg (.bin .fdiv (.neg (.v 0)) (.v 1)))])] [],
 .ite (.cmp .lt (.v 1) (.k (.int 0))) [.set 5 false (.bi .min [(.v 3),(.bin .fdiv (.v 0) (.v 1))])] [],
 .ite (.cmp .gt (.v 4) (.v 5)) [.ret (.k .non)] [],
 .ret (.tup [(.v 4),(.v 5)])]⟩
noncomputable def f_beats_below:Fd:=⟨3,3,[.ite (.isC false (.v 2) .non) [.ret (.k .non)] [],
 .ret (.call 7 [(.bin .sub (.ix (.v 0) (.k (.int 0))) (.ix (.v 1) (.k (.int 1)))),(.bin .sub (.ix (.v 1) (.k (.int 3))) (.ix (.v 0) (.k (.int 2)))),(.ix (.v 2) (.k (.int 0))),(.ix (.v 2) (.k (.int 1)))])]⟩
noncomputable def f_meeting:Fd:=⟨4,7,[.set 4 false (.tup [(.v 2),(.v 3)]),
 .forZ (.two 5 6) (.v 0) (.v 1) [.set 4 false (.call 8 [(.v 5),(.v 6),(.v 4)]),.set 4 false (.call 8 [(.v 6),(.v 5),(.v 4)])],
 .ret (.v 4)]⟩
noncomputable def f_side_at:Fd:=⟨2,2,[.ret (.tup [(.bin .add (.ix (.v 0) (.k (.int 0))) (.bin .mul (.ix (.v 0) (.k (.int 2))) (.v 1))),(.bin .add (.ix (.v 0) (.k (.int 1))) (.bin .mul (.ix (.v 0) (.k (.int 3))) (.v 1)))])]⟩
noncomputable def f_still_swath:Fd:=⟨1,1,[.ret (.bi .tuple [(.compS (.tup [(.ix (.v 0) (.k (.int 0))),(.ix (.v 0) (.k (.int 1))),(.k (.int 0)),(.k (.int 0))]) 1 [] (.one 0) (.v 0))])]⟩
noncomputable def f_frame_at:Fd:=⟨2,2,[.ret (.bi .tuple [(.compS (.call 10 [(.v 0),(.v 1)]) 1 [1] (.one 0) (.v 0))])]⟩
noncomputable def qBK:Fd:=⟨1,1,[.ret (.ix (.v 0) (.k (.int 1)))]⟩
noncomputable def qBL:Fd:=⟨1,1,[.ret (.ix (.v 0) (.k (.int 2)))]⟩
noncomputable def qBJ:Fd:=⟨1,1,[.ret (.ix (.v 0) (.k (.int 3)))]⟩
noncomputable def f_thing_box:Fd:=⟨2,2,[.ret (.call 12 [(.call 13 [(.v 0)]),(.v 1)])]⟩
noncomputable def qB5:Fd:=⟨1,1,[.ret (.ix (.v 0) (.k (.int 0)))]⟩
noncomputable def qB3:Fd:=⟨1,1,[.ret (.ix (.v 0) (.k (.int 1)))]⟩
noncomputable def qCo:Fd:=⟨1,1,[.ret (.ix (.v 0) (.k (.int 2)))]⟩
noncomputable def qB4:Fd:=⟨1,1,[.ret (.ix (.v 0) (.k (.int 3)))]⟩
noncomputable def qB2:Fd:=⟨1,1,[.ret (.ix (.v 0) (.k (.int 5)))]⟩
noncomputable def qCp:Fd:=⟨1,1,[.ret (.ix (.v 0) (.k (.int 6)))]⟩
noncomputable def f_verdict_from:Fd:=⟨2,2,[.ite (.v 0) [.ret (.k (.str (PySem.Str.ofString "every")))] [],
 .ite (.v 1) [.ret (.k (.str (PySem.Str.ofString "none")))] [],
 .ret (.k (.str (PySem.Str.ofString "open")))]⟩
noncomputable def f_cover_at:Fd:=⟨2,2,[.ret (.call 12 [(.call 17 [(.v 0)]),(.v 1)])]⟩
noncomputable def f_heart_at:Fd:=⟨2,2,[.ret (.call 12 [(.call 18 [(.v 0)]),(.v 1)])]⟩
noncomputable def f_has_each:Fd:=⟨2,2,[.ret (.cmp .eq (.bin .band (.v 0) (.v 1)) (.v 1))]⟩
noncomputable def f_has_one:Fd:=⟨2,2,[.ret (.cmp .ne (.bin .band (.v 0) (.v 1)) (.k (.int 0)))]⟩
noncomputable def f_crosses_box:Fd:=⟨4,4,[.ret (.isC true (.call 9 [(.v 0),(.call 11 [(.v 1)]),(.v 2),(.v 3)]) .non)]⟩
noncomputable def f_law_cell_at:Fd:=⟨2,2,[.ite (.cmp .lt (.v 1) (.bi .len [(.v 0)])) [.ret (.ix (.v 0) (.v 1))] [],
 .ret (.k (.int 0))]⟩
noncomputable def f_law_stir:Fd:=⟨1,1,[.ret (.bin .mod (.bin .mul (.v 0) (.k (.int 105172331949523456789012345678901234567))) (.k (.int 170141183460469231731687303715884105727)))]⟩
noncomputable def f_law_next:Fd:=⟨1,1,[.ret (.bin .mod (.bin .mul (.v 0) (.k (.int 83492791123456789012345678901234567891))) (.k (.int 170141183460469231731687303715884105727)))]⟩
noncomputable def f_law_scene:Fd:=⟨1,9,[.set 1 false (.call 29 [(.v 0),(.k (.int 0))]),
 .set 2 false (.call 29 [(.v 0),(.k (.int 1))]),
 .set 3 false (.call 29 [(.v 0),(.k (.int 2))]),
 .set 4 false (.call 29 [(.v 0),(.k (.int 3))]),
 .set 5 false (.bin .add (.k (.int 2)) (.bin .mod (.v 1) (.k (.int 2)))),
 .set 6 false (.bin .mod (.bin .fdiv (.v 2) (.k (.int 3))) (.k (.int 4))),
 .ite (.cmp .ne (.bin .mod (.v 2) (.k (.int 3))) (.k (.int 0))) [.set 6 false (.bin .mod (.bin .fdiv (.v 2) (.k (.int 3))) (.bin .add (.bin .pow (.k (.int 10)) (.k (.int 15))) (.k (.int 1))))] [],
 .set 7 false (.compR (.k (.int 0)) 1 [] (.one 0) [(.v 5)]),
 .ite (.cmp .eq (.bin .mod (.v 3) (.k (.int 2))) (.k (.int 1))) [.set 7 false (.compR (.bin .sub (.bin .mod (.bin .mul (.bin .fdiv (.v 1) (.k (.int 2))) (.bin .add (.bin .mul (.v 0) (.v 0)) (.k (.int 1)))) (.bin .add (.bin .mul (.k (.int 2)) (.bin .pow (.k (.int 10)) (.k (.int 29)))) (.k (.int 1)))) (.bin .pow (.k (.int 10)) (.k (.int 29)))) 1 [3] (.one 0) [(.v 5)])] [],
 .set 8 false (.compR (.k (.int 0)) 1 [] (.one 0) [(.v 5)]),
 .ite (.cmp .eq (.bin .mod (.v 4) (.k (.int 2))) (.k (.int 1))) [.set 8 false (.compR (.bin .sub (.bin .mod (.bin .mul (.bin .fdiv (.v 1) (.k (.int 2))) (.bin .add (.v 0) (.k (.int 1)))) (.bin .add (.bin .mul (.k (.int 2)) (.bin .pow (.k (.int 10)) (.k (.int 14)))) (.k (.int 1)))) (.bin .pow (.k (.int 10)) (.k (.int 14)))) 1 [4] (.one 0) [(.v 5)])] [],
 .ret (.tup [(.v 5),(.v 7),(.v 8),(.bin .mod (.bin .fdiv (.v 1) (.k (.int 2))) (.k (.int 2))),(.v 6),(.ix (.lst [(.k (.int 0)),(.k (.int 0)),(.k (.int 5)),(.k (.int 40960))]) (.bin .mod (.bin .fdiv (.v 1) (.k (.int 4))) (.k (.int 4))))])]⟩
noncomputable def f_law_thing_by:Fd:=⟨2,10,[.set 2 false (.call 30 [(.v 0)]),
 .set 3 true (.lst []),
 .forR (.one 4) [(.ix (.v 1) (.k (.int 0)))] [.set 5 false (.bin .add (.ix (.ix (.v 1) (.k (.int 2))) (.v 4)) (.bin .mul (.bin .sub (.bin .mod (.v 2) (.k (.int 5))) (.k (.int 2))) (.ix (.v 1) (.k (.int 3))))),.set 6 false (.bin .sub (.bin .sub (.bin .add (.ix (.ix (.v 1) (.k (.int 1))) (.v 4)) (.bin .mod (.bin .fdiv (.v 2) (.k (.int 5))) (.k (.int 9)))) (.k (.int 4))) (.bin .mul (.v 5) (.ix (.v 1) (.k (.int 4))))),.set 7 false (.bin .mod (.bin .fdiv (.v 2) (.k (.int 45))) (.k (.int 4))),.ite (.cmp .eq (.bin .mod (.bin .fdiv (.v 2) (.k (.int 180))) (.k (.int 5))) (.k (.int 2))) [.set 6 false (.bin .sub (.v 6) (.k (.int 10))),.set 7 false (.bin .add (.v 7) (.k (.int 20)))] [],.ite (.cmp .eq (.bin .mod (.bin .fdiv (.v 2) (.k (.int 900))) (.k (.int 13))) (.k (.int 3))) [.set 6 false (.bin .add (.v 6) (.bin .mod (.v 0) (.bin .pow (.k (.int 10)) (.k (.int 28)))))] [],.app 3 (.tup [(.v 6),(.bin .add (.v 6) (.v 7)),(.v 5),(.v 5)]),.set 2 false (.call 31 [(.v 2)])],
 .set 8 false (.ix (.v 1) (.k (.int 5))),
 .ite (.cmp .eq (.bin .mod (.v 2) (.k (.int 2))) (.k (.int 1))) [.set 8 false (.bin .bor (.v 8) (.bin .mod (.bin .fdiv (.v 2) (.k (.int 2))) (.k (.int 65536))))] [],
 .set 9 false (.bin .sub (.bin .add (.ix (.ix (.v 1) (.k (.int 1))) (.k (.int 0))) (.bin .mod (.bin .fdiv (.v 2) (.k (.int 131072))) (.k (.int 9)))) (.k (.int 4))),
 .ret (.tup [(.bin .mod (.bin .fdiv (.v 2) (.k (.int 1179648))) (.bin .add (.bin .pow (.k (.int 10)) (.k (.int 18))) (.k (.int 1)))),(.bi .tuple [(.v 3)]),(.v 8),(.v 9)])]⟩
noncomputable def f_law_box_by:Fd:=⟨2,7,[.set 2 false (.call 31 [(.call 31 [(.call 30 [(.v 0)])])]),
 .set 3 true (.lst []),
 .forR (.one 4) [(.ix (.v 1) (.k (.int 0)))] [.set 5 false (.bin .sub (.bin .add (.ix (.ix (.v 1) (.k (.int 1))) (.v 4)) (.bin .mod (.v 2) (.k (.int 11)))) (.k (.int 5))),.set 6 false (.bin .mod (.bin .fdiv (.v 2) (.k (.int 11))) (.k (.int 5))),.ite (.cmp .eq (.bin .mod (.bin .fdiv (.v 2) (.k (.int 55))) (.k (.int 3))) (.k (.int 1))) [.set 5 false (.bin .sub (.v 5) (.k (.int 30))),.set 6 false (.bin .add (.v 6) (.k (.int 60)))] [],.ite (.cmp .eq (.bin .mod (.bin .fdiv (.v 2) (.k (.int 165))) (.k (.int 7))) (.k (.int 2))) [.set 5 false (.bin .sub (.v 5) (.bin .mod (.v 0) (.bin .pow (.k (.int 10)) (.k (.int 28)))))] [],.ite (.cmp .eq (.bin .mod (.bin .fdiv (.v 2) (.k (.int 1155))) (.k (.int 7))) (.k (.int 4))) [.set 6 false (.bin .add (.v 6) (.bin .mul (.k (.int 2)) (.bin .pow (.k (.int 10)) (.k (.int 28)))))] [],.app 3 (.tup [(.v 5),(.bin .add (.v 5) (.v 6))]),.set 2 false (.call 31 [(.v 2)])],
 .ret (.bi .tuple [(.v 3)])]⟩
noncomputable def f_law_marks_by:Fd:=⟨1,1,[.ite (.cmp .eq (.bin .mod (.v 0) (.k (.int 5))) (.k (.int 0))) [.ret (.bin .mod (.bin .fdiv (.v 0) (.k (.int 5))) (.k (.int 65536)))] [],
 .ite (.cmp .eq (.bin .mod (.v 0) (.k (.int 5))) (.k (.int 1))) [.ret (.k (.int 0))] [],
 .ret (.bin .bor (.bin .shl (.k (.int 1)) (.bin .mod (.bin .fdiv (.v 0) (.k (.int 5))) (.k (.int 16)))) (.bin .shl (.k (.int 1)) (.bin .mod (.bin .fdiv (.v 0) (.k (.int 80))) (.k (.int 16)))))]⟩
noncomputable def f_law_window:Fd:=⟨2,3,[.set 2 false (.bi .min [(.bin .pow (.k (.int 10)) (.k (.int 15))),(.bi .max [(.k (.int 0)),(.bin .sub (.bin .add (.v 1) (.bin .mod (.v 0) (.k (.int 7)))) (.k (.int 3)))])]),
 .ret (.tup [(.v 2),(.bi .min [(.bin .pow (.k (.int 10)) (.k (.int 15))),(.bi .max [(.k (.int 0)),(.bin .sub (.bin .add (.v 2) (.bin .mod (.bin .fdiv (.v 0) (.k (.int 7))) (.k (.int 9)))) (.k (.int 2)))])])])]⟩
noncomputable def f_law_atom_by:Fd:=⟨2,7,[.set 2 false (.call 31 [(.call 30 [(.v 0)])]),
 .set 3 false (.call 34 [(.v 0),(.v 1)]),
 .set 4 false (.bin .mod (.v 2) (.k (.int 9))),
 .set 2 false (.bin .fdiv (.v 2) (.k (.int 9))),
 .ite (.cmp .eq (.v 4) (.k (.int 0))) [.ret (.tup [(.k (.str (PySem.Str.ofString "anything")))])] [],
 .ite (.cmp .eq (.v 4) (.k (.int 1))) [.ret (.tup [(.k (.str (PySem.Str.ofString "meets"))),(.v 3)])] [],
 .ite (.cmp .eq (.v 4) (.k (.int 2))) [.ret (.tup [(.k (.str (PySem.Str.ofString "inside"))),(.v 3)])] [],
 .ite (.cmp .eq (.v 4) (.k (.int 3))) [.ret (.tup [(.k (.str (PySem.Str.ofString "holds"))),(.bi .tuple [(.compS (.tup [(.ix (.v 0) (.k (.int 0))),(.bin .add (.ix (.v 0) (.k (.int 0))) (.bin .mod (.v 1) (.k (.int 3))))]) 1 [2] (.one 0) (.v 3))])])] [],
 .ite (.cmp .eq (.v 4) (.k (.int 4))) [.set 5 false (.bin .mod (.bin .fdiv (.v 2) (.k (.int 3))) (.k (.int 60))),.ite (.cmp .eq (.bin .mod (.v 2) (.k (.int 3))) (.k (.int 1))) [.set 5 false (.bin .pow (.bin .mod (.bin .fdiv (.v 2) (.k (.int 3))) (.k (.int 9))) (.k (.int 2)))] [],.ite (.cmp .eq (.bin .mod (.v 2) (.k (.int 3))) (.k (.int 2))) [.set 5 false (.bin .mod (.v 0) (.bin .add (.bin .pow (.k (.int 10)) (.k (.int 62))) (.k (.int 1))))] [],.ret (.tup [(.k (.str (PySem.Str.ofString "near"))),(.v 3),(.v 5)])] [],
 .ite (.cmp .eq (.v 4) (.k (.int 5))) [.ret (.tup [(.k (.str (PySem.Str.ofString "marked"))),(.call 35 [(.v 2)])])] [],
 .ite (.cmp .eq (.v 4) (.k (.int 6))) [.ret (.tup [(.k (.str (PySem.Str.ofString "touched"))),(.call 35 [(.v 2)])])] [],
 .ite (.cmp .eq (.v 4) (.k (.int 7))) [.set 6 false (.call 36 [(.v 2),(.ix (.v 1) (.k (.int 4)))]),.ret (.tup [(.k (.str (PySem.Str.ofString "crosses"))),(.v 3),(.ix (.v 6) (.k (.int 0))),(.ix (.v 6) (.k (.int 1)))])] [],
 .ret (.tup [(.k (.str (PySem.Str.ofString "worthy"))),(.bin .sub (.bin .add (.ix (.ix (.v 1) (.k (.int 1))) (.k (.int 0))) (.bin .mod (.v 2) (.k (.int 11)))) (.k (.int 5)))])]⟩
noncomputable def f_law_want:Fd:=⟨1,1,[.ite (.cmp .eq (.ix (.v 0) (.k (.int 0))) (.k (.str (PySem.Str.ofString "meets")))) [.ret (.mk ⟨313,[(PySem.Str.ofString "box")]⟩ [(.ix (.v 0) (.k (.int 1)))])] [],
 .ite (.cmp .eq (.ix (.v 0) (.k (.int 0))) (.k (.str (PySem.Str.ofString "inside")))) [.ret (.mk ⟨353,[(PySem.Str.ofString "box")]⟩ [(.ix (.v 0) (.k (.int 1)))])] [],
 .ite (.cmp .eq (.ix (.v 0) (.k (.int 0))) (.k (.str (PySem.Str.ofString "holds")))) [.ret (.mk ⟨393,[(PySem.Str.ofString "box")]⟩ [(.ix (.v 0) (.k (.int 1)))])] [],
 .ite (.cmp .eq (.ix (.v 0) (.k (.int 0))) (.k (.str (PySem.Str.ofString "near")))) [.ret (.mk ⟨433,[(PySem.Str.ofString "box"),(PySem.Str.ofString "far")]⟩ [(.ix (.v 0) (.k (.int 1))),(.ix (.v 0) (.k (.int 2)))])] [],
 .ite (.cmp .eq (.ix (.v 0) (.k (.int 0))) (.k (.str (PySem.Str.ofString "marked")))) [.ret (.mk ⟨473,[(PySem.Str.ofString "marks")]⟩ [(.ix (.v 0) (.k (.int 1)))])] [],
 .ite (.cmp .eq (.ix (.v 0) (.k (.int 0))) (.k (.str (PySem.Str.ofString "touched")))) [.ret (.mk ⟨513,[(PySem.Str.ofString "marks")]⟩ [(.ix (.v 0) (.k (.int 1)))])] [],
 .ite (.cmp .eq (.ix (.v 0) (.k (.int 0))) (.k (.str (PySem.Str.ofString "crosses")))) [.ret (.mk ⟨553,[(PySem.Str.ofString "box"),(PySem.Str.ofString "first"),(PySem.Str.ofString "last")]⟩ [(.ix (.v 0) (.k (.int 1))),(.ix (.v 0) (.k (.int 2))),(.ix (.v 0) (.k (.int 3)))])] [],
 .ite (.cmp .eq (.ix (.v 0) (.k (.int 0))) (.k (.str (PySem.Str.ofString "worthy")))) [.ret (.mk ⟨593,[(PySem.Str.ofString "least")]⟩ [(.ix (.v 0) (.k (.int 1)))])] [],
 .ret (.mk ⟨273,[]⟩ [])]⟩
noncomputable def f_law_at:Fd:=⟨2,2,[.ret (.compS (.tup [(.bin .add (.ix (.v 0) (.k (.int 0))) (.bin .mul (.ix (.v 0) (.k (.int 2))) (.v 1))),(.bin .add (.ix (.v 0) (.k (.int 1))) (.bin .mul (.ix (.v 0) (.k (.int 3))) (.v 1)))]) 1 [1] (.one 0) (.v 0))]⟩
noncomputable def f_law_meet:Fd:=⟨2,2,[.ret (.bi .all [(.compZ (.and (.cmp .le (.ix (.v 0) (.k (.int 0))) (.ix (.v 1) (.k (.int 1)))) (.cmp .le (.ix (.v 1) (.k (.int 0))) (.ix (.v 0) (.k (.int 1))))) 2 [] (.two 0 1) (.v 0) (.v 1))])]⟩
noncomputable def f_law_within:Fd:=⟨2,2,[.ret (.bi .all [(.compZ (.and (.cmp .le (.ix (.v 1) (.k (.int 0))) (.ix (.v 0) (.k (.int 0)))) (.cmp .le (.ix (.v 0) (.k (.int 1))) (.ix (.v 1) (.k (.int 1))))) 2 [] (.two 0 1) (.v 0) (.v 1))])]⟩
noncomputable def f_law_apart:Fd:=⟨2,2,[.ret (.bi .sum [(.compZ (.bin .pow (.bi .max [(.k (.int 0)),(.bin .sub (.ix (.v 0) (.k (.int 0))) (.ix (.v 1) (.k (.int 1)))),(.bin .sub (.ix (.v 1) (.k (.int 0))) (.ix (.v 0) (.k (.int 1))))]) (.k (.int 2))) 2 [] (.two 0 1) (.v 0) (.v 1))])]⟩
noncomputable def f_law_meets_between:Fd:=⟨4,5,[.forR (.one 4) [(.v 2),(.bin .add (.v 3) (.k (.int 1)))] [.ite (.call 40 [(.call 39 [(.v 0),(.v 4)]),(.v 1)]) [.ret (.k (.bl true))] []],
 .ret (.k (.bl false))]⟩
noncomputable def f_law_true_of:Fd:=⟨5,6,[.ite (.cmp .eq (.ix (.v 0) (.k (.int 0))) (.k (.str (PySem.Str.ofString "anything")))) [.ret (.k (.bl true))] [],
 .ite (.cmp .eq (.ix (.v 0) (.k (.int 0))) (.k (.str (PySem.Str.ofString "marked")))) [.ret (.cmp .eq (.bin .band (.v 2) (.ix (.v 0) (.k (.int 1)))) (.ix (.v 0) (.k (.int 1))))] [],
 .ite (.cmp .eq (.ix (.v 0) (.k (.int 0))) (.k (.str (PySem.Str.ofString "touched")))) [.ret (.cmp .ne (.bin .band (.v 2) (.ix (.v 0) (.k (.int 1)))) (.k (.int 0)))] [],
 .ite (.cmp .eq (.ix (.v 0) (.k (.int 0))) (.k (.str (PySem.Str.ofString "worthy")))) [.ret (.cmp .ge (.v 3) (.ix (.v 0) (.k (.int 1))))] [],
 .ite (.cmp .eq (.ix (.v 0) (.k (.int 0))) (.k (.str (PySem.Str.ofString "crosses")))) [.ret (.call 43 [(.v 1),(.ix (.v 0) (.k (.int 1))),(.ix (.v 0) (.k (.int 2))),(.ix (.v 0) (.k (.int 3)))])] [],
 .set 5 false (.call 39 [(.v 1),(.v 4)]),
 .ite (.cmp .eq (.ix (.v 0) (.k (.int 0))) (.k (.str (PySem.Str.ofString "meets")))) [.ret (.call 40 [(.v 5),(.ix (.v 0) (.k (.int 1)))])] [],
 .ite (.cmp .eq (.ix (.v 0) (.k (.int 0))) (.k (.str (PySem.Str.ofString "inside")))) [.ret (.call 41 [(.v 5),(.ix (.v 0) (.k (.int 1)))])] [],
 .ite (.cmp .eq (.ix (.v 0) (.k (.int 0))) (.k (.str (PySem.Str.ofString "holds")))) [.ret (.call 41 [(.ix (.v 0) (.k (.int 1))),(.v 5)])] [],
 .ret (.cmp .le (.call 42 [(.v 5),(.ix (.v 0) (.k (.int 1)))]) (.ix (.v 0) (.k (.int 2))))]⟩
noncomputable def f_law_poured:Fd:=⟨1,11,[.set 1 true (.lst []),
 .set 2 true (.lst []),
 .forR (.one 3) [(.bi .len [(.ix (.ix (.v 0) (.k (.int 0))) (.k (.int 1)))])] [.set 5 false (.compS (.ix (.ix (.ix (.v 0) (.k (.int 1))) (.v 1)) (.k (.int 0))) 1 [3] (.one 0) (.v 0)),.set 6 false (.compS (.ix (.ix (.ix (.v 0) (.k (.int 1))) (.v 1)) (.k (.int 1))) 1 [3] (.one 0) (.v 0)),.set 7 false (.compS (.ix (.ix (.ix (.v 0) (.k (.int 1))) (.v 1)) (.k (.int 2))) 1 [3] (.one 0) (.v 0)),.app 1 (.tup [(.bi .min [(.v 5)]),(.bi .max [(.v 6)]),(.bi .min [(.v 7)]),(.bi .max [(.v 7)])]),.app 2 (.tup [(.bi .max [(.v 5)]),(.bi .min [(.v 6)]),(.bi .max [(.v 7)]),(.bi .min [(.v 7)])])],
 .set 8 false (.k (.int 0)),
 .set 9 false (.k (.int 65535)),
 .forS (.one 4) (.v 0) [.set 8 false (.bin .bor (.v 8) (.ix (.v 4) (.k (.int 2)))),.set 9 false (.bin .band (.v 9) (.ix (.v 4) (.k (.int 2))))],
 .set 10 false (.compS (.ix (.v 0) (.k (.int 3))) 1 [] (.one 0) (.v 0)),
 .ret (.tup [(.bi .tuple [(.v 1)]),(.bi .tuple [(.v 2)]),(.v 8),(.v 9),(.bi .len [(.v 0)]),(.bi .min [(.v 10)]),(.bi .max [(.v 10)]),(.bi .sum [(.v 10)])])]⟩
noncomputable def f_law_pair:Fd:=⟨2,4,[.pop (.one 2) 0,
 .pop (.one 3) 0,
 .ite (.cmp .eq (.v 1) (.k (.int 0))) [.app 0 (.tup [(.mk ⟨633,[(PySem.Str.ofString "one"),(PySem.Str.ofString "two")]⟩ [(.ix (.v 3) (.k (.int 0))),(.ix (.v 2) (.k (.int 0)))]),(.compZ (.and (.v 0) (.v 1)) 2 [] (.two 0 1) (.ix (.v 3) (.k (.int 1))) (.ix (.v 2) (.k (.int 1))))])] [.app 0 (.tup [(.mk ⟨673,[(PySem.Str.ofString "one"),(PySem.Str.ofString "two")]⟩ [(.ix (.v 3) (.k (.int 0))),(.ix (.v 2) (.k (.int 0)))]),(.compZ (.or (.v 0) (.v 1)) 2 [] (.two 0 1) (.ix (.v 3) (.k (.int 1))) (.ix (.v 2) (.k (.int 1))))])]]⟩
noncomputable def f_law_push:Fd:=⟨4,8,[.set 4 false (.bin .mod (.bin .fdiv (.call 30 [(.v 1)]) (.k (.int 9))) (.k (.int 8))),
 .ite (.and (.cmp .lt (.v 4) (.k (.int 2))) (.cmp .gt (.bi .len [(.v 0)]) (.k (.int 1)))) [.hnd 0 46 [(.v 4)]] [.ite (.and (.cmp .eq (.v 4) (.k (.int 2))) (.cmp .ne (.v 0) (.lst []))) [.pop (.one 5) 0,.app 0 (.tup [(.mk ⟨713,[(PySem.Str.ofString "one")]⟩ [(.ix (.v 5) (.k (.int 0)))]),(.compS (.not (.v 0)) 1 [] (.one 0) (.ix (.v 5) (.k (.int 1))))])] [.set 6 false (.call 37 [(.v 1),(.v 2)]),.set 7 false (.compS (.call 44 [(.v 1),(.ix (.v 0) (.k (.int 1))),(.ix (.v 0) (.k (.int 2))),(.ix (.v 0) (.k (.int 3))),(.ix (.v 2) (.k (.int 4)))]) 1 [6,2] (.one 0) (.v 3)),.app 0 (.tup [(.call 38 [(.v 6)]),(.v 7)])]]]⟩
noncomputable def f_law_lies:Fd:=⟨2,2,[.ite (.or (.not (.isi (.v 0) .str)) (.cmp .notin (.v 0) (.lst [(.k (.str (PySem.Str.ofString "every"))),(.k (.str (PySem.Str.ofString "none"))),(.k (.str (PySem.Str.ofString "open")))]))) [.ret (.k (.bl true))] [],
 .ite (.cmp .eq (.v 0) (.k (.str (PySem.Str.ofString "every")))) [.ret (.inV false (.k (.bl false)) 1)] [],
 .ret (.and (.cmp .eq (.v 0) (.k (.str (PySem.Str.ofString "none")))) (.inV false (.k (.bl true)) 1))]⟩
noncomputable def f_law_wrong_on:Fd:=⟨4,5,[.set 4 false (.mc (.v 0) (PySem.Str.ofString "suits") [(273,51),(313,53),(353,55),(393,57),(433,59),(473,61),(513,63),(553,65),(593,67),(633,69),(673,71),(713,73)] [(.v 1),(.v 2)]),
 .ite (.or (.not (.isi (.v 4) .bool)) (.cmp .ne (.v 4) (.v 3))) [.ret (.k (.bl true))] [],
 .ret (.cmp .ne (.mc (.v 0) (PySem.Str.ofString "verdict") [(273,52),(313,54),(353,56),(393,58),(433,60),(473,62),(513,64),(553,66),(593,68),(633,70),(673,72),(713,74)] [(.call 45 [(.lst [(.v 1)])]),(.v 2)]) (.ix (.lst [(.k (.str (PySem.Str.ofString "none"))),(.k (.str (PySem.Str.ofString "every")))]) (.bi .int [(.v 3)])))]⟩
noncomputable def f_law:Fd:=⟨1,13,[.set 1 false (.call 32 [(.v 0)]),
 .set 2 false (.bin .add (.lst [(.k (.int 0)),(.k (.int 1)),(.k (.int 2))]) (.sl (.v 0) (some (.k (.int 4))) (some (.k (.int 64))))),
 .set 4 false (.compG (.call 33 [(.ix (.v 1) (.v 0)),(.v 2)]) (.cmp .ne (.bin .mod (.v 0) (.k (.int 3))) (.k (.int 2))) 1 [2,1] (.one 0) [(.bi .len [(.v 2)])]),
 .set 5 true (.lst []),
 .forR (.one 3) [(.k (.int 2)),(.bi .len [(.v 2)]),(.k (.int 3))] [.hnd 5 47 [(.ix (.v 2) (.v 3)),(.v 1),(.v 4)]],
 .whl (.cmp .gt (.bi .len [(.v 5)]) (.k (.int 1))) [.hnd 5 46 [(.bin .mod (.bi .len [(.v 5)]) (.k (.int 2)))]],
 .set 6 false (.ix (.ix (.v 5) (.k (.int 0))) (.k (.int 0))),
 .set 7 false (.ix (.ix (.v 5) (.k (.int 0))) (.k (.int 1))),
 .set 8 false (.ix (.v 1) (.k (.int 4))),
 .set 9 false (.bin .mod (.call 29 [(.v 0),(.k (.int 3))]) (.bi .len [(.v 4)])),
 .forS (.one 10) (.lst [(.tup [(.k (.int 0)),(.bi .len [(.v 4)])]),(.tup [(.k (.int 0)),(.v 9)]),(.tup [(.v 9),(.bi .len [(.v 4)])])]) [.set 11 false (.sl (.v 4) (some (.ix (.v 10) (.k (.int 0)))) (some (.ix (.v 10) (.k (.int 1))))),.ite (.cmp .ne (.v 11) (.lst [])) [.set 12 false (.mc (.v 6) (PySem.Str.ofString "verdict") [(273,52),(313,54),(353,56),(393,58),(433,60),(473,62),(513,64),(553,66),(593,68),(633,70),(673,72),(713,74)] [(.call 45 [(.v 11)]),(.v 8)]),.ite (.call 48 [(.v 12),(.sl (.v 7) (some (.ix (.v 10) (.k (.int 0)))) (some (.ix (.v 10) (.k (.int 1)))))]) [.ret (.k (.bl false))] []] []],
 .forR (.one 3) [(.bi .len [(.v 4)])] [.ite (.call 49 [(.v 6),(.ix (.v 4) (.v 3)),(.v 8),(.ix (.v 7) (.v 3))]) [.ret (.k (.bl false))] []],
 .ret (.not (.call 49 [(.v 6),(.ix (.v 4) (.k (.int 0))),(.v 8),(.ix (.v 7) (.k (.int 0)))]))]⟩
noncomputable def qBi:Fd:=⟨3,3,[.ret (.k (.bl true))]⟩
noncomputable def qA6:Fd:=⟨3,3,[.ret (.k (.str (PySem.Str.ofString "every")))]⟩
noncomputable def qBM:Fd:=⟨3,3,[.ret (.call 4 [(.call 16 [(.v 1),(.v 2)]),(.fld (.v 0) 0 (PySem.Str.ofString "box"))])]⟩
noncomputable def qBn:Fd:=⟨3,3,[.ret (.call 23 [(.call 4 [(.call 25 [(.v 1),(.v 2)]),(.fld (.v 0) 0 (PySem.Str.ofString "box"))]),(.not (.call 4 [(.call 24 [(.v 1),(.v 2)]),(.fld (.v 0) 0 (PySem.Str.ofString "box"))]))])]⟩
noncomputable def qBz:Fd:=⟨3,3,[.ret (.call 5 [(.call 16 [(.v 1),(.v 2)]),(.fld (.v 0) 0 (PySem.Str.ofString "box"))])]⟩
noncomputable def qBh:Fd:=⟨3,3,[.ret (.call 23 [(.call 5 [(.call 24 [(.v 1),(.v 2)]),(.fld (.v 0) 0 (PySem.Str.ofString "box"))]),(.not (.call 5 [(.call 25 [(.v 1),(.v 2)]),(.fld (.v 0) 0 (PySem.Str.ofString "box"))]))])]⟩
noncomputable def qBN:Fd:=⟨3,3,[.ret (.call 5 [(.fld (.v 0) 0 (PySem.Str.ofString "box")),(.call 16 [(.v 1),(.v 2)])])]⟩
noncomputable def qBo:Fd:=⟨3,3,[.ret (.call 23 [(.call 5 [(.fld (.v 0) 0 (PySem.Str.ofString "box")),(.call 25 [(.v 1),(.v 2)])]),(.not (.call 5 [(.fld (.v 0) 0 (PySem.Str.ofString "box")),(.call 24 [(.v 1),(.v 2)])]))])]⟩
noncomputable def qB6:Fd:=⟨3,3,[.ret (.cmp .le (.call 6 [(.call 16 [(.v 1),(.v 2)]),(.fld (.v 0) 0 (PySem.Str.ofString "box"))]) (.fld (.v 0) 1 (PySem.Str.ofString "far")))]⟩
noncomputable def f_Near_verdict:Fd:=⟨3,5,[.set 3 false (.call 6 [(.call 25 [(.v 1),(.v 2)]),(.fld (.v 0) 0 (PySem.Str.ofString "box"))]),
 .set 4 false (.call 6 [(.call 24 [(.v 1),(.v 2)]),(.fld (.v 0) 0 (PySem.Str.ofString "box"))]),
 .ret (.call 23 [(.cmp .le (.v 3) (.fld (.v 0) 1 (PySem.Str.ofString "far"))),(.cmp .gt (.v 4) (.fld (.v 0) 1 (PySem.Str.ofString "far")))])]⟩
noncomputable def qBy:Fd:=⟨3,3,[.ret (.call 26 [(.call 14 [(.v 1)]),(.fld (.v 0) 0 (PySem.Str.ofString "marks"))])]⟩
noncomputable def qBg:Fd:=⟨3,3,[.ret (.call 23 [(.call 26 [(.call 20 [(.v 1)]),(.fld (.v 0) 0 (PySem.Str.ofString "marks"))]),(.not (.call 26 [(.call 19 [(.v 1)]),(.fld (.v 0) 0 (PySem.Str.ofString "marks"))]))])]⟩
noncomputable def qBm:Fd:=⟨3,3,[.ret (.call 27 [(.call 14 [(.v 1)]),(.fld (.v 0) 0 (PySem.Str.ofString "marks"))])]⟩
noncomputable def qA9:Fd:=⟨3,3,[.ret (.call 23 [(.call 27 [(.call 20 [(.v 1)]),(.fld (.v 0) 0 (PySem.Str.ofString "marks"))]),(.not (.call 27 [(.call 19 [(.v 1)]),(.fld (.v 0) 0 (PySem.Str.ofString "marks"))]))])]⟩
noncomputable def qBp:Fd:=⟨3,3,[.ret (.call 28 [(.call 13 [(.v 1)]),(.fld (.v 0) 0 (PySem.Str.ofString "box")),(.fld (.v 0) 1 (PySem.Str.ofString "first")),(.fld (.v 0) 2 (PySem.Str.ofString "last"))])]⟩
noncomputable def f_Crosses_verdict:Fd:=⟨3,5,[.set 3 false (.call 28 [(.call 18 [(.v 1)]),(.fld (.v 0) 0 (PySem.Str.ofString "box")),(.fld (.v 0) 1 (PySem.Str.ofString "first")),(.fld (.v 0) 2 (PySem.Str.ofString "last"))]),
 .set 4 false (.call 28 [(.call 17 [(.v 1)]),(.fld (.v 0) 0 (PySem.Str.ofString "box")),(.fld (.v 0) 1 (PySem.Str.ofString "first")),(.fld (.v 0) 2 (PySem.Str.ofString "last"))]),
 .ret (.call 23 [(.v 3),(.not (.v 4))])]⟩
noncomputable def qBx:Fd:=⟨3,3,[.ret (.cmp .ge (.call 15 [(.v 1)]) (.fld (.v 0) 0 (PySem.Str.ofString "least")))]⟩
noncomputable def qBf:Fd:=⟨3,3,[.ret (.call 23 [(.cmp .ge (.call 21 [(.v 1)]) (.fld (.v 0) 0 (PySem.Str.ofString "least"))),(.cmp .lt (.call 22 [(.v 1)]) (.fld (.v 0) 0 (PySem.Str.ofString "least")))])]⟩
noncomputable def f_Both_suits:Fd:=⟨3,3,[.ret (.and (.mc (.fld (.v 0) 0 (PySem.Str.ofString "one")) (PySem.Str.ofString "suits") [(273,51),(313,53),(353,55),(393,57),(433,59),(473,61),(513,63),(553,65),(593,67),(633,69),(673,71),(713,73)] [(.v 1),(.v 2)]) (.mc (.fld (.v 0) 1 (PySem.Str.ofString "two")) (PySem.Str.ofString "suits") [(273,51),(313,53),(353,55),(393,57),(433,59),(473,61),(513,63),(553,65),(593,67),(633,69),(673,71),(713,73)] [(.v 1),(.v 2)]))]⟩
noncomputable def f_Both_verdict:Fd:=⟨3,4,[.set 3 false (.tup [(.mc (.fld (.v 0) 0 (PySem.Str.ofString "one")) (PySem.Str.ofString "verdict") [(273,52),(313,54),(353,56),(393,58),(433,60),(473,62),(513,64),(553,66),(593,68),(633,70),(673,72),(713,74)] [(.v 1),(.v 2)]),(.mc (.fld (.v 0) 1 (PySem.Str.ofString "two")) (PySem.Str.ofString "verdict") [(273,52),(313,54),(353,56),(393,58),(433,60),(473,62),(513,64),(553,66),(593,68),(633,70),(673,72),(713,74)] [(.v 1),(.v 2)])]),
 .ret (.call 23 [(.cmp .eq (.v 3) (.tup [(.k (.str (PySem.Str.ofString "every"))),(.k (.str (PySem.Str.ofString "every")))])),(.inV false (.k (.str (PySem.Str.ofString "none"))) 3)])]⟩
noncomputable def f_Either_suits:Fd:=⟨3,3,[.ret (.or (.mc (.fld (.v 0) 0 (PySem.Str.ofString "one")) (PySem.Str.ofString "suits") [(273,51),(313,53),(353,55),(393,57),(433,59),(473,61),(513,63),(553,65),(593,67),(633,69),(673,71),(713,73)] [(.v 1),(.v 2)]) (.mc (.fld (.v 0) 1 (PySem.Str.ofString "two")) (PySem.Str.ofString "suits") [(273,51),(313,53),(353,55),(393,57),(433,59),(473,61),(513,63),(553,65),(593,67),(633,69),(673,71),(713,73)] [(.v 1),(.v 2)]))]⟩
noncomputable def f_Either_verdict:Fd:=⟨3,4,[.set 3 false (.tup [(.mc (.fld (.v 0) 0 (PySem.Str.ofString "one")) (PySem.Str.ofString "verdict") [(273,52),(313,54),(353,56),(393,58),(433,60),(473,62),(513,64),(553,66),(593,68),(633,70),(673,72),(713,74)] [(.v 1),(.v 2)]),(.mc (.fld (.v 0) 1 (PySem.Str.ofString "two")) (PySem.Str.ofString "verdict") [(273,52),(313,54),(353,56),(393,58),(433,60),(473,62),(513,64),(553,66),(593,68),(633,70),(673,72),(713,74)] [(.v 1),(.v 2)])]),
 .ret (.call 23 [(.inV false (.k (.str (PySem.Str.ofString "every"))) 3),(.cmp .eq (.v 3) (.tup [(.k (.str (PySem.Str.ofString "none"))),(.k (.str (PySem.Str.ofString "none")))]))])]⟩
noncomputable def f_Unless_suits:Fd:=⟨3,3,[.ret (.not (.mc (.fld (.v 0) 0 (PySem.Str.ofString "one")) (PySem.Str.ofString "suits") [(273,51),(313,53),(353,55),(393,57),(433,59),(473,61),(513,63),(553,65),(593,67),(633,69),(673,71),(713,73)] [(.v 1),(.v 2)]))]⟩
noncomputable def f_Unless_verdict:Fd:=⟨3,4,[.set 3 false (.mc (.fld (.v 0) 0 (PySem.Str.ofString "one")) (PySem.Str.ofString "verdict") [(273,52),(313,54),(353,56),(393,58),(433,60),(473,62),(513,64),(553,66),(593,68),(633,70),(673,72),(713,74)] [(.v 1),(.v 2)]),
 .ret (.call 23 [(.cmp .eq (.v 3) (.k (.str (PySem.Str.ofString "none")))),(.cmp .eq (.v 3) (.k (.str (PySem.Str.ofString "every"))))])]⟩
noncomputable def tab:List Fd:=[qN2,f_sides_meet,f_side_inside,f_side_gap,f_boxes_meet,f_box_inside,f_box_gap,f_beats_of,f_beats_below,f_meeting,f_side_at,f_still_swath,f_frame_at,qBK,qBL,qBJ,f_thing_box,qB5,qB3,qCo,qB4,qB2,qCp,f_verdict_from,f_cover_at,f_heart_at,f_has_each,f_has_one,f_crosses_box,f_law_cell_at,f_law_stir,f_law_next,f_law_scene,f_law_thing_by,f_law_box_by,f_law_marks_by,f_law_window,f_law_atom_by,f_law_want,f_law_at,f_law_meet,f_law_within,f_law_apart,f_law_meets_between,f_law_true_of,f_law_poured,f_law_pair,f_law_push,f_law_lies,f_law_wrong_on,f_law,qBi,qA6,qBM,qBn,qBz,qBh,qBN,qBo,qB6,f_Near_verdict,qBy,qBg,qBm,qA9,qBp,f_Crosses_verdict,qBx,qBf,f_Both_suits,f_Both_verdict,f_Either_suits,f_Either_verdict,f_Unless_suits,f_Unless_verdict]
theorem t1:tab[1]?=some f_sides_meet:=rfl
theorem t2:tab[2]?=some f_side_inside:=rfl
theorem t3:tab[3]?=some f_side_gap:=rfl
theorem t4:tab[4]?=some f_boxes_meet:=rfl
theorem t5:tab[5]?=some f_box_inside:=rfl
theorem t6:tab[6]?=some f_box_gap:=rfl
theorem t7:tab[7]?=some f_beats_of:=rfl
theorem t8:tab[8]?=some f_beats_below:=rfl
theorem t9:tab[9]?=some f_meeting:=rfl
theorem t10:tab[10]?=some f_side_at:=rfl
theorem t11:tab[11]?=some f_still_swath:=rfl
theorem t12:tab[12]?=some f_frame_at:=rfl
theorem t13:tab[13]?=some qBK:=rfl
theorem t14:tab[14]?=some qBL:=rfl
theorem t15:tab[15]?=some qBJ:=rfl
theorem t16:tab[16]?=some f_thing_box:=rfl
theorem t17:tab[17]?=some qB5:=rfl
theorem t18:tab[18]?=some qB3:=rfl
theorem t19:tab[19]?=some qCo:=rfl
theorem t20:tab[20]?=some qB4:=rfl
theorem t21:tab[21]?=some qB2:=rfl
theorem t22:tab[22]?=some qCp:=rfl
theorem t23:tab[23]?=some f_verdict_from:=rfl
theorem t24:tab[24]?=some f_cover_at:=rfl
theorem t25:tab[25]?=some f_heart_at:=rfl
theorem t26:tab[26]?=some f_has_each:=rfl
theorem t27:tab[27]?=some f_has_one:=rfl
theorem t28:tab[28]?=some f_crosses_box:=rfl
theorem t29:tab[29]?=some f_law_cell_at:=rfl
theorem t30:tab[30]?=some f_law_stir:=rfl
theorem t31:tab[31]?=some f_law_next:=rfl
theorem t32:tab[32]?=some f_law_scene:=rfl
theorem t33:tab[33]?=some f_law_thing_by:=rfl
theorem t34:tab[34]?=some f_law_box_by:=rfl
theorem t35:tab[35]?=some f_law_marks_by:=rfl
theorem t36:tab[36]?=some f_law_window:=rfl
theorem t37:tab[37]?=some f_law_atom_by:=rfl
theorem t38:tab[38]?=some f_law_want:=rfl
theorem t39:tab[39]?=some f_law_at:=rfl
theorem t40:tab[40]?=some f_law_meet:=rfl
theorem t41:tab[41]?=some f_law_within:=rfl
theorem t42:tab[42]?=some f_law_apart:=rfl
theorem t43:tab[43]?=some f_law_meets_between:=rfl
theorem t44:tab[44]?=some f_law_true_of:=rfl
theorem t45:tab[45]?=some f_law_poured:=rfl
theorem t46:tab[46]?=some f_law_pair:=rfl
theorem t47:tab[47]?=some f_law_push:=rfl
theorem t48:tab[48]?=some f_law_lies:=rfl
theorem t49:tab[49]?=some f_law_wrong_on:=rfl
theorem t50:tab[50]?=some f_law:=rfl
theorem t51:tab[51]?=some qBi:=rfl
theorem t52:tab[52]?=some qA6:=rfl
theorem t53:tab[53]?=some qBM:=rfl
theorem t54:tab[54]?=some qBn:=rfl
theorem t55:tab[55]?=some qBz:=rfl
theorem t56:tab[56]?=some qBh:=rfl
theorem t57:tab[57]?=some qBN:=rfl
theorem t58:tab[58]?=some qBo:=rfl
theorem t59:tab[59]?=some qB6:=rfl
theorem t60:tab[60]?=some f_Near_verdict:=rfl
theorem t61:tab[61]?=some qBy:=rfl
theorem t62:tab[62]?=some qBg:=rfl
theorem t63:tab[63]?=some qBm:=rfl
theorem t64:tab[64]?=some qA9:=rfl
theorem t65:tab[65]?=some qBp:=rfl
theorem t66:tab[66]?=some f_Crosses_verdict:=rfl
theorem t67:tab[67]?=some qBx:=rfl
theorem t68:tab[68]?=some qBf:=rfl
theorem t69:tab[69]?=some f_Both_suits:=rfl
theorem t70:tab[70]?=some f_Both_verdict:=rfl
theorem t71:tab[71]?=some f_Either_suits:=rfl
theorem t72:tab[72]?=some f_Either_verdict:=rfl
theorem t73:tab[73]?=some f_Unless_suits:=rfl
theorem t74:tab[74]?=some f_Unless_verdict:=rfl
end Dw.T
namespace Dw
theorem qAY {n:Nat}(h:n<=16777216):n<=lim:=h
theorem qC7 {n:Nat}(h:n<16777216):n<lim:=h
theorem qLz:(0<=lim)=True:=eq_true (Nat.zero_le _)
theorem qNI:(2<=lim)=True:=eq_true (qAY (by decide))
theorem qOH:(4<=lim)=True:=eq_true (qAY (by decide))
noncomputable def qEL:=qEM
noncomputable def qIr:=qFd
noncomputable def biP:=biD
noncomputable def ixP:=ixx
noncomputable def slP:=slx
noncomputable def ixQ:=ixD
noncomputable def qL8:=qJo
noncomputable def isP:=isD
noncomputable def qQa:=qPr
noncomputable def qFx:=qEK
noncomputable def qIo:=qCw
noncomputable def qMk:=qF6
noncomputable def qPT:=qJy
section
variable (a b:Int) (x y z:D) (xs ys:List D)
@[simp] theorem qAF:qEL .add (.int a) (.int b)=some (false,.int (a+b)):=rfl
@[simp] theorem qAU:qEL .sub (.int a) (.int b)=some (false,.int (a - b)):=rfl
@[simp] theorem qBd:qEL .mul (.int a) (.int b)=if qCf a b then some (false,.int (a * b)) else none:=rfl
@[simp] theorem qAo:qEL .fdiv (.int a) (.int b)=if qAW b then some (false,.int (a.fdiv b)) else none:=rfl
@[simp] theorem qAh:qEL .mod (.int a) (.int b)=if qAW b then some (false,.int (a.fmod b)) else none:=rfl
@[simp] theorem qA1:qEL .pow (.int a) (.int b)=if qCI a b then some (false,.int (a^b.toNat)) else none:=rfl
@[simp] theorem qJt:qEL .shl (.int a) (.int b)=if qIN a b then some (false,.int (a * 2^b.toNat)) else none:=rfl
@[simp] theorem qB8:qEL .band (.int a) (.int b)=if 0<=a/\0<=b then some (false,.int ((a.toNat &&& b.toNat:Nat):Int)) else none:=rfl
@[simp] theorem qD1:qEL .bor (.int a) (.int b)=if 0<=a/\0<=b then some (false,.int ((a.toNat ||| b.toNat:Nat):Int)) else none:=rfl
@[simp] theorem qIc:qEL .add (.lst xs) (.lst ys)=if xs.length+ys.length<=lim then some (true,.lst (xs++ys)) else none:=rfl
@[simp] theorem qLT:qIr .ne x y=if (qCN 20 x||qCN 20 y)&&(nob x&&nob y) then some (false,.bl (!eqD x y)) else (qOG x y).map λe=>(false,.bl (!e)):=rfl
@[simp] theorem qAg:qIr .eq (.int a) (.int b)=some (false,.bl (eqD (.int a) (.int b))):=rfl
@[simp] theorem qCG:qIr .ne (.int a) (.int b)=some (false,.bl (!eqD (.int a) (.int b))):=rfl
@[simp] theorem qCr:qIr .lt (.int a) (.int b)=some (false,.bl (decide (a<b))):=rfl
@[simp] theorem qBA:qIr .le (.int a) (.int b)=some (false,.bl (decide (a<=b))):=rfl
@[simp] theorem qBP:qIr .gt (.int a) (.int b)=some (false,.bl (decide (b<a))):=rfl
@[simp] theorem qDX:qIr .ge (.int a) (.int b)=some (false,.bl (decide (b<=a))):=rfl
theorem qNY (i j:Int):(if j<i then j else i)=min i j:=by omega
theorem qHt (i j:Int):(if i<j then j else i)=max i j:=by omega
@[simp] theorem qJv:biP .len [.tup xs]=some (false,.int xs.length):=rfl
@[simp] theorem qBQ:biP .len [.lst xs]=some (false,.int xs.length):=rfl
@[simp] theorem qFf:biP .min [.int a,.int b]=some (false,.int (min a b)):=by rw [<-qNY];rfl
@[simp] theorem qFg:biP .max [.int a,.int b]=some (false,.int (max a b)):=by rw [<-qHt];rfl
@[simp] theorem qF0 (c:Int):biP .max [.int a,.int b,.int c]=some (false,.int (max (max a b) c)):=by rw [<-qHt,<-qHt];rfl
@[simp] theorem qId:biP .sum [.lst xs]=(qCi xs).map λis=>(false,.int is.sum):=rfl
@[simp] theorem qLY:biP .all [.lst xs]=(qDu xs).map λbs=>(false,.bl (bs.all id)):=rfl
@[simp] theorem qD2:biP .tuple [.lst xs]=some (false,.tup xs):=rfl
@[simp] theorem qHo:ixP (.lst xs) (.int a)=(ixQ xs a).map (false,·):=rfl
@[simp] theorem qPy:ixP (.tup xs) (.int a)=(ixQ xs a).map (false,·):=rfl
@[simp] theorem qPx:ixQ (x::xs) 0=some x:=by simp [ixQ]
theorem qE2 (j:Nat):ixQ xs (j:Int)=xs[j]?:=by
 simp only [ixQ,ixD,ixN];rw [if_pos (by omega)]
 by_cases h:j<xs.length
 ·rw [if_pos (by omega)];simp
 ·rw [if_neg (by omega)];simp;omega
@[simp] theorem qKY (l h):slP l h (.lst xs)=some (true,.lst (qL8 xs l h)):=rfl
@[simp] theorem qI4:qQa (.int a)=some (false,.int (-a)):=rfl
@[simp] theorem qMT:qFx [.int a]=if -(2^62)<=a/\a<2^62 then some ((List.range a.toNat).map λi=>.int (i:Nat)) else none:=rfl
@[simp] theorem qMS:qFx [.int a,.int b]=some ((List.range (b - a).toNat).map λi=>.int (a+(i:Nat))):=rfl
theorem qMR (c:Int):qFx [.int a,.int b,.int c]=if -(2^62)<=a/\a<2^62/\-(2^62)<=b/\b<2^62/\c≠0/\c.natAbs<2^30 then some ((List.range (qEJ a b c).toNat).map λi=>.int (a+(i:Nat) * c)) else none:=rfl
theorem qMQ (n:Nat) (h:n<=10000):qFx [.int n]=some ((List.range n).map λi=>.int (i:Nat)):=by
 rw [qMT,if_pos (by omega)];simp
end
section
variable (call:Nat->List D->Option R) (σ:En)
@[simp 5000] theorem qBT (i):evE call σ (.v i)=qAR (qAe σ i):=rfl
@[simp 5000] theorem qAp (d):evE call σ (.k d)=some (false,d):=rfl
@[simp 5000] theorem qAj (o a b):evE call σ (.bin o a b)=match pk σ a (evE call σ a) with
 | none=>none|some x=>match pk σ b (evE call σ b) with|none=>none|some y=>qEL o x y:=by
 rw [qHL];cases pk σ a (evE call σ a)<;>first|rfl|(cases pk σ b (evE call σ b)<;>rfl)
@[simp 5000] theorem qMf (a):evE call σ (.neg a)=match pk σ a (evE call σ a) with|none=>none|some x=>qQa x:=by
 rw [qHH];cases pk σ a (evE call σ a)<;>rfl
@[simp 5000] theorem qAi (o a b):evE call σ (.cmp o a b)=match pk σ a (evE call σ a) with
 | none=>none|some x=>match pk σ b (evE call σ b) with|none=>none|some y=>qIr o x y:=by
 rw [qE9];cases pk σ a (evE call σ a)<;>first|rfl|(cases pk σ b (evE call σ b)<;>rfl)
@[simp 5000] theorem qMh (n a d):evE call σ (.isC n a d)=match pk σ a (evE call σ a) with|none=>none|some x=>isP n x d:=by
 rw [qE8];cases pk σ a (evE call σ a)<;>rfl
@[simp 5000] theorem qEa (a b):evE call σ (.and a b)=match evE call σ a with
 | none=>none|some (_,.bl c)=>(if c=true then evE call σ b else some (false,.bl false))|some _=>none:=by
 rw [qHM];rcases evE call σ a with _|⟨x,d⟩<;>first|rfl|(cases d<;>first|rfl|(rename_i c;cases c<;>rfl))
@[simp 5000] theorem qON (a b):evE call σ (.or a b)=match evE call σ a with
 | none=>none|some (_,.bl c)=>(if c=true then some (false,.bl true) else evE call σ b)|some _=>none:=by
 rw [qJ4];rcases evE call σ a with _|⟨x,d⟩<;>first|rfl|(cases d<;>first|rfl|(rename_i c;cases c<;>rfl))
@[simp 5000] theorem qCM (a):evE call σ (.not a)=match evE call σ a with
 | none=>none|some (_,.bl c)=>some (false,.bl (!c))|some _=>none:=by
 rw [qHG];rcases evE call σ a with _|⟨x,d⟩<;>first|rfl|(cases d<;>rfl)
@[simp 5000] theorem qAH (a b):evE call σ (.ix a b)=match pk σ a (evE call σ a) with
 | none=>none|some x=>match pk σ b (evE call σ b) with|none=>none|some y=>ixP x y:=by
 rw [qJ7];cases pk σ a (evE call σ a)<;>first|rfl|(cases pk σ b (evE call σ b)<;>rfl)
@[simp 5000] theorem qKo (a lo hi):evE call σ (.sl a lo hi)=match pk σ a (evE call σ a) with
 | none=>none|some x=>match evO call σ lo with|none=>none|some l=>match evO call σ hi with|none=>none|some h=>slP l h x:=by
 rw [qJ3];cases pk σ a (evE call σ a)<;>first|rfl|(cases evO call σ lo<;>first|rfl|(cases evO call σ hi<;>rfl))
@[simp 5000] theorem qAN (as):evE call σ (.tup as)=match evA call σ as with|none=>none|some xs=>if xs.length<=lim then some (false,.tup xs) else none:=by
 rw [qHF];cases evA call σ as<;>rfl
@[simp 5000] theorem qBV (as):evE call σ (.lst as)=match evA call σ as with|none=>none|some xs=>if xs.length<=lim then some (true,.lst xs) else none:=by
 rw [qHI];cases evA call σ as<;>rfl
@[simp 5000] theorem qAl (f as):evE call σ (.call f as)=match evG call σ as with|none=>none|some xs=>call f xs:=by
 rw [qFS];cases evG call σ as<;>rfl
@[simp 5000] theorem qJH (n a i):evE call σ (.inV n a i)=match pk σ a (evE call σ a) with|none=>none|some x=>match qAe σ i with|none=>none|some y=>inR n x y:=by
 rw [qHJ];cases pk σ a (evE call σ a)<;>first|rfl|(cases qAe σ i<;>rfl)
@[simp 5000] theorem qBv (b as):evE call σ (.bi b as)=match qCt call σ as with|none=>none|some xs=>biP b xs:=by
 rw [qFT];cases qCt call σ as<;>rfl
@[simp 5000] theorem qIx (e nl ks tg src):evE call σ (.compS e nl ks tg src)=match evE call σ src with
 | none=>none|some x=>match qIo x.2 with|none=>none|some its=>match qAM call e (qBb σ nl ks) tg its with|none=>none|some ys=>some (true,.lst ys):=by
 rw [qDl]
 cases evE call σ src with
 | none=>rfl
 | some x => show (qCw x.2).bind _ = match qCw x.2 with | none => none | some its => _
             cases qCw x.2 with
             | none=>rfl
             | some its => show (qAM call e (qBb σ nl ks) tg its).bind _ = match qAM call e (qBb σ nl ks) tg its with | none => none | some ys => _
                           cases qAM call e (qBb σ nl ks) tg its<;>rfl
@[simp 5000] theorem qIy (e nl ks tg rs):evE call σ (.compR e nl ks tg rs)=match qCt call σ rs with
 | none=>none|some x=>match qFx x with|none=>none|some its=>if its.length<=lim then (match qAM call e (qBb σ nl ks) tg its with|none=>none|some ys=>some (true,.lst ys)) else none:=by
 rw [qDm]
 cases qCt call σ rs with
 | none=>rfl
 | some x => show (qEK x).bind _ = match qEK x with | none => none | some its => _
             cases qEK x with
             | none=>rfl
             | some its => show (if its.length <= lim then (qAM call e (qBb σ nl ks) tg its).bind _ else none) = if its.length <= lim then (match qAM call e (qBb σ nl ks) tg its with | none => none | some ys => _) else none
                           cases qAM call e (qBb σ nl ks) tg its<;>rfl
@[simp 5000] theorem qIw (e nl ks tg a b):evE call σ (.compZ e nl ks tg a b)=match evE call σ a with
 | none=>none|some x=>match evE call σ b with|none=>none|some y=>match qIo x.2 with|none=>none|some xs=>match qMk y.2 with|none=>none|some ys=>match qAM call e (qBb σ nl ks) tg (qCk xs ys) with|none=>none|some zs=>some (true,.lst zs):=by
 rw [qDk]
 cases evE call σ a with
 | none=>rfl
 | some x =>
  cases evE call σ b with
  | none=>rfl
  | some y =>
   show (qCw x.2).bind _=match qCw x.2 with|none=>none|some its=>_
   cases qCw x.2 with
   | none=>rfl
   | some xs =>
    show (qF6 y.2).bind _=match qF6 y.2 with|none=>none|some its=>_
    cases qF6 y.2 with
    | none=>rfl
    | some ys =>
     show (qAM call e (qBb σ nl ks) tg (qCk xs ys)).bind _=match qAM call e (qBb σ nl ks) tg (qCk xs ys) with|none=>none|some ys=>_
     cases qAM call e (qBb σ nl ks) tg (qCk xs ys)<;>rfl
@[simp 5000] theorem qA4 (a j f):evE call σ (.fld a j f)=match evE call σ a with|none=>none|some r=>qCQ j f r.2:=by
 rw [qHK];cases evE call σ a<;>rfl
@[simp 5000] theorem qMg (kn as):evE call σ (.mk kn as)=match evA call σ as with|none=>none|some xs=>if xs.length=kn.ns.length then some (false,.obj kn xs) else none:=by
 rw [qJ5];cases evA call σ as<;>rfl
@[simp 5000] theorem qAs (a r):evA call σ (a::r)=match evE call σ a with|none=>none|some x=>match evA call σ r with|none=>none|some xs=>some (x.2::xs):=by
 rw [qCA];cases evE call σ a<;>first|rfl|(cases evA call σ r<;>rfl)
theorem qQj {a:C}{m:PySem.Str}{tb:List (Nat×Nat)}{bs:List C}{b:Bool}{kn:Kn}{os ys:List D}{f:Nat}{r:R}(ho:evE call σ a=some (b,.obj kn os)) (hm:kn.ns.all (λf=>f != m)=true) (ht:tb.lookup kn.c=some f) (hb:evA call σ bs=some ys) (hc:call f (.obj kn os::ys)=some r):evE call σ (.mc a m tb bs)=some r:=by
 rw [qJ6,ho,Option.bind_some]
 simp only [mtb,hm,if_true]
 rw [ht,Option.bind_some,hb,Option.bind_some,hc]
theorem qGI {i f:Nat}{as:List C}{xs ys zs:List D}{b:Bool}{qAZ:List S}{z:Option Ou}(hx:qAe σ i=some (true,.lst xs)) (ha:evA call σ as=some ys) (hc:call (f+HX) (.lst xs::ys)=some (b,.lst zs))
  (k:qAr call (σ.set i (some (true,.lst zs))) qAZ=z):qAr call σ (.hnd i f as::qAZ)=z:=by
 rw [qAS,qHC,hx,Option.bind_some]
 simp only [qLd,Option.bind_some]
 rw [ha,Option.bind_some,hc]
 exact k
@[simp 5000] theorem qAk (a r):evG call σ (a::r)=match ag σ a (evE call σ a) with|none=>none|some x=>match evG call σ r with|none=>none|some xs=>some (x::xs):=by
 rw [qFR];cases ag σ a (evE call σ a)<;>first|rfl|(cases evG call σ r<;>rfl)
@[simp 5000] theorem qAu (a r):qCt call σ (a::r)=match pk σ a (evE call σ a) with|none=>none|some x=>match qCt call σ r with|none=>none|some xs=>some (x::xs):=by
 rw [qCB];cases pk σ a (evE call σ a)<;>first|rfl|(cases qCt call σ r<;>rfl)
@[simp 5000] theorem qEP (c):evO call σ (some c)=match pk σ c (evE call σ c) with|none=>none|some x=>qL6 x:=by
 rw [qFQ];cases pk σ c (evE call σ c)<;>rfl
variable (qAZ:List S)
@[simp 5000] theorem qMc (i keep e):qAr call σ (.set i keep e::qAZ)=match evE call σ e with|none=>none|some r=>qAr call (σ.set i (some (qAz keep r))) qAZ:=by
 rw [qAS,qHz];cases evE call σ e<;>rfl
@[simp 5000] theorem qMe (i e):qAr call σ (.app i e::qAZ)=match evE call σ e with|none=>none|some x=>match qPT σ i x.2 with|some (.nx σ')=>qAr call σ' qAZ|some (.rt r)=>some (.rt r)|some (.bk q)=>some (.bk q)|some (.ct q)=>some (.ct q)|none=>none:=by
 rw [qAS,qHD]
 cases evE call σ e with
 | none=>rfl
 | some x =>
  show (qJy σ i x.2).bind _=match qJy σ i x.2 with|some (.nx σ')=>_|some (.rt r)=>_|some (.bk q)=>_|some (.ct q)=>_|none=>_
  rcases qJy σ i x.2 with _|(_|_|_|_)<;>rfl
@[simp 5000] theorem qMd (e):qAr call σ (.ret e::qAZ)=match qA2 σ e (evE call σ e) with|none=>none|some r=>some (.rt r):=by
 rw [qAS,qE7];cases qA2 σ e (evE call σ e)<;>rfl
@[simp 5000] theorem qGt (c a b):qAr call σ (.ite c a b::qAZ)=match evE call σ c with
 | none=>none
 | some (_,.bl t)=>if t=true then (match qAr call σ a with|some (.nx σ')=>qAr call σ' qAZ|some (.rt r)=>some (.rt r)|some (.bk q)=>some (.bk q)|some (.ct q)=>some (.ct q)|none=>none)
   else (match qAr call σ b with|some (.nx σ')=>qAr call σ' qAZ|some (.rt r)=>some (.rt r)|some (.bk q)=>some (.bk q)|some (.ct q)=>some (.ct q)|none=>none)
 | some _=>none:=by
 rw [qAS,qHB]
 rcases evE call σ c with _|⟨x,d⟩
 ·rfl
 ·cases d with
  | bl t =>
   cases t with
   | true => show (qAr call σ a).bind _ = match qAr call σ a with | some (.nx σ') => _ | some (.rt r) => _ | some (.bk q) => _ | some (.ct q) => _ | none => _
             rcases qAr call σ a with _|(_|_|_|_)<;>rfl
   | false => show (qAr call σ b).bind _ = match qAr call σ b with | some (.nx σ') => _ | some (.rt r) => _ | some (.bk q) => _ | some (.ct q) => _ | none => _
              rcases qAr call σ b with _|(_|_|_|_)<;>rfl
  | _=>rfl
@[simp 5000] theorem qKn (tg src body):qAr call σ (.forS tg src body::qAZ)=match evE call σ src with|none=>none|some x=>match qIo x.2 with|none=>none|some its=>match qA7 call body tg its σ with|some (.nx σ')=>qAr call σ' qAZ|some (.rt r)=>some (.rt r)|some (.bk q)=>some (.bk q)|some (.ct q)=>some (.ct q)|none=>none:=by
 rw [qAS,qFO]
 cases evE call σ src with
 | none=>rfl
 | some x =>
  show ((qCw x.2).bind _).bind _=match qCw x.2 with|none=>none|some its=>_
  cases qCw x.2 with
  | none=>rfl
  | some its =>
   show (qA7 call body tg its σ).bind _=match qA7 call body tg its σ with|some (.nx σ')=>_|some (.rt r)=>_|some (.bk q)=>_|some (.ct q)=>_|none=>_
   rcases qA7 call body tg its σ with _|(_|_|_|_)<;>rfl
@[simp 5000] theorem qGu (tg rs body):qAr call σ (.forR tg rs body::qAZ)=match qCt call σ rs with|none=>none|some x=>match qFx x with|none=>none|some its=>match qA7 call body tg its σ with|some (.nx σ')=>qAr call σ' qAZ|some (.rt r)=>some (.rt r)|some (.bk q)=>some (.bk q)|some (.ct q)=>some (.ct q)|none=>none:=by
 rw [qAS,qFP]
 cases qCt call σ rs with
 | none=>rfl
 | some x =>
  show ((qEK x).bind _).bind _=match qEK x with|none=>none|some its=>_
  cases qEK x with
  | none=>rfl
  | some its =>
   show (qA7 call body tg its σ).bind _=match qA7 call body tg its σ with|some (.nx σ')=>_|some (.rt r)=>_|some (.bk q)=>_|some (.ct q)=>_|none=>_
   rcases qA7 call body tg its σ with _|(_|_|_|_)<;>rfl
@[simp 5000] theorem qKm (tg a b body):qAr call σ (.forZ tg a b body::qAZ)=match evE call σ a with|none=>none|some x=>match evE call σ b with|none=>none|some y=>match qIo x.2 with|none=>none|some xs=>match qMk y.2 with|none=>none|some ys=>match qA7 call body tg (qCk xs ys) σ with|some (.nx σ')=>qAr call σ' qAZ|some (.rt r)=>some (.rt r)|some (.bk q)=>some (.bk q)|some (.ct q)=>some (.ct q)|none=>none:=by
 rw [qAS,qFN]
 cases evE call σ a with
 | none=>rfl
 | some x =>
  cases evE call σ b with
  | none=>rfl
  | some y =>
   show ((qCw x.2).bind _).bind _=match qCw x.2 with|none=>none|some its=>_
   cases qCw x.2 with
   | none=>rfl
   | some xs =>
    show ((qF6 y.2).bind _).bind _=match qF6 y.2 with|none=>none|some its=>_
    cases qF6 y.2 with
    | none=>rfl
    | some ys =>
     show (qA7 call body tg (qCk xs ys) σ).bind _=match qA7 call body tg (qCk xs ys) σ with|some (.nx σ')=>_|some (.rt r)=>_|some (.bk q)=>_|some (.ct q)=>_|none=>_
     rcases qA7 call body tg (qCk xs ys) σ with _|(_|_|_|_)<;>rfl
theorem qJx {σ:En}{i:Nat}{xs:List D}{e:D}(h:qAe σ i=some (true,.lst xs)) (hl:xs.length<lim):qPT σ i e=some (.nx (σ.set i (some (true,.lst (xs++[e]))))):=by
 show qJy σ i e=_
 unfold qJy;rw [h];simp only;rw [if_pos hl]
section
variable {call:Nat->List D->Option R}{σ:En}{qAZ:List S}{z:Option Ou}
theorem qAn {i:Nat}{keep:Bool}{e:C}(r:R) (h:evE call σ e=some r) (k:qAr call (σ.set i (some (qAz keep r))) qAZ=z):qAr call σ (.set i keep e::qAZ)=z:=by
 rw [qMc,h];exact k
theorem qCZ {i:Nat}{e:C}{xs:List D}(r:R) (h:evE call σ e=some r) (ho:qAe σ i=some (true,.lst xs)) (hl:xs.length<lim) (k:qAr call (σ.set i (some (true,.lst (xs++[r.2])))) qAZ=z):qAr call σ (.app i e::qAZ)=z:=by
 rw [qMe,h];show (match qPT σ i r.2 with|some (.nx σ')=>qAr call σ' qAZ|some (.rt r)=>some (.rt r)|some (.bk q)=>some (.bk q)|some (.ct q)=>some (.ct q)|none=>none)=z
 rw [qJx ho hl];exact k
theorem qEd {c:C}{a b:List S}{x:Bool}{σ':En}(h:evE call σ c=some (x,.bl true)) (ha:qAr call σ a=some (.nx σ')) (k:qAr call σ' qAZ=z):qAr call σ (.ite c a b::qAZ)=z:=by
 rw [qGt,h];simp only [if_true];rw [ha];exact k
theorem qMD {c:C}{a b:List S}{x:Bool}{σ':En}(h:evE call σ c=some (x,.bl false)) (ha:qAr call σ b=some (.nx σ')) (k:qAr call σ' qAZ=z):qAr call σ (.ite c a b::qAZ)=z:=by
 rw [qGt,h];simp only [Bool.false_eq_true,if_false];rw [ha];exact k
theorem qAa {c:C}{a:List S}{x:Bool}(h:evE call σ c=some (x,.bl false)) (k:qAr call σ qAZ=z):qAr call σ (.ite c a []::qAZ)=z:=qMD h rfl k
theorem qA0 {c:C}{a b:List S}{x:Bool}{r:R}(h:evE call σ c=some (x,.bl true)) (ha:qAr call σ a=some (.rt r)) (k:some (.rt r)=z):qAr call σ (.ite c a b::qAZ)=z:=by
 rw [qGt,h];simp only [if_true];rw [ha];exact k
theorem qCH {tg:Tg}{rs:List C}{body:List S}{ds its:List D}{σ':En}(h:qCt call σ rs=some ds) (hr:qFx ds=some its) (hf:qA7 call body tg its σ=some (.nx σ')) (k:qAr call σ' qAZ=z):qAr call σ (.forR tg rs body::qAZ)=z:=by
 rw [qGu,h];simp only;rw [hr];simp only;rw [hf];exact k
theorem qEc {tg:Tg}{i:Nat}{xs:List D}{d:D}{σ':En}(ho:qAe σ i=some (true,.lst (xs++[d]))) (hb:qBq (σ.set i (some (true,.lst xs))) tg d=some σ') (k:qAr call σ' qAZ=z):qAr call σ (.pop tg i::qAZ)=z:=by
 rw [qAS,qHA]
 unfold qOE
 rw [ho]
 simp only [List.getLast?_append,List.getLast?_singleton,Option.bind_some,List.dropLast_concat,Option.some_or]
 rw [hb]
 exact k
theorem qMC {c:C}{body:List S}{o:Ou}(h:qDF (fun σ'=>evE call σ' c) (fun σ'=>qAr call σ' body) big σ=some o) (k:(match o with|.nx σ'=>qAr call σ' qAZ|.rt r=>some (.rt r)|.bk q=>some (.bk q)|.ct q=>some (.ct q))=z):qAr call σ (.whl c body::qAZ)=z:=by
 rw [qAS,qHy,h]
 cases o<;>exact k
theorem qGJ {tg:Tg}{src:C}{body:List S}{r:R}{its:List D}{σ':En}(h:evE call σ src=some r) (hr:qIo r.2=some its) (hf:qA7 call body tg its σ=some (.nx σ')) (k:qAr call σ' qAZ=z):qAr call σ (.forS tg src body::qAZ)=z:=by
 rw [qKn,h];simp only;rw [hr];simp only;rw [hf];exact k
theorem qAf {e:C}{r:R}(h:qA2 σ e (evE call σ e)=some r) (k:some (.rt r)=z):qAr call σ (.ret e::qAZ)=z:=by
 rw [qMd,h];exact k
theorem qCJ {e:C}{nl:Nat}{ks:List Nat}{tg:Tg}{rs:List C}{ds its ys:List D}{σ':En}(h:qCt call σ rs=some ds) (hr:qFx ds=some its) (hl:its.length<=lim) (hc:qBb σ nl ks=σ') (hf:qAM call e σ' tg its=some ys):evE call σ (.compR e nl ks tg rs)=some (true,.lst ys):=by
 subst hc
 rw [qIy,h];simp only;rw [hr];simp only;rw [if_pos hl,hf]
theorem qBO {e:C}{nl:Nat}{ks:List Nat}{tg:Tg}{src:C}{r:R}{its ys:List D}{σ':En}(h:evE call σ src=some r) (hr:qIo r.2=some its) (hc:qBb σ nl ks=σ') (hf:qAM call e σ' tg its=some ys):evE call σ (.compS e nl ks tg src)=some (true,.lst ys):=by
 subst hc
 rw [qIx,h];simp only;rw [hr];simp only;rw [hf]
theorem qLR {e c:C}{nl:Nat}{ks:List Nat}{tg:Tg}{rs:List C}{ds its ys:List D}{σ':En}(h:qCt call σ rs=some ds) (hr:qFx ds=some its) (hl:its.length<=lim) (hc:qBb σ nl ks=σ') (hf:qBa call c e σ' tg its=some ys):evE call σ (.compG e c nl ks tg rs)=some (true,.lst ys):=by
 subst hc
 rw [qDn,h,Option.bind_some,show qEK ds=some its from hr,Option.bind_some,if_pos hl,hf]
 rfl
end
theorem qQn (fd:Fd) (as:List D) (h:as.length=fd.np):qL5 call fd as=match qAr call (agE false as++List.replicate (fd.ns - fd.np) none) fd.body with|some (.nx _)=>some (false,.non)|some (.rt r)=>some r|some (.bk _)=>none|some (.ct _)=>none|none=>none:=by
 unfold qL5;rw [if_pos h]
 rcases qAr call (agE false as++List.replicate (fd.ns - fd.np) none) fd.body with _|(_|_|_|_)<;>rfl
end
theorem qH6 {tab:List Fd}{f:Nat}{fd:Fd}(h:tab[f]?=some fd) (n:Nat) (as:List D) (hl:as.length=fd.np):qAC tab (n+1) f as =
  match qAr (qAC tab n) (agE false as++List.replicate (fd.ns - fd.np) none) fd.body with|some (.nx _)=>some (false,.non)|some (.rt r)=>some r|some (.bk _)=>none|some (.ct _)=>none|none=>none:=by
 rw [qDZ h,qQn _ _ _ hl]
theorem qAd {tab:List Fd}{f:Nat}{fd:Fd}{as:List D}{n:Nat}{r:R}{σ:En}(h:tab[f]?=some fd) (hl:as.length=fd.np) (hσ:agE false as++List.replicate (fd.ns - fd.np) none=σ) (hb:qAr (qAC tab n) σ fd.body=some (.rt r)):qAC tab (n+1) f as=some r:=by
 subst hσ
 rw [qH6 h n as hl,hb]
theorem qH4 {tab:List Fd}{f:Nat}{fd:Fd}{xs ys as:List D}{n:Nat}{σ σ':En}(hT:tab.length<=HX) (h:tab[f]?=some fd) (hl:as.length+1=fd.np) (hσ:some (true,D.lst xs)::as.map (λd=>some (false,d))++List.replicate (fd.ns - fd.np) none=σ) (hb:qAr (qAC tab n) σ fd.body=some (.nx σ')) (he:qAe σ' 0=some (true,.lst ys)):qAC tab (n+1) (f+HX) (.lst xs::as)=some (true,.lst ys):=by
 subst hσ
 rw [qD0 hT h]
 show (if as.length+1=fd.np then _ else _)=_
 rw [if_pos hl,hb,Option.bind_some]
 simp only [qQi]
 rw [he]
 rfl
end Dw
namespace Dw.T
open Dw
section
variable {call:Nat->List D->Option R}{body:List S}{tg:Tg}
theorem qDi (I:Nat->En->Prop):∀(its:List D) (a:Nat) (σ:En),I a σ ->
  (∀(k:Nat) (d:D) (σ:En),its[k]?=some d->I (a+k) σ->∃σ1 σ2,qBq σ tg d=some σ1/\qAr call σ1 body=some (.nx σ2)/\I (a+k+1) σ2) ->
  ∃σ',qA7 call body tg its σ=some (.nx σ')/\I (a+its.length) σ'
 | [],a,σ,h,_=>⟨σ,rfl,by simpa using h⟩
 | d::r,a,σ,h,st=>by
  obtain⟨σ1,σ2,h1,h2,h3⟩:=st 0 d σ rfl (by simpa using h)
  obtain⟨σ',e,h'⟩:=qDi I r (a+1) σ2 (by simpa using h3) λk d σ hk hi=>by
   have:=st (k+1) d σ (by simpa using hk) (by rw [show a+(k+1)=a+1+k by omega];exact hi)
   rw [show a+(k+1)+1=a+1+k+1 by omega] at this
   exact this
  refine⟨σ',?_,?_⟩
  ·rw [qBD,h1];simp [h2,e]
  ·rw [show a+(d::r).length=a+1+r.length by simp;omega];exact h'
theorem qBC (I:Nat->En->Prop) (m:Nat) (f:Nat->D) (σ:En) (h:I 0 σ)
  (st:∀(k:Nat) (σ:En),k<m->I k σ->∃σ1 σ2,qBq σ tg (f k)=some σ1/\qAr call σ1 body=some (.nx σ2)/\I (k+1) σ2) :
  ∃σ',qA7 call body tg ((List.range m).map f) σ=some (.nx σ')/\I m σ':=by
 obtain⟨σ',e,h'⟩:=qDi (call:=call) (body:=body) (tg:=tg) I ((List.range m).map f) 0 σ h λk d σ hk hi=>by
  rw [List.getElem?_map] at hk
  cases q:(List.range m)[k]? with
  | none=>rw [q] at hk;cases hk
  | some j =>
   rw [q] at hk
   obtain⟨hl,ej⟩:=List.getElem?_eq_some_iff.mp q
   simp at hl ej
   subst ej
   cases hk
   simpa using st k σ hl (by simpa using hi)
 exact⟨σ',e,by simpa using h'⟩
theorem qDj {α:Type}(p:α->Bool) (r:R) (enc:α->D) (I:En->Prop):∀(l:List α) (σ:En),I σ ->
  (∀x∈l,∀σ,I σ->∃σ1,qBq σ tg (enc x)=some σ1/\((p x=true->qAr call σ1 body=some (.rt r))/\(p x=false->∃σ2,qAr call σ1 body=some (.nx σ2)/\I σ2))) ->
  (l.any p=true->qA7 call body tg (l.map enc) σ=some (.rt r))/\(l.any p=false->∃σ',qA7 call body tg (l.map enc) σ=some (.nx σ')/\I σ')
 | [],σ,h,_=>⟨λz=>by simp at z,λ_=>⟨σ,rfl,h⟩⟩
 | x::l,σ,h,st=>by
  obtain⟨σ1,h1,h2,h3⟩:=st x List.mem_cons_self σ h
  cases hp:p x with
  | true=>exact⟨λ_=>by rw [List.map_cons,qBD,h1];simp [h2 hp],λz=>by simp [hp] at z⟩
  | false =>
   obtain⟨σ2,h4,h5⟩:=h3 hp
   obtain⟨i1,i2⟩:=qDj p r enc I l σ2 h5 λy hy=>st y (List.mem_cons_of_mem _ hy)
   constructor
   ·intro z
    simp [hp] at z
    rw [List.map_cons,qBD,h1]
    simp [h4]
    exact i1 (by simpa using z)
   ·intro z
    simp [hp] at z
    obtain⟨σ',e,h'⟩:=i2 (by simpa using z)
    exact⟨σ',by rw [List.map_cons,qBD,h1];simp [h4,e],h'⟩
end
noncomputable def bx (m:Nat) (f:Nat->D):List D:=(List.range m).map f
@[simp] theorem qIa (m f):(bx m f).length=m:=by simp [bx]
theorem qOg {m:Nat}(f:Nat->D) {j:Nat}(h:j<m):(bx m f)[j]?=some (f j):=by simp [bx,h]
theorem qJ0 {m:Nat}(f:Nat->D) {j:Nat}(h:j<m):ixQ (bx m f) (j:Int)=some (f j):=by
 rw [qE2,qOg f h]
theorem qJE (m:Nat) (f g:Nat->D):qCk (bx m f) (bx m g)=(List.range m).map λj=>.tup [f j,g j]:=by
 unfold bx
 generalize List.range m=l
 induction l with
 | nil=>rfl
 | cons x r ih=>simp only [List.map_cons,qCk,List.zipWith_cons_cons] at ih ⊢;rw [ih]
noncomputable def qBU (ns:List Int) (k:Nat):Int:=(ns[k]?).getD 0
noncomputable abbrev P2:=Int×Int
noncomputable def side (p:P2):D:=.tup [.int p.1,.int p.2]
noncomputable def qAG (m:Nat) (f:Nat->P2):D:=.tup (bx m λj=>side (f j))
theorem qCe {call:Nat->List D->Option R}{e:C}{m:Nat}{F G:Nat->D}(g:Nat->D)
  (h:∀j,j<m->∃b,evE call [some (false,F j),some (false,G j)] e=some (b,g j)) :
  qAM call e [none,none] (.two 0 1) (qCk (bx m F) (bx m G))=some (bx m g):=by
 rw [qJE]
 exact qAX call [none,none] (e:=e) (tg:=.two 0 1) (λj=>.tup [F j,G j]) g (List.range m) λj hj=>by
  obtain⟨b,hb⟩:=h j (List.mem_range.mp hj)
  exact⟨_,b,rfl,hb⟩
theorem qBS (p:P2):ixP (side p) (.int 0)=some (false,.int p.1):=rfl
theorem qB1 (p:P2):ixP (side p) (.int 1)=some (false,.int p.2):=rfl
theorem qDe {m j:Nat}(f:Nat->D) (h:j<m):ixP (.lst (bx m f)) (.int (j:Int))=some (false,f j):=by
 rw [qHo,qJ0 _ h];rfl
theorem qJf {m j:Nat}(f:Nat->D) (h:j<m):ixP (.tup (bx m f)) (.int (j:Int))=some (false,f j):=by
 rw [qPy,qJ0 _ h];rfl
theorem qCv (m:Nat) (f:Nat->P2):qIo (qAG m f)=some (bx m λj=>side (f j)):=rfl
theorem qCF {call:Nat->List D->Option R}{e:C}{m:Nat}{r:List (Option R)}(f g:Nat->D) (h:∀j:Nat,j<m->∃b,evE call (some (false,f j)::r) e=some (b,g j)) :
  qAM call e (none::r) (.one 0) (bx m f)=some (bx m g):=
 qAX call (none::r) (e:=e) (tg:=.one 0) f g (List.range m) λj hj=>by
  obtain⟨b,hb⟩:=h j (List.mem_range.mp hj)
  exact⟨_,b,rfl,hb⟩
theorem qHQ (xs:List D) (a b:Nat) (h:a<=b):qL8 xs (some (a:Int)) (some (b:Int))=(xs.drop a).take (b - a):=by
 simp only [qL8,qJo,cutAt]
 rw [if_neg (by omega),if_neg (by omega)]
 simp only [Int.toNat_natCast]
 by_cases h1:a<=xs.length
 ·rw [Nat.min_eq_left h1]
  by_cases h2:b<=xs.length
  ·rw [Nat.min_eq_left h2]
  ·rw [Nat.min_eq_right (by omega)]
   rw [List.take_of_length_le (by simp),List.take_of_length_le (by simp;omega)]
 ·rw [Nat.min_eq_right (by omega:xs.length<=a),Nat.min_eq_right (by omega:xs.length<=b)]
  simp [List.drop_eq_nil_of_le (show xs.length<=a by omega)]
theorem qJn (ns:List Int) (a b:Nat) (h:a<=b):qL8 (ns.map .int) (some (a:Int)) (some (b:Int))=((ns.drop a).take (b - a)).map .int:=by
 rw [qHQ _ _ _ h,<-List.map_drop,<-List.map_take]
section
variable {call:Nat->List D->Option R}{σ:En}
theorem qN3 {o:COp}{a b:C}{x y:D}{r:Option R}(ha:pk σ a (evE call σ a)=some x) (hb:pk σ b (evE call σ b)=some y) (h:qIr o x y=r):evE call σ (.cmp o a b)=r:=by
 rw [qAi,ha];simp only;rw [hb];exact h
theorem qDx {o:BI}{a:C}{x:D}{r:Option R}(ha:pk σ a (evE call σ a)=some x) (h:biP o [x]=r):evE call σ (.bi o [a])=r:=by
 rw [qBv,qAu,ha];exact h
theorem qDQ {e nl ks tg rs}{r:R}(h:evE call σ (.compS e nl ks tg rs)=some r):pk σ (.compS e nl ks tg rs) (evE call σ (.compS e nl ks tg rs))=some r.2:=by rw [h];rfl
theorem qM5 {o as}{r:R}(h:evE call σ (.bi o as)=some r):pk σ (.bi o as) (evE call σ (.bi o as))=some r.2:=by rw [h];rfl
theorem qQY {a b:C}{x y:D}{r:Option R}(ha:pk σ a (evE call σ a)=some x) (hb:pk σ b (evE call σ b)=some y) (h:ixP x y=r):evE call σ (.ix a b)=r:=by
 rw [qAH,ha];simp only;rw [hb];exact h
theorem qJ9 {a b:C}{x:Bool}(ha:evE call σ a=some (x,.bl false)):evE call σ (.and a b)=some (false,.bl false):=by
 rw [qEa,ha];rfl
theorem qJ8 {a b:C}{x:Bool}{r:Option R}(ha:evE call σ a=some (x,.bl true)) (hb:evE call σ b=r):evE call σ (.and a b)=r:=by
 rw [qEa,ha];exact hb
theorem qFb {a b:C}{x y:Bool}{p q:Bool}(ha:evE call σ a=some (x,.bl p)) (hb:evE call σ b=some (false,.bl q)):evE call σ (.and a b)=some (false,.bl (p&&q)):=by
 cases p with
 | true=>exact qJ8 ha hb
 | false=>exact qJ9 ha
theorem qCq {e:C}{nl:Nat}{ks:List Nat}{tg:Tg}{a b:C}{x y:R}{xs ys zs:List D}{σ':En}(ha:evE call σ a=some x) (hb:evE call σ b=some y) (hx:qIo x.2=some xs) (hy:qMk y.2=some ys) (hc:qBb σ nl ks=σ') (hf:qAM call e σ' tg (qCk xs ys)=some zs):evE call σ (.compZ e nl ks tg a b)=some (true,.lst zs):=by
 subst hc
 rw [qIw,ha];simp only;rw [hb];simp only;rw [hx];simp only;rw [hy];simp only;rw [hf]
end
section
variable {call:Nat->List D->Option R}{σ:En}{qAZ:List S}{z:Option Ou}
theorem qIG {tg:Tg}{rs:List C}{body:List S}{ds its:List D}{r:R}(h:qCt call σ rs=some ds) (hr:qFx ds=some its) (hf:qA7 call body tg its σ=some (.rt r)) (k:some (.rt r)=z):qAr call σ (.forR tg rs body::qAZ)=z:=by
 rw [qGu,h];simp only;rw [hr];simp only;rw [hf];exact k
theorem qDB {m:Nat}(hs:m<=10000):qFx [.int (m:Int)]=some ((List.range m).map λi=>.int (i:Nat)):=qMQ m hs
end
theorem qLF (l j:Nat) (h:j<l):ixN l (j:Int)=some j:=by
 unfold ixN;rw [if_pos (by omega),if_pos (by omega)];simp
section
variable {call:Nat->List D->Option R}{σ:En}
theorem qHE {α:Type}{tg:Tg}{body:List S}(enc:α->D) (I:En->Prop) (l:List α) (σ:En) (h:I σ)
  (st:∀x∈l,∀σ,I σ->∃σ1 σ2,qBq σ tg (enc x)=some σ1/\qAr call σ1 body=some (.nx σ2)/\I σ2) :
  ∃σ',qA7 call body tg (l.map enc) σ=some (.nx σ')/\I σ':=
 (qDj (call:=call) (tg:=tg) (body:=body) (λ_=>false) (false,.non) enc I l σ h λx hx σ hσ=>by
  obtain⟨σ1,σ2,a,b,c⟩:=st x hx σ hσ
  exact⟨σ1,a,⟨λz=>Bool.noConfusion z,λ_=>⟨σ2,b,c⟩⟩⟩).2 (by simp)
end
end Dw.T
namespace Dw.T
open Dw
noncomputable abbrev Q4:=Int×Int×Int×Int
noncomputable def q4 (q:Q4):D:=.tup [.int q.1,.int q.2.1,.int q.2.2.1,.int q.2.2.2]
theorem qI9 {n:Nat}(h:n<2^200):n<qDh:=Nat.lt_of_lt_of_le h (Nat.pow_le_pow_right (by decide) (by decide))
theorem qQQ (a b:Int) (h:a.natAbs<2^64):qCf a b=true:=decide_eq_true (.inr (.inl h))
theorem qJZ (a b:Int) (h:b.natAbs<2^64):qCf a b=true:=decide_eq_true (.inr (.inr (.inl h)))
theorem qQb (a b:Int) (h:a.natAbs<2^240) (h':b.natAbs<2^240):qCf a b=true:=decide_eq_true (.inl ⟨h,h'⟩)
theorem qQR (a b:Int) (h:a.natAbs<qDh) (h':b.natAbs<qDh):qCf a b=true:=decide_eq_true (.inr (.inr (.inr ⟨h,h'⟩)))
theorem qPM (b:Int) (h0:b≠0) (h:b.natAbs<2^240):qAW b=true:=decide_eq_true ⟨h0,.inl h⟩
theorem qBe (a m:Int) (h:0<m):0<=a.fmod m/\a.fmod m<m:=by
 rw [Int.fmod_eq_emod_of_nonneg _ (by omega:0<=m)]
 exact⟨Int.emod_nonneg _ (by omega),Int.emod_lt_of_pos _ h⟩
structure Th where
 hd:Int
 sw:Nat->Int×Int×Int
 mr:Nat
 wo:Int
noncomputable def sD (p:Int×Int×Int):D:=.tup [.int p.1,.int p.2.1,.int p.2.2,.int p.2.2]
noncomputable def thD (m:Nat) (t:Th):D:=.tup [.int t.hd,.tup (bx m λj=>sD (t.sw j)),.int (t.mr:Int),.int t.wo]
theorem th1 (m:Nat) (t:Th):ixP (thD m t) (.int 1)=some (false,.tup (bx m λj=>sD (t.sw j))):=rfl
theorem th2 (m:Nat) (t:Th):ixP (thD m t) (.int 2)=some (false,.int (t.mr:Int)):=rfl
theorem th3 (m:Nat) (t:Th):ixP (thD m t) (.int 3)=some (false,.int t.wo):=rfl
theorem sd0 (p:Int×Int×Int):ixP (sD p) (.int 0)=some (false,.int p.1):=rfl
theorem sd1 (p:Int×Int×Int):ixP (sD p) (.int 1)=some (false,.int p.2.1):=rfl
theorem sd2 (p:Int×Int×Int):ixP (sD p) (.int 2)=some (false,.int p.2.2):=rfl
noncomputable def prm:Int:=170141183460469231731687303715884105727
noncomputable def qBW (c:Int):Int:=(c * 105172331949523456789012345678901234567).fmod prm
noncomputable def qBZ (c:Int):Int:=(c * 83492791123456789012345678901234567891).fmod prm
theorem qER (c:Int):0<=qBW c/\qBW c<prm:=qBe _ _ (by decide)
theorem qDV (c:Int):0<=qBZ c/\qBZ c<prm:=qBe _ _ (by decide)
theorem qHj {α:Type}{xs:List α}{m:Nat}(h:xs.length=m) (d:α) (f:α->D):xs.map f=bx m λj=>f (xs.getD j d):=by
 subst h
 unfold bx
 refine List.ext_getElem (by simp) λi h1 h2=>?_
 have h3:i<xs.length:=by simpa using h1
 simp [h3]
section
variable {call:Nat->List D->Option R}
theorem qJK (ns:List Int) (k:Nat):qAr call [some (false,.lst (ns.map .int)),some (false,.int (k:Int))] f_law_cell_at.body=some (.rt (false,.int (qBU ns k))):=by
 by_cases h:k<ns.length
 ·have h1:decide ((k:Int)<((ns.length:Nat):Int))=true:=decide_eq_true (by omega)
  refine qA0 (x:=false) (r:=(false,.int (qBU ns k))) (by simp only [qAi,pk,qAe,List.getElem?_cons_succ,List.getElem?_cons_zero,Option.join_some,Option.bind_some,pkR,qBv,qAu,qAv,qBQ,List.length_map,Option.map_some,qCr,h1]) ?_ rfl
  refine qAf (r:=(false,.int (qBU ns k))) (qQY rfl rfl ?_) rfl
  rw [qHo]
  unfold ixQ ixD
  rw [List.length_map,qLF _ _ h]
  simp [qBU,h]
 ·have h1:decide ((k:Int)<((ns.length:Nat):Int))=false:=decide_eq_false (by omega)
  have e:qBU ns k=0:=by simp [qBU,List.getElem?_eq_none (Nat.le_of_not_lt h)]
  refine qAa (x:=false) (by simp only [qAi,pk,qAe,List.getElem?_cons_succ,List.getElem?_cons_zero,Option.join_some,Option.bind_some,pkR,qBv,qAu,qAv,qBQ,List.length_map,Option.map_some,qCr,h1]) ?_
  rw [e]
  exact qAf (r:=(false,.int 0)) rfl rfl
theorem qMq (c:Int) (hc:2 * c.natAbs<qDh):qAr call [some (false,.int c)] f_law_stir.body=some (.rt (false,.int (qBW c))):=by
 have m1:=qQR c 105172331949523456789012345678901234567 (by omega) (qI9 (by decide))
 have d1:qAW 170141183460469231731687303715884105727=true:=by decide
 exact qAf (r:=(false,.int (qBW c))) (by simp only [qA2,qAj,pk,qAe,List.getElem?_cons_zero,Option.join_some,Option.bind_some,pkR,qAp,Option.map_some,qBd,m1,↓reduceIte,qAh,d1];rfl) rfl
theorem qMt (c:Int) (hc:0<=c/\c<prm):qAr call [some (false,.int c)] f_law_next.body=some (.rt (false,.int (qBZ c))):=by
 unfold prm at hc
 have m1:=qQb c 83492791123456789012345678901234567891 (by omega) (by decide)
 have d1:qAW 170141183460469231731687303715884105727=true:=by decide
 exact qAf (r:=(false,.int (qBZ c))) (by simp only [qA2,qAj,pk,qAe,List.getElem?_cons_zero,Option.join_some,Option.bind_some,pkR,qAp,Option.map_some,qBd,m1,↓reduceIte,qAh,d1];rfl) rfl
end
end Dw.T
namespace Dw.T
open Dw
noncomputable def dc (p:Prop):Bool:=@decide p (Classical.propDecidable p)
theorem dc_iff {p:Prop}:dc p=true↔p:=by unfold dc;exact @decide_eq_true_iff p (Classical.propDecidable p)
theorem qQl {p:Prop}(h:p):dc p=true:=dc_iff.mpr h
theorem qQZ {p:Prop}(h:¬p):dc p=false:=by
 cases e:dc p with
 | false=>rfl
 | true=>exact absurd (dc_iff.mp e) h
noncomputable abbrev Sp2:=Option (Int×Int)
noncomputable def spD:Sp2->D
 | none=>.non
 | some p=>side p
noncomputable def inS:Sp2->Int->Prop
 | none,_=>False
 | some p,t=>p.1<=t/\t<=p.2
noncomputable def bs (n r a:Int):Int:=if 0<r then max a (-((-n).fdiv r)) else a
noncomputable def be (n r b:Int):Int:=if r<0 then min b (n.fdiv r) else b
noncomputable def bo (n r a b:Int):Sp2:=if r=0/\0<n then none else if be n r b<bs n r a then none else some (bs n r a,be n r b)
theorem qMi {n r t:Int}(h:0<r):-((-n).fdiv r)<=t↔n<=r * t:=by
 rw [Int.fdiv_eq_ediv_of_nonneg _ (by omega:0<=r)]
 have h1:-t<=(-n) / r↔-t * r<=-n:=Int.le_ediv_iff_mul_le h
 have h2:-t * r=-(r * t):=by rw [Int.neg_mul,Int.mul_comm]
 rw [h2] at h1
 omega
theorem qN5 {n r t:Int}(h:r<0):t<=n.fdiv r↔n<=r * t:=by
 have e:n.fdiv r=(-n).fdiv (-r):=(Int.neg_fdiv_neg n r).symm
 rw [e,Int.fdiv_eq_ediv_of_nonneg _ (by omega:0<=-r)]
 have h1:t<=(-n) / (-r)↔t * -r<=-n:=Int.le_ediv_iff_mul_le (by omega)
 have h2:t * -r=-(r * t):=by rw [Int.mul_neg,Int.mul_comm]
 rw [h2] at h1
 omega
theorem bse (n r a b t:Int) (h0:¬(r=0/\0<n)):bs n r a<=t/\t<=be n r b↔a<=t/\t<=b/\n<=r * t:=by
 unfold bs be
 rcases Int.lt_trichotomy r 0 with h|h|h
 ·have:=@qN5 n r t h
  rw [if_neg (by omega),if_pos h]
  omega
 ·subst h
  rw [if_neg (by omega),if_neg (by omega)]
  simp only [Int.zero_mul]
  omega
 ·have:=@qMi n r t h
  rw [if_pos h,if_neg (by omega)]
  omega
theorem qPP (n r a b t:Int):inS (bo n r a b) t↔a<=t/\t<=b/\n<=r * t:=by
 unfold bo
 by_cases h0:r=0/\0<n
 ·rw [if_pos h0]
  obtain⟨rfl,h0⟩:=h0
  simp only [inS,Int.zero_mul,false_iff]
  omega
 ·rw [if_neg h0,<-bse n r a b t h0]
  by_cases hlt:be n r b<bs n r a
  ·rw [if_pos hlt]
   simp only [inS,false_iff]
   omega
  ·rw [if_neg hlt]
   exact Iff.rfl
theorem qPO {n r a b:Int}{p:Int×Int}(h:bo n r a b=some p):inS (some p) p.1:=by
 unfold bo at h
 by_cases h0:r=0/\0<n
 ·rw [if_pos h0] at h;cases h
 ·rw [if_neg h0] at h
  by_cases h2:be n r b<bs n r a
  ·rw [if_pos h2] at h;cases h
  ·rw [if_neg h2] at h
   cases h
   simp only [inS]
   omega
noncomputable def bb (a b:Q4):Sp2->Sp2
 | none=>none
 | some p=>bo (a.1 - b.2.1) (b.2.2.2 - a.2.2.1) p.1 p.2
theorem qOx (a b:Q4) (s:Sp2) (t:Int):inS (bb a b s) t↔inS s t/\a.1 - b.2.1<=(b.2.2.2 - a.2.2.1) * t:=by
 cases s with
 | none=>simp [bb,inS]
 | some p =>
  show inS (bo _ _ p.1 p.2) t↔(p.1<=t/\t<=p.2)/\_
  rw [qPP]
  exact and_assoc.symm
theorem qPS {a b:Q4}{s:Sp2}{p:Int×Int}(h:bb a b s=some p):inS (some p) p.1:=by
 cases s with
 | none=>cases h
 | some q=>exact qPO h
noncomputable def mt (x y:Nat->Q4):Nat->Sp2->Sp2
 | 0,s=>s
 | k+1,s=>bb (y k) (x k) (bb (x k) (y k) (mt x y k s))
noncomputable def okQ (x y:Q4) (t:Int):Prop:=x.1 - y.2.1<=(y.2.2.2 - x.2.2.1) * t
theorem qNC (x y:Nat->Q4) (s:Sp2) (t:Int):∀k,inS (mt x y k s) t↔inS s t/\∀j,j<k->okQ (x j) (y j) t/\okQ (y j) (x j) t
 | 0=>by simp [mt]
 | k+1=>by
  show inS (bb _ _ (bb _ _ (mt x y k s))) t↔_
  rw [qOx,qOx,qNC x y s t k]
  constructor
  ·rintro⟨⟨⟨h1,h2⟩,h3⟩,h4⟩
   refine⟨h1,λj hj=>?_⟩
   by_cases e:j=k
   ·subst e;exact⟨h3,h4⟩
   ·exact h2 j (by omega)
  ·rintro⟨h1,h2⟩
   exact⟨⟨⟨h1,λj hj=>h2 j (by omega)⟩,(h2 k (by omega)).1⟩,(h2 k (by omega)).2⟩
theorem qPs {x y:Nat->Q4}{s:Sp2}{k:Nat}{p:Int×Int}(h:mt x y (k+1) s=some p):inS (some p) p.1:=qPS h
noncomputable def Pm (m:Nat) (c:Nat->Q4) (f:Nat->P2) (t:Int):Prop:=∀j,j<m->(c j).1+(c j).2.2.1 * t<=(f j).2/\(f j).1<=(c j).2.1+(c j).2.2.2 * t
noncomputable def Cm (m:Nat) (c:Nat->Q4) (f:Nat->P2) (a b:Int):Prop:=∃t,a<=t/\t<=b/\Pm m c f t
noncomputable def stl (p:P2):Q4:=(p.1,p.2,0,0)
theorem ok1 (c:Q4) (p:P2) (t:Int):okQ c (stl p) t↔c.1+c.2.2.1 * t<=p.2:=by
 unfold okQ stl
 rw [Int.sub_mul]
 simp only [Int.zero_mul]
 omega
theorem ok2 (c:Q4) (p:P2) (t:Int):okQ (stl p) c t↔p.1<=c.2.1+c.2.2.2 * t:=by
 unfold okQ stl
 rw [Int.sub_mul]
 simp only [Int.zero_mul]
 omega
theorem qLw (m:Nat) (hm:0<m) (c:Nat->Q4) (f:Nat->P2) (a b:Int):(mt c (λj=>stl (f j)) m (some (a,b))).isSome=dc (Cm m c f a b):=by
 have key:∀t,inS (mt c (λj=>stl (f j)) m (some (a,b))) t↔(a<=t/\t<=b)/\Pm m c f t:=λt=>by
  rw [qNC]
  simp only [inS,ok1,ok2]
  rfl
 cases e:mt c (λj=>stl (f j)) m (some (a,b)) with
 | none =>
  refine (qQZ ?_).symm
  rintro⟨t,h1,h2,h3⟩
  have:=(key t).mpr ⟨⟨h1,h2⟩,h3⟩
  rw [e] at this
  exact this
 | some p =>
  refine (qQl ?_).symm
  obtain⟨k,rfl⟩:∃k,m=k+1:=⟨m - 1,by omega⟩
  have h:=qPs e
  rw [<-e] at h
  obtain⟨⟨h1,h2⟩,h3⟩:=(key p.1).mp h
  exact⟨p.1,h1,h2,h3⟩
noncomputable def swQ (u:Th) (j:Nat):Q4:=((u.sw j).1,(u.sw j).2.1,(u.sw j).2.2,(u.sw j).2.2)
end Dw.T
namespace Dw.T
open Dw
section
variable {call:Nat->List D->Option R}
theorem qKG {σ:En}{qAZ:List S}{z:Option Ou}{tg:Tg}{a b:C}{body:List S}{x y:R}{xs ys:List D}{σ':En}(ha:evE call σ a=some x) (hb:evE call σ b=some y) (hx:qIo x.2=some xs) (hy:qMk y.2=some ys) (hf:qA7 call body tg (qCk xs ys) σ=some (.nx σ')) (k:qAr call σ' qAZ=z):qAr call σ (.forZ tg a b body::qAZ)=z:=by
 rw [qKm,ha];simp only;rw [hb];simp only;rw [hx];simp only;rw [hy];simp only;rw [hf];exact k
theorem qGE (n r a b:Int) (hr:r.natAbs<2^100):qAr call [some (false,.int n),some (false,.int r),some (false,.int a),some (false,.int b),none,none] f_beats_of.body=some (.rt (false,spD (bo n r a b))):=by
 by_cases h0:r=0/\0<n
 ·have e:bo n r a b=none:=by unfold bo;rw [if_pos h0]
  obtain⟨rfl,h1⟩:=h0
  have d1:decide (0<n)=true:=decide_eq_true h1
  rw [e]
  exact qA0 (x:=false) (r:=(false,.non)) (by simp only [qEa,qAi,pk,qAe,List.getElem?_cons_succ,List.getElem?_cons_zero,Option.join_some,Option.bind_some,pkR,qAp,Option.map_some,qAg,qBP,d1];rfl) (qAf (r:=(false,.non)) rfl rfl) rfl
 ·have d0:evE call [some (false,.int n),some (false,.int r),some (false,.int a),some (false,.int b),none,none] (.and (.cmp .eq (.v 1) (.k (.int 0))) (.cmp .gt (.v 0) (.k (.int 0))))=some (false,.bl false):=by
   by_cases hz:r=0
   ·subst hz
    have d1:decide (0<n)=false:=decide_eq_false (by omega)
    simp only [qEa,qAi,pk,qAe,List.getElem?_cons_succ,List.getElem?_cons_zero,Option.join_some,Option.bind_some,pkR,qAp,Option.map_some,qAg,qBP,d1]
    rfl
   ·have d1:eqD (.int r) (.int 0)=false:=by simp [hz]
    simp only [qEa,qAi,pk,qAe,List.getElem?_cons_succ,List.getElem?_cons_zero,Option.join_some,Option.bind_some,pkR,qAp,Option.map_some,qAg,d1,reduceCtorEq,↓reduceIte]
  refine qAa d0 ?_
  refine qAn (false,.int a) rfl ?_
  refine qAn (false,.int b) rfl ?_
  have fin:qAr call [some (false,.int n),some (false,.int r),some (false,.int a),some (false,.int b),some (false,.int (bs n r a)),some (false,.int (be n r b))] [.ite (.cmp .gt (.v 4) (.v 5)) [.ret (.k .non)] [],.ret (.tup [(.v 4),(.v 5)])]=some (.rt (false,spD (bo n r a b))):=by
   unfold bo
   rw [if_neg h0]
   by_cases hlt:be n r b<bs n r a
   ·rw [if_pos hlt]
    have d1:decide (be n r b<bs n r a)=true:=decide_eq_true hlt
    exact qA0 (x:=false) (r:=(false,.non)) (by simp only [qAi,pk,qAe,List.getElem?_cons_succ,List.getElem?_cons_zero,Option.join_some,Option.bind_some,pkR,qBP,d1]) (qAf (r:=(false,.non)) rfl rfl) rfl
   ·rw [if_neg hlt]
    have d1:decide (be n r b<bs n r a)=false:=decide_eq_false hlt
    refine qAa (x:=false) (by simp only [qAi,pk,qAe,List.getElem?_cons_succ,List.getElem?_cons_zero,Option.join_some,Option.bind_some,pkR,qBP,d1]) ?_
    exact qAf (r:=(false,side (bs n r a,be n r b))) (by simp only [qA2,qAN,qAs,qBT,qAR,qAe,List.getElem?_cons_succ,List.getElem?_cons_zero,Option.join_some,qAt,List.length_cons,List.length_nil,Nat.reduceAdd,qNI,↓reduceIte];rfl) rfl
  rcases Int.lt_trichotomy r 0 with h|h|h
  ·have d1:decide (0<r)=false:=decide_eq_false (by omega)
   have d2:decide (r<0)=true:=decide_eq_true h
   have dv:=qPM r (by omega) (by omega)
   have e1:bs n r a=a:=by unfold bs;rw [if_neg (by omega)]
   have e2:be n r b=min b (n.fdiv r):=by unfold be;rw [if_pos h]
   rw [e1,e2] at fin
   refine qAa (x:=false) (by simp only [qAz,Bool.and_false,List.set_cons_succ,List.set_cons_zero,qAi,pk,qAe,List.getElem?_cons_succ,List.getElem?_cons_zero,Option.join_some,Option.bind_some,pkR,qAp,Option.map_some,qBP,d1]) ?_
   refine qEd (x:=false) (by simp only [qAz,Bool.and_false,List.set_cons_succ,List.set_cons_zero,qAi,pk,qAe,List.getElem?_cons_succ,List.getElem?_cons_zero,Option.join_some,Option.bind_some,pkR,qAp,Option.map_some,qCr,d2]) (qAn (false,.int (min b (n.fdiv r))) (by simp only [qAz,Bool.and_false,List.set_cons_succ,List.set_cons_zero,qBv,qAu,pk,qAe,List.getElem?_cons_succ,List.getElem?_cons_zero,Option.join_some,Option.bind_some,pkR,qAj,qAo,dv,↓reduceIte,Option.map_some,qAv,qFf]) rfl) fin
  ·have d1:decide (0<r)=false:=decide_eq_false (by omega)
   have d2:decide (r<0)=false:=decide_eq_false (by omega)
   have e1:bs n r a=a:=by unfold bs;rw [if_neg (by omega)]
   have e2:be n r b=b:=by unfold be;rw [if_neg (by omega)]
   rw [e1,e2] at fin
   refine qAa (x:=false) (by simp only [qAz,Bool.and_false,List.set_cons_succ,List.set_cons_zero,qAi,pk,qAe,List.getElem?_cons_succ,List.getElem?_cons_zero,Option.join_some,Option.bind_some,pkR,qAp,Option.map_some,qBP,d1]) ?_
   refine qAa (x:=false) (by simp only [qAz,Bool.and_false,List.set_cons_succ,List.set_cons_zero,qAi,pk,qAe,List.getElem?_cons_succ,List.getElem?_cons_zero,Option.join_some,Option.bind_some,pkR,qAp,Option.map_some,qCr,d2]) fin
  ·have d1:decide (0<r)=true:=decide_eq_true h
   have d2:decide (r<0)=false:=decide_eq_false (by omega)
   have dv:=qPM r (by omega) (by omega)
   have e1:bs n r a=max a (-((-n).fdiv r)):=by unfold bs;rw [if_pos h]
   have e2:be n r b=b:=by unfold be;rw [if_neg (by omega)]
   rw [e1,e2] at fin
   refine qEd (x:=false) (by simp only [qAz,Bool.and_false,List.set_cons_succ,List.set_cons_zero,qAi,pk,qAe,List.getElem?_cons_succ,List.getElem?_cons_zero,Option.join_some,Option.bind_some,pkR,qAp,Option.map_some,qBP,d1]) (qAn (false,.int (max a (-((-n).fdiv r)))) (by simp only [qAz,Bool.and_false,List.set_cons_succ,List.set_cons_zero,qBv,qAu,pk,qAe,List.getElem?_cons_succ,List.getElem?_cons_zero,Option.join_some,Option.bind_some,pkR,qMf,qAj,qI4,Option.map_some,qAo,dv,↓reduceIte,qAv,qFg]) rfl) ?_
   refine qAa (x:=false) (by simp only [qAz,Bool.and_false,List.set_cons_succ,List.set_cons_zero,qAi,pk,qAe,List.getElem?_cons_succ,List.getElem?_cons_zero,Option.join_some,Option.bind_some,pkR,qAp,Option.map_some,qCr,d2]) fin
theorem q40 (q:Q4):ixP (q4 q) (.int 0)=some (false,.int q.1):=rfl
theorem q41 (q:Q4):ixP (q4 q) (.int 1)=some (false,.int q.2.1):=rfl
theorem q42 (q:Q4):ixP (q4 q) (.int 2)=some (false,.int q.2.2.1):=rfl
theorem q43 (q:Q4):ixP (q4 q) (.int 3)=some (false,.int q.2.2.2):=rfl
theorem qGD (a b:Q4) (s:Sp2) (hr:(b.2.2.2 - a.2.2.1).natAbs<2^100) (B:∀n r a b:Int,r.natAbs<2^100->call 7 [.int n,.int r,.int a,.int b]=some (false,spD (bo n r a b))) :
  qAr call [some (false,q4 a),some (false,q4 b),some (false,spD s)] f_beats_below.body=some (.rt (false,spD (bb a b s))):=by
 cases s with
 | none=>exact qA0 (x:=false) (r:=(false,.non)) rfl (qAf (r:=(false,.non)) rfl rfl) rfl
 | some p =>
  have q:=B (a.1 - b.2.1) (b.2.2.2 - a.2.2.1) p.1 p.2 hr
  refine qAa (x:=false) rfl ?_
  exact qAf (r:=(false,spD (bb a b (some p)))) (by simp only [spD];simp only [qA2,qAl,qAk,ag,qAj,pk,qAH,qAe,List.getElem?_cons_zero,Option.join_some,Option.bind_some,pkR,qAp,Option.map_some,q40,List.getElem?_cons_succ,q41,qAU,q43,q42,qBS,qB1,qAm,q];rfl) rfl
theorem qGC (m:Nat) (x y:Nat->Q4) (a b:Int) (hs:∀j,j<m->((y j).2.2.2 - (x j).2.2.1).natAbs<2^100/\((x j).2.2.2 - (y j).2.2.1).natAbs<2^100)
  (B:∀(a b:Q4) (s:Sp2),(b.2.2.2 - a.2.2.1).natAbs<2^100->call 8 [q4 a,q4 b,spD s]=some (false,spD (bb a b s))) :
  qAr call [some (false,.tup (bx m λj=>q4 (x j))),some (false,.tup (bx m λj=>q4 (y j))),some (false,.int a),some (false,.int b),none,none,none] f_meeting.body=some (.rt (false,spD (mt x y m (some (a,b))))):=by
 refine qAn (false,side (a,b)) (by simp only [qAN,qAs,qBT,qAR,qAe,List.getElem?_cons_succ,List.getElem?_cons_zero,Option.join_some,qAt,List.length_cons,List.length_nil,Nat.reduceAdd,qNI,↓reduceIte];rfl) ?_
 obtain⟨σ',h',hσ⟩:=qBC (call:=call) (tg:=.two 5 6) (body:=[.set 4 false (.call 8 [(.v 5),(.v 6),(.v 4)]),.set 4 false (.call 8 [(.v 6),(.v 5),(.v 4)])]) (λk σ=>∃o5 o6:Option R,σ=[some (false,.tup (bx m λj=>q4 (x j))),some (false,.tup (bx m λj=>q4 (y j))),some (false,.int a),some (false,.int b),some (false,spD (mt x y k (some (a,b)))),o5,o6]) m (λj=>.tup [q4 (x j),q4 (y j)])
  [some (false,.tup (bx m λj=>q4 (x j))),some (false,.tup (bx m λj=>q4 (y j))),some (false,.int a),some (false,.int b),some (false,side (a,b)),none,none] ⟨_,_,rfl⟩ (by
   rintro k σ hk ⟨o5,o6,rfl⟩
   obtain⟨h1,h2⟩:=hs k hk
   have q1:=B (x k) (y k) (mt x y k (some (a,b))) h1
   have q2:=B (y k) (x k) (bb (x k) (y k) (mt x y k (some (a,b)))) h2
   refine⟨_,_,rfl,?_,some (false,q4 (x k)),some (false,q4 (y k)),rfl⟩
   refine qAn (false,spD (bb (x k) (y k) (mt x y k (some (a,b))))) (by simp only [List.set_cons_succ,List.set_cons_zero,qAl,qAk,ag,qAe,List.getElem?_cons_succ,List.getElem?_cons_zero,Option.join_some,Option.bind_some,agR,qAm,q1]) ?_
   exact qAn (false,spD (bb (y k) (x k) (bb (x k) (y k) (mt x y k (some (a,b)))))) (by simp only [List.set_cons_succ,List.set_cons_zero,qAz,Bool.and_false,qAl,qAk,ag,qAe,List.getElem?_cons_succ,List.getElem?_cons_zero,Option.join_some,Option.bind_some,agR,qAm,q2]) rfl)
 obtain⟨o5,o6,rfl⟩:=hσ
 rw [<-qJE] at h'
 refine qKG (x:=(false,.tup (bx m λj=>q4 (x j)))) (y:=(false,.tup (bx m λj=>q4 (y j)))) rfl rfl rfl rfl h' ?_
 exact qAf (r:=(false,spD (mt x y m (some (a,b))))) rfl rfl
theorem qKv (m:Nat) (f:Nat->P2):qAr call [some (false,qAG m f)] f_still_swath.body=some (.rt (false,.tup (bx m λj=>q4 (stl (f j))))):=by
 have hc:=qBO (call:=call) (σ:=[some (false,qAG m f)]) (e:=(.tup [(.ix (.v 0) (.k (.int 0))),(.ix (.v 0) (.k (.int 1))),(.k (.int 0)),(.k (.int 0))])) (nl:=1) (ks:=[]) (tg:=.one 0) (src:=.v 0) (r:=(false,qAG m f)) rfl (qCv m f) rfl
  (qCF (λj=>side (f j)) (λj=>q4 (stl (f j))) λj hj=>⟨false,by simp only [List.replicate_zero,qAe,List.map_nil,qAN,qAs,qAH,pk,List.getElem?_cons_zero,Option.join_some,Option.bind_some,pkR,qAp,Option.map_some,qBS,qB1,qAt,List.length_cons,List.length_nil,Nat.reduceAdd,qOH,↓reduceIte];rfl⟩)
 exact qAf (r:=(false,.tup (bx m λj=>q4 (stl (f j))))) (qDx (x:=.lst (bx m λj=>q4 (stl (f j)))) (by show (evE call _ _).map (·.2)=_;rw [hc];rfl) rfl) rfl
theorem qKz (m:Nat) (hm:0<m) (c:Nat->Q4) (f:Nat->P2) (a b:Int) (C4:call 11 [qAG m f]=some (false,.tup (bx m λj=>q4 (stl (f j)))))
  (C3:call 9 [.tup (bx m λj=>q4 (c j)),.tup (bx m λj=>q4 (stl (f j))),.int a,.int b]=some (false,spD (mt c (λj=>stl (f j)) m (some (a,b))))) :
  qAr call [some (false,.tup (bx m λj=>q4 (c j))),some (false,qAG m f),some (false,.int a),some (false,.int b)] f_crosses_box.body=some (.rt (false,.bl (dc (Cm m c f a b)))):=by
 have e:isP true (spD (mt c (λj=>stl (f j)) m (some (a,b)))) .non=some (false,.bl (dc (Cm m c f a b))):=by
  rw [<-qLw m hm]
  cases mt c (λj=>stl (f j)) m (some (a,b))<;>rfl
 exact qAf (r:=(false,.bl (dc (Cm m c f a b)))) (by simp only [qA2,qMh,pk,qAl,qAk,ag,qAe,List.getElem?_cons_zero,Option.join_some,Option.bind_some,agR,List.getElem?_cons_succ,qAm,C4,Option.map_some,C3,e]) rfl
end
end Dw.T
namespace Dw.T
open Dw
structure Sc where
 m:Nat
 pl:Nat->Int
 pa:Nat->Int
 sp:Int
 bt:Int
 mr:Nat
noncomputable def scD (s:Sc):D:=.tup [.int (s.m:Int),.lst (bx s.m λj=>.int (s.pl j)),.lst (bx s.m λj=>.int (s.pa j)),.int s.sp,.int s.bt,.int (s.mr:Int)]
structure ScOk (s:Sc):Prop where
 m:s.m=2∨s.m=3
 pl:∀j,-(10^29)<=s.pl j/\s.pl j<=10^29
 pa:∀j,-(10^14)<=s.pa j/\s.pa j<=10^14
 sp:0<=s.sp/\s.sp<=1
 bt:0<=s.bt/\s.bt<=10^15
 mr:s.mr<65536
theorem sc0 (s:Sc):ixP (scD s) (.int 0)=some (false,.int (s.m:Int)):=rfl
theorem sc1 (s:Sc):ixP (scD s) (.int 1)=some (false,.lst (bx s.m λj=>.int (s.pl j))):=rfl
theorem sc2 (s:Sc):ixP (scD s) (.int 2)=some (false,.lst (bx s.m λj=>.int (s.pa j))):=rfl
theorem sc3 (s:Sc):ixP (scD s) (.int 3)=some (false,.int s.sp):=rfl
theorem sc4 (s:Sc):ixP (scD s) (.int 4)=some (false,.int s.bt):=rfl
theorem sc5 (s:Sc):ixP (scD s) (.int 5)=some (false,.int (s.mr:Int)):=rfl
theorem eqZ (a b:Int):eqD (.int a) (.int b)=decide (a=b):=by rw [Bool.eq_iff_iff];simp
section
variable {call:Nat->List D->Option R}
theorem qDq {e:C}{m:Nat}{r:List (Option R)}(g:Nat->D) (h:∀j:Nat,j<m->∃b,evE call (some (false,.int (j:Nat))::r) e=some (b,g j)):qAM call e (none::r) (.one 0) ((List.range m).map λi=>.int (i:Nat))=some (bx m g):=
 qAX call _ (λi:Nat=>.int (i:Nat)) g (List.range m) λj hj=>by
  obtain⟨b,hb⟩:=h j (List.mem_range.mp hj)
  exact⟨_,b,rfl,hb⟩
theorem qKw (ns:List Int) (hh:∀i∈ns,2 * i.natAbs<qDh) (C20:∀k:Nat,call 29 [.lst (ns.map .int),.int (k:Int)]=some (false,.int (qBU ns k))) :
  ∃s:Sc,ScOk s/\qAr call [some (false,.lst (ns.map .int)),none,none,none,none,none,none,none,none] f_law_scene.body=some (.rt (false,scD s)):=by
 have c0:call 29 [.lst (ns.map .int),.int 0]=_:=C20 0
 have c1:call 29 [.lst (ns.map .int),.int 1]=_:=C20 1
 have c2:call 29 [.lst (ns.map .int),.int 2]=_:=C20 2
 have c3:call 29 [.lst (ns.map .int),.int 3]=_:=C20 3
 have hu:∀k,2 * (qBU ns k).natAbs<qDh:=λk=>by
  unfold qBU
  cases e:ns[k]? with
  | none=>exact Nat.lt_of_lt_of_le (show 0<2^10 by decide) (Nat.pow_le_pow_right (by decide) (by decide))
  | some i=>exact hh i (List.mem_of_getElem? e)
 have u2:=hu 2
 have u3:=hu 3
 generalize qBU ns 0=h at *
 generalize qBU ns 1=w at *
 generalize qBU ns 2=p at *
 generalize qBU ns 3=q at *
 have d2:qAW 2=true:=by decide
 have d3:qAW 3=true:=by decide
 have d4:qAW 4=true:=by decide
 have p15:qCI 10 15=true:=by decide
 have p29:qCI 10 29=true:=by decide
 have p14:qCI 10 14=true:=by decide
 have dA:qAW (10^(15:Int).toNat+1)=true:=by decide
 have dB:qAW (2 * 10^(29:Int).toNat+1)=true:=by decide
 have dC:qAW (2 * 10^(14:Int).toNat+1)=true:=by decide
 have mB:qCf 2 (10^(29:Int).toNat)=true:=by decide
 have mC:qCf 2 (10^(14:Int).toNat)=true:=by decide
 obtain⟨m,em,hm⟩:∃m:Nat,2+h.fmod 2=(m:Int)/\(m=2∨m=3):=by
  have:=qBe h 2 (by decide)
  exact⟨(2+h.fmod 2).toNat,by omega,by omega⟩
 obtain⟨bt,ebt,hbt⟩:∃bt:Int,(if w.fmod 3=0 then (w.fdiv 3).fmod 4 else (w.fdiv 3).fmod (10^(15:Int).toNat+1))=bt/\(0<=bt/\bt<=10^15):=by
  refine⟨_,rfl,?_⟩
  have a1:=qBe (w.fdiv 3) 4 (by decide)
  have a2:=qBe (w.fdiv 3) (10^(15:Int).toNat+1) (by decide)
  generalize (w.fdiv 3).fmod (10^(15:Int).toNat+1)=y at *
  have e15:(10:Int)^(15:Int).toNat=10^15:=rfl
  rw [e15] at a2
  split<;>omega
 obtain⟨mk,hmk,emk⟩:∃mk:Nat,mk<65536/\ixP (.lst [.int 0,.int 0,.int 5,.int 40960]) (.int ((h.fdiv 4).fmod 4))=some (false,.int (mk:Int)):=by
  have:=qBe (h.fdiv 4) 4 (by decide)
  generalize (h.fdiv 4).fmod 4=z at *
  have:z=0∨z=1∨z=2∨z=3:=by omega
  rcases this with rfl|rfl|rfl|rfl
  ·exact⟨0,by decide,rfl⟩
  ·exact⟨0,by decide,rfl⟩
  ·exact⟨5,by decide,rfl⟩
  ·exact⟨40960,by decide,rfl⟩
 have z0:∀σ:En,qAM call (.k (.int 0)) [none] (.one 0) ((List.range m).map λi=>.int (i:Nat))=some (bx m λ_=>.int 0):=λ_=>qDq (r:=[]) (λ_=>.int 0) λj hj=>⟨false,rfl⟩
 have lm:((List.range m).map λi=>D.int (i:Nat)).length<=lim:=qAY (by simp;omega)
 have rg:qFx [.int (m:Int)]=some ((List.range m).map λi=>.int (i:Nat)):=qDB (by omega)
 obtain⟨pl,hpl,epl⟩:∃pl:Nat->Int,(∀j,-(10^29)<=pl j/\pl j<=10^29)/\∀(v1 v2 v4 v6 v8:Option R) z,qAr call [some (false,.lst (ns.map .int)),v1,v2,some (false,.int p),v4,some (false,.int (m:Int)),v6,some (false,.lst (bx m λj=>.int (pl j))),v8] [.set 8 false (.compR (.k (.int 0)) 1 [] (.one 0) [(.v 5)]),.ite (.cmp .eq (.bin .mod (.v 4) (.k (.int 2))) (.k (.int 1))) [.set 8 false (.compR (.bin .sub (.bin .mod (.bin .mul (.bin .fdiv (.v 1) (.k (.int 2))) (.bin .add (.v 0) (.k (.int 1)))) (.bin .add (.bin .mul (.k (.int 2)) (.bin .pow (.k (.int 10)) (.k (.int 14)))) (.k (.int 1)))) (.bin .pow (.k (.int 10)) (.k (.int 14)))) 1 [4] (.one 0) [(.v 5)])] [],.ret (.tup [(.v 5),(.v 7),(.v 8),(.bin .mod (.bin .fdiv (.v 1) (.k (.int 2))) (.k (.int 2))),(.v 6),(.ix (.lst [(.k (.int 0)),(.k (.int 0)),(.k (.int 5)),(.k (.int 40960))]) (.bin .mod (.bin .fdiv (.v 1) (.k (.int 4))) (.k (.int 4))))])]=z->qAr call [some (false,.lst (ns.map .int)),v1,v2,some (false,.int p),v4,some (false,.int (m:Int)),v6,none,v8] [.set 7 false (.compR (.k (.int 0)) 1 [] (.one 0) [(.v 5)]),.ite (.cmp .eq (.bin .mod (.v 3) (.k (.int 2))) (.k (.int 1))) [.set 7 false (.compR (.bin .sub (.bin .mod (.bin .mul (.bin .fdiv (.v 1) (.k (.int 2))) (.bin .add (.bin .mul (.v 0) (.v 0)) (.k (.int 1)))) (.bin .add (.bin .mul (.k (.int 2)) (.bin .pow (.k (.int 10)) (.k (.int 29)))) (.k (.int 1)))) (.bin .pow (.k (.int 10)) (.k (.int 29)))) 1 [3] (.one 0) [(.v 5)])] [],.set 8 false (.compR (.k (.int 0)) 1 [] (.one 0) [(.v 5)]),.ite (.cmp .eq (.bin .mod (.v 4) (.k (.int 2))) (.k (.int 1))) [.set 8 false (.compR (.bin .sub (.bin .mod (.bin .mul (.bin .fdiv (.v 1) (.k (.int 2))) (.bin .add (.v 0) (.k (.int 1)))) (.bin .add (.bin .mul (.k (.int 2)) (.bin .pow (.k (.int 10)) (.k (.int 14)))) (.k (.int 1)))) (.bin .pow (.k (.int 10)) (.k (.int 14)))) 1 [4] (.one 0) [(.v 5)])] [],.ret (.tup [(.v 5),(.v 7),(.v 8),(.bin .mod (.bin .fdiv (.v 1) (.k (.int 2))) (.k (.int 2))),(.v 6),(.ix (.lst [(.k (.int 0)),(.k (.int 0)),(.k (.int 5)),(.k (.int 40960))]) (.bin .mod (.bin .fdiv (.v 1) (.k (.int 4))) (.k (.int 4))))])]=z:=by
  by_cases hp:p.fmod 2=1
  ·refine⟨λj=>(p.fdiv 2 * ((j:Int) * (j:Int)+1)).fmod (2 * 10^(29:Int).toNat+1) - 10^(29:Int).toNat,λj=>?_,λv1 v2 v4 v6 v8 z k=>?_⟩
   ·have a:=qBe (p.fdiv 2 * ((j:Int) * (j:Int)+1)) (2 * 10^(29:Int).toNat+1) (by decide)
    show -(10^29)<=(p.fdiv 2 * ((j:Int) * (j:Int)+1)).fmod (2 * 10^(29:Int).toNat+1) - 10^(29:Int).toNat/\(p.fdiv 2 * ((j:Int) * (j:Int)+1)).fmod (2 * 10^(29:Int).toNat+1) - 10^(29:Int).toNat<=10^29
    generalize (p.fdiv 2 * ((j:Int) * (j:Int)+1)).fmod (2 * 10^(29:Int).toNat+1)=y at *
    have e29:(10:Int)^(29:Int).toNat=10^29:=rfl
    rw [e29] at a ⊢
    omega
   ·refine qAn (true,.lst (bx m λ_=>.int 0)) (qCJ (ds:=[.int (m:Int)]) (by simp only [qAu,pk,qAe,List.getElem?_cons_succ,List.getElem?_cons_zero,Option.join_some,Option.bind_some,pkR,qAv]) rg lm rfl (z0 [])) ?_
    have hc:=qDq (call:=call) (m:=m) (e:=(.bin .sub (.bin .mod (.bin .mul (.bin .fdiv (.v 1) (.k (.int 2))) (.bin .add (.bin .mul (.v 0) (.v 0)) (.k (.int 1)))) (.bin .add (.bin .mul (.k (.int 2)) (.bin .pow (.k (.int 10)) (.k (.int 29)))) (.k (.int 1)))) (.bin .pow (.k (.int 10)) (.k (.int 29))))) (r:=[some (false,.int p)]) (λj=>.int ((p.fdiv 2 * ((j:Int) * (j:Int)+1)).fmod (2 * 10^(29:Int).toNat+1) - 10^(29:Int).toNat)) λj hj=>⟨false,by
     have m1:qCf (j:Int) (j:Int)=true:=qQQ _ _ (by omega)
     have j2:(j:Int) * (j:Int)+1<2^64/\0<=(j:Int) * (j:Int)+1:=by
      have:j=0∨j=1∨j=2:=by omega
      rcases this with rfl|rfl|rfl<;>decide
     have m2:qCf (p.fdiv 2) ((j:Int) * (j:Int)+1)=true:=qJZ _ _ (by omega)
     simp only [qAj,pk,qAe,List.getElem?_cons_succ,List.getElem?_cons_zero,Option.join_some,Option.bind_some,pkR,qAp,Option.map_some,qAo,d2,↓reduceIte,qBd,m1,qAF,m2,qA1,p29,mB,qAh,dB,qAU]⟩
    exact qEd (x:=false) (by simp only [qAz,Bool.and_true,List.set_cons_succ,List.set_cons_zero,qAi,pk,qAj,qAe,List.getElem?_cons_succ,List.getElem?_cons_zero,Option.join_some,Option.bind_some,pkR,qAp,Option.map_some,qAh,d2,↓reduceIte,hp,qAg,eqZ];rfl) (qAn (true,.lst (bx m λj=>.int ((p.fdiv 2 * ((j:Int) * (j:Int)+1)).fmod (2 * 10^(29:Int).toNat+1) - 10^(29:Int).toNat))) (qCJ (ds:=[.int (m:Int)]) (by simp only [qAz,Bool.and_true,List.set_cons_succ,List.set_cons_zero,qAu,pk,qAe,List.getElem?_cons_succ,List.getElem?_cons_zero,Option.join_some,Option.bind_some,pkR,qAv]) rg lm rfl hc) rfl) k
  ·refine⟨λ_=>0,λj=>by show -(10^29)<=(0:Int)/\(0:Int)<=10^29;decide,λv1 v2 v4 v6 v8 z k=>?_⟩
   refine qAn (true,.lst (bx m λ_=>.int 0)) (qCJ (ds:=[.int (m:Int)]) (by simp only [qAu,pk,qAe,List.getElem?_cons_succ,List.getElem?_cons_zero,Option.join_some,Option.bind_some,pkR,qAv]) rg lm rfl (z0 [])) ?_
   exact qAa (x:=false) (by simp only [qAz,Bool.and_true,List.set_cons_succ,List.set_cons_zero,qAi,pk,qAj,qAe,List.getElem?_cons_succ,List.getElem?_cons_zero,Option.join_some,Option.bind_some,pkR,qAp,Option.map_some,qAh,d2,↓reduceIte,qAg,eqZ,hp];simp) k
 obtain⟨pa,hpa,epa⟩:∃pa:Nat->Int,(∀j,-(10^14)<=pa j/\pa j<=10^14)/\∀(v1 v2 v3 v6 v7:Option R) z,qAr call [some (false,.lst (ns.map .int)),v1,v2,v3,some (false,.int q),some (false,.int (m:Int)),v6,v7,some (false,.lst (bx m λj=>.int (pa j)))] [.ret (.tup [(.v 5),(.v 7),(.v 8),(.bin .mod (.bin .fdiv (.v 1) (.k (.int 2))) (.k (.int 2))),(.v 6),(.ix (.lst [(.k (.int 0)),(.k (.int 0)),(.k (.int 5)),(.k (.int 40960))]) (.bin .mod (.bin .fdiv (.v 1) (.k (.int 4))) (.k (.int 4))))])]=z->qAr call [some (false,.lst (ns.map .int)),v1,v2,v3,some (false,.int q),some (false,.int (m:Int)),v6,v7,none] [.set 8 false (.compR (.k (.int 0)) 1 [] (.one 0) [(.v 5)]),.ite (.cmp .eq (.bin .mod (.v 4) (.k (.int 2))) (.k (.int 1))) [.set 8 false (.compR (.bin .sub (.bin .mod (.bin .mul (.bin .fdiv (.v 1) (.k (.int 2))) (.bin .add (.v 0) (.k (.int 1)))) (.bin .add (.bin .mul (.k (.int 2)) (.bin .pow (.k (.int 10)) (.k (.int 14)))) (.k (.int 1)))) (.bin .pow (.k (.int 10)) (.k (.int 14)))) 1 [4] (.one 0) [(.v 5)])] [],.ret (.tup [(.v 5),(.v 7),(.v 8),(.bin .mod (.bin .fdiv (.v 1) (.k (.int 2))) (.k (.int 2))),(.v 6),(.ix (.lst [(.k (.int 0)),(.k (.int 0)),(.k (.int 5)),(.k (.int 40960))]) (.bin .mod (.bin .fdiv (.v 1) (.k (.int 4))) (.k (.int 4))))])]=z:=by
  by_cases hp:q.fmod 2=1
  ·refine⟨λj=>(q.fdiv 2 * ((j:Int)+1)).fmod (2 * 10^(14:Int).toNat+1) - 10^(14:Int).toNat,λj=>?_,λv1 v2 v3 v6 v7 z k=>?_⟩
   ·have a:=qBe (q.fdiv 2 * ((j:Int)+1)) (2 * 10^(14:Int).toNat+1) (by decide)
    show -(10^14)<=(q.fdiv 2 * ((j:Int)+1)).fmod (2 * 10^(14:Int).toNat+1) - 10^(14:Int).toNat/\(q.fdiv 2 * ((j:Int)+1)).fmod (2 * 10^(14:Int).toNat+1) - 10^(14:Int).toNat<=10^14
    generalize (q.fdiv 2 * ((j:Int)+1)).fmod (2 * 10^(14:Int).toNat+1)=y at *
    have e29:(10:Int)^(14:Int).toNat=10^14:=rfl
    rw [e29] at a ⊢
    omega
   ·refine qAn (true,.lst (bx m λ_=>.int 0)) (qCJ (ds:=[.int (m:Int)]) (by simp only [qAu,pk,qAe,List.getElem?_cons_succ,List.getElem?_cons_zero,Option.join_some,Option.bind_some,pkR,qAv]) rg lm rfl (z0 [])) ?_
    have hc:=qDq (call:=call) (m:=m) (e:=(.bin .sub (.bin .mod (.bin .mul (.bin .fdiv (.v 1) (.k (.int 2))) (.bin .add (.v 0) (.k (.int 1)))) (.bin .add (.bin .mul (.k (.int 2)) (.bin .pow (.k (.int 10)) (.k (.int 14)))) (.k (.int 1)))) (.bin .pow (.k (.int 10)) (.k (.int 14))))) (r:=[some (false,.int q)]) (λj=>.int ((q.fdiv 2 * ((j:Int)+1)).fmod (2 * 10^(14:Int).toNat+1) - 10^(14:Int).toNat)) λj hj=>⟨false,by
     have m2:qCf (q.fdiv 2) ((j:Int)+1)=true:=qJZ _ _ (by omega)
     simp only [qAj,pk,qAe,List.getElem?_cons_succ,List.getElem?_cons_zero,Option.join_some,Option.bind_some,pkR,qAp,Option.map_some,qAo,d2,↓reduceIte,qAF,qBd,m2,qA1,p14,mC,qAh,dC,qAU]⟩
    exact qEd (x:=false) (by simp only [qAz,Bool.and_true,List.set_cons_succ,List.set_cons_zero,qAi,pk,qAj,qAe,List.getElem?_cons_succ,List.getElem?_cons_zero,Option.join_some,Option.bind_some,pkR,qAp,Option.map_some,qAh,d2,↓reduceIte,hp,qAg,eqZ];rfl) (qAn (true,.lst (bx m λj=>.int ((q.fdiv 2 * ((j:Int)+1)).fmod (2 * 10^(14:Int).toNat+1) - 10^(14:Int).toNat))) (qCJ (ds:=[.int (m:Int)]) (by simp only [qAz,Bool.and_true,List.set_cons_succ,List.set_cons_zero,qAu,pk,qAe,List.getElem?_cons_succ,List.getElem?_cons_zero,Option.join_some,Option.bind_some,pkR,qAv]) rg lm rfl hc) rfl) k
  ·refine⟨λ_=>0,λj=>by show -(10^14)<=(0:Int)/\(0:Int)<=10^14;decide,λv1 v2 v3 v6 v7 z k=>?_⟩
   refine qAn (true,.lst (bx m λ_=>.int 0)) (qCJ (ds:=[.int (m:Int)]) (by simp only [qAu,pk,qAe,List.getElem?_cons_succ,List.getElem?_cons_zero,Option.join_some,Option.bind_some,pkR,qAv]) rg lm rfl (z0 [])) ?_
   exact qAa (x:=false) (by simp only [qAz,Bool.and_true,List.set_cons_succ,List.set_cons_zero,qAi,pk,qAj,qAe,List.getElem?_cons_succ,List.getElem?_cons_zero,Option.join_some,Option.bind_some,pkR,qAp,Option.map_some,qAh,d2,↓reduceIte,qAg,eqZ,hp];simp) k
 refine⟨⟨m,pl,pa,(h.fdiv 2).fmod 2,bt,mk⟩,⟨hm,hpl,hpa,by have:=qBe (h.fdiv 2) 2 (by decide);show 0<=(h.fdiv 2).fmod 2/\(h.fdiv 2).fmod 2<=1;omega,hbt,hmk⟩,?_⟩
 refine qAn (false,.int h) (by simp only [qAl,qAk,ag,qAe,List.getElem?_cons_zero,Option.join_some,Option.bind_some,agR,qAp,Option.map_some,qAm,c0]) ?_
 refine qAn (false,.int w) (by simp only [qAz,Bool.and_false,List.set_cons_succ,List.set_cons_zero,qAl,qAk,ag,qAe,List.getElem?_cons_zero,Option.join_some,Option.bind_some,agR,qAp,Option.map_some,qAm,c1]) ?_
 refine qAn (false,.int p) (by simp only [qAz,Bool.and_false,List.set_cons_succ,List.set_cons_zero,qAl,qAk,ag,qAe,List.getElem?_cons_zero,Option.join_some,Option.bind_some,agR,qAp,Option.map_some,qAm,c2]) ?_
 refine qAn (false,.int q) (by simp only [qAz,Bool.and_false,List.set_cons_succ,List.set_cons_zero,qAl,qAk,ag,qAe,List.getElem?_cons_zero,Option.join_some,Option.bind_some,agR,qAp,Option.map_some,qAm,c3]) ?_
 refine qAn (false,.int (m:Int)) (by simp only [qAz,Bool.and_false,List.set_cons_succ,List.set_cons_zero,qAj,pk,qAp,Option.map_some,qAe,List.getElem?_cons_succ,List.getElem?_cons_zero,Option.join_some,Option.bind_some,pkR,qAh,d2,↓reduceIte,qAF,em]) ?_
 refine qAn (false,.int ((w.fdiv 3).fmod 4)) (by simp only [qAz,Bool.and_false,List.set_cons_succ,List.set_cons_zero,qAj,pk,qAe,List.getElem?_cons_succ,List.getElem?_cons_zero,Option.join_some,Option.bind_some,pkR,qAp,Option.map_some,qAo,d3,↓reduceIte,qAh,d4]) ?_
 have l6:6<=lim:=qAY (by decide)
 have l4:4<=lim:=qAY (by decide)
 have fin:qAr call [some (false,.lst (ns.map .int)),some (false,.int h),some (false,.int w),some (false,.int p),some (false,.int q),some (false,.int (m:Int)),some (false,.int bt),none,none] [.set 7 false (.compR (.k (.int 0)) 1 [] (.one 0) [(.v 5)]),.ite (.cmp .eq (.bin .mod (.v 3) (.k (.int 2))) (.k (.int 1))) [.set 7 false (.compR (.bin .sub (.bin .mod (.bin .mul (.bin .fdiv (.v 1) (.k (.int 2))) (.bin .add (.bin .mul (.v 0) (.v 0)) (.k (.int 1)))) (.bin .add (.bin .mul (.k (.int 2)) (.bin .pow (.k (.int 10)) (.k (.int 29)))) (.k (.int 1)))) (.bin .pow (.k (.int 10)) (.k (.int 29)))) 1 [3] (.one 0) [(.v 5)])] [],.set 8 false (.compR (.k (.int 0)) 1 [] (.one 0) [(.v 5)]),.ite (.cmp .eq (.bin .mod (.v 4) (.k (.int 2))) (.k (.int 1))) [.set 8 false (.compR (.bin .sub (.bin .mod (.bin .mul (.bin .fdiv (.v 1) (.k (.int 2))) (.bin .add (.v 0) (.k (.int 1)))) (.bin .add (.bin .mul (.k (.int 2)) (.bin .pow (.k (.int 10)) (.k (.int 14)))) (.k (.int 1)))) (.bin .pow (.k (.int 10)) (.k (.int 14)))) 1 [4] (.one 0) [(.v 5)])] [],.ret (.tup [(.v 5),(.v 7),(.v 8),(.bin .mod (.bin .fdiv (.v 1) (.k (.int 2))) (.k (.int 2))),(.v 6),(.ix (.lst [(.k (.int 0)),(.k (.int 0)),(.k (.int 5)),(.k (.int 40960))]) (.bin .mod (.bin .fdiv (.v 1) (.k (.int 4))) (.k (.int 4))))])]=some (.rt (false,scD ⟨m,pl,pa,(h.fdiv 2).fmod 2,bt,mk⟩)):=by
  refine epl _ _ _ _ _ _ (epa _ _ _ _ _ _ ?_)
  exact qAf (r:=(false,scD ⟨m,pl,pa,(h.fdiv 2).fmod 2,bt,mk⟩)) (by simp only [qA2,qAN,qAs,qBT,qAR,qAe,List.getElem?_cons_succ,List.getElem?_cons_zero,Option.join_some,qAj,pk,Option.bind_some,pkR,qAp,Option.map_some,qAo,d2,↓reduceIte,qAh,qAH,qBV,qAt,List.length_cons,List.length_nil,Nat.reduceAdd,l4,d4,emk,l6];rfl) rfl
 by_cases h3:w.fmod 3=0
 ·rw [if_pos h3] at ebt
  subst ebt
  exact qAa (x:=false) (by simp only [qAz,Bool.and_false,List.set_cons_succ,List.set_cons_zero,qAi,pk,qAj,qAe,List.getElem?_cons_succ,List.getElem?_cons_zero,Option.join_some,Option.bind_some,pkR,qAp,Option.map_some,qAh,d3,↓reduceIte,h3,qCG,eqZ];simp) fin
 ·rw [if_neg h3] at ebt
  subst ebt
  exact qEd (x:=false) (by simp only [qAz,Bool.and_false,List.set_cons_succ,List.set_cons_zero,qAi,pk,qAj,qAe,List.getElem?_cons_succ,List.getElem?_cons_zero,Option.join_some,Option.bind_some,pkR,qAp,Option.map_some,qAh,d3,↓reduceIte,qCG,eqZ,h3];simp) (qAn (false,.int ((w.fdiv 3).fmod (10^(15:Int).toNat+1))) (by simp only [qAz,Bool.and_false,List.set_cons_succ,List.set_cons_zero,qAj,pk,qAe,List.getElem?_cons_succ,List.getElem?_cons_zero,Option.join_some,Option.bind_some,pkR,qAp,Option.map_some,qAo,d3,↓reduceIte,qA1,p15,qAF,qAh,dA]) rfl) fin
end
end Dw.T
namespace Dw.T
open Dw
noncomputable def Bd3 (q:Int×Int×Int):Prop:=(-(10^31)<=q.1/\q.1<=10^31)/\(-(10^31)<=q.2.1/\q.2.1<=10^31)/\(-(10^15)<=q.2.2/\q.2.2<=10^15)
noncomputable def Bd2 (q:P2):Prop:=(-(10^31)<=q.1/\q.1<=10^31)/\(-(10^31)<=q.2/\q.2<=10^31)
theorem qFH {a b A B:Int}(h:-A<=a/\a<=A) (h':0<=b/\b<=B) (hA:0<=A):-(A * B)<=a * b/\a * b<=A * B:=by
 have h1:a * b<=A * b:=Int.mul_le_mul_of_nonneg_right h.2 h'.1
 have h2:(-A) * b<=a * b:=Int.mul_le_mul_of_nonneg_right h.1 h'.1
 have h3:A * b<=A * B:=Int.mul_le_mul_of_nonneg_left h'.2 hA
 rw [Int.neg_mul] at h2
 omega
noncomputable def qEN (t:Th):Prop:=(∀j,Bd3 (t.sw j))/\t.mr<65536
theorem qIe {L:List (Int×Int×Int)}(h:∀q∈L,Bd3 q) (j:Nat):Bd3 (L.getD j (0,0,0)):=by
 rw [List.getD_eq_getElem?_getD]
 cases e:L[j]? with
 | none=>exact⟨by decide,by decide,by decide⟩
 | some q=>exact h q (List.mem_of_getElem? e)
theorem qLZ {L:List P2}(h:∀q∈L,Bd2 q) (j:Nat):Bd2 (L.getD j (0,0)):=by
 rw [List.getD_eq_getElem?_getD]
 cases e:L[j]? with
 | none=>exact⟨by decide,by decide⟩
 | some q=>exact h q (List.mem_of_getElem? e)
section
variable {call:Nat->List D->Option R}
theorem qF7 (c:Int) (hc:2 * c.natAbs<qDh) (s:Sc) (ok:ScOk s) (C21:call 30 [.int c]=some (false,.int (qBW c))) (C22:∀l:Int,0<=l->l<prm->call 31 [.int l]=some (false,.int (qBZ l))) :
  ∃t:Th,qEN t/\qAr call [some (false,.int c),some (false,scD s),none,none,none,none,none,none,none,none] f_law_thing_by.body=some (.rt (false,thD s.m t)):=by
 have dv:∀b:Int,b=5∨b=9∨b=45∨b=4∨b=180∨b=900∨b=13∨b=2∨b=65536∨b=131072∨b=1179648->qAW b=true:=λb h=>by rcases h with rfl|rfl|rfl|rfl|rfl|rfl|rfl|rfl|rfl|rfl|rfl<;>decide
 have d5:=dv 5 (by decide)
 have d9:=dv 9 (by decide)
 have d45:=dv 45 (by decide)
 have d4:=dv 4 (by decide)
 have d180:=dv 180 (by decide)
 have d900:=dv 900 (by decide)
 have d13:=dv 13 (by decide)
 have d2:=dv 2 (by decide)
 have d6:=dv 65536 (by decide)
 have d7:=dv 131072 (by decide)
 have d8:=dv 1179648 (by decide)
 have p28:qCI 10 28=true:=by decide
 have p18:qCI 10 18=true:=by decide
 have dP:qAW (10^(28:Int).toNat)=true:=by decide
 have dQ:qAW (10^(18:Int).toNat+1)=true:=by decide
 have e28:(10:Int)^(28:Int).toNat=10^28:=rfl
 have hm:s.m<=3:=by have:=ok.m;omega
 have xc:=qBe c (10^(28:Int).toNat) (by decide)
 obtain⟨σ',h',L,l,o4,o5,o6,o7,hL,hB,hl,rfl⟩:=qBC (call:=call) (tg:=.one 4) (body:=[.set 5 false (.bin .add (.ix (.ix (.v 1) (.k (.int 2))) (.v 4)) (.bin .mul (.bin .sub (.bin .mod (.v 2) (.k (.int 5))) (.k (.int 2))) (.ix (.v 1) (.k (.int 3))))),.set 6 false (.bin .sub (.bin .sub (.bin .add (.ix (.ix (.v 1) (.k (.int 1))) (.v 4)) (.bin .mod (.bin .fdiv (.v 2) (.k (.int 5))) (.k (.int 9)))) (.k (.int 4))) (.bin .mul (.v 5) (.ix (.v 1) (.k (.int 4))))),.set 7 false (.bin .mod (.bin .fdiv (.v 2) (.k (.int 45))) (.k (.int 4))),.ite (.cmp .eq (.bin .mod (.bin .fdiv (.v 2) (.k (.int 180))) (.k (.int 5))) (.k (.int 2))) [.set 6 false (.bin .sub (.v 6) (.k (.int 10))),.set 7 false (.bin .add (.v 7) (.k (.int 20)))] [],.ite (.cmp .eq (.bin .mod (.bin .fdiv (.v 2) (.k (.int 900))) (.k (.int 13))) (.k (.int 3))) [.set 6 false (.bin .add (.v 6) (.bin .mod (.v 0) (.bin .pow (.k (.int 10)) (.k (.int 28)))))] [],.app 3 (.tup [(.v 6),(.bin .add (.v 6) (.v 7)),(.v 5),(.v 5)]),.set 2 false (.call 31 [(.v 2)])])
  (λk σ=>∃(L:List (Int×Int×Int)) (l:Int) (o4 o5 o6 o7:Option R),L.length=k/\(∀q∈L,Bd3 q)/\(0<=l/\l<prm)/\σ=[some (false,.int c),some (false,scD s),some (false,.int l),some (true,.lst (L.map sD)),o4,o5,o6,o7,none,none]) s.m (λi=>.int (i:Nat))
  [some (false,.int c),some (false,scD s),some (false,.int (qBW c)),some (true,.lst []),none,none,none,none,none,none] ⟨[],_,_,_,_,_,rfl,(λ_ h=>nomatch h),qER c,rfl⟩ (by
   rintro k σ hk ⟨L,l,o4,o5,o6,o7,hL,hB,hl,rfl⟩
   have g1:ixP (.lst (bx s.m λj=>.int (s.pa j))) (.int (k:Int))=some (false,.int (s.pa k)):=qDe (λj=>.int (s.pa j)) hk
   have g2:ixP (.lst (bx s.m λj=>.int (s.pl j))) (.int (k:Int))=some (false,.int (s.pl k)):=qDe (λj=>.int (s.pl j)) hk
   have m1:qCf (l.fmod 5 - 2) s.sp=true:=qJZ _ _ (by have:=ok.sp;omega)
   have b5:=qBe l 5 (by decide)
   have bsp:-(10^14+2)<=s.pa k+(l.fmod 5 - 2) * s.sp/\s.pa k+(l.fmod 5 - 2) * s.sp<=10^14+2:=by
    have:=qFH (a:=l.fmod 5 - 2) (b:=s.sp) (A:=2) (B:=1) (by omega) ok.sp (by decide)
    have:=ok.pa k
    omega
   generalize hsp:s.pa k+(l.fmod 5 - 2) * s.sp=sp at bsp
   have m2:qCf sp s.bt=true:=qJZ _ _ (by have:=ok.bt;omega)
   have bpr:=qFH (a:=sp) (b:=s.bt) (A:=10^14+2) (B:=10^15) bsp ok.bt (by decide)
   have b9:=qBe (l.fdiv 5) 9 (by decide)
   have blw:-(2 * 10^29+10^17)<=s.pl k+(l.fdiv 5).fmod 9 - 4 - sp * s.bt/\s.pl k+(l.fdiv 5).fmod 9 - 4 - sp * s.bt<=2 * 10^29+10^17:=by
    have:=ok.pl k
    omega
   generalize hlw:s.pl k+(l.fdiv 5).fmod 9 - 4 - sp * s.bt=lw at blw
   have bw:=qBe (l.fdiv 45) 4 (by decide)
   generalize hwd:(l.fdiv 45).fmod 4=wd at bw
   have nx:=C22 l hl.1 hl.2
   have fin:∀lw wd:Int,(-(5 * 10^29)<=lw/\lw<=5 * 10^29)->(0<=wd/\wd<=23)->∃σ2,qAr call [some (false,.int c),some (false,scD s),some (false,.int l),some (true,.lst (L.map sD)),some (false,.int (k:Int)),some (false,.int sp),some (false,.int lw),some (false,.int wd),none,none] [.app 3 (.tup [(.v 6),(.bin .add (.v 6) (.v 7)),(.v 5),(.v 5)]),.set 2 false (.call 31 [(.v 2)])]=some (.nx σ2) /\
     ∃(L:List (Int×Int×Int)) (l:Int) (o4 o5 o6 o7:Option R),L.length=k+1/\(∀q∈L,Bd3 q)/\(0<=l/\l<prm)/\σ2=[some (false,.int c),some (false,scD s),some (false,.int l),some (true,.lst (L.map sD)),o4,o5,o6,o7,none,none]:=λlw wd h1 h2=>by
    refine⟨_,?_,L++[(lw,lw+wd,sp)],qBZ l,some (false,.int (k:Int)),some (false,.int sp),some (false,.int lw),some (false,.int wd),by simp [hL],λq hq=>?_,qDV l,rfl⟩
    ·rw [List.map_append]
     refine qCZ (false,sD (lw,lw+wd,sp)) (by simp only [qAN,qAs,qBT,qAR,qAe,List.getElem?_cons_succ,List.getElem?_cons_zero,Option.join_some,qAj,pk,Option.bind_some,pkR,qAF,qAt,List.length_cons,List.length_nil,Nat.reduceAdd,qOH,↓reduceIte];rfl) rfl (qC7 (by simp;omega)) ?_
     exact qAn (false,.int (qBZ l)) (by simp only [List.set_cons_succ,List.set_cons_zero,qAl,qAk,ag,qAe,List.getElem?_cons_succ,List.getElem?_cons_zero,Option.join_some,Option.bind_some,agR,qAm,nx]) rfl
    ·rcases List.mem_append.mp hq with hq|hq
     ·exact hB q hq
     ·obtain rfl:=List.mem_singleton.mp hq
      show (-(10^31)<=lw/\lw<=10^31)/\(-(10^31)<=lw+wd/\lw+wd<=10^31)/\(-(10^15)<=sp/\sp<=10^15)
      omega
   have fin2:∀lw wd:Int,(-(3 * 10^29)<=lw/\lw<=3 * 10^29)->(0<=wd/\wd<=23)->∃σ2,qAr call [some (false,.int c),some (false,scD s),some (false,.int l),some (true,.lst (L.map sD)),some (false,.int (k:Int)),some (false,.int sp),some (false,.int lw),some (false,.int wd),none,none] [.ite (.cmp .eq (.bin .mod (.bin .fdiv (.v 2) (.k (.int 900))) (.k (.int 13))) (.k (.int 3))) [.set 6 false (.bin .add (.v 6) (.bin .mod (.v 0) (.bin .pow (.k (.int 10)) (.k (.int 28)))))] [],.app 3 (.tup [(.v 6),(.bin .add (.v 6) (.v 7)),(.v 5),(.v 5)]),.set 2 false (.call 31 [(.v 2)])]=some (.nx σ2) /\
     ∃(L:List (Int×Int×Int)) (l:Int) (o4 o5 o6 o7:Option R),L.length=k+1/\(∀q∈L,Bd3 q)/\(0<=l/\l<prm)/\σ2=[some (false,.int c),some (false,scD s),some (false,.int l),some (true,.lst (L.map sD)),o4,o5,o6,o7,none,none]:=λlw wd h1 h2=>by
    by_cases hq:(l.fdiv 900).fmod 13=3
    ·generalize hy:c.fmod (10^(28:Int).toNat)=y at *
     rw [e28] at xc
     obtain⟨σ2,q1,q2⟩:=fin (lw+y) wd (by omega) h2
     exact⟨σ2,qEd (x:=false) (by simp only [qAi,pk,qAj,qAe,List.getElem?_cons_succ,List.getElem?_cons_zero,Option.join_some,Option.bind_some,pkR,qAp,Option.map_some,qAo,d900,↓reduceIte,qAh,d13,hq,qAg,eqZ];rfl) (qAn (false,.int (lw+y)) (by simp only [qAj,pk,qAe,List.getElem?_cons_succ,List.getElem?_cons_zero,Option.join_some,Option.bind_some,pkR,qAp,Option.map_some,qA1,p28,↓reduceIte,qAh,dP,hy,qAF]) rfl) q1,q2⟩
    ·obtain⟨σ2,q1,q2⟩:=fin lw wd (by omega) h2
     exact⟨σ2,qAa (x:=false) (by simp only [qAi,pk,qAj,qAe,List.getElem?_cons_succ,List.getElem?_cons_zero,Option.join_some,Option.bind_some,pkR,qAp,Option.map_some,qAo,d900,↓reduceIte,qAh,d13,qAg,eqZ,hq];simp) q1,q2⟩
   have main:∃σ2,qAr call [some (false,.int c),some (false,scD s),some (false,.int l),some (true,.lst (L.map sD)),some (false,.int (k:Int)),some (false,.int sp),some (false,.int lw),some (false,.int wd),none,none] [.ite (.cmp .eq (.bin .mod (.bin .fdiv (.v 2) (.k (.int 180))) (.k (.int 5))) (.k (.int 2))) [.set 6 false (.bin .sub (.v 6) (.k (.int 10))),.set 7 false (.bin .add (.v 7) (.k (.int 20)))] [],.ite (.cmp .eq (.bin .mod (.bin .fdiv (.v 2) (.k (.int 900))) (.k (.int 13))) (.k (.int 3))) [.set 6 false (.bin .add (.v 6) (.bin .mod (.v 0) (.bin .pow (.k (.int 10)) (.k (.int 28)))))] [],.app 3 (.tup [(.v 6),(.bin .add (.v 6) (.v 7)),(.v 5),(.v 5)]),.set 2 false (.call 31 [(.v 2)])]=some (.nx σ2) /\
     ∃(L:List (Int×Int×Int)) (l:Int) (o4 o5 o6 o7:Option R),L.length=k+1/\(∀q∈L,Bd3 q)/\(0<=l/\l<prm)/\σ2=[some (false,.int c),some (false,scD s),some (false,.int l),some (true,.lst (L.map sD)),o4,o5,o6,o7,none,none]:=by
    by_cases hq:(l.fdiv 180).fmod 5=2
    ·obtain⟨σ2,q1,q2⟩:=fin2 (lw - 10) (wd+20) (by omega) (by omega)
     refine⟨σ2,qEd (x:=false) (by simp only [qAi,pk,qAj,qAe,List.getElem?_cons_succ,List.getElem?_cons_zero,Option.join_some,Option.bind_some,pkR,qAp,Option.map_some,qAo,d180,↓reduceIte,qAh,d5,hq,qAg,eqZ];rfl) (σ':=[some (false,.int c),some (false,scD s),some (false,.int l),some (true,.lst (L.map sD)),some (false,.int (k:Int)),some (false,.int sp),some (false,.int (lw - 10)),some (false,.int (wd+20)),none,none]) ?_ q1,q2⟩
     refine qAn (false,.int (lw - 10)) (by simp only [qAj,pk,qAe,List.getElem?_cons_succ,List.getElem?_cons_zero,Option.join_some,Option.bind_some,pkR,qAp,Option.map_some,qAU]) ?_
     exact qAn (false,.int (wd+20)) (by simp only [qAz,Bool.and_false,List.set_cons_succ,List.set_cons_zero,qAj,pk,qAe,List.getElem?_cons_succ,List.getElem?_cons_zero,Option.join_some,Option.bind_some,pkR,qAp,Option.map_some,qAF]) rfl
    ·obtain⟨σ2,q1,q2⟩:=fin2 lw wd (by omega) (by omega)
     exact⟨σ2,qAa (x:=false) (by simp only [qAi,pk,qAj,qAe,List.getElem?_cons_succ,List.getElem?_cons_zero,Option.join_some,Option.bind_some,pkR,qAp,Option.map_some,qAo,d180,↓reduceIte,qAh,d5,qAg,eqZ,hq];simp) q1,q2⟩
   obtain⟨σ2,q1,q2⟩:=main
   refine⟨_,σ2,rfl,?_,q2⟩
   refine qAn (false,.int sp) (by simp only [List.set_cons_succ,List.set_cons_zero,qAj,pk,qAH,qAe,List.getElem?_cons_succ,List.getElem?_cons_zero,Option.join_some,Option.bind_some,pkR,qAp,Option.map_some,sc2,g1,qAh,d5,↓reduceIte,qAU,sc3,qBd,m1,qAF,hsp]) ?_
   refine qAn (false,.int lw) (by simp only [List.set_cons_succ,List.set_cons_zero,qAz,Bool.and_false,qAj,pk,qAH,qAe,List.getElem?_cons_succ,List.getElem?_cons_zero,Option.join_some,Option.bind_some,pkR,qAp,Option.map_some,sc1,g2,qAo,d5,↓reduceIte,qAh,d9,qAF,qAU,sc4,qBd,m2,hlw]) ?_
   exact qAn (false,.int wd) (by simp only [List.set_cons_succ,List.set_cons_zero,qAz,Bool.and_false,qAj,pk,qAe,List.getElem?_cons_succ,List.getElem?_cons_zero,Option.join_some,Option.bind_some,pkR,qAp,Option.map_some,qAo,d45,↓reduceIte,qAh,d4,hwd]) q1)
 have eL:L.map sD=bx s.m λj=>sD (L.getD j (0,0,0)):=qHj hL (0,0,0) sD
 rw [eL] at h'
 have g0:ixP (.lst (bx s.m λj=>.int (s.pl j))) (.int 0)=some (false,.int (s.pl 0)):=qDe (j:=0) (λj=>.int (s.pl j)) (by have:=ok.m;omega)
 have pre:∀(mr:Nat),qAr call [some (false,.int c),some (false,scD s),some (false,.int l),some (true,.lst (bx s.m λj=>sD (L.getD j (0,0,0)))),o4,o5,o6,o7,some (false,.int (mr:Int)),none] [.set 9 false (.bin .sub (.bin .add (.ix (.ix (.v 1) (.k (.int 1))) (.k (.int 0))) (.bin .mod (.bin .fdiv (.v 2) (.k (.int 131072))) (.k (.int 9)))) (.k (.int 4))),.ret (.tup [(.bin .mod (.bin .fdiv (.v 2) (.k (.int 1179648))) (.bin .add (.bin .pow (.k (.int 10)) (.k (.int 18))) (.k (.int 1)))),(.bi .tuple [(.v 3)]),(.v 8),(.v 9)])]=some (.rt (false,thD s.m ⟨(l.fdiv 1179648).fmod (10^(18:Int).toNat+1),λj=>L.getD j (0,0,0),mr,s.pl 0+(l.fdiv 131072).fmod 9 - 4⟩)):=λmr=>by
  have l4:4<=lim:=qAY (by decide)
  refine qAn (false,.int (s.pl 0+(l.fdiv 131072).fmod 9 - 4)) (by simp only [qAj,pk,qAH,qAe,List.getElem?_cons_succ,List.getElem?_cons_zero,Option.join_some,Option.bind_some,pkR,qAp,Option.map_some,sc1,g0,qAo,d7,↓reduceIte,qAh,d9,qAF,qAU]) ?_
  exact qAf (r:=(false,thD s.m ⟨(l.fdiv 1179648).fmod (10^(18:Int).toNat+1),λj=>L.getD j (0,0,0),mr,s.pl 0+(l.fdiv 131072).fmod 9 - 4⟩)) (by simp only [qA2,qAz,Bool.and_false,List.set_cons_succ,List.set_cons_zero,qAN,qAs,qAj,pk,qAe,List.getElem?_cons_succ,List.getElem?_cons_zero,Option.join_some,Option.bind_some,pkR,qAp,Option.map_some,qAo,d8,↓reduceIte,qA1,p18,qAF,qAh,dQ,qBv,qAu,qAv,qD2,qBT,qAR,qAt,List.length_cons,List.length_nil,Nat.reduceAdd,l4];rfl) rfl
 have start:∀z,qAr call [some (false,.int c),some (false,scD s),some (false,.int l),some (true,.lst (bx s.m λj=>sD (L.getD j (0,0,0)))),o4,o5,o6,o7,some (false,.int (s.mr:Int)),none] [.ite (.cmp .eq (.bin .mod (.v 2) (.k (.int 2))) (.k (.int 1))) [.set 8 false (.bin .bor (.v 8) (.bin .mod (.bin .fdiv (.v 2) (.k (.int 2))) (.k (.int 65536))))] [],.set 9 false (.bin .sub (.bin .add (.ix (.ix (.v 1) (.k (.int 1))) (.k (.int 0))) (.bin .mod (.bin .fdiv (.v 2) (.k (.int 131072))) (.k (.int 9)))) (.k (.int 4))),.ret (.tup [(.bin .mod (.bin .fdiv (.v 2) (.k (.int 1179648))) (.bin .add (.bin .pow (.k (.int 10)) (.k (.int 18))) (.k (.int 1)))),(.bi .tuple [(.v 3)]),(.v 8),(.v 9)])]=z->qAr call [some (false,.int c),some (false,scD s),none,none,none,none,none,none,none,none] f_law_thing_by.body=z:=λz hz=>by
  refine qAn (false,.int (qBW c)) (by simp only [qAl,qAk,ag,qAe,List.getElem?_cons_zero,Option.join_some,Option.bind_some,agR,qAm,C21]) ?_
  refine qAn (true,.lst []) (by simp only [qAz,Bool.and_false,List.set_cons_succ,List.set_cons_zero,qBV,qAt,List.length_nil,qLz,↓reduceIte]) ?_
  refine qCH (ds:=[.int (s.m:Int)]) (by simp only [qAz,Bool.and_false,List.set_cons_succ,List.set_cons_zero,Bool.and_true,qAu,pk,qAH,qAe,List.getElem?_cons_succ,List.getElem?_cons_zero,Option.join_some,Option.bind_some,pkR,qAp,Option.map_some,sc0,qAv]) (qDB (by omega)) h' ?_
  exact qAn (false,.int (s.mr:Int)) (by simp only [qAH,pk,qAe,List.getElem?_cons_succ,List.getElem?_cons_zero,Option.join_some,Option.bind_some,pkR,qAp,Option.map_some,sc5]) hz
 by_cases hq:l.fmod 2=1
 ·have bx6:=qBe (l.fdiv 2) 65536 (by decide)
  generalize hx:(l.fdiv 2).fmod 65536=x at bx6
  have hb:qEL .bor (.int (s.mr:Int)) (.int x)=some (false,.int (((s.mr:Int).toNat ||| x.toNat:Nat):Int)):=by
   rw [qD1,if_pos ⟨by omega,bx6.1⟩]
  exact⟨_,⟨λj=>qIe hB j,Nat.or_lt_two_pow (n:=16) (by have:=ok.mr;omega) (by omega)⟩,start _ (qEd (x:=false) (by simp only [qAi,pk,qAj,qAe,List.getElem?_cons_succ,List.getElem?_cons_zero,Option.join_some,Option.bind_some,pkR,qAp,Option.map_some,qAh,d2,↓reduceIte,hq,qAg,eqZ];rfl) (qAn (false,.int (((s.mr:Int).toNat ||| x.toNat:Nat):Int)) (by simp only [qAj,pk,qAe,List.getElem?_cons_succ,List.getElem?_cons_zero,Option.join_some,Option.bind_some,pkR,qAp,Option.map_some,qAo,d2,↓reduceIte,qAh,d6,hx,hb]) rfl) (pre _))⟩
 ·exact⟨_,⟨λj=>qIe hB j,ok.mr⟩,start _ (qAa (x:=false) (by simp only [qAi,pk,qAj,qAe,List.getElem?_cons_succ,List.getElem?_cons_zero,Option.join_some,Option.bind_some,pkR,qAp,Option.map_some,qAh,d2,↓reduceIte,qAg,eqZ,hq];simp) (pre _))⟩
end
end Dw.T
namespace Dw.T
open Dw
section
variable {call:Nat->List D->Option R}
theorem qID (c:Int) (s:Sc) (ok:ScOk s) (C21:call 30 [.int c]=some (false,.int (qBW c))) (C22:∀l:Int,0<=l->l<prm->call 31 [.int l]=some (false,.int (qBZ l))) :
  ∃f:Nat->P2,(∀j,Bd2 (f j))/\qAr call [some (false,.int c),some (false,scD s),none,none,none,none,none] f_law_box_by.body=some (.rt (false,qAG s.m f)):=by
 have dv:∀b:Int,b=11∨b=5∨b=55∨b=3∨b=165∨b=7∨b=1155->qAW b=true:=λb h=>by rcases h with rfl|rfl|rfl|rfl|rfl|rfl|rfl<;>decide
 have d11:=dv 11 (by decide)
 have d5:=dv 5 (by decide)
 have d55:=dv 55 (by decide)
 have d3:=dv 3 (by decide)
 have d165:=dv 165 (by decide)
 have d7:=dv 7 (by decide)
 have d1155:=dv 1155 (by decide)
 have p28:qCI 10 28=true:=by decide
 have dP:qAW (10^(28:Int).toNat)=true:=by decide
 have mP:qCf 2 (10^(28:Int).toNat)=true:=by decide
 have e28:(10:Int)^(28:Int).toNat=10^28:=rfl
 have hm:s.m<=3:=by have:=ok.m;omega
 have xc:=qBe c (10^(28:Int).toNat) (by decide)
 have b1:=qER c
 have b2:=qDV (qBW c)
 have n1:=C22 _ b1.1 b1.2
 have n2:=C22 _ b2.1 b2.2
 obtain⟨σ',h',L,l,o4,o5,o6,hL,hB,hl,rfl⟩:=qBC (call:=call) (tg:=.one 4) (body:=[.set 5 false (.bin .sub (.bin .add (.ix (.ix (.v 1) (.k (.int 1))) (.v 4)) (.bin .mod (.v 2) (.k (.int 11)))) (.k (.int 5))),.set 6 false (.bin .mod (.bin .fdiv (.v 2) (.k (.int 11))) (.k (.int 5))),.ite (.cmp .eq (.bin .mod (.bin .fdiv (.v 2) (.k (.int 55))) (.k (.int 3))) (.k (.int 1))) [.set 5 false (.bin .sub (.v 5) (.k (.int 30))),.set 6 false (.bin .add (.v 6) (.k (.int 60)))] [],.ite (.cmp .eq (.bin .mod (.bin .fdiv (.v 2) (.k (.int 165))) (.k (.int 7))) (.k (.int 2))) [.set 5 false (.bin .sub (.v 5) (.bin .mod (.v 0) (.bin .pow (.k (.int 10)) (.k (.int 28)))))] [],.ite (.cmp .eq (.bin .mod (.bin .fdiv (.v 2) (.k (.int 1155))) (.k (.int 7))) (.k (.int 4))) [.set 6 false (.bin .add (.v 6) (.bin .mul (.k (.int 2)) (.bin .pow (.k (.int 10)) (.k (.int 28)))))] [],.app 3 (.tup [(.v 5),(.bin .add (.v 5) (.v 6))]),.set 2 false (.call 31 [(.v 2)])])
  (λk σ=>∃(L:List P2) (l:Int) (o4 o5 o6:Option R),L.length=k/\(∀q∈L,Bd2 q)/\(0<=l/\l<prm)/\σ=[some (false,.int c),some (false,scD s),some (false,.int l),some (true,.lst (L.map side)),o4,o5,o6]) s.m (λi=>.int (i:Nat))
  [some (false,.int c),some (false,scD s),some (false,.int (qBZ (qBZ (qBW c)))),some (true,.lst []),none,none,none] ⟨[],_,_,_,_,rfl,(λ_ h=>nomatch h),qDV _,rfl⟩ (by
   rintro k σ hk ⟨L,l,o4,o5,o6,hL,hB,hl,rfl⟩
   have g2:ixP (.lst (bx s.m λj=>.int (s.pl j))) (.int (k:Int))=some (false,.int (s.pl k)):=qDe (λj=>.int (s.pl j)) hk
   have b11:=qBe l 11 (by decide)
   have blw:-(10^29+10)<=s.pl k+l.fmod 11 - 5/\s.pl k+l.fmod 11 - 5<=10^29+10:=by
    have:=ok.pl k
    omega
   generalize hlw:s.pl k+l.fmod 11 - 5=lw at blw
   have bw:=qBe (l.fdiv 11) 5 (by decide)
   generalize hwd:(l.fdiv 11).fmod 5=wd at bw
   have nx:=C22 l hl.1 hl.2
   have fin:∀lw wd:Int,(-(5 * 10^29)<=lw/\lw<=5 * 10^29)->(0<=wd/\wd<=10^30)->∃σ2,qAr call [some (false,.int c),some (false,scD s),some (false,.int l),some (true,.lst (L.map side)),some (false,.int (k:Int)),some (false,.int lw),some (false,.int wd)] [.app 3 (.tup [(.v 5),(.bin .add (.v 5) (.v 6))]),.set 2 false (.call 31 [(.v 2)])]=some (.nx σ2) /\
     ∃(L:List P2) (l:Int) (o4 o5 o6:Option R),L.length=k+1/\(∀q∈L,Bd2 q)/\(0<=l/\l<prm)/\σ2=[some (false,.int c),some (false,scD s),some (false,.int l),some (true,.lst (L.map side)),o4,o5,o6]:=λlw wd h1 h2=>by
    refine⟨_,?_,L++[(lw,lw+wd)],qBZ l,some (false,.int (k:Int)),some (false,.int lw),some (false,.int wd),by simp [hL],λq hq=>?_,qDV l,rfl⟩
    ·rw [List.map_append]
     refine qCZ (false,side (lw,lw+wd)) (by simp only [qAN,qAs,qBT,qAR,qAe,List.getElem?_cons_succ,List.getElem?_cons_zero,Option.join_some,qAj,pk,Option.bind_some,pkR,qAF,qAt,List.length_cons,List.length_nil,Nat.reduceAdd,qNI,↓reduceIte];rfl) rfl (qC7 (by simp;omega)) ?_
     exact qAn (false,.int (qBZ l)) (by simp only [List.set_cons_succ,List.set_cons_zero,qAl,qAk,ag,qAe,List.getElem?_cons_succ,List.getElem?_cons_zero,Option.join_some,Option.bind_some,agR,qAm,nx]) rfl
    ·rcases List.mem_append.mp hq with hq|hq
     ·exact hB q hq
     ·obtain rfl:=List.mem_singleton.mp hq
      show (-(10^31)<=lw/\lw<=10^31)/\(-(10^31)<=lw+wd/\lw+wd<=10^31)
      omega
   have fin3:∀lw wd:Int,(-(5 * 10^29)<=lw/\lw<=5 * 10^29)->(0<=wd/\wd<=100)->∃σ2,qAr call [some (false,.int c),some (false,scD s),some (false,.int l),some (true,.lst (L.map side)),some (false,.int (k:Int)),some (false,.int lw),some (false,.int wd)] [.ite (.cmp .eq (.bin .mod (.bin .fdiv (.v 2) (.k (.int 1155))) (.k (.int 7))) (.k (.int 4))) [.set 6 false (.bin .add (.v 6) (.bin .mul (.k (.int 2)) (.bin .pow (.k (.int 10)) (.k (.int 28)))))] [],.app 3 (.tup [(.v 5),(.bin .add (.v 5) (.v 6))]),.set 2 false (.call 31 [(.v 2)])]=some (.nx σ2) /\
     ∃(L:List P2) (l:Int) (o4 o5 o6:Option R),L.length=k+1/\(∀q∈L,Bd2 q)/\(0<=l/\l<prm)/\σ2=[some (false,.int c),some (false,scD s),some (false,.int l),some (true,.lst (L.map side)),o4,o5,o6]:=λlw wd h1 h2=>by
    by_cases hq:(l.fdiv 1155).fmod 7=4
    ·obtain⟨σ2,q1,q2⟩:=fin lw (wd+2 * 10^(28:Int).toNat) h1 (by rw [e28];omega)
     exact⟨σ2,qEd (x:=false) (by simp only [qAi,pk,qAj,qAe,List.getElem?_cons_succ,List.getElem?_cons_zero,Option.join_some,Option.bind_some,pkR,qAp,Option.map_some,qAo,d1155,↓reduceIte,qAh,d7,hq,qAg,eqZ];rfl) (qAn (false,.int (wd+2 * 10^(28:Int).toNat)) (by simp only [qAj,pk,qAe,List.getElem?_cons_succ,List.getElem?_cons_zero,Option.join_some,Option.bind_some,pkR,qAp,Option.map_some,qA1,p28,↓reduceIte,qBd,mP,qAF]) rfl) q1,q2⟩
    ·obtain⟨σ2,q1,q2⟩:=fin lw wd h1 (by omega)
     exact⟨σ2,qAa (x:=false) (by simp only [qAi,pk,qAj,qAe,List.getElem?_cons_succ,List.getElem?_cons_zero,Option.join_some,Option.bind_some,pkR,qAp,Option.map_some,qAo,d1155,↓reduceIte,qAh,d7,qAg,eqZ,hq];simp) q1,q2⟩
   have fin2:∀lw wd:Int,(-(3 * 10^29)<=lw/\lw<=3 * 10^29)->(0<=wd/\wd<=100)->∃σ2,qAr call [some (false,.int c),some (false,scD s),some (false,.int l),some (true,.lst (L.map side)),some (false,.int (k:Int)),some (false,.int lw),some (false,.int wd)] [.ite (.cmp .eq (.bin .mod (.bin .fdiv (.v 2) (.k (.int 165))) (.k (.int 7))) (.k (.int 2))) [.set 5 false (.bin .sub (.v 5) (.bin .mod (.v 0) (.bin .pow (.k (.int 10)) (.k (.int 28)))))] [],.ite (.cmp .eq (.bin .mod (.bin .fdiv (.v 2) (.k (.int 1155))) (.k (.int 7))) (.k (.int 4))) [.set 6 false (.bin .add (.v 6) (.bin .mul (.k (.int 2)) (.bin .pow (.k (.int 10)) (.k (.int 28)))))] [],.app 3 (.tup [(.v 5),(.bin .add (.v 5) (.v 6))]),.set 2 false (.call 31 [(.v 2)])]=some (.nx σ2) /\
     ∃(L:List P2) (l:Int) (o4 o5 o6:Option R),L.length=k+1/\(∀q∈L,Bd2 q)/\(0<=l/\l<prm)/\σ2=[some (false,.int c),some (false,scD s),some (false,.int l),some (true,.lst (L.map side)),o4,o5,o6]:=λlw wd h1 h2=>by
    by_cases hq:(l.fdiv 165).fmod 7=2
    ·generalize hy:c.fmod (10^(28:Int).toNat)=y at *
     rw [e28] at xc
     obtain⟨σ2,q1,q2⟩:=fin3 (lw - y) wd (by omega) h2
     exact⟨σ2,qEd (x:=false) (by simp only [qAi,pk,qAj,qAe,List.getElem?_cons_succ,List.getElem?_cons_zero,Option.join_some,Option.bind_some,pkR,qAp,Option.map_some,qAo,d165,↓reduceIte,qAh,d7,hq,qAg,eqZ];rfl) (qAn (false,.int (lw - y)) (by simp only [qAj,pk,qAe,List.getElem?_cons_succ,List.getElem?_cons_zero,Option.join_some,Option.bind_some,pkR,qAp,Option.map_some,qA1,p28,↓reduceIte,qAh,dP,hy,qAU]) rfl) q1,q2⟩
    ·obtain⟨σ2,q1,q2⟩:=fin3 lw wd (by omega) h2
     exact⟨σ2,qAa (x:=false) (by simp only [qAi,pk,qAj,qAe,List.getElem?_cons_succ,List.getElem?_cons_zero,Option.join_some,Option.bind_some,pkR,qAp,Option.map_some,qAo,d165,↓reduceIte,qAh,d7,qAg,eqZ,hq];simp) q1,q2⟩
   have main:∃σ2,qAr call [some (false,.int c),some (false,scD s),some (false,.int l),some (true,.lst (L.map side)),some (false,.int (k:Int)),some (false,.int lw),some (false,.int wd)] [.ite (.cmp .eq (.bin .mod (.bin .fdiv (.v 2) (.k (.int 55))) (.k (.int 3))) (.k (.int 1))) [.set 5 false (.bin .sub (.v 5) (.k (.int 30))),.set 6 false (.bin .add (.v 6) (.k (.int 60)))] [],.ite (.cmp .eq (.bin .mod (.bin .fdiv (.v 2) (.k (.int 165))) (.k (.int 7))) (.k (.int 2))) [.set 5 false (.bin .sub (.v 5) (.bin .mod (.v 0) (.bin .pow (.k (.int 10)) (.k (.int 28)))))] [],.ite (.cmp .eq (.bin .mod (.bin .fdiv (.v 2) (.k (.int 1155))) (.k (.int 7))) (.k (.int 4))) [.set 6 false (.bin .add (.v 6) (.bin .mul (.k (.int 2)) (.bin .pow (.k (.int 10)) (.k (.int 28)))))] [],.app 3 (.tup [(.v 5),(.bin .add (.v 5) (.v 6))]),.set 2 false (.call 31 [(.v 2)])]=some (.nx σ2) /\
     ∃(L:List P2) (l:Int) (o4 o5 o6:Option R),L.length=k+1/\(∀q∈L,Bd2 q)/\(0<=l/\l<prm)/\σ2=[some (false,.int c),some (false,scD s),some (false,.int l),some (true,.lst (L.map side)),o4,o5,o6]:=by
    by_cases hq:(l.fdiv 55).fmod 3=1
    ·obtain⟨σ2,q1,q2⟩:=fin2 (lw - 30) (wd+60) (by omega) (by omega)
     refine⟨σ2,qEd (x:=false) (by simp only [qAi,pk,qAj,qAe,List.getElem?_cons_succ,List.getElem?_cons_zero,Option.join_some,Option.bind_some,pkR,qAp,Option.map_some,qAo,d55,↓reduceIte,qAh,d3,hq,qAg,eqZ];rfl) (σ':=[some (false,.int c),some (false,scD s),some (false,.int l),some (true,.lst (L.map side)),some (false,.int (k:Int)),some (false,.int (lw - 30)),some (false,.int (wd+60))]) ?_ q1,q2⟩
     refine qAn (false,.int (lw - 30)) (by simp only [qAj,pk,qAe,List.getElem?_cons_succ,List.getElem?_cons_zero,Option.join_some,Option.bind_some,pkR,qAp,Option.map_some,qAU]) ?_
     exact qAn (false,.int (wd+60)) (by simp only [qAz,Bool.and_false,List.set_cons_succ,List.set_cons_zero,qAj,pk,qAe,List.getElem?_cons_succ,List.getElem?_cons_zero,Option.join_some,Option.bind_some,pkR,qAp,Option.map_some,qAF]) rfl
    ·obtain⟨σ2,q1,q2⟩:=fin2 lw wd (by omega) (by omega)
     exact⟨σ2,qAa (x:=false) (by simp only [qAi,pk,qAj,qAe,List.getElem?_cons_succ,List.getElem?_cons_zero,Option.join_some,Option.bind_some,pkR,qAp,Option.map_some,qAo,d55,↓reduceIte,qAh,d3,qAg,eqZ,hq];simp) q1,q2⟩
   obtain⟨σ2,q1,q2⟩:=main
   refine⟨_,σ2,rfl,?_,q2⟩
   refine qAn (false,.int lw) (by simp only [List.set_cons_succ,List.set_cons_zero,qAj,pk,qAH,qAe,List.getElem?_cons_succ,List.getElem?_cons_zero,Option.join_some,Option.bind_some,pkR,qAp,Option.map_some,sc1,g2,qAh,d11,↓reduceIte,qAF,qAU,hlw]) ?_
   exact qAn (false,.int wd) (by simp only [List.set_cons_succ,List.set_cons_zero,qAz,Bool.and_false,qAj,pk,qAe,List.getElem?_cons_succ,List.getElem?_cons_zero,Option.join_some,Option.bind_some,pkR,qAp,Option.map_some,qAo,d11,↓reduceIte,qAh,d5,hwd]) q1)
 have eL:L.map side=bx s.m λj=>side (L.getD j (0,0)):=qHj hL (0,0) side
 rw [eL] at h'
 refine⟨λj=>L.getD j (0,0),λj=>qLZ hB j,?_⟩
 refine qAn (false,.int (qBZ (qBZ (qBW c)))) (by simp only [qAl,qAk,ag,qAe,List.getElem?_cons_zero,Option.join_some,Option.bind_some,agR,qAm,C21,Option.map_some,n1,n2]) ?_
 refine qAn (true,.lst []) (by simp only [qAz,Bool.and_false,List.set_cons_succ,List.set_cons_zero,qBV,qAt,List.length_nil,qLz,↓reduceIte]) ?_
 refine qCH (ds:=[.int (s.m:Int)]) (by simp only [qAz,Bool.and_false,List.set_cons_succ,List.set_cons_zero,Bool.and_true,qAu,pk,qAH,qAe,List.getElem?_cons_succ,List.getElem?_cons_zero,Option.join_some,Option.bind_some,pkR,qAp,Option.map_some,sc0,qAv]) (qDB (by omega)) h' ?_
 exact qAf (r:=(false,qAG s.m λj=>L.getD j (0,0))) (by simp only [qA2,qBv,qAu,pk,qAe,List.getElem?_cons_succ,List.getElem?_cons_zero,Option.join_some,Option.bind_some,pkR,qAv,qD2];rfl) rfl
theorem qF8 (l:Int):∃k:Nat,qAr call [some (false,.int l)] f_law_marks_by.body=some (.rt (false,.int (k:Int))):=by
 have d5:qAW 5=true:=by decide
 have d6:qAW 65536=true:=by decide
 have d16:qAW 16=true:=by decide
 have d80:qAW 80=true:=by decide
 by_cases h0:l.fmod 5=0
 ·have b:=qBe (l.fdiv 5) 65536 (by decide)
  refine⟨((l.fdiv 5).fmod 65536).toNat,?_⟩
  rw [Int.toNat_of_nonneg b.1]
  exact qA0 (x:=false) (r:=(false,.int ((l.fdiv 5).fmod 65536))) (by simp only [qAi,pk,qAj,qAe,List.getElem?_cons_zero,Option.join_some,Option.bind_some,pkR,qAp,Option.map_some,qAh,d5,↓reduceIte,h0,qAg,eqZ];rfl) (qAf (r:=(false,.int ((l.fdiv 5).fmod 65536))) (by simp only [qA2,qAj,pk,qAe,List.getElem?_cons_zero,Option.join_some,Option.bind_some,pkR,qAp,Option.map_some,qAo,d5,↓reduceIte,qAh,d6]) rfl) rfl
 ·by_cases h1:l.fmod 5=1
  ·refine⟨0,?_⟩
   refine qAa (x:=false) (by simp only [qAi,pk,qAj,qAe,List.getElem?_cons_zero,Option.join_some,Option.bind_some,pkR,qAp,Option.map_some,qAh,d5,↓reduceIte,qAg,eqZ,h0];simp) ?_
   exact qA0 (x:=false) (r:=(false,.int 0)) (by simp only [qAi,pk,qAj,qAe,List.getElem?_cons_zero,Option.join_some,Option.bind_some,pkR,qAp,Option.map_some,qAh,d5,↓reduceIte,h1,qAg,eqZ];rfl) (qAf (r:=(false,.int 0)) (by simp only [qA2,qAp]) rfl) rfl
  ·have ba:=qBe (l.fdiv 5) 16 (by decide)
   have bb:=qBe (l.fdiv 80) 16 (by decide)
   generalize hx:(l.fdiv 5).fmod 16=x at ba
   generalize hy:(l.fdiv 80).fmod 16=y at bb
   have s1:qIN 1 x=true:=decide_eq_true ⟨by omega,by omega,by decide⟩
   have s2:qIN 1 y=true:=decide_eq_true ⟨by omega,by omega,by decide⟩
   have px:(0:Int)<=1 * 2^x.toNat:=by rw [Int.one_mul];exact Int.pow_nonneg (by decide)
   have py:(0:Int)<=1 * 2^y.toNat:=by rw [Int.one_mul];exact Int.pow_nonneg (by decide)
   refine⟨((1 * 2^x.toNat:Int).toNat ||| (1 * 2^y.toNat:Int).toNat:Nat),?_⟩
   refine qAa (x:=false) (by simp only [qAi,pk,qAj,qAe,List.getElem?_cons_zero,Option.join_some,Option.bind_some,pkR,qAp,Option.map_some,qAh,d5,↓reduceIte,qAg,eqZ,h0];simp) ?_
   refine qAa (x:=false) (by simp only [qAi,pk,qAj,qAe,List.getElem?_cons_zero,Option.join_some,Option.bind_some,pkR,qAp,Option.map_some,qAh,d5,↓reduceIte,qAg,eqZ,h1];simp) ?_
   have hb:qEL .bor (.int (1 * 2^x.toNat)) (.int (1 * 2^y.toNat))=some (false,.int (((1 * 2^x.toNat:Int).toNat ||| (1 * 2^y.toNat:Int).toNat:Nat):Int)):=by
    rw [qD1,if_pos ⟨px,py⟩]
   exact qAf (r:=(false,.int (((1 * 2^x.toNat:Int).toNat ||| (1 * 2^y.toNat:Int).toNat:Nat):Int))) (by simp only [qA2,qAj,pk,qAp,Option.map_some,qAe,List.getElem?_cons_zero,Option.join_some,Option.bind_some,pkR,qAo,d5,↓reduceIte,qAh,d16,hx,qJt,s1,d80,hy,s2,hb]) rfl
theorem qIC (l bt:Int) (hb:0<=bt/\bt<=10^15):∃a b:Int,(0<=a/\a<=10^15)/\(0<=b/\b<=10^15)/\qAr call [some (false,.int l),some (false,.int bt),none] f_law_window.body=some (.rt (false,side (a,b))):=by
 have d7:qAW 7=true:=by decide
 have d9:qAW 9=true:=by decide
 have p15:qCI 10 15=true:=by decide
 have e15:(10:Int)^(15:Int).toNat=10^15:=rfl
 have l2:2<=lim:=qAY (by decide)
 refine⟨min (10^(15:Int).toNat) (max 0 (bt+l.fmod 7 - 3)),min (10^(15:Int).toNat) (max 0 (min (10^(15:Int).toNat) (max 0 (bt+l.fmod 7 - 3))+(l.fdiv 7).fmod 9 - 2)),?_,?_,?_⟩
 ·rw [e15];omega
 ·rw [e15];omega
 ·refine qAn (false,.int (min (10^(15:Int).toNat) (max 0 (bt+l.fmod 7 - 3)))) (by simp only [qBv,qAu,pk,qAj,qAp,Option.map_some,qA1,p15,↓reduceIte,qAe,List.getElem?_cons_succ,List.getElem?_cons_zero,Option.join_some,Option.bind_some,pkR,qAh,d7,qAF,qAU,qAv,qFg,qFf]) ?_
  exact qAf (r:=(false,side (_,_))) (by simp only [qA2,qAz,Bool.and_false,List.set_cons_succ,List.set_cons_zero,qAN,qAs,qBT,qAR,qAe,List.getElem?_cons_succ,List.getElem?_cons_zero,Option.join_some,qBv,qAu,pk,qAj,qAp,Option.map_some,qA1,p15,↓reduceIte,Option.bind_some,pkR,qAo,d7,qAh,d9,qAF,qAU,qAv,qFg,qFf,qAt,List.length_cons,List.length_nil,Nat.reduceAdd,l2];rfl) rfl
end
end Dw.T
namespace Dw.T
open Dw
inductive At where
 | any|meets (f:Nat->P2)|inside (f:Nat->P2)|holds (f:Nat->P2)|near (f:Nat->P2) (r:Int)|marked (k:Nat)|touched (k:Nat)|crosses (f:Nat->P2) (a b:Int)|worthy (w:Int)
noncomputable def tx (x:String):D:=.str (PySem.Str.ofString x)
noncomputable def atD (m:Nat):At->D
 | .any=>.tup [tx "anything"]
 | .meets f=>.tup [tx "meets",qAG m f]
 | .inside f=>.tup [tx "inside",qAG m f]
 | .holds f=>.tup [tx "holds",qAG m f]
 | .near f r=>.tup [tx "near",qAG m f,.int r]
 | .marked k=>.tup [tx "marked",.int (k:Int)]
 | .touched k=>.tup [tx "touched",.int (k:Int)]
 | .crosses f a b=>.tup [tx "crosses",qAG m f,.int a,.int b]
 | .worthy w=>.tup [tx "worthy",.int w]
noncomputable def BdA (q:P2):Prop:=(-(10^32)<=q.1/\q.1<=10^32)/\(-(10^32)<=q.2/\q.2<=10^32)
theorem Bd2.a {q:P2}(h:Bd2 q):BdA q:=by unfold Bd2 at h;unfold BdA;omega
noncomputable def qGq:At->Prop
 | .any=>True
 | .meets f=>∀j,BdA (f j)
 | .inside f=>∀j,BdA (f j)
 | .holds f=>∀j,BdA (f j)
 | .near f _=>∀j,BdA (f j)
 | .marked _=>True
 | .touched _=>True
 | .crosses f a b=>(∀j,BdA (f j))/\(0<=a/\a<=10^15)/\(0<=b/\b<=10^15)
 | .worthy _=>True
noncomputable def kn (c:Nat) (l:List String):Kn:=⟨c,l.map PySem.Str.ofString⟩
noncomputable def waO (m:Nat):At->Kn×List D
 | .any=>(⟨273,[]⟩,[])
 | .meets f=>(⟨313,[PySem.Str.ofString "box"]⟩,[qAG m f])
 | .inside f=>(⟨353,[PySem.Str.ofString "box"]⟩,[qAG m f])
 | .holds f=>(⟨393,[PySem.Str.ofString "box"]⟩,[qAG m f])
 | .near f r=>(⟨433,[PySem.Str.ofString "box",PySem.Str.ofString "far"]⟩,[qAG m f,.int r])
 | .marked k=>(⟨473,[PySem.Str.ofString "marks"]⟩,[.int (k:Int)])
 | .touched k=>(⟨513,[PySem.Str.ofString "marks"]⟩,[.int (k:Int)])
 | .crosses f a b=>(⟨553,[PySem.Str.ofString "box",PySem.Str.ofString "first",PySem.Str.ofString "last"]⟩,[qAG m f,.int a,.int b])
 | .worthy w=>(⟨593,[PySem.Str.ofString "least"]⟩,[.int w])
section
variable {call:Nat->List D->Option R}
theorem qMm (m:Nat) (a:At):qAr call [some (false,atD m a)] f_law_want.body=some (.rt (false,.obj (waO m a).1 (waO m a).2)):=by
 cases a with
 | any =>
  refine qAa (x:=false) rfl (qAa (x:=false) rfl (qAa (x:=false) rfl (qAa (x:=false) rfl (qAa (x:=false) rfl (qAa (x:=false) rfl (qAa (x:=false) rfl (qAa (x:=false) rfl ?_)))))))
  exact qAf (r:=(false,.obj _ [])) rfl rfl
 | meets f=>exact qA0 (x:=false) rfl (qAf (r:=(false,.obj _ [qAG m f])) rfl rfl) rfl
 | inside f =>
  refine qAa (x:=false) rfl ?_
  exact qA0 (x:=false) rfl (qAf (r:=(false,.obj _ [qAG m f])) rfl rfl) rfl
 | holds f =>
  refine qAa (x:=false) rfl (qAa (x:=false) rfl ?_)
  exact qA0 (x:=false) rfl (qAf (r:=(false,.obj _ [qAG m f])) rfl rfl) rfl
 | near f r =>
  refine qAa (x:=false) rfl (qAa (x:=false) rfl (qAa (x:=false) rfl ?_))
  exact qA0 (x:=false) rfl (qAf (r:=(false,.obj _ [qAG m f,.int r])) rfl rfl) rfl
 | marked k =>
  refine qAa (x:=false) rfl (qAa (x:=false) rfl (qAa (x:=false) rfl (qAa (x:=false) rfl ?_)))
  exact qA0 (x:=false) rfl (qAf (r:=(false,.obj _ [.int (k:Int)])) rfl rfl) rfl
 | touched k =>
  refine qAa (x:=false) rfl (qAa (x:=false) rfl (qAa (x:=false) rfl (qAa (x:=false) rfl (qAa (x:=false) rfl ?_))))
  exact qA0 (x:=false) rfl (qAf (r:=(false,.obj _ [.int (k:Int)])) rfl rfl) rfl
 | crosses f a b =>
  refine qAa (x:=false) rfl (qAa (x:=false) rfl (qAa (x:=false) rfl (qAa (x:=false) rfl (qAa (x:=false) rfl (qAa (x:=false) rfl ?_)))))
  exact qA0 (x:=false) rfl (qAf (r:=(false,.obj _ [qAG m f,.int a,.int b])) rfl rfl) rfl
 | worthy w =>
  refine qAa (x:=false) rfl (qAa (x:=false) rfl (qAa (x:=false) rfl (qAa (x:=false) rfl (qAa (x:=false) rfl (qAa (x:=false) rfl (qAa (x:=false) rfl ?_))))))
  exact qA0 (x:=false) rfl (qAf (r:=(false,.obj _ [.int w])) rfl rfl) rfl
theorem qMv (c:Int) (s:Sc) (ok:ScOk s) (C21:call 30 [.int c]=some (false,.int (qBW c))) (C22:∀l:Int,0<=l->l<prm->call 31 [.int l]=some (false,.int (qBZ l)))
  (C25:∃f:Nat->P2,(∀j,Bd2 (f j))/\call 34 [.int c,scD s]=some (false,qAG s.m f)) (C26:∀l:Int,∃k:Nat,call 35 [.int l]=some (false,.int (k:Int)))
  (C27:∀l bt:Int,(0<=bt/\bt<=10^15)->∃a b:Int,(0<=a/\a<=10^15)/\(0<=b/\b<=10^15)/\call 36 [.int l,.int bt]=some (false,side (a,b))) :
  ∃a:At,qGq a/\qAr call [some (false,.int c),some (false,scD s),none,none,none,none,none] f_law_atom_by.body=some (.rt (false,atD s.m a)):=by
 obtain⟨f,hf,C25⟩:=C25
 have b1:=qER c
 have n1:=C22 _ b1.1 b1.2
 have d9:qAW 9=true:=by decide
 have d3:qAW 3=true:=by decide
 have d60:qAW 60=true:=by decide
 have d11:qAW 11=true:=by decide
 have p62:qCI 10 62=true:=by decide
 have dP:qAW (10^(62:Int).toNat+1)=true:=by decide
 have l2:2<=lim:=qAY (by decide)
 have l1:1<=lim:=qAY (by decide)
 have l3:3<=lim:=qAY (by decide)
 have l4:4<=lim:=qAY (by decide)
 generalize hl0:qBZ (qBW c)=l0 at n1
 have bw:=qBe l0 9 (by decide)
 generalize hw:l0.fmod 9=w at bw
 generalize hl:l0.fdiv 9=l
 obtain⟨a,ha,ea⟩:∃a:At,qGq a/\qAr call [some (false,.int c),some (false,scD s),some (false,.int l),some (false,qAG s.m f),some (false,.int w),none,none] [.ite (.cmp .eq (.v 4) (.k (.int 0))) [.ret (.tup [(.k (.str (PySem.Str.ofString "anything")))])] [],.ite (.cmp .eq (.v 4) (.k (.int 1))) [.ret (.tup [(.k (.str (PySem.Str.ofString "meets"))),(.v 3)])] [],.ite (.cmp .eq (.v 4) (.k (.int 2))) [.ret (.tup [(.k (.str (PySem.Str.ofString "inside"))),(.v 3)])] [],.ite (.cmp .eq (.v 4) (.k (.int 3))) [.ret (.tup [(.k (.str (PySem.Str.ofString "holds"))),(.bi .tuple [(.compS (.tup [(.ix (.v 0) (.k (.int 0))),(.bin .add (.ix (.v 0) (.k (.int 0))) (.bin .mod (.v 1) (.k (.int 3))))]) 1 [2] (.one 0) (.v 3))])])] [],.ite (.cmp .eq (.v 4) (.k (.int 4))) [.set 5 false (.bin .mod (.bin .fdiv (.v 2) (.k (.int 3))) (.k (.int 60))),.ite (.cmp .eq (.bin .mod (.v 2) (.k (.int 3))) (.k (.int 1))) [.set 5 false (.bin .pow (.bin .mod (.bin .fdiv (.v 2) (.k (.int 3))) (.k (.int 9))) (.k (.int 2)))] [],.ite (.cmp .eq (.bin .mod (.v 2) (.k (.int 3))) (.k (.int 2))) [.set 5 false (.bin .mod (.v 0) (.bin .add (.bin .pow (.k (.int 10)) (.k (.int 62))) (.k (.int 1))))] [],.ret (.tup [(.k (.str (PySem.Str.ofString "near"))),(.v 3),(.v 5)])] [],.ite (.cmp .eq (.v 4) (.k (.int 5))) [.ret (.tup [(.k (.str (PySem.Str.ofString "marked"))),(.call 35 [(.v 2)])])] [],.ite (.cmp .eq (.v 4) (.k (.int 6))) [.ret (.tup [(.k (.str (PySem.Str.ofString "touched"))),(.call 35 [(.v 2)])])] [],.ite (.cmp .eq (.v 4) (.k (.int 7))) [.set 6 false (.call 36 [(.v 2),(.ix (.v 1) (.k (.int 4)))]),.ret (.tup [(.k (.str (PySem.Str.ofString "crosses"))),(.v 3),(.ix (.v 6) (.k (.int 0))),(.ix (.v 6) (.k (.int 1)))])] [],.ret (.tup [(.k (.str (PySem.Str.ofString "worthy"))),(.bin .sub (.bin .add (.ix (.ix (.v 1) (.k (.int 1))) (.k (.int 0))) (.bin .mod (.v 2) (.k (.int 11)))) (.k (.int 5)))])]=some (.rt (false,atD s.m a)):=by
  by_cases w0:w=0
  ·exact⟨.any,trivial,qA0 (x:=false) (r:=(false,atD s.m .any)) (by simp only [w0,qAi,pk,qAe,List.getElem?_cons_succ,List.getElem?_cons_zero,Option.join_some,Option.bind_some,pkR,qAp,Option.map_some,qAg,eqZ];rfl) (qAf (r:=(false,atD s.m .any)) (by simp only [qA2,qAN,qAs,qAp,qAt,List.length_cons,List.length_nil,Nat.reduceAdd,l1,↓reduceIte];rfl) rfl) rfl⟩
  by_cases w1:w=1
  ·refine⟨.meets f,λj=>(hf j).a,?_⟩
   refine qAa (x:=false) (by simp only [qAi,pk,qAe,List.getElem?_cons_succ,List.getElem?_cons_zero,Option.join_some,Option.bind_some,pkR,qAp,Option.map_some,qAg,eqZ,w0];simp) ?_
   exact qA0 (x:=false) (r:=(false,atD s.m (.meets f))) (by simp only [w1,qAi,pk,qAe,List.getElem?_cons_succ,List.getElem?_cons_zero,Option.join_some,Option.bind_some,pkR,qAp,Option.map_some,qAg,eqZ];rfl) (qAf (r:=(false,atD s.m (.meets f))) (by simp only [qA2,qAN,qAs,qAp,qBT,qAR,qAe,List.getElem?_cons_succ,List.getElem?_cons_zero,Option.join_some,qAt,List.length_cons,List.length_nil,Nat.reduceAdd,l2,↓reduceIte];rfl) rfl) rfl
  by_cases w2:w=2
  ·refine⟨.inside f,λj=>(hf j).a,?_⟩
   refine qAa (x:=false) (by simp only [qAi,pk,qAe,List.getElem?_cons_succ,List.getElem?_cons_zero,Option.join_some,Option.bind_some,pkR,qAp,Option.map_some,qAg,eqZ,w0];simp) ?_
   refine qAa (x:=false) (by simp only [qAi,pk,qAe,List.getElem?_cons_succ,List.getElem?_cons_zero,Option.join_some,Option.bind_some,pkR,qAp,Option.map_some,qAg,eqZ,w1];simp) ?_
   exact qA0 (x:=false) (r:=(false,atD s.m (.inside f))) (by simp only [w2,qAi,pk,qAe,List.getElem?_cons_succ,List.getElem?_cons_zero,Option.join_some,Option.bind_some,pkR,qAp,Option.map_some,qAg,eqZ];rfl) (qAf (r:=(false,atD s.m (.inside f))) (by simp only [qA2,qAN,qAs,qAp,qBT,qAR,qAe,List.getElem?_cons_succ,List.getElem?_cons_zero,Option.join_some,qAt,List.length_cons,List.length_nil,Nat.reduceAdd,l2,↓reduceIte];rfl) rfl) rfl
  by_cases w3:w=3
  ·have b3:=qBe l 3 (by decide)
   refine⟨.holds λj=>((f j).1,(f j).1+l.fmod 3),λj=>?_,?_⟩
   ·have:=hf j
    unfold Bd2 at this
    show (-(10^32)<=(f j).1/\(f j).1<=10^32)/\(-(10^32)<=(f j).1+l.fmod 3/\(f j).1+l.fmod 3<=10^32)
    omega
   refine qAa (x:=false) (by simp only [qAi,pk,qAe,List.getElem?_cons_succ,List.getElem?_cons_zero,Option.join_some,Option.bind_some,pkR,qAp,Option.map_some,qAg,eqZ,w0];simp) ?_
   refine qAa (x:=false) (by simp only [qAi,pk,qAe,List.getElem?_cons_succ,List.getElem?_cons_zero,Option.join_some,Option.bind_some,pkR,qAp,Option.map_some,qAg,eqZ,w1];simp) ?_
   refine qAa (x:=false) (by simp only [qAi,pk,qAe,List.getElem?_cons_succ,List.getElem?_cons_zero,Option.join_some,Option.bind_some,pkR,qAp,Option.map_some,qAg,eqZ,w2];simp) ?_
   have hc:=qBO (call:=call) (σ:=[some (false,.int c),some (false,scD s),some (false,.int l),some (false,qAG s.m f),some (false,.int w),none,none]) (e:=(.tup [(.ix (.v 0) (.k (.int 0))),(.bin .add (.ix (.v 0) (.k (.int 0))) (.bin .mod (.v 1) (.k (.int 3))))])) (nl:=1) (ks:=[2]) (tg:=.one 0) (src:=.v 3) (r:=(false,qAG s.m f)) rfl (qCv s.m f) rfl
    (qCF (λj=>side (f j)) (λj=>side ((f j).1,(f j).1+l.fmod 3)) λj hj=>⟨false,by simp only [List.replicate_zero,qAe,List.map_cons,List.getElem?_cons_succ,List.getElem?_cons_zero,Option.join_some,List.map_nil,qAN,qAs,qAH,pk,Option.bind_some,pkR,qAp,Option.map_some,qBS,qAj,qAt];rfl⟩)
   have hb:evE call [some (false,.int c),some (false,scD s),some (false,.int l),some (false,qAG s.m f),some (false,.int w),none,none] (.bi .tuple [(.compS (.tup [(.ix (.v 0) (.k (.int 0))),(.bin .add (.ix (.v 0) (.k (.int 0))) (.bin .mod (.v 1) (.k (.int 3))))]) 1 [2] (.one 0) (.v 3))])=some (false,qAG s.m λj=>((f j).1,(f j).1+l.fmod 3)):=qDx (qDQ hc) rfl
   refine qA0 (x:=false) (r:=(false,atD s.m (.holds λj=>((f j).1,(f j).1+l.fmod 3)))) (by simp only [w3,qAi,pk,qAe,List.getElem?_cons_succ,List.getElem?_cons_zero,Option.join_some,Option.bind_some,pkR,qAp,Option.map_some,qAg,eqZ];rfl) (qAf (r:=(false,atD s.m (.holds λj=>((f j).1,(f j).1+l.fmod 3)))) ?_ rfl) rfl
   show evE call _ (.tup [_,_])=_
   rw [qAN,qAs,qAp,qAs,hb]
   simp only [qAt,List.length_cons,List.length_nil,Nat.reduceAdd,l2,↓reduceIte]
   rfl
  by_cases w4:w=4
  ·have key:∀r:Int,qAr call [some (false,.int c),some (false,scD s),some (false,.int l),some (false,qAG s.m f),some (false,.int w),some (false,.int r),none] [.ret (.tup [(.k (.str (PySem.Str.ofString "near"))),(.v 3),(.v 5)])]=some (.rt (false,atD s.m (.near f r))):=λr=>qAf (r:=(false,atD s.m (.near f r))) (by simp only [qA2,qAN,qAs,qAp,qBT,qAR,qAe,List.getElem?_cons_succ,List.getElem?_cons_zero,Option.join_some,qAt,List.length_cons,List.length_nil,Nat.reduceAdd,l3,↓reduceIte];rfl) rfl
   have pre:∀z,qAr call [some (false,.int c),some (false,scD s),some (false,.int l),some (false,qAG s.m f),some (false,.int w),none,none] [.set 5 false (.bin .mod (.bin .fdiv (.v 2) (.k (.int 3))) (.k (.int 60))),.ite (.cmp .eq (.bin .mod (.v 2) (.k (.int 3))) (.k (.int 1))) [.set 5 false (.bin .pow (.bin .mod (.bin .fdiv (.v 2) (.k (.int 3))) (.k (.int 9))) (.k (.int 2)))] [],.ite (.cmp .eq (.bin .mod (.v 2) (.k (.int 3))) (.k (.int 2))) [.set 5 false (.bin .mod (.v 0) (.bin .add (.bin .pow (.k (.int 10)) (.k (.int 62))) (.k (.int 1))))] [],.ret (.tup [(.k (.str (PySem.Str.ofString "near"))),(.v 3),(.v 5)])]=some (.rt z)->qAr call [some (false,.int c),some (false,scD s),some (false,.int l),some (false,qAG s.m f),some (false,.int w),none,none] [.ite (.cmp .eq (.v 4) (.k (.int 0))) [.ret (.tup [(.k (.str (PySem.Str.ofString "anything")))])] [],.ite (.cmp .eq (.v 4) (.k (.int 1))) [.ret (.tup [(.k (.str (PySem.Str.ofString "meets"))),(.v 3)])] [],.ite (.cmp .eq (.v 4) (.k (.int 2))) [.ret (.tup [(.k (.str (PySem.Str.ofString "inside"))),(.v 3)])] [],.ite (.cmp .eq (.v 4) (.k (.int 3))) [.ret (.tup [(.k (.str (PySem.Str.ofString "holds"))),(.bi .tuple [(.compS (.tup [(.ix (.v 0) (.k (.int 0))),(.bin .add (.ix (.v 0) (.k (.int 0))) (.bin .mod (.v 1) (.k (.int 3))))]) 1 [2] (.one 0) (.v 3))])])] [],.ite (.cmp .eq (.v 4) (.k (.int 4))) [.set 5 false (.bin .mod (.bin .fdiv (.v 2) (.k (.int 3))) (.k (.int 60))),.ite (.cmp .eq (.bin .mod (.v 2) (.k (.int 3))) (.k (.int 1))) [.set 5 false (.bin .pow (.bin .mod (.bin .fdiv (.v 2) (.k (.int 3))) (.k (.int 9))) (.k (.int 2)))] [],.ite (.cmp .eq (.bin .mod (.v 2) (.k (.int 3))) (.k (.int 2))) [.set 5 false (.bin .mod (.v 0) (.bin .add (.bin .pow (.k (.int 10)) (.k (.int 62))) (.k (.int 1))))] [],.ret (.tup [(.k (.str (PySem.Str.ofString "near"))),(.v 3),(.v 5)])] [],.ite (.cmp .eq (.v 4) (.k (.int 5))) [.ret (.tup [(.k (.str (PySem.Str.ofString "marked"))),(.call 35 [(.v 2)])])] [],.ite (.cmp .eq (.v 4) (.k (.int 6))) [.ret (.tup [(.k (.str (PySem.Str.ofString "touched"))),(.call 35 [(.v 2)])])] [],.ite (.cmp .eq (.v 4) (.k (.int 7))) [.set 6 false (.call 36 [(.v 2),(.ix (.v 1) (.k (.int 4)))]),.ret (.tup [(.k (.str (PySem.Str.ofString "crosses"))),(.v 3),(.ix (.v 6) (.k (.int 0))),(.ix (.v 6) (.k (.int 1)))])] [],.ret (.tup [(.k (.str (PySem.Str.ofString "worthy"))),(.bin .sub (.bin .add (.ix (.ix (.v 1) (.k (.int 1))) (.k (.int 0))) (.bin .mod (.v 2) (.k (.int 11)))) (.k (.int 5)))])]=some (.rt z):=λz hz=>by
    refine qAa (x:=false) (by simp only [qAi,pk,qAe,List.getElem?_cons_succ,List.getElem?_cons_zero,Option.join_some,Option.bind_some,pkR,qAp,Option.map_some,qAg,eqZ,w0];simp) ?_
    refine qAa (x:=false) (by simp only [qAi,pk,qAe,List.getElem?_cons_succ,List.getElem?_cons_zero,Option.join_some,Option.bind_some,pkR,qAp,Option.map_some,qAg,eqZ,w1];simp) ?_
    refine qAa (x:=false) (by simp only [qAi,pk,qAe,List.getElem?_cons_succ,List.getElem?_cons_zero,Option.join_some,Option.bind_some,pkR,qAp,Option.map_some,qAg,eqZ,w2];simp) ?_
    refine qAa (x:=false) (by simp only [qAi,pk,qAe,List.getElem?_cons_succ,List.getElem?_cons_zero,Option.join_some,Option.bind_some,pkR,qAp,Option.map_some,qAg,eqZ,w3];simp) ?_
    exact qA0 (x:=false) (by simp only [w4,qAi,pk,qAe,List.getElem?_cons_succ,List.getElem?_cons_zero,Option.join_some,Option.bind_some,pkR,qAp,Option.map_some,qAg,eqZ];rfl) hz rfl
   have b9:=qBe (l.fdiv 3) 9 (by decide)
   have p2:qCI ((l.fdiv 3).fmod 9) 2=true:=decide_eq_true ⟨by omega,by decide,by decide⟩
   by_cases r1:l.fmod 3=1
   ·refine⟨.near f (((l.fdiv 3).fmod 9)^(2:Int).toNat),λj=>(hf j).a,pre _ ?_⟩
    refine qAn (false,.int ((l.fdiv 3).fmod 60)) (by simp only [qAj,pk,qAe,List.getElem?_cons_succ,List.getElem?_cons_zero,Option.join_some,Option.bind_some,pkR,qAp,Option.map_some,qAo,d3,↓reduceIte,qAh,d60]) ?_
    refine qEd (x:=false) (by simp only [qAz,Bool.and_false,List.set_cons_succ,List.set_cons_zero,qAi,pk,qAj,qAe,List.getElem?_cons_succ,List.getElem?_cons_zero,Option.join_some,Option.bind_some,pkR,qAp,Option.map_some,qAh,d3,↓reduceIte,r1,qAg,eqZ];rfl) (qAn (false,.int (((l.fdiv 3).fmod 9)^(2:Int).toNat)) (by simp only [qAz,Bool.and_false,List.set_cons_succ,List.set_cons_zero,qAj,pk,qAe,List.getElem?_cons_succ,List.getElem?_cons_zero,Option.join_some,Option.bind_some,pkR,qAp,Option.map_some,qAo,d3,↓reduceIte,qAh,d9,qA1,p2]) rfl) ?_
    exact qAa (x:=false) (by simp only [qAz,Bool.and_false,List.set_cons_succ,List.set_cons_zero,qAi,pk,qAj,qAe,List.getElem?_cons_succ,List.getElem?_cons_zero,Option.join_some,Option.bind_some,pkR,qAp,Option.map_some,qAh,d3,↓reduceIte,r1,qAg,eqZ];rfl) (key _)
   ·by_cases r2:l.fmod 3=2
    ·refine⟨.near f (c.fmod (10^(62:Int).toNat+1)),λj=>(hf j).a,pre _ ?_⟩
     refine qAn (false,.int ((l.fdiv 3).fmod 60)) (by simp only [qAj,pk,qAe,List.getElem?_cons_succ,List.getElem?_cons_zero,Option.join_some,Option.bind_some,pkR,qAp,Option.map_some,qAo,d3,↓reduceIte,qAh,d60]) ?_
     refine qAa (x:=false) (by simp only [qAz,Bool.and_false,List.set_cons_succ,List.set_cons_zero,qAi,pk,qAj,qAe,List.getElem?_cons_succ,List.getElem?_cons_zero,Option.join_some,Option.bind_some,pkR,qAp,Option.map_some,qAh,d3,↓reduceIte,qAg,eqZ,r1];simp) ?_
     exact qEd (x:=false) (by simp only [qAz,Bool.and_false,List.set_cons_succ,List.set_cons_zero,qAi,pk,qAj,qAe,List.getElem?_cons_succ,List.getElem?_cons_zero,Option.join_some,Option.bind_some,pkR,qAp,Option.map_some,qAh,d3,↓reduceIte,r2,qAg,eqZ];rfl) (qAn (false,.int (c.fmod (10^(62:Int).toNat+1))) (by simp only [qAz,Bool.and_false,List.set_cons_succ,List.set_cons_zero,qAj,pk,qAe,List.getElem?_cons_zero,Option.join_some,Option.bind_some,pkR,qAp,Option.map_some,qA1,p62,↓reduceIte,qAF,qAh,dP]) rfl) (key _)
    ·refine⟨.near f ((l.fdiv 3).fmod 60),λj=>(hf j).a,pre _ ?_⟩
     refine qAn (false,.int ((l.fdiv 3).fmod 60)) (by simp only [qAj,pk,qAe,List.getElem?_cons_succ,List.getElem?_cons_zero,Option.join_some,Option.bind_some,pkR,qAp,Option.map_some,qAo,d3,↓reduceIte,qAh,d60]) ?_
     refine qAa (x:=false) (by simp only [qAz,Bool.and_false,List.set_cons_succ,List.set_cons_zero,qAi,pk,qAj,qAe,List.getElem?_cons_succ,List.getElem?_cons_zero,Option.join_some,Option.bind_some,pkR,qAp,Option.map_some,qAh,d3,↓reduceIte,qAg,eqZ,r1];simp) ?_
     exact qAa (x:=false) (by simp only [qAz,Bool.and_false,List.set_cons_succ,List.set_cons_zero,qAi,pk,qAj,qAe,List.getElem?_cons_succ,List.getElem?_cons_zero,Option.join_some,Option.bind_some,pkR,qAp,Option.map_some,qAh,d3,↓reduceIte,qAg,eqZ,r2];simp) (key _)
  have pre:∀z,qAr call [some (false,.int c),some (false,scD s),some (false,.int l),some (false,qAG s.m f),some (false,.int w),none,none] [.ite (.cmp .eq (.v 4) (.k (.int 5))) [.ret (.tup [(.k (.str (PySem.Str.ofString "marked"))),(.call 35 [(.v 2)])])] [],.ite (.cmp .eq (.v 4) (.k (.int 6))) [.ret (.tup [(.k (.str (PySem.Str.ofString "touched"))),(.call 35 [(.v 2)])])] [],.ite (.cmp .eq (.v 4) (.k (.int 7))) [.set 6 false (.call 36 [(.v 2),(.ix (.v 1) (.k (.int 4)))]),.ret (.tup [(.k (.str (PySem.Str.ofString "crosses"))),(.v 3),(.ix (.v 6) (.k (.int 0))),(.ix (.v 6) (.k (.int 1)))])] [],.ret (.tup [(.k (.str (PySem.Str.ofString "worthy"))),(.bin .sub (.bin .add (.ix (.ix (.v 1) (.k (.int 1))) (.k (.int 0))) (.bin .mod (.v 2) (.k (.int 11)))) (.k (.int 5)))])]=z->qAr call [some (false,.int c),some (false,scD s),some (false,.int l),some (false,qAG s.m f),some (false,.int w),none,none] [.ite (.cmp .eq (.v 4) (.k (.int 0))) [.ret (.tup [(.k (.str (PySem.Str.ofString "anything")))])] [],.ite (.cmp .eq (.v 4) (.k (.int 1))) [.ret (.tup [(.k (.str (PySem.Str.ofString "meets"))),(.v 3)])] [],.ite (.cmp .eq (.v 4) (.k (.int 2))) [.ret (.tup [(.k (.str (PySem.Str.ofString "inside"))),(.v 3)])] [],.ite (.cmp .eq (.v 4) (.k (.int 3))) [.ret (.tup [(.k (.str (PySem.Str.ofString "holds"))),(.bi .tuple [(.compS (.tup [(.ix (.v 0) (.k (.int 0))),(.bin .add (.ix (.v 0) (.k (.int 0))) (.bin .mod (.v 1) (.k (.int 3))))]) 1 [2] (.one 0) (.v 3))])])] [],.ite (.cmp .eq (.v 4) (.k (.int 4))) [.set 5 false (.bin .mod (.bin .fdiv (.v 2) (.k (.int 3))) (.k (.int 60))),.ite (.cmp .eq (.bin .mod (.v 2) (.k (.int 3))) (.k (.int 1))) [.set 5 false (.bin .pow (.bin .mod (.bin .fdiv (.v 2) (.k (.int 3))) (.k (.int 9))) (.k (.int 2)))] [],.ite (.cmp .eq (.bin .mod (.v 2) (.k (.int 3))) (.k (.int 2))) [.set 5 false (.bin .mod (.v 0) (.bin .add (.bin .pow (.k (.int 10)) (.k (.int 62))) (.k (.int 1))))] [],.ret (.tup [(.k (.str (PySem.Str.ofString "near"))),(.v 3),(.v 5)])] [],.ite (.cmp .eq (.v 4) (.k (.int 5))) [.ret (.tup [(.k (.str (PySem.Str.ofString "marked"))),(.call 35 [(.v 2)])])] [],.ite (.cmp .eq (.v 4) (.k (.int 6))) [.ret (.tup [(.k (.str (PySem.Str.ofString "touched"))),(.call 35 [(.v 2)])])] [],.ite (.cmp .eq (.v 4) (.k (.int 7))) [.set 6 false (.call 36 [(.v 2),(.ix (.v 1) (.k (.int 4)))]),.ret (.tup [(.k (.str (PySem.Str.ofString "crosses"))),(.v 3),(.ix (.v 6) (.k (.int 0))),(.ix (.v 6) (.k (.int 1)))])] [],.ret (.tup [(.k (.str (PySem.Str.ofString "worthy"))),(.bin .sub (.bin .add (.ix (.ix (.v 1) (.k (.int 1))) (.k (.int 0))) (.bin .mod (.v 2) (.k (.int 11)))) (.k (.int 5)))])]=z:=λz hz=>by
   refine qAa (x:=false) (by simp only [qAi,pk,qAe,List.getElem?_cons_succ,List.getElem?_cons_zero,Option.join_some,Option.bind_some,pkR,qAp,Option.map_some,qAg,eqZ,w0];simp) ?_
   refine qAa (x:=false) (by simp only [qAi,pk,qAe,List.getElem?_cons_succ,List.getElem?_cons_zero,Option.join_some,Option.bind_some,pkR,qAp,Option.map_some,qAg,eqZ,w1];simp) ?_
   refine qAa (x:=false) (by simp only [qAi,pk,qAe,List.getElem?_cons_succ,List.getElem?_cons_zero,Option.join_some,Option.bind_some,pkR,qAp,Option.map_some,qAg,eqZ,w2];simp) ?_
   refine qAa (x:=false) (by simp only [qAi,pk,qAe,List.getElem?_cons_succ,List.getElem?_cons_zero,Option.join_some,Option.bind_some,pkR,qAp,Option.map_some,qAg,eqZ,w3];simp) ?_
   exact qAa (x:=false) (by simp only [qAi,pk,qAe,List.getElem?_cons_succ,List.getElem?_cons_zero,Option.join_some,Option.bind_some,pkR,qAp,Option.map_some,qAg,eqZ,w4];simp) hz
  obtain⟨k,hk⟩:=C26 l
  by_cases w5:w=5
  ·exact⟨.marked k,trivial,pre _ (qA0 (x:=false) (r:=(false,atD s.m (.marked k))) (by simp only [w5,qAi,pk,qAe,List.getElem?_cons_succ,List.getElem?_cons_zero,Option.join_some,Option.bind_some,pkR,qAp,Option.map_some,qAg,eqZ];rfl) (qAf (r:=(false,atD s.m (.marked k))) (by simp only [qA2,qAN,qAs,qAp,qAl,qAk,ag,qAe,List.getElem?_cons_succ,List.getElem?_cons_zero,Option.join_some,Option.bind_some,agR,qAm,hk,qAt,List.length_cons,List.length_nil,Nat.reduceAdd,l2,↓reduceIte];rfl) rfl) rfl)⟩
  by_cases w6:w=6
  ·exact⟨.touched k,trivial,pre _ (qAa (x:=false) (by simp only [qAi,pk,qAe,List.getElem?_cons_succ,List.getElem?_cons_zero,Option.join_some,Option.bind_some,pkR,qAp,Option.map_some,qAg,eqZ,w5];simp) (qA0 (x:=false) (r:=(false,atD s.m (.touched k))) (by simp only [w6,qAi,pk,qAe,List.getElem?_cons_succ,List.getElem?_cons_zero,Option.join_some,Option.bind_some,pkR,qAp,Option.map_some,qAg,eqZ];rfl) (qAf (r:=(false,atD s.m (.touched k))) (by simp only [qA2,qAN,qAs,qAp,qAl,qAk,ag,qAe,List.getElem?_cons_succ,List.getElem?_cons_zero,Option.join_some,Option.bind_some,agR,qAm,hk,qAt,List.length_cons,List.length_nil,Nat.reduceAdd,l2,↓reduceIte];rfl) rfl) rfl))⟩
  by_cases w7:w=7
  ·obtain⟨a,b,ha,hb,hc⟩:=C27 l s.bt ok.bt
   refine⟨.crosses f a b,⟨λj=>(hf j).a,ha,hb⟩,pre _ (qAa (x:=false) (by simp only [qAi,pk,qAe,List.getElem?_cons_succ,List.getElem?_cons_zero,Option.join_some,Option.bind_some,pkR,qAp,Option.map_some,qAg,eqZ,w5];simp) (qAa (x:=false) (by simp only [qAi,pk,qAe,List.getElem?_cons_succ,List.getElem?_cons_zero,Option.join_some,Option.bind_some,pkR,qAp,Option.map_some,qAg,eqZ,w6];simp) (qA0 (x:=false) (r:=(false,atD s.m (.crosses f a b))) (by simp only [w7,qAi,pk,qAe,List.getElem?_cons_succ,List.getElem?_cons_zero,Option.join_some,Option.bind_some,pkR,qAp,Option.map_some,qAg,eqZ];rfl) ?_ rfl)))⟩
   refine qAn (false,side (a,b)) (by simp only [qAl,qAk,ag,qAe,List.getElem?_cons_succ,List.getElem?_cons_zero,Option.join_some,Option.bind_some,agR,qAH,pk,pkR,qAp,Option.map_some,sc4,qAm,hc]) ?_
   exact qAf (r:=(false,atD s.m (.crosses f a b))) (by simp only [qA2,qAz,Bool.and_false,List.set_cons_succ,List.set_cons_zero,qAN,qAs,qAp,qBT,qAR,qAe,List.getElem?_cons_succ,List.getElem?_cons_zero,Option.join_some,qAH,pk,Option.bind_some,pkR,Option.map_some,qBS,qB1,qAt,List.length_cons,List.length_nil,Nat.reduceAdd,l4,↓reduceIte];rfl) rfl
  ·have g0:ixP (.lst (bx s.m λj=>.int (s.pl j))) (.int 0)=some (false,.int (s.pl 0)):=qDe (j:=0) (λj=>.int (s.pl j)) (by have:=ok.m;omega)
   refine⟨.worthy (s.pl 0+l.fmod 11 - 5),trivial,pre _ (qAa (x:=false) (by simp only [qAi,pk,qAe,List.getElem?_cons_succ,List.getElem?_cons_zero,Option.join_some,Option.bind_some,pkR,qAp,Option.map_some,qAg,eqZ,w5];simp) (qAa (x:=false) (by simp only [qAi,pk,qAe,List.getElem?_cons_succ,List.getElem?_cons_zero,Option.join_some,Option.bind_some,pkR,qAp,Option.map_some,qAg,eqZ,w6];simp) (qAa (x:=false) (by simp only [qAi,pk,qAe,List.getElem?_cons_succ,List.getElem?_cons_zero,Option.join_some,Option.bind_some,pkR,qAp,Option.map_some,qAg,eqZ,w7];simp) ?_)))⟩
   exact qAf (r:=(false,atD s.m (.worthy (s.pl 0+l.fmod 11 - 5)))) (by simp only [qA2,qAN,qAs,qAp,qAj,pk,qAH,qAe,List.getElem?_cons_succ,List.getElem?_cons_zero,Option.join_some,Option.bind_some,pkR,Option.map_some,sc1,g0,qAh,d11,↓reduceIte,qAF,qAU,qAt,List.length_cons,List.length_nil,Nat.reduceAdd,l2];rfl) rfl
 refine⟨a,ha,?_⟩
 refine qAn (false,.int l0) (by simp only [qAl,qAk,ag,qAe,List.getElem?_cons_zero,Option.join_some,Option.bind_some,agR,qAm,C21,Option.map_some,n1]) ?_
 refine qAn (false,qAG s.m f) (by simp only [qAz,Bool.and_false,List.set_cons_succ,List.set_cons_zero,qAl,qAk,ag,qAe,List.getElem?_cons_zero,Option.join_some,Option.bind_some,agR,List.getElem?_cons_succ,qAm,C25]) ?_
 refine qAn (false,.int w) (by simp only [qAz,Bool.and_false,List.set_cons_succ,List.set_cons_zero,qAj,pk,qAe,List.getElem?_cons_succ,List.getElem?_cons_zero,Option.join_some,Option.bind_some,pkR,qAp,Option.map_some,qAh,d9,↓reduceIte,hw]) ?_
 exact qAn (false,.int l) (by simp only [qAz,Bool.and_false,List.set_cons_succ,List.set_cons_zero,qAj,pk,qAe,List.getElem?_cons_succ,List.getElem?_cons_zero,Option.join_some,Option.bind_some,pkR,qAp,Option.map_some,qAo,d9,↓reduceIte,hl]) ea
end
end Dw.T
namespace Dw.T
open Dw
noncomputable abbrev Fr:=Nat->Q4
noncomputable def frD (m:Nat) (c:Fr):D:=.tup (bx m λj=>q4 (c j))
noncomputable def qA (c:Fr) (t:Int) (j:Nat):P2:=((c j).1+(c j).2.2.1 * t,(c j).2.1+(c j).2.2.2 * t)
noncomputable def Bd4 (q:Q4):Prop:=(-(10^31)<=q.1/\q.1<=10^31)/\(-(10^31)<=q.2.1/\q.2.1<=10^31)/\(-(10^15)<=q.2.2.1/\q.2.2.1<=10^15)/\(-(10^15)<=q.2.2.2/\q.2.2.2<=10^15)
noncomputable def qKi (c:Fr):Prop:=∀j,Bd4 (c j)
noncomputable def sm (p q:P2):Bool:=decide (p.1<=q.2)&&decide (q.1<=p.2)
noncomputable def si (p q:P2):Bool:=decide (q.1<=p.1)&&decide (p.2<=q.2)
noncomputable def gp (p q:P2):Int:=max (max 0 (p.1 - q.2)) (q.1 - p.2)
noncomputable def mtP (m:Nat) (g f:Nat->P2):Bool:=(List.range m).all λj=>sm (g j) (f j)
noncomputable def inP (m:Nat) (g f:Nat->P2):Bool:=(List.range m).all λj=>si (g j) (f j)
noncomputable def gpS (m:Nat) (g f:Nat->P2):Int:=((List.range m).map λj=>gp (g j) (f j) * gp (g j) (f j)).sum
theorem qF1 (m:Nat) (p:Nat->Bool):biP .all [.lst (bx m λj=>.bl (p j))]=some (false,.bl ((List.range m).all p)):=by
 rw [qLY,show (bx m λj=>D.bl (p j))=(List.range m).map λj=>.bl (p j) from rfl,qEA]
 simp [List.all_map,Function.comp_def]
theorem qJL (m:Nat) (p:Nat->Int):biP .sum [.lst (bx m λj=>.int (p j))]=some (false,.int ((List.range m).map p).sum):=by
 rw [qId,show (bx m λj=>D.int (p j))=(List.range m).map λj=>.int (p j) from rfl,qBB]
 rfl
noncomputable def BdB (q:P2):Prop:=(-(10^33)<=q.1/\q.1<=10^33)/\(-(10^33)<=q.2/\q.2<=10^33)
theorem BdA.b {q:P2}(h:BdA q):BdB q:=by unfold BdA at h;unfold BdB;omega
theorem qIQ {c:Fr}(hc:qKi c) {t:Int}(ht:0<=t/\t<=10^15) (j:Nat):BdB (qA c t j):=by
 have h:=hc j
 unfold Bd4 at h
 have h1:=qFH (a:=(c j).2.2.1) (b:=t) (A:=10^15) (B:=10^15) h.2.2.1 ht (by decide)
 have h2:=qFH (a:=(c j).2.2.2) (b:=t) (A:=10^15) (B:=10^15) h.2.2.2 ht (by decide)
 show (-(10^33)<=(c j).1+(c j).2.2.1 * t/\(c j).1+(c j).2.2.1 * t<=10^33)/\(-(10^33)<=(c j).2.1+(c j).2.2.2 * t/\(c j).2.1+(c j).2.2.2 * t<=10^33)
 omega
theorem qNZ {p q:P2}(hp:BdB p) (hq:BdB q):(gp p q).natAbs<2^200:=by
 unfold BdB at hp hq
 unfold gp
 omega
section
variable {call:Nat->List D->Option R}
theorem qPW (p q:P2):qAr call [some (false,side p),some (false,side q)] f_sides_meet.body=some (.rt (false,.bl (sm p q))):=by
 refine qAf (r:=(false,.bl (sm p q))) (qFb (x:=false) (y:=false) ?_ ?_) rfl
 ·simp only [qAi,pk,qAH,qAe,List.getElem?_cons_zero,Option.join_some,Option.bind_some,pkR,qAp,Option.map_some,qBS,List.getElem?_cons_succ,qB1,qBA]
 ·simp only [qAi,pk,qAH,qAe,List.getElem?_cons_succ,List.getElem?_cons_zero,Option.join_some,Option.bind_some,pkR,qAp,Option.map_some,qBS,qB1,qBA]
theorem qPX (p q:P2):qAr call [some (false,side p),some (false,side q)] f_side_inside.body=some (.rt (false,.bl (si p q))):=by
 refine qAf (r:=(false,.bl (si p q))) (qFb (x:=false) (y:=false) ?_ ?_) rfl
 ·simp only [qAi,pk,qAH,qAe,List.getElem?_cons_zero,Option.join_some,Option.bind_some,pkR,qAp,Option.map_some,qBS,List.getElem?_cons_succ,qDX]
 ·simp only [qAi,pk,qAH,qAe,List.getElem?_cons_zero,Option.join_some,Option.bind_some,pkR,qAp,Option.map_some,qB1,List.getElem?_cons_succ,qBA]
theorem qPY (p q:P2):qAr call [some (false,side p),some (false,side q)] f_side_gap.body=some (.rt (false,.int (gp p q))):=
 qAf (r:=(false,.int (gp p q))) (by simp only [qA2,qBv,qAu,pk,qAp,Option.map_some,qAj,qAH,qAe,List.getElem?_cons_zero,Option.join_some,Option.bind_some,pkR,qBS,List.getElem?_cons_succ,qB1,qAU,qAv,qF0];rfl) rfl
theorem qP4 (m:Nat) (g f:Nat->P2) (C1:∀p q,call 1 [side p,side q]=some (false,.bl (sm p q))):qAr call [some (false,qAG m g),some (false,qAG m f)] f_boxes_meet.body=some (.rt (false,.bl (mtP m g f))):=by
 have hc:=qCq (call:=call) (σ:=[some (false,qAG m g),some (false,qAG m f)]) (e:=(.call 1 [(.v 0),(.v 1)])) (nl:=2) (ks:=[]) (tg:=.two 0 1) (a:=.v 0) (b:=.v 1) (x:=(false,qAG m g)) (y:=(false,qAG m f)) rfl rfl (qCv m g) rfl rfl
  (qCe (F:=λj=>side (g j)) (G:=λj=>side (f j)) (λj=>.bl (sm (g j) (f j))) λj hj=>⟨false,by have:=C1 (g j) (f j);simp only [qAl,qAk,ag,qAe,List.getElem?_cons_zero,Option.join_some,Option.bind_some,agR,List.getElem?_cons_succ,qAm,this]⟩)
 exact qAf (r:=(false,.bl (mtP m g f))) (qDx (by show (evE call _ _).map (·.2)=_;rw [hc];rfl) (qF1 m _)) rfl
theorem qP5 (m:Nat) (g f:Nat->P2) (C2:∀p q,call 2 [side p,side q]=some (false,.bl (si p q))):qAr call [some (false,qAG m g),some (false,qAG m f)] f_box_inside.body=some (.rt (false,.bl (inP m g f))):=by
 have hc:=qCq (call:=call) (σ:=[some (false,qAG m g),some (false,qAG m f)]) (e:=(.call 2 [(.v 0),(.v 1)])) (nl:=2) (ks:=[]) (tg:=.two 0 1) (a:=.v 0) (b:=.v 1) (x:=(false,qAG m g)) (y:=(false,qAG m f)) rfl rfl (qCv m g) rfl rfl
  (qCe (F:=λj=>side (g j)) (G:=λj=>side (f j)) (λj=>.bl (si (g j) (f j))) λj hj=>⟨false,by have:=C2 (g j) (f j);simp only [qAl,qAk,ag,qAe,List.getElem?_cons_zero,Option.join_some,Option.bind_some,agR,List.getElem?_cons_succ,qAm,this]⟩)
 exact qAf (r:=(false,.bl (inP m g f))) (qDx (by show (evE call _ _).map (·.2)=_;rw [hc];rfl) (qF1 m _)) rfl
theorem qP6 (m:Nat) (g f:Nat->P2) (hg:∀j,BdB (g j)) (hf:∀j,BdB (f j)) (C3:∀p q,call 3 [side p,side q]=some (false,.int (gp p q))):qAr call [some (false,qAG m g),some (false,qAG m f),none] f_box_gap.body=some (.rt (false,.int (gpS m g f))):=by
 have hc:=qCq (call:=call) (σ:=[some (false,qAG m g),some (false,qAG m f),none]) (e:=(.call 3 [(.v 0),(.v 1)])) (nl:=2) (ks:=[]) (tg:=.two 0 1) (a:=.v 0) (b:=.v 1) (x:=(false,qAG m g)) (y:=(false,qAG m f)) rfl rfl (qCv m g) rfl rfl
  (qCe (F:=λj=>side (g j)) (G:=λj=>side (f j)) (λj=>.int (gp (g j) (f j))) λj hj=>⟨false,by have:=C3 (g j) (f j);simp only [qAl,qAk,ag,qAe,List.getElem?_cons_zero,Option.join_some,Option.bind_some,agR,List.getElem?_cons_succ,qAm,this]⟩)
 refine qAn (true,.lst (bx m λj=>.int (gp (g j) (f j)))) hc ?_
 have hd:=qBO (call:=call) (σ:=[some (false,qAG m g),some (false,qAG m f),some (false,.lst (bx m λj=>.int (gp (g j) (f j))))]) (e:=(.bin .mul (.v 0) (.v 0))) (nl:=1) (ks:=[]) (tg:=.one 0) (src:=.v 2) (r:=(false,.lst (bx m λj=>.int (gp (g j) (f j))))) rfl rfl rfl
  (qCF (λj=>.int (gp (g j) (f j))) (λj=>.int (gp (g j) (f j) * gp (g j) (f j))) λj hj=>⟨false,by
   have:=qNZ (hg j) (hf j)
   have m1:=qQb (gp (g j) (f j)) (gp (g j) (f j)) (by omega) (by omega)
   simp only [List.replicate_zero,qAe,List.map_nil,qAj,pk,List.getElem?_cons_zero,Option.join_some,Option.bind_some,pkR,qBd,m1,↓reduceIte]⟩)
 exact qAf (r:=(false,.int (gpS m g f))) (qDx (qDQ hd) (qJL m _)) rfl
theorem qPZ (q:Q4) (t:Int) (ht:t.natAbs<2^64):qAr call [some (false,q4 q),some (false,.int t)] f_side_at.body=some (.rt (false,side (q.1+q.2.2.1 * t,q.2.1+q.2.2.2 * t))):=by
 have m1:=qJZ q.2.2.1 t ht
 have m2:=qJZ q.2.2.2 t ht
 exact qAf (r:=(false,side (q.1+q.2.2.1 * t,q.2.1+q.2.2.2 * t))) (by simp only [qA2,qAN,qAs,qAj,pk,qAH,qAe,List.getElem?_cons_zero,Option.join_some,Option.bind_some,pkR,qAp,Option.map_some,q40,q42,List.getElem?_cons_succ,qBd,m1,↓reduceIte,qAF,q41,q43,m2,qAt,List.length_cons,List.length_nil,Nat.reduceAdd,qNI];rfl) rfl
theorem qP3 (m:Nat) (c:Fr) (t:Int) (C10:∀q:Q4,call 10 [q4 q,.int t]=some (false,side (q.1+q.2.2.1 * t,q.2.1+q.2.2.2 * t))):qAr call [some (false,frD m c),some (false,.int t)] f_frame_at.body=some (.rt (false,qAG m (qA c t))):=by
 have hc:=qBO (call:=call) (σ:=[some (false,frD m c),some (false,.int t)]) (e:=(.call 10 [(.v 0),(.v 1)])) (nl:=1) (ks:=[1]) (tg:=.one 0) (src:=.v 0) (r:=(false,frD m c)) rfl rfl rfl
  (qCF (r:=[some (false,.int t)]) (λj=>q4 (c j)) (λj=>side (qA c t j)) λj hj=>⟨false,by have:=C10 (c j);simp only [qAl,qAk,ag,qAe,List.getElem?_cons_zero,Option.join_some,Option.bind_some,agR,List.getElem?_cons_succ,qAm,this];rfl⟩)
 exact qAf (r:=(false,qAG m (qA c t))) (qDx (qDQ hc) rfl) rfl
theorem qQq (m:Nat) (c:Fr) (t:Int) (ht:t.natAbs<2^64):qAr call [some (false,frD m c),some (false,.int t)] f_law_at.body=some (.rt (true,.lst (bx m λj=>side (qA c t j)))):=by
 have hc:=qBO (call:=call) (σ:=[some (false,frD m c),some (false,.int t)]) (e:=(.tup [(.bin .add (.ix (.v 0) (.k (.int 0))) (.bin .mul (.ix (.v 0) (.k (.int 2))) (.v 1))),(.bin .add (.ix (.v 0) (.k (.int 1))) (.bin .mul (.ix (.v 0) (.k (.int 3))) (.v 1)))])) (nl:=1) (ks:=[1]) (tg:=.one 0) (src:=.v 0) (r:=(false,frD m c)) rfl rfl rfl
  (qCF (r:=[some (false,.int t)]) (λj=>q4 (c j)) (λj=>side (qA c t j)) λj hj=>⟨false,by
   have m1:=qJZ (c j).2.2.1 t ht
   have m2:=qJZ (c j).2.2.2 t ht
   simp only [qAN,qAs,qAj,pk,qAH,qAe,List.getElem?_cons_zero,Option.join_some,Option.bind_some,pkR,qAp,Option.map_some,q40,q42,List.getElem?_cons_succ,qBd,m1,↓reduceIte,qAF,q41,q43,m2,qAt,List.length_cons,List.length_nil,Nat.reduceAdd,qNI];rfl⟩)
 exact qAf (r:=(true,.lst (bx m λj=>side (qA c t j)))) hc rfl
theorem qQp (m:Nat) (g f:Nat->P2):qAr call [some (false,.lst (bx m λj=>side (g j))),some (false,qAG m f)] f_law_meet.body=some (.rt (false,.bl (mtP m g f))):=by
 have hc:=qCq (call:=call) (σ:=[some (false,.lst (bx m λj=>side (g j))),some (false,qAG m f)]) (e:=(.and (.cmp .le (.ix (.v 0) (.k (.int 0))) (.ix (.v 1) (.k (.int 1)))) (.cmp .le (.ix (.v 1) (.k (.int 0))) (.ix (.v 0) (.k (.int 1)))))) (nl:=2) (ks:=[]) (tg:=.two 0 1) (a:=.v 0) (b:=.v 1) (x:=(false,.lst (bx m λj=>side (g j)))) (y:=(false,qAG m f)) rfl rfl rfl rfl rfl
  (qCe (F:=λj=>side (g j)) (G:=λj=>side (f j)) (λj=>.bl (sm (g j) (f j))) λj hj=>⟨false,qFb (x:=false) (y:=false) (by simp only [qAi,pk,qAH,qAe,List.getElem?_cons_zero,Option.join_some,Option.bind_some,pkR,qAp,Option.map_some,qBS,List.getElem?_cons_succ,qB1,qBA]) (by simp only [qAi,pk,qAH,qAe,List.getElem?_cons_succ,List.getElem?_cons_zero,Option.join_some,Option.bind_some,pkR,qAp,Option.map_some,qBS,qB1,qBA])⟩)
 exact qAf (r:=(false,.bl (mtP m g f))) (qDx (by show (evE call _ _).map (·.2)=_;rw [hc];rfl) (qF1 m _)) rfl
theorem qP0 (m:Nat) (g f:Nat->P2) (A B:D) (hA:qIo A=some (bx m λj=>side (g j))) (hB:qMk B=some (bx m λj=>side (f j))):qAr call [some (false,A),some (false,B)] f_law_within.body=some (.rt (false,.bl (inP m g f))):=by
 have hc:=qCq (call:=call) (σ:=[some (false,A),some (false,B)]) (e:=(.and (.cmp .le (.ix (.v 1) (.k (.int 0))) (.ix (.v 0) (.k (.int 0)))) (.cmp .le (.ix (.v 0) (.k (.int 1))) (.ix (.v 1) (.k (.int 1)))))) (nl:=2) (ks:=[]) (tg:=.two 0 1) (a:=.v 0) (b:=.v 1) (x:=(false,A)) (y:=(false,B)) rfl rfl hA hB rfl
  (qCe (F:=λj=>side (g j)) (G:=λj=>side (f j)) (λj=>.bl (si (g j) (f j))) λj hj=>⟨false,qFb (x:=false) (y:=false) (by simp only [qAi,pk,qAH,qAe,List.getElem?_cons_succ,List.getElem?_cons_zero,Option.join_some,Option.bind_some,pkR,qAp,Option.map_some,qBS,qBA]) (by simp only [qAi,pk,qAH,qAe,List.getElem?_cons_zero,Option.join_some,Option.bind_some,pkR,qAp,Option.map_some,qB1,List.getElem?_cons_succ,qBA])⟩)
 exact qAf (r:=(false,.bl (inP m g f))) (qDx (by show (evE call _ _).map (·.2)=_;rw [hc];rfl) (qF1 m _)) rfl
theorem qOT (m:Nat) (g f:Nat->P2) (hg:∀j,BdB (g j)) (hf:∀j,BdB (f j)):qAr call [some (false,.lst (bx m λj=>side (g j))),some (false,qAG m f)] f_law_apart.body=some (.rt (false,.int (gpS m g f))):=by
 have hc:=qCq (call:=call) (σ:=[some (false,.lst (bx m λj=>side (g j))),some (false,qAG m f)]) (e:=(.bin .pow (.bi .max [(.k (.int 0)),(.bin .sub (.ix (.v 0) (.k (.int 0))) (.ix (.v 1) (.k (.int 1)))),(.bin .sub (.ix (.v 1) (.k (.int 0))) (.ix (.v 0) (.k (.int 1))))]) (.k (.int 2)))) (nl:=2) (ks:=[]) (tg:=.two 0 1) (a:=.v 0) (b:=.v 1) (x:=(false,.lst (bx m λj=>side (g j)))) (y:=(false,qAG m f)) rfl rfl rfl rfl rfl
  (qCe (F:=λj=>side (g j)) (G:=λj=>side (f j)) (λj=>.int (gp (g j) (f j) * gp (g j) (f j))) λj hj=>⟨false,by
   have b:=qNZ (hg j) (hf j)
   have p1:qCI (max (max 0 ((g j).1 - (f j).2)) ((f j).1 - (g j).2)) 2=true:=decide_eq_true ⟨by unfold gp at b;omega,by decide,by decide⟩
   have e2:(max (max 0 ((g j).1 - (f j).2)) ((f j).1 - (g j).2))^(2:Int).toNat=gp (g j) (f j) * gp (g j) (f j):=by
    show gp (g j) (f j)^2=_
    rw [Int.pow_succ,Int.pow_succ,Int.pow_zero,Int.one_mul]
   simp only [qAj,pk,qBv,qAu,qAp,Option.map_some,qAH,qAe,List.getElem?_cons_zero,Option.join_some,Option.bind_some,pkR,qBS,List.getElem?_cons_succ,qB1,qAU,qAv,qF0,qA1,p1,↓reduceIte,e2]⟩)
 exact qAf (r:=(false,.int (gpS m g f))) (qDx (by show (evE call _ _).map (·.2)=_;rw [hc];rfl) (qJL m _)) rfl
theorem qOb (m:Nat) (c:Fr) (f:Nat->P2) (a b:Int):((List.range (b+1 - a).toNat).any λi=>mtP m (qA c (a+(i:Nat))) f)=dc (Cm m c f a b):=by
 rw [Bool.eq_iff_iff,dc_iff,List.any_eq_true]
 unfold Cm
 constructor
 ·rintro⟨i,hi,h⟩
  have hi:=List.mem_range.mp hi
  refine⟨a+(i:Nat),by omega,by omega,λj hj=>?_⟩
  have:=List.all_eq_true.mp h j (List.mem_range.mpr hj)
  unfold sm qA at this
  simp only [Bool.and_eq_true,decide_eq_true_eq] at this
  exact this
 ·rintro⟨t,h1,h2,h3⟩
  refine⟨(t - a).toNat,List.mem_range.mpr (by omega),?_⟩
  rw [show a+(((t - a).toNat:Nat):Int)=t by omega]
  refine List.all_eq_true.mpr λj hj=>?_
  have:=h3 j (List.mem_range.mp hj)
  unfold sm qA
  simp only [Bool.and_eq_true,decide_eq_true_eq]
  exact this
theorem qOS (m:Nat) (c:Fr) (f:Nat->P2) (a b:Int) (ha:0<=a/\a<=10^15) (hb:0<=b/\b<=10^15)
  (C30:∀t:Int,t.natAbs<2^64->call 39 [frD m c,.int t]=some (true,.lst (bx m λj=>side (qA c t j))))
  (C31:∀g:Nat->P2,call 40 [.lst (bx m λj=>side (g j)),qAG m f]=some (false,.bl (mtP m g f))) :
  qAr call [some (false,frD m c),some (false,qAG m f),some (false,.int a),some (false,.int b),none] f_law_meets_between.body=some (.rt (false,.bl (dc (Cm m c f a b)))):=by
 rw [<-qOb]
 obtain⟨q1,q2⟩:=qDj (call:=call) (tg:=.one 4) (body:=[.ite (.call 40 [(.call 39 [(.v 0),(.v 4)]),(.v 1)]) [.ret (.k (.bl true))] []]) (λi:Nat=>mtP m (qA c (a+(i:Nat))) f) (false,.bl true) (λi:Nat=>.int (a+(i:Nat)))
  (fun σ=>∃o4:Option R,σ=[some (false,frD m c),some (false,qAG m f),some (false,.int a),some (false,.int b),o4]) (List.range (b+1 - a).toNat)
  [some (false,frD m c),some (false,qAG m f),some (false,.int a),some (false,.int b),none] ⟨_,rfl⟩ (by
   rintro i hi σ ⟨o4,rfl⟩
   have hi:=List.mem_range.mp hi
   have c1:=C30 (a+(i:Nat)) (by omega)
   have c2:=C31 (qA c (a+(i:Nat)))
   refine⟨_,rfl,λhp=>?_,λhp=>⟨_,?_,some (false,.int (a+(i:Nat))),rfl⟩⟩
   ·exact qA0 (x:=false) (r:=(false,.bl true)) (by simp only [List.set_cons_succ,List.set_cons_zero,qAl,qAk,ag,qAe,List.getElem?_cons_zero,Option.join_some,Option.bind_some,agR,List.getElem?_cons_succ,qAm,c1,Option.map_some,c2,hp]) (qAf (r:=(false,.bl true)) (by simp only [qA2,List.set_cons_succ,List.set_cons_zero,qAp]) rfl) rfl
   ·exact qAa (x:=false) (by simp only [List.set_cons_succ,List.set_cons_zero,qAl,qAk,ag,qAe,List.getElem?_cons_zero,Option.join_some,Option.bind_some,agR,List.getElem?_cons_succ,qAm,c1,Option.map_some,c2,hp]) rfl)
 have rg:qFx [.int a,.int (b+1)]=some ((List.range (b+1 - a).toNat).map λi=>.int (a+(i:Nat))):=qMS ..
 cases hp:(List.range (b+1 - a).toNat).any λi=>mtP m (qA c (a+(i:Nat))) f with
 | true=>exact qIG (ds:=[.int a,.int (b+1)]) (by simp only [qAu,pk,qAe,List.getElem?_cons_succ,List.getElem?_cons_zero,Option.join_some,Option.bind_some,pkR,qAj,qAp,Option.map_some,qAF,qAv]) rg (q1 hp) rfl
 | false =>
  obtain⟨σ',e,o4,rfl⟩:=q2 hp
  refine qCH (ds:=[.int a,.int (b+1)]) (by simp only [qAu,pk,qAe,List.getElem?_cons_succ,List.getElem?_cons_zero,Option.join_some,Option.bind_some,pkR,qAj,qAp,Option.map_some,qAF,qAv]) rg e ?_
  exact qAf (r:=(false,.bl false)) (by simp only [qA2,qAp]) rfl
end
end Dw.T
namespace Dw.T
open Dw
noncomputable def tru (m:Nat) (a:At) (c:Fr) (x:Nat) (wo:Int) (t:Int):Bool:=match a with
 | .any=>true
 | .meets f=>mtP m (qA c t) f
 | .inside f=>inP m (qA c t) f
 | .holds f=>inP m f (qA c t)
 | .near f r=>decide (gpS m (qA c t) f<=r)
 | .marked k=>decide (((x &&& k:Nat):Int)=(k:Int))
 | .touched k=>!decide (((x &&& k:Nat):Int)=0)
 | .crosses f a b=>dc (Cm m c f a b)
 | .worthy w=>decide (w<=wo)
section
variable {call:Nat->List D->Option R}
theorem qP2 (x k:Nat):qAr call [some (false,.int (x:Int)),some (false,.int (k:Int))] f_has_each.body=some (.rt (false,.bl (decide (((x &&& k:Nat):Int)=(k:Int))))):=by
 have n1:(0:Int)<=(x:Int):=by omega
 have n2:(0:Int)<=(k:Int):=by omega
 exact qAf (r:=(false,.bl (decide (((x &&& k:Nat):Int)=(k:Int))))) (by simp only [qA2,qAi,pk,qAj,qAe,List.getElem?_cons_zero,Option.join_some,Option.bind_some,pkR,List.getElem?_cons_succ,qB8,n1,n2,and_self,↓reduceIte,Int.toNat_natCast,Option.map_some,qAg,eqZ]) rfl
theorem qP1 (x k:Nat):qAr call [some (false,.int (x:Int)),some (false,.int (k:Int))] f_has_one.body=some (.rt (false,.bl (!decide (((x &&& k:Nat):Int)=0)))):=by
 have n1:(0:Int)<=(x:Int):=by omega
 have n2:(0:Int)<=(k:Int):=by omega
 exact qAf (r:=(false,.bl (!decide (((x &&& k:Nat):Int)=0)))) (by simp only [qA2,qAi,pk,qAj,qAe,List.getElem?_cons_zero,Option.join_some,Option.bind_some,pkR,List.getElem?_cons_succ,qB8,n1,n2,and_self,↓reduceIte,Int.toNat_natCast,Option.map_some,qAp,qCG,eqZ]) rfl
structure Law (call:Nat->List D->Option R) (m:Nat):Prop where
 la:∀(c:Fr) (t:Int),t.natAbs<2^64->call 39 [frD m c,.int t]=some (true,.lst (bx m λj=>side (qA c t j)))
 lm:∀g f:Nat->P2,call 40 [.lst (bx m λj=>side (g j)),qAG m f]=some (false,.bl (mtP m g f))
 lw:∀g f:Nat->P2,call 41 [.lst (bx m λj=>side (g j)),qAG m f]=some (false,.bl (inP m g f))
 lw':∀g f:Nat->P2,call 41 [qAG m g,.lst (bx m λj=>side (f j))]=some (false,.bl (inP m g f))
 lap:∀g f:Nat->P2,(∀j,BdB (g j))->(∀j,BdB (f j))->call 42 [.lst (bx m λj=>side (g j)),qAG m f]=some (false,.int (gpS m g f))
 lmb:∀(c:Fr) (f:Nat->P2) (a b:Int),(0<=a/\a<=10^15)->(0<=b/\b<=10^15)->call 43 [frD m c,qAG m f,.int a,.int b]=some (false,.bl (dc (Cm m c f a b)))
theorem qMp (m:Nat) (a:At) (ha:qGq a) (c:Fr) (hu:qKi c) (x:Nat) (wo:Int) (t:Int) (ht:0<=t/\t<=10^15) (O:Law call m) :
  qAr call [some (false,atD m a),some (false,frD m c),some (false,.int (x:Int)),some (false,.int wo),some (false,.int t),none] f_law_true_of.body=some (.rt (false,.bl (tru m a c x wo t))):=by
 have la:=O.la c t (by omega)
 have hx:=λj=>qIQ hu ht j
 have n1:(0:Int)<=(x:Int):=by omega
 have sk5:∀{z},evE call [some (false,atD m a),some (false,frD m c),some (false,.int (x:Int)),some (false,.int wo),some (false,.int t),none] (.cmp .eq (.ix (.v 0) (.k (.int 0))) (.k (.str (PySem.Str.ofString "anything"))))=some (false,.bl false)->evE call [some (false,atD m a),some (false,frD m c),some (false,.int (x:Int)),some (false,.int wo),some (false,.int t),none] (.cmp .eq (.ix (.v 0) (.k (.int 0))) (.k (.str (PySem.Str.ofString "marked"))))=some (false,.bl false)->evE call [some (false,atD m a),some (false,frD m c),some (false,.int (x:Int)),some (false,.int wo),some (false,.int t),none] (.cmp .eq (.ix (.v 0) (.k (.int 0))) (.k (.str (PySem.Str.ofString "touched"))))=some (false,.bl false)->evE call [some (false,atD m a),some (false,frD m c),some (false,.int (x:Int)),some (false,.int wo),some (false,.int t),none] (.cmp .eq (.ix (.v 0) (.k (.int 0))) (.k (.str (PySem.Str.ofString "worthy"))))=some (false,.bl false)->evE call [some (false,atD m a),some (false,frD m c),some (false,.int (x:Int)),some (false,.int wo),some (false,.int t),none] (.cmp .eq (.ix (.v 0) (.k (.int 0))) (.k (.str (PySem.Str.ofString "crosses"))))=some (false,.bl false) ->
   qAr call [some (false,atD m a),some (false,frD m c),some (false,.int (x:Int)),some (false,.int wo),some (false,.int t),some (false,.lst (bx m λj=>side (qA c t j)))] [.ite (.cmp .eq (.ix (.v 0) (.k (.int 0))) (.k (.str (PySem.Str.ofString "meets")))) [.ret (.call 40 [(.v 5),(.ix (.v 0) (.k (.int 1)))])] [],.ite (.cmp .eq (.ix (.v 0) (.k (.int 0))) (.k (.str (PySem.Str.ofString "inside")))) [.ret (.call 41 [(.v 5),(.ix (.v 0) (.k (.int 1)))])] [],.ite (.cmp .eq (.ix (.v 0) (.k (.int 0))) (.k (.str (PySem.Str.ofString "holds")))) [.ret (.call 41 [(.ix (.v 0) (.k (.int 1))),(.v 5)])] [],.ret (.cmp .le (.call 42 [(.v 5),(.ix (.v 0) (.k (.int 1)))]) (.ix (.v 0) (.k (.int 2))))]=z->qAr call [some (false,atD m a),some (false,frD m c),some (false,.int (x:Int)),some (false,.int wo),some (false,.int t),none] f_law_true_of.body=z:=λ{z} a1 a2 a3 a4 a5 k=>by
  refine qAa a1 (qAa a2 (qAa a3 (qAa a4 (qAa a5 ?_))))
  exact qAn (true,.lst (bx m λj=>side (qA c t j))) (by simp only [qAl,qAk,ag,qAe,List.getElem?_cons_succ,List.getElem?_cons_zero,Option.join_some,Option.bind_some,agR,qAm,la]) k
 cases a with
 | any=>exact qA0 (x:=false) rfl (qAf (r:=(false,.bl true)) rfl rfl) rfl
 | marked k =>
  have n2:(0:Int)<=(k:Int):=by omega
  have i1:ixP (atD m (.marked k)) (.int 1)=some (false,.int (k:Int)):=rfl
  refine qAa (x:=false) rfl ?_
  exact qA0 (x:=false) rfl (qAf (r:=(false,.bl (decide (((x &&& k:Nat):Int)=(k:Int))))) (by simp only [qA2,qAi,pk,qAj,qAe,List.getElem?_cons_succ,List.getElem?_cons_zero,Option.join_some,Option.bind_some,pkR,qAH,qAp,Option.map_some,i1,qB8,n1,n2,and_self,↓reduceIte,Int.toNat_natCast,qAg,eqZ]) rfl) rfl
 | touched k =>
  have n2:(0:Int)<=(k:Int):=by omega
  have i1:ixP (atD m (.touched k)) (.int 1)=some (false,.int (k:Int)):=rfl
  refine qAa (x:=false) rfl (qAa (x:=false) rfl ?_)
  exact qA0 (x:=false) rfl (qAf (r:=(false,.bl (!decide (((x &&& k:Nat):Int)=0)))) (by simp only [qA2,qAi,pk,qAj,qAe,List.getElem?_cons_succ,List.getElem?_cons_zero,Option.join_some,Option.bind_some,pkR,qAH,qAp,Option.map_some,i1,qB8,n1,n2,and_self,↓reduceIte,Int.toNat_natCast,qCG,eqZ]) rfl) rfl
 | worthy w =>
  have i1:ixP (atD m (.worthy w)) (.int 1)=some (false,.int w):=rfl
  refine qAa (x:=false) rfl (qAa (x:=false) rfl (qAa (x:=false) rfl ?_))
  exact qA0 (x:=false) rfl (qAf (r:=(false,.bl (decide (w<=wo)))) (by simp only [qA2,qAi,pk,qAe,List.getElem?_cons_succ,List.getElem?_cons_zero,Option.join_some,Option.bind_some,pkR,qAH,qAp,Option.map_some,i1,qDX]) rfl) rfl
 | crosses f a b =>
  have i1:ixP (atD m (.crosses f a b)) (.int 1)=some (false,qAG m f):=rfl
  have i2:ixP (atD m (.crosses f a b)) (.int 2)=some (false,.int a):=rfl
  have i3:ixP (atD m (.crosses f a b)) (.int 3)=some (false,.int b):=rfl
  have q:=O.lmb c f a b ha.2.1 ha.2.2
  refine qAa (x:=false) rfl (qAa (x:=false) rfl (qAa (x:=false) rfl (qAa (x:=false) rfl ?_)))
  exact qA0 (x:=false) rfl (qAf (r:=(false,.bl (dc (Cm m c f a b)))) (by simp only [qA2,qAl,qAk,ag,qAe,List.getElem?_cons_succ,List.getElem?_cons_zero,Option.join_some,Option.bind_some,agR,qAH,pk,pkR,qAp,Option.map_some,i1,i2,i3,qAm,q]) rfl) rfl
 | meets f =>
  have i1:ixP (atD m (.meets f)) (.int 1)=some (false,qAG m f):=rfl
  have q:=O.lm (qA c t) f
  refine sk5 rfl rfl rfl rfl rfl ?_
  exact qA0 (x:=false) rfl (qAf (r:=(false,.bl (mtP m (qA c t) f))) (by simp only [qA2,qAl,qAk,ag,qAe,List.getElem?_cons_succ,List.getElem?_cons_zero,Option.join_some,Option.bind_some,agR,qAH,pk,pkR,qAp,Option.map_some,i1,qAm,q]) rfl) rfl
 | inside f =>
  have i1:ixP (atD m (.inside f)) (.int 1)=some (false,qAG m f):=rfl
  have q:=O.lw (qA c t) f
  refine sk5 rfl rfl rfl rfl rfl (qAa (x:=false) rfl ?_)
  exact qA0 (x:=false) rfl (qAf (r:=(false,.bl (inP m (qA c t) f))) (by simp only [qA2,qAl,qAk,ag,qAe,List.getElem?_cons_succ,List.getElem?_cons_zero,Option.join_some,Option.bind_some,agR,qAH,pk,pkR,qAp,Option.map_some,i1,qAm,q]) rfl) rfl
 | holds f =>
  have i1:ixP (atD m (.holds f)) (.int 1)=some (false,qAG m f):=rfl
  have q:=O.lw' f (qA c t)
  refine sk5 rfl rfl rfl rfl rfl (qAa (x:=false) rfl (qAa (x:=false) rfl ?_))
  exact qA0 (x:=false) rfl (qAf (r:=(false,.bl (inP m f (qA c t)))) (by simp only [qA2,qAl,qAk,ag,qAH,pk,qAe,List.getElem?_cons_zero,Option.join_some,Option.bind_some,pkR,qAp,Option.map_some,i1,List.getElem?_cons_succ,agR,qAm,q]) rfl) rfl
 | near f r =>
  have i1:ixP (atD m (.near f r)) (.int 1)=some (false,qAG m f):=rfl
  have i2:ixP (atD m (.near f r)) (.int 2)=some (false,.int r):=rfl
  have q:=O.lap (qA c t) f hx λj=>(ha j).b
  refine sk5 rfl rfl rfl rfl rfl (qAa (x:=false) rfl (qAa (x:=false) rfl (qAa (x:=false) rfl ?_)))
  exact qAf (r:=(false,.bl (decide (gpS m (qA c t) f<=r)))) (by simp only [qA2,qAi,pk,qAl,qAk,ag,qAe,List.getElem?_cons_succ,List.getElem?_cons_zero,Option.join_some,Option.bind_some,agR,qAH,pkR,qAp,Option.map_some,i1,qAm,q,i2,qBA]) rfl
end
end Dw.T
namespace Dw.T
open Dw
structure To where
 cov:Fr
 hrt:Fr
 so:Nat
 ev:Nat
 n:Int
 lo:Int
 hi:Int
 su:Int
noncomputable def toD (m:Nat) (o:To):D:=.tup [frD m o.cov,frD m o.hrt,.int (o.so:Int),.int (o.ev:Int),.int o.n,.int o.lo,.int o.hi,.int o.su]
noncomputable def Le4 (c h:Q4):Prop:=c.1<=h.1/\h.2.1<=c.2.1/\c.2.2.1<=h.2.2.1/\h.2.2.2<=c.2.2.2
structure ToOk (o:To):Prop where
 cov:qKi o.cov
 hrt:qKi o.hrt
 le:∀j,Le4 (o.cov j) (o.hrt j)
 mr:o.ev &&& o.so=o.ev
 wo:o.lo<=o.hi
inductive Wd where|ev|no|op
 deriving DecidableEq
noncomputable def wdD:Wd->D
 | .ev=>tx "every"
 | .no=>tx "none"
 | .op=>tx "open"
noncomputable def inn (a:At) (o:To):Fr:=match a with
 | .inside _=>o.cov
 | _=>o.hrt
noncomputable def out (a:At) (o:To):Fr:=match a with
 | .inside _=>o.hrt
 | _=>o.cov
noncomputable def wd2 (p q:Bool):Wd:=if q then (if p then .ev else .op) else .no
noncomputable def vf (p q:Bool):Wd:=if p then .ev else if q then .no else .op
theorem qOM {p q:Bool}(h:p=true->q=true):vf p (!q)=wd2 p q:=by cases p<;>cases q<;>first|rfl|exact absurd (h rfl) (by decide)
noncomputable def wrd (m:Nat) (a:At) (o:To) (t:Int):Wd:=wd2 (tru m a (inn a o) o.ev o.lo t) (tru m a (out a o) o.so o.hi t)
theorem qMV {c h:Fr}{j:Nat}{t:Int}(le:Le4 (c j) (h j)) (ht:0<=t):(qA c t j).1<=(qA h t j).1/\(qA h t j).2<=(qA c t j).2:=by
 obtain⟨l1,l2,l3,l4⟩:=le
 have a:=Int.mul_le_mul_of_nonneg_right l3 ht
 have b:=Int.mul_le_mul_of_nonneg_right l4 ht
 unfold qA
 exact⟨Int.add_le_add l1 a,Int.add_le_add l2 b⟩
theorem qD4 {m:Nat}{p q:Nat->Bool}(h:∀j,p j=true->q j=true) (hp:(List.range m).all p=true):(List.range m).all q=true:=
 List.all_eq_true.mpr λj hj=>h j (List.all_eq_true.mp hp j hj)
theorem qFs {f g:Nat->Int}:∀l:List Nat,(∀j,f j<=g j)->(l.map f).sum<=(l.map g).sum
 | [],_=>Int.le_refl _
 | x::r,h=>by
  rw [List.map_cons,List.map_cons,List.sum_cons,List.sum_cons]
  exact Int.add_le_add (h x) (qFs r h)
theorem mono (m:Nat) (a:At) (o:To) (ok:ToOk o) (t:Int) (ht:0<=t) (ha:qGq a):tru m a (inn a o) o.ev o.lo t=true->tru m a (out a o) o.so o.hi t=true:=by
 have le:=λj=>qMV (ok.le j) ht
 cases a with
 | any=>exact λ_=>rfl
 | meets f =>
  refine qD4 λj h=>?_
  have:=le j
  unfold sm at h ⊢
  simp only [Bool.and_eq_true,decide_eq_true_eq] at h ⊢
  simp only [inn,out] at h ⊢
  omega
 | inside f =>
  refine qD4 λj h=>?_
  have:=le j
  unfold si at h ⊢
  simp only [Bool.and_eq_true,decide_eq_true_eq] at h ⊢
  simp only [inn,out] at h ⊢
  omega
 | holds f =>
  refine qD4 λj h=>?_
  have:=le j
  unfold si at h ⊢
  simp only [Bool.and_eq_true,decide_eq_true_eq] at h ⊢
  simp only [inn,out] at h ⊢
  omega
 | near f r =>
  intro h
  have h:=of_decide_eq_true (show decide (gpS m (qA o.hrt t) f<=r)=true from h)
  refine decide_eq_true (p:=gpS m (qA o.cov t) f<=r) (Int.le_trans ?_ h)
  refine qFs _ λj=>?_
  have:=le j
  have g1:gp (qA o.cov t j) (f j)<=gp (qA o.hrt t j) (f j):=by unfold gp;omega
  have g0:0<=gp (qA o.cov t j) (f j):=by unfold gp;omega
  exact Int.mul_le_mul g1 g1 g0 (Int.le_trans g0 g1)
 | marked k =>
  intro h
  have h:o.ev &&& k=k:=Int.ofNat_inj.mp (of_decide_eq_true (show decide (((o.ev &&& k:Nat):Int)=(k:Int))=true from h))
  refine decide_eq_true (p:=((o.so &&& k:Nat):Int)=(k:Int)) ?_
  have e:o.so &&& k=k:=by
   rw [<-h,<-Nat.and_assoc,Nat.and_comm o.so,ok.mr]
  rw [e]
 | touched k =>
  intro h
  have h:¬((o.ev &&& k:Nat):Int)=0:=by
   have h:(!decide (((o.ev &&& k:Nat):Int)=0))=true:=h
   simpa using h
  have g:¬((o.so &&& k:Nat):Int)=0:=λz=>h (by
   have z:o.so &&& k=0:=by omega
   rw [<-ok.mr,Nat.and_assoc,z,Nat.and_zero]
   rfl)
  show (!decide (((o.so &&& k:Nat):Int)=0))=true
  rw [decide_eq_false g]
  rfl
 | crosses f a b =>
  intro h
  obtain⟨t',h1,h2,h3⟩:=dc_iff.mp (show dc (Cm m o.hrt f a b)=true from h)
  refine qQl (p:=Cm m o.cov f a b) ⟨t',h1,h2,λj hj=>?_⟩
  have:=h3 j hj
  have q:=qMV (ok.le j) (t:=t') (by have:=ha.2.1;omega)
  unfold qA at q
  simp only at q
  omega
 | worthy w =>
  intro h
  have h:=of_decide_eq_true (show decide (w<=o.lo)=true from h)
  exact decide_eq_true (p:=w<=o.hi) (Int.le_trans h ok.wo)
section
variable {call:Nat->List D->Option R}
theorem qOC (p q:Bool):qAr call [some (false,.bl p),some (false,.bl q)] f_verdict_from.body=some (.rt (false,wdD (vf p q))):=by
 cases p<;>cases q<;>rfl
structure On (call:Nat->List D->Option R) (m:Nat) (o:To) (t:Int):Prop where
 bm:∀g f:Nat->P2,call 4 [qAG m g,qAG m f]=some (false,.bl (mtP m g f))
 bi:∀g f:Nat->P2,call 5 [qAG m g,qAG m f]=some (false,.bl (inP m g f))
 bg:∀g f:Nat->P2,(∀j,BdB (g j))->(∀j,BdB (f j))->call 6 [qAG m g,qAG m f]=some (false,.int (gpS m g f))
 tc:call 17 [toD m o]=some (false,frD m o.cov)
 th:call 18 [toD m o]=some (false,frD m o.hrt)
 so:call 19 [toD m o]=some (false,.int (o.so:Int))
 ev:call 20 [toD m o]=some (false,.int (o.ev:Int))
 lo:call 21 [toD m o]=some (false,.int o.lo)
 hi:call 22 [toD m o]=some (false,.int o.hi)
 vf:∀p q:Bool,call 23 [.bl p,.bl q]=some (false,wdD (vf p q))
 ca:call 24 [toD m o,.int t]=some (false,qAG m (qA o.cov t))
 ha:call 25 [toD m o,.int t]=some (false,qAG m (qA o.hrt t))
 he:∀x k:Nat,call 26 [.int (x:Int),.int (k:Int)]=some (false,.bl (decide (((x &&& k:Nat):Int)=(k:Int))))
 ho:∀x k:Nat,call 27 [.int (x:Int),.int (k:Int)]=some (false,.bl (!decide (((x &&& k:Nat):Int)=0)))
 cr:∀(c:Fr) (f:Nat->P2) (a b:Int),qKi c->call 28 [frD m c,qAG m f,.int a,.int b]=some (false,.bl (dc (Cm m c f a b)))
noncomputable def atF:At->Nat
 | .any=>52|.meets _=>54|.inside _=>56|.holds _=>58|.near _ _=>60|.marked _=>62|.touched _=>64|.crosses _ _ _=>66|.worthy _=>68
noncomputable def atG:At->Nat
 | .any=>51|.meets _=>53|.inside _=>55|.holds _=>57|.near _ _=>59|.marked _=>61|.touched _=>63|.crosses _ _ _=>65|.worthy _=>67
noncomputable def atB:At->Fd
 | .any=>qA6|.meets _=>qBn|.inside _=>qBh|.holds _=>qBo|.near _ _=>f_Near_verdict|.marked _=>qBg|.touched _=>qA9|.crosses _ _ _=>f_Crosses_verdict|.worthy _=>qBf
noncomputable def atC:At->Fd
 | .any=>qBi|.meets _=>qBM|.inside _=>qBz|.holds _=>qBN|.near _ _=>qB6|.marked _=>qBy|.touched _=>qBm|.crosses _ _ _=>qBp|.worthy _=>qBx
noncomputable def atO (m:Nat) (a:At):D:=.obj (waO m a).1 (waO m a).2
theorem qGB (m:Nat) (a:At) (hok:qGq a) (o:To) (ok:ToOk o) (t:Int) (ht:0<=t/\t<=10^15) (O:On call m o t) :
  qAr call (some (false,atO m a)::some (false,toD m o)::some (false,.int t)::List.replicate ((atB a).ns - 3) none) (atB a).body=some (.rt (false,wdD (wrd m a o t))):=by
 have hm:=mono m a o ok t ht.1 hok
 unfold wrd
 rw [<-qOM hm]
 clear hm
 have tc:=O.tc
 have th:=O.th
 have so:=O.so
 have ev:=O.ev
 have lo:=O.lo
 have hi:=O.hi
 have ca:=O.ca
 have hx:=O.ha
 have v:=O.vf
 cases a with
 | any=>rfl
 | meets f =>
  have fb:qCQ 0 (PySem.Str.ofString "box") (atO m (.meets f))=some (false,qAG m f):=rfl
  have q1:=O.bm (qA o.cov t) f
  have q2:=O.bm (qA o.hrt t) f
  exact qAf (r:=(false,wdD (vf (mtP m (qA o.hrt t) f) (!mtP m (qA o.cov t) f)))) (by simp only [qA2,qAl,qAk,ag,qAe,List.getElem?_cons_succ,List.getElem?_cons_zero,Option.join_some,Option.bind_some,agR,qAm,hx,Option.map_some,qA4,qBT,qAR,fb,q2,qCM,ca,q1,v]) rfl
 | inside f =>
  have fb:qCQ 0 (PySem.Str.ofString "box") (atO m (.inside f))=some (false,qAG m f):=rfl
  have q1:=O.bi (qA o.cov t) f
  have q2:=O.bi (qA o.hrt t) f
  exact qAf (r:=(false,wdD (vf (inP m (qA o.cov t) f) (!inP m (qA o.hrt t) f)))) (by simp only [qA2,qAl,qAk,ag,qAe,List.getElem?_cons_succ,List.getElem?_cons_zero,Option.join_some,Option.bind_some,agR,qAm,ca,Option.map_some,qA4,qBT,qAR,fb,q1,qCM,hx,q2,v]) rfl
 | holds f =>
  have fb:qCQ 0 (PySem.Str.ofString "box") (atO m (.holds f))=some (false,qAG m f):=rfl
  have q1:=O.bi f (qA o.cov t)
  have q2:=O.bi f (qA o.hrt t)
  exact qAf (r:=(false,wdD (vf (inP m f (qA o.hrt t)) (!inP m f (qA o.cov t))))) (by simp only [qA2,qAl,qAk,ag,qA4,qBT,qAR,qAe,List.getElem?_cons_zero,Option.join_some,fb,Option.map_some,List.getElem?_cons_succ,Option.bind_some,agR,qAm,hx,q2,qCM,ca,q1,v]) rfl
 | near f r =>
  have fb:qCQ 0 (PySem.Str.ofString "box") (atO m (.near f r))=some (false,qAG m f):=rfl
  have fc:qCQ 1 (PySem.Str.ofString "far") (atO m (.near f r))=some (false,.int r):=rfl
  have q1:=O.bg (qA o.cov t) f (λj=>qIQ ok.cov ht j) λj=>(hok j).b
  have q2:=O.bg (qA o.hrt t) f (λj=>qIQ ok.hrt ht j) λj=>(hok j).b
  have e:decide (r<gpS m (qA o.cov t) f)=!decide (gpS m (qA o.cov t) f<=r):=by
   by_cases h:gpS m (qA o.cov t) f<=r
   ·rw [decide_eq_true h,decide_eq_false (by omega)];rfl
   ·rw [decide_eq_false h,decide_eq_true (by omega)];rfl
  show qAr call [some (false,atO m (.near f r)),some (false,toD m o),some (false,.int t),none,none] f_Near_verdict.body=_
  refine qAn (false,.int (gpS m (qA o.hrt t) f)) (by simp only [qAl,qAk,ag,qAe,List.getElem?_cons_succ,List.getElem?_cons_zero,Option.join_some,Option.bind_some,agR,qAm,hx,Option.map_some,qA4,qBT,qAR,fb,q2]) ?_
  refine qAn (false,.int (gpS m (qA o.cov t) f)) (by simp only [qAz,Bool.and_false,List.set_cons_succ,List.set_cons_zero,qAl,qAk,ag,qAe,List.getElem?_cons_succ,List.getElem?_cons_zero,Option.join_some,Option.bind_some,agR,qAm,ca,Option.map_some,qA4,qBT,qAR,fb,q1]) ?_
  exact qAf (r:=(false,wdD (vf (decide (gpS m (qA o.hrt t) f<=r)) (!decide (gpS m (qA o.cov t) f<=r))))) (by simp only [qA2,qAz,Bool.and_false,List.set_cons_succ,List.set_cons_zero,qAl,qAk,ag,qAi,pk,qAe,List.getElem?_cons_succ,List.getElem?_cons_zero,Option.join_some,Option.bind_some,pkR,qA4,qBT,qAR,fc,Option.map_some,qBA,qBP,e,qAm,v]) rfl
 | marked k =>
  have fb:qCQ 0 (PySem.Str.ofString "marks") (atO m (.marked k))=some (false,.int (k:Int)):=rfl
  have q1:=O.he o.so k
  have q2:=O.he o.ev k
  exact qAf (r:=(false,wdD (vf (decide (((o.ev &&& k:Nat):Int)=(k:Int))) (!decide (((o.so &&& k:Nat):Int)=(k:Int)))))) (by simp only [qA2,qAl,qAk,ag,qAe,List.getElem?_cons_succ,List.getElem?_cons_zero,Option.join_some,Option.bind_some,agR,qAm,ev,Option.map_some,qA4,qBT,qAR,fb,q2,qCM,so,q1,v]) rfl
 | touched k =>
  have fb:qCQ 0 (PySem.Str.ofString "marks") (atO m (.touched k))=some (false,.int (k:Int)):=rfl
  have q1:=O.ho o.so k
  have q2:=O.ho o.ev k
  exact qAf (r:=(false,wdD (vf (!decide (((o.ev &&& k:Nat):Int)=0)) (!(!decide (((o.so &&& k:Nat):Int)=0)))))) (by simp only [qA2,qAl,qAk,ag,qAe,List.getElem?_cons_succ,List.getElem?_cons_zero,Option.join_some,Option.bind_some,agR,qAm,ev,Option.map_some,qA4,qBT,qAR,fb,q2,qCM,so,q1,v]) rfl
 | crosses f a b =>
  have fb:qCQ 0 (PySem.Str.ofString "box") (atO m (.crosses f a b))=some (false,qAG m f):=rfl
  have fc:qCQ 1 (PySem.Str.ofString "first") (atO m (.crosses f a b))=some (false,.int a):=rfl
  have fd:qCQ 2 (PySem.Str.ofString "last") (atO m (.crosses f a b))=some (false,.int b):=rfl
  have q1:=O.cr o.cov f a b ok.cov
  have q2:=O.cr o.hrt f a b ok.hrt
  show qAr call [some (false,atO m (.crosses f a b)),some (false,toD m o),some (false,.int t),none,none] f_Crosses_verdict.body=_
  refine qAn (false,.bl (dc (Cm m o.hrt f a b))) (by simp only [qAl,qAk,ag,qAe,List.getElem?_cons_succ,List.getElem?_cons_zero,Option.join_some,Option.bind_some,agR,qAm,th,Option.map_some,qA4,qBT,qAR,fb,fc,fd,q2]) ?_
  refine qAn (false,.bl (dc (Cm m o.cov f a b))) (by simp only [qAz,Bool.and_false,List.set_cons_succ,List.set_cons_zero,qAl,qAk,ag,qAe,List.getElem?_cons_succ,List.getElem?_cons_zero,Option.join_some,Option.bind_some,agR,qAm,tc,Option.map_some,qA4,qBT,qAR,fb,fc,fd,q1]) ?_
  exact qAf (r:=(false,wdD (vf (dc (Cm m o.hrt f a b)) (!dc (Cm m o.cov f a b))))) (by simp only [qA2,qAz,Bool.and_false,List.set_cons_succ,List.set_cons_zero,qAl,qAk,ag,qAe,List.getElem?_cons_succ,List.getElem?_cons_zero,Option.join_some,Option.bind_some,agR,qCM,qBT,qAR,Option.map_some,qAm,v]) rfl
 | worthy w =>
  have fb:qCQ 0 (PySem.Str.ofString "least") (atO m (.worthy w))=some (false,.int w):=rfl
  have e:decide (o.hi<w)=!decide (w<=o.hi):=by
   by_cases h:w<=o.hi
   ·rw [decide_eq_true h,decide_eq_false (by omega)];rfl
   ·rw [decide_eq_false h,decide_eq_true (by omega)];rfl
  exact qAf (r:=(false,wdD (vf (decide (w<=o.lo)) (!decide (w<=o.hi))))) (by simp only [qA2,qAl,qAk,ag,qAi,pk,qAe,List.getElem?_cons_succ,List.getElem?_cons_zero,Option.join_some,Option.bind_some,agR,qAm,lo,Option.map_some,qA4,qBT,qAR,fb,qDX,hi,qCr,e,v]) rfl
theorem qPI (m:Nat) (u:Th):D.tup (bx m λj=>sD (u.sw j))=frD m (swQ u):=rfl
noncomputable def trT (m:Nat) (a:At) (u:Th) (t:Int):Bool:=tru m a (swQ u) u.mr u.wo t
structure Ow (call:Nat->List D->Option R) (m:Nat) (u:Th) (t:Int):Prop where
 bm:∀g f:Nat->P2,call 4 [qAG m g,qAG m f]=some (false,.bl (mtP m g f))
 bi:∀g f:Nat->P2,call 5 [qAG m g,qAG m f]=some (false,.bl (inP m g f))
 bg:∀g f:Nat->P2,(∀j,BdB (g j))->(∀j,BdB (f j))->call 6 [qAG m g,qAG m f]=some (false,.int (gpS m g f))
 sw:call 13 [thD m u]=some (false,frD m (swQ u))
 mr:call 14 [thD m u]=some (false,.int (u.mr:Int))
 wo:call 15 [thD m u]=some (false,.int u.wo)
 tb:call 16 [thD m u,.int t]=some (false,qAG m (qA (swQ u) t))
 he:∀x k:Nat,call 26 [.int (x:Int),.int (k:Int)]=some (false,.bl (decide (((x &&& k:Nat):Int)=(k:Int))))
 ho:∀x k:Nat,call 27 [.int (x:Int),.int (k:Int)]=some (false,.bl (!decide (((x &&& k:Nat):Int)=0)))
 cr:∀(c:Fr) (f:Nat->P2) (a b:Int),qKi c->call 28 [frD m c,qAG m f,.int a,.int b]=some (false,.bl (dc (Cm m c f a b)))
theorem qGy {u:Th}(h:qEN u):qKi (swQ u):=λj=>⟨(h.1 j).1,(h.1 j).2.1,(h.1 j).2.2,(h.1 j).2.2⟩
theorem qKu (m:Nat) (a:At) (ha:qGq a) (u:Th) (hu:qEN u) (t:Int) (ht:0<=t/\t<=10^15) (O:Ow call m u t) :
  qAr call [some (false,atO m a),some (false,thD m u),some (false,.int t)] (atC a).body=some (.rt (false,.bl (trT m a u t))):=by
 have tb:=O.tb
 have sw:=O.sw
 have mr:=O.mr
 have wo:=O.wo
 cases a with
 | any=>exact qAf (r:=(false,.bl true)) (by simp only [qA2,qAp]) rfl
 | meets f =>
  have fb:qCQ 0 (PySem.Str.ofString "box") (atO m (.meets f))=some (false,qAG m f):=rfl
  have q:=O.bm (qA (swQ u) t) f
  exact qAf (r:=(false,.bl (mtP m (qA (swQ u) t) f))) (by simp only [qA2,qAl,qAk,ag,qAe,List.getElem?_cons_succ,List.getElem?_cons_zero,Option.join_some,Option.bind_some,agR,qAm,tb,Option.map_some,qA4,qBT,qAR,fb,q]) rfl
 | inside f =>
  have fb:qCQ 0 (PySem.Str.ofString "box") (atO m (.inside f))=some (false,qAG m f):=rfl
  have q:=O.bi (qA (swQ u) t) f
  exact qAf (r:=(false,.bl (inP m (qA (swQ u) t) f))) (by simp only [qA2,qAl,qAk,ag,qAe,List.getElem?_cons_succ,List.getElem?_cons_zero,Option.join_some,Option.bind_some,agR,qAm,tb,Option.map_some,qA4,qBT,qAR,fb,q]) rfl
 | holds f =>
  have fb:qCQ 0 (PySem.Str.ofString "box") (atO m (.holds f))=some (false,qAG m f):=rfl
  have q:=O.bi f (qA (swQ u) t)
  exact qAf (r:=(false,.bl (inP m f (qA (swQ u) t)))) (by simp only [qA2,qAl,qAk,ag,qA4,qBT,qAR,qAe,List.getElem?_cons_zero,Option.join_some,fb,Option.map_some,List.getElem?_cons_succ,Option.bind_some,agR,qAm,tb,q]) rfl
 | near f r =>
  have fb:qCQ 0 (PySem.Str.ofString "box") (atO m (.near f r))=some (false,qAG m f):=rfl
  have fc:qCQ 1 (PySem.Str.ofString "far") (atO m (.near f r))=some (false,.int r):=rfl
  have q:=O.bg (qA (swQ u) t) f (λj=>qIQ (qGy hu) ht j) λj=>(ha j).b
  exact qAf (r:=(false,.bl (decide (gpS m (qA (swQ u) t) f<=r)))) (by simp only [qA2,qAi,pk,qAl,qAk,ag,qAe,List.getElem?_cons_succ,List.getElem?_cons_zero,Option.join_some,Option.bind_some,agR,qAm,tb,Option.map_some,qA4,qBT,qAR,fb,q,fc,qBA]) rfl
 | marked k =>
  have fb:qCQ 0 (PySem.Str.ofString "marks") (atO m (.marked k))=some (false,.int (k:Int)):=rfl
  have q:=O.he u.mr k
  exact qAf (r:=(false,.bl (decide (((u.mr &&& k:Nat):Int)=(k:Int))))) (by simp only [qA2,qAl,qAk,ag,qAe,List.getElem?_cons_succ,List.getElem?_cons_zero,Option.join_some,Option.bind_some,agR,qAm,mr,Option.map_some,qA4,qBT,qAR,fb,q]) rfl
 | touched k =>
  have fb:qCQ 0 (PySem.Str.ofString "marks") (atO m (.touched k))=some (false,.int (k:Int)):=rfl
  have q:=O.ho u.mr k
  exact qAf (r:=(false,.bl (!decide (((u.mr &&& k:Nat):Int)=0)))) (by simp only [qA2,qAl,qAk,ag,qAe,List.getElem?_cons_succ,List.getElem?_cons_zero,Option.join_some,Option.bind_some,agR,qAm,mr,Option.map_some,qA4,qBT,qAR,fb,q]) rfl
 | crosses f a b =>
  have fb:qCQ 0 (PySem.Str.ofString "box") (atO m (.crosses f a b))=some (false,qAG m f):=rfl
  have fc:qCQ 1 (PySem.Str.ofString "first") (atO m (.crosses f a b))=some (false,.int a):=rfl
  have fd:qCQ 2 (PySem.Str.ofString "last") (atO m (.crosses f a b))=some (false,.int b):=rfl
  have q:=O.cr (swQ u) f a b (qGy hu)
  exact qAf (r:=(false,.bl (dc (Cm m (swQ u) f a b)))) (by simp only [qA2,qAl,qAk,ag,qAe,List.getElem?_cons_succ,List.getElem?_cons_zero,Option.join_some,Option.bind_some,agR,qAm,sw,Option.map_some,qA4,qBT,qAR,fb,fc,fd,q]) rfl
 | worthy w =>
  have fb:qCQ 0 (PySem.Str.ofString "least") (atO m (.worthy w))=some (false,.int w):=rfl
  exact qAf (r:=(false,.bl (decide (w<=u.wo)))) (by simp only [qA2,qAi,pk,qAl,qAk,ag,qAe,List.getElem?_cons_succ,List.getElem?_cons_zero,Option.join_some,Option.bind_some,agR,qAm,wo,Option.map_some,qA4,qBT,qAR,fb,qDX]) rfl
end
structure Tl (u:Th) (o:To):Prop where
 c:∀j,Le4 (o.cov j) (swQ u j)
 h:∀j,Le4 (swQ u j) (o.hrt j)
 so:u.mr &&& o.so=u.mr
 ev:o.ev &&& u.mr=o.ev
 lo:o.lo<=u.wo
 hi:u.wo<=o.hi
theorem qO3 (m:Nat) (a:At) (ha:qGq a) (u:Th) (hu:qEN u) (o:To) (ok:ToOk o) (l:Tl u o) (t:Int) (ht:0<=t):(tru m a (inn a o) o.ev o.lo t=true->trT m a u t=true)/\(trT m a u t=true->tru m a (out a o) o.so o.hi t=true):=by
 have k1:ToOk ⟨o.cov,swQ u,o.so,u.mr,0,u.wo,o.hi,0⟩:=⟨ok.cov,qGy hu,l.c,l.so,l.hi⟩
 have k2:ToOk ⟨swQ u,o.hrt,u.mr,o.ev,0,o.lo,u.wo,0⟩:=⟨qGy hu,ok.hrt,l.h,l.ev,l.lo⟩
 have q1:=mono m a _ k1 t ht ha
 have q2:=mono m a _ k2 t ht ha
 cases a<;>exact⟨‹_›,‹_›⟩
end Dw.T
namespace Dw.T
open Dw
noncomputable def mnv (l:List Int):Int:=(mnL l).getD 0
noncomputable def mxv (l:List Int):Int:=(mxL l).getD 0
theorem qND:∀(l:List Int) (b:Int),(l.foldl (λm x=>if x<m then x else m) b=b∨l.foldl (λm x=>if x<m then x else m) b∈l)/\l.foldl (λm x=>if x<m then x else m) b<=b/\∀y∈l,l.foldl (λm x=>if x<m then x else m) b<=y
 | [],b=>⟨.inl rfl,Int.le_refl _,λ_ h=>nomatch h⟩
 | x::l,b=>by
  rw [List.foldl_cons]
  obtain⟨h1,h2,h3⟩:=qND l (if x<b then x else b)
  generalize l.foldl (λm x=>if x<m then x else m) (if x<b then x else b)=z at *
  by_cases hx:x<b
  ·rw [if_pos hx] at h1 h2
   refine⟨.inr (h1.elim (λe=>e▸List.mem_cons_self) (List.mem_cons_of_mem _)),by omega,λy hy=>(List.mem_cons.mp hy).elim (λe=>e▸h2) (h3 y)⟩
  ·rw [if_neg hx] at h1 h2
   exact⟨h1.imp id (List.mem_cons_of_mem _),h2,λy hy=>(List.mem_cons.mp hy).elim (λe=>by omega) (h3 y)⟩
theorem qNz:∀(l:List Int) (b:Int),(l.foldl (λm x=>if m<x then x else m) b=b∨l.foldl (λm x=>if m<x then x else m) b∈l)/\b<=l.foldl (λm x=>if m<x then x else m) b/\∀y∈l,y<=l.foldl (λm x=>if m<x then x else m) b
 | [],b=>⟨.inl rfl,Int.le_refl _,λ_ h=>nomatch h⟩
 | x::l,b=>by
  rw [List.foldl_cons]
  obtain⟨h1,h2,h3⟩:=qNz l (if b<x then x else b)
  generalize l.foldl (λm x=>if m<x then x else m) (if b<x then x else b)=z at *
  by_cases hx:b<x
  ·rw [if_pos hx] at h1 h2
   refine⟨.inr (h1.elim (λe=>e▸List.mem_cons_self) (List.mem_cons_of_mem _)),by omega,λy hy=>(List.mem_cons.mp hy).elim (λe=>e▸h2) (h3 y)⟩
  ·rw [if_neg hx] at h1 h2
   exact⟨h1.imp id (List.mem_cons_of_mem _),h2,λy hy=>(List.mem_cons.mp hy).elim (λe=>by omega) (h3 y)⟩
theorem qFI {l:List Int}(h:l≠[]):mnL l=some (mnv l)/\mnv l∈l/\∀a∈l,mnv l<=a:=by
 cases l with
 | nil=>exact absurd rfl h
 | cons a r =>
  obtain⟨h1,h2,h3⟩:=qND r a
  exact⟨rfl,List.mem_cons.mpr h1,λy hy=>(List.mem_cons.mp hy).elim (λe=>e▸h2) (h3 y)⟩
theorem qFG {l:List Int}(h:l≠[]):mxL l=some (mxv l)/\mxv l∈l/\∀a∈l,a<=mxv l:=by
 cases l with
 | nil=>exact absurd rfl h
 | cons a r =>
  obtain⟨h1,h2,h3⟩:=qNz r a
  exact⟨rfl,List.mem_cons.mpr h1,λy hy=>(List.mem_cons.mp hy).elim (λe=>e▸h2) (h3 y)⟩
theorem qEj {l:List Int}(h:l≠[]):mnv l<=mxv l:=Int.le_trans ((qFI h).2.2 _ (qFG h).2.1) (Int.le_refl _)
theorem qFJ {α:Type}{ts:List α}(h:ts≠[]) (f:α->Int):biP .min [.lst (ts.map λu=>.int (f u))]=some (false,.int (mnv (ts.map f))):=by
 show qNF (ts.map λu=>.int (f u))=_
 unfold qNF
 rw [qBB]
 simp only
 rw [(qFI (l:=ts.map f) (by simpa using h)).1]
 rfl
theorem qFK {α:Type}{ts:List α}(h:ts≠[]) (f:α->Int):biP .max [.lst (ts.map λu=>.int (f u))]=some (false,.int (mxv (ts.map f))):=by
 show ((qCi (ts.map λu=>.int (f u))).bind λis=>(mxL is).map λm=>(false,D.int m))=_
 rw [qBB,Option.bind_some,(qFG (l:=ts.map f) (by simpa using h)).1]
 rfl
theorem qMA {α:Type}(ts:List α) (f:α->Int):biP .sum [.lst (ts.map λu=>.int (f u))]=some (false,.int (ts.map f).sum):=by
 rw [qId,qBB]
 rfl
theorem qKd (k:Nat) (f:Nat->D):bx k f++[f k]=bx (k+1) f:=by
 unfold bx
 rw [List.range_succ,List.map_append]
 rfl
noncomputable def lwT (ts:List Th) (j:Nat):List Int:=ts.map λu=>(u.sw j).1
noncomputable def hgT (ts:List Th) (j:Nat):List Int:=ts.map λu=>(u.sw j).2.1
noncomputable def spT (ts:List Th) (j:Nat):List Int:=ts.map λu=>(u.sw j).2.2
noncomputable def qL9 (ts:List Th):Fr:=λj=>(mnv (lwT ts j),mxv (hgT ts j),mnv (spT ts j),mxv (spT ts j))
noncomputable def qL7 (ts:List Th):Fr:=λj=>(mxv (lwT ts j),mnv (hgT ts j),mxv (spT ts j),mnv (spT ts j))
theorem qPu {ts:List Th}{f:Th->Int}{B:Int}(h:ts≠[]) (hb:∀u∈ts,-B<=f u/\f u<=B):(-B<=mnv (ts.map f)/\mnv (ts.map f)<=B)/\(-B<=mxv (ts.map f)/\mxv (ts.map f)<=B):=by
 have h':ts.map f≠[]:=by simpa using h
 obtain⟨u,hu,e⟩:=List.mem_map.mp (qFI h').2.1
 obtain⟨v,hv,e'⟩:=List.mem_map.mp (qFG h').2.1
 exact⟨e▸hb u hu,e'▸hb v hv⟩
noncomputable def soF (ts:List Th):Nat:=ts.foldl (λx u=>x ||| u.mr) 0
noncomputable def evF (ts:List Th):Nat:=ts.foldl (λx u=>x &&& u.mr) 65535
noncomputable def poT (ts:List Th):To:=⟨qL9 ts,qL7 ts,soF ts,evF ts,ts.length,mnv (ts.map (·.wo)),mxv (ts.map (·.wo)),(ts.map (·.wo)).sum⟩
theorem qO5 {a x:Nat}(y:Nat) (h:a &&& x=a):a &&& (x ||| y)=a:=by rw [Nat.and_or_distrib_left,h];apply Nat.eq_of_testBit_eq;intro i;simp only [Nat.testBit_and,Nat.testBit_or];cases a.testBit i<;>cases y.testBit i<;>rfl
theorem qO4 (x y:Nat):y &&& (x ||| y)=y:=by apply Nat.eq_of_testBit_eq;intro i;simp only [Nat.testBit_and,Nat.testBit_or];cases x.testBit i<;>cases y.testBit i<;>rfl
theorem qJM:∀(ts:List Th) (x:Nat),(∀a,a &&& x=a->a &&& ts.foldl (λx u=>x ||| u.mr) x=a)/\∀u∈ts,u.mr &&& ts.foldl (λx u=>x ||| u.mr) x=u.mr
 | [],x=>⟨λ_ h=>h,λ_ h=>nomatch h⟩
 | v::r,x=>by
  obtain⟨h1,h2⟩:=qJM r (x ||| v.mr)
  refine⟨λa h=>h1 a (qO5 _ h),λu hu=>?_⟩
  rcases List.mem_cons.mp hu with rfl|hu
  ·exact h1 _ (qO4 x _)
  ·exact h2 u hu
theorem qJ2:∀(ts:List Th) (x:Nat),ts.foldl (λx u=>x &&& u.mr) x &&& x=ts.foldl (λx u=>x &&& u.mr) x/\∀u∈ts,ts.foldl (λx u=>x &&& u.mr) x &&& u.mr=ts.foldl (λx u=>x &&& u.mr) x
 | [],x=>⟨Nat.and_self _,λ_ h=>nomatch h⟩
 | v::r,x=>by
  obtain⟨h1,h2⟩:=qJ2 r (x &&& v.mr)
  rw [List.foldl_cons]
  generalize r.foldl (λx u=>x &&& u.mr) (x &&& v.mr)=F at *
  refine⟨?_,λu hu=>?_⟩
  ·rw [<-h1,Nat.and_assoc,Nat.and_assoc,Nat.and_comm v.mr x,<-Nat.and_assoc x x,Nat.and_self]
  ·rcases List.mem_cons.mp hu with rfl|hu
   ·rw [<-h1,Nat.and_assoc,Nat.and_assoc,Nat.and_self]
   ·exact h2 u hu
theorem qKs {ts:List Th}(h:ts≠[]) {u:Th}(hu:u∈ts):Tl u (poT ts):=by
 have a:=λ(f:Th->Int)=>(qFI (l:=ts.map f) (by simpa using h)).2.2 (f u) (List.mem_map_of_mem hu)
 have b:=λ(f:Th->Int)=>(qFG (l:=ts.map f) (by simpa using h)).2.2 (f u) (List.mem_map_of_mem hu)
 exact⟨λj=>⟨a λu=>(u.sw j).1,b λu=>(u.sw j).2.1,a λu=>(u.sw j).2.2,b λu=>(u.sw j).2.2⟩,λj=>⟨b λu=>(u.sw j).1,a λu=>(u.sw j).2.1,b λu=>(u.sw j).2.2,a λu=>(u.sw j).2.2⟩,(qJM ts 0).2 u hu,(qJ2 ts 65535).2 u hu,a λu=>u.wo,b λu=>u.wo⟩
theorem qJT {ts:List Th}(h:ts≠[]) (hts:∀u∈ts,qEN u):ToOk (poT ts):=by
 have a1:=λj=>qPu (f:=λu=>(u.sw j).1) (B:=10^31) h λu hu=>((hts u hu).1 j).1
 have a2:=λj=>qPu (f:=λu=>(u.sw j).2.1) (B:=10^31) h λu hu=>((hts u hu).1 j).2.1
 have a3:=λj=>qPu (f:=λu=>(u.sw j).2.2) (B:=10^15) h λu hu=>((hts u hu).1 j).2.2
 refine⟨λj=>⟨(a1 j).1,(a2 j).2,(a3 j).1,(a3 j).2⟩,λj=>⟨(a1 j).2,(a2 j).1,(a3 j).2,(a3 j).1⟩,λj=>⟨qEj (by simpa [lwT] using h),qEj (by simpa [hgT] using h),qEj (by simpa [spT] using h),qEj (by simpa [spT] using h)⟩,?_,qEj (by simpa using h)⟩
 obtain⟨u,hu⟩:=List.exists_mem_of_ne_nil ts h
 have l:=qKs h hu
 rw [<-l.ev,Nat.and_assoc,l.so]
theorem qK6 {u:Th}(hu:qEN u):(poT [u]).cov=swQ u/\(poT [u]).hrt=swQ u/\(poT [u]).so=u.mr/\(poT [u]).ev=u.mr/\(poT [u]).lo=u.wo/\(poT [u]).hi=u.wo:=by
 refine⟨rfl,rfl,Nat.zero_or _,?_,rfl,rfl⟩
 show 65535 &&& u.mr=u.mr
 rw [Nat.and_comm,show (65535:Nat)=2^16 - 1 from rfl,Nat.and_two_pow_sub_one_eq_mod,Nat.mod_eq_of_lt hu.2]
section
variable {call:Nat->List D->Option R}
theorem qFr (m:Nat) (hm:m<=3) (ts:List Th) (h:ts≠[]):qAr call [some (false,.lst (ts.map (thD m))),none,none,none,none,none,none,none,none,none,none] f_law_poured.body=some (.rt (false,toD m (poT ts))):=by
 obtain⟨σ1,h1,o3,o5,o6,o7,rfl⟩:=qBC (call:=call) (tg:=.one 3) (body:=[.set 5 false (.compS (.ix (.ix (.ix (.v 0) (.k (.int 1))) (.v 1)) (.k (.int 0))) 1 [3] (.one 0) (.v 0)),.set 6 false (.compS (.ix (.ix (.ix (.v 0) (.k (.int 1))) (.v 1)) (.k (.int 1))) 1 [3] (.one 0) (.v 0)),.set 7 false (.compS (.ix (.ix (.ix (.v 0) (.k (.int 1))) (.v 1)) (.k (.int 2))) 1 [3] (.one 0) (.v 0)),.app 1 (.tup [(.bi .min [(.v 5)]),(.bi .max [(.v 6)]),(.bi .min [(.v 7)]),(.bi .max [(.v 7)])]),.app 2 (.tup [(.bi .max [(.v 5)]),(.bi .min [(.v 6)]),(.bi .max [(.v 7)]),(.bi .min [(.v 7)])])])
  (λk σ=>∃o3 o5 o6 o7:Option R,σ=[some (false,.lst (ts.map (thD m))),some (true,.lst (bx k λj=>q4 (qL9 ts j))),some (true,.lst (bx k λj=>q4 (qL7 ts j))),o3,none,o5,o6,o7,none,none,none]) m (λi=>.int (i:Nat))
  [some (false,.lst (ts.map (thD m))),some (true,.lst []),some (true,.lst []),none,none,none,none,none,none,none,none] ⟨_,_,_,_,rfl⟩ (by
   rintro k σ hk ⟨o3,o5,o6,o7,rfl⟩
   have g:∀u:Th,ixP (.tup (bx m λj=>sD (u.sw j))) (.int (k:Int))=some (false,sD (u.sw k)):=λu=>qJf (λj=>sD (u.sw j)) hk
   have cm:∀(i:Int) (f:Th->Int) (σ:En),(∀u,ixP (sD (u.sw k)) (.int i)=some (false,.int (f u)))->qAe σ 0=some (false,.lst (ts.map (thD m)))->qAe σ 3=some (false,.int (k:Int))->evE call σ (.compS (.ix (.ix (.ix (.v 0) (.k (.int 1))) (.v 1)) (.k (.int i))) 1 [3] (.one 0) (.v 0))=some (true,.lst (ts.map λu=>.int (f u))):=λi f σ hf h0 h3=>by
    refine qBO (r:=(false,.lst (ts.map (thD m)))) (σ':=[none,some (false,.int (k:Int))]) (by rw [qPK,h0];rfl) rfl (by unfold qBb;rw [List.map_cons,h3];rfl) ?_
    exact qAX call _ (thD m) (λu=>.int (f u)) ts λu _=>⟨_,false,rfl,by have:=hf u;simp only [List.set_cons_zero,qAH,pk,qAe,List.getElem?_cons_zero,Option.join_some,Option.bind_some,pkR,qAp,Option.map_some,th1,List.getElem?_cons_succ,g,this]⟩
   have e1:=qFJ h λu:Th=>(u.sw k).1
   have e2:=qFK h λu:Th=>(u.sw k).1
   have e3:=qFJ h λu:Th=>(u.sw k).2.1
   have e4:=qFK h λu:Th=>(u.sw k).2.1
   have e5:=qFJ h λu:Th=>(u.sw k).2.2
   have e6:=qFK h λu:Th=>(u.sw k).2.2
   refine⟨_,_,rfl,?_,some (false,.int (k:Int)),some (false,.lst (ts.map λu=>.int (u.sw k).1)),some (false,.lst (ts.map λu=>.int (u.sw k).2.1)),some (false,.lst (ts.map λu=>.int (u.sw k).2.2)),rfl⟩
   refine qAn (true,.lst (ts.map λu=>.int (u.sw k).1)) (cm 0 (λu=>(u.sw k).1) _ (λu=>sd0 _) rfl rfl) ?_
   refine qAn (true,.lst (ts.map λu=>.int (u.sw k).2.1)) (cm 1 (λu=>(u.sw k).2.1) _ (λu=>sd1 _) rfl rfl) ?_
   refine qAn (true,.lst (ts.map λu=>.int (u.sw k).2.2)) (cm 2 (λu=>(u.sw k).2.2) _ (λu=>sd2 _) rfl rfl) ?_
   rw [<-qKd,<-qKd]
   refine qCZ (false,q4 (qL9 ts k)) (by simp only [List.set_cons_succ,List.set_cons_zero,qAz,Bool.and_true,qAN,qAs,qBv,qAu,pk,qAe,List.getElem?_cons_succ,List.getElem?_cons_zero,Option.join_some,Option.bind_some,pkR,qAv,e1,e4,e5,e6,qAt,List.length_cons,List.length_nil,Nat.reduceAdd,qOH,↓reduceIte];rfl) rfl (qC7 (by simp [bx];omega)) ?_
   exact qCZ (false,q4 (qL7 ts k)) (by simp only [List.set_cons_succ,List.set_cons_zero,qAz,Bool.and_true,qAN,qAs,qBv,qAu,pk,qAe,List.getElem?_cons_succ,List.getElem?_cons_zero,Option.join_some,Option.bind_some,pkR,qAv,e2,e3,e6,e5,qAt,List.length_cons,List.length_nil,Nat.reduceAdd,qOH,↓reduceIte];rfl) rfl (qC7 (by simp [bx];omega)) rfl)
 obtain⟨σ2,h2,o4,rfl⟩:=qDi (call:=call) (tg:=.one 4) (body:=[.set 8 false (.bin .bor (.v 8) (.ix (.v 4) (.k (.int 2)))),.set 9 false (.bin .band (.v 9) (.ix (.v 4) (.k (.int 2))))])
  (λk σ=>∃(o4:Option R),σ=[some (false,.lst (ts.map (thD m))),some (true,.lst (bx m λj=>q4 (qL9 ts j))),some (true,.lst (bx m λj=>q4 (qL7 ts j))),o3,o4,o5,o6,o7,some (false,.int (soF (ts.take k):Int)),some (false,.int (evF (ts.take k):Int)),none]) (ts.map (thD m)) 0
  [some (false,.lst (ts.map (thD m))),some (true,.lst (bx m λj=>q4 (qL9 ts j))),some (true,.lst (bx m λj=>q4 (qL7 ts j))),o3,none,o5,o6,o7,some (false,.int 0),some (false,.int 65535),none] ⟨_,rfl⟩ (by
   rintro k d σ hk ⟨o4,rfl⟩
   rw [List.getElem?_map] at hk
   obtain⟨u,hu,rfl⟩:=Option.map_eq_some_iff.mp hk
   have et:ts.take (0+k+1)=ts.take (0+k)++[u]:=by rw [Nat.zero_add,List.take_add_one,hu];rfl
   have e1:soF (ts.take (0+k+1))=soF (ts.take (0+k)) ||| u.mr:=by unfold soF;rw [et,List.foldl_append];rfl
   have e2:evF (ts.take (0+k+1))=evF (ts.take (0+k)) &&& u.mr:=by unfold evF;rw [et,List.foldl_append];rfl
   rw [e1,e2]
   generalize soF (ts.take (0+k))=so
   generalize evF (ts.take (0+k))=ev
   have hb:qEL .bor (.int (so:Int)) (.int (u.mr:Int))=some (false,.int ((so ||| u.mr:Nat):Int)):=by rw [qD1,if_pos ⟨by omega,by omega⟩];rfl
   have ha:qEL .band (.int (ev:Int)) (.int (u.mr:Int))=some (false,.int ((ev &&& u.mr:Nat):Int)):=by rw [qB8,if_pos ⟨by omega,by omega⟩];rfl
   refine⟨_,_,rfl,?_,some (false,thD m u),rfl⟩
   refine qAn (false,.int ((so ||| u.mr:Nat):Int)) (by simp only [List.set_cons_succ,List.set_cons_zero,qAj,pk,qAe,List.getElem?_cons_succ,List.getElem?_cons_zero,Option.join_some,Option.bind_some,pkR,qAH,qAp,Option.map_some,th2,hb]) ?_
   exact qAn (false,.int ((ev &&& u.mr:Nat):Int)) (by simp only [List.set_cons_succ,List.set_cons_zero,qAz,Bool.and_false,qAj,pk,qAe,List.getElem?_cons_succ,List.getElem?_cons_zero,Option.join_some,Option.bind_some,pkR,qAH,qAp,Option.map_some,th2,ha]) rfl)
 rw [List.length_map,Nat.zero_add,List.take_of_length_le (Nat.le_refl _)] at h2
 have g0:∃u:Th,ixP (.lst (ts.map (thD m))) (.int 0)=some (false,thD m u):=by
  cases ts with
  | nil=>exact absurd rfl h
  | cons u r=>exact⟨u,by rw [List.map_cons,qHo,qPx];rfl⟩
 obtain⟨u0,g0⟩:=g0
 have lm:biP .len [.tup (bx m λj=>sD (u0.sw j))]=some (false,.int (m:Int)):=by rw [qJv,qIa]
 have lt:biP .len [.lst (ts.map (thD m))]=some (false,.int (ts.length:Int)):=by rw [qBQ,List.length_map]
 have hw:∀o4 o8 o9:Option R,evE call [some (false,.lst (ts.map (thD m))),some (true,.lst (bx m λj=>q4 (qL9 ts j))),some (true,.lst (bx m λj=>q4 (qL7 ts j))),o3,o4,o5,o6,o7,o8,o9,none] (.compS (.ix (.v 0) (.k (.int 3))) 1 [] (.one 0) (.v 0))=some (true,.lst (ts.map λu=>.int u.wo)):=λo4 o8 o9 =>
  qBO (r:=(false,.lst (ts.map (thD m)))) rfl rfl rfl (qAX call _ (thD m) (λu=>.int u.wo) ts λu _=>⟨_,false,rfl,by simp only [qBb,List.replicate_succ,List.replicate_zero,qAe,List.map_nil,List.cons_append,List.nil_append,List.set_cons_zero,qAH,pk,List.getElem?_cons_zero,Option.join_some,Option.bind_some,pkR,qAp,Option.map_some,th3]⟩)
 have w1:=qFJ h λu:Th=>u.wo
 have w2:=qFK h λu:Th=>u.wo
 have w3:=qMA ts λu:Th=>u.wo
 have l8:8<=lim:=qAY (by decide)
 refine qAn (true,.lst []) (by simp only [qBV,qAt,List.length_nil,qLz,↓reduceIte]) ?_
 refine qAn (true,.lst []) (by simp only [qAz,Bool.and_true,List.set_cons_succ,List.set_cons_zero,qBV,qAt,List.length_nil,qLz,↓reduceIte]) ?_
 refine qCH (ds:=[.int (m:Int)]) (by simp only [qAz,Bool.and_true,List.set_cons_succ,List.set_cons_zero,qAu,pk,qBv,qAH,qAe,List.getElem?_cons_zero,Option.join_some,Option.bind_some,pkR,qAp,Option.map_some,g0,th1,qAv,lm]) (qDB (by omega)) h1 ?_
 refine qAn (false,.int 0) (by simp only [qAp]) ?_
 refine qAn (false,.int 65535) (by simp only [qAz,Bool.and_false,List.set_cons_succ,List.set_cons_zero,qAp]) ?_
 refine qGJ (r:=(false,.lst (ts.map (thD m)))) rfl rfl h2 ?_
 refine qAn (true,.lst (ts.map λu=>.int u.wo)) (hw _ _ _) ?_
 exact qAf (r:=(false,toD m (poT ts))) (by simp only [qA2,qAz,Bool.and_true,List.set_cons_succ,List.set_cons_zero,qAN,qAs,qBv,qAu,pk,qAe,List.getElem?_cons_succ,List.getElem?_cons_zero,Option.join_some,Option.bind_some,pkR,qAv,qD2,qBT,qAR,lt,w1,w2,w3,qAt,List.length_cons,List.length_nil,Nat.reduceAdd,l8,↓reduceIte];rfl) rfl
end
end Dw.T
namespace Dw.T
open Dw
inductive Wt where
 | atm (a:At)|both (x y:Wt)|eith (x y:Wt)|unl (x:Wt)
noncomputable def wtD (m:Nat):Wt->D
 | .atm a=>atO m a
 | .both x y=>.obj ⟨633,[PySem.Str.ofString "one",PySem.Str.ofString "two"]⟩ [wtD m x,wtD m y]
 | .eith x y=>.obj ⟨673,[PySem.Str.ofString "one",PySem.Str.ofString "two"]⟩ [wtD m x,wtD m y]
 | .unl x=>.obj ⟨713,[PySem.Str.ofString "one"]⟩ [wtD m x]
noncomputable def qDw:Wt->Prop
 | .atm a=>qGq a
 | .both x y=>qDw x/\qDw y
 | .eith x y=>qDw x/\qDw y
 | .unl x=>qDw x
noncomputable def dp:Wt->Nat
 | .atm _=>0
 | .both x y=>max (dp x) (dp y)+1
 | .eith x y=>max (dp x) (dp y)+1
 | .unl x=>dp x+1
noncomputable def anW:Wd->Wd->Wd
 | .no,_=>.no
 | _,.no=>.no
 | .ev,.ev=>.ev
 | _,_=>.op
noncomputable def tnW:Wd->Wd
 | .ev=>.no
 | .no=>.ev
 | .op=>.op
noncomputable def orW (a b:Wd):Wd:=tnW (anW (tnW a) (tnW b))
noncomputable def vdt (m:Nat) (o:To) (t:Int):Wt->Wd
 | .atm a=>wrd m a o t
 | .both x y=>anW (vdt m o t x) (vdt m o t y)
 | .eith x y=>orW (vdt m o t x) (vdt m o t y)
 | .unl x=>tnW (vdt m o t x)
noncomputable def wtF:Wt->Nat
 | .atm a=>atF a
 | .both _ _=>70
 | .eith _ _=>72
 | .unl _=>74
noncomputable def wtG:Wt->Nat
 | .atm a=>atG a
 | .both _ _=>69
 | .eith _ _=>71
 | .unl _=>73
noncomputable abbrev TBv:List (Nat×Nat):=[(273,52),(313,54),(353,56),(393,58),(433,60),(473,62),(513,64),(553,66),(593,68),(633,70),(673,72),(713,74)]
noncomputable abbrev TBs:List (Nat×Nat):=[(273,51),(313,53),(353,55),(393,57),(433,59),(473,61),(513,63),(553,65),(593,67),(633,69),(673,71),(713,73)]
theorem qGr (m:Nat) (w:Wt):∃kn os,wtD m w=.obj kn os/\kn.ns.all (λf=>f != PySem.Str.ofString "verdict")=true/\TBv.lookup kn.c=some (wtF w)/\kn.ns.all (λf=>f != PySem.Str.ofString "suits")=true/\TBs.lookup kn.c=some (wtG w):=by
 cases w with
 | atm a=>exact⟨(waO m a).1,(waO m a).2,rfl,by cases a<;>rfl,by cases a<;>rfl,by cases a<;>rfl,by cases a<;>rfl⟩
 | both x y=>exact⟨_,_,rfl,rfl,rfl,rfl,rfl⟩
 | eith x y=>exact⟨_,_,rfl,rfl,rfl,rfl,rfl⟩
 | unl x=>exact⟨_,_,rfl,rfl,rfl,rfl,rfl⟩
noncomputable def trW (m:Nat) (u:Th) (t:Int):Wt->Bool
 | .atm a=>trT m a u t
 | .both x y=>trW m u t x&&trW m u t y
 | .eith x y=>trW m u t x||trW m u t y
 | .unl x=>!trW m u t x
theorem qPV {p q:Wd}{r s:Bool}(a1:p=.ev->r=true) (a2:p=.no->r=false) (b1:q=.ev->s=true) (b2:q=.no->s=false):(anW p q=.ev->(r&&s)=true)/\(anW p q=.no->(r&&s)=false):=by
 revert a1 a2 b1 b2
 cases p<;>cases q<;>cases r<;>cases s<;>decide
theorem qOQ {p:Wd}{r:Bool}(a1:p=.ev->r=true) (a2:p=.no->r=false):(tnW p=.ev->(!r)=true)/\(tnW p=.no->(!r)=false):=by
 revert a1 a2
 cases p<;>cases r<;>decide
theorem qPk {p q:Wd}{r s:Bool}(a1:p=.ev->r=true) (a2:p=.no->r=false) (b1:q=.ev->s=true) (b2:q=.no->s=false):(orW p q=.ev->(r||s)=true)/\(orW p q=.no->(r||s)=false):=by
 revert a1 a2 b1 b2
 cases p<;>cases q<;>cases r<;>cases s<;>decide
theorem qKD (m:Nat) (u:Th) (hu:qEN u) (o:To) (ok:ToOk o) (l:Tl u o) (t:Int) (ht:0<=t):∀w,qDw w->(vdt m o t w=.ev->trW m u t w=true)/\(vdt m o t w=.no->trW m u t w=false)
 | .atm a,h=>by
  obtain⟨k1,k2⟩:=qO3 m a h u hu o ok l t ht
  show (wd2 _ _=.ev->trT m a u t=true)/\(wd2 _ _=.no->trT m a u t=false)
  generalize tru m a (inn a o) o.ev o.lo t=p at *
  generalize tru m a (out a o) o.so o.hi t=q at *
  generalize trT m a u t=r at *
  revert k1 k2
  cases p<;>cases q<;>cases r<;>decide
 | .both x y,h=>by
  obtain⟨a1,a2⟩:=qKD m u hu o ok l t ht x h.1
  obtain⟨b1,b2⟩:=qKD m u hu o ok l t ht y h.2
  exact qPV a1 a2 b1 b2
 | .eith x y,h=>by
  obtain⟨a1,a2⟩:=qKD m u hu o ok l t ht x h.1
  obtain⟨b1,b2⟩:=qKD m u hu o ok l t ht y h.2
  exact qPk a1 a2 b1 b2
 | .unl x,h=>by
  obtain⟨a1,a2⟩:=qKD m u hu o ok l t ht x h
  exact qOQ a1 a2
theorem qDy (m:Nat) (u:Th) (hu:qEN u) (t:Int):∀w,vdt m (poT [u]) t w=if trW m u t w then .ev else .no
 | .atm a=>by
  obtain⟨e1,e2,e3,e4,e5,e6⟩:=qK6 hu
  have h1:inn a (poT [u])=swQ u:=by cases a<;>first|exact e1|exact e2
  have h2:out a (poT [u])=swQ u:=by cases a<;>first|exact e1|exact e2
  show wd2 _ _=_
  rw [h1,h2,e3,e4,e5,e6]
  show wd2 (trT m a u t) (trT m a u t)=if trT m a u t then .ev else .no
  cases trT m a u t<;>rfl
 | .both x y=>by
  show anW _ _=if (trW m u t x&&trW m u t y) then _ else _
  rw [qDy m u hu t x,qDy m u hu t y]
  cases trW m u t x<;>cases trW m u t y<;>rfl
 | .eith x y=>by
  show orW _ _=if (trW m u t x||trW m u t y) then _ else _
  rw [qDy m u hu t x,qDy m u hu t y]
  cases trW m u t x<;>cases trW m u t y<;>rfl
 | .unl x=>by
  show tnW _=if (!trW m u t x) then _ else _
  rw [qDy m u hu t x]
  cases trW m u t x<;>rfl
section
variable {call:Nat->List D->Option R}
theorem qFa {σ:En}{a:C}{bs:List C}{b:Bool}{m:Nat}{w:Wt}{ys:List D}{r:R}(h:evE call σ a=some (b,wtD m w)) (hb:evA call σ bs=some ys) (hc:call (wtF w) (wtD m w::ys)=some r):evE call σ (.mc a (PySem.Str.ofString "verdict") TBv bs)=some r:=by
 obtain⟨kn,os,e,h1,h2,_⟩:=qGr m w
 rw [e] at h hc
 exact qQj call σ h h1 h2 hb hc
theorem qGm {σ:En}{a:C}{bs:List C}{b:Bool}{m:Nat}{w:Wt}{ys:List D}{r:R}(h:evE call σ a=some (b,wtD m w)) (hb:evA call σ bs=some ys) (hc:call (wtG w) (wtD m w::ys)=some r):evE call σ (.mc a (PySem.Str.ofString "suits") TBs bs)=some r:=by
 obtain⟨kn,os,e,_,_,h1,h2⟩:=qGr m w
 rw [e] at h hc
 exact qQj call σ h h1 h2 hb hc
theorem qPL {σ:En}{a b:C}{x:Bool}{p q:Bool}(ha:evE call σ a=some (x,.bl p)) (hb:evE call σ b=some (false,.bl q)):evE call σ (.or a b)=some (false,.bl (p||q)):=by
 rw [qON,ha]
 cases p
 ·exact hb
 ·rfl
theorem qKB (m:Nat) (x y:Wt) (u:Th) (t:Int) (hx:call (wtG x) [wtD m x,thD m u,.int t]=some (false,.bl (trW m u t x))) (hy:call (wtG y) [wtD m y,thD m u,.int t]=some (false,.bl (trW m u t y))) :
  qAr call [some (false,wtD m (.both x y)),some (false,thD m u),some (false,.int t)] f_Both_suits.body=some (.rt (false,.bl (trW m u t (.both x y)))):=
 qAf (r:=(false,.bl (trW m u t x&&trW m u t y))) (qFb (x:=false) (y:=false) (qGm (b:=false) (m:=m) (w:=x) (ys:=[thD m u,.int t]) rfl rfl hx) (qGm (b:=false) (m:=m) (w:=y) (ys:=[thD m u,.int t]) rfl rfl hy)) rfl
theorem qKy (m:Nat) (x y:Wt) (u:Th) (t:Int) (hx:call (wtG x) [wtD m x,thD m u,.int t]=some (false,.bl (trW m u t x))) (hy:call (wtG y) [wtD m y,thD m u,.int t]=some (false,.bl (trW m u t y))) :
  qAr call [some (false,wtD m (.eith x y)),some (false,thD m u),some (false,.int t)] f_Either_suits.body=some (.rt (false,.bl (trW m u t (.eith x y)))):=
 qAf (r:=(false,.bl (trW m u t x||trW m u t y))) (qPL (x:=false) (qGm (b:=false) (m:=m) (w:=x) (ys:=[thD m u,.int t]) rfl rfl hx) (qGm (b:=false) (m:=m) (w:=y) (ys:=[thD m u,.int t]) rfl rfl hy)) rfl
theorem qMo (m:Nat) (x:Wt) (u:Th) (t:Int) (hx:call (wtG x) [wtD m x,thD m u,.int t]=some (false,.bl (trW m u t x))) :
  qAr call [some (false,wtD m (.unl x)),some (false,thD m u),some (false,.int t)] f_Unless_suits.body=some (.rt (false,.bl (trW m u t (.unl x)))):=by
 have h:=qGm (call:=call) (σ:=[some (false,wtD m (.unl x)),some (false,thD m u),some (false,.int t)]) (a:=.fld (.v 0) 0 (PySem.Str.ofString "one")) (bs:=[(.v 1),(.v 2)]) (b:=false) (m:=m) (w:=x) (ys:=[thD m u,.int t]) rfl rfl hx
 exact qAf (r:=(false,.bl (!trW m u t x))) (by show evE call _ (.not _)=_;rw [qCM,h]) rfl
theorem qKA (m:Nat) (x y:Wt) (o:To) (t:Int) (hx:call (wtF x) [wtD m x,toD m o,.int t]=some (false,wdD (vdt m o t x))) (hy:call (wtF y) [wtD m y,toD m o,.int t]=some (false,wdD (vdt m o t y))) (v:∀p q:Bool,call 23 [.bl p,.bl q]=some (false,wdD (vf p q))) :
  qAr call [some (false,wtD m (.both x y)),some (false,toD m o),some (false,.int t),none] f_Both_verdict.body=some (.rt (false,wdD (vdt m o t (.both x y)))):=by
 have h1:=qFa (call:=call) (σ:=[some (false,wtD m (.both x y)),some (false,toD m o),some (false,.int t),none]) (a:=.fld (.v 0) 0 (PySem.Str.ofString "one")) (bs:=[(.v 1),(.v 2)]) (b:=false) (m:=m) (w:=x) (ys:=[toD m o,.int t]) rfl rfl hx
 have h2:=qFa (call:=call) (σ:=[some (false,wtD m (.both x y)),some (false,toD m o),some (false,.int t),none]) (a:=.fld (.v 0) 1 (PySem.Str.ofString "two")) (bs:=[(.v 1),(.v 2)]) (b:=false) (m:=m) (w:=y) (ys:=[toD m o,.int t]) rfl rfl hy
 have l2:2<=lim:=qAY (by decide)
 show _=some (Ou.rt (false,wdD (anW (vdt m o t x) (vdt m o t y))))
 generalize vdt m o t x=a at *
 generalize vdt m o t y=b at *
 refine qAn (false,.tup [wdD a,wdD b]) (by rw [qAN,qAs,h1];simp only;rw [qAs,h2];simp only [qAt];exact if_pos l2) ?_
 cases a<;>cases b<;>first
  | exact qAf (r:=(false,wdD (vf true false))) (v true false) rfl
  | exact qAf (r:=(false,wdD (vf false true))) (v false true) rfl
  | exact qAf (r:=(false,wdD (vf false false))) (v false false) rfl
theorem qKx (m:Nat) (x y:Wt) (o:To) (t:Int) (hx:call (wtF x) [wtD m x,toD m o,.int t]=some (false,wdD (vdt m o t x))) (hy:call (wtF y) [wtD m y,toD m o,.int t]=some (false,wdD (vdt m o t y))) (v:∀p q:Bool,call 23 [.bl p,.bl q]=some (false,wdD (vf p q))) :
  qAr call [some (false,wtD m (.eith x y)),some (false,toD m o),some (false,.int t),none] f_Either_verdict.body=some (.rt (false,wdD (vdt m o t (.eith x y)))):=by
 have h1:=qFa (call:=call) (σ:=[some (false,wtD m (.eith x y)),some (false,toD m o),some (false,.int t),none]) (a:=.fld (.v 0) 0 (PySem.Str.ofString "one")) (bs:=[(.v 1),(.v 2)]) (b:=false) (m:=m) (w:=x) (ys:=[toD m o,.int t]) rfl rfl hx
 have h2:=qFa (call:=call) (σ:=[some (false,wtD m (.eith x y)),some (false,toD m o),some (false,.int t),none]) (a:=.fld (.v 0) 1 (PySem.Str.ofString "two")) (bs:=[(.v 1),(.v 2)]) (b:=false) (m:=m) (w:=y) (ys:=[toD m o,.int t]) rfl rfl hy
 have l2:2<=lim:=qAY (by decide)
 show _=some (Ou.rt (false,wdD (orW (vdt m o t x) (vdt m o t y))))
 generalize vdt m o t x=a at *
 generalize vdt m o t y=b at *
 refine qAn (false,.tup [wdD a,wdD b]) (by rw [qAN,qAs,h1];simp only;rw [qAs,h2];simp only [qAt];exact if_pos l2) ?_
 cases a<;>cases b<;>first
  | exact qAf (r:=(false,wdD (vf true false))) (v true false) rfl
  | exact qAf (r:=(false,wdD (vf false true))) (v false true) rfl
  | exact qAf (r:=(false,wdD (vf false false))) (v false false) rfl
theorem qMn (m:Nat) (x:Wt) (o:To) (t:Int) (hx:call (wtF x) [wtD m x,toD m o,.int t]=some (false,wdD (vdt m o t x))) (v:∀p q:Bool,call 23 [.bl p,.bl q]=some (false,wdD (vf p q))) :
  qAr call [some (false,wtD m (.unl x)),some (false,toD m o),some (false,.int t),none] f_Unless_verdict.body=some (.rt (false,wdD (vdt m o t (.unl x)))):=by
 have h1:=qFa (call:=call) (σ:=[some (false,wtD m (.unl x)),some (false,toD m o),some (false,.int t),none]) (a:=.fld (.v 0) 0 (PySem.Str.ofString "one")) (bs:=[(.v 1),(.v 2)]) (b:=false) (m:=m) (w:=x) (ys:=[toD m o,.int t]) rfl rfl hx
 show _=some (Ou.rt (false,wdD (tnW (vdt m o t x))))
 generalize vdt m o t x=a at *
 refine qAn (false,wdD a) h1 ?_
 cases a<;>first
  | exact qAf (r:=(false,wdD (vf true false))) (v true false) rfl
  | exact qAf (r:=(false,wdD (vf false true))) (v false true) rfl
  | exact qAf (r:=(false,wdD (vf false false))) (v false false) rfl
noncomputable def el (m:Nat) (ts:List Th) (t:Int) (w:Wt):D:=.tup [wtD m w,.lst (ts.map λu=>.bl (trW m u t w))]
theorem el0 (m:Nat) (ts:List Th) (t:Int) (w:Wt):ixP (el m ts t w) (.int 0)=some (false,wtD m w):=rfl
theorem el1 (m:Nat) (ts:List Th) (t:Int) (w:Wt):ixP (el m ts t w) (.int 1)=some (false,.lst (ts.map λu=>.bl (trW m u t w))):=rfl
theorem qFk {α:Type}(f g:α->D):∀l:List α,qCk (l.map f) (l.map g)=l.map λp=>.tup [f p,g p]
 | []=>rfl
 | x::r=>by
  show D.tup [f x,g x]::qCk (r.map f) (r.map g)=_
  rw [qFk f g r]
  rfl
theorem qMs (m:Nat) (ts:List Th) (t:Int) (ds:List D) (hl:ds.length<1000) (x y:Wt) (w:Int) (hw:w=0∨w=1) :
  ∃z σ',(z=.both x y∨z=.eith x y)/\qAr call [some (true,.lst (ds++[el m ts t x]++[el m ts t y])),some (false,.int w),none,none] f_law_pair.body=some (.nx σ')/\qAe σ' 0=some (true,.lst (ds++[el m ts t z])):=by
 have l2:2<=lim:=qAY (by decide)
 have c1:∀(e:C) (k:Bool->Bool->Bool),(∀p q:Bool,evE call [some (false,.bl p),some (false,.bl q)] e=some (false,.bl (k p q)))->evE call [some (true,.lst ds),some (false,.int w),some (false,el m ts t y),some (false,el m ts t x)] (.compZ e 2 [] (.two 0 1) (.ix (.v 3) (.k (.int 1))) (.ix (.v 2) (.k (.int 1))))=some (true,.lst (ts.map λu=>.bl (k (trW m u t x) (trW m u t y)))):=λe k hk=>by
  refine qCq (x:=(false,.lst (ts.map λu=>.bl (trW m u t x)))) (y:=(false,.lst (ts.map λu=>.bl (trW m u t y)))) (by simp only [qAH,pk,qAe,List.getElem?_cons_succ,List.getElem?_cons_zero,Option.join_some,Option.bind_some,pkR,qAp,Option.map_some,el1]) (by simp only [qAH,pk,qAe,List.getElem?_cons_succ,List.getElem?_cons_zero,Option.join_some,Option.bind_some,pkR,qAp,Option.map_some,el1]) rfl rfl rfl ?_
  rw [qFk]
  exact qAX call _ _ _ ts λu _=>⟨_,false,rfl,hk _ _⟩
 have fin:∀(kn:Kn) (e:C) (z:Wt) (rw_:List D),evE call [some (true,.lst ds),some (false,.int w),some (false,el m ts t y),some (false,el m ts t x)] (.compZ e 2 [] (.two 0 1) (.ix (.v 3) (.k (.int 1))) (.ix (.v 2) (.k (.int 1))))=some (true,.lst rw_)->kn.ns.length=2->el m ts t z=.tup [.obj kn [wtD m x,wtD m y],.lst rw_]->qAr call [some (true,.lst ds),some (false,.int w),some (false,el m ts t y),some (false,el m ts t x)] [.app 0 (.tup [(.mk kn [(.ix (.v 3) (.k (.int 0))),(.ix (.v 2) (.k (.int 0)))]),(.compZ e 2 [] (.two 0 1) (.ix (.v 3) (.k (.int 1))) (.ix (.v 2) (.k (.int 1))))])]=some (.nx [some (true,.lst (ds++[el m ts t z])),some (false,.int w),some (false,el m ts t y),some (false,el m ts t x)]):=λkn e z rr h1 h2 h3=>by
  refine qCZ (false,el m ts t z) ?_ rfl (qC7 (by omega)) rfl
  rw [qAN,qAs,qAs,h1,h3]
  simp only [qMg,qAs,qAH,pk,qAe,List.getElem?_cons_succ,List.getElem?_cons_zero,Option.join_some,Option.bind_some,pkR,qAp,Option.map_some,el0,qAt,List.length_cons,List.length_nil,Nat.reduceAdd,h2,↓reduceIte,l2]
 rcases hw with rfl|rfl
 ·refine⟨.both x y,_,.inl rfl,qEc (xs:=ds++[el m ts t x]) (d:=el m ts t y) rfl rfl (qEc (xs:=ds) (d:=el m ts t x) rfl rfl (qEd (x:=false) (by simp only [List.set_cons_zero,List.set_cons_succ,qAi,pk,qAe,List.getElem?_cons_succ,List.getElem?_cons_zero,Option.join_some,Option.bind_some,pkR,qAp,Option.map_some,qAg];rfl) (fin _ _ (.both x y) _ (c1 _ (λp q=>p&&q) λp q=>by cases p<;>cases q<;>rfl) rfl rfl) rfl)),rfl⟩
 ·refine⟨.eith x y,_,.inr rfl,qEc (xs:=ds++[el m ts t x]) (d:=el m ts t y) rfl rfl (qEc (xs:=ds) (d:=el m ts t x) rfl rfl (qMD (x:=false) (by simp only [List.set_cons_zero,List.set_cons_succ,qAi,pk,qAe,List.getElem?_cons_succ,List.getElem?_cons_zero,Option.join_some,Option.bind_some,pkR,qAp,Option.map_some,qAg];rfl) (fin _ _ (.eith x y) _ (c1 _ (λp q=>p||q) λp q=>by cases p<;>cases q<;>rfl) rfl rfl) rfl)),rfl⟩
end
end Dw.T
namespace Dw.T
open Dw
noncomputable def msr (ws:List Wt):Nat:=(ws.map λw=>dp w+1).sum
theorem qCn (a b:List Wt):msr (a++b)=msr a+msr b:=by unfold msr;rw [List.map_append,List.sum_append]
theorem qB0 (w:Wt):msr [w]=dp w+1:=by simp [msr]
theorem qE1 (ws:List Wt):ws.length<=msr ws:=by
 induction ws with
 | nil=>exact Nat.le_refl _
 | cons w r ih=>rw [show w::r=[w]++r from rfl,qCn,qB0,List.length_append];simp;omega
theorem qLB {α:Type}:∀{l:List α},l≠[]->∃r x,l=r++[x]
 | l,h=>⟨l.dropLast,l.getLast h,(List.dropLast_concat_getLast h).symm⟩
theorem qNK {α:Type}{l:List α}(h:1<l.length):∃r x y,l=r++[x]++[y]:=by
 obtain⟨r,y,rfl⟩:=qLB (l:=l) (by intro z;subst z;simp at h)
 obtain⟨r',x,rfl⟩:=qLB (l:=r) (by intro z;subst z;simp at h)
 exact⟨r',x,y,rfl⟩
theorem qHa {r:List Wt}{x y z:Wt}(hz:z=.both x y∨z=.eith x y) (h:∀w∈r++[x]++[y],qDw w):(∀w∈r++[z],qDw w)/\msr (r++[z])<=msr (r++[x]++[y]):=by
 have hx:=h x (by simp)
 have hy:=h y (by simp)
 refine⟨λw hw=>?_,?_⟩
 ·rcases List.mem_append.mp hw with hw|hw
  ·exact h w (by simp [hw])
  ·obtain rfl:=List.mem_singleton.mp hw
   rcases hz with rfl|rfl<;>exact⟨hx,hy⟩
 ·rw [qCn,qCn,qCn,qB0,qB0,qB0]
  rcases hz with rfl|rfl
  ·show msr r+(max (dp x) (dp y)+1+1)<=_
   omega
  ·show msr r+(max (dp x) (dp y)+1+1)<=_
   omega
theorem qHf {α:Type}(f:α->D) (ws:List α):qIr .ne (.lst (ws.map f)) (.lst [])=some (false,.bl (!ws.isEmpty)):=by
 cases ws with
 | nil=>rfl
 | cons w r =>
  rw [List.map_cons,qLT]
  split<;>rfl
section
variable {call:Nat->List D->Option R}
theorem qMr (s:Sc) (c:Int) (ts:List Th) (ws:List Wt) (hws:∀w∈ws,qDw w) (hl:ws.length<900) (C30:call 30 [.int c]=some (false,.int (qBW c))) (C37:∃a:At,qGq a/\call 37 [.int c,scD s]=some (false,atD s.m a)) (C38:∀a:At,call 38 [atD s.m a]=some (false,atO s.m a))
  (C44:∀a:At,qGq a->∀u∈ts,call 44 [atD s.m a,frD s.m (swQ u),.int (u.mr:Int),.int u.wo,.int s.bt]=some (false,.bl (trT s.m a u s.bt)))
  (P:∀(ds:List D) (x y:Wt) (w:Int),ds.length<1000->(w=0∨w=1)->∃z,(z=.both x y∨z=.eith x y)/\call (46+HX) [.lst (ds++[el s.m ts s.bt x]++[el s.m ts s.bt y]),.int w]=some (true,.lst (ds++[el s.m ts s.bt z]))) :
  ∃ws' σ',ws'≠[]/\(∀w∈ws',qDw w)/\msr ws'<=msr ws+1/\qAr call [some (true,.lst (ws.map (el s.m ts s.bt))),some (false,.int c),some (false,scD s),some (false,.lst (ts.map (thD s.m))),none,none,none,none] f_law_push.body=some (.nx σ')/\qAe σ' 0=some (true,.lst (ws'.map (el s.m ts s.bt))):=by
 have d9:qAW 9=true:=by decide
 have d8:qAW 8=true:=by decide
 have l1:1<=lim:=qAY (by decide)
 have l2:2<=lim:=qAY (by decide)
 have bw:=qBe ((qBW c).fdiv 9) 8 (by decide)
 generalize hw:((qBW c).fdiv 9).fmod 8=w at bw
 have hlen:biP .len [.lst (ws.map (el s.m ts s.bt))]=some (false,.int (ws.length:Int)):=by rw [qBQ,List.length_map]
 have hnil:=qHf (el s.m ts s.bt) ws
 have e1:evE call [some (true,.lst (ws.map (el s.m ts s.bt))),some (false,.int c),some (false,scD s),some (false,.lst (ts.map (thD s.m))),some (false,.int w),none,none,none] (.and (.cmp .lt (.v 4) (.k (.int 2))) (.cmp .gt (.bi .len [(.v 0)]) (.k (.int 1))))=some (false,.bl (decide (w<2)&&decide ((1:Int)<(ws.length:Int)))):=qFb (x:=false) (y:=false) (by simp only [qAi,pk,qAe,List.getElem?_cons_succ,List.getElem?_cons_zero,Option.join_some,Option.bind_some,pkR,qAp,Option.map_some,qCr]) (by simp only [qAi,pk,qBv,qAu,qAe,List.getElem?_cons_zero,Option.join_some,Option.bind_some,pkR,qAv,hlen,Option.map_some,qAp,qBP])
 have e2:evE call [some (true,.lst (ws.map (el s.m ts s.bt))),some (false,.int c),some (false,scD s),some (false,.lst (ts.map (thD s.m))),some (false,.int w),none,none,none] (.and (.cmp .eq (.v 4) (.k (.int 2))) (.cmp .ne (.v 0) (.lst [])))=some (false,.bl (decide (w=2)&&!ws.isEmpty)):=qFb (x:=false) (y:=false) (by simp only [qAi,pk,qAe,List.getElem?_cons_succ,List.getElem?_cons_zero,Option.join_some,Option.bind_some,pkR,qAp,Option.map_some,qAg,eqZ]) (by simp only [qAi,pk,qAe,List.getElem?_cons_zero,Option.join_some,Option.bind_some,pkR,qBV,qAt,List.length_nil,qLz,↓reduceIte,Option.map_some,hnil])
 have pre:∀z,qAr call [some (true,.lst (ws.map (el s.m ts s.bt))),some (false,.int c),some (false,scD s),some (false,.lst (ts.map (thD s.m))),some (false,.int w),none,none,none] [.ite (.and (.cmp .lt (.v 4) (.k (.int 2))) (.cmp .gt (.bi .len [(.v 0)]) (.k (.int 1)))) [.hnd 0 46 [(.v 4)]] [.ite (.and (.cmp .eq (.v 4) (.k (.int 2))) (.cmp .ne (.v 0) (.lst []))) [.pop (.one 5) 0,.app 0 (.tup [(.mk ⟨713,[(PySem.Str.ofString "one")]⟩ [(.ix (.v 5) (.k (.int 0)))]),(.compS (.not (.v 0)) 1 [] (.one 0) (.ix (.v 5) (.k (.int 1))))])] [.set 6 false (.call 37 [(.v 1),(.v 2)]),.set 7 false (.compS (.call 44 [(.v 1),(.ix (.v 0) (.k (.int 1))),(.ix (.v 0) (.k (.int 2))),(.ix (.v 0) (.k (.int 3))),(.ix (.v 2) (.k (.int 4)))]) 1 [6,2] (.one 0) (.v 3)),.app 0 (.tup [(.call 38 [(.v 6)]),(.v 7)])]]]=z->qAr call [some (true,.lst (ws.map (el s.m ts s.bt))),some (false,.int c),some (false,scD s),some (false,.lst (ts.map (thD s.m))),none,none,none,none] f_law_push.body=z:=λz hz=>qAn (false,.int w) (by simp only [qAj,pk,qAl,qAk,ag,qAe,List.getElem?_cons_succ,List.getElem?_cons_zero,Option.join_some,Option.bind_some,agR,qAm,C30,Option.map_some,qAp,qAo,d9,↓reduceIte,qAh,d8,hw]) hz
 by_cases hA:w<2/\1<ws.length
 ·obtain⟨r,x,y,rfl⟩:=qNK hA.2
  obtain⟨z,hz,hc⟩:=P (r.map (el s.m ts s.bt)) x y w (by simp at hl ⊢;omega) (by omega)
  obtain⟨p1,p2⟩:=qHa hz hws
  refine⟨r++[z],[some (true,.lst (r.map (el s.m ts s.bt)++[el s.m ts s.bt z])),some (false,.int c),some (false,scD s),some (false,.lst (ts.map (thD s.m))),some (false,.int w),none,none,none],by simp,p1,by omega,pre _ ?_,?_⟩
  ·refine qEd (x:=false) (by rw [e1,decide_eq_true hA.1,decide_eq_true (by have:=hA.2;omega)];rfl) ?_ rfl
   refine qGI call _ (xs:=(r++[x]++[y]).map (el s.m ts s.bt)) (ys:=[.int w]) (b:=true) rfl rfl ?_ rfl
   rw [List.map_append,List.map_append]
   exact hc
  ·rw [List.map_append]
   rfl
 ·have hA':(decide (w<2)&&decide ((1:Int)<(ws.length:Int)))=false:=by
   by_cases q:w<2
   ·rw [decide_eq_true q,Bool.true_and]
    exact decide_eq_false (by have:¬1<ws.length:=λz=>hA ⟨q,z⟩;omega)
   ·rw [decide_eq_false q,Bool.false_and]
  rw [hA'] at e1
  by_cases hB:w=2/\ws≠[]
  ·obtain⟨rfl,hne⟩:=hB
   have hi:(!ws.isEmpty)=true:=by cases ws with|nil=>exact absurd rfl hne|cons _ _=>rfl
   rw [hi] at e2
   obtain⟨r,x,rfl⟩:=qLB hne
   have hx:=hws x (by simp)
   refine⟨r++[.unl x],[some (true,.lst (r.map (el s.m ts s.bt)++[el s.m ts s.bt (.unl x)])),some (false,.int c),some (false,scD s),some (false,.lst (ts.map (thD s.m))),some (false,.int 2),some (false,el s.m ts s.bt x),none,none],by simp,λv hv=>?_,?_,pre _ ?_,by rw [List.map_append];rfl⟩
   ·rcases List.mem_append.mp hv with hv|hv
    ·exact hws v (by simp [hv])
    ·obtain rfl:=List.mem_singleton.mp hv
     exact hx
   ·rw [qCn,qCn,qB0,qB0]
    show msr r+(dp x+1+1)<=_
    omega
   ·refine qMD (x:=false) e1 (qEd (x:=false) e2 ?_ rfl) rfl
    have hc:evE call [some (true,.lst (r.map (el s.m ts s.bt))),some (false,.int c),some (false,scD s),some (false,.lst (ts.map (thD s.m))),some (false,.int 2),some (false,el s.m ts s.bt x),none,none] (.compS (.not (.v 0)) 1 [] (.one 0) (.ix (.v 5) (.k (.int 1))))=some (true,.lst (ts.map λu=>.bl (!trW s.m u s.bt x))):=
     qBO (r:=(false,.lst (ts.map λu=>.bl (trW s.m u s.bt x)))) (by simp only [qAH,pk,qAe,List.getElem?_cons_succ,List.getElem?_cons_zero,Option.join_some,Option.bind_some,pkR,qAp,Option.map_some,el1]) rfl rfl (qAX call _ (λu=>.bl (trW s.m u s.bt x)) (λu=>.bl (!trW s.m u s.bt x)) ts λu _=>⟨_,false,rfl,rfl⟩)
    refine qEc (xs:=r.map (el s.m ts s.bt)) (d:=el s.m ts s.bt x) (by rw [List.map_append];rfl) rfl ?_
    refine qCZ (false,el s.m ts s.bt (.unl x)) ?_ rfl (qC7 (by simp at hl ⊢;omega)) rfl
    show evE call [some (true,.lst (r.map (el s.m ts s.bt))),some (false,.int c),some (false,scD s),some (false,.lst (ts.map (thD s.m))),some (false,.int 2),some (false,el s.m ts s.bt x),none,none] (.tup [_,_])=_
    rw [qAN,qAs,qAs,hc]
    simp only [qMg,qAs,qAH,pk,qAe,List.getElem?_cons_succ,List.getElem?_cons_zero,Option.join_some,Option.bind_some,pkR,qAp,Option.map_some,el0,qAt,List.length_cons,List.length_nil,Nat.reduceAdd,↓reduceIte,l2]
    rfl
  ·have hB':(decide (w=2)&&!ws.isEmpty)=false:=by
    by_cases q:w=2
    ·cases ws with
     | nil=>rw [Bool.and_comm];rfl
     | cons a r=>exact absurd ⟨q,by simp⟩ hB
    ·rw [decide_eq_false q,Bool.false_and]
   rw [hB'] at e2
   obtain⟨a,ha,C37⟩:=C37
   have w34:=C38 a
   refine⟨ws++[.atm a],[some (true,.lst (ws.map (el s.m ts s.bt)++[el s.m ts s.bt (.atm a)])),some (false,.int c),some (false,scD s),some (false,.lst (ts.map (thD s.m))),some (false,.int w),none,some (false,atD s.m a),some (false,.lst (ts.map λu=>.bl (trT s.m a u s.bt)))],by simp,λv hv=>?_,?_,pre _ ?_,by rw [List.map_append];rfl⟩
   ·rcases List.mem_append.mp hv with hv|hv
    ·exact hws v hv
    ·obtain rfl:=List.mem_singleton.mp hv
     exact ha
   ·rw [qCn,qB0]
    show msr ws+(0+1)<=_
    omega
   ·refine qMD (x:=false) e1 (qMD (x:=false) e2 ?_ rfl) rfl
    refine qAn (false,atD s.m a) (by simp only [qAl,qAk,ag,qAe,List.getElem?_cons_succ,List.getElem?_cons_zero,Option.join_some,Option.bind_some,agR,qAm,C37]) ?_
    have hc:evE call [some (true,.lst (ws.map (el s.m ts s.bt))),some (false,.int c),some (false,scD s),some (false,.lst (ts.map (thD s.m))),some (false,.int w),none,some (false,atD s.m a),none] (.compS (.call 44 [(.v 1),(.ix (.v 0) (.k (.int 1))),(.ix (.v 0) (.k (.int 2))),(.ix (.v 0) (.k (.int 3))),(.ix (.v 2) (.k (.int 4)))]) 1 [6,2] (.one 0) (.v 3))=some (true,.lst (ts.map λu=>.bl (trT s.m a u s.bt))):=
     qBO (r:=(false,.lst (ts.map (thD s.m)))) rfl rfl rfl (qAX call _ (thD s.m) (λu=>.bl (trT s.m a u s.bt)) ts λu hu=>⟨_,false,rfl,by
      have:=C44 a ha u hu
      rw [<-qPI] at this
      simp only [qBb,List.replicate_succ,List.replicate_zero,qAe,List.map_cons,List.getElem?_cons_succ,List.getElem?_cons_zero,Option.join_some,List.map_nil,List.cons_append,List.nil_append,List.set_cons_zero,qAl,qAk,ag,Option.bind_some,agR,qAH,pk,pkR,qAp,Option.map_some,th1,th2,th3,sc4,qAm,this]⟩)
    refine qAn (true,.lst (ts.map λu=>.bl (trT s.m a u s.bt))) hc ?_
    exact qCZ (false,el s.m ts s.bt (.atm a)) (by simp only [qAz,Bool.and_false,List.set_cons_succ,List.set_cons_zero,Bool.and_true,qAN,qAs,qAl,qAk,ag,qAe,List.getElem?_cons_succ,List.getElem?_cons_zero,Option.join_some,Option.bind_some,agR,qAm,w34,qBT,qAR,qAt,List.length_cons,List.length_nil,Nat.reduceAdd,l2,↓reduceIte];rfl) rfl (qC7 (by simp at hl ⊢;omega)) rfl
end
end Dw.T
namespace Dw.T
open Dw
theorem qPF:tab.length<=HX:=by decide
theorem qH9 (n m:Nat) (hm:0<m) (c:Fr) (hc:qKi c) (f:Nat->P2) (a b:Int):qAC tab (n+4) 28 [frD m c,qAG m f,.int a,.int b]=some (false,.bl (dc (Cm m c f a b))):=by
 have bl:∀(a b:Q4) (s:Sp2),(b.2.2.2 - a.2.2.1).natAbs<2^100->qAC tab (n+2) 8 [q4 a,q4 b,spD s]=some (false,spD (bb a b s)):=λa b s h=>by
  cases s with
  | none=>exact qAd t8 rfl rfl (qGD a b none h λn' r a b hr=>qAd t7 rfl rfl (qGE n' r a b hr))
  | some p=>exact qAd t8 rfl rfl (qGD a b (some p) h λn' r a b hr=>qAd t7 rfl rfl (qGE n' r a b hr))
 refine qAd t28 rfl rfl (qKz m hm c f a b (qAd t11 rfl rfl (qKv m f)) ?_)
 refine qAd t9 rfl rfl (qGC m c (λj=>stl (f j)) a b (λj hj=>?_) bl)
 have h:=hc j
 unfold Bd4 at h
 simp only [stl]
 omega
theorem qQs {call:Nat->List D->Option R}(m:Nat) (o:To) (t:Int) (a:call 17 [toD m o]=some (false,frD m o.cov)) (b:call 12 [frD m o.cov,.int t]=some (false,qAG m (qA o.cov t))):qAr call [some (false,toD m o),some (false,.int t)] f_cover_at.body=some (.rt (false,qAG m (qA o.cov t))):=
 qAf (r:=(false,qAG m (qA o.cov t))) (by simp only [qA2,qAl,qAk,ag,qAe,List.getElem?_cons_zero,Option.join_some,Option.bind_some,agR,qAm,a,Option.map_some,List.getElem?_cons_succ,b]) rfl
theorem qQr {call:Nat->List D->Option R}(m:Nat) (o:To) (t:Int) (a:call 18 [toD m o]=some (false,frD m o.hrt)) (b:call 12 [frD m o.hrt,.int t]=some (false,qAG m (qA o.hrt t))):qAr call [some (false,toD m o),some (false,.int t)] f_heart_at.body=some (.rt (false,qAG m (qA o.hrt t))):=
 qAf (r:=(false,qAG m (qA o.hrt t))) (by simp only [qA2,qAl,qAk,ag,qAe,List.getElem?_cons_zero,Option.join_some,Option.bind_some,agR,qAm,a,Option.map_some,List.getElem?_cons_succ,b]) rfl
theorem qQo {call:Nat->List D->Option R}(m:Nat) (u:Th) (t:Int) (b:call 12 [frD m (swQ u),.int t]=some (false,qAG m (qA (swQ u) t))) (a:call 13 [thD m u]=some (false,frD m (swQ u))):qAr call [some (false,thD m u),some (false,.int t)] f_thing_box.body=some (.rt (false,qAG m (qA (swQ u) t))):=
 qAf (r:=(false,qAG m (qA (swQ u) t))) (by simp only [qA2,qAl,qAk,ag,qAe,List.getElem?_cons_zero,Option.join_some,Option.bind_some,agR,qAm,a,Option.map_some,List.getElem?_cons_succ,b]) rfl
theorem qQP (n m:Nat) (hm:0<m) (o:To) (t:Int) (ht:0<=t/\t<=10^15):On (qAC tab (n+4)) m o t:=
 have c13:∀k,qAC tab (k+1) 17 [toD m o]=some (false,frD m o.cov):=λk=>qAd t17 rfl rfl (qAf (r:=(false,frD m o.cov)) rfl rfl)
 have c14:∀k,qAC tab (k+1) 18 [toD m o]=some (false,frD m o.hrt):=λk=>qAd t18 rfl rfl (qAf (r:=(false,frD m o.hrt)) rfl rfl)
 have fa:∀(k:Nat) (c:Fr),qAC tab (k+2) 12 [frD m c,.int t]=some (false,qAG m (qA c t)):=λk c=>qAd t12 rfl rfl (qP3 m c t λq=>qAd t10 rfl rfl (qPZ q t (by omega)))
 ⟨λg f=>qAd t4 rfl rfl (qP4 m g f λp q=>qAd t1 rfl rfl (qPW p q)),λg f=>qAd t5 rfl rfl (qP5 m g f λp q=>qAd t2 rfl rfl (qPX p q)),
  λg f h1 h2=>qAd t6 rfl rfl (qP6 m g f h1 h2 λp q=>qAd t3 rfl rfl (qPY p q)),c13 _,c14 _,
  qAd t19 rfl rfl (qAf (r:=(false,.int (o.so:Int))) rfl rfl),qAd t20 rfl rfl (qAf (r:=(false,.int (o.ev:Int))) rfl rfl),qAd t21 rfl rfl (qAf (r:=(false,.int o.lo)) rfl rfl),qAd t22 rfl rfl (qAf (r:=(false,.int o.hi)) rfl rfl),
  λp q=>qAd t23 rfl rfl (qOC p q),
  qAd t24 rfl rfl (qQs m o t (c13 _) (fa _ _)),
  qAd t25 rfl rfl (qQr m o t (c14 _) (fa _ _)),
  λx k=>qAd t26 rfl rfl (qP2 x k),λx k=>qAd t27 rfl rfl (qP1 x k),λc f a b hc=>qH9 n m hm c hc f a b⟩
theorem qBE (m:Nat) (hm:0<m) (o:To) (ok:ToOk o) (t:Int) (ht:0<=t/\t<=10^15):∀(w:Wt),qDw w->∀n,qAC tab (n+dp w+5) (wtF w) [wtD m w,toD m o,.int t]=some (false,wdD (vdt m o t w))
 | .atm a,h,n=>by
  have q:=qGB m a h o ok t ht (qQP n m hm o t ht)
  show qAC tab (n+0+5) (atF a) [atO m a,toD m o,.int t]=some (false,wdD (wrd m a o t))
  cases a with
  | any=>exact qAd t52 rfl rfl q
  | meets f=>exact qAd t54 rfl rfl q
  | inside f=>exact qAd t56 rfl rfl q
  | holds f=>exact qAd t58 rfl rfl q
  | near f r=>exact qAd t60 rfl rfl q
  | marked k=>exact qAd t62 rfl rfl q
  | touched k=>exact qAd t64 rfl rfl q
  | crosses f a b=>exact qAd t66 rfl rfl q
  | worthy w=>exact qAd t68 rfl rfl q
 | .both x y,h,n=>by
  have qx:=qBE m hm o ok t ht x h.1 (n+(max (dp x) (dp y) - dp x))
  have qy:=qBE m hm o ok t ht y h.2 (n+(max (dp x) (dp y) - dp y))
  rw [show n+(max (dp x) (dp y) - dp x)+dp x+5=n+max (dp x) (dp y)+5 by omega] at qx
  rw [show n+(max (dp x) (dp y) - dp y)+dp y+5=n+max (dp x) (dp y)+5 by omega] at qy
  exact qAd (n:=n+max (dp x) (dp y)+5) t70 rfl rfl (qKA m x y o t qx qy λp q=>qAd (n:=n+max (dp x) (dp y)+4) t23 rfl rfl (qOC p q))
 | .eith x y,h,n=>by
  have qx:=qBE m hm o ok t ht x h.1 (n+(max (dp x) (dp y) - dp x))
  have qy:=qBE m hm o ok t ht y h.2 (n+(max (dp x) (dp y) - dp y))
  rw [show n+(max (dp x) (dp y) - dp x)+dp x+5=n+max (dp x) (dp y)+5 by omega] at qx
  rw [show n+(max (dp x) (dp y) - dp y)+dp y+5=n+max (dp x) (dp y)+5 by omega] at qy
  exact qAd (n:=n+max (dp x) (dp y)+5) t72 rfl rfl (qKx m x y o t qx qy λp q=>qAd (n:=n+max (dp x) (dp y)+4) t23 rfl rfl (qOC p q))
 | .unl x,h,n=>by
  have qx:=qBE m hm o ok t ht x h n
  exact qAd (n:=n+dp x+5) t74 rfl rfl (qMn m x o t qx λp q=>qAd (n:=n+dp x+4) t23 rfl rfl (qOC p q))
theorem qQS (n m:Nat):Law (qAC tab (n+2)) m:=
 have la:∀(k:Nat) (c:Fr) (t:Int),t.natAbs<2^64->qAC tab (k+1) 39 [frD m c,.int t]=some (true,.lst (bx m λj=>side (qA c t j))):=λk c t ht=>qAd t39 rfl rfl (qQq m c t ht)
 have lm:∀(k:Nat) (g f:Nat->P2),qAC tab (k+1) 40 [.lst (bx m λj=>side (g j)),qAG m f]=some (false,.bl (mtP m g f)):=λk g f=>qAd t40 rfl rfl (qQp m g f)
 ⟨la _,lm _,λg f=>qAd t41 rfl rfl (qP0 m g f _ _ rfl rfl),λg f=>qAd t41 rfl rfl (qP0 m g f _ _ rfl rfl),λg f h1 h2=>qAd t42 rfl rfl (qOT m g f h1 h2),
  λc f a b h1 h2=>qAd t43 rfl rfl (qOS m c f a b h1 h2 (la _ c) λg=>lm _ g f)⟩
theorem qFX (n:Nat) (c:Int) (hc:2 * c.natAbs<qDh):qAC tab (n+1) 30 [.int c]=some (false,.int (qBW c)):=qAd t30 rfl rfl (qMq c hc)
theorem qH8 (n:Nat) (l:Int) (h0:0<=l) (h1:l<prm):qAC tab (n+1) 31 [.int l]=some (false,.int (qBZ l)):=qAd t31 rfl rfl (qMt l ⟨h0,h1⟩)
theorem qOd (n m:Nat) (a:At) (ha:qGq a) (u:Th) (hu:qEN u) (t:Int) (ht:0<=t/\t<=10^15):qAC tab (n+3) 44 [atD m a,frD m (swQ u),.int (u.mr:Int),.int u.wo,.int t]=some (false,.bl (trT m a u t)):=
 qAd (n:=n+2) t44 rfl (by cases a<;>rfl) (qMp m a ha (swQ u) (qGy hu) u.mr u.wo t ht (qQS n m))
theorem qQO (n m:Nat) (hm:0<m) (u:Th) (t:Int) (ht:0<=t/\t<=10^15):Ow (qAC tab (n+4)) m u t:=
 have c13:∀k,qAC tab (k+1) 13 [thD m u]=some (false,frD m (swQ u)):=λk=>qAd t13 rfl rfl (qAf (r:=(false,frD m (swQ u))) rfl rfl)
 have fa:∀(k:Nat) (c:Fr),qAC tab (k+2) 12 [frD m c,.int t]=some (false,qAG m (qA c t)):=λk c=>qAd t12 rfl rfl (qP3 m c t λq=>qAd t10 rfl rfl (qPZ q t (by omega)))
 ⟨λg f=>qAd t4 rfl rfl (qP4 m g f λp q=>qAd t1 rfl rfl (qPW p q)),λg f=>qAd t5 rfl rfl (qP5 m g f λp q=>qAd t2 rfl rfl (qPX p q)),
  λg f h1 h2=>qAd t6 rfl rfl (qP6 m g f h1 h2 λp q=>qAd t3 rfl rfl (qPY p q)),c13 _,qAd t14 rfl rfl (qAf (r:=(false,.int (u.mr:Int))) rfl rfl),qAd t15 rfl rfl (qAf (r:=(false,.int u.wo)) rfl rfl),
  qAd t16 rfl rfl (qQo m u t (fa _ _) (c13 _)),
  λx k=>qAd t26 rfl rfl (qP2 x k),λx k=>qAd t27 rfl rfl (qP1 x k),λc f a b hc=>qH9 n m hm c hc f a b⟩
theorem qCK (m:Nat) (hm:0<m) (u:Th) (hu:qEN u) (t:Int) (ht:0<=t/\t<=10^15):∀(w:Wt),qDw w->∀n,qAC tab (n+dp w+5) (wtG w) [wtD m w,thD m u,.int t]=some (false,.bl (trW m u t w))
 | .atm a,h,n=>by
  have q:=qKu m a h u hu t ht (qQO n m hm u t ht)
  show qAC tab (n+0+5) (atG a) [atO m a,thD m u,.int t]=some (false,.bl (trT m a u t))
  cases a with
  | any=>exact qAd t51 rfl rfl q
  | meets f=>exact qAd t53 rfl rfl q
  | inside f=>exact qAd t55 rfl rfl q
  | holds f=>exact qAd t57 rfl rfl q
  | near f r=>exact qAd t59 rfl rfl q
  | marked k=>exact qAd t61 rfl rfl q
  | touched k=>exact qAd t63 rfl rfl q
  | crosses f a b=>exact qAd t65 rfl rfl q
  | worthy w=>exact qAd t67 rfl rfl q
 | .both x y,h,n=>by
  have qx:=qCK m hm u hu t ht x h.1 (n+(max (dp x) (dp y) - dp x))
  have qy:=qCK m hm u hu t ht y h.2 (n+(max (dp x) (dp y) - dp y))
  rw [show n+(max (dp x) (dp y) - dp x)+dp x+5=n+max (dp x) (dp y)+5 by omega] at qx
  rw [show n+(max (dp x) (dp y) - dp y)+dp y+5=n+max (dp x) (dp y)+5 by omega] at qy
  exact qAd (n:=n+max (dp x) (dp y)+5) t69 rfl rfl (qKB m x y u t qx qy)
 | .eith x y,h,n=>by
  have qx:=qCK m hm u hu t ht x h.1 (n+(max (dp x) (dp y) - dp x))
  have qy:=qCK m hm u hu t ht y h.2 (n+(max (dp x) (dp y) - dp y))
  rw [show n+(max (dp x) (dp y) - dp x)+dp x+5=n+max (dp x) (dp y)+5 by omega] at qx
  rw [show n+(max (dp x) (dp y) - dp y)+dp y+5=n+max (dp x) (dp y)+5 by omega] at qy
  exact qAd (n:=n+max (dp x) (dp y)+5) t71 rfl rfl (qKy m x y u t qx qy)
 | .unl x,h,n=>qAd (n:=n+dp x+5) t73 rfl rfl (qMo m x u t (qCK m hm u hu t ht x h n))
theorem qOf (n:Nat) (c:Int) (s:Sc) (hc:2 * c.natAbs<qDh) (ok:ScOk s):∃a:At,qGq a/\qAC tab (n+3) 37 [.int c,scD s]=some (false,atD s.m a):=by
 obtain⟨a,h1,h2⟩:=qMv (call:=qAC tab (n+2)) c s ok (qFX _ c hc) (λl h0 h1=>qH8 _ l h0 h1) (by
   obtain⟨f,q1,q2⟩:=qID (call:=qAC tab (n+1)) c s ok (qFX _ c hc) λl h0 h1=>qH8 _ l h0 h1
   exact⟨f,q1,qAd t34 rfl rfl q2⟩) (λl=>by
   obtain⟨k,q⟩:=qF8 (call:=qAC tab (n+1)) l
   exact⟨k,qAd t35 rfl rfl q⟩) λl bt hb=>by
   obtain⟨a,b,q1,q2,q3⟩:=qIC (call:=qAC tab (n+1)) l bt hb
   exact⟨a,b,q1,q2,qAd t36 rfl rfl q3⟩
 exact⟨a,h1,qAd t37 rfl rfl h2⟩
theorem qOc (n m:Nat) (a:At):qAC tab (n+1) 38 [atD m a]=some (false,atO m a):=qAd t38 rfl (by cases a<;>rfl) (qMm m a)
theorem qKc (n m:Nat) (ts:List Th) (t:Int) (ds:List D) (x y:Wt) (w:Int) (hl:ds.length<1000) (hw:w=0∨w=1):∃z,(z=.both x y∨z=.eith x y)/\qAC tab (n+1) (46+HX) [.lst (ds++[el m ts t x]++[el m ts t y]),.int w]=some (true,.lst (ds++[el m ts t z])):=by
 obtain⟨z,σ',hz,h1,h2⟩:=qMs (call:=qAC tab n) m ts t ds hl x y w hw
 exact⟨z,hz,qH4 qPF t46 rfl rfl h1 h2⟩
theorem qOe (n:Nat) (s:Sc) (ok:ScOk s) (c:Int) (hc:2 * c.natAbs<qDh) (ts:List Th) (hts:∀u∈ts,qEN u) (ws:List Wt) (hws:∀w∈ws,qDw w) (hl:ws.length<900) :
  ∃ws',ws'≠[]/\(∀w∈ws',qDw w)/\msr ws'<=msr ws+1/\qAC tab (n+5) (47+HX) [.lst (ws.map (el s.m ts s.bt)),.int c,scD s,.lst (ts.map (thD s.m))]=some (true,.lst (ws'.map (el s.m ts s.bt))):=by
 obtain⟨ws',σ',h1,h2,h3,h4,h5⟩:=qMr (call:=qAC tab (n+4)) s c ts ws hws hl (qFX _ c hc) (qOf (n+1) c s hc ok) (λa=>qOc (n+3) s.m a) (λa ha u hu=>qOd (n+1) s.m a ha u (hts u hu) s.bt ok.bt) λds x y w hl hw=>qKc (n+3) s.m ts s.bt ds x y w hl hw
 exact⟨ws',h1,h2,h3,qH4 qPF t47 rfl rfl h4 h5⟩
end Dw.T
namespace Dw.T
open Dw
theorem qHs (cs:List Int) (k:Nat) (h:k<cs.length):ixP (.lst (cs.map .int)) (.int (k:Int))=some (false,.int (cs.getD k 0)):=by
 rw [qHo,qE2]
 simp [h]
theorem qFL {α:Type}(f:α->D) (l:List α) (k:Nat) (x:α) (h:l[k]?=some x):ixP (.lst (l.map f)) (.int (k:Int))=some (false,f x):=by
 rw [qHo,qE2,List.getElem?_map,h]
 rfl
theorem qGZ (n:Nat) (hn:3<=n) (h:n<=62):∃c:Nat,0<c/\c<=20/\(∀i,i<c->2+i * 3<n)/\qFx [.int 2,.int (n:Int),.int 3]=some ((List.range c).map λi:Nat=>.int ((2+i * 3:Nat):Int)):=by
 refine⟨(n - 3) / 3+1,by omega,by omega,λi hi=>by omega,?_⟩
 rw [qMR,if_pos (by refine⟨?_,?_,?_,?_,?_,?_⟩<;>omega)]
 have e:(qEJ 2 (n:Int) 3).toNat=(n - 3) / 3+1:=by
  unfold qEJ
  rw [if_pos (by decide),if_pos (by omega)]
  omega
 rw [e]
 rfl
theorem qHR {α:Type}(f:α->D) (l:List α) (a b:Nat) (h:a<=b):qL8 (l.map f) (some (a:Int)) (some (b:Int))=((l.drop a).take (b - a)).map f:=by
 rw [qHQ _ _ _ h,<-List.map_drop,<-List.map_take]
theorem qJ1 (b:Bool) (row:List Bool):inR false (.bl b) (false,.lst (row.map .bl))=some (false,.bl (row.any λc=>c == b)):=by
 show (if (true&&(true&&qD7 (row.map D.bl)))=true then some (false,D.bl (qD3 (row.map D.bl) (.bl b))) else none)=_
 have h:qD7 (row.map D.bl)=true:=by rw [qFF];simp
 rw [h]
 show some (false,D.bl (qD3 (row.map D.bl) (.bl b)))=_
 unfold qD3
 rw [List.any_map]
 rfl
theorem qOq {k:Nat}(h:k<=100):k<big:=Nat.lt_of_lt_of_le (show k<2^10 by omega) (Nat.pow_le_pow_right (by decide) (by decide))
section
variable {call:Nat->List D->Option R}
theorem qMu (d:Wd) (row:List Bool) (h1:d=.ev->∀b∈row,b=true) (h2:d=.no->∀b∈row,b=false):qAr call [some (false,wdD d),some (false,.lst (row.map .bl))] f_law_lies.body=some (.rt (false,.bl false)):=by
 have a1:=qJ1 false row
 have a2:=qJ1 true row
 cases d with
 | ev =>
  have e:(row.any λc=>c == false)=false:=by rw [List.any_eq_false];intro b hb;rw [h1 rfl b hb];decide
  rw [e] at a1
  exact qAa (x:=false) rfl (qA0 (x:=false) rfl (qAf (r:=(false,.bl false)) (by simp only [qA2,qJH,pk,qAp,Option.map_some,qAe,List.getElem?_cons_succ,List.getElem?_cons_zero,Option.join_some,a1]) rfl) rfl)
 | no =>
  have e:(row.any λc=>c == true)=false:=by rw [List.any_eq_false];intro b hb;rw [h2 rfl b hb];decide
  rw [e] at a2
  refine qAa (x:=false) rfl (qAa (x:=false) rfl (qAf (r:=(false,.bl false)) (qJ8 (x:=false) rfl ?_) rfl))
  simp only [qJH,pk,qAp,Option.map_some,qAe,List.getElem?_cons_succ,List.getElem?_cons_zero,Option.join_some,a2]
 | op=>exact qAa (x:=false) rfl (qAa (x:=false) rfl (qAf (r:=(false,.bl false)) (qJ9 (x:=false) rfl) rfl))
theorem qKt (m:Nat) (w:Wt) (u:Th) (t:Int) (hs:call (wtG w) [wtD m w,thD m u,.int t]=some (false,.bl (trW m u t w))) (hv:call (wtF w) [wtD m w,toD m (poT [u]),.int t]=some (false,wdD (if trW m u t w then .ev else .no))) (hp:call 45 [.lst [thD m u]]=some (false,toD m (poT [u]))) :
  qAr call [some (false,wtD m w),some (false,thD m u),some (false,.int t),some (false,.bl (trW m u t w)),none] f_law_wrong_on.body=some (.rt (false,.bl false)):=by
 have l1:1<=lim:=qAY (by decide)
 refine qAn (false,.bl (trW m u t w)) (qGm (b:=false) (m:=m) (w:=w) (ys:=[thD m u,.int t]) rfl rfl hs) ?_
 generalize trW m u t w=z at *
 have h:=qFa (call:=call) (σ:=[some (false,wtD m w),some (false,thD m u),some (false,.int t),some (false,.bl z),some (false,.bl z)]) (a:=.v 0) (bs:=[(.call 45 [(.lst [(.v 1)])]),(.v 2)]) (b:=false) (m:=m) (w:=w) (ys:=[toD m (poT [u]),.int t]) rfl (by simp only [qAs,qAl,qAk,ag,qBV,qBT,qAR,qAe,List.getElem?_cons_succ,List.getElem?_cons_zero,Option.join_some,qAt,List.length_cons,List.length_nil,Nat.reduceAdd,l1,↓reduceIte,Option.map_some,qAm,hp]) hv
 refine qAa (x:=false) (by cases z<;>rfl) ?_
 refine qAf (r:=(false,.bl false)) (qN3 (x:=wdD (if z then .ev else .no)) (y:=wdD (if z then .ev else .no)) (congrArg (Option.map (λx:R=>x.2)) h) (by cases z<;>rfl) (by cases z<;>rfl)) rfl
structure B23 (call:Nat->List D->Option R):Prop where
 cell:∀(ns:List Int) (k:Nat),call 29 [.lst (ns.map .int),.int (k:Int)]=some (false,.int (qBU ns k))
 thing:∀(c:Int) (s:Sc),2 * c.natAbs<qDh->ScOk s->∃t:Th,qEN t/\call 33 [.int c,scD s]=some (false,thD s.m t)
 pour:∀(m:Nat) (ts:List Th),m<=3->ts≠[]->call 45 [.lst (ts.map (thD m))]=some (false,toD m (poT ts))
 pair:∀(m:Nat) (ts:List Th) (t:Int) (ds:List D) (x y:Wt) (w:Int),ds.length<1000->(w=0∨w=1)->∃z,(z=.both x y∨z=.eith x y)/\call (46+HX) [.lst (ds++[el m ts t x]++[el m ts t y]),.int w]=some (true,.lst (ds++[el m ts t z]))
 push:∀(s:Sc) (c:Int) (ts:List Th) (ws:List Wt),ScOk s->2 * c.natAbs<qDh->(∀u∈ts,qEN u)->(∀w∈ws,qDw w)->ws.length<900 ->
  ∃ws',ws'≠[]/\(∀w∈ws',qDw w)/\msr ws'<=msr ws+1/\call (47+HX) [.lst (ws.map (el s.m ts s.bt)),.int c,scD s,.lst (ts.map (thD s.m))]=some (true,.lst (ws'.map (el s.m ts s.bt)))
 verd:∀(m:Nat) (w:Wt) (o:To) (t:Int),0<m->qDw w->dp w<=20->ToOk o->(0<=t/\t<=10^15)->call (wtF w) [wtD m w,toD m o,.int t]=some (false,wdD (vdt m o t w))
 lies:∀(d:Wd) (row:List Bool),(d=.ev->∀b∈row,b=true)->(d=.no->∀b∈row,b=false)->call 48 [wdD d,.lst (row.map .bl)]=some (false,.bl false)
 wrong:∀(m:Nat) (w:Wt) (u:Th) (t:Int),0<m->m<=3->qDw w->dp w<=20->qEN u->(0<=t/\t<=10^15)->call 49 [wtD m w,thD m u,.int t,.bl (trW m u t w)]=some (false,.bl false)
theorem qGs (V:B23 call) (m:Nat) (ts:List Th) (t:Int) (pre post:List (Option R)) (hp:pre.length=5):∀(k:Nat) (ws:List Wt) (fuel:Nat),ws.length=k+1->k<fuel->k<900->(∀w∈ws,qDw w) ->
  ∃w,qDw w/\dp w+1<=msr ws/\qDF (fun σ'=>evE call σ' (.cmp .gt (.bi .len [(.v 5)]) (.k (.int 1)))) (fun σ'=>qAr call σ' [.hnd 5 46 [(.bin .mod (.bi .len [(.v 5)]) (.k (.int 2)))]]) fuel (pre++some (true,.lst (ws.map (el m ts t)))::post)=some (.nx (pre++some (true,.lst ([w].map (el m ts t)))::post))
 | k,ws,0,_,hf,_,_=>absurd hf (Nat.not_lt_zero _)
 | k,ws,fuel+1,hl,hf,hk,hws=>by
  have g:∀ws:List Wt,qAe (pre++some (true,.lst (ws.map (el m ts t)))::post) 5=some (true,.lst (ws.map (el m ts t))):=λws=>by
   unfold qAe
   rw [List.getElem?_append_right (by omega),hp]
   rfl
  have hlen:biP .len [.lst (ws.map (el m ts t))]=some (false,.int ((k+1:Nat):Int)):=by rw [qBQ,List.length_map,hl]
  have hb:evE call (pre++some (true,.lst (ws.map (el m ts t)))::post) (.bi .len [(.v 5)])=some (false,.int ((k+1:Nat):Int)):=qDx (x:=.lst (ws.map (el m ts t))) (by show (qAe _ 5).bind pkR=_;rw [g ws];rfl) hlen
  have hc:evE call (pre++some (true,.lst (ws.map (el m ts t)))::post) (.cmp .gt (.bi .len [(.v 5)]) (.k (.int 1)))=some (false,.bl (decide ((1:Int)<((k+1:Nat):Int)))):=qN3 (x:=.int ((k+1:Nat):Int)) (y:=.int 1) (qM5 hb) rfl rfl
  unfold qDF
  cases k with
  | zero =>
   obtain⟨w,rfl⟩:=List.length_eq_one_iff.mp hl
   refine⟨w,hws w (by simp),by rw [qB0];exact Nat.le_refl _,?_⟩
   simp only [hc]
   rfl
  | succ k =>
   obtain⟨r,x,y,rfl⟩:=qNK (l:=ws) (by omega)
   obtain⟨z,hz,hcall⟩:=V.pair m ts t (r.map (el m ts t)) x y ((((k+1+1:Nat):Int)).fmod 2) (by simp at hl ⊢;omega) (by have:=qBe (((k+1+1:Nat):Int)) 2 (by decide);omega)
   obtain⟨p1,p2⟩:=qHa hz hws
   obtain⟨w,q1,q2,q3⟩:=qGs V m ts t pre post hp k (r++[z]) fuel (by simp at hl ⊢;omega) (by omega) (by omega) p1
   refine⟨w,q1,by omega,?_⟩
   have d2:qAW 2=true:=by decide
   have hbody:qAr call (pre++some (true,.lst ((r++[x]++[y]).map (el m ts t)))::post) [.hnd 5 46 [(.bin .mod (.bi .len [(.v 5)]) (.k (.int 2)))]]=some (.nx (pre++some (true,.lst ((r++[z]).map (el m ts t)))::post)):=by
    refine qGI call _ (xs:=(r++[x]++[y]).map (el m ts t)) (ys:=[.int ((((k+1+1:Nat):Int)).fmod 2)]) (zs:=(r++[z]).map (el m ts t)) (b:=true) (g _) ?_ ?_ ?_
    ·rw [qAs,qAj,qM5 hb]
     simp only [qAp,pk,Option.map_some,qAh,d2,if_true,qAt]
    ·rw [List.map_append,List.map_append,List.map_append]
     exact hcall
    ·have e:∀(l:List (Option R)) (v:Option R),(l++some (true,.lst ((r++[x]++[y]).map (el m ts t)))::post).set l.length v=l++v::post:=λl v=>by simp
     rw [qJm,<-hp]
     exact congrArg (λq=>some (Ou.nx q)) (e pre _)
   simp only [hc]
   have hd:decide ((1:Int)<((k+1+1:Nat):Int))=true:=decide_eq_true (by omega)
   rw [hd,Option.bind_some]
   simp only [qOL]
   rw [hbody,Option.bind_some]
   exact q3
end
end Dw.T
namespace Dw.T
open Dw
section
variable {call:Nat->List D->Option R}
theorem qPv (V:B23 call) (s:Sc) (ok:ScOk s) (ns:List Int) (hl:ns.length<=63) (hh:∀i∈ns,2 * i.natAbs<qDh) (C32:call 32 [.lst (ns.map .int)]=some (false,scD s)) :
  qAr call [some (false,.lst (ns.map .int)),none,none,none,none,none,none,none,none,none,none,none,none] f_law.body=some (.rt (false,.bl true)):=by
 have hm0:0<s.m:=by have:=ok.m;omega
 have hm3:s.m<=3:=by have:=ok.m;omega
 have d3:qAW 3=true:=by decide
 have l2:2<=lim:=qAY (by decide)
 have l3:3<=lim:=qAY (by decide)
 have hcut:qL8 (ns.map .int) (some 4) (some 64)=((ns.drop 4).take 60).map .int:=qJn ns 4 64 (by decide)
 obtain⟨cs,ecs,hcs,lcs,l0⟩:∃cs:List Int,[D.int 0,.int 1,.int 2]++((ns.drop 4).take 60).map .int=cs.map .int/\(∀i∈cs,2 * i.natAbs<qDh)/\cs.length<=62/\3<=cs.length:=by
  refine⟨[0,1,2]++(ns.drop 4).take 60,by rw [List.map_append];rfl,λi hi=>?_,by simp;omega,by simp⟩
  have b10:∀x:Int,x.natAbs<=2->2 * x.natAbs<qDh:=λx hx=>Nat.lt_of_lt_of_le (show 2 * x.natAbs<2^10 by omega) (Nat.pow_le_pow_right (by decide) (by decide))
  rcases List.mem_append.mp hi with hi|hi
  ·simp only [List.mem_cons,List.not_mem_nil,or_false] at hi
   rcases hi with rfl|rfl|rfl
   ·exact b10 0 (by decide)
   ·exact b10 1 (by decide)
   ·exact b10 2 (by decide)
  ·exact hh i (List.mem_of_mem_drop (List.mem_of_mem_take hi))
 have hgd:∀k,2 * (cs.getD k 0).natAbs<qDh:=λk=>by
  rw [List.getD_eq_getElem?_getD]
  cases e:cs[k]? with
  | none=>exact Nat.lt_of_lt_of_le (show 2 * (0:Int).natAbs<2^10 by decide) (Nat.pow_le_pow_right (by decide) (by decide))
  | some i=>exact hcs i (List.mem_of_getElem? e)
 generalize hn:cs.length=n at lcs l0
 obtain⟨T,hT⟩:∃T:Nat->Th,∀i,qEN (T i)/\call 33 [.int (cs.getD i 0),scD s]=some (false,thD s.m (T i)):=
  Classical.axiomOfChoice λi=>V.thing (cs.getD i 0) s (hgd _) ok
 have ln:biP .len [.lst (cs.map .int)]=some (false,.int (n:Int)):=by rw [qBQ,List.length_map,hn]
 have hthings:qBa call (.cmp .ne (.bin .mod (.v 0) (.k (.int 3))) (.k (.int 2))) (.call 33 [(.ix (.v 1) (.v 0)),(.v 2)]) [none,some (false,.lst (cs.map .int)),some (false,scD s)] (.one 0) ((List.range n).map λi=>.int (i:Nat))=some (((List.range n).filter λi:Nat=>!eqD (.int ((i:Int).fmod 3)) (.int 2)).map λi=>thD s.m (T i)):=
  qCj (λi:Nat=>.int (i:Nat)) (λi=>thD s.m (T i)) _ (List.range n) λi hi=>by
   have hi:=List.mem_range.mp hi
   have g:=qHs cs i (by omega)
   have t:=(hT i).2
   exact⟨_,rfl,by simp only [List.set_cons_zero,qAi,pk,qAj,qAe,List.getElem?_cons_zero,Option.join_some,Option.bind_some,pkR,qAp,Option.map_some,qAh,d3,↓reduceIte,qCG],λ_=>⟨false,by simp only [List.set_cons_zero,qAl,qAk,ag,qAH,pk,qAe,List.getElem?_cons_succ,List.getElem?_cons_zero,Option.join_some,Option.bind_some,pkR,g,Option.map_some,agR,qAm,t]⟩⟩
 obtain⟨ts,ets,hts,hne⟩:∃ts:List Th,(((List.range n).filter λi:Nat=>!eqD (.int ((i:Int).fmod 3)) (.int 2)).map λi=>thD s.m (T i))=ts.map (thD s.m)/\(∀u∈ts,qEN u)/\ts≠[]:=by
  refine⟨((List.range n).filter λi:Nat=>!eqD (.int ((i:Int).fmod 3)) (.int 2)).map T,by rw [List.map_map];rfl,λu hu=>?_,?_⟩
  ·obtain⟨i,_,rfl⟩:=List.mem_map.mp hu
   exact (hT i).1
  ·intro z
   have:(0:Nat)∈(List.range n).filter λi:Nat=>!eqD (.int ((i:Int).fmod 3)) (.int 2):=List.mem_filter.mpr ⟨List.mem_range.mpr (by omega),rfl⟩
   rw [List.map_eq_nil_iff.mp z] at this
   cases this
 rw [ets] at hthings
 have tl0:0<ts.length:=List.length_pos_iff.mpr hne
 have lt:biP .len [.lst (ts.map (thD s.m))]=some (false,.int (ts.length:Int)):=by rw [qBQ,List.length_map]
 have tls:ts.length<=62:=by
  have:=congrArg List.length ets
  rw [List.length_map,List.length_map] at this
  have h2:=List.length_filter_le (λi:Nat=>!eqD (.int ((i:Int).fmod 3)) (.int 2)) (List.range n)
  rw [List.length_range] at h2
  omega
 have c29:call 29 [.lst (ns.map .int),.int 3]=some (false,.int (qBU ns 3)):=V.cell ns 3
 have bz:=qBe (qBU ns 3) (ts.length:Int) (by omega)
 have dL:qAW (ts.length:Int)=true:=qPM _ (by omega) (by omega)
 obtain⟨ct,ect,hct⟩:∃ct:Nat,(qBU ns 3).fmod (ts.length:Int)=(ct:Int)/\ct<=ts.length:=⟨((qBU ns 3).fmod (ts.length:Int)).toNat,by omega,by omega⟩
 obtain⟨cn,hcn0,hcn,hci,hrg⟩:=qGZ n l0 lcs
 obtain⟨σ',hpile,ws,o3,hws,hmsr,hnz,rfl⟩:=qBC (call:=call) (tg:=.one 3) (body:=[.hnd 5 47 [(.ix (.v 2) (.v 3)),(.v 1),(.v 4)]])
  (λk σ=>∃(ws:List Wt) (o3:Option R),(∀w∈ws,qDw w)/\msr ws<=k/\(0<k->ws≠[])/\σ=[some (false,.lst (ns.map .int)),some (false,scD s),some (false,.lst (cs.map .int)),o3,some (false,.lst (ts.map (thD s.m))),some (true,.lst (ws.map (el s.m ts s.bt))),none,none,none,none,none,none,none]) cn (λi:Nat=>.int ((2+i * 3:Nat):Int))
  [some (false,.lst (ns.map .int)),some (false,scD s),some (false,.lst (cs.map .int)),none,some (false,.lst (ts.map (thD s.m))),some (true,.lst []),none,none,none,none,none,none,none] ⟨[],none,(λ_ h=>nomatch h),Nat.le_refl _,λz=>absurd z (Nat.lt_irrefl _),rfl⟩ (by
   rintro k σ hk ⟨ws,o3,hws,hmsr,_,rfl⟩
   have hlw:=qE1 ws
   obtain⟨ws',n1,n2,n3,n4⟩:=V.push s (cs.getD (2+k * 3) 0) ts ws ok (hgd _) hts hws (by omega)
   have g:=qHs cs (2+k * 3) (by have:=hci k hk;omega)
   refine⟨_,[some (false,.lst (ns.map .int)),some (false,scD s),some (false,.lst (cs.map .int)),some (false,.int ((2+k * 3:Nat):Int)),some (false,.lst (ts.map (thD s.m))),some (true,.lst (ws'.map (el s.m ts s.bt))),none,none,none,none,none,none,none],rfl,?_,ws',some (false,.int ((2+k * 3:Nat):Int)),n2,by omega,λ_=>n1,rfl⟩
   exact qGI call _ (xs:=ws.map (el s.m ts s.bt)) (ys:=[.int (cs.getD (2+k * 3) 0),scD s,.lst (ts.map (thD s.m))]) (b:=true) rfl (by simp only [List.set_cons_succ,List.set_cons_zero,qAs,qAH,pk,qAe,List.getElem?_cons_succ,List.getElem?_cons_zero,Option.join_some,Option.bind_some,pkR,g,qBT,qAR,qAt]) n4 rfl)
 have hwne:=hnz hcn0
 obtain⟨w,hw,hdp,hwhl⟩:=qGs V s.m ts s.bt [some (false,.lst (ns.map .int)),some (false,scD s),some (false,.lst (cs.map .int)),o3,some (false,.lst (ts.map (thD s.m)))] [none,none,none,none,none,none,none] rfl (ws.length - 1) ws big (by have:=List.length_pos_iff.mpr hwne;omega) (qOq (by have:=qE1 ws;omega)) (by have:=qE1 ws;omega) hws
 have j0:ixP (.lst [el s.m ts s.bt w]) (.int 0)=some (false,el s.m ts s.bt w):=rfl
 obtain⟨σ2,hq,o10,o11,o12,rfl⟩:=qHE (call:=call) (tg:=.one 10) (body:=[.set 11 false (.sl (.v 4) (some (.ix (.v 10) (.k (.int 0)))) (some (.ix (.v 10) (.k (.int 1))))),.ite (.cmp .ne (.v 11) (.lst [])) [.set 12 false (.mc (.v 6) (PySem.Str.ofString "verdict") [(273,52),(313,54),(353,56),(393,58),(433,60),(473,62),(513,64),(553,66),(593,68),(633,70),(673,72),(713,74)] [(.call 45 [(.v 11)]),(.v 8)]),.ite (.call 48 [(.v 12),(.sl (.v 7) (some (.ix (.v 10) (.k (.int 0)))) (some (.ix (.v 10) (.k (.int 1)))))]) [.ret (.k (.bl false))] []] []]) (λp:Nat×Nat=>.tup [.int ((p.1:Nat):Int),.int ((p.2:Nat):Int)])
  (fun σ=>∃o10 o11 o12:Option R,σ=[some (false,.lst (ns.map .int)),some (false,scD s),some (false,.lst (cs.map .int)),o3,some (false,.lst (ts.map (thD s.m))),some (true,.lst [el s.m ts s.bt w]),some (false,wtD s.m w),some (false,.lst (ts.map λu=>.bl (trW s.m u s.bt w))),some (false,.int s.bt),some (false,.int (ct:Int)),o10,o11,o12]) [(0,ts.length),(0,ct),(ct,ts.length)]
  [some (false,.lst (ns.map .int)),some (false,scD s),some (false,.lst (cs.map .int)),o3,some (false,.lst (ts.map (thD s.m))),some (true,.lst [el s.m ts s.bt w]),some (false,wtD s.m w),some (false,.lst (ts.map λu=>.bl (trW s.m u s.bt w))),some (false,.int s.bt),some (false,.int (ct:Int)),none,none,none] ⟨_,_,_,rfl⟩ (by
   rintro⟨a,b⟩ hp σ ⟨o10,o11,o12,rfl⟩
   have hab:a<=b:=by
    simp only [List.mem_cons,List.not_mem_nil,or_false,Prod.mk.injEq] at hp
    omega
   have i0:ixP (.tup [.int (a:Int),.int (b:Int)]) (.int 0)=some (false,.int (a:Int)):=rfl
   have i1:ixP (.tup [.int (a:Int),.int (b:Int)]) (.int 1)=some (false,.int (b:Int)):=rfl
   have g1:=qHR (thD s.m) ts a b hab
   have g2:=qHR (λu=>D.bl (trW s.m u s.bt w)) ts a b hab
   have hsub:∀u∈(ts.drop a).take (b - a),u∈ts:=λu hu=>List.mem_of_mem_drop (List.mem_of_mem_take hu)
   generalize (ts.drop a).take (b - a)=us at g1 g2 hsub
   have hne2:=qHf (thD s.m) us
   have first:∀z,qAr call [some (false,.lst (ns.map .int)),some (false,scD s),some (false,.lst (cs.map .int)),o3,some (false,.lst (ts.map (thD s.m))),some (true,.lst [el s.m ts s.bt w]),some (false,wtD s.m w),some (false,.lst (ts.map λu=>.bl (trW s.m u s.bt w))),some (false,.int s.bt),some (false,.int (ct:Int)),some (false,.tup [.int (a:Int),.int (b:Int)]),some (false,.lst (us.map (thD s.m))),o12] [.ite (.cmp .ne (.v 11) (.lst [])) [.set 12 false (.mc (.v 6) (PySem.Str.ofString "verdict") [(273,52),(313,54),(353,56),(393,58),(433,60),(473,62),(513,64),(553,66),(593,68),(633,70),(673,72),(713,74)] [(.call 45 [(.v 11)]),(.v 8)]),.ite (.call 48 [(.v 12),(.sl (.v 7) (some (.ix (.v 10) (.k (.int 0)))) (some (.ix (.v 10) (.k (.int 1)))))]) [.ret (.k (.bl false))] []] []]=z->qAr call [some (false,.lst (ns.map .int)),some (false,scD s),some (false,.lst (cs.map .int)),o3,some (false,.lst (ts.map (thD s.m))),some (true,.lst [el s.m ts s.bt w]),some (false,wtD s.m w),some (false,.lst (ts.map λu=>.bl (trW s.m u s.bt w))),some (false,.int s.bt),some (false,.int (ct:Int)),some (false,.tup [.int (a:Int),.int (b:Int)]),o11,o12] [.set 11 false (.sl (.v 4) (some (.ix (.v 10) (.k (.int 0)))) (some (.ix (.v 10) (.k (.int 1))))),.ite (.cmp .ne (.v 11) (.lst [])) [.set 12 false (.mc (.v 6) (PySem.Str.ofString "verdict") [(273,52),(313,54),(353,56),(393,58),(433,60),(473,62),(513,64),(553,66),(593,68),(633,70),(673,72),(713,74)] [(.call 45 [(.v 11)]),(.v 8)]),.ite (.call 48 [(.v 12),(.sl (.v 7) (some (.ix (.v 10) (.k (.int 0)))) (some (.ix (.v 10) (.k (.int 1)))))]) [.ret (.k (.bl false))] []] []]=z:=λz hz=>qAn (true,.lst (us.map (thD s.m))) (by simp only [qKo,pk,qAe,List.getElem?_cons_succ,List.getElem?_cons_zero,Option.join_some,Option.bind_some,pkR,qEP,qAH,qAp,Option.map_some,i0,qL6,i1,qKY,g1]) hz
   by_cases hu0:us=[]
   ·subst hu0
    exact⟨_,[some (false,.lst (ns.map .int)),some (false,scD s),some (false,.lst (cs.map .int)),o3,some (false,.lst (ts.map (thD s.m))),some (true,.lst [el s.m ts s.bt w]),some (false,wtD s.m w),some (false,.lst (ts.map λu=>.bl (trW s.m u s.bt w))),some (false,.int s.bt),some (false,.int (ct:Int)),some (false,.tup [.int (a:Int),.int (b:Int)]),some (false,.lst []),o12],rfl,first _ (qAa (x:=false) rfl rfl),_,_,_,rfl⟩
   ·have he:us.isEmpty=false:=by cases us with|nil=>exact absurd rfl hu0|cons _ _=>rfl
    rw [he] at hne2
    have k0:=qJT hu0 λu hu=>hts u (hsub u hu)
    have q1:=V.pour s.m us hm3 hu0
    have q2:=V.verd s.m w (poT us) s.bt hm0 hw (by omega) k0 ok.bt
    have q3:=V.lies (vdt s.m (poT us) s.bt w) (us.map λu=>trW s.m u s.bt w) (λe b hb=>by
     obtain⟨u,hu,rfl⟩:=List.mem_map.mp hb
     exact (qKD s.m u (hts u (hsub u hu)) (poT us) k0 (qKs hu0 hu) s.bt ok.bt.1 w hw).1 e) (λe b hb=>by
     obtain⟨u,hu,rfl⟩:=List.mem_map.mp hb
     exact (qKD s.m u (hts u (hsub u hu)) (poT us) k0 (qKs hu0 hu) s.bt ok.bt.1 w hw).2 e)
    rw [List.map_map] at q3
    have q3:call 48 [wdD (vdt s.m (poT us) s.bt w),.lst (us.map λu=>.bl (trW s.m u s.bt w))]=some (false,.bl false):=q3
    refine⟨_,[some (false,.lst (ns.map .int)),some (false,scD s),some (false,.lst (cs.map .int)),o3,some (false,.lst (ts.map (thD s.m))),some (true,.lst [el s.m ts s.bt w]),some (false,wtD s.m w),some (false,.lst (ts.map λu=>.bl (trW s.m u s.bt w))),some (false,.int s.bt),some (false,.int (ct:Int)),some (false,.tup [.int (a:Int),.int (b:Int)]),some (false,.lst (us.map (thD s.m))),some (false,wdD (vdt s.m (poT us) s.bt w))],rfl,first _ (qEd (x:=false) (by simp only [qAi,pk,qAe,List.getElem?_cons_succ,List.getElem?_cons_zero,Option.join_some,Option.bind_some,pkR,qBV,qAt,List.length_nil,qLz,↓reduceIte,Option.map_some,hne2,Bool.not_false]) (σ':=[some (false,.lst (ns.map .int)),some (false,scD s),some (false,.lst (cs.map .int)),o3,some (false,.lst (ts.map (thD s.m))),some (true,.lst [el s.m ts s.bt w]),some (false,wtD s.m w),some (false,.lst (ts.map λu=>.bl (trW s.m u s.bt w))),some (false,.int s.bt),some (false,.int (ct:Int)),some (false,.tup [.int (a:Int),.int (b:Int)]),some (false,.lst (us.map (thD s.m))),some (false,wdD (vdt s.m (poT us) s.bt w))]) ?_ rfl),_,_,_,rfl⟩
    refine qAn (false,wdD (vdt s.m (poT us) s.bt w)) (qFa (b:=false) (m:=s.m) (w:=w) (ys:=[toD s.m (poT us),.int s.bt]) rfl (by simp only [qAs,qAl,qAk,ag,qAe,List.getElem?_cons_succ,List.getElem?_cons_zero,Option.join_some,Option.bind_some,agR,qAm,q1,qBT,qAR,qAt]) q2) ?_
    exact qAa (x:=false) (by simp only [qAz,Bool.and_false,List.set_cons_succ,List.set_cons_zero,qAl,qAk,ag,qAe,List.getElem?_cons_succ,List.getElem?_cons_zero,Option.join_some,Option.bind_some,agR,qKo,pk,pkR,qEP,qAH,qAp,Option.map_some,i0,qL6,i1,qKY,g2,qAm,q3]) rfl)
 obtain⟨σ3,hr,p3,rfl⟩:=qBC (call:=call) (tg:=.one 3) (body:=[.ite (.call 49 [(.v 6),(.ix (.v 4) (.v 3)),(.v 8),(.ix (.v 7) (.v 3))]) [.ret (.k (.bl false))] []])
  (λk σ=>∃p3:Option R,σ=[some (false,.lst (ns.map .int)),some (false,scD s),some (false,.lst (cs.map .int)),p3,some (false,.lst (ts.map (thD s.m))),some (true,.lst [el s.m ts s.bt w]),some (false,wtD s.m w),some (false,.lst (ts.map λu=>.bl (trW s.m u s.bt w))),some (false,.int s.bt),some (false,.int (ct:Int)),o10,o11,o12]) ts.length (λi:Nat=>.int (i:Nat))
  [some (false,.lst (ns.map .int)),some (false,scD s),some (false,.lst (cs.map .int)),o3,some (false,.lst (ts.map (thD s.m))),some (true,.lst [el s.m ts s.bt w]),some (false,wtD s.m w),some (false,.lst (ts.map λu=>.bl (trW s.m u s.bt w))),some (false,.int s.bt),some (false,.int (ct:Int)),o10,o11,o12] ⟨_,rfl⟩ (by
   rintro k σ hk ⟨p3,rfl⟩
   obtain⟨u,hu⟩:∃u,ts[k]?=some u:=⟨_,List.getElem?_eq_getElem hk⟩
   have g1:=qFL (thD s.m) ts k u hu
   have g2:=qFL (λu=>D.bl (trW s.m u s.bt w)) ts k u hu
   have q:=V.wrong s.m w u s.bt hm0 hm3 hw (by omega) (hts u (List.mem_of_getElem? hu)) ok.bt
   exact⟨_,_,rfl,qAa (x:=false) (by simp only [List.set_cons_succ,List.set_cons_zero,qAl,qAk,ag,qAe,List.getElem?_cons_succ,List.getElem?_cons_zero,Option.join_some,Option.bind_some,agR,qAH,pk,pkR,g1,Option.map_some,g2,qAm,q]) rfl,_,rfl⟩)
 obtain⟨u,hu⟩:∃u,ts[0]?=some u:=⟨_,List.getElem?_eq_getElem tl0⟩
 have z1:ixP (.lst (ts.map (thD s.m))) (.int 0)=some (false,thD s.m u):=qFL (thD s.m) ts 0 u hu
 have z2:ixP (.lst (ts.map λu=>D.bl (trW s.m u s.bt w))) (.int 0)=some (false,.bl (trW s.m u s.bt w)):=qFL (λu=>D.bl (trW s.m u s.bt w)) ts 0 u hu
 have z3:=V.wrong s.m w u s.bt hm0 hm3 hw (by omega) (hts u (List.mem_of_getElem? hu)) ok.bt
 refine qAn (false,scD s) (by simp only [qAl,qAk,ag,qAe,List.getElem?_cons_zero,Option.join_some,Option.bind_some,agR,qAm,C32]) ?_
 have ladd:([D.int 0,.int 1,.int 2]:List D).length+(((ns.drop 4).take 60).map D.int).length<=lim:=qAY (by simp;omega)
 have hadd:qEL .add (.lst [.int 0,.int 1,.int 2]) (.lst (((ns.drop 4).take 60).map .int))=some (true,.lst (cs.map .int)):=by rw [qIc,if_pos ladd,ecs]
 have hsl:evE call [some (false,.lst (ns.map .int)),some (false,scD s),none,none,none,none,none,none,none,none,none,none,none] (.bin .add (.lst [(.k (.int 0)),(.k (.int 1)),(.k (.int 2))]) (.sl (.v 0) (some (.k (.int 4))) (some (.k (.int 64)))))=some (true,.lst (cs.map .int)):=by
  rw [qAj]
  have e1:pk [some (false,.lst (ns.map .int)),some (false,scD s),none,none,none,none,none,none,none,none,none,none,none] (.lst [(.k (.int 0)),(.k (.int 1)),(.k (.int 2))]) (evE call [some (false,.lst (ns.map .int)),some (false,scD s),none,none,none,none,none,none,none,none,none,none,none] (.lst [(.k (.int 0)),(.k (.int 1)),(.k (.int 2))]))=some (.lst [.int 0,.int 1,.int 2]):=by simp only [pk,qBV,qAs,qAp,qAt,List.length_cons,List.length_nil,Nat.reduceAdd,l3,↓reduceIte,Option.map_some]
  have e2:pk [some (false,.lst (ns.map .int)),some (false,scD s),none,none,none,none,none,none,none,none,none,none,none] (.sl (.v 0) (some (.k (.int 4))) (some (.k (.int 64)))) (evE call [some (false,.lst (ns.map .int)),some (false,scD s),none,none,none,none,none,none,none,none,none,none,none] (.sl (.v 0) (some (.k (.int 4))) (some (.k (.int 64)))))=some (.lst (((ns.drop 4).take 60).map .int)):=by simp only [pk,qKo,qAe,List.getElem?_cons_zero,Option.join_some,Option.bind_some,pkR,qEP,qAp,Option.map_some,qL6,qKY,hcut]
  rw [e1,e2]
  exact hadd
 refine qAn (true,.lst (cs.map .int)) hsl ?_
 refine qAn (true,.lst (ts.map (thD s.m))) (qLR (ds:=[.int (n:Int)]) (by simp only [qAz,Bool.and_false,List.set_cons_succ,List.set_cons_zero,Bool.and_true,qAu,pk,qBv,qAe,List.getElem?_cons_succ,List.getElem?_cons_zero,Option.join_some,Option.bind_some,pkR,qAv,ln,Option.map_some]) (qDB (by omega)) (qAY (by simp;omega)) rfl hthings) ?_
 refine qAn (true,.lst []) (by simp only [qAz,Bool.and_false,List.set_cons_succ,List.set_cons_zero,Bool.and_true,qBV,qAt,List.length_nil,qLz,↓reduceIte]) ?_
 refine qCH (ds:=[.int 2,.int (n:Int),.int 3]) (by simp only [qAz,Bool.and_false,List.set_cons_succ,List.set_cons_zero,Bool.and_true,qAu,pk,qAp,Option.map_some,qBv,qAe,List.getElem?_cons_succ,List.getElem?_cons_zero,Option.join_some,Option.bind_some,pkR,qAv,ln]) hrg hpile ?_
 refine qMC (o:=.nx _) hwhl ?_
 refine qAn (false,wtD s.m w) (by show evE call [some (false,.lst (ns.map .int)),some (false,scD s),some (false,.lst (cs.map .int)),o3,some (false,.lst (ts.map (thD s.m))),some (true,.lst [el s.m ts s.bt w]),none,none,none,none,none,none,none] _=_;simp only [qAH,pk,qAe,List.getElem?_cons_succ,List.getElem?_cons_zero,Option.join_some,Option.bind_some,pkR,qAp,Option.map_some,j0,el0]) ?_
 refine qAn (false,.lst (ts.map λu=>.bl (trW s.m u s.bt w))) (by show evE call [some (false,.lst (ns.map .int)),some (false,scD s),some (false,.lst (cs.map .int)),o3,some (false,.lst (ts.map (thD s.m))),some (true,.lst [el s.m ts s.bt w]),some (false,wtD s.m w),none,none,none,none,none,none] _=_;simp only [qAH,pk,qAe,List.getElem?_cons_succ,List.getElem?_cons_zero,Option.join_some,Option.bind_some,pkR,qAp,Option.map_some,j0,el1]) ?_
 refine qAn (false,.int s.bt) (by show evE call [some (false,.lst (ns.map .int)),some (false,scD s),some (false,.lst (cs.map .int)),o3,some (false,.lst (ts.map (thD s.m))),some (true,.lst [el s.m ts s.bt w]),some (false,wtD s.m w),some (false,.lst (ts.map λu=>.bl (trW s.m u s.bt w))),none,none,none,none,none] _=_;simp only [qAH,pk,qAe,List.getElem?_cons_succ,List.getElem?_cons_zero,Option.join_some,Option.bind_some,pkR,qAp,Option.map_some,sc4]) ?_
 refine qAn (false,.int (ct:Int)) (by show evE call [some (false,.lst (ns.map .int)),some (false,scD s),some (false,.lst (cs.map .int)),o3,some (false,.lst (ts.map (thD s.m))),some (true,.lst [el s.m ts s.bt w]),some (false,wtD s.m w),some (false,.lst (ts.map λu=>.bl (trW s.m u s.bt w))),some (false,.int s.bt),none,none,none,none] _=_;simp only [qAj,pk,qAl,qAk,ag,qAe,List.getElem?_cons_zero,Option.join_some,Option.bind_some,agR,qAp,Option.map_some,qAm,c29,qBv,qAu,List.getElem?_cons_succ,pkR,qAv,lt,qAh,dL,↓reduceIte,ect]) ?_
 refine qGJ (r:=(true,.lst ([(0,ts.length),(0,ct),(ct,ts.length)].map λp:Nat×Nat=>.tup [.int ((p.1:Nat):Int),.int ((p.2:Nat):Int)]))) (by show evE call [some (false,.lst (ns.map .int)),some (false,scD s),some (false,.lst (cs.map .int)),o3,some (false,.lst (ts.map (thD s.m))),some (true,.lst [el s.m ts s.bt w]),some (false,wtD s.m w),some (false,.lst (ts.map λu=>.bl (trW s.m u s.bt w))),some (false,.int s.bt),some (false,.int (ct:Int)),none,none,none] _=_;simp only [qBV,qAs,qAN,qAp,qBv,qAu,pk,qAe,List.getElem?_cons_succ,List.getElem?_cons_zero,Option.join_some,Option.bind_some,pkR,qAv,lt,qAt,List.length_cons,List.length_nil,Nat.reduceAdd,l2,↓reduceIte,qBT,qAR,l3,List.map_cons,List.map_nil];rfl) rfl hq ?_
 refine qCH (ds:=[.int (ts.length:Int)]) (by simp only [qAu,pk,qBv,qAe,List.getElem?_cons_succ,List.getElem?_cons_zero,Option.join_some,Option.bind_some,pkR,qAv,lt,Option.map_some]) (qDB (by omega)) hr ?_
 exact qAf (r:=(false,.bl true)) (by simp only [qA2,qCM,qAl,qAk,ag,qAe,List.getElem?_cons_succ,List.getElem?_cons_zero,Option.join_some,Option.bind_some,agR,qAH,pk,pkR,qAp,Option.map_some,z1,z2,qAm,z3,Bool.not_false]) rfl
end
theorem c_law23 (n:Nat) (ns:List Int) (hl:ns.length<=63) (hh:∀i∈ns,2 * i.natAbs<qDh):qAC tab (n+27) 50 [.lst (ns.map .int)]=some (false,.bl true):=by
 obtain⟨s,ok,e⟩:=qKw (call:=qAC tab (n+25)) ns hh λk=>qAd t29 rfl rfl (qJK ns k)
 have ve:∀(k m:Nat) (w:Wt) (o:To) (t:Int),25<=k->0<m->qDw w->dp w<=20->ToOk o->(0<=t/\t<=10^15)->qAC tab k (wtF w) [wtD m w,toD m o,.int t]=some (false,wdD (vdt m o t w)):=λk m w o t hk hm hw hd ok ht=>by
  have q:=qBE m hm o ok t ht w hw (k - 25+(20 - dp w))
  rw [show k - 25+(20 - dp w)+dp w+5=k by omega] at q
  exact q
 refine qAd (n:=n+26) t50 rfl rfl (qPv ⟨λns k=>qAd (n:=n+25) t29 rfl rfl (qJK ns k),λc s hc ok=>?_,λm ts hm hne=>qAd (n:=n+25) t45 rfl rfl (qFr m hm ts hne),λm ts t ds x y w hl hw=>qKc (n+25) m ts t ds x y w hl hw,λs c ts ws ok hc hts hws hl=>qOe (n+21) s ok c hc ts hts ws hws hl,λm w o t hm hw hd ok ht=>ve _ m w o t (by omega) hm hw hd ok ht,λd row h1 h2=>?_,λm w u t hm hm3 hw hd hu ht=>?_⟩ s ok ns hl hh (qAd (n:=n+25) t32 rfl rfl e))
 ·obtain⟨t,h1,h2⟩:=qF7 (call:=qAC tab (n+25)) c hc s ok (qFX _ c hc) λl h0 h1=>qH8 _ l h0 h1
  exact⟨t,h1,qAd (n:=n+25) t33 rfl rfl h2⟩
 ·exact qAd (n:=n+25) t48 rfl (by cases d<;>rfl) (qMu d row h1 h2)
 ·have q1:=qCK m hm u hu t ht w hw (n+(20 - dp w))
  rw [show n+(20 - dp w)+dp w+5=n+25 by omega] at q1
  have q2:=ve (n+25) m w (poT [u]) t (by omega) hm hw hd (qJT (by simp) λv hv=>by obtain rfl:=List.mem_singleton.mp hv;exact hu) ht
  rw [qDy m u hu t w] at q2
  refine qAd (n:=n+25) t49 rfl ?_ (qKt m w u t q1 q2 (qAd (n:=n+24) t45 rfl rfl (qFr m hm3 [u] (by simp))))
  obtain⟨kn,os,e,_⟩:=qGr m w
  rw [e]
  rfl
end Dw.T
namespace Dw.K23
open PySem L2 Dw Dw.T
open PySem.W (nsIn fnOf codeIn keepIn findIn mg_of mg_none_of Frag)
def top (i:Nat):Stmt:=PySem.Challenge.pw_driftwood_k23_whole_verdicts_true.main.body.getD i (.Pass ⟨0,0,0,0⟩)
def cb:Stmt->List Stmt|.ClassDef _ _ _ b _ _ _ _ _ _ _=>b|_=>[]
def mth (i j:Nat):Stmt:=(cb (top i)).getD j (.Pass ⟨0,0,0,0⟩)
noncomputable def gx:Gx:=⟨("sides_meet",1)::("side_inside",2)::("side_gap",3)::("boxes_meet",4)::("box_inside",5)::("box_gap",6)::("beats_of",7)::("beats_below",8)::("meeting",9)::("side_at",10)::("still_swath",11)::("frame_at",12)::("thing_swath",13)::("thing_marks",14)::("thing_worth",15)::("thing_box",16)::("told_cover",17)::("told_heart",18)::("told_some",19)::("told_every",20)::("told_least",21)::("told_most",22)::("verdict_from",23)::("cover_at",24)::("heart_at",25)::("has_each",26)::("has_one",27)::("crosses_box",28)::("_law_cell_at",29)::("_law_stir",30)::("_law_next",31)::("_law_scene",32)::("_law_thing_by",33)::("_law_box_by",34)::("_law_marks_by",35)::("_law_window",36)::("_law_atom_by",37)::("_law_want",38)::("_law_at",39)::("_law_meet",40)::("_law_within",41)::("_law_apart",42)::("_law_meets_between",43)::("_law_true_of",44)::("_law_poured",45)::("_law_pair",46)::("_law_push",47)::("_law_lies",48)::("_law_wrong_on",49)::("law",50)::[],[],[],⟨"Anything",⟨273,[]⟩,"suits",51⟩::⟨"Anything",⟨273,[]⟩,"verdict",52⟩::⟨"Meets",⟨313,["box"]⟩,"suits",53⟩::⟨"Meets",⟨313,["box"]⟩,"verdict",54⟩::⟨"Inside",⟨353,["box"]⟩,"suits",55⟩::⟨"Inside",⟨353,["box"]⟩,"verdict",56⟩::⟨"Holds",⟨393,["box"]⟩,"suits",57⟩::⟨"Holds",⟨393,["box"]⟩,"verdict",58⟩::⟨"Near",⟨433,["box","far"]⟩,"suits",59⟩::⟨"Near",⟨433,["box","far"]⟩,"verdict",60⟩::⟨"Marked",⟨473,["marks"]⟩,"suits",61⟩::⟨"Marked",⟨473,["marks"]⟩,"verdict",62⟩::⟨"Touched",⟨513,["marks"]⟩,"suits",63⟩::⟨"Touched",⟨513,["marks"]⟩,"verdict",64⟩::⟨"Crosses",⟨553,["box","first","last"]⟩,"suits",65⟩::⟨"Crosses",⟨553,["box","first","last"]⟩,"verdict",66⟩::⟨"Worthy",⟨593,["least"]⟩,"suits",67⟩::⟨"Worthy",⟨593,["least"]⟩,"verdict",68⟩::⟨"Both",⟨633,["one","two"]⟩,"suits",69⟩::⟨"Both",⟨633,["one","two"]⟩,"verdict",70⟩::⟨"Either",⟨673,["one","two"]⟩,"suits",71⟩::⟨"Either",⟨673,["one","two"]⟩,"verdict",72⟩::⟨"Unless",⟨713,["one"]⟩,"suits",73⟩::⟨"Unless",⟨713,["one"]⟩,"verdict",74⟩::[],("box",0)::("far",1)::("marks",0)::("first",1)::("last",2)::("least",0)::("one",0)::("two",1)::[]⟩
noncomputable def mA:Str:="driftwood.boxes"
noncomputable def mB:Str:="driftwood.meeting"
noncomputable def mC:Str:="driftwood.swaths"
noncomputable def mD:Str:="driftwood.things"
noncomputable def mE:Str:="driftwood.wants"
noncomputable def mF:Str:="law_driftwood_k23_whole_verdicts_true"
noncomputable def en (P:Params) (n:Str) (t:Tok) (v:Value):DictEntry:=⟨PyData.keyHash P n,.str n t,v⟩
noncomputable def er (P:Params) (n:Str) (t:Tok) (a:Nat):DictEntry:=en P n t (.ref a)
noncomputable def dc (es:List DictEntry) (n:Nat):Obj:={ cls:=.type "dict",data:=.dict es.toArray n }
noncomputable def fo (n q:Str) (s:Stmt) (m:Str) (t:Tok) (c:Nat):Obj:={ cls:=.type "function",data:=.func (fnOf n q (qB7 s) (qAL s) (qAc s) .none .none .none (.str m t) none (.ref c) .none) }
noncomputable def co (n q:Str) (t u x:Tok) (a b c d e r f s:Nat) (g h i:Value) (j k:Nat) (y:Tok):Obj:={ cls:=.type "code",data:=.fields #[.str n t,.str q u,.str "/claim/cut.py" x,.int a 0,.int b 0,.int c 0,.int d 0,.int e 0,.ref r,.bool true,.int f 0,.ref s,.none,g,h,i,.int j 0,.int k 0,.str "/claim/cut.py" y] }
noncomputable def ca (n q:Str) (t a b r j:Nat):Obj:=co n q t (t+1) (t+2) a b 0 0 3 r 181 (r+1) (.ref (r+2)) (.ref (r+3)) (.ref (r+4)) j a (j+1)
noncomputable def cn (n q:Str) (t a b r j:Nat):Obj:=co n q t (t+1) (t+2) a b 0 0 3 r 181 (r+1) .none .none (.ref (r+2)) j a (j+1)
def c0:Stmt:=top 0
def c1:Stmt:=top 1
def c2:Stmt:=top 2
def c3:Stmt:=top 3
def c4:Stmt:=top 4
def c5:Stmt:=top 5
def c6:Stmt:=top 6
def c7:Stmt:=top 7
def c8:Stmt:=top 8
def c9:Stmt:=top 9
def c10:Stmt:=top 10
def c11:Stmt:=top 11
def c12:Stmt:=top 12
def c13:Stmt:=top 13
def c14:Stmt:=top 14
def c15:Stmt:=top 15
def c16:Stmt:=top 16
def c17:Stmt:=top 17
def c18:Stmt:=top 18
def c19:Stmt:=top 19
def c20:Stmt:=top 20
def c21:Stmt:=top 21
def c22:Stmt:=top 22
def c23:Stmt:=top 23
def c24:Stmt:=top 24
def c25:Stmt:=top 25
def c26:Stmt:=top 26
def c27:Stmt:=top 27
def c28:Stmt:=top 28
def c29:Stmt:=top 29
def c30:Stmt:=top 30
def c31:Stmt:=top 31
def c32:Stmt:=top 32
def c33:Stmt:=top 33
def c34:Stmt:=top 34
def c35:Stmt:=top 35
def c36:Stmt:=top 36
def c37:Stmt:=top 37
def c38:Stmt:=top 38
def c39:Stmt:=top 39
def c40:Stmt:=top 40
def c41:Stmt:=top 41
def c42:Stmt:=top 42
def c43:Stmt:=top 43
def c44:Stmt:=top 44
def c45:Stmt:=top 45
def c46:Stmt:=top 46
def c47:Stmt:=top 47
def c48:Stmt:=top 48
def c49:Stmt:=top 49
def c50:Stmt:=top 50
def c51:Stmt:=top 51
def c52:Stmt:=top 52
def c53:Stmt:=top 53
def c54:Stmt:=top 54
def c55:Stmt:=top 55
def c56:Stmt:=top 56
def c57:Stmt:=top 57
def c58:Stmt:=top 58
def c59:Stmt:=top 59
def c60:Stmt:=top 60
def c61:Stmt:=top 61
def c62:Stmt:=top 62
def c63:Stmt:=top 63
def c64:Stmt:=top 64
def c65:Stmt:=top 65
def c66:Stmt:=top 66
def c67:Stmt:=top 67
def c68:Stmt:=top 68
def c69:Stmt:=top 69
def pw:Program:={ PySem.Challenge.pw_driftwood_k23_whole_verdicts_true with main:={ PySem.Challenge.pw_driftwood_k23_whole_verdicts_true.main with body:=c0::c1::c2::c3::c4::c5::c6::c7::c8::c9::c10::c11::c12::c13::c14::c15::c16::c17::c18::c19::c20::c21::c22::c23::c24::c25::c26::c27::c28::c29::c30::c31::c32::c33::c34::c35::c36::c37::c38::c39::c40::c41::c42::c43::c44::c45::c46::c47::c48::c49::c50::c51::c52::c53::c54::c55::c56::c57::c58::c59::c60::c61::c62::c63::c64::c65::c66::c67::c68::c69::[] } }
def lw:PySem.W.OpenLaw:={ PySem.Challenge.rw_driftwood_k23_whole_verdicts_true with prog:=pw }
theorem lw_eq:PySem.Challenge.rw_driftwood_k23_whole_verdicts_true=lw:=by kernel_rfl
noncomputable def tu (l:List Value):Obj:={ cls:=.type "tuple",data:=.seq l.toArray }
noncomputable def vt:Nat->List Str->List Value|_,[]=>[]|t,s::l=>.str s t::vt (t+1) l
noncomputable def nf (l:List Value):Obj:={ cls:=.none,data:=.fields l.toArray }
noncomputable def kl (c:Int):List (Nat×Nat)->List Value|[]=>[]|(a,b)::l=>.int a 0::.int c 0::.ref b::kl c l
noncomputable def su (a:Nat):Obj:={ cls:=.type "super",data:=.fields #[.ref a,.ref a,.ref a] }
noncomputable def ic (a:Nat):Obj:={ cls:=.type "builtin_function_or_method",data:=.fields #[.builtin "object.__init_subclass__",.ref a] }
noncomputable def pr:Obj:={ cls:=.type "builtin_function_or_method",data:=.fields #[.builtin "type.__prepare__",.type "type"] }
noncomputable def fr (a b:Nat) (m:Str) (t:Tok):Obj:={ cls:=.type "frame",slots:=#[some (.ref a),some (.ref 3),some (.ref b),none,some (.str m t),none,some (.ref 0)] }
noncomputable def cc (n:Str) (t a r:Nat):Obj:={ cls:=.type "code",data:=.fields #[.str n t,.str n (t+1),.str "/claim/cut.py" (t+2),.int a 0,.int 0 0,.int 0 0,.int 0 0,.int 0 0,.ref r,.bool false,.int 181 0,.ref (r+1),.none,.none,.none,.none,.int (t+3:Nat) 0,.int a 0,.str "/claim/cut.py" (t+4)] }
noncomputable def ty (n:Str) (a b t:Nat):Obj:={ cls:=.type "type",data:=.cls { name:=n,bases:=[.ref 238],mro:=[.ref a,.ref 238,.type "object"],ns:=a - 1,qualname:=n },slots:=#[some (.ref b),none,some (.str n t),some (.str n (t+8)),some (.builtin "object.__new__"),some (.bool true)] }
noncomputable def qQk (n q:Str) (s:Stmt):Obj:={ cls:=.none,data:=.func { name:=n,qualname:=q,params:=qB7 s,body:=.stmts (qAL s),scope:=qAc s,globals:=0,closure:=[],defaults:=.none,kwdefaults:=.none } }
noncomputable def dA (n q:Str) (s:Stmt) (m:Str) (u i t l k:Nat) (v:List Str):List Obj:=[tu [],nf [],tu (vt (t+3) v),tu [],qQk n q s,ca n q t l k i (t+3+v.length),fo n q s m u (i+5)]
noncomputable def dN (n q:Str) (s:Stmt) (m:Str) (u i t l k:Nat):List Obj:=[tu [],nf [],qQk n q s,cn n q t l k i (t+3),fo n q s m u (i+3)]
noncomputable def nE (P:Params):List DictEntry:=[en P "__doc__" 166 .none,en P "__package__" 167 .none,en P "__loader__" 168 (.builtin "__main__.__loader__#opaque"),en P "__spec__" 169 .none,er P "__annotations__" 170 6,er P "__builtins__" 171 4,en P "__file__" 173 (.str ("/claim/cut.py") 172),en P "__cached__" 174 .none,er P "_wall" 193 21,er P "sides_meet" 203 28,er P "side_inside" 211 35,er P "side_gap" 219 42,er P "boxes_meet" 225 47,er P "box_inside" 231 52,er P "box_gap" 237 57,er P "beats_of" 251 64,er P "beats_below" 260 71,er P "meeting" 273 78,er P "side_at" 283 85,er P "still_swath" 289 90,er P "frame_at" 295 95,er P "thing_swath" 304 102,er P "thing_marks" 311 109,er P "thing_worth" 318 116,er P "thing_box" 326 123,er P "told_cover" 333 130,er P "told_heart" 340 137,er P "told_some" 347 144,er P "told_every" 354 151,er P "told_least" 361 158,er P "told_most" 368 165,er P "verdict_from" 378 172,er P "cover_at" 386 179,er P "heart_at" 394 186,er P "has_each" 402 193,er P "has_one" 410 200,er P "crosses_box" 420 207,er P "Want" 465 238,er P "Anything" 506 273,er P "Meets" 556 313,er P "Inside" 606 353,er P "Holds" 656 393,er P "Near" 710 433,er P "Marked" 760 473,er P "Touched" 810 513,er P "Crosses" 866 553,er P "Worthy" 916 593,er P "Both" 969 633,er P "Either" 1022 673,er P "Unless" 1073 713,er P "_law_cell_at" 1083 722,er P "_law_stir" 1090 729,er P "_law_next" 1097 736,er P "_law_scene" 1103 741,er P "_law_thing_by" 1119 748,er P "_law_box_by" 1132 755,er P "_law_marks_by" 1139 762,er P "_law_window" 1148 769,er P "_law_atom_by" 1154 774,er P "_law_want" 1161 781,er P "_law_at" 1167 786,er P "_law_meet" 1173 791,er P "_law_within" 1179 796,er P "_law_apart" 1185 801,er P "_law_meets_between" 1196 808,er P "_law_true_of" 1208 815,er P "_law_poured" 1214 820,er P "_law_pair" 1220 825,er P "_law_push" 1226 830,er P "_law_lies" 1234 837,er P "_law_wrong_on" 1245 844,er P "law" 1251 849]
noncomputable def nO (P:Params) (v:Value) (k:Nat):Obj:=dc (en P "__name__" 165 v::(nE P).take k) (k+1)
noncomputable def kE:List (Nat×Nat):=[(1,20),(5,27),(7,34),(9,41),(11,46),(13,51),(15,56),(19,63),(31,70),(35,77),(42,84),(44,89),(46,94),(49,101),(51,108),(53,115),(55,122),(57,129),(59,136),(61,143),(63,150),(65,157),(67,164),(70,171),(76,178),(78,185),(80,192),(82,199),(84,206),(86,213),(96,248),(106,281),(119,321),(132,361),(145,401),(161,441),(174,481),(187,521),(204,561),(217,601),(232,641),(247,681),(262,721),(266,728),(268,735),(270,740),(286,747),(305,754),(321,761),(327,768),(330,773),(358,780),(376,785),(378,790),(380,795),(382,800),(384,807),(389,814),(408,819),(424,824),(431,829),(442,836),(448,843),(453,848)]
noncomputable def wO (k:Nat):Obj:={ cls:=.type "type",data:=.cls { name:="Want",bases:=[.type "object"],mro:=[.ref 238,.type "object"],ns:=237,qualname:="Want",subclasses:=(List.map Value.ref [273,313,353,393,433,473,513,553,593,633,673,713]).take k },slots:=#[none,none,some (.str "Want" 421),some (.str "Want" 429),some (.builtin "object.__new__"),some (.bool true)] }
noncomputable def b0 (P:Params) (w:Nat):List Obj:=dA "_wall" "_wall" (top 0) ("__main__") 164 15 187 1 1 ["k"] ++
 dA "sides_meet" "sides_meet" (top 2) mA 194 22 196 5 2 ["one","two"] ++
 dA "side_inside" "side_inside" (top 3) mA 194 29 204 7 2 ["one","two"] ++
 dA "side_gap" "side_gap" (top 4) mA 194 36 212 9 2 ["one","two"] ++
 dN "boxes_meet" "boxes_meet" (top 5) mA 194 43 220 11 2 ++
 dN "box_inside" "box_inside" (top 6) mA 194 48 226 13 2 ++
 dN "box_gap" "box_gap" (top 7) mA 194 53 232 15 2 ++
 dA "beats_of" "beats_of" (top 9) mB 238 58 240 19 4 ["need","rise","first","last","start","end"] ++
 dA "beats_below" "beats_below" (top 10) mB 238 65 252 31 3 ["one","two","span"] ++
 dA "meeting" "meeting" (top 11) mB 238 72 261 35 4 ["one","two","first","last","span","a","b"] ++
 dA "side_at" "side_at" (top 13) mC 274 79 276 42 2 ["side","beat"] ++
 dN "still_swath" "still_swath" (top 14) mC 274 86 284 44 1 ++
 dN "frame_at" "frame_at" (top 15) mC 274 91 290 46 2 ++
 dA "thing_swath" "thing_swath" (top 17) mD 296 96 298 49 1 ["thing"] ++
 dA "thing_marks" "thing_marks" (top 18) mD 296 103 305 51 1 ["thing"] ++
 dA "thing_worth" "thing_worth" (top 19) mD 296 110 312 53 1 ["thing"] ++
 dA "thing_box" "thing_box" (top 20) mD 296 117 319 55 2 ["thing","beat"] ++
 dA "told_cover" "told_cover" (top 21) mD 296 124 327 57 1 ["told"] ++
 dA "told_heart" "told_heart" (top 22) mD 296 131 334 59 1 ["told"] ++
 dA "told_some" "told_some" (top 23) mD 296 138 341 61 1 ["told"] ++
 dA "told_every" "told_every" (top 24) mD 296 145 348 63 1 ["told"] ++
 dA "told_least" "told_least" (top 25) mD 296 152 355 65 1 ["told"] ++
 dA "told_most" "told_most" (top 26) mD 296 159 362 67 1 ["told"] ++
 dA "verdict_from" "verdict_from" (top 28) mE 369 166 371 70 2 ["all_suit","none_suits"] ++
 dA "cover_at" "cover_at" (top 29) mE 369 173 379 76 2 ["told","beat"] ++
 dA "heart_at" "heart_at" (top 30) mE 369 180 387 78 2 ["told","beat"] ++
 dA "has_each" "has_each" (top 31) mE 369 187 395 80 2 ["marks","asked"] ++
 dA "has_one" "has_one" (top 32) mE 369 194 403 82 2 ["marks","asked"] ++
 dA "crosses_box" "crosses_box" (top 33) mE 369 201 411 84 4 ["frame","box","first","last"] ++
 [tu [],pr,dc [en P "__module__" 428 (.str ("driftwood.wants") 369),en P "__qualname__" 430 (.str ("Want") 429),en P "__firstlineno__" 432 (.int 86 431),er P "suits" 441 221,er P "verdict" 450 228,er P "written" 457 235,er P "__static_attributes__" 458 236] 7,tu [],nf (kl 4 [(88,220),(91,227),(94,234)]),cc "Want" 423 86 211,fr 213 210 "driftwood.wants" 369] ++
 dA "suits" "Want.suits" (mth 34 0) mE 369 215 433 88 3 ["self","thing","beat"] ++
 dA "verdict" "Want.verdict" (mth 34 1) mE 369 222 442 91 3 ["self","told","beat"] ++
 dA "written" "Want.written" (mth 34 2) mE 369 229 451 94 1 ["self"] ++
 [tu [],dc [en P "__module__" 428 (.str ("driftwood.wants") 369),en P "__firstlineno__" 432 (.int 86 431),er P "suits" 441 221,er P "verdict" 450 228,er P "written" 457 235,er P "__static_attributes__" 458 236,er P "__dict__" 460 239,er P "__weakref__" 462 240,en P "__doc__" 463 .none] 4,wO w,{ cls:=.type "getset_descriptor",data:=.fields #[.str ("__dict__") 459,.ref 238,.builtin "function.__dict__",.builtin "function.__dict__#set"] },{ cls:=.type "getset_descriptor",data:=.fields #[.str ("__weakref__") 461,.ref 238,.builtin "ExceptionGroup.__weakref__",.none] },su 238,ic 238]
noncomputable def b1 (P:Params) (w:Nat):List Obj:=[tu [.ref 238],pr,dc [en P "__module__" 473 (.str ("driftwood.wants") 369),en P "__qualname__" 475 (.str ("Anything") 474),en P "__firstlineno__" 477 (.int 96 476),er P "suits" 486 256,er P "verdict" 495 263,er P "written" 502 270,er P "__static_attributes__" 503 271] 7,tu [],nf (kl 4 [(98,255),(101,262),(104,269)]),cc "Anything" 468 96 246,fr 248 245 "driftwood.wants" 369] ++
 dA "suits" "Anything.suits" (mth 35 0) mE 369 250 478 98 3 ["self","thing","beat"] ++
 dA "verdict" "Anything.verdict" (mth 35 1) mE 369 257 487 101 3 ["self","told","beat"] ++
 dA "written" "Anything.written" (mth 35 2) mE 369 264 496 104 1 ["self"] ++
 [tu [],dc [en P "__module__" 473 (.str ("driftwood.wants") 369),en P "__firstlineno__" 477 (.int 96 476),er P "suits" 486 256,er P "verdict" 495 263,er P "written" 502 270,er P "__static_attributes__" 503 271,en P "__doc__" 504 .none] 2,ty "Anything" 273 243 466,su 273,ic 273,tu [.ref 238],pr,dc [en P "__module__" 514 (.str ("driftwood.wants") 369),en P "__qualname__" 516 (.str ("Meets") 515),en P "__firstlineno__" 518 (.int 106 517),er P "__init__" 526 289,er P "suits" 535 296,er P "verdict" 544 303,er P "written" 551 310,er P "__static_attributes__" 553 311] 8,tu [],nf (kl 4 [(108,288),(111,295),(114,302),(117,309)]),cc "Meets" 509 106 279,fr 281 278 "driftwood.wants" 369] ++
 dA "__init__" "Meets.__init__" (mth 36 0) mE 369 283 519 108 2 ["self","box"] ++
 dA "suits" "Meets.suits" (mth 36 1) mE 369 290 527 111 3 ["self","thing","beat"] ++
 dA "verdict" "Meets.verdict" (mth 36 2) mE 369 297 536 114 3 ["self","told","beat"] ++
 dA "written" "Meets.written" (mth 36 3) mE 369 304 545 117 1 ["self"] ++
 [tu (vt 552 ["box"]),dc [en P "__module__" 514 (.str ("driftwood.wants") 369),en P "__firstlineno__" 518 (.int 106 517),er P "__init__" 526 289,er P "suits" 535 296,er P "verdict" 544 303,er P "written" 551 310,er P "__static_attributes__" 553 311,en P "__doc__" 554 .none] 2,ty "Meets" 313 276 507,su 313,ic 313,tu [.ref 238],pr,dc [en P "__module__" 564 (.str ("driftwood.wants") 369),en P "__qualname__" 566 (.str ("Inside") 565),en P "__firstlineno__" 568 (.int 119 567),er P "__init__" 576 329,er P "suits" 585 336,er P "verdict" 594 343,er P "written" 601 350,er P "__static_attributes__" 603 351] 8,tu [],nf (kl 4 [(121,328),(124,335),(127,342),(130,349)]),cc "Inside" 559 119 319,fr 321 318 "driftwood.wants" 369] ++
 dA "__init__" "Inside.__init__" (mth 37 0) mE 369 323 569 121 2 ["self","box"] ++
 dA "suits" "Inside.suits" (mth 37 1) mE 369 330 577 124 3 ["self","thing","beat"] ++
 dA "verdict" "Inside.verdict" (mth 37 2) mE 369 337 586 127 3 ["self","told","beat"] ++
 dA "written" "Inside.written" (mth 37 3) mE 369 344 595 130 1 ["self"] ++
 [tu (vt 602 ["box"]),dc [en P "__module__" 564 (.str ("driftwood.wants") 369),en P "__firstlineno__" 568 (.int 119 567),er P "__init__" 576 329,er P "suits" 585 336,er P "verdict" 594 343,er P "written" 601 350,er P "__static_attributes__" 603 351,en P "__doc__" 604 .none] 2,ty "Inside" 353 316 557,su 353,ic 353]
noncomputable def b2 (P:Params) (w:Nat):List Obj:=[tu [.ref 238],pr,dc [en P "__module__" 614 (.str ("driftwood.wants") 369),en P "__qualname__" 616 (.str ("Holds") 615),en P "__firstlineno__" 618 (.int 132 617),er P "__init__" 626 369,er P "suits" 635 376,er P "verdict" 644 383,er P "written" 651 390,er P "__static_attributes__" 653 391] 8,tu [],nf (kl 4 [(134,368),(137,375),(140,382),(143,389)]),cc "Holds" 609 132 359,fr 361 358 "driftwood.wants" 369] ++
 dA "__init__" "Holds.__init__" (mth 38 0) mE 369 363 619 134 2 ["self","box"] ++
 dA "suits" "Holds.suits" (mth 38 1) mE 369 370 627 137 3 ["self","thing","beat"] ++
 dA "verdict" "Holds.verdict" (mth 38 2) mE 369 377 636 140 3 ["self","told","beat"] ++
 dA "written" "Holds.written" (mth 38 3) mE 369 384 645 143 1 ["self"] ++
 [tu (vt 652 ["box"]),dc [en P "__module__" 614 (.str ("driftwood.wants") 369),en P "__firstlineno__" 618 (.int 132 617),er P "__init__" 626 369,er P "suits" 635 376,er P "verdict" 644 383,er P "written" 651 390,er P "__static_attributes__" 653 391,en P "__doc__" 654 .none] 2,ty "Holds" 393 356 607,su 393,ic 393,tu [.ref 238],pr,dc [en P "__module__" 664 (.str ("driftwood.wants") 369),en P "__qualname__" 666 (.str ("Near") 665),en P "__firstlineno__" 668 (.int 145 667),er P "__init__" 677 409,er P "suits" 686 416,er P "verdict" 697 423,er P "written" 704 430,er P "__static_attributes__" 707 431] 8,tu [],nf (kl 4 [(147,408),(151,415),(154,422),(159,429)]),cc "Near" 659 145 399,fr 401 398 "driftwood.wants" 369] ++
 dA "__init__" "Near.__init__" (mth 39 0) mE 369 403 669 147 3 ["self","box","far"] ++
 dA "suits" "Near.suits" (mth 39 1) mE 369 410 678 151 3 ["self","thing","beat"] ++
 dA "verdict" "Near.verdict" (mth 39 2) mE 369 417 687 154 3 ["self","told","beat","farthest","nearest"] ++
 dA "written" "Near.written" (mth 39 3) mE 369 424 698 159 1 ["self"] ++
 [tu (vt 705 ["box","far"]),dc [en P "__module__" 664 (.str ("driftwood.wants") 369),en P "__firstlineno__" 668 (.int 145 667),er P "__init__" 677 409,er P "suits" 686 416,er P "verdict" 697 423,er P "written" 704 430,er P "__static_attributes__" 707 431,en P "__doc__" 708 .none] 2,ty "Near" 433 396 657,su 433,ic 433,tu [.ref 238],pr,dc [en P "__module__" 718 (.str ("driftwood.wants") 369),en P "__qualname__" 720 (.str ("Marked") 719),en P "__firstlineno__" 722 (.int 161 721),er P "__init__" 730 449,er P "suits" 739 456,er P "verdict" 748 463,er P "written" 755 470,er P "__static_attributes__" 757 471] 8,tu [],nf (kl 4 [(163,448),(166,455),(169,462),(172,469)]),cc "Marked" 713 161 439,fr 441 438 "driftwood.wants" 369] ++
 dA "__init__" "Marked.__init__" (mth 40 0) mE 369 443 723 163 2 ["self","marks"] ++
 dA "suits" "Marked.suits" (mth 40 1) mE 369 450 731 166 3 ["self","thing","beat"] ++
 dA "verdict" "Marked.verdict" (mth 40 2) mE 369 457 740 169 3 ["self","told","beat"] ++
 dA "written" "Marked.written" (mth 40 3) mE 369 464 749 172 1 ["self"] ++
 [tu (vt 756 ["marks"]),dc [en P "__module__" 718 (.str ("driftwood.wants") 369),en P "__firstlineno__" 722 (.int 161 721),er P "__init__" 730 449,er P "suits" 739 456,er P "verdict" 748 463,er P "written" 755 470,er P "__static_attributes__" 757 471,en P "__doc__" 758 .none] 2,ty "Marked" 473 436 711,su 473,ic 473]
noncomputable def b3 (P:Params) (w:Nat):List Obj:=[tu [.ref 238],pr,dc [en P "__module__" 768 (.str ("driftwood.wants") 369),en P "__qualname__" 770 (.str ("Touched") 769),en P "__firstlineno__" 772 (.int 174 771),er P "__init__" 780 489,er P "suits" 789 496,er P "verdict" 798 503,er P "written" 805 510,er P "__static_attributes__" 807 511] 8,tu [],nf (kl 4 [(176,488),(179,495),(182,502),(185,509)]),cc "Touched" 763 174 479,fr 481 478 "driftwood.wants" 369] ++
 dA "__init__" "Touched.__init__" (mth 41 0) mE 369 483 773 176 2 ["self","marks"] ++
 dA "suits" "Touched.suits" (mth 41 1) mE 369 490 781 179 3 ["self","thing","beat"] ++
 dA "verdict" "Touched.verdict" (mth 41 2) mE 369 497 790 182 3 ["self","told","beat"] ++
 dA "written" "Touched.written" (mth 41 3) mE 369 504 799 185 1 ["self"] ++
 [tu (vt 806 ["marks"]),dc [en P "__module__" 768 (.str ("driftwood.wants") 369),en P "__firstlineno__" 772 (.int 174 771),er P "__init__" 780 489,er P "suits" 789 496,er P "verdict" 798 503,er P "written" 805 510,er P "__static_attributes__" 807 511,en P "__doc__" 808 .none] 2,ty "Touched" 513 476 761,su 513,ic 513,tu [.ref 238],pr,dc [en P "__module__" 818 (.str ("driftwood.wants") 369),en P "__qualname__" 820 (.str ("Crosses") 819),en P "__firstlineno__" 822 (.int 187 821),er P "__init__" 832 529,er P "suits" 841 536,er P "verdict" 852 543,er P "written" 859 550,er P "__static_attributes__" 863 551] 8,tu [],nf (kl 4 [(189,528),(194,535),(197,542),(202,549)]),cc "Crosses" 813 187 519,fr 521 518 "driftwood.wants" 369] ++
 dA "__init__" "Crosses.__init__" (mth 42 0) mE 369 523 823 189 4 ["self","box","first","last"] ++
 dA "suits" "Crosses.suits" (mth 42 1) mE 369 530 833 194 3 ["self","thing","beat"] ++
 dA "verdict" "Crosses.verdict" (mth 42 2) mE 369 537 842 197 3 ["self","told","beat","heart_does","cover_does"] ++
 dA "written" "Crosses.written" (mth 42 3) mE 369 544 853 202 1 ["self"] ++
 [tu (vt 860 ["box","first","last"]),dc [en P "__module__" 818 (.str ("driftwood.wants") 369),en P "__firstlineno__" 822 (.int 187 821),er P "__init__" 832 529,er P "suits" 841 536,er P "verdict" 852 543,er P "written" 859 550,er P "__static_attributes__" 863 551,en P "__doc__" 864 .none] 2,ty "Crosses" 553 516 811,su 553,ic 553,tu [.ref 238],pr,dc [en P "__module__" 874 (.str ("driftwood.wants") 369),en P "__qualname__" 876 (.str ("Worthy") 875),en P "__firstlineno__" 878 (.int 204 877),er P "__init__" 886 569,er P "suits" 895 576,er P "verdict" 904 583,er P "written" 911 590,er P "__static_attributes__" 913 591] 8,tu [],nf (kl 4 [(206,568),(209,575),(212,582),(215,589)]),cc "Worthy" 869 204 559,fr 561 558 "driftwood.wants" 369] ++
 dA "__init__" "Worthy.__init__" (mth 43 0) mE 369 563 879 206 2 ["self","least"] ++
 dA "suits" "Worthy.suits" (mth 43 1) mE 369 570 887 209 3 ["self","thing","beat"] ++
 dA "verdict" "Worthy.verdict" (mth 43 2) mE 369 577 896 212 3 ["self","told","beat"] ++
 dA "written" "Worthy.written" (mth 43 3) mE 369 584 905 215 1 ["self"] ++
 [tu (vt 912 ["least"]),dc [en P "__module__" 874 (.str ("driftwood.wants") 369),en P "__firstlineno__" 878 (.int 204 877),er P "__init__" 886 569,er P "suits" 895 576,er P "verdict" 904 583,er P "written" 911 590,er P "__static_attributes__" 913 591,en P "__doc__" 914 .none] 2,ty "Worthy" 593 556 867,su 593,ic 593]
noncomputable def b4 (P:Params) (w:Nat):List Obj:=[tu [.ref 238],pr,dc [en P "__module__" 924 (.str ("driftwood.wants") 369),en P "__qualname__" 926 (.str ("Both") 925),en P "__firstlineno__" 928 (.int 217 927),er P "__init__" 937 609,er P "suits" 946 616,er P "verdict" 956 623,er P "written" 963 630,er P "__static_attributes__" 966 631] 8,tu [],nf (kl 4 [(219,608),(223,615),(226,622),(230,629)]),cc "Both" 919 217 599,fr 601 598 "driftwood.wants" 369] ++
 dA "__init__" "Both.__init__" (mth 44 0) mE 369 603 929 219 3 ["self","one","two"] ++
 dA "suits" "Both.suits" (mth 44 1) mE 369 610 938 223 3 ["self","thing","beat"] ++
 dA "verdict" "Both.verdict" (mth 44 2) mE 369 617 947 226 3 ["self","told","beat","judged"] ++
 dA "written" "Both.written" (mth 44 3) mE 369 624 957 230 1 ["self"] ++
 [tu (vt 964 ["one","two"]),dc [en P "__module__" 924 (.str ("driftwood.wants") 369),en P "__firstlineno__" 928 (.int 217 927),er P "__init__" 937 609,er P "suits" 946 616,er P "verdict" 956 623,er P "written" 963 630,er P "__static_attributes__" 966 631,en P "__doc__" 967 .none] 2,ty "Both" 633 596 917,su 633,ic 633,tu [.ref 238],pr,dc [en P "__module__" 977 (.str ("driftwood.wants") 369),en P "__qualname__" 979 (.str ("Either") 978),en P "__firstlineno__" 981 (.int 232 980),er P "__init__" 990 649,er P "suits" 999 656,er P "verdict" 1009 663,er P "written" 1016 670,er P "__static_attributes__" 1019 671] 8,tu [],nf (kl 4 [(234,648),(238,655),(241,662),(245,669)]),cc "Either" 972 232 639,fr 641 638 "driftwood.wants" 369] ++
 dA "__init__" "Either.__init__" (mth 45 0) mE 369 643 982 234 3 ["self","one","two"] ++
 dA "suits" "Either.suits" (mth 45 1) mE 369 650 991 238 3 ["self","thing","beat"] ++
 dA "verdict" "Either.verdict" (mth 45 2) mE 369 657 1000 241 3 ["self","told","beat","judged"] ++
 dA "written" "Either.written" (mth 45 3) mE 369 664 1010 245 1 ["self"] ++
 [tu (vt 1017 ["one","two"]),dc [en P "__module__" 977 (.str ("driftwood.wants") 369),en P "__firstlineno__" 981 (.int 232 980),er P "__init__" 990 649,er P "suits" 999 656,er P "verdict" 1009 663,er P "written" 1016 670,er P "__static_attributes__" 1019 671,en P "__doc__" 1020 .none] 2,ty "Either" 673 636 970,su 673,ic 673,tu [.ref 238],pr,dc [en P "__module__" 1030 (.str ("driftwood.wants") 369),en P "__qualname__" 1032 (.str ("Unless") 1031),en P "__firstlineno__" 1034 (.int 247 1033),er P "__init__" 1042 689,er P "suits" 1051 696,er P "verdict" 1061 703,er P "written" 1068 710,er P "__static_attributes__" 1070 711] 8,tu [],nf (kl 4 [(249,688),(252,695),(255,702),(259,709)]),cc "Unless" 1025 247 679,fr 681 678 "driftwood.wants" 369] ++
 dA "__init__" "Unless.__init__" (mth 46 0) mE 369 683 1035 249 2 ["self","one"] ++
 dA "suits" "Unless.suits" (mth 46 1) mE 369 690 1043 252 3 ["self","thing","beat"] ++
 dA "verdict" "Unless.verdict" (mth 46 2) mE 369 697 1052 255 3 ["self","told","beat","judged"] ++
 dA "written" "Unless.written" (mth 46 3) mE 369 704 1062 259 1 ["self"] ++
 [tu (vt 1069 ["one"]),dc [en P "__module__" 1030 (.str ("driftwood.wants") 369),en P "__firstlineno__" 1034 (.int 247 1033),er P "__init__" 1042 689,er P "suits" 1051 696,er P "verdict" 1061 703,er P "written" 1068 710,er P "__static_attributes__" 1070 711,en P "__doc__" 1071 .none] 2,ty "Unless" 713 676 1023,su 713,ic 713] ++
 dA "_law_cell_at" "_law_cell_at" (top 48) mF 1074 716 1076 262 2 ["script","k"]
noncomputable def b5 (P:Params) (w:Nat):List Obj:=dA "_law_stir" "_law_stir" (top 49) mF 1074 723 1084 266 1 ["cell"] ++
 dA "_law_next" "_law_next" (top 50) mF 1074 730 1091 268 1 ["left"] ++
 dN "_law_scene" "_law_scene" (top 51) mF 1074 737 1098 270 1 ++
 dA "_law_thing_by" "_law_thing_by" (top 52) mF 1074 742 1104 286 2 ["cell","scene","left","swath","k","speed","low","wide","marks","worth"] ++
 dA "_law_box_by" "_law_box_by" (top 53) mF 1074 749 1120 305 2 ["cell","scene","left","box","k","low","wide"] ++
 dA "_law_marks_by" "_law_marks_by" (top 54) mF 1074 756 1133 321 1 ["left"] ++
 dA "_law_window" "_law_window" (top 55) mF 1074 763 1140 327 2 ["left","beat","first"] ++
 dN "_law_atom_by" "_law_atom_by" (top 56) mF 1074 770 1149 330 2 ++
 dA "_law_want" "_law_want" (top 57) mF 1074 775 1155 358 1 ["atom"] ++
 dN "_law_at" "_law_at" (top 58) mF 1074 782 1162 376 2 ++
 dN "_law_meet" "_law_meet" (top 59) mF 1074 787 1168 378 2 ++
 dN "_law_within" "_law_within" (top 60) mF 1074 792 1174 380 2 ++
 dN "_law_apart" "_law_apart" (top 61) mF 1074 797 1180 382 2 ++
 dA "_law_meets_between" "_law_meets_between" (top 62) mF 1074 802 1186 384 4 ["frame","box","first","last","beat"] ++
 dA "_law_true_of" "_law_true_of" (top 63) mF 1074 809 1197 389 5 ["atom","frame","marks","worth","beat","sides"] ++
 dN "_law_poured" "_law_poured" (top 64) mF 1074 816 1209 408 1 ++
 dN "_law_pair" "_law_pair" (top 65) mF 1074 821 1215 424 2 ++
 dN "_law_push" "_law_push" (top 66) mF 1074 826 1221 431 4 ++
 dA "_law_lies" "_law_lies" (top 67) mF 1074 831 1227 442 2 ["found","row"] ++
 dA "_law_wrong_on" "_law_wrong_on" (top 68) mF 1074 838 1235 448 4 ["want","thing","beat","due","found"] ++
 dN "law" "law" (top 69) mF 1074 845 1246 453 1
noncomputable def b (P:Params) (v:Value) (k c w j:Nat):List Obj:=[W.boot_o_0 P,W.boot_o_1 P,W.boot_o_2 P,nO P v k,W.boot_o_4 P,W.boot_o_5 P,W.boot_o_6 P,W.boot_o_7 P,W.boot_o_8 P,W.boot_o_9 P,W.boot_o_10 P,tu [],nf (kl 0 (kE.take c)),cc "<module>" 182 1 11,fr 13 3 "__main__" 164]++(match j with|0=>[]|1=>b0 P w|2=>b0 P w++(b1 P w)|3=>b0 P w++(b1 P w++(b2 P w))|4=>b0 P w++(b1 P w++(b2 P w++(b3 P w)))|5=>b0 P w++(b1 P w++(b2 P w++(b3 P w++(b4 P w))))|_=>b0 P w++(b1 P w++(b2 P w++(b3 P w++(b4 P w++(b5 P w))))))
noncomputable def sp:List Obj->List Obj×List Obj|[]=>([],[])|a::l=>(a::(sp l).2,(sp l).1)
noncomputable def bt:Nat->List Obj->W.BT|0,_=>.nil|_+1,[]=>.nil|n+1,a::l=>.node a (bt n (sp l).1) (bt n (sp l).2)
noncomputable def st (t:W.BT) (n k:Nat) (os:OsState):W.SharedT:=⟨t,n,{},⟨[]⟩,{},k,os⟩
noncomputable def i0 (P:Params):List Obj:=[W.boot_o_0 P,W.boot_o_1 P,W.boot_o_2 P,W.boot_o_3 P,W.boot_o_4 P,W.boot_o_5 P,W.boot_o_6 P,W.boot_o_7 P,W.boot_o_8 P,W.boot_o_9 P,W.boot_o_10 P,tu [],nf [],cc "<module>" 182 1 11,fr 13 3 "__main__" 164]
noncomputable def l1 (P:Params):List Obj:=b P (.str "driftwood.wants" 369) 38 30 0 1
noncomputable def l2 (P:Params):List Obj:=b P (.str "driftwood.wants" 369) 41 33 3 2
noncomputable def l3 (P:Params):List Obj:=b P (.str "driftwood.wants" 369) 44 36 6 3
noncomputable def l4 (P:Params):List Obj:=b P (.str "driftwood.wants" 369) 47 39 9 4
noncomputable def l5 (P:Params):List Obj:=b P (.str "law_driftwood_k23_whole_verdicts_true" 1074) 51 43 12 5
noncomputable def l6 (P:Params):List Obj:=b P (.str "law_driftwood_k23_whole_verdicts_true" 1074) 72 64 12 6
noncomputable abbrev pp:Program:=lw.row.toRowW.prog
noncomputable def ev:Env:={ scope:=pp.main.scope,locals:=mainNs,globals:=mainNs,cells:=[],code:=.ref 13,frame:=some 14 }
noncomputable abbrev cE:Code:=.body (W.behindTheImports pp) ev
noncomputable abbrev po (a b c d:Nat):Pos:=⟨a,b,c,d⟩
noncomputable abbrev B0:List Frame:=[W.topFrame (po 0 0 0 0)]
noncomputable def s1:List Stmt:=c0::c1::c2::c3::c4::c5::c6::c7::c8::c9::c10::c11::c12::c13::c14::c15::c16::c17::c18::c19::c20::c21::c22::c23::c24::c25::c26::c27::c28::c29::c30::c31::c32::c33::c34::[]
noncomputable def s2:List Stmt:=c35::c36::c37::[]
noncomputable def s3:List Stmt:=c38::c39::c40::[]
noncomputable def s4:List Stmt:=c41::c42::c43::[]
noncomputable def s5:List Stmt:=c44::c45::c46::c47::c48::[]
noncomputable def s6:List Stmt:=c49::c50::c51::c52::c53::c54::c55::c56::c57::c58::c59::c60::c61::c62::c63::c64::c65::c66::c67::c68::c69::[]
noncomputable abbrev sh (h:Heap) (k:Nat) (os:OsState):Shared:=⟨h,⟨[]⟩,{},k,os⟩
noncomputable def h0 (P:Params):Heap:=⟨(i0 P).toArray,{}⟩
noncomputable def hZ (P:Params):Heap:=⟨(l6 P).toArray,{}⟩
theorem q0 (w:World):(λos=>W.topGo treeTable pp w 11 (some (.ref 6)) 12 ⟨W.boot_heap w.params,⟨[]⟩,W.boot_drawn,W.boot_toks,os⟩ (W.topStub pp))=λos=>some (sh (h0 w.params) 187 os,⟨denote treeTable cE,cE,po 0 0 0 0,B0⟩):=by kernel_rfl
theorem qb (w:World):(λos=>W.segRun treeTable pp w 11 (some (.ref 6)) 1 1 (sh (h0 w.params) 187 os) (W.blockOf (W.behindTheImports pp) ev cE (po 0 0 0 0) B0))=λos=>some (.next,(st (bt 12 (i0 w.params)) 15 187 os).abs,cE,po 0 0 0 0):=by kernel_rfl
theorem q1 (w:World):(λos=>W.segRunT treeTable pp w 11 (some (.ref 6)) 1 1207 (st (bt 12 (i0 w.params)) 15 187 os) (W.piecesOf s1 ev cE (po 0 0 0 0) B0))=λos=>some (.next,st (bt 12 (l1 w.params)) 243 466 os,cE,po 86 0 95 16):=by kernel_rfl
theorem q2 (w:World):(λos=>W.segRunT treeTable pp w 11 (some (.ref 6)) 1 1016 (st (bt 12 (l1 w.params)) 243 466 os) (W.piecesOf s2 ev cE (po 86 0 95 16) B0))=λos=>some (.next,st (bt 12 (l2 w.params)) 356 607 os,cE,po 119 0 131 16):=by kernel_rfl
theorem q3 (w:World):(λos=>W.segRunT treeTable pp w 11 (some (.ref 6)) 1 1053 (st (bt 12 (l2 w.params)) 356 607 os) (W.piecesOf s3 ev cE (po 119 0 131 16) B0))=λos=>some (.next,st (bt 12 (l3 w.params)) 476 761 os,cE,po 161 0 173 16):=by kernel_rfl
theorem q4 (w:World):(λos=>W.segRunT treeTable pp w 11 (some (.ref 6)) 1 1055 (st (bt 12 (l3 w.params)) 476 761 os) (W.piecesOf s4 ev cE (po 161 0 173 16) B0))=λos=>some (.next,st (bt 12 (l4 w.params)) 596 917 os,cE,po 204 0 216 16):=by kernel_rfl
theorem q5 (w:World):(λos=>W.segRunT treeTable pp w 11 (some (.ref 6)) 1 1095 (st (bt 12 (l4 w.params)) 596 917 os) (W.piecesOf s5 ev cE (po 204 0 216 16) B0))=λos=>some (.next,st (bt 12 (l5 w.params)) 723 1084 os,cE,po 262 0 265 12):=by kernel_rfl
theorem q6 (w:World):(λos=>W.segRunT treeTable pp w 11 (some (.ref 6)) 1 632 (st (bt 12 (l5 w.params)) 723 1084 os) (W.piecesOf s6 ev cE (po 262 0 265 12) B0))=λos=>some (.next,st (bt 12 (l6 w.params)) 850 1252 os,cE,po 453 0 475 59):=by kernel_rfl
theorem qf (w:World):(λos=>W.topRun treeTable pp w 11 (some (.ref 6)) 2 (st (bt 12 (l6 w.params)) 850 1252 os).abs ⟨W.doneF .next,cE,po 453 0 475 59,B0⟩)=λos=>some (sh (hZ w.params) 1252 os):=by kernel_rfl
theorem hs:W.behindTheImports pp=s1++(s2++(s3++(s4++(s5++(s6++[]))))):=by kernel_rfl
theorem run (w:World) (os:OsState):W.topRun treeTable pp w 11 (some (.ref 6)) (12+(1+(1207+(1016+(1053+(1055+(1095+(632+2)))))))) ⟨W.boot_heap w.params,⟨[]⟩,W.boot_drawn,W.boot_toks,os⟩ (W.topStub pp)=some (sh (hZ w.params) 1252 os):=
 W.go_top (congrFun (q0 w) os) (W.piece_block (congrFun (qb w) os) (Eq.subst (motive:=λb=>W.topRun treeTable pp w 11 (some (.ref 6)) _ _ (W.restOf b ev cE (po 0 0 0 0) B0)=_) hs.symm (W.piece_app (W.segRun_of (congrFun (q1 w) os)) (W.piece_app (W.segRun_of (congrFun (q2 w) os)) (W.piece_app (W.segRun_of (congrFun (q3 w) os)) (W.piece_app (W.segRun_of (congrFun (q4 w) os)) (W.piece_app (W.segRun_of (congrFun (q5 w) os)) (W.piece_app (W.segRun_of (congrFun (q6 w) os)) (W.piece_nil (congrFun (qf w) os))))))))))
noncomputable def ad:List Nat:=3::27::28::34::35::41::42::46::47::51::52::56::57::63::64::70::71::77::78::84::85::89::90::94::95::101::102::108::109::115::116::122::123::129::130::136::137::143::144::150::151::157::158::164::165::171::172::178::179::185::186::192::193::199::200::206::207::237::238::239::240::255::256::262::263::272::273::288::289::295::296::302::303::312::313::328::329::335::336::342::343::352::353::368::369::375::376::382::383::392::393::408::409::415::416::422::423::432::433::448::449::455::456::462::463::472::473::488::489::495::496::502::503::512::513::528::529::535::536::542::543::552::553::568::569::575::576::582::583::592::593::608::609::615::616::622::623::632::633::648::649::655::656::662::663::672::673::688::689::695::696::702::703::712::713::721::722::728::729::735::736::740::741::747::748::754::755::761::762::768::769::773::774::780::781::785::786::790::791::795::796::800::801::807::808::814::815::819::820::824::825::829::830::836::837::843::844::848::849::[]
noncomputable def heap (P:Params):Frag:=ad.map λa=>(a,(l6 P).getD a default)
theorem qLL:∀x∈qAI,gx.defs.lookup x=none:=by decide +kernel
noncomputable abbrev cq (s:Stmt):=cSs gx 60 (qAc s) (qAx (qAc s)) (qIq 60 (qAx (qAc s)) (qAL s)) (qAL s)
noncomputable def scB (s:Stmt) (ps:List Str):Bool:=(qAc s).kind == .function&&!(qAc s).isCoroutine&&!(qAc s).isGenerator&&decide (qAx (qAc s)).Nodup&&decide ((qAx (qAc s)).take ps.length=ps)&&ps.all (λx=>(qAc s).names.lookup x == some .local||(qAc s).names.lookup x == some .cell)&&(qAc s).names.all λy=>y.2 != .free
theorem qAK {s:Stmt}{ps:List Str}(h:scB s ps=true):FnScope (qAx (qAc s)) ps (qAc s):=by
 unfold scB at h
 simp only [Bool.and_eq_true,List.all_eq_true,Bool.or_eq_true,beq_iff_eq,bne_iff_ne,Bool.not_eq_true',decide_eq_true_eq] at h
 obtain⟨⟨⟨⟨⟨⟨h1,h2⟩,h3⟩,h4⟩,h5⟩,h6⟩,h7⟩:=h
 exact⟨h1,h2,h3,h4,h5,h6,h7⟩
theorem us1 {P:List Value->Prop}(h:∀a,P [a]) (us:List Value) (hl:us.length=1):P us:=by
 obtain⟨a,rfl⟩:=List.length_eq_one_iff.mp hl
 exact h a
theorem us2 {P:List Value->Prop}(h:∀a0 a1,P [a0,a1]) (us:List Value) (hl:us.length=2):P us:=by
 cases us with
 | nil=>cases hl
 | cons a r=>exact us1 (P:=λr=>P (a::r)) (h a) r (Nat.succ.inj hl)
theorem us3 {P:List Value->Prop}(h:∀a0 a1 a2,P [a0,a1,a2]) (us:List Value) (hl:us.length=3):P us:=by
 cases us with
 | nil=>cases hl
 | cons a r=>exact us2 (P:=λr=>P (a::r)) (h a) r (Nat.succ.inj hl)
theorem us4 {P:List Value->Prop}(h:∀a0 a1 a2 a3,P [a0,a1,a2,a3]) (us:List Value) (hl:us.length=4):P us:=by
 cases us with
 | nil=>cases hl
 | cons a r=>exact us3 (P:=λr=>P (a::r)) (h a) r (Nat.succ.inj hl)
theorem us5 {P:List Value->Prop}(h:∀a0 a1 a2 a3 a4,P [a0,a1,a2,a3,a4]) (us:List Value) (hl:us.length=5):P us:=by
 cases us with
 | nil=>cases hl
 | cons a r=>exact us4 (P:=λr=>P (a::r)) (h a) r (Nat.succ.inj hl)
theorem bd1 {fd:FuncData}{ps:List Str}(hp:ps.length=1) (h:∀a0,bindArgs fd ⟨[a0],[]⟩=pure (ps.zip [a0])) (us:List Value) (hl:us.length=ps.length):bindArgs fd ⟨us,[]⟩=pure (ps.zip us):=us1 (P:=λus=>bindArgs fd ⟨us,[]⟩=pure (ps.zip us)) h us (hl.trans hp)
theorem bd2 {fd:FuncData}{ps:List Str}(hp:ps.length=2) (h:∀a0 a1,bindArgs fd ⟨[a0,a1],[]⟩=pure (ps.zip [a0,a1])) (us:List Value) (hl:us.length=ps.length):bindArgs fd ⟨us,[]⟩=pure (ps.zip us):=us2 (P:=λus=>bindArgs fd ⟨us,[]⟩=pure (ps.zip us)) h us (hl.trans hp)
theorem bd3 {fd:FuncData}{ps:List Str}(hp:ps.length=3) (h:∀a0 a1 a2,bindArgs fd ⟨[a0,a1,a2],[]⟩=pure (ps.zip [a0,a1,a2])) (us:List Value) (hl:us.length=ps.length):bindArgs fd ⟨us,[]⟩=pure (ps.zip us):=us3 (P:=λus=>bindArgs fd ⟨us,[]⟩=pure (ps.zip us)) h us (hl.trans hp)
theorem bd4 {fd:FuncData}{ps:List Str}(hp:ps.length=4) (h:∀a0 a1 a2 a3,bindArgs fd ⟨[a0,a1,a2,a3],[]⟩=pure (ps.zip [a0,a1,a2,a3])) (us:List Value) (hl:us.length=ps.length):bindArgs fd ⟨us,[]⟩=pure (ps.zip us):=us4 (P:=λus=>bindArgs fd ⟨us,[]⟩=pure (ps.zip us)) h us (hl.trans hp)
theorem bd5 {fd:FuncData}{ps:List Str}(hp:ps.length=5) (h:∀a0 a1 a2 a3 a4,bindArgs fd ⟨[a0,a1,a2,a3,a4],[]⟩=pure (ps.zip [a0,a1,a2,a3,a4])) (us:List Value) (hl:us.length=ps.length):bindArgs fd ⟨us,[]⟩=pure (ps.zip us):=us5 (P:=λus=>bindArgs fd ⟨us,[]⟩=pure (ps.zip us)) h us (hl.trans hp)
theorem fc {α:Type}{p:α->Prop}{a:α}{l:List α}(h:p a) (t:∀x∈l,p x):∀x∈a::l,p x:=List.forall_mem_cons.mpr ⟨h,t⟩
section
variable {K:Frag}{h:Heap}{mg:Str->Option Value}
noncomputable abbrev Bd (x q:Str) (s:Stmt) (ps:List Str):Prop:=∀(kV doc pm:Value) (an:Option Addr) (cdv ct:Value) (us:List Value),us.length=ps.length->bindArgs (fnOf x q (qB7 s) (qAL s) (qAc s) .none kV doc pm an cdv ct) ⟨us,[]⟩=pure (ps.zip us)
theorem mkD (X:K.In h) (G:h.Ns mainGlobals mg) {x:Str}(m:Str) (t:Tok) (i f c:Nat) {g:Nat}(ps:List Str) (fd:Fd) (tt:tab[g]?=some fd) (a:nsIn K mainGlobals x=some (some (.ref f))) (l:K.lookup f=some (fo x x (top i) m t c)) (cc:codeIn K (.ref c) x=true) (k:keepIn K (.ref f)=true) (b:Bd x x (top i) ps) (sc:scB (top i) ps=true) (cs:cq (top i)=some fd.body) (np:fd.np=ps.length) (ns:fd.ns=(qAx (qAc (top i))).length):DefIn K mg gx tab 60 x g:=
 ⟨⟨f,_,top i,ps,fd,mg_of X G a,qE5 (qEp (st:=top i) l cc k),(qEp (st:=top i) l cc k).binds b,qAK sc,cs,tt,np,ns⟩⟩
theorem mkF {x q:Str}{s:Stmt}{f:Nat}(m:Str) (t:Tok) (c:Nat) (ps:List Str) (l:K.lookup f=some (fo x q s m t c)) (cc:codeIn K (.ref c) q=true) (k:keepIn K (.ref f)=true) (b:Bd x q s ps):∃fd,FunD K x q s f fd/\Binds K fd ps []:=⟨_,qE5 (qEp (st:=s) l cc k),(qEp (st:=s) l cc k).binds b⟩
theorem mkI {q:Str}{s:Stmt}{C:Nat}{ps ns:List Str}(f:Nat) (F:∃fd,FunD K "__init__" q s f fd/\Binds K fd ps []) (M:Mk K C f) (sc:FnScope (qAx (qAc s)) ps (qAc s)) (ib:qEm (qAc s) (qAx (qAc s)) 0 ns (qAL s)=true) (pl:ps.length=ns.length+1) (nl:ns.length<1000):qL3 K C ns:=let ⟨fd,F1,F2⟩:=F;.inl ⟨f,fd,s,ps,q,M,F1,F2,sc,ib,pl,nl⟩
theorem mkM {c m q:Str}{s:Stmt}{C i:Nat}{ps ns:List Str}{fd:Fd}(f:Nat) (a:mg c=some (.ref C)) (I:qL3 K C ns) (L:Cls K C) (N:∀f∈ns,NoAttr K C f) (M:Meth K C m f) (F:∃fd,FunD K m q s f fd/\Binds K fd ps []) (sc:FnScope (qAx (qAc s)) ps (qAc s)) (cs:cq s=some fd.body) (t:tab[i]?=some fd) (np:fd.np=ps.length) (n2:fd.ns=(qAx (qAc s)).length) (hn:m∉ns) (nd:ns.Nodup):MthIn K mg gx tab 60 c m i C ns:=let ⟨fdt,F1,F2⟩:=F;⟨⟨f,fdt,s,ps,q,fd,a,I,L,N,M,F1,F2,sc,cs,t,np,n2,hn,nd⟩⟩
end
section
variable {h:Heap}{mg:Str->Option Value}{P:Params}(X:(heap P).In h) (G:h.Ns mainGlobals mg)
include X G
theorem hd:∀p∈gx.defs,DefIn (heap P) mg gx tab 60 p.1 p.2:=by
 refine fc (mkD X G mA 194 2 28 27 ["one","two"] f_sides_meet t1 ?_ ?_ ?_ ?_ ?_ ?_ ?_ ?_ ?_) (
  fc (mkD X G mA 194 3 35 34 ["one","two"] f_side_inside t2 ?_ ?_ ?_ ?_ ?_ ?_ ?_ ?_ ?_) (
  fc (mkD X G mA 194 4 42 41 ["one","two"] f_side_gap t3 ?_ ?_ ?_ ?_ ?_ ?_ ?_ ?_ ?_) (
  fc (mkD X G mA 194 5 47 46 ["one","two"] f_boxes_meet t4 ?_ ?_ ?_ ?_ ?_ ?_ ?_ ?_ ?_) (
  fc (mkD X G mA 194 6 52 51 ["one","two"] f_box_inside t5 ?_ ?_ ?_ ?_ ?_ ?_ ?_ ?_ ?_) (
  fc (mkD X G mA 194 7 57 56 ["one","two"] f_box_gap t6 ?_ ?_ ?_ ?_ ?_ ?_ ?_ ?_ ?_) (
  fc (mkD X G mB 238 9 64 63 ["need","rise","first","last"] f_beats_of t7 ?_ ?_ ?_ ?_ ?_ ?_ ?_ ?_ ?_) (
  fc (mkD X G mB 238 10 71 70 ["one","two","span"] f_beats_below t8 ?_ ?_ ?_ ?_ ?_ ?_ ?_ ?_ ?_) (
  fc (mkD X G mB 238 11 78 77 ["one","two","first","last"] f_meeting t9 ?_ ?_ ?_ ?_ ?_ ?_ ?_ ?_ ?_) (
  fc (mkD X G mC 274 13 85 84 ["side","beat"] f_side_at t10 ?_ ?_ ?_ ?_ ?_ ?_ ?_ ?_ ?_) (
  fc (mkD X G mC 274 14 90 89 ["box"] f_still_swath t11 ?_ ?_ ?_ ?_ ?_ ?_ ?_ ?_ ?_) (
  fc (mkD X G mC 274 15 95 94 ["frame","beat"] f_frame_at t12 ?_ ?_ ?_ ?_ ?_ ?_ ?_ ?_ ?_) (
  fc (mkD X G mD 296 17 102 101 ["thing"] qBK t13 ?_ ?_ ?_ ?_ ?_ ?_ ?_ ?_ ?_) (
  fc (mkD X G mD 296 18 109 108 ["thing"] qBL t14 ?_ ?_ ?_ ?_ ?_ ?_ ?_ ?_ ?_) (
  fc (mkD X G mD 296 19 116 115 ["thing"] qBJ t15 ?_ ?_ ?_ ?_ ?_ ?_ ?_ ?_ ?_) (
  fc (mkD X G mD 296 20 123 122 ["thing","beat"] f_thing_box t16 ?_ ?_ ?_ ?_ ?_ ?_ ?_ ?_ ?_) (
  fc (mkD X G mD 296 21 130 129 ["told"] qB5 t17 ?_ ?_ ?_ ?_ ?_ ?_ ?_ ?_ ?_) (
  fc (mkD X G mD 296 22 137 136 ["told"] qB3 t18 ?_ ?_ ?_ ?_ ?_ ?_ ?_ ?_ ?_) (
  fc (mkD X G mD 296 23 144 143 ["told"] qCo t19 ?_ ?_ ?_ ?_ ?_ ?_ ?_ ?_ ?_) (
  fc (mkD X G mD 296 24 151 150 ["told"] qB4 t20 ?_ ?_ ?_ ?_ ?_ ?_ ?_ ?_ ?_) (
  fc (mkD X G mD 296 25 158 157 ["told"] qB2 t21 ?_ ?_ ?_ ?_ ?_ ?_ ?_ ?_ ?_) (
  fc (mkD X G mD 296 26 165 164 ["told"] qCp t22 ?_ ?_ ?_ ?_ ?_ ?_ ?_ ?_ ?_) (
  fc (mkD X G mE 369 28 172 171 ["all_suit","none_suits"] f_verdict_from t23 ?_ ?_ ?_ ?_ ?_ ?_ ?_ ?_ ?_) (
  fc (mkD X G mE 369 29 179 178 ["told","beat"] f_cover_at t24 ?_ ?_ ?_ ?_ ?_ ?_ ?_ ?_ ?_) (
  fc (mkD X G mE 369 30 186 185 ["told","beat"] f_heart_at t25 ?_ ?_ ?_ ?_ ?_ ?_ ?_ ?_ ?_) (
  fc (mkD X G mE 369 31 193 192 ["marks","asked"] f_has_each t26 ?_ ?_ ?_ ?_ ?_ ?_ ?_ ?_ ?_) (
  fc (mkD X G mE 369 32 200 199 ["marks","asked"] f_has_one t27 ?_ ?_ ?_ ?_ ?_ ?_ ?_ ?_ ?_) (
  fc (mkD X G mE 369 33 207 206 ["frame","box","first","last"] f_crosses_box t28 ?_ ?_ ?_ ?_ ?_ ?_ ?_ ?_ ?_) (
  fc (mkD X G mF 1074 48 722 721 ["script","k"] f_law_cell_at t29 ?_ ?_ ?_ ?_ ?_ ?_ ?_ ?_ ?_) (
  fc (mkD X G mF 1074 49 729 728 ["cell"] f_law_stir t30 ?_ ?_ ?_ ?_ ?_ ?_ ?_ ?_ ?_) (
  fc (mkD X G mF 1074 50 736 735 ["left"] f_law_next t31 ?_ ?_ ?_ ?_ ?_ ?_ ?_ ?_ ?_) (
  fc (mkD X G mF 1074 51 741 740 ["script"] f_law_scene t32 ?_ ?_ ?_ ?_ ?_ ?_ ?_ ?_ ?_) (
  fc (mkD X G mF 1074 52 748 747 ["cell","scene"] f_law_thing_by t33 ?_ ?_ ?_ ?_ ?_ ?_ ?_ ?_ ?_) (
  fc (mkD X G mF 1074 53 755 754 ["cell","scene"] f_law_box_by t34 ?_ ?_ ?_ ?_ ?_ ?_ ?_ ?_ ?_) (
  fc (mkD X G mF 1074 54 762 761 ["left"] f_law_marks_by t35 ?_ ?_ ?_ ?_ ?_ ?_ ?_ ?_ ?_) (
  fc (mkD X G mF 1074 55 769 768 ["left","beat"] f_law_window t36 ?_ ?_ ?_ ?_ ?_ ?_ ?_ ?_ ?_) (
  fc (mkD X G mF 1074 56 774 773 ["cell","scene"] f_law_atom_by t37 ?_ ?_ ?_ ?_ ?_ ?_ ?_ ?_ ?_) (
  fc (mkD X G mF 1074 57 781 780 ["atom"] f_law_want t38 ?_ ?_ ?_ ?_ ?_ ?_ ?_ ?_ ?_) (
  fc (mkD X G mF 1074 58 786 785 ["frame","beat"] f_law_at t39 ?_ ?_ ?_ ?_ ?_ ?_ ?_ ?_ ?_) (
  fc (mkD X G mF 1074 59 791 790 ["some","other"] f_law_meet t40 ?_ ?_ ?_ ?_ ?_ ?_ ?_ ?_ ?_) (
  fc (mkD X G mF 1074 60 796 795 ["some","other"] f_law_within t41 ?_ ?_ ?_ ?_ ?_ ?_ ?_ ?_ ?_) (
  fc (mkD X G mF 1074 61 801 800 ["some","other"] f_law_apart t42 ?_ ?_ ?_ ?_ ?_ ?_ ?_ ?_ ?_) (
  fc (mkD X G mF 1074 62 808 807 ["frame","box","first","last"] f_law_meets_between t43 ?_ ?_ ?_ ?_ ?_ ?_ ?_ ?_ ?_) (
  fc (mkD X G mF 1074 63 815 814 ["atom","frame","marks","worth","beat"] f_law_true_of t44 ?_ ?_ ?_ ?_ ?_ ?_ ?_ ?_ ?_) (
  fc (mkD X G mF 1074 64 820 819 ["things"] f_law_poured t45 ?_ ?_ ?_ ?_ ?_ ?_ ?_ ?_ ?_) (
  fc (mkD X G mF 1074 65 825 824 ["stack","way"] f_law_pair t46 ?_ ?_ ?_ ?_ ?_ ?_ ?_ ?_ ?_) (
  fc (mkD X G mF 1074 66 830 829 ["stack","cell","scene","things"] f_law_push t47 ?_ ?_ ?_ ?_ ?_ ?_ ?_ ?_ ?_) (
  fc (mkD X G mF 1074 67 837 836 ["found","row"] f_law_lies t48 ?_ ?_ ?_ ?_ ?_ ?_ ?_ ?_ ?_) (
  fc (mkD X G mF 1074 68 844 843 ["want","thing","beat","due"] f_law_wrong_on t49 ?_ ?_ ?_ ?_ ?_ ?_ ?_ ?_ ?_) (
  fc (mkD X G mF 1074 69 849 848 ["script"] f_law t50 ?_ ?_ ?_ ?_ ?_ ?_ ?_ ?_ ?_) (
  λ_ h=>nomatch h))))))))))))))))))))))))))))))))))))))))))))))))))
 all_goals first|kernel_rfl|exact λ_ _ _ _ _ _=>bd1 rfl λ_=>rfl|exact λ_ _ _ _ _ _=>bd2 rfl λ_ _=>rfl|exact λ_ _ _ _ _ _=>bd3 rfl λ_ _ _=>rfl|exact λ_ _ _ _ _ _=>bd4 rfl λ_ _ _ _=>rfl|exact λ_ _ _ _ _ _=>bd5 rfl λ_ _ _ _ _=>rfl
theorem hb:∀x∈qAI,mg x=none:=by
 refine fc (mg_none_of X G ?_) (fc (mg_none_of X G ?_) (fc (mg_none_of X G ?_) (fc (mg_none_of X G ?_) (fc (mg_none_of X G ?_) (fc (mg_none_of X G ?_) (fc (mg_none_of X G ?_) (fc (mg_none_of X G ?_) (fc (mg_none_of X G ?_) (fc (mg_none_of X G ?_) (fc (mg_none_of X G ?_) (fc (mg_none_of X G ?_) (fc (mg_none_of X G ?_) (fc (mg_none_of X G ?_) (fc (mg_none_of X G ?_) (fc (mg_none_of X G ?_) (fc (mg_none_of X G ?_) (fc (mg_none_of X G ?_) (λ_ h=>nomatch h))))))))))))))))))
 all_goals kernel_rfl
theorem hmt:∀u∈gx.meth,MthIn (heap P) mg gx tab 60 u.c u.m u.i u.kn.c u.kn.ns:=by
 refine fc (mkM (q:="Anything.suits") (s:=mth 35 0) 256 (mg_of X G ?_) (.inr ⟨rfl,⟨?_,?_,?_⟩⟩) ⟨?_,?_,?_,?_⟩ (λ_ h=>nomatch h) ⟨?_,?_,?_⟩ (mkF mE 369 255 ["self","thing","beat"] ?_ ?_ ?_ ?_) (qAK ?_) ?_ t51 ?_ ?_ ?_ ?_) (
  fc (mkM (q:="Anything.verdict") (s:=mth 35 1) 263 (mg_of X G ?_) (.inr ⟨rfl,⟨?_,?_,?_⟩⟩) ⟨?_,?_,?_,?_⟩ (λ_ h=>nomatch h) ⟨?_,?_,?_⟩ (mkF mE 369 262 ["self","told","beat"] ?_ ?_ ?_ ?_) (qAK ?_) ?_ t52 ?_ ?_ ?_ ?_) (
  fc (mkM (q:="Meets.suits") (s:=mth 36 1) 296 (mg_of X G ?_) (mkI (q:="Meets.__init__") (s:=mth 36 0) 289 (mkF mE 369 288 ["self","box"] ?_ ?_ ?_ ?_) ⟨?_,?_,?_,?_⟩ (qAK ?_) ?_ ?_ ?_) ⟨?_,?_,?_,?_⟩ (fc ?_ (λ_ h=>nomatch h)) ⟨?_,?_,?_⟩ (mkF mE 369 295 ["self","thing","beat"] ?_ ?_ ?_ ?_) (qAK ?_) ?_ t53 ?_ ?_ ?_ ?_) (
  fc (mkM (q:="Meets.verdict") (s:=mth 36 2) 303 (mg_of X G ?_) (mkI (q:="Meets.__init__") (s:=mth 36 0) 289 (mkF mE 369 288 ["self","box"] ?_ ?_ ?_ ?_) ⟨?_,?_,?_,?_⟩ (qAK ?_) ?_ ?_ ?_) ⟨?_,?_,?_,?_⟩ (fc ?_ (λ_ h=>nomatch h)) ⟨?_,?_,?_⟩ (mkF mE 369 302 ["self","told","beat"] ?_ ?_ ?_ ?_) (qAK ?_) ?_ t54 ?_ ?_ ?_ ?_) (
  fc (mkM (q:="Inside.suits") (s:=mth 37 1) 336 (mg_of X G ?_) (mkI (q:="Inside.__init__") (s:=mth 37 0) 329 (mkF mE 369 328 ["self","box"] ?_ ?_ ?_ ?_) ⟨?_,?_,?_,?_⟩ (qAK ?_) ?_ ?_ ?_) ⟨?_,?_,?_,?_⟩ (fc ?_ (λ_ h=>nomatch h)) ⟨?_,?_,?_⟩ (mkF mE 369 335 ["self","thing","beat"] ?_ ?_ ?_ ?_) (qAK ?_) ?_ t55 ?_ ?_ ?_ ?_) (
  fc (mkM (q:="Inside.verdict") (s:=mth 37 2) 343 (mg_of X G ?_) (mkI (q:="Inside.__init__") (s:=mth 37 0) 329 (mkF mE 369 328 ["self","box"] ?_ ?_ ?_ ?_) ⟨?_,?_,?_,?_⟩ (qAK ?_) ?_ ?_ ?_) ⟨?_,?_,?_,?_⟩ (fc ?_ (λ_ h=>nomatch h)) ⟨?_,?_,?_⟩ (mkF mE 369 342 ["self","told","beat"] ?_ ?_ ?_ ?_) (qAK ?_) ?_ t56 ?_ ?_ ?_ ?_) (
  fc (mkM (q:="Holds.suits") (s:=mth 38 1) 376 (mg_of X G ?_) (mkI (q:="Holds.__init__") (s:=mth 38 0) 369 (mkF mE 369 368 ["self","box"] ?_ ?_ ?_ ?_) ⟨?_,?_,?_,?_⟩ (qAK ?_) ?_ ?_ ?_) ⟨?_,?_,?_,?_⟩ (fc ?_ (λ_ h=>nomatch h)) ⟨?_,?_,?_⟩ (mkF mE 369 375 ["self","thing","beat"] ?_ ?_ ?_ ?_) (qAK ?_) ?_ t57 ?_ ?_ ?_ ?_) (
  fc (mkM (q:="Holds.verdict") (s:=mth 38 2) 383 (mg_of X G ?_) (mkI (q:="Holds.__init__") (s:=mth 38 0) 369 (mkF mE 369 368 ["self","box"] ?_ ?_ ?_ ?_) ⟨?_,?_,?_,?_⟩ (qAK ?_) ?_ ?_ ?_) ⟨?_,?_,?_,?_⟩ (fc ?_ (λ_ h=>nomatch h)) ⟨?_,?_,?_⟩ (mkF mE 369 382 ["self","told","beat"] ?_ ?_ ?_ ?_) (qAK ?_) ?_ t58 ?_ ?_ ?_ ?_) (
  fc (mkM (q:="Near.suits") (s:=mth 39 1) 416 (mg_of X G ?_) (mkI (q:="Near.__init__") (s:=mth 39 0) 409 (mkF mE 369 408 ["self","box","far"] ?_ ?_ ?_ ?_) ⟨?_,?_,?_,?_⟩ (qAK ?_) ?_ ?_ ?_) ⟨?_,?_,?_,?_⟩ (fc ?_ (fc ?_ (λ_ h=>nomatch h))) ⟨?_,?_,?_⟩ (mkF mE 369 415 ["self","thing","beat"] ?_ ?_ ?_ ?_) (qAK ?_) ?_ t59 ?_ ?_ ?_ ?_) (
  fc (mkM (q:="Near.verdict") (s:=mth 39 2) 423 (mg_of X G ?_) (mkI (q:="Near.__init__") (s:=mth 39 0) 409 (mkF mE 369 408 ["self","box","far"] ?_ ?_ ?_ ?_) ⟨?_,?_,?_,?_⟩ (qAK ?_) ?_ ?_ ?_) ⟨?_,?_,?_,?_⟩ (fc ?_ (fc ?_ (λ_ h=>nomatch h))) ⟨?_,?_,?_⟩ (mkF mE 369 422 ["self","told","beat"] ?_ ?_ ?_ ?_) (qAK ?_) ?_ t60 ?_ ?_ ?_ ?_) (
  fc (mkM (q:="Marked.suits") (s:=mth 40 1) 456 (mg_of X G ?_) (mkI (q:="Marked.__init__") (s:=mth 40 0) 449 (mkF mE 369 448 ["self","marks"] ?_ ?_ ?_ ?_) ⟨?_,?_,?_,?_⟩ (qAK ?_) ?_ ?_ ?_) ⟨?_,?_,?_,?_⟩ (fc ?_ (λ_ h=>nomatch h)) ⟨?_,?_,?_⟩ (mkF mE 369 455 ["self","thing","beat"] ?_ ?_ ?_ ?_) (qAK ?_) ?_ t61 ?_ ?_ ?_ ?_) (
  fc (mkM (q:="Marked.verdict") (s:=mth 40 2) 463 (mg_of X G ?_) (mkI (q:="Marked.__init__") (s:=mth 40 0) 449 (mkF mE 369 448 ["self","marks"] ?_ ?_ ?_ ?_) ⟨?_,?_,?_,?_⟩ (qAK ?_) ?_ ?_ ?_) ⟨?_,?_,?_,?_⟩ (fc ?_ (λ_ h=>nomatch h)) ⟨?_,?_,?_⟩ (mkF mE 369 462 ["self","told","beat"] ?_ ?_ ?_ ?_) (qAK ?_) ?_ t62 ?_ ?_ ?_ ?_) (
  fc (mkM (q:="Touched.suits") (s:=mth 41 1) 496 (mg_of X G ?_) (mkI (q:="Touched.__init__") (s:=mth 41 0) 489 (mkF mE 369 488 ["self","marks"] ?_ ?_ ?_ ?_) ⟨?_,?_,?_,?_⟩ (qAK ?_) ?_ ?_ ?_) ⟨?_,?_,?_,?_⟩ (fc ?_ (λ_ h=>nomatch h)) ⟨?_,?_,?_⟩ (mkF mE 369 495 ["self","thing","beat"] ?_ ?_ ?_ ?_) (qAK ?_) ?_ t63 ?_ ?_ ?_ ?_) (
  fc (mkM (q:="Touched.verdict") (s:=mth 41 2) 503 (mg_of X G ?_) (mkI (q:="Touched.__init__") (s:=mth 41 0) 489 (mkF mE 369 488 ["self","marks"] ?_ ?_ ?_ ?_) ⟨?_,?_,?_,?_⟩ (qAK ?_) ?_ ?_ ?_) ⟨?_,?_,?_,?_⟩ (fc ?_ (λ_ h=>nomatch h)) ⟨?_,?_,?_⟩ (mkF mE 369 502 ["self","told","beat"] ?_ ?_ ?_ ?_) (qAK ?_) ?_ t64 ?_ ?_ ?_ ?_) (
  fc (mkM (q:="Crosses.suits") (s:=mth 42 1) 536 (mg_of X G ?_) (mkI (q:="Crosses.__init__") (s:=mth 42 0) 529 (mkF mE 369 528 ["self","box","first","last"] ?_ ?_ ?_ ?_) ⟨?_,?_,?_,?_⟩ (qAK ?_) ?_ ?_ ?_) ⟨?_,?_,?_,?_⟩ (fc ?_ (fc ?_ (fc ?_ (λ_ h=>nomatch h)))) ⟨?_,?_,?_⟩ (mkF mE 369 535 ["self","thing","beat"] ?_ ?_ ?_ ?_) (qAK ?_) ?_ t65 ?_ ?_ ?_ ?_) (
  fc (mkM (q:="Crosses.verdict") (s:=mth 42 2) 543 (mg_of X G ?_) (mkI (q:="Crosses.__init__") (s:=mth 42 0) 529 (mkF mE 369 528 ["self","box","first","last"] ?_ ?_ ?_ ?_) ⟨?_,?_,?_,?_⟩ (qAK ?_) ?_ ?_ ?_) ⟨?_,?_,?_,?_⟩ (fc ?_ (fc ?_ (fc ?_ (λ_ h=>nomatch h)))) ⟨?_,?_,?_⟩ (mkF mE 369 542 ["self","told","beat"] ?_ ?_ ?_ ?_) (qAK ?_) ?_ t66 ?_ ?_ ?_ ?_) (
  fc (mkM (q:="Worthy.suits") (s:=mth 43 1) 576 (mg_of X G ?_) (mkI (q:="Worthy.__init__") (s:=mth 43 0) 569 (mkF mE 369 568 ["self","least"] ?_ ?_ ?_ ?_) ⟨?_,?_,?_,?_⟩ (qAK ?_) ?_ ?_ ?_) ⟨?_,?_,?_,?_⟩ (fc ?_ (λ_ h=>nomatch h)) ⟨?_,?_,?_⟩ (mkF mE 369 575 ["self","thing","beat"] ?_ ?_ ?_ ?_) (qAK ?_) ?_ t67 ?_ ?_ ?_ ?_) (
  fc (mkM (q:="Worthy.verdict") (s:=mth 43 2) 583 (mg_of X G ?_) (mkI (q:="Worthy.__init__") (s:=mth 43 0) 569 (mkF mE 369 568 ["self","least"] ?_ ?_ ?_ ?_) ⟨?_,?_,?_,?_⟩ (qAK ?_) ?_ ?_ ?_) ⟨?_,?_,?_,?_⟩ (fc ?_ (λ_ h=>nomatch h)) ⟨?_,?_,?_⟩ (mkF mE 369 582 ["self","told","beat"] ?_ ?_ ?_ ?_) (qAK ?_) ?_ t68 ?_ ?_ ?_ ?_) (
  fc (mkM (q:="Both.suits") (s:=mth 44 1) 616 (mg_of X G ?_) (mkI (q:="Both.__init__") (s:=mth 44 0) 609 (mkF mE 369 608 ["self","one","two"] ?_ ?_ ?_ ?_) ⟨?_,?_,?_,?_⟩ (qAK ?_) ?_ ?_ ?_) ⟨?_,?_,?_,?_⟩ (fc ?_ (fc ?_ (λ_ h=>nomatch h))) ⟨?_,?_,?_⟩ (mkF mE 369 615 ["self","thing","beat"] ?_ ?_ ?_ ?_) (qAK ?_) ?_ t69 ?_ ?_ ?_ ?_) (
  fc (mkM (q:="Both.verdict") (s:=mth 44 2) 623 (mg_of X G ?_) (mkI (q:="Both.__init__") (s:=mth 44 0) 609 (mkF mE 369 608 ["self","one","two"] ?_ ?_ ?_ ?_) ⟨?_,?_,?_,?_⟩ (qAK ?_) ?_ ?_ ?_) ⟨?_,?_,?_,?_⟩ (fc ?_ (fc ?_ (λ_ h=>nomatch h))) ⟨?_,?_,?_⟩ (mkF mE 369 622 ["self","told","beat"] ?_ ?_ ?_ ?_) (qAK ?_) ?_ t70 ?_ ?_ ?_ ?_) (
  fc (mkM (q:="Either.suits") (s:=mth 45 1) 656 (mg_of X G ?_) (mkI (q:="Either.__init__") (s:=mth 45 0) 649 (mkF mE 369 648 ["self","one","two"] ?_ ?_ ?_ ?_) ⟨?_,?_,?_,?_⟩ (qAK ?_) ?_ ?_ ?_) ⟨?_,?_,?_,?_⟩ (fc ?_ (fc ?_ (λ_ h=>nomatch h))) ⟨?_,?_,?_⟩ (mkF mE 369 655 ["self","thing","beat"] ?_ ?_ ?_ ?_) (qAK ?_) ?_ t71 ?_ ?_ ?_ ?_) (
  fc (mkM (q:="Either.verdict") (s:=mth 45 2) 663 (mg_of X G ?_) (mkI (q:="Either.__init__") (s:=mth 45 0) 649 (mkF mE 369 648 ["self","one","two"] ?_ ?_ ?_ ?_) ⟨?_,?_,?_,?_⟩ (qAK ?_) ?_ ?_ ?_) ⟨?_,?_,?_,?_⟩ (fc ?_ (fc ?_ (λ_ h=>nomatch h))) ⟨?_,?_,?_⟩ (mkF mE 369 662 ["self","told","beat"] ?_ ?_ ?_ ?_) (qAK ?_) ?_ t72 ?_ ?_ ?_ ?_) (
  fc (mkM (q:="Unless.suits") (s:=mth 46 1) 696 (mg_of X G ?_) (mkI (q:="Unless.__init__") (s:=mth 46 0) 689 (mkF mE 369 688 ["self","one"] ?_ ?_ ?_ ?_) ⟨?_,?_,?_,?_⟩ (qAK ?_) ?_ ?_ ?_) ⟨?_,?_,?_,?_⟩ (fc ?_ (λ_ h=>nomatch h)) ⟨?_,?_,?_⟩ (mkF mE 369 695 ["self","thing","beat"] ?_ ?_ ?_ ?_) (qAK ?_) ?_ t73 ?_ ?_ ?_ ?_) (
  fc (mkM (q:="Unless.verdict") (s:=mth 46 2) 703 (mg_of X G ?_) (mkI (q:="Unless.__init__") (s:=mth 46 0) 689 (mkF mE 369 688 ["self","one"] ?_ ?_ ?_ ?_) ⟨?_,?_,?_,?_⟩ (qAK ?_) ?_ ?_ ?_) ⟨?_,?_,?_,?_⟩ (fc ?_ (λ_ h=>nomatch h)) ⟨?_,?_,?_⟩ (mkF mE 369 702 ["self","told","beat"] ?_ ?_ ?_ ?_) (qAK ?_) ?_ t74 ?_ ?_ ?_ ?_) (
  λ_ h=>nomatch h))))))))))))))))))))))))
 all_goals first|kernel_rfl|exact λ_ _ _ _ _ _=>bd1 rfl λ_=>rfl|exact λ_ _ _ _ _ _=>bd2 rfl λ_ _=>rfl|exact λ_ _ _ _ _ _=>bd3 rfl λ_ _ _=>rfl|exact λ_ _ _ _ _ _=>bd4 rfl λ_ _ _ _=>rfl|exact λ_ _ _ _ _ _=>bd5 rfl λ_ _ _ _ _=>rfl|(unfold NoAttr;kernel_rfl)|decide +kernel
theorem fin {l:PySem.W.OpenLaw}{w:World}{fa:Addr}(hfa:mg "law"=some (.ref fa)):∃fd:FuncData,(∀(s:Shared) (v:Value),BindsTo s fd ⟨[v],[]⟩ [("script",v)])/\∀base:Heap,(heap P).In base->base.Ns mainGlobals mg->FnOk l.prog w (heap P) mg base CX0 29 fa fd ["script"] (spD (heap P) 1 (qAC tab 27 50)):=by
 have e:=hfa.symm.trans (mg_of X G (n:="law") (v:=.ref 849) (by kernel_rfl))
 cases e
 have l0:(heap P).lookup 849=some (fo "law" "law" (top 69) mF 1074 848):=by kernel_rfl
 exact⟨_,λs v=>.of_eq rfl,λbase _ _=>(fns qPF qLL (hb X G) (λx i h=>nomatch h) (λx i h=>hd X G (x,i) (PySem.mem_of_lookup h)) (λ_ h=>nomatch h) (hmt X G) 27 "law" "law" 50 _ _ (top 69) ["script"] f_law (qE5 (qEp (st:=top 69) l0 (by kernel_rfl) (by kernel_rfl))) (qAK (by kernel_rfl)) (by kernel_rfl) t50 rfl (by kernel_rfl)).1⟩
end
end Dw.K23
open PySem PySem.W PyProof.Rows
namespace Dw.K23
noncomputable def hk:Hook:=kHook heap ad (λ_=>by kernel_rfl)
noncomputable def q:Program:={ lw.prog with main:={ lw.prog.main with body:=c0::c2::c3::c4::c5::c6::c7::c9::c10::c11::c13::c14::c15::c17::c18::c19::c20::c21::c22::c23::c24::c25::c26::c28::c29::c30::c31::c32::c33::c34::c35::c36::c37::c38::c39::c40::c41::c42::c43::c44::c45::c46::c48::c49::c50::c51::c52::c53::c54::c55::c56::c57::c58::c59::c60::c61::c62::c63::c64::c65::c66::c67::c68::c69::[] } }
theorem hl:LeftO lw.row.toRowW.prog q [] (λs=>xlAt q [] s&&recOk (RowW.records lw.row.toRowW) s) (Hook.obs hk) (Hook.val hk) 8000:=
 LeftO.of_pieces (H₀:=boot_heap) (H₁:=hZ) (gs₀:=⟨[]⟩) (gs₁:=⟨[]⟩) (d₀:=boot_drawn) (d₁:={}) (k₀:=boot_toks) (k₁:=1252) (m₀:=11) (ann:=some (.ref 6)) (boot_open (by kernel_rfl) rfl λs=>rfl) (λw=>by kernel_rfl) run (by kernel_rfl) λw=>by kernel_rfl
theorem said:lw.wellSaid=true:=by kernel_rfl
end Dw.K23
set_option maxRecDepth 100000 in
set_option maxHeartbeats 0 in
theorem PySem.Challenge.cw_driftwood_k23_whole_verdicts_true_holds : PySem.Challenge.rw_driftwood_k23_whole_verdicts_true.Holds := by
 rw [Dw.K23.lw_eq]
 w_on
 refine holds_law Dw.K23.said λsaid=>?_
 refine holds_open (q:=Dw.K23.q) (loose:=[]) (Xt:=λs=>xlAt Dw.K23.q [] s&&recOk (RowW.records Dw.K23.lw.row.toRowW) s) (XP:=XL Dw.K23.q []) (Yf:=Hook.obs Dw.K23.hk) (Ya:=Hook.val Dw.K23.hk) (YP:=Hook.says Dw.K23.hk) (N:=8000) Dw.K23.hl (Hook.of Dw.K23.hk) (Hook.keeps Dw.K23.hk) (λs e=>xl_of s (Bool.and_eq_true_iff.mp e).1) XL.keeps (by rfl) (by rfl) (by rfl) (λs e=>recFacts_of (Bool.and_eq_true_iff.mp e).2) (by rfl) (by assumption) (by kernel_rfl) ⟨rfl,rfl,rfl,rfl,rfl,by kernel_rfl⟩ ?hw ?hc
 case hw=>w_witness2
 exact Dw.dw_walk (l:=Dw.K23.lw) (tab:=Dw.T.tab) (n:=27) (i:=50) (λns h w=>Dw.T.c_law23 0 ns h w) rfl rfl ⟨rfl,by decide,by decide⟩ (λw h Y=>PySem.W.kIn_of Y) λw mg fa h KX G hmg=>Dw.K23.fin KX G hmg
