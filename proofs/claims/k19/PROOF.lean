import PyProof.Rows.All
import Wide.All
import OpenK.AllK
import Wide.FinOn
import Lean
import PyProof.EqAt
import PyProof.EqKinds
import PyProof.TupleCall
import KE.KSortAsk
import KE.KSortKey
import KE.KSortTup
import KE.KLam
import KE.KNestM
import KE.KDictSum
import PyProof.TupleOfSeq
import KE.KTryMore
import KE.KIsAll
import PyProof.ExcAttrAll.ValueError
import PyProof.Rows.Own
import PyProof.NsDelKeeps
import PySem.Challenge.RW_driftwood_k19_no_thing
set_option linter.all false
set_option Elab.async false
set_option maxRecDepth 100000
set_option maxHeartbeats 4000000
namespace L2
open PySem PySem.Spec PyProof.Rows
noncomputable def defArgs (s:Stmt):Arguments:=match s with
  | .FunctionDef _ a _ _ _ _ _ _ _ _=>a
  | _=>{ posonlyargs:=[],args:=[],vararg:=none,kwonlyargs:=[],kw_defaults:=[],kwarg:=none,defaults:=[] }
noncomputable def defBody (s:Stmt):List Stmt:=match s with
  | .FunctionDef _ _ b _ _ _ _ _ _ _=>b
  | _=>[]
noncomputable def defScope (s:Stmt):Scope:=match s with
  | .FunctionDef _ _ _ _ _ _ sc _ _ _=>sc
  | _=>{ kind:=.function,names:=[],isGenerator:=false,isCoroutine:=false }
end L2
namespace Dw.K19
open PySem L2 PyProof.Rows
open PySem.W (nsIn fnOf codeIn keepIn findIn mg_of mg_none_of Frag)
def top (i:Nat):Stmt:=PySem.Challenge.pw_driftwood_k19_no_thing.main.body.getD i (.Pass ⟨0,0,0,0⟩)
noncomputable def mA:Str:="driftwood.swaths"
noncomputable def mB:Str:="driftwood.things"
noncomputable def mC:Str:="law_driftwood_k19_no_thing"
noncomputable def en (P:Params) (n:Str) (t:Tok) (v:Value):DictEntry:=⟨PyData.keyHash P n,.str n t,v⟩
noncomputable def er (P:Params) (n:Str) (t:Tok) (a:Nat):DictEntry:=en P n t (.ref a)
noncomputable def dc (es:List DictEntry) (n:Nat):Obj:={ cls:=.type "dict",data:=.dict es.toArray n }
noncomputable def fo (n q:Str) (s:Stmt) (m:Str) (t:Tok) (c:Nat):Obj:={ cls:=.type "function",data:=.func (fnOf n q (defArgs s) (defBody s) (defScope s) .none .none .none (.str m t) none (.ref c) .none) }
noncomputable def fod (n q:Str) (s:Stmt) (m:Str) (t:Tok) (c d:Nat):Obj:={ cls:=.type "function",data:=.func (fnOf n q (defArgs s) (defBody s) (defScope s) (.ref d) .none .none (.str m t) none (.ref c) .none) }
noncomputable def co (n q:Str) (t u x:Tok) (a b c d e r f s:Nat) (g h i:Value) (j k:Nat) (y:Tok):Obj:={ cls:=.type "code",data:=.fields #[.str n t,.str q u,.str "/claim/cut.py" x,.int a 0,.int b 0,.int c 0,.int d 0,.int e 0,.ref r,.bool true,.int f 0,.ref s,.none,g,h,i,.int j 0,.int k 0,.str "/claim/cut.py" y] }
noncomputable def ca (n q:Str) (t a b r j:Nat):Obj:=co n q t (t+1) (t+2) a b 0 0 3 r 181 (r+1) (.ref (r+2)) (.ref (r+3)) (.ref (r+4)) j a (j+1)
noncomputable def cn (n q:Str) (t a b r j:Nat):Obj:=co n q t (t+1) (t+2) a b 0 0 3 r 181 (r+1) .none .none (.ref (r+2)) j a (j+1)
noncomputable def vb:List Value:=[.type "ValueError",.type "Exception",.type "BaseException",.type "object"]
noncomputable def kl (n:Str) (C N:Nat) (bs bm sub:List Value) (s:Nat) (t u:Tok):Obj:=excClassObj n n C N bs bm true [] sub false none none (some (.ref s)) none (some (.str n t)) (some (.str n u)) (some (.bool true)) "ValueError.__new__"
noncomputable def heap (P:Params):Frag:=(nat_lit 3,dc (en P "__name__" 165 (.str ("law_driftwood_k19_no_thing") 418)::en P "__doc__" 166 .none::en P "__package__" 167 .none::en P "__loader__" 168 (.builtin "__main__.__loader__#opaque")::en P "__spec__" 169 .none::er P "__annotations__" 170 6::er P "__builtins__" 171 4::en P "__file__" 173 (.str ("/claim/cut.py") 172)::en P "__cached__" 174 .none::en P "PLACE_BOUND" 188 (.int 1000000000000000000000000000000 187)::en P "SPEED_BOUND" 190 (.int 1000000000000000 189)::en P "HANDLE_BOUND" 192 (.int 1000000000000000000 191)::en P "MARKS_BOUND" 194 (.int 65535 193)::en P "WORTH_BOUND" 196 (.int 1000000000000000000000000000000 195)::er P "DriftError" 216 24::er P "NoThing" 232 37::er P "NoWant" 248 49::er P "NoPath" 264 61::er P "NoHandle" 280 73::er P "NoRoom" 296 85::er P "Twice" 312 97::er P "NoView" 328 109::er P "NoWatch" 344 121::er P "NoText" 360 133::er P "still_swath" 368 140::er P "drifting" 374 145::er P "is_number" 385 152::er P "is_side" 391 157::er P "is_box" 397 162::er P "are_speeds" 403 167::er P "make_thing" 417 175::er P "_law_stir" 426 182::er P "_law_next" 433 189::er P "_law_parts_by" 446 196::er P "_law_strange" 453 203::er P "_law_with" 462 210::er P "_law_side_spoiled" 472 217::er P "_law_spoiled" 487 224::er P "_law_other" 494 231::er P "_law_refused" 503 238::er P "law" 509 243::[]) 41) ::
  (nat_lit 23,dc (en P "__module__" 206 (.str ("driftwood.errors") 197)::en P "__firstlineno__" 210 (.int 7 209)::er P "__static_attributes__" 211 22::er P "__weakref__" 213 25::en P "__doc__" 214 .none::[]) 3) ::
  (nat_lit 24,kl "DriftError" 24 23 [.type "ValueError"] vb [.ref 37,.ref 49,.ref 61,.ref 73,.ref 85,.ref 97,.ref 109,.ref 121,.ref 133] 15 199 207) ::
  (nat_lit 36,dc (en P "__module__" 224 (.str ("driftwood.errors") 197)::en P "__firstlineno__" 228 (.int 9 227)::er P "__static_attributes__" 229 35::en P "__doc__" 230 .none::[]) 2) ::
  (nat_lit 37,kl "NoThing" 37 36 [.ref 24] (.ref 24::vb) [] 28 217 225) ::
  (nat_lit 48,dc (en P "__module__" 240 (.str ("driftwood.errors") 197)::en P "__firstlineno__" 244 (.int 11 243)::er P "__static_attributes__" 245 47::en P "__doc__" 246 .none::[]) 2) ::
  (nat_lit 49,kl "NoWant" 49 48 [.ref 24] (.ref 24::vb) [] 40 233 241) ::
  (nat_lit 60,dc (en P "__module__" 256 (.str ("driftwood.errors") 197)::en P "__firstlineno__" 260 (.int 13 259)::er P "__static_attributes__" 261 59::en P "__doc__" 262 .none::[]) 2) ::
  (nat_lit 61,kl "NoPath" 61 60 [.ref 24] (.ref 24::vb) [] 52 249 257) ::
  (nat_lit 72,dc (en P "__module__" 272 (.str ("driftwood.errors") 197)::en P "__firstlineno__" 276 (.int 15 275)::er P "__static_attributes__" 277 71::en P "__doc__" 278 .none::[]) 2) ::
  (nat_lit 73,kl "NoHandle" 73 72 [.ref 24] (.ref 24::vb) [] 64 265 273) ::
  (nat_lit 84,dc (en P "__module__" 288 (.str ("driftwood.errors") 197)::en P "__firstlineno__" 292 (.int 17 291)::er P "__static_attributes__" 293 83::en P "__doc__" 294 .none::[]) 2) ::
  (nat_lit 85,kl "NoRoom" 85 84 [.ref 24] (.ref 24::vb) [] 76 281 289) ::
  (nat_lit 96,dc (en P "__module__" 304 (.str ("driftwood.errors") 197)::en P "__firstlineno__" 308 (.int 19 307)::er P "__static_attributes__" 309 95::en P "__doc__" 310 .none::[]) 2) ::
  (nat_lit 97,kl "Twice" 97 96 [.ref 24] (.ref 24::vb) [] 88 297 305) ::
  (nat_lit 108,dc (en P "__module__" 320 (.str ("driftwood.errors") 197)::en P "__firstlineno__" 324 (.int 21 323)::er P "__static_attributes__" 325 107::en P "__doc__" 326 .none::[]) 2) ::
  (nat_lit 109,kl "NoView" 109 108 [.ref 24] (.ref 24::vb) [] 100 313 321) ::
  (nat_lit 120,dc (en P "__module__" 336 (.str ("driftwood.errors") 197)::en P "__firstlineno__" 340 (.int 23 339)::er P "__static_attributes__" 341 119::en P "__doc__" 342 .none::[]) 2) ::
  (nat_lit 121,kl "NoWatch" 121 120 [.ref 24] (.ref 24::vb) [] 112 329 337) ::
  (nat_lit 132,dc (en P "__module__" 352 (.str ("driftwood.errors") 197)::en P "__firstlineno__" 356 (.int 25 355)::er P "__static_attributes__" 357 131::en P "__doc__" 358 .none::[]) 2) ::
  (nat_lit 133,kl "NoText" 133 132 [.ref 24] (.ref 24::vb) [] 124 345 353) ::
  (nat_lit 139,cn "still_swath" "still_swath" 363 28 1 136 366) ::
  (nat_lit 140,fo "still_swath" "still_swath" (top 17) mA 361 139) ::
  (nat_lit 144,cn "drifting" "drifting" 369 30 2 141 372) ::
  (nat_lit 145,fo "drifting" "drifting" (top 18) mA 361 144) ::
  (nat_lit 151,ca "is_number" "is_number" 377 33 3 146 383) ::
  (nat_lit 152,fo "is_number" "is_number" (top 20) mB 375 151) ::
  (nat_lit 156,cn "is_side" "is_side" 386 35 1 153 389) ::
  (nat_lit 157,fo "is_side" "is_side" (top 21) mB 375 156) ::
  (nat_lit 161,cn "is_box" "is_box" 392 39 1 158 395) ::
  (nat_lit 162,fo "is_box" "is_box" (top 22) mB 375 161) ::
  (nat_lit 166,cn "are_speeds" "are_speeds" 398 41 2 163 401) ::
  (nat_lit 167,fo "are_speeds" "are_speeds" (top 23) mB 375 166) ::
  (nat_lit 168,{ cls:=.type "tuple",data:=.seq #[.none,.int 0 404,.int 0 405] }) ::
  (nat_lit 174,ca "make_thing" "make_thing" 406 45 5 169 415) ::
  (nat_lit 175,fod "make_thing" "make_thing" (top 24) mB 375 174 168) ::
  (nat_lit 181,ca "_law_stir" "_law_stir" 420 59 1 176 424) ::
  (nat_lit 182,fo "_law_stir" "_law_stir" (top 26) mC 418 181) ::
  (nat_lit 188,ca "_law_next" "_law_next" 427 61 1 183 431) ::
  (nat_lit 189,fo "_law_next" "_law_next" (top 27) mC 418 188) ::
  (nat_lit 195,ca "_law_parts_by" "_law_parts_by" 434 63 1 190 444) ::
  (nat_lit 196,fo "_law_parts_by" "_law_parts_by" (top 28) mC 418 195) ::
  (nat_lit 202,ca "_law_strange" "_law_strange" 447 75 1 197 451) ::
  (nat_lit 203,fo "_law_strange" "_law_strange" (top 29) mC 418 202) ::
  (nat_lit 209,ca "_law_with" "_law_with" 454 77 3 204 460) ::
  (nat_lit 210,fo "_law_with" "_law_with" (top 30) mC 418 209) ::
  (nat_lit 216,ca "_law_side_spoiled" "_law_side_spoiled" 463 79 4 211 470) ::
  (nat_lit 217,fo "_law_side_spoiled" "_law_side_spoiled" (top 31) mC 418 216) ::
  (nat_lit 223,ca "_law_spoiled" "_law_spoiled" 473 93 4 218 485) ::
  (nat_lit 224,fo "_law_spoiled" "_law_spoiled" (top 32) mC 418 223) ::
  (nat_lit 230,ca "_law_other" "_law_other" 488 122 1 225 492) ::
  (nat_lit 231,fo "_law_other" "_law_other" (top 33) mC 418 230) ::
  (nat_lit 237,ca "_law_refused" "_law_refused" 495 128 1 232 501) ::
  (nat_lit 238,fo "_law_refused" "_law_refused" (top 34) mC 418 237) ::
  (nat_lit 242,cn "law" "law" 504 137 1 239 507) ::
  (nat_lit 243,fo "law" "law" (top 35) mC 418 242)::[]
def c0:Stmt:=top 0
def c1:Stmt:=top 1
def c2:Stmt:=top 2
def c3:Stmt:=top 3
def c4:Stmt:=top 4
def c5:Stmt:=top 5
def c6:Stmt:=top 6
def c7:Stmt:=top 7
def c8:Stmt:=top 8
def c9:Stmt:=top 9
def c10:Stmt:=top 10
def c11:Stmt:=top 11
def c12:Stmt:=top 12
def c13:Stmt:=top 13
def c14:Stmt:=top 14
def c15:Stmt:=top 15
def c16:Stmt:=top 16
def c17:Stmt:=top 17
def c18:Stmt:=top 18
def c19:Stmt:=top 19
def c20:Stmt:=top 20
def c21:Stmt:=top 21
def c22:Stmt:=top 22
def c23:Stmt:=top 23
def c24:Stmt:=top 24
def c25:Stmt:=top 25
def c26:Stmt:=top 26
def c27:Stmt:=top 27
def c28:Stmt:=top 28
def c29:Stmt:=top 29
def c30:Stmt:=top 30
def c31:Stmt:=top 31
def c32:Stmt:=top 32
def c33:Stmt:=top 33
def c34:Stmt:=top 34
def c35:Stmt:=top 35
def pw:Program:={ PySem.Challenge.pw_driftwood_k19_no_thing with main:={ PySem.Challenge.pw_driftwood_k19_no_thing.main with body:=c0::c1::c2::c3::c4::c5::c6::c7::c8::c9::c10::c11::c12::c13::c14::c15::c16::c17::c18::c19::c20::c21::c22::c23::c24::c25::c26::c27::c28::c29::c30::c31::c32::c33::c34::c35::[] } }
def lw:PySem.W.OpenLaw:={ PySem.Challenge.rw_driftwood_k19_no_thing with prog:=pw }
theorem lw_eq:PySem.Challenge.rw_driftwood_k19_no_thing=lw:=by kernel_rfl
end Dw.K19
section
open PySem PySem.W PyProof.Rows
namespace Dw.K19
noncomputable def hk:Hook:=kmHook heap (3::23::24::36::37::48::49::60::61::72::73::84::85::96::97::108::109::120::121::132::133::139::140::144::145::151::152::156::157::161::162::166::167::168::174::175::181::182::188::189::195::196::202::203::209::210::216::217::223::224::230::231::237::238::242::243::[]) (λ_=>by kernel_rfl) ([])
noncomputable def q:Program:={ lw.prog with main:={ lw.prog.main with body:=c0::c1::c2::c3::c4::c6::c7::c8::c9::c10::c11::c12::c13::c14::c15::c17::c18::c20::c21::c22::c23::c26::c27::c28::c29::c30::c31::c32::c33::c34::c35::[] } }
theorem hl:LeftO lw.row.toRowW.prog q ["make_thing"] (λs=>xlAt q [] s&&recOk (RowW.records lw.row.toRowW) s) (Hook.obs hk) (Hook.val hk) 5000:=λw=>by kernel_rfl
theorem said:lw.wellSaid=true:=by kernel_rfl
end Dw.K19
end
namespace Dw
open PySem PySem.W PyProof.Rows
noncomputable def runT {α:Type}(c:Nat→Nat→Bool):KasT α→α
  | .ret a=>a
  | .ask i j k=>runT c (k (c i j))
noncomputable def srtK (is:List Int):List Nat:=if is.length<2 then List.range is.length else (runT (λi j=>decide (is.getD i 0<is.getD j 0)) (kas_sort is.length)).toList
end Dw
namespace Dw
open PySem
inductive D where
  | non|bl (b:Bool)|int (i:Int)|str (x:Str)|tup (ds:List D)|lst (ds:List D)
    | dct (m:Bool) (ks:List Int)
    | obj (ns:List Str) (ds:List D)
    | exc (c:Str)
  deriving Inhabited
inductive BOp where|add|sub|mul|fdiv|mod|pow|shl|shr|band|bor|bxor
  deriving DecidableEq,Inhabited
inductive COp where|eq|ne|lt|le|gt|ge|isin|notin
  deriving DecidableEq,Inhabited
inductive BI where|len|abs|min|max|sum|all|tuple|list|int|any|str|sorted
  deriving DecidableEq,Inhabited
inductive Ty where|int|bool|tuple|list|str
  deriving DecidableEq,Inhabited
inductive Tg where|one (i:Nat)|two (i j:Nat)|many (is:List Nat)
  deriving DecidableEq,Inhabited
inductive Ar where|pos (i:Nat)|kw (i:Nat)|dft (j:Nat) (d:D)
  deriving Inhabited
inductive C where
  | v (i:Nat)
  | k (d:D)
  | bin (o:BOp) (a b:C)
  | neg (a:C)
  | cmp (o:COp) (a b:C)
  | isC (neg:Bool) (a:C) (d:D)
  | inV (neg:Bool) (a:C) (i:Nat)
  | and (a b:C)|or (a b:C)|not (a:C)
  | ix (a b:C)
  | sl (a:C) (lo hi:Option C)
  | tup (as:List C)|lst (as:List C)
  | call (f:Nat) (as:List C)
  | bi (b:BI) (as:List C)
  | isi (a:C) (t:Ty)
  | bitl (a:C)
  | ifx (c a b:C)
  | rev (a:C)
  | join (a b:C)
  | fstr (as:List C)
  | chn (o p:COp) (a b c:C)
  | callP (f:Nat) (as ks:List C) (pl:List Ar)
  | compS (e:C) (nl:Nat) (ks:List Nat) (tg:Tg) (src:C)
  | compR (e:C) (nl:Nat) (ks:List Nat) (tg:Tg) (rs:List C)
  | compZ (e:C) (nl:Nat) (ks:List Nat) (tg:Tg) (a b:C)
  | compE (e:C) (nl:Nat) (ks:List Nat) (tg:Tg) (a:C)
  | compF (e c:C) (nl:Nat) (ks:List Nat) (tg:Tg) (src:C)
  | srtR (e:C) (nl:Nat) (ks:List Nat) (rs:List C)
  | fld (i j:Nat) (f:Str)
  | mm (f:Nat) (ns:List Str) (as bs:List C)
  deriving Inhabited
inductive S where
  | frz (is:List Nat)
  | set (i:Nat) (keep:Bool) (e:C)
  | dnew (i:Nat)
  | aug (i:Nat) (e:C)
  | popE (i:Nat)
  | setIx (i:Nat) (k e:C)
  | app (i:Nat) (e:C)
  | ret (e:C)
  | ite (c:C) (a b:List S)
  | forS (tg:Tg) (src:C) (body:List S)
  | forR (tg:Tg) (rs:List C) (body:List S)
  | forZ (tg:Tg) (a b:C) (body:List S)
  | forE (tg:Tg) (a:C) (body:List S)
  | forV (tg:Tg) (rs:List C) (body:List S)
  | ext (i:Nat) (e:C)
  | asgT (tg:Tg) (e:C)
  | pop (tg:Tg) (i:Nat)
  | whl (c:C) (body:List S)
  | brk
  | cnt
  | stk
  | rse (c:Str)
  | tryB (i t f:Nat) (as:List C) (tb:List (Str×D))
  deriving Inhabited
noncomputable abbrev R:=Bool×D
noncomputable abbrev En:=List (Option R)
mutual
@[simp] noncomputable def eqD:D→D→Bool
  | .non,.non=>true
  | .bl a,.bl b=>a == b
  | .bl a,.int b=>(if a then (1:Int) else 0) == b
  | .int a,.bl b=>a == (if b then (1:Int) else 0)
  | .int a,.int b=>a == b
  | .str a,.str b=>a == b
  | .tup xs,.tup ys=>eqDs xs ys
  | .lst xs,.lst ys=>eqDs xs ys
  | .dct a ks,.dct b js=>a == b&&ks == js
  | .obj a xs,.obj b ys=>a == b&&eqDs xs ys
  | .exc a,.exc b=>a == b
  | _,_=>false
@[simp] noncomputable def eqDs:List D→List D→Bool
  | [],[]=>true
  | x::xs,y::ys=>eqD x y&&eqDs xs ys
  | _,_=>false
end
mutual
@[simp] noncomputable def shal:Nat→D→Bool
  | 0,.tup _=>false
  | 0,.lst _=>false
  | n+1,.tup ds=>shals n ds
  | n+1,.lst ds=>shals n ds
  | _,_=>true
@[simp] noncomputable def shals:Nat→List D→Bool
  | _,[]=>true
  | n,d::ds=>shal n d&&shals n ds
end
theorem shals_map {α:Type}(n:Nat) (f:α→D):∀l:List α,shals n (l.map f)=l.all λx=>shal n (f x)
  | []=>rfl
  | x::r=>by simp [shals_map n f r]
noncomputable def lim:Nat:=2^24
noncomputable def big:Nat:=2^4000
noncomputable def huge:Nat:=2^1048576
noncomputable def mulOk (a b:Int):Bool:=decide ((a.natAbs<2^240∧b.natAbs<2^240)∨a.natAbs<2^64∨b.natAbs<2^64∨(a.natAbs<huge∧b.natAbs<huge))
noncomputable def divOk (b:Int):Bool:=decide (b≠0∧(b.natAbs<2^240∨b.natAbs<big))
noncomputable def shlOk (a b:Int):Bool:=decide (0≤b∧b≤1000∧a.natAbs<2^64)
noncomputable def powOk (a b:Int):Bool:=decide (a.natAbs<2^240∧0≤b∧b≤200)
noncomputable def srtI (is:List Int):List Int:=is.mergeSort (λa b=>decide (a≤b))
noncomputable def istr (i:Int):Str:=Str.ofString (toString i)
noncomputable def glueS (sep:Str) (ts:List Str):Str:=⟨(ts.drop 1).foldl (λacc p=>acc++sep.cps++p.cps) (ts.headD Str.empty).cps⟩
@[simp] noncomputable def strsOf:List D→Option (List Str)
  | []=>some []
  | .str i::r=>(strsOf r).map (i::·)
  | _=>none
noncomputable def joinOk (sep:Str) (ts:List Str):Bool:=decide (ts.toArray.foldl (λn t=>n+t.length+sep.length) 0≤lim∧(glueS sep ts).length≤lim)
@[simp] noncomputable def joinD:D→D→Option R
  | .str sep,.lst xs=>(strsOf xs).bind λts=>if joinOk sep ts then some (false,.str (glueS sep ts)) else none
  | _,_=>none
noncomputable def catS (acc:Str):List Str→Option Str
  | []=>some acc
  | t::r=>if (acc++t).length≤lim then catS (acc++t) r else none
@[simp] noncomputable def revD:D→Option R
  | .tup xs=>some (false,.tup xs.reverse)
  | _=>none
noncomputable def binD:BOp→D→D→Option R
  | .add,.int a,.int b=>some (false,.int (a+b))
  | .sub,.int a,.int b=>some (false,.int (a - b))
  | .mul,.int a,.int b=>if mulOk a b then some (false,.int (a * b)) else none
  | .fdiv,.int a,.int b=>if divOk b then some (false,.int (a.fdiv b)) else none
  | .mod,.int a,.int b=>if divOk b then some (false,.int (a.fmod b)) else none
  | .pow,.int a,.int b=>if powOk a b then some (false,.int (a^b.toNat)) else none
  | .shl,.int a,.int b=>if shlOk a b then some (false,.int (a * 2^b.toNat)) else none
  | .shr,.int a,.int b=>if 0≤b then some (false,.int (a / 2^b.toNat)) else none
  | .band,.int a,.int b=>if 0≤a∧0≤b then some (false,.int ((a.toNat &&& b.toNat:Nat):Int)) else none
  | .bor,.int a,.int b=>if 0≤a∧0≤b then some (false,.int ((a.toNat ||| b.toNat:Nat):Int)) else none
  | .bxor,.int a,.int b=>if 0≤a∧0≤b then some (false,.int (((a.toNat ||| b.toNat:Nat):Int) - ((a.toNat &&& b.toNat:Nat):Int))) else none
  | .add,.lst a,.lst b=>if a.length+b.length≤lim then some (true,.lst (a++b)) else none
  | .add,.str a,.str b=>if a.length+b.length≤lim then some (false,.str (a++b)) else none
  | .add,.tup [],.tup b=>some (false,.tup b)
  | .add,.tup (x::a),.tup b=>if a.length+1+b.length≤lim then some (false,.tup (x::a++b)) else none
  | .mul,.lst a,.int b=>if a.length * b.toNat≤lim∧-(2^62)<b∧b<2^62 then some (true,.lst (List.replicate b.toNat a).flatten) else none
  | _,_,_=>none
@[simp] noncomputable def intsOf:List D→Option (List Int)
  | []=>some []
  | .int i::r=>(intsOf r).map (i::·)
  | _=>none
@[simp] noncomputable def inD (n:Bool):D→D→Option R
  | .int i,.tup ys=>(intsOf ys).map λis=>(false,.bl (if n then !(is.any (· == i)) else is.any (· == i)))
  | _,_=>none
@[simp] noncomputable def cmpD:COp→D→D→Option R
  | .isin,a,b=>inD false a b
  | .notin,a,b=>inD true a b
  | .eq,a,b=>if shal 20 a||shal 20 b then some (false,.bl (eqD a b)) else none
  | .ne,a,b=>if shal 20 a||shal 20 b then some (false,.bl (!eqD a b)) else none
  | .lt,.int a,.int b=>some (false,.bl (decide (a<b)))
  | .le,.int a,.int b=>some (false,.bl (decide (a≤b)))
  | .gt,.int a,.int b=>some (false,.bl (decide (b<a)))
  | .ge,.int a,.int b=>some (false,.bl (decide (b≤a)))
  | _,_,_=>none
@[simp] noncomputable def ixN (n:Nat) (i:Int):Option Nat:=if 0≤i then (if i<n then some i.toNat else none) else if -(n:Int)≤i then some (i+n).toNat else none
@[simp] noncomputable def ixD (xs:List D) (i:Int):Option D:=(ixN xs.length i).bind λj=>xs[j]?
@[simp] noncomputable def cutAt (n d:Nat):Option Int→Nat
  | none=>d
  | some v=>if v<0 then (v+n).toNat else min v.toNat n
@[simp] noncomputable def cutD (xs:List D) (lo hi:Option Int):List D:=(xs.drop (cutAt xs.length 0 lo)).take (cutAt xs.length xs.length hi - cutAt xs.length 0 lo)
@[simp] noncomputable def blsOf:List D→Option (List Bool)
  | []=>some []
  | .bl i::r=>(blsOf r).map (i::·)
  | _=>none
noncomputable def mnL:List Int→Option Int
  | []=>none
  | a::r=>some (r.foldl (λm x=>if x<m then x else m) a)
noncomputable def mxL:List Int→Option Int
  | []=>none
  | a::r=>some (r.foldl (λm x=>if m<x then x else m) a)
noncomputable def minD (xs:List D):Option R:=match intsOf xs with
  | some is=>(mnL is).map λm=>(false,.int m)
  | none=>none
noncomputable def biD:BI→List D→Option R
  | .len,[.tup xs]=>some (false,.int xs.length)
  | .len,[.lst xs]=>some (false,.int xs.length)
  | .abs,[.int i]=>some (false,.int (if i<0 then -i else i))
  | .min,[.int i,.int j]=>some (false,.int (if j<i then j else i))
  | .max,[.int i,.int j]=>some (false,.int (if j > i then j else i))
  | .max,[.int i,.int j,.int k]=>some (false,.int (if k > (if j > i then j else i) then k else (if j > i then j else i)))
  | .min,[.lst xs]=>minD xs
  | .max,[.lst xs]=>(intsOf xs).bind λis=>(mxL is).map λm=>(false,.int m)
  | .sum,[.lst xs]=>(intsOf xs).map λis=>(false,.int is.sum)
  | .all,[.lst xs]=>(blsOf xs).map λbs=>(false,.bl (bs.all id))
  | .sorted,[.lst xs]=>(intsOf xs).bind λis=>if is.length<64 then some (true,.lst ((srtI is).map .int)) else none
  | .sorted,[.tup xs]=>(intsOf xs).bind λis=>if is.length<64 then some (true,.lst ((srtI is).map .int)) else none
  | .any,[.lst xs]=>(blsOf xs).map λbs=>(false,.bl (bs.any id))
  | .str,[.int i]=>if i.natAbs<2^240 then some (false,.str (istr i)) else none
  | .tuple,[.lst xs]=>some (false,.tup xs)
  | .tuple,[.tup xs]=>some (false,.tup xs)
  | .list,[.lst xs]=>some (true,.lst xs)
  | .list,[.tup xs]=>some (true,.lst xs)
  | .int,[.bl b]=>some (false,.int (if b then 1 else 0))
  | .int,[.int i]=>some (false,.int i)
  | _,_=>none
@[simp] noncomputable def tyD:Ty→D→Bool
  | .int,.int _=>true
  | .int,.bl _=>true
  | .bool,.bl _=>true
  | .tuple,.tup _=>true
  | .list,.lst _=>true
  | .str,.str _=>true
  | _,_=>false
@[simp] noncomputable def isD (neg:Bool):D→D→Option R
  | .non,.non=>some (false,.bl (!neg))
  | _,.non=>some (false,.bl neg)
  | .bl a,.bl b=>some (false,.bl (if a == b then !neg else neg))
  | _,.bl _=>some (false,.bl neg)
  | _,_=>none
@[simp] noncomputable def getv (σ:En) (i:Nat):Option R:=(σ[i]?).join
noncomputable def setAll (σ:En):List Nat→List D→Option En
  | [],[]=>some σ
  | i::is,d::ds=>setAll (σ.set i (some (false,d))) is ds
  | _,_=>none
noncomputable def bindT (σ:En):Tg→D→Option En
  | .one i,d=>some (σ.set i (some (false,d)))
  | .two i j,.tup [x,y]=>some ((σ.set i (some (false,x))).set j (some (false,y)))
  | .many is,.tup ds=>setAll σ is ds
  | _,_=>none
noncomputable def rszD (a b c:Int):Int:=if c > 0 then if a<b then (b - a - 1) / c+1 else 0 else if a > b then (a - b - 1) / -c+1 else 0
@[simp] noncomputable def rngD:List D→Option (List D)
  | [.int n]=>if -(2^62)≤n∧n<2^62 then some ((List.range n.toNat).map λi=>.int (i:Nat)) else none
  | [.int a,.int b]=>some ((List.range (b - a).toNat).map λi=>.int (a+(i:Nat)))
  | [.int a,.int b,.int c]=>if -(2^62)≤a∧a<2^62∧-(2^62)≤b∧b<2^62∧c≠0∧c.natAbs<2^30 then some ((List.range (rszD a b c).toNat).map λi=>.int (a+(i:Nat) * c)) else none
  | _=>none
@[simp] noncomputable def rvD:List D→Option (List D)
  | [.int n]=>if -(2^62)≤n∧n<2^62 then some ((List.range n.toNat).map λi=>.int ((n.toNat:Int) - 1 - (i:Nat))) else none
  | _=>none
@[simp] noncomputable def seqD:D→Option (List D)
  | .lst xs=>some xs
  | .tup xs=>some xs
  | _=>none
@[simp] noncomputable def tupD:D→Option (List D)
  | .tup xs=>some xs
  | _=>none
noncomputable def enumD:Nat→List D→List D
  | _,[]=>[]
  | n,x::r=>.tup [.int (n:Nat),x]::enumD (n+1) r
noncomputable def zipD (a b:List D):List D:=List.zipWith (λx y=>.tup [x,y]) a b
noncomputable def compGo (f:En→Option R) (σ:En) (tg:Tg):List D→Option (List D)
  | []=>some []
  | x::r=>(bindT σ tg x).bind fun σ'=>(f σ').bind λy=>(compGo f σ tg r).bind λys=>some (y.2::ys)
noncomputable def fltK (a b:Option (List D)):R→Option (List D)
  | (_,.bl true)=>a
  | (_,.bl false)=>b
  | _=>none
noncomputable def compGoF (c f:En→Option R) (σ:En) (tg:Tg):List D→Option (List D)
  | []=>some []
  | x::r=>(bindT σ tg x).bind fun σ'=>(c σ').bind (fltK ((f σ').bind λy=>(compGoF c f σ tg r).bind λys=>some (y.2::ys)) (compGoF c f σ tg r))
@[simp] noncomputable def capt (σ:En) (nl:Nat) (ks:List Nat):En:=List.replicate nl none++ks.map λj=>getv σ j
@[simp] noncomputable def pkR:R→Option D
  | (false,d)=>some d
  | (true,.lst ds)=>some (.lst ds)
  | _=>none
@[simp] noncomputable def pk (σ:En) (c:C) (r:Option R):Option D:=match c with
  | .v i=>(getv σ i).bind pkR
  | _=>r.map (·.2)
@[simp] noncomputable def agR:R→Option D
  | (false,d)=>some d
  | (true,.dct _ ks)=>some (.dct false ks)
  | _=>none
@[simp] noncomputable def ag (σ:En) (c:C) (r:Option R):Option D:=match c with
  | .v i=>(getv σ i).bind agR
  | _=>r.map (·.2)
@[simp] noncomputable def inR (n:Bool):D→R→Option R
  | .int k,(true,.dct _ ks)=>some (false,.bl (if n then !(ks.any (· == k)) else ks.any (· == k)))
  | .bl b,(true,.lst ds)=>(blsOf ds).map λbs=>(false,.bl (if n then !(bs.any (· == b)) else bs.any (· == b)))
  | x,(false,d)=>inD n x d
  | _,_=>none
noncomputable def fldR (j:Nat) (f:Str):R→Option R
  | (true,.obj ns ds)=>if ns[j]?=some f then (ds[j]?).map (false,·) else none
  | _=>none
@[simp] noncomputable def oInt:D→Option (Option Int)
  | .int i=>some (some i)
  | _=>none
@[simp] noncomputable def negD:D→Option R
  | .int i=>some (false,.int (-i))
  | _=>none
@[simp] noncomputable def ixx:D→D→Option R
  | .lst xs,.int i=>(ixD xs i).map (false,·)
  | .tup xs,.int i=>(ixD xs i).map (false,·)
  | _,_=>none
@[simp] noncomputable def slx (l h:Option Int):D→Option R
  | .lst xs=>some (true,.lst (cutD xs l h))
  | .tup xs=>some (false,.tup (cutD xs l h))
  | _=>none
@[simp] noncomputable def andK (k:Option R):R→Option R
  | (_,.bl true)=>k
  | (_,.bl false)=>some (false,.bl false)
  | _=>none
@[simp] noncomputable def orK (k:Option R):R→Option R
  | (_,.bl true)=>some (false,.bl true)
  | (_,.bl false)=>k
  | _=>none
@[simp] noncomputable def notK:R→Option R
  | (_,.bl c)=>some (false,.bl (!c))
  | _=>none
noncomputable def bitL (i:Int):Int:=if i=0 then 0 else ((i.natAbs.log2+1:Nat):Int)
@[simp] noncomputable def bitD:D→Option R
  | .int i=>some (false,.int (bitL i))
  | _=>none
@[simp] noncomputable def ifK (a b:Option R):R→Option R
  | (_,.bl true)=>a
  | (_,.bl false)=>b
  | _=>none
@[simp] noncomputable def noOwn:Option R→Option R
  | some (false,d)=>some (false,d)
  | _=>none
noncomputable def arD (xs zs:List D):Ar→Option D
  | .pos i=>xs[i]?
  | .kw i=>zs[i]?
  | .dft _ d=>some d
noncomputable def plD (xs zs:List D):List Ar→Option (List D)
  | []=>some []
  | a::r=>(arD xs zs a).bind λx=>(plD xs zs r).bind λys=>some (x::ys)
section
variable (call:Nat→List D→Option R)
mutual
noncomputable def evE (σ:En):C→Option R
  | .v i=>noOwn (getv σ i)
  | .k d=>some (false,d)
  | .bin o a b=>(pk σ a (evE σ a)).bind λx=>(pk σ b (evE σ b)).bind λy=>binD o x y
  | .neg a=>(pk σ a (evE σ a)).bind negD
  | .cmp o a b=>(pk σ a (evE σ a)).bind λx=>(pk σ b (evE σ b)).bind λy=>cmpD o x y
  | .isC n a d=>(pk σ a (evE σ a)).bind λx=>isD n x d
  | .and a b=>(evE σ a).bind (andK (evE σ b))
  | .or a b=>(evE σ a).bind (orK (evE σ b))
  | .not a=>(evE σ a).bind notK
  | .ix a b=>(pk σ a (evE σ a)).bind λx=>(pk σ b (evE σ b)).bind λy=>ixx x y
  | .sl a lo hi=>(pk σ a (evE σ a)).bind λx=>(evO σ lo).bind λl=>(evO σ hi).bind λh=>slx l h x
  | .tup as=>(evA σ as).bind λxs=>if xs.length≤lim then some (false,.tup xs) else none
  | .lst as=>(evA σ as).bind λxs=>if xs.length≤lim then some (true,.lst xs) else none
  | .call f as=>(evG σ as).bind λxs=>call f xs
  | .inV n a i=>(pk σ a (evE σ a)).bind λx=>(getv σ i).bind λy=>inR n x y
  | .bi b as=>(evAP σ as).bind λxs=>biD b xs
  | .isi a t=>(pk σ a (evE σ a)).bind λx=>some (false,.bl (tyD t x))
  | .bitl a=>(pk σ a (evE σ a)).bind bitD
  | .ifx c a b=>(evE σ c).bind (ifK (evE σ a) (evE σ b))
  | .rev a=>(pk σ a (evE σ a)).bind revD
  | .join a b=>(pk σ a (evE σ a)).bind λx=>(pk σ b (evE σ b)).bind λy=>joinD x y
  | .fstr as=>(evA σ as).bind λxs=>(strsOf xs).bind λts=>(catS Str.empty ts).map λz=>(false,.str z)
  | .chn o p a b c=>(pk σ a (evE σ a)).bind λx=>(pk σ b (evE σ b)).bind λy=>(cmpD o x y).bind (andK ((pk σ c (evE σ c)).bind λz=>cmpD p y z))
  | .callP f as ks pl=>(evA σ as).bind λxs=>(evA σ ks).bind λzs=>(plD xs zs pl).bind λds=>call f ds
  | .compS e nl ks tg src=>(evE σ src).bind λx=>(seqD x.2).bind λits=>(compGo (fun σ'=>evE σ' e) (capt σ nl ks) tg its).bind λys=>some (true,.lst ys)
  | .compR e nl ks tg rs=>(evAP σ rs).bind λx=>(rngD x).bind λits=>if its.length≤lim then (compGo (fun σ'=>evE σ' e) (capt σ nl ks) tg its).bind λys=>some (true,.lst ys) else none
  | .compZ e nl ks tg a b=>(evE σ a).bind λx=>(evE σ b).bind λy=>(seqD x.2).bind λxs=>(tupD y.2).bind λys =>
      (compGo (fun σ'=>evE σ' e) (capt σ nl ks) tg (zipD xs ys)).bind λzs=>some (true,.lst zs)
  | .compE e nl ks tg a=>(evE σ a).bind λx=>(seqD x.2).bind λxs=>(compGo (fun σ'=>evE σ' e) (capt σ nl ks) tg (enumD 0 xs)).bind λzs=>some (true,.lst zs)
  | .compF e c nl ks tg src=>(evE σ src).bind λx=>(seqD x.2).bind λits=>(compGoF (fun σ'=>evE σ' c) (fun σ'=>evE σ' e) (capt σ nl ks) tg its).bind λys=>some (true,.lst ys)
  | .srtR e nl ks rs=>(evAP σ rs).bind λx=>(rngD x).bind λits=>(compGo (fun σ'=>evE σ' e) (capt σ nl ks) (.one 0) its).bind λys=>(intsOf ys).bind λis=>if 2≤is.length∧is.length<64 then some (true,.lst ((srtK is).map λk=>its.getD k .non)) else none
  | .fld i j f=>(getv σ i).bind (fldR j f)
  | .mm f ns as bs=>(evA σ as).bind λxs=>(evA σ bs).bind λys=>if xs.length=ns.length then call f (.obj ns xs::ys) else none
termination_by structural c=>c
noncomputable def evA (σ:En):List C→Option (List D)
  | []=>some []
  | a::r=>(evE σ a).bind λx=>(evA σ r).bind λxs=>some (x.2::xs)
termination_by structural c=>c
noncomputable def evAP (σ:En):List C→Option (List D)
  | []=>some []
  | a::r=>(pk σ a (evE σ a)).bind λx=>(evAP σ r).bind λxs=>some (x::xs)
termination_by structural c=>c
noncomputable def evG (σ:En):List C→Option (List D)
  | []=>some []
  | a::r=>(ag σ a (evE σ a)).bind λx=>(evG σ r).bind λxs=>some (x::xs)
termination_by structural c=>c
noncomputable def evO (σ:En):Option C→Option (Option Int)
  | none=>some none
  | some c=>(pk σ c (evE σ c)).bind oInt
termination_by structural c=>c
end
inductive Ou where|nx (σ:En)|rt (r:R)|bk (σ:En)|ct (σ:En)
@[simp] noncomputable def frz1 (σ:En) (i:Nat):En:=match getv σ i with|some (true,.lst ds)=>σ.set i (some (false,.lst ds))|_=>σ
@[simp] noncomputable def keepR (keep:Bool) (r:R):R:=(keep&&r.1,r.2)
noncomputable def forGo (f:En→Option Ou) (tg:Tg):List D→En→Option Ou
  | [],σ=>some (.nx σ)
  | x::r,σ=>(bindT σ tg x).bind fun σ1=>(f σ1).bind λo=>match o with
      | .nx σ2=>forGo f tg r σ2
      | .ct σ2=>forGo f tg r σ2
      | .bk σ2=>some (.nx σ2)
      | .rt v=>some (.rt v)
@[simp] noncomputable def iteK (a b:Option Ou):R→Option Ou
  | (_,.bl true)=>a
  | (_,.bl false)=>b
  | _=>none
@[simp] noncomputable def setIxD (σ:En) (i:Nat) (k e:D):Option Ou:=match getv σ i,k with
  | some (true,.lst xs),.int n=>(ixN xs.length n).bind λj=>some (.nx (σ.set i (some (true,.lst (xs.set j e)))))
  | some (true,.dct true ks),.int n=>match e with
    | .bl true=>if ks.length<lim then some (.nx (σ.set i (some (true,.dct true (if ks.any (· == n) then ks else ks++[n]))))) else none
    | _=>none
  | _,_=>none
@[simp] noncomputable def appD (σ:En) (i:Nat) (e:D):Option Ou:=match getv σ i with
  | some (true,.lst xs)=>if xs.length<lim then some (.nx (σ.set i (some (true,.lst (xs++[e]))))) else none
  | _=>none
@[simp] noncomputable def rtR:R→Option R
  | (false,d)=>some (false,d)
  | (true,.lst ds)=>some (true,.lst ds)
  | _=>none
@[simp] noncomputable def retv (σ:En) (c:C) (r:Option R):Option R:=match c with
  | .v i=>(getv σ i).bind rtR
  | _=>r
@[simp] noncomputable def thenK (k:En→Option Ou):Ou→Option Ou
  | .nx σ=>k σ
  | .rt r=>some (.rt r)
  | .bk σ=>some (.bk σ)
  | .ct σ=>some (.ct σ)
@[simp] noncomputable def loopK (k:En→Option Ou):Ou→Option Ou
  | .nx σ=>k σ
  | .ct σ=>k σ
  | .bk σ=>some (.nx σ)
  | .rt r=>some (.rt r)
@[simp] noncomputable def whlK (σ:En) (k:Option Ou):R→Option Ou
  | (_,.bl true)=>k
  | (_,.bl false)=>some (.nx σ)
  | _=>none
noncomputable def whlGo (c:En→Option R) (b:En→Option Ou):Nat→En→Option Ou
  | 0,_=>none
  | n+1,σ=>(c σ).bind (whlK σ ((b σ).bind (loopK (whlGo c b n))))
@[simp] noncomputable def extD (σ:En) (i:Nat):R→Option Ou
  | (true,.lst ys)=>match getv σ i with
    | some (true,.lst xs)=>if xs.length+ys.length≤lim then some (.nx (σ.set i (some (true,.lst (xs++ys))))) else none
    | _=>none
  | (false,.tup ys)=>match getv σ i with
    | some (true,.lst xs)=>if xs.length+ys.length≤lim then some (.nx (σ.set i (some (true,.lst (xs++ys))))) else none
    | _=>none
  | _=>none
@[simp] noncomputable def asgD (σ:En) (tg:Tg):R→Option Ou
  | (false,d)=>(bindT σ tg d).map .nx
  | _=>none
@[simp] noncomputable def popD (σ:En) (tg:Tg) (i:Nat):Option Ou:=match getv σ i with
  | some (true,.lst xs)=>(xs.getLast?).bind λd=>(bindT (σ.set i (some (true,.lst xs.dropLast))) tg d).map .nx
  | _=>none
@[simp] noncomputable def augD (σ:En) (i:Nat) (y:D):Option Ou:=match getv σ i,y with
  | some (false,.int a),.int b=>some (.nx (σ.set i (some (false,.int (a+b)))))
  | _,_=>none
@[simp] noncomputable def popED (σ:En) (i:Nat):Option Ou:=match getv σ i with
  | some (true,.lst xs)=>(xs.getLast?).bind λ_=>some (.nx (σ.set i (some (true,.lst xs.dropLast))))
  | _=>none
noncomputable def XO:Nat:=1000000
noncomputable def tryK (σ:En) (t:Nat) (tb:List (Str×D)):R→Option Ou
  | (false,.exc c)=>(tb.lookup c).map λd=>.nx (σ.set t (some (false,d)))
  | _=>some (.nx σ)
mutual
noncomputable def evS (σ:En):S→Option Ou
  | .frz is=>some (.nx (is.foldl frz1 σ))
  | .set i keep e=>(evE call σ e).bind λr=>some (.nx (σ.set i (some (keepR keep r))))
  | .aug i e=>(pk σ e (evE call σ e)).bind (augD σ i)
  | .popE i=>popED σ i
  | .dnew i=>some (.nx (σ.set i (some (true,.dct true []))))
  | .setIx i k e=>(evE call σ e).bind λx=>(pk σ k (evE call σ k)).bind λn=>setIxD σ i n x.2
  | .app i e=>(evE call σ e).bind λx=>appD σ i x.2
  | .ret e=>(retv σ e (evE call σ e)).bind λr=>some (.rt r)
  | .ite c a b=>(evE call σ c).bind (iteK (evSs σ a) (evSs σ b))
  | .forS tg src body=>(evE call σ src).bind λx=>(seqD x.2).bind λits=>forGo (fun σ'=>evSs σ' body) tg its σ
  | .forR tg rs body=>(evAP call σ rs).bind λx=>(rngD x).bind λits=>forGo (fun σ'=>evSs σ' body) tg its σ
  | .forV tg rs body=>(evAP call σ rs).bind λx=>(rvD x).bind λits=>forGo (fun σ'=>evSs σ' body) tg its σ
  | .ext i e=>(evE call σ e).bind (extD σ i)
  | .asgT tg e=>(evE call σ e).bind (asgD σ tg)
  | .pop tg i=>popD σ tg i
  | .whl c body=>whlGo (fun σ'=>evE call σ' c) (fun σ'=>evSs σ' body) big σ
  | .brk=>some (.bk σ)
  | .cnt=>some (.ct σ)
  | .stk=>none
  | .rse c=>some (.rt (false,.exc c))
  | .tryB i t f as tb=>if (getv σ i).isNone∧i<σ.length then (evG call σ as).bind λxs=>(call (f+XO) xs).bind (tryK σ t tb) else none
  | .forZ tg a b body=>(evE call σ a).bind λx=>(evE call σ b).bind λy=>(seqD x.2).bind λxs=>(tupD y.2).bind λys=>forGo (fun σ'=>evSs σ' body) tg (zipD xs ys) σ
  | .forE tg a body=>(evE call σ a).bind λx=>(seqD x.2).bind λxs=>forGo (fun σ'=>evSs σ' body) tg (enumD 0 xs) σ
termination_by structural c=>c
noncomputable def evSs (σ:En):List S→Option Ou
  | []=>some (.nx σ)
  | a::r=>(evS σ a).bind (thenK fun σ'=>evSs σ' r)
termination_by structural c=>c
end
end
@[simp] theorem bindT_one (σ:En) (i d):bindT σ (.one i) d=some (σ.set i (some (false,d))):=rfl
@[simp] theorem bindT_two (σ:En) (i j x y):bindT σ (.two i j) (.tup [x,y])=some ((σ.set i (some (false,x))).set j (some (false,y))):=rfl
section
variable (call:Nat→List D→Option R) (σ:En)
noncomputable def evComp (e:C) (σ:En) (tg:Tg) (its:List D):Option (List D):=compGo (fun σ'=>evE call σ' e) σ tg its
noncomputable def evCompF (c e:C) (σ:En) (tg:Tg) (its:List D):Option (List D):=compGoF (fun σ'=>evE call σ' c) (fun σ'=>evE call σ' e) σ tg its
noncomputable def evFor (body:List S) (tg:Tg) (its:List D) (σ:En):Option Ou:=forGo (fun σ'=>evSs call σ' body) tg its σ
@[simp] theorem evE_v (i):evE call σ (.v i)=noOwn (getv σ i):=rfl
@[simp] theorem evE_k (d):evE call σ (.k d)=some (false,d):=rfl
@[simp] theorem evE_bin (o a b):evE call σ (.bin o a b)=(pk σ a (evE call σ a)).bind λx=>(pk σ b (evE call σ b)).bind λy=>binD o x y:=rfl
@[simp] theorem evE_neg (a):evE call σ (.neg a)=(pk σ a (evE call σ a)).bind negD:=rfl
@[simp] theorem evE_cmp (o a b):evE call σ (.cmp o a b)=(pk σ a (evE call σ a)).bind λx=>(pk σ b (evE call σ b)).bind λy=>cmpD o x y:=rfl
@[simp] theorem evE_isC (n a d):evE call σ (.isC n a d)=(pk σ a (evE call σ a)).bind λx=>isD n x d:=rfl
@[simp] theorem evE_and (a b):evE call σ (.and a b)=(evE call σ a).bind (andK (evE call σ b)):=rfl
@[simp] theorem evE_or (a b):evE call σ (.or a b)=(evE call σ a).bind (orK (evE call σ b)):=rfl
@[simp] theorem evE_not (a):evE call σ (.not a)=(evE call σ a).bind notK:=rfl
@[simp] theorem evE_ix (a b):evE call σ (.ix a b)=(pk σ a (evE call σ a)).bind λx=>(pk σ b (evE call σ b)).bind λy=>ixx x y:=rfl
@[simp] theorem evE_sl (a lo hi):evE call σ (.sl a lo hi)=(pk σ a (evE call σ a)).bind λx=>(evO call σ lo).bind λl=>(evO call σ hi).bind λh=>slx l h x:=rfl
@[simp] theorem evE_tup (as):evE call σ (.tup as)=(evA call σ as).bind λxs=>if xs.length≤lim then some (false,.tup xs) else none:=rfl
@[simp] theorem evE_lst (as):evE call σ (.lst as)=(evA call σ as).bind λxs=>if xs.length≤lim then some (true,.lst xs) else none:=rfl
@[simp] theorem evE_call (f as):evE call σ (.call f as)=(evG call σ as).bind λxs=>call f xs:=rfl
@[simp] theorem evE_inV (n a i):evE call σ (.inV n a i)=(pk σ a (evE call σ a)).bind λx=>(getv σ i).bind λy=>inR n x y:=rfl
@[simp] theorem evG_nil:evG call σ []=some []:=rfl
@[simp] theorem evG_cons (a r):evG call σ (a::r)=(ag σ a (evE call σ a)).bind λx=>(evG call σ r).bind λxs=>some (x::xs):=rfl
@[simp] theorem evS_aug (i e):evS call σ (.aug i e)=(pk σ e (evE call σ e)).bind (augD σ i):=rfl
@[simp] theorem evS_popE (i):evS call σ (.popE i)=popED σ i:=rfl
@[simp] theorem evS_dnew (i):evS call σ (.dnew i)=some (.nx (σ.set i (some (true,.dct true [])))):=rfl
@[simp] theorem evE_bi (b as):evE call σ (.bi b as)=(evAP call σ as).bind λxs=>biD b xs:=rfl
@[simp] theorem evE_isi (a t):evE call σ (.isi a t)=(pk σ a (evE call σ a)).bind λx=>some (false,.bl (tyD t x)):=rfl
@[simp] theorem evE_bitl (a):evE call σ (.bitl a)=(pk σ a (evE call σ a)).bind bitD:=rfl
@[simp] theorem evE_ifx (c a b):evE call σ (.ifx c a b)=(evE call σ c).bind (ifK (evE call σ a) (evE call σ b)):=rfl
@[simp] theorem evE_rev (a):evE call σ (.rev a)=(pk σ a (evE call σ a)).bind revD:=rfl
@[simp] theorem evE_join (a b):evE call σ (.join a b)=(pk σ a (evE call σ a)).bind λx=>(pk σ b (evE call σ b)).bind λy=>joinD x y:=rfl
@[simp] theorem evE_fstr (as):evE call σ (.fstr as)=(evA call σ as).bind λxs=>(strsOf xs).bind λts=>(catS Str.empty ts).map λz=>(false,.str z):=rfl
@[simp] theorem evE_chn (o p a b c):evE call σ (.chn o p a b c)=(pk σ a (evE call σ a)).bind λx=>(pk σ b (evE call σ b)).bind λy=>(cmpD o x y).bind (andK ((pk σ c (evE call σ c)).bind λz=>cmpD p y z)):=rfl
@[simp] theorem evE_callP (f as ks pl):evE call σ (.callP f as ks pl)=(evA call σ as).bind λxs=>(evA call σ ks).bind λzs=>(plD xs zs pl).bind λds=>call f ds:=rfl
@[simp] theorem evE_compS (e nl ks tg src):evE call σ (.compS e nl ks tg src)=(evE call σ src).bind λx=>(seqD x.2).bind λits=>(evComp call e (capt σ nl ks) tg its).bind λys=>some (true,.lst ys):=rfl
@[simp] theorem evE_compR (e nl ks tg rs):evE call σ (.compR e nl ks tg rs)=(evAP call σ rs).bind λx=>(rngD x).bind λits=>if its.length≤lim then (evComp call e (capt σ nl ks) tg its).bind λys=>some (true,.lst ys) else none:=rfl
@[simp] theorem evE_compZ (e nl ks tg a b):evE call σ (.compZ e nl ks tg a b)=(evE call σ a).bind λx=>(evE call σ b).bind λy=>(seqD x.2).bind λxs=>(tupD y.2).bind λys =>
      (evComp call e (capt σ nl ks) tg (zipD xs ys)).bind λzs=>some (true,.lst zs):=rfl
@[simp] theorem evE_compE (e nl ks tg a):evE call σ (.compE e nl ks tg a)=(evE call σ a).bind λx=>(seqD x.2).bind λxs=>(evComp call e (capt σ nl ks) tg (enumD 0 xs)).bind λzs=>some (true,.lst zs):=rfl
@[simp] theorem evE_compF (e c nl ks tg src):evE call σ (.compF e c nl ks tg src)=(evE call σ src).bind λx=>(seqD x.2).bind λits=>(evCompF call c e (capt σ nl ks) tg its).bind λys=>some (true,.lst ys):=rfl
@[simp] theorem evE_fld (i j f):evE call σ (.fld i j f)=(getv σ i).bind (fldR j f):=rfl
@[simp] theorem evE_mm (f ns as bs):evE call σ (.mm f ns as bs)=(evA call σ as).bind λxs=>(evA call σ bs).bind λys=>if xs.length=ns.length then call f (.obj ns xs::ys) else none:=rfl
@[simp] theorem evA_nil:evA call σ []=some []:=rfl
@[simp] theorem evA_cons (a r):evA call σ (a::r)=(evE call σ a).bind λx=>(evA call σ r).bind λxs=>some (x.2::xs):=rfl
@[simp] theorem evAP_nil:evAP call σ []=some []:=rfl
@[simp] theorem evAP_cons (a r):evAP call σ (a::r)=(pk σ a (evE call σ a)).bind λx=>(evAP call σ r).bind λxs=>some (x::xs):=rfl
@[simp] theorem evO_none:evO call σ none=some none:=rfl
@[simp] theorem evO_some (c):evO call σ (some c)=(pk σ c (evE call σ c)).bind oInt:=rfl
@[simp] theorem evS_frz (is):evS call σ (.frz is)=some (.nx (is.foldl frz1 σ)):=rfl
@[simp] theorem evS_set (i keep e):evS call σ (.set i keep e)=(evE call σ e).bind λr=>some (.nx (σ.set i (some (keepR keep r)))):=rfl
@[simp] theorem evS_setIx (i k e):evS call σ (.setIx i k e)=(evE call σ e).bind λx=>(pk σ k (evE call σ k)).bind λn=>setIxD σ i n x.2:=rfl
@[simp] theorem evS_app (i e):evS call σ (.app i e)=(evE call σ e).bind λx=>appD σ i x.2:=rfl
@[simp] theorem evS_ret (e):evS call σ (.ret e)=(retv σ e (evE call σ e)).bind λr=>some (.rt r):=rfl
@[simp] theorem evS_ite (c a b):evS call σ (.ite c a b)=(evE call σ c).bind (iteK (evSs call σ a) (evSs call σ b)):=rfl
@[simp] theorem evS_forS (tg src body):evS call σ (.forS tg src body)=(evE call σ src).bind λx=>(seqD x.2).bind λits=>evFor call body tg its σ:=rfl
@[simp] theorem evS_forR (tg rs body):evS call σ (.forR tg rs body)=(evAP call σ rs).bind λx=>(rngD x).bind λits=>evFor call body tg its σ:=rfl
@[simp] theorem evS_forV (tg rs body):evS call σ (.forV tg rs body)=(evAP call σ rs).bind λx=>(rvD x).bind λits=>evFor call body tg its σ:=rfl
@[simp] theorem evS_ext (i e):evS call σ (.ext i e)=(evE call σ e).bind (extD σ i):=rfl
@[simp] theorem evS_asgT (tg e):evS call σ (.asgT tg e)=(evE call σ e).bind (asgD σ tg):=rfl
@[simp] theorem evS_pop (tg i):evS call σ (.pop tg i)=popD σ tg i:=rfl
@[simp] theorem evS_whl (c body):evS call σ (.whl c body)=whlGo (fun σ'=>evE call σ' c) (fun σ'=>evSs call σ' body) big σ:=rfl
@[simp] theorem evS_brk:evS call σ .brk=some (.bk σ):=rfl
@[simp] theorem evS_stk:evS call σ .stk=none:=rfl
@[simp] theorem evS_rse (c):evS call σ (.rse c)=some (.rt (false,.exc c)):=rfl
@[simp] theorem evS_tryB (i t f as tb):evS call σ (.tryB i t f as tb)=if (getv σ i).isNone∧i<σ.length then (evG call σ as).bind λxs=>(call (f+XO) xs).bind (tryK σ t tb) else none:=rfl
@[simp] theorem evS_cnt:evS call σ .cnt=some (.ct σ):=rfl
@[simp] theorem evS_forZ (tg a b body):evS call σ (.forZ tg a b body)=(evE call σ a).bind λx=>(evE call σ b).bind λy=>(seqD x.2).bind λxs=>(tupD y.2).bind λys=>evFor call body tg (zipD xs ys) σ:=rfl
@[simp] theorem evS_forE (tg a body):evS call σ (.forE tg a body)=(evE call σ a).bind λx=>(seqD x.2).bind λxs=>evFor call body tg (enumD 0 xs) σ:=rfl
@[simp] theorem evSs_nil:evSs call σ []=some (.nx σ):=rfl
@[simp] theorem evSs_cons (a r):evSs call σ (a::r)=(evS call σ a).bind (thenK fun σ'=>evSs call σ' r):=rfl
@[simp] theorem evFor_nil (body tg):evFor call body tg [] σ=some (.nx σ):=rfl
theorem evFor_cons (body tg x r):evFor call body tg (x::r) σ=(bindT σ tg x).bind fun σ1=>(evSs call σ1 body).bind λo=>loopK (evFor call body tg r) o:=by
  show (bindT σ tg x).bind _=(bindT σ tg x).bind _
  congr
theorem evComp_cons (e tg x r):evComp call e σ tg (x::r)=(bindT σ tg x).bind fun σ1=>(evE call σ1 e).bind λy=>(evComp call e σ tg r).bind λys=>some (y.2::ys):=rfl
theorem evCompF_cons (c e tg x r):evCompF call c e σ tg (x::r)=(bindT σ tg x).bind fun σ1=>(evE call σ1 c).bind (fltK ((evE call σ1 e).bind λy=>(evCompF call c e σ tg r).bind λys=>some (y.2::ys)) (evCompF call c e σ tg r)):=rfl
@[simp] theorem evCompF_nil (c e tg):evCompF call c e σ tg []=some []:=rfl
@[simp] theorem evComp_nil (e tg):evComp call e σ tg []=some []:=rfl
theorem evComp_map {α:Type}{e:C}{tg:Tg}(enc g:α→D):∀(l:List α),(∀x∈l,∃σ' b,bindT σ tg (enc x)=some σ'∧evE call σ' e=some (b,g x))→evComp call e σ tg (l.map enc)=some (l.map g)
  | [],_=>rfl
  | x::r,h=>by
    obtain⟨σ',b,h1,h2⟩:=h x List.mem_cons_self
    simp [evComp_cons,h1,h2,evComp_map enc g r λy hy=>h y (List.mem_cons_of_mem _ hy)]
end
theorem blsOf_map {α:Type}(f:α→Bool):∀l:List α,blsOf (l.map λx=>.bl (f x))=some (l.map f)
  | []=>rfl
  | x::r=>by simp [blsOf_map f r]
structure Fd where
  np:Nat
  ns:Nat
  body:List S
@[simp] noncomputable def endR:Ou→Option R
  | .nx _=>some (false,.non)
  | .rt r=>some r
  | _=>none
@[simp] noncomputable def agE:Bool→List D→En
  | _,[]=>[]
  | true,.dct _ _::r=>none::agE true r
  | false,.dct m ks::r=>some (true,.dct m ks)::agE true r
  | true,.obj _ _::r=>none::agE true r
  | false,.obj ns ds::r=>some (true,.obj ns ds)::agE true r
  | b,d::r=>some (false,d)::agE b r
noncomputable def runX (call:Nat→List D→Option R) (fd:Fd) (as:List D):Option R:=
  if as.length=fd.np then (evSs call (agE false as++List.replicate (fd.ns - fd.np) none) fd.body).bind endR else none
noncomputable def isX:R→Bool
  | (false,.exc _)=>true
  | _=>false
@[simp] noncomputable def noX (r:R):Option R:=if isX r then none else some r
noncomputable def runF (call:Nat→List D→Option R) (fd:Fd) (as:List D):Option R:=(runX call fd as).bind noX
noncomputable def callN (tab:List Fd):Nat→Nat→List D→Option R
  | 0,_,_=>none
  | n+1,f,as=>match tab[f]? with|some fd=>runF (callN tab n) fd as|none=>match tab[f - XO]? with|some fd=>runX (callN tab n) fd as|none=>none
theorem callN_at {tab:List Fd}{f:Nat}{fd:Fd}(h:tab[f]?=some fd) (n:Nat) (as:List D):callN tab (n+1) f as=runF (callN tab n) fd as:=by
  rw [callN,h]
theorem callX_at {tab:List Fd}{f:Nat}{fd:Fd}(h:tab[f]?=some fd) (hl:tab.length≤XO) (n:Nat) (as:List D):callN tab (n+1) (f+XO) as=runX (callN tab n) fd as:=by
  rw [callN,List.getElem?_eq_none (by omega),Nat.add_sub_cancel,h]
end Dw
namespace Dw
open PySem
structure Uc where
  f:Str
  i:Nat
  np:Nat
  ks:List Str
  pl:List Ar
structure Gx where
  defs:List (Str×Nat)
  cons:List (Str×Int):=[]
  ucal:List Uc:=[]
  meth:List (Str×Str×Nat):=[]
  flds:List (Str×Nat):=[]
  rse:List Str:=[]
  xdf:List (Str×Nat):=[]
noncomputable def biOf (x:Str) (n:Nat):Option BI:=
  if x=Str.ofString "len" then (if n=1 then some .len else none) else
  if x=Str.ofString "min" then (if n=2∨n=1 then some .min else none) else
  if x=Str.ofString "max" then (if n=2∨n=3∨n=1 then some .max else none) else
  if x=Str.ofString "sum" then (if n=1 then some .sum else none) else
  if x=Str.ofString "all" then (if n=1 then some .all else none) else
  if x=Str.ofString "tuple" then (if n=1 then some .tuple else none) else
  if x=Str.ofString "list" then (if n=1 then some .list else none) else
  none
noncomputable def tyOf (x:Str):Option Ty:=
  if x=Str.ofString "int" then some .int else
  if x=Str.ofString "bool" then some .bool else
  if x=Str.ofString "tuple" then some .tuple else
  if x=Str.ofString "list" then some .list else
  if x=Str.ofString "str" then some .str else none
noncomputable def bopOf:Operator→Option BOp
  | .Add=>some .add|.Sub=>some .sub|.Mult=>some .mul|.FloorDiv=>some .fdiv|.Mod=>some .mod|.Pow=>some .pow|.LShift=>some .shl|.RShift=>some .shr|.BitAnd=>some .band|.BitOr=>some .bor|.BitXor=>some .bxor|_=>none
noncomputable def copOf:CmpOp→Option COp
  | .Eq=>some .eq|.NotEq=>some .ne|.Lt=>some .lt|.LtE=>some .le|.Gt=>some .gt|.GtE=>some .ge|.In=>some .isin|.NotIn=>some .notin|_=>none
noncomputable def kOf:Const→Option D
  | .int i=>some (.int i)|.bool b=>some (.bl b)|.none=>some .non|.str x=>some (.str x)|_=>none
noncomputable def slotOf (N:List Str) (x:Str):Option Nat:=N.findIdx? (· == x)
noncomputable def visB (sc:Scope) (x:Str):Bool:=sc.names.lookup x == some .local||sc.names.lookup x == some .cell||sc.names.lookup x == some .free
noncomputable def glB (sc:Scope) (x:Str):Bool:=sc.names.lookup x == some .globalImplicit
noncomputable def plainName (x:Str):Bool:=x != Str.ofString "__debug__"&&x != Str.ofString "__classdict__"&&x != Str.ofString "__name__"
noncomputable def varOf (sc:Scope) (N:List Str) (x:Str):Option Nat:=if visB sc x&&plainName x then slotOf N x else none
noncomputable def capB (sc:Scope) (x:Str):Bool:=sc.names.lookup x == some .cell||sc.names.lookup x == some .free
noncomputable def capOf (sc:Scope) (N:List Str) (x:Str):Option Nat:=if capB sc x then varOf sc N x else none
noncomputable def ownN (sc:Scope):List Str:=(sc.names.filter λp=>p.2 == .local&&p.1 != Str.ofString ".0").map (·.1)
noncomputable def freeN (sc:Scope):List Str:=(sc.names.filter λp=>p.2 == .free).map (·.1)
noncomputable def scopeOk (sc:Scope):Bool:=sc.kind == .function&&sc.names.all (λp=>p.2 != .cell)&&decide ((sc.names.map (·.1)).Nodup)&&(ownN sc++freeN sc).all plainName
noncomputable def optAll {α β:Type}(f:α→Option β):List α→Option (List β)
  | []=>some []
  | a::r=>(f a).bind λx=>(optAll f r).bind λxs=>some (x::xs)
noncomputable def nmOf (sc:Scope) (N:List Str):Expr→Option Nat
  | .Name x _=>if sc.names.lookup x == some .local||sc.names.lookup x == some .cell then slotOf N x else none
  | _=>none
noncomputable def tgOf (sc:Scope) (N:List Str):Expr→Option Tg
  | .Name x _=>if sc.names.lookup x == some .local||sc.names.lookup x == some .cell then (slotOf N x).map .one else none
  | .Tuple [.Name x _,.Name y _] _ _=>if (sc.names.lookup x == some .local||sc.names.lookup x == some .cell)&&(sc.names.lookup y == some .local||sc.names.lookup y == some .cell)&&x != y then
      (slotOf N x).bind λi=>(slotOf N y).bind λj=>some (.two i j) else none
  | _=>none
noncomputable def tgM (sc:Scope) (N:List Str) (e:Expr):Option Tg:=match tgOf sc N e with
  | some t=>some t
  | none=>match e with
    | .Tuple es _ _=>(optAll (nmOf sc N) es).map .many
    | _=>none
inductive Sr where|seq (e:Expr)|rng (es:List Expr)|zip (a b:Expr)|rev (es:List Expr)|enm (a:Expr)
noncomputable def srOf (sc:Scope):Expr→Sr
  | .Call (.Name f p) as [] pos =>
    if glB sc f&&f == Str.ofString "range"&&(as.length == 1||as.length == 2||as.length == 3) then .rng as else
    if glB sc f&&f == Str.ofString "zip" then (match as with|[a,b]=>.zip a b|_=>.seq (.Call (.Name f p) as [] pos)) else
    if glB sc f&&f == Str.ofString "reversed" then (match as with
      | [.Call (.Name h _) [a] [] _]=>if glB sc h&&h == Str.ofString "range" then .rev [a] else .seq (.Call (.Name f p) as [] pos)
      | _=>.seq (.Call (.Name f p) as [] pos)) else
    if glB sc f&&f == Str.ofString "enumerate" then (match as with|[a]=>.enm a|_=>.seq (.Call (.Name f p) as [] pos)) else .seq (.Call (.Name f p) as [] pos)
  | e=>.seq e
noncomputable def isTwo:Tg→Bool
  | .two _ _=>true
  | _=>false
variable (G:Gx)
noncomputable def cGl (sc:Scope) (x:Str):Option C:=if glB sc x&&plainName x then (G.cons.lookup x).map λi=>.k (.int i) else none
mutual
noncomputable def cE:Nat→Scope→List Str→Expr→Option C
  | 0,_,_,_=>none
  | n+1,sc,N,e=>match e with
    | .Name x _=>match varOf sc N x with|some i=>some (.v i)|none=>cGl G sc x
    | .Constant c _ _=>(kOf c).map .k
    | .BinOp a op b _=>(bopOf op).bind λo=>(cE n sc N a).bind λx=>(cE n sc N b).bind λy=>some (.bin o x y)
    | .UnaryOp .USub a _=>(cE n sc N a).map .neg
    | .UnaryOp .Not a _=>(cE n sc N a).map .not
    | .BoolOp .And es _=>if 2≤es.length then cAnd n sc N es else none
    | .BoolOp .Or es _=>if 2≤es.length then cOr n sc N es else none
    | .Compare a [.Is] [.Constant c _ _] _=>(kOf c).bind λd=>(cE n sc N a).bind λx=>some (.isC false x d)
    | .Compare a [.IsNot] [.Constant c _ _] _=>(kOf c).bind λd=>(cE n sc N a).bind λx=>some (.isC true x d)
    | .Compare a [op] [b] _=>(copOf op).bind λo=>(cE n sc N a).bind λx=>(cE n sc N b).bind λy=>some (.cmp o x y)
    | .Subscript a (.Slice lo hi none _) _=>(cE n sc N a).bind λx=>(cO n sc N lo).bind λl=>(cO n sc N hi).bind λh=>some (.sl x l h)
    | .Subscript a b _=>(cE n sc N a).bind λx=>(cE n sc N b).bind λy=>some (.ix x y)
    | .Tuple es _ _=>(cEs n sc N es).map .tup
    | .List es _=>(cEs n sc N es).map .lst
    | .Call (.Name f _) as [] _=>if glB sc f&&plainName f then cCall n sc N f as else none
    | .IfExp t a b _=>(cE n sc N t).bind λc=>(cE n sc N a).bind λx=>(cE n sc N b).bind λy=>some (.ifx c x y)
    | .ListComp e [⟨tg,it,[],0⟩] sc' _ =>
      if scopeOk sc' then
        (tgOf sc' (ownN sc'++freeN sc') tg).bind λt=>(optAll (capOf sc N) (freeN sc')).bind λks=>(cE n sc' (ownN sc'++freeN sc') e).bind λc =>
          match srOf sc it with
          | .seq s=>(cE n sc N s).bind λx=>some (.compS c (ownN sc').length ks t x)
          | .rng rs=>(cEs n sc N rs).bind λxs=>some (.compR c (ownN sc').length ks t xs)
          | .zip a b=>if isTwo t then (cE n sc N a).bind λx=>(cE n sc N b).bind λy=>some (.compZ c (ownN sc').length ks t x y) else none
          | .rev _=>none
          | .enm _=>none
      else none
    | e=>cX n sc N e
noncomputable def cX:Nat→Scope→List Str→Expr→Option C
  | 0,_,_,_=>none
  | n+1,sc,N,e=>match e with
    | .ListComp e [⟨tg,it,[cd],0⟩] sc' _ =>
      if scopeOk sc' then
        (tgOf sc' (ownN sc'++freeN sc') tg).bind λt=>(optAll (capOf sc N) (freeN sc')).bind λks=>(cE n sc' (ownN sc'++freeN sc') e).bind λc=>(cE n sc' (ownN sc'++freeN sc') cd).bind λcc =>
          match srOf sc it with
          | .seq s=>(cE n sc N s).bind λx=>some (.compF c cc (ownN sc').length ks t x)
          | _=>none
      else none
    | .Compare a [o,p] [b,c] _=>(copOf o).bind λo'=>(copOf p).bind λp'=>(cE n sc N a).bind λx=>(cE n sc N b).bind λy=>(cE n sc N c).bind λz=>some (.chn o' p' x y z)
    | _=>none
noncomputable def cCall:Nat→Scope→List Str→Str→List Expr→Option C
  | 0,_,_,_,_=>none
  | n+1,sc,N,f,as=>match G.defs.lookup f with
    | some i=>if as.isEmpty then none else (cEs n sc N as).map (.call i)
    | none=>match f == Str.ofString "isinstance",as with
      | true,[a,.Name t _]=>if glB sc t&&(G.defs.lookup t).isNone then (tyOf t).bind λty=>(cE n sc N a).bind λx=>some (.isi x ty) else none
      | false,as=>(biOf f as.length).bind λb=>(cEs n sc N as).map (.bi b)
      | _,_=>none
noncomputable def cEs:Nat→Scope→List Str→List Expr→Option (List C)
  | 0,_,_,_=>none
  | n+1,sc,N,es=>match es with
    | []=>some []
    | a::r=>(cE n sc N a).bind λx=>(cEs n sc N r).bind λxs=>some (x::xs)
noncomputable def cO:Nat→Scope→List Str→Option Expr→Option (Option C)
  | 0,_,_,_=>none
  | n+1,sc,N,o=>match o with
    | none=>some none
    | some e=>(cE n sc N e).map some
noncomputable def cJ:Nat→Scope→List Str→List Expr→Option (List C)
  | 0,_,_,_=>none
  | n+1,sc,N,es=>match es with
    | []=>some []
    | .Constant (.str x) _ _::r=>(cJ n sc N r).map λxs=>.k (.str x)::xs
    | .FormattedValue e (-1) none _::r=>(cE n sc N e).bind λx=>(cJ n sc N r).bind λxs=>some (.bi .str [x]::xs)
    | _=>none
noncomputable def cAnd:Nat→Scope→List Str→List Expr→Option C
  | 0,_,_,_=>none
  | n+1,sc,N,es=>match es with
    | [a]=>cE n sc N a
    | a::b::r=>(cE n sc N a).bind λx=>(cAnd n sc N (b::r)).bind λy=>some (.and x y)
    | []=>none
noncomputable def cOr:Nat→Scope→List Str→List Expr→Option C
  | 0,_,_,_=>none
  | n+1,sc,N,es=>match es with
    | [a]=>cE n sc N a
    | a::b::r=>(cE n sc N a).bind λx=>(cOr n sc N (b::r)).bind λy=>some (.or x y)
    | []=>none
end
noncomputable def mutS:Nat→List Str→List Stmt→List Nat
  | 0,_,_=>[]
  | _+1,_,[]=>[]
  | n+1,N,st::r=>(match st with
    | .Assign [.Subscript (.Name x _) _ _] _ _=>(slotOf N x).toList
    | .Expr (.Call (.Attribute (.Name x _) m _) _ _ _) _=>if m == Str.ofString "append"||m == Str.ofString "extend"||m == Str.ofString "pop" then (slotOf N x).toList else []
    | .Assign _ (.Call (.Attribute (.Name x _) m _) _ _ _) _=>if m == Str.ofString "pop" then (slotOf N x).toList else []
    | .If _ a b _=>mutS n N a++mutS n N b
    | .For _ _ b _ _=>mutS n N b
    | .While _ b _ _=>mutS n N b
    | _=>[])++mutS n N r
noncomputable def alK (c:C) (r:List Nat):List Nat:=match c with
  | .v _=>[]
  | _=>r
mutual
noncomputable def alC:C→List Nat
  | .v i=>[i]
  | .k _=>[]
  | .bin _ a b=>alK a (alC a)++alK b (alC b)
  | .neg a=>alK a (alC a)
  | .cmp _ a b=>alK a (alC a)++alK b (alC b)
  | .isC _ a _=>alK a (alC a)
  | .inV _ a _=>alK a (alC a)
  | .and a b=>alC a++alC b
  | .or a b=>alC a++alC b
  | .not a=>alC a
  | .ix a b=>alK a (alC a)++alK b (alC b)
  | .sl a _ _=>alK a (alC a)
  | .tup as=>alCs as
  | .lst as=>alCs as
  | .call _ as=>alCs as
  | .bi _ as=>alPs as
  | .isi a _=>alK a (alC a)
  | .bitl a=>alK a (alC a)
  | .ifx c a b=>alC c++alC a++alC b
  | .rev a=>alK a (alC a)
  | .join a b=>alK a (alC a)++alK b (alC b)
  | .fstr as=>alCs as
  | .callP _ as ks _=>alCs as++alCs ks
  | .chn _ _ a b c=>alK a (alC a)++alK b (alC b)++alK c (alC c)
  | .compS e nl ks _ s=>alC s++(alC e).filterMap λj=>if nl≤j then ks[j - nl]? else none
  | .compR e nl ks _ rs=>alPs rs++(alC e).filterMap λj=>if nl≤j then ks[j - nl]? else none
  | .compZ e nl ks _ a b=>alC a++alC b++(alC e).filterMap λj=>if nl≤j then ks[j - nl]? else none
  | .compE e nl ks _ a=>alC a++(alC e).filterMap λj=>if nl≤j then ks[j - nl]? else none
  | .compF e c nl ks _ a=>alC a++(alC e++alC c).filterMap λj=>if nl≤j then ks[j - nl]? else none
  | .srtR e nl ks rs=>alPs rs++(alC e).filterMap λj=>if nl≤j then ks[j - nl]? else none
  | .fld _ _ _=>[]
  | .mm _ _ as bs=>alCs as++alCs bs
termination_by structural c=>c
noncomputable def alCs:List C→List Nat
  | []=>[]
  | a::r=>alC a++alCs r
termination_by structural c=>c
noncomputable def alPs:List C→List Nat
  | []=>[]
  | a::r=>alK a (alC a)++alPs r
termination_by structural c=>c
end
noncomputable def withF (mt:List Nat) (is:List Nat) (s:S):List S:=match is.filter (mt.contains ·) with
  | []=>[s]
  | js=>[.frz js,s]
mutual
noncomputable def cS:Nat→Scope→List Str→List Nat→Stmt→Option (List S)
  | 0,_,_,_,_=>none
  | n+1,sc,N,mt,st=>match st with
    | .Assign [.Name x _] e _=>if sc.names.lookup x == some .local||sc.names.lookup x == some .cell then (slotOf N x).bind λi=>(cE G n sc N e).bind λc=>some (withF mt (alC c) (.set i (mt.contains i) c)) else none
    | .Expr (.Call (.Attribute (.Name x _) m p2) [e] [] p3) _=>if m == Str.ofString "append"&&p2.endLine == p3.line then (varOf sc N x).bind λi=>(cE G n sc N e).bind λc=>some (withF mt (alC c) (.app i c)) else none
    | .Raise (some (.Call (.Name c _) [.Constant (.str _) _ _] [] _)) none _=>if G.rse.contains c&&glB sc c&&plainName c then some [.rse c] else some [.stk]
    | .Raise _ _ _=>some [.stk]
    | .Return (some e) _=>(cE G n sc N e).bind λc=>some (withF mt (alK c (alC c)) (.ret c))
    | .If t a b _=>(cE G n sc N t).bind λc=>(cSs n sc N mt a).bind λx=>(cSs n sc N mt b).bind λy=>some (withF mt (alC c) (.ite c x y))
    | .For tg it body [] _=>(tgM sc N tg).bind λt=>(cSs n sc N mt body).bind λb=>match srOf sc it with
      | .seq s=>(cE G n sc N s).bind λx=>some (withF mt (alC x) (.forS t x b))
      | .rng rs=>(cEs G n sc N rs).bind λxs=>some (withF mt (alPs xs) (.forR t xs b))
      | .zip _ _=>none
      | .rev _=>none
      | .enm _=>none
    | _=>none
noncomputable def cSs:Nat→Scope→List Str→List Nat→List Stmt→Option (List S)
  | 0,_,_,_,_=>none
  | n+1,sc,N,mt,st=>match st with
    | []=>some []
    | a::r=>(cS n sc N mt a).bind λx=>(cSs n sc N mt r).bind λy=>some (x++y)
end
noncomputable def namesOf (sc:Scope):List Str:=(sc.names.filter λp=>p.2 == .local||p.2 == .cell).map (·.1)
end Dw
namespace L2
open PySem PySem.Spec PyProof.Rows
noncomputable abbrev Key:=Sum Int Str
noncomputable def keyIs:Key→Value→Bool
  | .inl k,v=>Value.isInt k v
  | .inr x,v=>Value.isStrOf x v
noncomputable def keyH (w:World):Key→Int
  | .inl k=>hashInt k
  | .inr x=>hashStr w x
theorem keyIs_shape:∀{k:Key}{v:Value},keyIs k v=true→(∃i t,k=Sum.inl i∧v=Value.int i t)∨(∃x t,k=Sum.inr x∧v=Value.str x t)
  | .inl i,v,h=>by
    obtain⟨t,e⟩:=Value.isInt_shape (k:=i) (v:=v) h
    exact .inl ⟨i,t,rfl,e⟩
  | .inr x,v,h=>by
    obtain⟨t,e⟩:=Value.isStrOf_shape (x:=x) (v:=v) h
    exact .inr ⟨x,t,rfl,e⟩
theorem key_ll (a b:Int):decide ((Sum.inl a:Key)=Sum.inl b)=(a == b):=by
  by_cases e:a=b
  · subst e;simp
  · have h:¬(Sum.inl a:Key)=Sum.inl b:=λq=>e (Sum.inl.inj q)
    rw [decide_eq_false h]
    exact (beq_eq_false_iff_ne.mpr e).symm
theorem key_rr (a b:Str):decide ((Sum.inr a:Key)=Sum.inr b)=decide (a=b):=by
  by_cases e:a=b
  · subst e;simp
  · have h:¬(Sum.inr a:Key)=Sum.inr b:=λq=>e (Sum.inr.inj q)
    rw [decide_eq_false h,decide_eq_false e]
theorem key_lr (a:Int) (b:Str):decide ((Sum.inl a:Key)=Sum.inr b)=false:=decide_eq_false (λq=>nomatch q)
theorem key_rl (a:Str) (b:Int):decide ((Sum.inr a:Key)=Sum.inl b)=false:=decide_eq_false (λq=>nomatch q)
noncomputable def mixKind (prog:Program) (w:World):PySem.KeyKind prog w Key where
  is:=keyIs
  hash:=keyH w
  inj:=λv a b ha hb=>by
    rcases keyIs_shape ha with ⟨i,t,rfl,rfl⟩|⟨x,t,rfl,rfl⟩
    · rcases keyIs_shape hb with ⟨j,u,rfl,e⟩|⟨y,u,rfl,e⟩
      · injection e with e1 _;rw [e1]
      · exact nomatch e
    · rcases keyIs_shape hb with ⟨j,u,rfl,e⟩|⟨y,u,rfl,e⟩
      · exact nomatch e
      · injection e with e1 _;rw [e1]
  byValue:=λk v h=>by
    rcases keyIs_shape h with ⟨i,t,rfl,rfl⟩|⟨x,t,rfl,rfl⟩<;>rfl
  pyHash:=λhv h=>by
    rcases keyIs_shape hv with ⟨i,t,rfl,rfl⟩|⟨x,t,rfl,rfl⟩
    · exact wpAny_pyHash_int h
    · exact wpAny_pyHash_str h
  eqBool:=λhu hv h=>by
    rcases keyIs_shape hu with ⟨i,t,rfl,rfl⟩|⟨x,t,rfl,rfl⟩
    · rcases keyIs_shape hv with ⟨j,u,rfl,rfl⟩|⟨y,u,rfl,rfl⟩
      · rw [key_ll] at h;exact wpAny_eqBool_int h
      · rw [key_lr] at h;exact SeqAt.EqAt.int_str i t y u _ _ _ _ h
    · rcases keyIs_shape hv with ⟨j,u,rfl,rfl⟩|⟨y,u,rfl,rfl⟩
      · rw [key_rl] at h;exact SeqAt.EqAt.str_int x t j u _ _ _ _ h
      · rw [key_rr] at h;exact wpAny_eqBool_str h
  «strs»:=λk x t v h=>by
    rcases keyIs_shape h with ⟨i,u,rfl,e⟩|⟨y,u,rfl,e⟩
    · exact nomatch e
    · injection e with e1 _
      subst e1
      cases v<;>rfl
end L2
namespace L2
open PySem PySem.Spec PyProof.Rows
inductive V where
  | non|bl (b:Bool)|int (i:Int)|str (x:Str)|byt (b:Array UInt8)|flt (b:UInt64)|ref (a:Addr)|ty (n:String)
  deriving DecidableEq
noncomputable def RelV:V→Value→Prop
  | .non,u=>u=Value.none
  | .bl b,u=>u=Value.bool b
  | .int i,u=>∃t,u=Value.int i t
  | .str x,u=>∃t,u=Value.str x t
  | .byt b,u=>∃t,u=Value.bytes b t
  | .flt b,u=>∃t,u=Value.float b t
  | .ref a,u=>u=Value.ref a
  | .ty n,u=>u=Value.type n
noncomputable abbrev Vals:List V→List Value→Prop:=Paired RelV
theorem Vals.length {xs:List V}{us:List Value}(r:Vals xs us):xs.length=us.length:=Paired.length r
theorem Vals.get:∀{xs:List V}{us:List Value}{i:Nat}{x:V},Vals xs us→xs[i]?=some x→∃u,us[i]?=some u∧RelV x u
  | _,_,_,_,.nil,e=>by simp at e
  | _,_,0,_,.cons r _,e=>by simp at e;subst e;exact⟨_,rfl,r⟩
  | _,_,i+1,x,.cons _ t,e=>by
    obtain⟨u,h1,h2⟩:=Vals.get (i:=i) (x:=x) t (by simpa using e)
    exact⟨u,by simpa using h1,h2⟩
theorem Vals.set {x:V}{u:Value}(r:RelV x u):∀{xs:List V}{us:List Value}(i:Nat),Vals xs us→Vals (xs.set i x) (us.set i u)
  | _,_,_,.nil=>.nil
  | _,_,0,.cons _ t=>.cons r t
  | _,_,i+1,.cons q t=>.cons q (Vals.set r i t)
theorem Vals.append:∀{xs ys:List V}{us ws:List Value},Vals xs us→Vals ys ws→Vals (xs++ys) (us++ws)
  | _,_,_,_,.nil,s=>s
  | _,_,_,_,.cons r t,s=>.cons r (Vals.append t s)
theorem Vals.take:∀{xs:List V}{us:List Value}(n:Nat),Vals xs us→Vals (xs.take n) (us.take n)
  | _,_,0,_=>.nil
  | _,_,_+1,.nil=>.nil
  | _,_,n+1,.cons r t=>.cons r (Vals.take n t)
theorem Vals.drop:∀{xs:List V}{us:List Value}(n:Nat),Vals xs us→Vals (xs.drop n) (us.drop n)
  | _,_,0,r=>r
  | _,_,_+1,.nil=>.nil
  | _,_,n+1,.cons _ t=>Vals.drop n t
noncomputable def RelO:Option V→Option Value→Prop
  | some v,some u=>RelV v u
  | none,none=>True
  | _,_=>False
noncomputable def KV {κ:Type}:List (κ×V)→List (κ×Value)→Prop:=Paired λ(p:κ×V) (q:κ×Value)=>p.1=q.1∧RelV p.2 q.2
noncomputable def kV:Key→V
  | .inl i=>.int i
  | .inr x=>.str x
inductive HO where
    | lst (xs:List V)
    | tup (xs:List V)
    | dK (kvs:List (Key×V))|dT (kvs:List (List Key×V))
    | set (S:Int→Bool) (n:Nat)
    | ins (C dx:Addr) (fs:List (Str×V))
    | own (x:Addr)
    | xd (fs:List (Str×V))
    | met (f x:Addr)
    | rng (lo hi:Int)
    | frz (o:Obj) (u:HO)
    | tbl (ps:Array Value)
  | tab (pos:Pos) (q:Str)
    | ext (φ:Heap→Prop)
noncomputable abbrev Hp:=Addr→Option HO
noncomputable def upd (H:Hp) (a:Addr) (o:HO):Hp:=λb=>if b=a then some o else H b
theorem upd_same {H:Hp}{a:Addr}{o:HO}:upd H a o a=some o:=by unfold upd;rw [if_pos rfl]
theorem upd_ne {H:Hp}{a b:Addr}{o:HO}(h:b≠a):upd H a o b=H b:=by unfold upd;rw [if_neg h]
theorem upd_upd {H:Hp}{a:Addr}{o u:HO}:upd (upd H a o) a u=upd H a u:=by
  funext b;unfold upd;split<;>rfl
theorem ne_of_none {H:Hp}{a b:Addr}{o:HO}(h:H a=some o) (h':H b=none):a≠b:=by
  intro e;subst e;rw [h] at h';cases h'
section
variable (P:Program) (w:World)
noncomputable def ObjOk (H:Hp) (h:Heap) (a:Addr):HO→Prop
  | .lst xs=>xs.length≤sizeLine∧∃(its:List Value) (n:Nat),Vals xs its∧h.get? a=some { cls:=.type "list",data:=.seq its.toArray n }
  | .tup xs=>xs.length≤sizeLine∧∃its:List Value,Vals xs its∧IsTup h a its.toArray
  | .dK kvs=>kvs.length≤sizeLine∧(a == sysModules)=false∧∃vs,KV kvs vs∧h.DictOf (mixKind P w) a vs
  | .dT kvs=>kvs.length≤sizeLine∧(a == sysModules)=false∧∃xs:List (List Key×Addr×Value),
      Paired (λ(p:List Key×V) (q:List Key×Addr×Value)=>p.1=q.1∧H q.2.1=some (.tup (p.1.map kV))∧RelV p.2 q.2.2) kvs xs ∧
      ∃o es ep,h.get? a=some o∧o.ExactDict∧o.data=.dict es ep∧es.toList=xs.map (entryOfKey (tupleKind (mixKind P w)))∧(xs.map (·.1)).Nodup
  | .set S n=>h.SetOf (intKind P w) a S n
  | .ins C dx fs=>H dx=some (.own a)∧fs.length≤1000∧dx≠a∧h.get? a=some (PySem.W.instObj C dx) ∧
      ∃mA,h.Ns1 dx mA∧(∀f,RelO (fs.lookup f) (mA f))∧PySem.Within mA (fs.map (·.1))
  | .own _=>∃o,h.get? a=some o
  | .xd fs=>∃mA,h.Ns1 a mA∧∀f,RelO (fs.lookup f) (mA f)
  | .rng lo hi=>∃t u v,h.get? a=some { cls:=.type "range",data:=.fields #[.int lo t,.int hi u,.int 1 v] }
  | .frz o u=>h.get? a=some o∧ObjOk H h a u
  | .tbl ps=>h.get? a=some { cls:=.none,data:=.fields ps }
  | .met f x=>h.get? a=some (PySem.W.methodObj (.ref f) (.ref x))
  | .tab pos q=>∃ps:Array Value,h.get? a=some { cls:=.none,data:=.fields ps }∧PySem.TriplesOk ps.toList∧(PySem.codeAmong pos ps.toList=none ∨
      ∃(c:Addr) (oc:Obj) (u:HO) (vs:Array Value) (t:Tok),PySem.codeAmong pos ps.toList=some (.ref c)∧H c=some (.frz oc u)∧oc.data=.fields vs∧vs[1]?=some (.str q t))
  | .ext φ=>φ h∧(∃o,h.get? a=some o)∧∀h1 h2:Heap,φ h1→(∀o,h1.get? a=some o→h2.get? a=some o)→φ h2
noncomputable def HOk (H:Hp) (h:Heap):Prop:=∀a o,H a=some o→ObjOk P w H h a o
end
section
variable {P:Program}{w:World}{H H':Hp}{h h':Heap}{a:Addr}{o:HO}
theorem ObjOk.lt (x:ObjOk P w H h a o):a<h.objs.size:=by
  cases o with
  | lst xs=>obtain⟨_,_,_,_,e⟩:=x;exact Heap.lt_size e
  | tup xs=>obtain⟨_,_,_,p⟩:=x;exact p.lt
  | dK kvs=>obtain⟨_,_,_,_,o,_,_,e,_⟩:=x;exact Heap.lt_size e
  | dT kvs=>obtain⟨_,_,_,_,o,_,_,e,_⟩:=x;exact Heap.lt_size e
  | set S n=>obtain⟨o,_,_,_,e,_⟩:=x;exact Heap.lt_size e
  | ins C dx fs=>obtain⟨_,_,_,e,_⟩:=x;exact Heap.lt_size e
  | own y=>obtain⟨_,e⟩:=x;exact Heap.lt_size e
  | xd fs=>obtain⟨_,⟨_,_,_,e,_⟩,_⟩:=x;exact Heap.lt_size e
  | rng lo hi=>obtain⟨_,_,_,e⟩:=x;exact Heap.lt_size e
  | frz ob u=>obtain⟨e,_⟩:=x;exact Heap.lt_size e
  | tbl ps=>exact Heap.lt_size (show h.get? a=some _ from x)
  | met f y=>exact Heap.lt_size (show h.get? a=some _ from x)
  | tab pos q=>obtain⟨_,e,_⟩:=x;exact Heap.lt_size e
  | ext φ=>obtain⟨_,⟨_,e⟩,_⟩:=x;exact Heap.lt_size e
theorem Paired.mapP {α β:Type}{F G:α→β→Prop}:∀{l₁:List α}{l₂:List β},Paired F l₁ l₂→(∀a b,F a b→G a b)→Paired G l₁ l₂
  | _,_,.nil,_=>.nil
  | _,_,.cons r t,f=>.cons (f _ _ r) (Paired.mapP t f)
theorem ObjOk.stay (x:ObjOk P w H h a o) (k:∀b u,(b=a∨H b=some (.own a))→h.get? b=some u→h'.get? b=some u)
    (ho:∀b,H b=some (.own a)→H' b=some (.own a)) (ht:∀b xs,H b=some (.tup xs)→H' b=some (.tup xs)) (hf:∀b ob u,H b=some (.frz ob u)→H' b=some (.frz ob u)):ObjOk P w H' h' a o:=by
  induction o with
  | lst xs=>obtain⟨z,its,n,r,e⟩:=x;exact⟨z,its,n,r,k _ _ (.inl rfl) e⟩
  | tup xs=>obtain⟨z,its,r,ob,e,c⟩:=x;exact⟨z,its,r,ob,k _ _ (.inl rfl) e,c⟩
  | dK kvs=>obtain⟨z,y,vs,r,ob,es,ep,e,c⟩:=x;exact⟨z,y,vs,r,ob,es,ep,k _ _ (.inl rfl) e,c⟩
  | dT kvs =>
    obtain⟨z,y,xs,r,ob,es,ep,e,c⟩:=x
    exact⟨z,y,xs,Paired.mapP r λp q z=>⟨z.1,ht _ _ z.2.1,z.2.2⟩,ob,es,ep,k _ _ (.inl rfl) e,c⟩
  | set S n=>obtain⟨ob,es,ep,t,e,c⟩:=x;exact⟨ob,es,ep,t,k _ _ (.inl rfl) e,c⟩
  | ins C dx fs =>
    obtain⟨d,z,ne,e,mA,⟨od,es,ep,e2,c⟩,r⟩:=x
    exact⟨ho _ d,z,ne,k _ _ (.inl rfl) e,mA,⟨od,es,ep,k _ _ (.inr d) e2,c⟩,r⟩
  | own y=>obtain⟨ob,e⟩:=x;exact⟨ob,k _ _ (.inl rfl) e⟩
  | xd fs=>obtain⟨mA,⟨od,es,ep,e,c⟩,r⟩:=x;exact⟨mA,⟨od,es,ep,k _ _ (.inl rfl) e,c⟩,r⟩
  | rng lo hi=>obtain⟨t,u,v,e⟩:=x;exact⟨t,u,v,k _ _ (.inl rfl) e⟩
  | frz ob u ih=>obtain⟨e,q⟩:=x;exact⟨k _ _ (.inl rfl) e,ih q⟩
  | tbl ps =>
    have e:h.get? a=some { cls:=.none,data:=.fields ps }:=x
    show h'.get? a=some { cls:=.none,data:=.fields ps }
    exact k a _ (.inl rfl) e
  | met f y =>
    have e:h.get? a=some (PySem.W.methodObj (.ref f) (.ref y)):=x
    show h'.get? a=some (PySem.W.methodObj (.ref f) (.ref y))
    exact k a _ (.inl rfl) e
  | tab pos q =>
    obtain⟨ps,e,ok,r⟩:=x
    refine⟨ps,k _ _ (.inl rfl) e,ok,r.imp id ?_⟩
    rintro⟨c,oc,u,vs,t,e1,e2,e4,e5⟩
    exact⟨c,oc,u,vs,t,e1,hf _ _ _ e2,e4,e5⟩
  | ext φ=>obtain⟨p,⟨o,e⟩,st⟩:=x;exact⟨st _ _ p λo q=>k _ _ (.inl rfl) q,⟨o,k _ _ (.inl rfl) e⟩,st⟩
theorem HOk.lt (x:HOk P w H h) (e:H a=some o):a<h.objs.size:=(x a o e).lt
theorem HOk.fresh (x:HOk P w H h) (e:h.objs.size≤a):H a=none:=by
  cases q:H a with
  | none=>rfl
  | some u=>exact absurd (Nat.lt_of_lt_of_le (x.lt q) e) (Nat.lt_irrefl _)
theorem HOk.kept (x:HOk P w H h) (k:∀b u,h.get? b=some u→h'.get? b=some u):HOk P w H h':=λa o e =>
  (x a o e).stay (λb u _ q=>k b u q) (λ_ q=>q) (λ_ _ q=>q) λ_ _ _ q=>q
theorem HOk.laid (x:HOk P w H h) (k:∀b u,h.get? b=some u→h'.get? b=some u) (hp:h.objs.size≤a) (new:ObjOk P w (upd H a o) h' a o):HOk P w (upd H a o) h':=λb u e=>by
  have hn:=x.fresh hp
  by_cases hb:b=a
  · subst hb;rw [upd_same] at e;cases e;exact new
  · rw [upd_ne hb] at e
    exact (x b u e).stay (λc v _ q=>k c v q) (λc q=>by rw [upd_ne (ne_of_none q hn)];exact q) (λc xs q=>by rw [upd_ne (ne_of_none q hn)];exact q) λc ob u q=>by rw [upd_ne (ne_of_none q hn)];exact q
end
noncomputable def Rd (H:Hp) (a:Addr) (u:HO):Prop:=H a=some u∨∃o,H a=some (.frz o u)
theorem Rd.of {H:Hp}{a:Addr}{u:HO}(h:H a=some u):Rd H a u:=.inl h
theorem Rd.ok {P:Program}{w:World}{H:Hp}{h:Heap}{a:Addr}{u:HO}(r:Rd H a u) (x:HOk P w H h):ObjOk P w H h a u:=by
  rcases r with r|⟨o,r⟩
  · exact x a u r
  · obtain⟨_,q⟩:=x a _ r
    exact q
noncomputable def Mut:Option HO→Prop
  | some (.lst _)=>True
  | some (.dK _)=>True
  | some (.dT _)=>True
  | some (.set _ _)=>True
  | some (.ins _ _ _)=>True
  | some (.ext _)=>True
  | _=>False
section
variable {P:Program}{w:World}{H:Hp}{h h':Heap}{x e:Addr}{o':HO}
theorem HOk.write (ok:HOk P w H h) (mu:Mut (H x)) (he:e=x∨H e=some (.own x)) (k:∀b u,b≠e→h.get? b=some u→h'.get? b=some u) (heo:∃u,h'.get? e=some u)
    (new:ObjOk P w (upd H x o') h' x o'):HOk P w (upd H x o') h':=λb u q=>by
  have nown:∀c y,H c=some (.own y)→c≠x:=λc y r z=>by subst z;rw [r] at mu;exact mu
  have ntup:∀c xs,H c=some (.tup xs)→c≠x:=λc xs r z=>by subst z;rw [r] at mu;exact mu
  by_cases hb:b=x
  · subst hb;rw [upd_same] at q;cases q;exact new
  · rw [upd_ne hb] at q
    by_cases hbe:b=e
    · have q':H b=some (.own x):=by
        rcases he with z|z
        · exact absurd (hbe.trans z) hb
        · rw [hbe];exact z
      rw [q] at q';cases q'
      obtain⟨v,hv⟩:=heo
      exact⟨v,by rw [hbe];exact hv⟩
    · refine (ok b u q).stay (λc v hc r=>k c v ?_ r) (λc r=>by rw [upd_ne (nown c b r)];exact r) (λc xs r=>by rw [upd_ne (ntup c xs r)];exact r) λc ob u r=>by rw [upd_ne (λz=>by subst z;rw [r] at mu;exact mu)];exact r
      rcases hc with rfl|hc
      · exact hbe
      · rintro rfl
        rcases he with z|z
        · exact nown c b hc z
        · rw [hc] at z;cases z;exact hb rfl
end
structure Un (fs ex:List Addr) (H H':Hp) (h h':Heap):Prop where
  keep:∀b o,h.get? b=some o→H b=none→b∉fs→b∉ex→h'.get? b=some o
  slot:∀b o,h.get? b=some o→H b=none→b∈fs→b∉ex→∃sl,h'.get? b=some { o with slots:=sl }
  free:∀b o,h.get? b=some o→H b=none→b∉ex→H' b=none
  there:∀b o,h.get? b=some o→b∉ex→∃o',h'.get? b=some o'
  tups:∀b xs,H b=some (.tup xs)→H' b=some (.tup xs)
  frzs:∀b o u,H b=some (.frz o u)→H' b=some (.frz o u)
  tbls:∀b ps,H b=some (.tbl ps)→∃more,H' b=some (.tbl (ps++more))
section
variable {fs fs' ex ex':List Addr}{H H1 H2:Hp}{h h1 h2 h':Heap}{a x e:Addr}{o:HO}
theorem Un.any (u:Un fs ex H H1 h h1) {b:Addr}{ob:Obj}(q:h.get? b=some ob) (n:H b=none) (hx:b∉ex):∃sl,h1.get? b=some { ob with slots:=sl }:=by
  by_cases hb:b∈fs
  · exact u.slot b ob q n hb hx
  · exact⟨ob.slots,u.keep b ob q n hb hx⟩
theorem Un.trans (a:Un fs ex H H1 h h1) (b:Un fs ex H1 H2 h1 h2):Un fs ex H H2 h h2 where
  keep:=λc ob q n hc hx=>b.keep c ob (a.keep c ob q n hc hx) (a.free c ob q n hx) hc hx
  slot:=λc ob q n hc hx=>by
    obtain⟨sl,e1⟩:=a.slot c ob q n hc hx
    obtain⟨sl',e2⟩:=b.slot c _ e1 (a.free c ob q n hx) hc hx
    exact⟨sl',e2⟩
  free:=λc ob q n hx=>by
    obtain⟨o',e1⟩:=a.there c ob q hx
    exact b.free c o' e1 (a.free c ob q n hx) hx
  there:=λc ob q hx=>by
    obtain⟨o',e1⟩:=a.there c ob q hx
    exact b.there c o' e1 hx
  tups:=λc xs q=>b.tups c xs (a.tups c xs q)
  frzs:=λc ob xs q=>b.frzs c ob xs (a.frzs c ob xs q)
  tbls:=λc ps q=>by
    obtain⟨m1,e1⟩:=a.tbls c ps q
    obtain⟨m2,e2⟩:=b.tbls c _ e1
    exact⟨m1++m2,by rw [e2,Array.append_assoc]⟩
theorem Un.kept (k:∀b u,h.get? b=some u→h'.get? b=some u):Un fs ex H H h h':=
  ⟨λb ob q _ _ _=>k b ob q,λb ob q _ _ _=>⟨ob.slots,k b ob q⟩,λ_ _ _ n _=>n,λb ob q _=>⟨ob,k b ob q⟩,λ_ _ q=>q,λ_ _ _ q=>q,λ_ ps q=>⟨#[],by rw [q];simp⟩⟩
theorem Un.refl:Un fs ex H H h h:=Un.kept λ_ _ q=>q
theorem Un.laid (k:∀b u,h.get? b=some u→h'.get? b=some u) (hp:h.objs.size≤a) (hn:H a=none):Un fs ex H (upd H a o) h h' where
  keep:=λb u q _ _ _=>k b u q
  slot:=λb u q _ _ _=>⟨u.slots,k b u q⟩
  free:=λb u q n _=>by rw [upd_ne (Nat.ne_of_lt (Nat.lt_of_lt_of_le (Heap.lt_size q) hp))];exact n
  there:=λb u q _=>⟨u,k b u q⟩
  tups:=λb xs q=>by rw [upd_ne (ne_of_none q hn)];exact q
  frzs:=λb u xs q=>by rw [upd_ne (ne_of_none q hn)];exact q
  tbls:=λb ps q=>⟨#[],by rw [upd_ne (ne_of_none q hn),q];simp⟩
theorem Un.write (mu:Mut (H x)) (he:e=x∨H e=some (.own x)) (k:∀b u,b≠e→h.get? b=some u→h'.get? b=some u) (heo:∃u,h'.get? e=some u):Un fs ex H (upd H x o) h h':=by
  have hx:∀b,H b=none→b≠x:=λb n z=>by subst z;rw [n] at mu;exact mu
  have hb:∀b,H b=none→b≠e:=λb n z=>by
    subst z
    rcases he with r|r
    · exact hx b n r
    · rw [n] at r;cases r
  have hm:∀b u,H b=some u→¬Mut (some u)→b≠x:=λb u q nm z=>by subst z;rw [q] at mu;exact nm mu
  refine⟨λb u q n _ _=>k b u (hb b n) q,λb u q n _ _=>⟨u.slots,k b u (hb b n) q⟩,λb u q n _=>by rw [upd_ne (hx b n)];exact n,λb u q _=>?_,
    λb xs q=>by rw [upd_ne (hm b _ q λz=>z)];exact q,λb u xs q=>by rw [upd_ne (hm b _ q λz=>z)];exact q,λb ps q=>⟨#[],by rw [upd_ne (hm b _ q λz=>z),q];simp⟩⟩
  by_cases hbe:b=e
  · subst hbe;exact heo
  · exact⟨u,k b u hbe q⟩
theorem Un.mono (u:Un fs ex H H1 h h1) (hs:∀b∈fs,b∈fs') (hx:∀b∈ex,b∈ex'):Un fs' ex' H H1 h h1:=
  ⟨λb ob q n hb he=>u.keep b ob q n (λz=>hb (hs b z)) λz=>he (hx b z),λ_ _ q n _ he=>u.any q n λz=>he (hx _ z),λb ob q n he=>u.free b ob q n λz=>he (hx b z),λb ob q he=>u.there b ob q λz=>he (hx b z),u.tups,u.frzs,u.tbls⟩
end
noncomputable def trk (h:Heap) (H:Hp):List Addr:=(List.range h.objs.size).filter λa=>(H a).isSome
noncomputable def hidT (h:Heap) (H:Hp):Heap:=PySem.W.hideAll h (trk h H)
theorem hidT_size (h:Heap) (H:Hp):(hidT h H).objs.size=h.objs.size:=PySem.W.hideAll_size _ _
theorem hidT_get {h:Heap}{H:Hp}{b:Addr}{o:Obj}(e:h.get? b=some o) (n:H b=none):(hidT h H).get? b=some o:=
  PySem.W.hideAll_get _ e λhm=>by
    have q:(H b).isSome=true:=(List.mem_filter.mp hm).2
    rw [n] at q;simp at q
theorem of_hidT {h:Heap}{H:Hp}{b:Addr}{o:Obj}(e:(hidT h H).get? b=some o):h.get? b=some o∧H b=none:=by
  have e':h.get? b=some o:=PySem.W.of_hideAll (trk h H) e
  refine⟨e',?_⟩
  cases q:H b with
  | none=>rfl
  | some x =>
    have hm:b∈trk h H:=List.mem_filter.mpr ⟨List.mem_range.mpr (Heap.lt_size e'),by simp [q]⟩
    have z:(hidT h H).get? b=none:=PySem.W.hideAll_none (trk h H) hm
    rw [z] at e;cases e
noncomputable def allNews (g h:Heap) (L:Addr):List (Addr×Obj):=(List.range h.objs.size).filterMap λa=>if a=L∨(g.get? a).isSome=true then none else (h.get? a).map λo=>(a,o)
noncomputable def rest (g h:Heap) (L d:Addr):List (Addr×Obj):=(allNews g h L).filter λp=>decide (p.1≠d)
end L2
namespace L2
open PySem PySem.Spec PyProof.Rows
structure Mod (K:PySem.W.Frag) (mg:Str→Option Value) (base:Heap):Prop where
  kin:K.In base
  glob:base.Ns mainGlobals mg
  blt:∃mb,base.Ns builtinsNs mb∧∀x:Str,x≠"__name__"→mb x=bootBuiltins x
  nolimit:base.NoLimit
structure Cx where
  prog:Program
  w:World
  K:PySem.W.Frag
  mg:Str→Option Value
  base:Heap
  A:Around
  N:List Str
  s₀:Shared
  H₀:Hp
  env:Env
  outer:List Env
  stack:List Env
  ex:List Addr
  fn:Str→Bool
  calm:Bool
  pn:List (Addr×Obj)
  xe:Value→Shared→Prop
noncomputable def frs (l:List Env):List Addr:=l.filterMap (·.frame)
noncomputable abbrev Cx.fs (X:Cx):List Addr:=frs X.outer
noncomputable def Vis (sc:Scope) (x:Str):Prop:=sc.names.lookup x=some .local∨sc.names.lookup x=some .cell∨sc.names.lookup x=some .free
noncomputable def Loc (sc:Scope) (x:Str):Prop:=sc.names.lookup x=some .local∨sc.names.lookup x=some .cell
noncomputable def Look (env:Env) (h:Heap) (m:Str→Option Value) (x:Str) (u:Value):Prop:=
  (env.kindOf x=some .local∧m x=some u)∨((env.kindOf x=some .cell∨env.kindOf x=some .free)∧∃c,env.cells.lookup x=some c∧h.IsCell c (some u))
structure Cx.Ok (X:Cx):Prop where
  mod:Mod X.K X.mg X.base
  kind:X.env.scope.kind=.function
  glob:X.env.globals=mainGlobals
  blt:X.env.builtins=builtinsNs
  above:X.s₀.heap.objs.size≤X.env.locals
  inj:∀x y c,X.env.cells.lookup x=some c→X.env.cells.lookup y=some c→x=y
  has:∀x,(X.env.kindOf x=some .cell∨X.env.kindOf x=some .free)→∃c,X.env.cells.lookup x=some c
  cab:∀x c,X.fn x=true→X.env.cells.lookup x=some c→X.s₀.heap.objs.size≤c
  hd:X.calm=true→X.A.handled=none
  frames:X.A.frames=some X.stack
  stk:X.stack=X.outer∨(X.stack=X.env::X.outer∧X.env.frame=some X.env.locals)
  exf:∀b∈X.ex,b≠X.env.locals∧∀x c,X.env.cells.lookup x=some c→c≠b
  bs:∀b o,X.base.get? b=some o→X.s₀.heap.get? b=some o∧X.H₀ b=none
  bsz:X.base.objs.size≤X.s₀.heap.objs.size
  noex:∀b o,X.base.get? b=some o→b∉X.ex
  exfs:∀b∈X.ex,b∉X.fs
  funs:X.s₀.heap.FunFrames X.base X.outer
  frf:∀b∈X.fs,X.H₀ b=none
structure Inv (X:Cx) (pins:List (Addr×Obj)) (σ:List (Option V)) (H:Hp) (s:Shared):Prop where
  ok:X.Ok
  os:s.os=X.s₀.os
  bare:AllBare s.gens
  base:Un X.fs X.ex X.H₀ H X.s₀.heap s.heap
  loc:∃m,s.heap.Ns X.env.locals m∧∀(i:Nat) (x:Str) (v:V),X.N[i]?=some x→σ[i]?=some (some v)→Vis X.env.scope x→∃u,RelV v u∧Look X.env s.heap m x u
  cell:∀x c,X.env.cells.lookup x=some c→∃v,s.heap.IsCell c v
  free:H X.env.locals=none
  freeC:∀x c,X.env.cells.lookup x=some c→H c=none
  pin:∀p∈X.pn++pins,s.heap.get? p.1=some p.2∧H p.1=none∧p.1≠X.env.locals∧p.1∉X.fs∧∀v,p.2.data≠.cell v
  hok:HOk X.prog X.w H s.heap
  len:σ.length=X.N.length
section
variable {X:Cx}{pins:List (Addr×Obj)}{σ:List (Option V)}{H H':Hp}{s:Shared}{h':Heap}
theorem Cx.Ok.nofr (ok:X.Ok) {b:Addr}{o:Obj}(e:X.base.get? b=some o):b∉X.fs:=λhb=>by
  have:=(ok.funs.mem hb).1
  rw [e] at this;cases this
theorem Inv.bs (I:Inv X pins σ H s):∀b o,X.base.get? b=some o→s.heap.get? b=some o∧H b=none:=λb o e =>
  ⟨I.base.keep b o (I.ok.bs b o e).1 (I.ok.bs b o e).2 (I.ok.nofr e) (I.ok.noex b o e),I.base.free b o (I.ok.bs b o e).1 (I.ok.bs b o e).2 (I.ok.noex b o e)⟩
theorem Inv.bk (I:Inv X pins σ H s):∀b o,X.base.get? b=some o→s.heap.get? b=some o:=λb o e=>(I.bs b o e).1
theorem Inv.mod (I:Inv X pins σ H s):Mod X.K X.mg X.base:=I.ok.mod
theorem Inv.kIn (I:Inv X pins σ H s):X.K.In s.heap:=I.ok.mod.kin.keeps I.bk
theorem Inv.nolimit (I:Inv X pins σ H s):s.heap.NoLimit:=I.ok.mod.nolimit.keeps I.bk
theorem Inv.fr (I:Inv X pins σ H s):∃m,Fr X.base X.env.locals s.heap m:=
  let ⟨m,hn,_⟩:=I.loc
  ⟨m,hn,I.bk,Nat.le_trans I.ok.bsz I.ok.above⟩
theorem Inv.lt (I:Inv X pins σ H s):X.env.locals<s.heap.objs.size:=let ⟨_,hn,_⟩:=I.loc;hn.lt
theorem Inv.sz (I:Inv X pins σ H s):X.s₀.heap.objs.size≤s.heap.objs.size:=Nat.le_trans I.ok.above (Nat.le_of_lt I.lt)
theorem Inv.nofs (I:Inv X pins σ H s) {a:Addr}(h:s.heap.objs.size≤a):a∉X.fs:=λhb=>by
  obtain⟨_,o,ho,_⟩:=I.ok.funs.mem hb
  exact absurd (Nat.lt_of_lt_of_le (Heap.lt_size ho) (Nat.le_trans I.sz h)) (Nat.lt_irrefl _)
theorem Inv.cne (I:Inv X pins σ H s):∀x c,X.env.cells.lookup x=some c→c≠X.env.locals:=λx c e z=>by
  obtain⟨v,o,ho,hd⟩:=I.cell x c e
  obtain⟨m,⟨o',es,ep,ho',hd',_⟩,_⟩:=I.loc
  rw [z,ho'] at ho;cases ho;rw [hd'] at hd;cases hd
theorem Inv.funs (I:Inv X pins σ H s):s.heap.FunFrames X.base X.outer:=by
  have all:∀(l:List Env),(∀b∈frs l,b∈X.fs)→X.s₀.heap.FunFrames X.base l→s.heap.FunFrames X.base l:=by
    intro l
    induction l with
    | nil=>intro _ _;trivial
    | cons env r ih =>
      intro hs hl
      obtain⟨hk,⟨L,o,hf,hn,ho,hd⟩,hr⟩:=hl
      have hL:L∈X.fs:=hs L (by unfold frs;rw [List.filterMap_cons,hf];exact List.mem_cons_self)
      obtain⟨sl,e⟩:=I.base.slot L o ho (I.ok.frf L hL) hL λz=>I.ok.exfs L z hL
      exact⟨hk,⟨L,_,hf,hn,e,hd⟩,ih (λb hb=>hs b (by unfold frs;rw [List.filterMap_cons,hf];exact List.mem_cons_of_mem _ hb)) hr⟩
  exact all X.outer (λ_ hb=>hb) I.ok.funs
theorem Inv.stack (I:Inv X pins σ H s):s.heap.FunFrames X.base X.stack:=by
  rcases I.ok.stk with e|⟨e,hf⟩
  · rw [e];exact I.funs
  · rw [e]
    obtain⟨m,hn,_⟩:=I.loc
    refine .cons (by rw [I.ok.kind];decide) hf hn ?_ I.funs
    exact Heap.get?_none_of_le (Nat.le_trans I.ok.bsz I.ok.above)
theorem Inv.stkSub (I:Inv X pins σ H s):∀b∈frs X.stack,b∈X.env.locals::X.fs:=λb hb=>by
  rcases I.ok.stk with e|⟨e,hf⟩
  · rw [e] at hb;exact List.mem_cons_of_mem _ hb
  · rw [e] at hb
    unfold frs at hb
    rw [List.filterMap_cons,hf] at hb
    exact hb
theorem Inv.stkFree (I:Inv X pins σ H s):∀b∈frs X.stack,H b=none:=λb hb=>by
  rcases List.mem_cons.mp (I.stkSub b hb) with e|hb
  · rw [e];exact I.free
  · obtain⟨_,o,ho,_⟩:=I.ok.funs.mem hb
    exact I.base.free b o ho (I.ok.frf b hb) λz=>I.ok.exfs b z hb
theorem Inv.step {g':Array GenState}{t':Nat}{d':Drawn}{ch:List Addr}(I:Inv X pins σ H s)
    (hch:∀b∈ch,(b∈X.ex∨X.s₀.heap.objs.size≤b)∧b≠X.env.locals∧(∀x c,X.env.cells.lookup x=some c→c≠b)∧∀p∈X.pn++pins,p.1≠b)
    (keep:∀b o,b≠X.env.locals→b∉X.fs→b∉ch→s.heap.get? b=some o→H b=none→h'.get? b=some o)
    (slot:∀b o,b≠X.env.locals→b∈X.fs→b∉ch→s.heap.get? b=some o→H b=none→∃sl,h'.get? b=some { o with slots:=sl }) (free:∀b o,b∉ch→s.heap.get? b=some o→H b=none→H' b=none)
    (there:∀b o,b∉ch→s.heap.get? b=some o→∃o',h'.get? b=some o')
    (tups:∀b xs,H b=some (.tup xs)→H' b=some (.tup xs)) (frzs:∀b o u,H b=some (.frz o u)→H' b=some (.frz o u)) (tbls:∀b ps,H b=some (.tbl ps)→∃more,H' b=some (.tbl (ps++more)))
    (ns:∀m,s.heap.Ns X.env.locals m→h'.Ns X.env.locals m) (hok:HOk X.prog X.w H' h') (hg:AllBare g') :
    Inv X pins σ H' { s with heap:=h',gens:=g',drawn:=d',toks:=t' }:=by
  have neL:∀b o,X.s₀.heap.get? b=some o→b≠X.env.locals:=λb o e=>Nat.ne_of_lt (Nat.lt_of_lt_of_le (Heap.lt_size e) I.ok.above)
  have neC:∀b o,X.s₀.heap.get? b=some o→b∉X.ex→b∉ch:=λb o e hx hb=>by
    rcases (hch b hb).1 with z|z
    · exact hx z
    · exact absurd (Nat.lt_of_lt_of_le (Heap.lt_size e) z) (Nat.lt_irrefl _)
  have cellK:∀x c,X.env.cells.lookup x=some c→∀v,s.heap.IsCell c v→h'.IsCell c v:=λx c e v ⟨o,ho,hd⟩=>by
    have nch:c∉ch:=λz=>(hch c z).2.2.1 x c e rfl
    by_cases hc:c∈X.fs
    · obtain⟨sl,q⟩:=slot c o (I.cne x c e) hc nch ho (I.freeC x c e)
      exact⟨_,q,hd⟩
    · exact⟨o,keep c o (I.cne x c e) hc nch ho (I.freeC x c e),hd⟩
  refine⟨I.ok,I.os,hg,⟨λb o e n hb hx=>?_,λb o e n hb hx=>?_,λb o e n hx=>?_,λb o e hx=>?_,λb xs e=>tups b xs (I.base.tups b xs e),λb o xs e=>frzs b o xs (I.base.frzs b o xs e),λb ps e=>?_⟩,?_,λx c e=>?_,?_,λx c e=>?_,λp hp=>?_,hok,I.len⟩
  · exact keep b o (neL b o e) hb (neC b o e hx) (I.base.keep b o e n hb hx) (I.base.free b o e n hx)
  · obtain⟨sl,e1⟩:=I.base.slot b o e n hb hx
    obtain⟨sl',e2⟩:=slot b _ (neL b o e) hb (neC b o e hx) e1 (I.base.free b o e n hx)
    exact⟨sl',e2⟩
  · obtain⟨o',e1⟩:=I.base.there b o e hx
    exact free b o' (neC b o e hx) e1 (I.base.free b o e n hx)
  · obtain⟨o',e1⟩:=I.base.there b o e hx
    exact there b o' (neC b o e hx) e1
  · obtain⟨m1,e1⟩:=I.base.tbls b ps e
    obtain⟨m2,e2⟩:=tbls b _ e1
    exact⟨m1++m2,by rw [e2,Array.append_assoc]⟩
  · obtain⟨m,hn,hl⟩:=I.loc
    refine⟨m,ns m hn,λi x v e1 e2 e3=>?_⟩
    obtain⟨u,r,l⟩:=hl i x v e1 e2 e3
    refine⟨u,r,?_⟩
    rcases l with l|⟨k,c,e,z⟩
    · exact .inl l
    · exact .inr ⟨k,c,e,cellK x c e _ z⟩
  · obtain⟨v,z⟩:=I.cell x c e
    exact⟨v,cellK x c e v z⟩
  · obtain⟨m,⟨o,_,_,ho,_⟩,_⟩:=I.loc
    exact free _ o (λz=>(hch _ z).2.1 rfl) ho I.free
  · obtain⟨v,o,ho,hd⟩:=I.cell x c e
    exact free c o (λz=>(hch c z).2.2.1 x c e rfl) ho (I.freeC x c e)
  · obtain⟨e,n,ne,nf,d⟩:=I.pin p hp
    have nch:p.1∉ch:=λz=>(hch p.1 z).2.2.2 p hp rfl
    exact⟨keep p.1 p.2 ne nf nch e n,free p.1 p.2 nch e n,ne,nf,d⟩
theorem Inv.un {t':Nat}(I:Inv X pins σ H s) (u:Un X.fs [] H H' s.heap h') (hok:HOk X.prog X.w H' h'):Inv X pins σ H' { s with heap:=h',toks:=t' }:=by
  obtain⟨m,⟨o,es,ep,ho,r⟩,_⟩:=id I.loc
  obtain⟨sl,hL⟩:=u.any ho I.free (by simp)
  exact I.step (g':=s.gens) (d':=s.drawn) (ch:=[]) (λ_ z=>nomatch z) (λb o _ hb _ e n=>u.keep b o e n hb (by simp)) (λb o _ hb _ e n=>u.slot b o e n hb (by simp)) (λb o _ e n=>u.free b o e n (by simp)) (λb o _ e=>u.there b o e (by simp)) u.tups u.frzs u.tbls (λm' hm=>by
    obtain⟨o',es',ep',ho',r'⟩:=hm
    rw [ho] at ho';cases ho'
    exact⟨_,es',ep',hL,r'⟩) hok I.bare
theorem Inv.call {g':Array GenState}{t':Nat}{d':Drawn}{ch:List Addr}(I:Inv X pins σ H s) (u:Un (frs X.stack) ch H H' s.heap h') (hok:HOk X.prog X.w H' h') (hg:AllBare g')
    (hch:∀b∈ch,(b∈X.ex∨X.s₀.heap.objs.size≤b)∧b≠X.env.locals∧(∀x c,X.env.cells.lookup x=some c→c≠b)∧∀p∈X.pn++pins,p.1≠b) :
    Inv X pins σ H' { s with heap:=h',gens:=g',drawn:=d',toks:=t' }:=by
  obtain⟨m,⟨o,es,ep,ho,r⟩,_⟩:=id I.loc
  obtain⟨sl,hL⟩:=u.any ho I.free λz=>(hch _ z).2.1 rfl
  exact I.step (ch:=ch) hch (λb o hL hb hc e n=>u.keep b o e n (λz=>(List.mem_cons.mp (I.stkSub b z)).elim hL hb) hc) (λb o _ _ hc e n=>u.any e n hc) (λb o hc e n=>u.free b o e n hc) (λb o hc e=>u.there b o e hc) u.tups u.frzs u.tbls (λm' hm=>by
    obtain⟨o',es',ep',ho',r'⟩:=hm
    rw [ho] at ho';cases ho'
    exact⟨_,es',ep',hL,r'⟩) hok hg
theorem Inv.turned {t':Nat}{it:Addr}(I:Inv X pins σ H s) (k:∀b o,b≠it→s.heap.get? b=some o→h'.get? b=some o) (hn:H it=none) (hL:it≠X.env.locals)
    (h1:it∈X.ex∨X.s₀.heap.objs.size≤it) (h2:∀x c,X.env.cells.lookup x=some c→c≠it) (h3:∀p∈X.pn++pins,p.1≠it):Inv X pins σ H { s with heap:=h',toks:=t' }:=by
  have nit:∀b u,H b=some u→b≠it:=λb u e z=>by rw [z,hn] at e;cases e
  refine I.step (g':=s.gens) (d':=s.drawn) (ch:=[it]) (λb hb=>?_) (λb o _ _ hc e _=>k b o (λz=>hc (by simp [z])) e) (λb o _ _ hc e _=>⟨o.slots,k b o (λz=>hc (by simp [z])) e⟩) (λ_ _ _ _ n=>n)
    (λb o hc e=>⟨o,k b o (λz=>hc (by simp [z])) e⟩) (λ_ _ e=>e) (λ_ _ _ e=>e) (λb ps e=>⟨#[],by rw [e];simp⟩) (λm hm=>?_) (λb u e=>?_) I.bare
  · have e:b=it:=by simpa using hb
    subst e
    exact⟨h1,hL,h2,h3⟩
  · obtain⟨o,es,ep,ho,r⟩:=hm
    exact⟨o,es,ep,k _ o (Ne.symm hL) ho,r⟩
  · refine (I.hok b u e).stay (λc v hc q=>k c v ?_ q) (λ_ q=>q) (λ_ _ q=>q) λ_ _ _ q=>q
    rcases hc with z|z
    · rw [z];exact nit b u e
    · exact nit c _ z
theorem Inv.tok (I:Inv X pins σ H s) (t:Nat):Inv X pins σ H { s with toks:=t }:=I.un (h':=s.heap) (t':=t) Un.refl I.hok
theorem Inv.kept {t':Nat}(I:Inv X pins σ H s) (k:∀b u,s.heap.get? b=some u→h'.get? b=some u):Inv X pins σ H { s with heap:=h',toks:=t' }:=I.un (Un.kept k) (I.hok.kept k)
theorem Inv.laid {a:Addr}{o:HO}{t':Nat}(I:Inv X pins σ H s) (k:∀b u,s.heap.get? b=some u→h'.get? b=some u) (hp:s.heap.objs.size≤a) (new:ObjOk X.prog X.w (upd H a o) h' a o) :
    Inv X pins σ (upd H a o) { s with heap:=h',toks:=t' }:=I.un (Un.laid k hp (I.hok.fresh hp)) (I.hok.laid k hp new)
theorem Inv.write {x e:Addr}{o:HO}{t':Nat}(I:Inv X pins σ H s) (mu:Mut (H x)) (he:e=x∨H e=some (.own x)) (k:∀b u,b≠e→s.heap.get? b=some u→h'.get? b=some u) (heo:∃u,h'.get? e=some u)
    (new:ObjOk X.prog X.w (upd H x o) h' x o):Inv X pins σ (upd H x o) { s with heap:=h',toks:=t' }:=I.un (Un.write mu he k heo) (I.hok.write mu he k heo new)
theorem Inv.pins_of {pins':List (Addr×Obj)}(I:Inv X pins σ H s) (h:∀p∈pins',s.heap.get? p.1=some p.2∧H p.1=none∧p.1≠X.env.locals∧p.1∉X.fs∧∀v,p.2.data≠.cell v):Inv X pins' σ H s:=
  ⟨I.ok,I.os,I.bare,I.base,I.loc,I.cell,I.free,I.freeC,λp hp=>(List.mem_append.mp hp).elim (λz=>I.pin p (List.mem_append_left _ z)) (h p),I.hok,I.len⟩
theorem nodup_ix {N:List Str}(hN:N.Nodup) {i j:Nat}{x:Str}(a:N[i]?=some x) (b:N[j]?=some x):i=j:=by
  obtain⟨h1,e1⟩:=List.getElem?_eq_some_iff.mp a
  obtain⟨h2,e2⟩:=List.getElem?_eq_some_iff.mp b
  exact (List.getElem_inj hN).mp (e1.trans e2.symm)
theorem store_ok2 {M:Model}{A:Around}{E:Value→Shared→Prop}{i:Nat}{x:Str}{v:V}{u:Value}{Q:Unit→Shared→Prop}(I:Inv X pins σ H s) (hN:X.N.Nodup) (hi:X.N[i]?=some x) (hx:Loc X.env.scope x) (r:RelV v u)
    (h:∀s',Inv X pins (σ.set i (some v)) H s'→(∃a,Heap.SameBut a s.heap s'.heap∧(a=X.env.locals∨X.env.cells.lookup x=some a))→Q () s') (hf:X.fn x=true∨X.env.scope.names.lookup x=some .local:=by first|exact .inl rfl|exact .inr rfl|assumption):wpAny M A (storeName X.env x u) Q E s:=by
  obtain⟨m,hn,hl⟩:=id I.loc
  have hcls:(X.env.scope.kind == .class||(X.env.scope.kind == .module&&X.env.locals != X.env.globals))=false:=by rw [I.ok.kind];rfl
  have hiσ:i<σ.length:=by rw [I.len];exact (List.getElem?_eq_some_iff.mp hi).1
  have cne:=I.cne
  have tracked:∀{a:Addr} {h':Heap},(∃o,s.heap.get? a=some o∧H a=none)→Heap.SameBut a s.heap h'→HOk X.prog X.w H h':=λ{a h'} ha hs b ob e=>by
    obtain⟨_,_,hfree⟩:=ha
    refine (I.hok b ob e).stay (λc w' hc q=>(hs.2 c ?_).trans q) (λ_ q=>q) (λ_ _ q=>q) λ_ _ _ q=>q
    rintro rfl
    rcases hc with rfl|hc
    · rw [hfree] at e;cases e
    · rw [hfree] at hc;cases hc
  rcases hx with hk|hk
  · refine wpAny_storeName_local hk hn (λh' hn' hs=>?_) hcls
    obtain⟨oL,_,_,hoL,_⟩:=id hn
    refine h _ ⟨I.ok,I.os,I.bare,⟨λb o e n hb hx=>?_,λb o e n hb hx=>?_,I.base.free,λb o e hx=>?_,I.base.tups,I.base.frzs,I.base.tbls⟩,⟨_,hn',λj y v' e1 e2 e3=>?_⟩,λy c e=>?_,I.free,I.freeC,λp hp=>?_,tracked ⟨oL,hoL,I.free⟩ hs,by simpa using I.len⟩ ⟨_,hs,.inl rfl⟩
    · exact (hs.2 b (Nat.ne_of_lt (Nat.lt_of_lt_of_le (Heap.lt_size e) I.ok.above))).trans (I.base.keep b o e n hb hx)
    · obtain⟨sl,e1⟩:=I.base.slot b o e n hb hx
      exact⟨sl,(hs.2 b (Nat.ne_of_lt (Nat.lt_of_lt_of_le (Heap.lt_size e) I.ok.above))).trans e1⟩
    · obtain⟨o',e1⟩:=I.base.there b o e hx
      exact⟨o',(hs.2 b (Nat.ne_of_lt (Nat.lt_of_lt_of_le (Heap.lt_size e) I.ok.above))).trans e1⟩
    · by_cases hj:j=i
      · subst hj
        rw [hi] at e1;cases e1
        rw [List.getElem?_set_self hiσ] at e2
        cases e2
        exact⟨u,r,.inl ⟨hk,by simp⟩⟩
      · rw [List.getElem?_set_ne (Ne.symm hj)] at e2
        obtain⟨u',r',q⟩:=hl j y v' e1 e2 e3
        refine⟨u',r',?_⟩
        rcases q with ⟨k,e⟩|⟨k,c,e,z⟩
        · refine .inl ⟨k,?_⟩
          have:y≠x:=λe=>hj (nodup_ix hN e1 (e▸hi))
          simp [this,e]
        · exact .inr ⟨k,c,e,z.sameBut hs (cne y c e)⟩
    · obtain⟨w',z⟩:=I.cell y c e
      exact⟨w',z.sameBut hs (cne y c e)⟩
    · obtain⟨e,n,ne,nf,d⟩:=I.pin p hp
      exact⟨(hs.2 p.1 ne).trans e,n,ne,nf,d⟩
  · have hfn:X.fn x=true:=by
      rcases hf with z|z
      · exact z
      · rw [z] at hk;cases hk
    obtain⟨c,hc⟩:=I.ok.has x (.inl hk)
    obtain⟨w',z⟩:=I.cell x c hc
    refine wpAny_storeName_cell I.ok.kind hk hc z (λh' hc' hs=>?_)
    obtain⟨oc,hoc,hocd⟩:=id z
    refine h { s with heap:=h' } ⟨I.ok,I.os,I.bare,⟨λb o e n hb hx=>?_,λb o e n hb hx=>?_,I.base.free,λb o e hx=>?_,I.base.tups,I.base.frzs,I.base.tbls⟩,⟨m,hn.sameBut hs (Ne.symm (cne x c hc)),λj y v' e1 e2 e3=>?_⟩,λy c' e=>?_,I.free,I.freeC,λp hp=>?_,tracked ⟨oc,hoc,I.freeC x c hc⟩ hs,by simpa using I.len⟩ ⟨c,hs,.inr hc⟩
    · exact (hs.2 b (Nat.ne_of_lt (Nat.lt_of_lt_of_le (Heap.lt_size e) (I.ok.cab x c hfn hc)))).trans (I.base.keep b o e n hb hx)
    · obtain⟨sl,e1⟩:=I.base.slot b o e n hb hx
      exact⟨sl,(hs.2 b (Nat.ne_of_lt (Nat.lt_of_lt_of_le (Heap.lt_size e) (I.ok.cab x c hfn hc)))).trans e1⟩
    · obtain⟨o',e1⟩:=I.base.there b o e hx
      exact⟨o',(hs.2 b (Nat.ne_of_lt (Nat.lt_of_lt_of_le (Heap.lt_size e) (I.ok.cab x c hfn hc)))).trans e1⟩
    · by_cases hj:j=i
      · subst hj
        rw [hi] at e1;cases e1
        rw [List.getElem?_set_self hiσ] at e2
        cases e2
        exact⟨u,r,.inr ⟨.inl hk,c,hc,hc'⟩⟩
      · rw [List.getElem?_set_ne (Ne.symm hj)] at e2
        obtain⟨u',r',q⟩:=hl j y v' e1 e2 e3
        refine⟨u',r',?_⟩
        rcases q with q|⟨k,c',e,z'⟩
        · exact .inl q
        · refine .inr ⟨k,c',e,z'.sameBut hs ?_⟩
          rintro rfl
          exact hj (nodup_ix hN e1 (I.ok.inj _ _ _ e hc▸hi))
    · by_cases hcc:c'=c
      · subst hcc;exact⟨_,hc'⟩
      · obtain⟨w2,z2⟩:=I.cell y c' e
        exact⟨w2,z2.sameBut hs hcc⟩
    · obtain⟨e,n,ne,nf,d⟩:=I.pin p hp
      refine⟨(hs.2 p.1 ?_).trans e,n,ne,nf,d⟩
      intro q
      rw [q,hoc] at e
      have q':oc=p.2:=Option.some.inj e
      exact d w' (by rw [←q'];exact hocd)
theorem store_ok {M:Model}{A:Around}{E:Value→Shared→Prop}{i:Nat}{x:Str}{v:V}{u:Value}{Q:Unit→Shared→Prop}(I:Inv X pins σ H s) (hN:X.N.Nodup) (hi:X.N[i]?=some x) (hx:Loc X.env.scope x) (r:RelV v u)
    (h:∀s',Inv X pins (σ.set i (some v)) H s'→Q () s') (hf:X.fn x=true∨X.env.scope.names.lookup x=some .local:=by first|exact .inl rfl|exact .inr rfl|assumption):wpAny M A (storeName X.env x u) Q E s:=
  store_ok2 I hN hi hx r (λs' I' _=>h s' I') hf
theorem Inv.call' {s':Shared}{ch:List Addr}(I:Inv X pins σ H s) (ho:s'.os=s.os) (u:Un (frs X.stack) ch H H' s.heap s'.heap) (hok:HOk X.prog X.w H' s'.heap) (hg:AllBare s'.gens)
    (hch:∀b∈ch,(b∈X.ex∨X.s₀.heap.objs.size≤b)∧b≠X.env.locals∧(∀x c,X.env.cells.lookup x=some c→c≠b)∧∀p∈X.pn++pins,p.1≠b):Inv X pins σ H' s':=by
  obtain⟨h',g',d',t',o'⟩:=s'
  have e:o'=s.os:=ho
  subst e
  exact I.call (g':=g') (t':=t') (d':=d') u hok hg hch
end
noncomputable abbrev XK:=Value→Option Addr→Hp→Prop
noncomputable abbrev St:=List (Option V)
noncomputable abbrev VK:=V→Hp→Prop
noncomputable abbrev TE:=St→Hp→VK→Prop
noncomputable abbrev TT:=St→Hp→(Bool→Hp→Prop)→Prop
noncomputable abbrev TA:=St→Hp→(List V→Hp→Prop)→Prop
structure Ends where
  nx:St→Hp→Prop
  rt:VK
  bk:St→Hp→Prop:=λ_ _=>False
  ct:St→Hp→Prop:=λ_ _=>False
noncomputable abbrev TS:=Ends→St→Hp→Prop
noncomputable def EP (X:Cx) (pins:List (Addr×Obj)) (σ:St) (Q:VK) (u:Value) (s':Shared):Prop:=∃v H',Inv X pins σ H' s'∧RelV v u∧Q v H'
noncomputable def TP (X:Cx) (pins:List (Addr×Obj)) (σ:St) (Q:Bool→Hp→Prop) (b:Bool) (s':Shared):Prop:=∃H',Inv X pins σ H' s'∧Q b H'
noncomputable def AP (X:Cx) (pins:List (Addr×Obj)) (σ:St) (Q:List V→Hp→Prop) (us:List Value) (s':Shared):Prop:=∃vs H',Inv X pins σ H' s'∧Vals vs us∧Q vs H'
noncomputable def SP (X:Cx) (pins:List (Addr×Obj)) (D:Ends) (f:Flow) (s':Shared):Prop:=
  match f with
  | .next=>∃σ' H',Inv X pins σ' H' s'∧D.nx σ' H'
  | .brk=>∃σ' H',Inv X pins σ' H' s'∧D.bk σ' H'
  | .cont=>∃σ' H',Inv X pins σ' H' s'∧D.ct σ' H'
  | .ret u=>∃v σ' H',Inv X pins σ' H' s'∧RelV v u∧D.rt v H'
noncomputable def PE (X:Cx) (e:Expr) (t:TE):Prop:=
  ∀(pins:List (Addr×Obj)) (s:Shared) (σ:St) (H:Hp) (Q:VK),Inv X pins σ H s→t σ H Q→wpAny (model X.prog X.w) X.A (eval e X.env) (EP X pins σ Q) X.xe s
noncomputable def PT (X:Cx) (e:Expr) (t:TT):Prop:=
  ∀(pins:List (Addr×Obj)) (s:Shared) (σ:St) (H:Hp) (Q:Bool→Hp→Prop),Inv X pins σ H s→t σ H Q→wpAny (model X.prog X.w) X.A (isTrue e X.env (eval e X.env)) (TP X pins σ Q) X.xe s
noncomputable def PW (X:Cx) (e:Expr) (t:TT):Prop:=
  ∀(whole:Sem Value) (pins:List (Addr×Obj)) (s:Shared) (σ:St) (H:Hp) (Q:Bool→Hp→Prop),Inv X pins σ H s→t σ H Q→wpAny (model X.prog X.w) X.A (isTrue e X.env whole) (TP X pins σ Q) X.xe s
theorem PW.pt {X:Cx}{e:Expr}{t:TT}(h:PW X e t):PT X e t:=h _
noncomputable def PA (X:Cx) (es:List Expr) (t:TA):Prop:=
  ∀(pos:Pos) (pins:List (Addr×Obj)) (s:Shared) (σ:St) (H:Hp) (Q:List V→Hp→Prop),Inv X pins σ H s→t σ H Q→wpAny (model X.prog X.w) X.A (spliced (backTo pos (starEach es X.env))) (AP X pins σ Q) X.xe s
noncomputable def PS (X:Cx) (st:Stmt) (t:TS):Prop:=
  ∀(pins:List (Addr×Obj)) (s:Shared) (σ:St) (H:Hp) (D:Ends),Inv X pins σ H s→t D σ H→wpAny (model X.prog X.w) X.A (exec st X.env) (SP X pins D) X.xe s
noncomputable def PSs (X:Cx) (st:List Stmt) (t:TS):Prop:=
  ∀(pins:List (Addr×Obj)) (s:Shared) (σ:St) (H:Hp) (D:Ends),Inv X pins σ H s→t D σ H→wpAny (model X.prog X.w) X.A (execs st X.env) (SP X pins D) X.xe s
theorem thn {α:Type}{t:Sem α}{Q Q':α→Shared→Prop}{M:Model}{A:Around}{E:Value→Shared→Prop}{s:Shared}(h:wpAny M A t Q E s) (hQ:∀a s,Q a s→Q' a s):wpAny M A t Q' E s:=wpAny_mono h hQ λ_ _ x=>x
end L2
namespace L2
open PySem PySem.Spec PyProof.Rows
section
variable {X:Cx}
theorem bin {a b:Expr}{ta tb:TE}(ha:PE X a ta) (hb:PE X b tb) {pins:List (Addr×Obj)}{s:Shared}{σ:St}{H:Hp}{R:V→V→Hp→Prop}(I:Inv X pins σ H s) (h:ta σ H λx H1=>tb σ H1 λy H2=>R x y H2)
    {α:Type} {Q:α→Shared→Prop} {f:Value→Value→Sem α}
    (hf:∀v u s2 x y H2,Inv X pins σ H2 s2→RelV x v→RelV y u→R x y H2→wpAny (model X.prog X.w) X.A (f v u) Q X.xe s2) :
    wpAny (model X.prog X.w) X.A (eval a X.env) (λv s₁=>wpAny (model X.prog X.w) X.A (eval b X.env) (λu s₂=>wpAny (model X.prog X.w) X.A (f v u) Q X.xe s₂) X.xe s₁) X.xe s:=by
  refine thn (ha pins s σ H _ I h) λv s1 ⟨x,H1,I1,r1,q1⟩=>?_
  refine thn (hb pins s1 σ H1 _ I1 q1) λu s2 ⟨y,H2,I2,r2,q2⟩=>?_
  exact hf v u s2 x y H2 I2 r1 r2 q2
noncomputable def tVar (i:Nat):TE:=fun σ H Q=>∃v,σ[i]?=some (some v)∧Q v H
noncomputable def tC (v:V):TE:=λ_ H Q=>Q v H
theorem pe_var {i:Nat}{x:Str}{pos:Pos}(hN:X.N[i]?=some x) (hv:Vis X.env.scope x) (hd:(x == ("__debug__":Str))=false:=by decide) (hcd:(x == ("__classdict__":Str))=false:=by decide):PE X (.Name x pos) (tVar i):=by
  intro pins s σ H Q I h
  obtain⟨v,e,h⟩:=h
  obtain⟨m,hn,hl⟩:=I.loc
  obtain⟨u,r,l⟩:=hl i x v hN e hv
  have fin:EP X pins σ Q u s:=⟨v,H,I,r,h⟩
  rcases l with ⟨hk,hm⟩|⟨hk,c,hc,hcell⟩
  · exact wpAny_Name (wpAny_loadName_local I.ok.kind hk hn hm fin) hd
  · rcases hk with hk|hk
    · exact wpAny_Name (wpAny_loadName_cell I.ok.kind hk hc hcell fin) hd
    · exact wpAny_Name (wpAny_loadName_free I.ok.kind hk hc hcell fin hcd) hd
theorem pe_int {i j pos}:PE X (.Constant (.int i) j pos) (tC (.int i)):=λ_ _ _ H _ I h=>wpAny_Constant_int ⟨.int i,H,I.tok _,⟨_,rfl⟩,h⟩
theorem pe_bl {b j pos}:PE X (.Constant (.bool b) j pos) (tC (.bl b)):=λ_ _ _ H _ I h=>Constant_bool ⟨.bl b,H,I,rfl,h⟩
theorem pe_non {j pos}:PE X (.Constant .none j pos) (tC .non):=λ_ _ _ H _ I h=>Constant_none ⟨.non,H,I,rfl,h⟩
theorem pe_str {x j pos}:PE X (.Constant (.str x) j pos) (tC (.str x)):=λ_ _ _ H _ I h=>Calls.Constant_str ⟨.str x,H,I.tok _,⟨_,rfl⟩,h⟩
noncomputable def Gl (X:Cx) (x:Str):Prop:=X.env.kindOf x=some .globalImplicit
theorem ld_glob {E:Value→Shared→Prop}{pins:List (Addr×Obj)}{s:Shared}{σ:St}{H:Hp}{x:Str}{u:Value}{pos:Pos}{Q:Value→Shared→Prop}(I:Inv X pins σ H s) (hg:Gl X x) (hm:X.mg x=some u) (h:Q u s)
    (hd:(x == ("__debug__":Str))=false:=by decide):wpAny (model X.prog X.w) X.A (eval (.Name x pos) X.env) Q E s:=
  Calls.Name_function_global I.ok.kind hg (Calls.loadGlobal_global (by rw [I.ok.glob];exact I.mod.glob.keeps I.bk) hm h) hd
theorem ld_blt {E:Value→Shared→Prop}{pins:List (Addr×Obj)}{s:Shared}{σ:St}{H:Hp}{x:Str}{u:Value}{pos:Pos}{Q:Value→Shared→Prop}(I:Inv X pins σ H s) (hg:Gl X x) (hm:X.mg x=none) (hv:bootBuiltins x=some u) (h:Q u s)
    (hn:x≠"__name__":=by decide) (hd:(x == ("__debug__":Str))=false:=by decide):wpAny (model X.prog X.w) X.A (eval (.Name x pos) X.env) Q E s:=by
  obtain⟨mb,h1,h2⟩:=I.mod.blt
  exact Calls.Name_function_global I.ok.kind hg (Calls.loadGlobal_builtin (by rw [I.ok.glob];exact I.mod.glob.keeps I.bk) hm (by rw [I.ok.blt];exact h1.keeps I.bk) ((h2 x hn).trans hv) h) hd
theorem pe_glob {x:Str}{v:V}{u:Value}{pos:Pos}(hg:Gl X x) (hm:X.mg x=some u) (r:RelV v u) (hd:(x == ("__debug__":Str))=false:=by decide):PE X (.Name x pos) (tC v):=
  λ_ _ _ H _ I h=>ld_glob I hg hm ⟨v,H,I,r,h⟩ hd
theorem pe_bltn {x:Str}{v:V}{u:Value}{pos:Pos}(hg:Gl X x) (hm:X.mg x=none) (hv:bootBuiltins x=some u) (r:RelV v u) (hn:x≠"__name__":=by decide) (hd:(x == ("__debug__":Str))=false:=by decide):PE X (.Name x pos) (tC v):=
  λ_ _ _ H _ I h=>ld_blt I hg hm hv ⟨v,H,I,r,h⟩ hn hd
variable {a b:Expr}{ta tb:TE}{pos:Pos}
noncomputable def tB (t:TE):TT:=fun σ H Q=>t σ H λx H1=>∃c,x=.bl c∧Q c H1
theorem pt_val {e:Expr}{t:TE}(h:PE X e t) (he:∀whole,isTrue e X.env whole=(do let v ←whole;standAt e.pos;holding [v] (truthy v)):=by intro _;rfl):PT X e (tB t):=by
  intro pins s σ H Q I hw
  refine isTrue_plain (thn (h pins s σ H _ I hw) λv s1 ⟨x,H1,I1,r1,q1⟩=>?_) (he _)
  obtain⟨d,rfl,q⟩:=q1
  cases r1
  exact wpAny_truthy_bool ⟨H1,I1,q⟩
variable {tA tB':TT}{rest:List Expr}
noncomputable def tAnd (t u:TT):TT:=fun σ H Q=>t σ H λc H1=>if c=true then u σ H1 Q else Q false H1
noncomputable def tOr (t u:TT):TT:=fun σ H Q=>t σ H λc H1=>if c=true then Q true H1 else u σ H1 Q
noncomputable def tNot (t:TT):TT:=fun σ H Q=>t σ H λc H1=>Q (!c) H1
theorem pw_and1 (ha:PT X a tA):PW X (.BoolOp .And [a] pos) tA:=by
  intro wh pins s σ H Q I h
  refine isTrue_and (thn (ha pins s σ H Q I h) λc s1 e=>?_)
  cases c with
  | true=>exact isTrue_and_nil e
  | false=>exact e
theorem pw_or1 (ha:PT X a tA):PW X (.BoolOp .Or [a] pos) tA:=by
  intro wh pins s σ H Q I h
  refine isTrue_or (thn (ha pins s σ H Q I h) λc s1 e=>?_)
  cases c with
  | false=>exact isTrue_or_nil e
  | true=>exact e
theorem pw_and (ha:PT X a tA) (hb:PW X (.BoolOp .And (b::rest) pos) tB'):PW X (.BoolOp .And (a::b::rest) pos) (tAnd tA tB'):=by
  intro wh pins s σ H Q I h
  refine isTrue_and (thn (ha pins s σ H _ I h) λc s1 ⟨H1,I1,q1⟩=>?_)
  cases c with
  | true=>exact hb wh pins s1 σ H1 Q I1 q1
  | false=>exact⟨H1,I1,q1⟩
theorem pw_or (ha:PT X a tA) (hb:PW X (.BoolOp .Or (b::rest) pos) tB'):PW X (.BoolOp .Or (a::b::rest) pos) (tOr tA tB'):=by
  intro wh pins s σ H Q I h
  refine isTrue_or (thn (ha pins s σ H _ I h) λc s1 ⟨H1,I1,q1⟩=>?_)
  cases c with
  | true=>exact⟨H1,I1,q1⟩
  | false=>exact hb wh pins s1 σ H1 Q I1 q1
theorem pt_not (ha:PT X a tA):PT X (.UnaryOp .Not a pos) (tNot tA):=by
  intro pins s σ H Q I h
  exact isTrue_not (ha pins s σ H (λc H1=>Q (!c) H1) I h)
noncomputable def tAndV (ta tb:TE):TE:=fun σ H Q=>ta σ H λx H1=>∃c,x=.bl c∧if c=true then tb σ H1 Q else Q (.bl false) H1
noncomputable def tOrV (ta tb:TE):TE:=fun σ H Q=>ta σ H λx H1=>∃c,x=.bl c∧if c=true then Q (.bl true) H1 else tb σ H1 Q
noncomputable def tNotV (ta:TE):TE:=fun σ H Q=>ta σ H λx H1=>∃c,x=.bl c∧Q (.bl (!c)) H1
theorem pe_one {op}{t:TE}(h:PE X a t):PE X (.BoolOp op [a] pos) t:=λpins s σ H Q I hw=>BoolOp_one (h pins s σ H Q I hw)
theorem pe_and (ha:PE X a ta) (hb:PE X (.BoolOp .And (b::rest) pos) tb):PE X (.BoolOp .And (a::b::rest) pos) (tAndV ta tb):=by
  intro pins s σ H Q I h
  refine BoolOp_and (thn (ha pins s σ H _ I h) λv s1 ⟨x,H1,I1,r1,q1⟩=>?_)
  obtain⟨c,rfl,q1⟩:=q1
  cases r1
  refine wpAny_truthy_bool ?_
  cases c with
  | true=>exact hb pins s1 σ H1 Q I1 q1
  | false=>exact⟨.bl false,H1,I1,rfl,q1⟩
theorem pe_or (ha:PE X a ta) (hb:PE X (.BoolOp .Or (b::rest) pos) tb):PE X (.BoolOp .Or (a::b::rest) pos) (tOrV ta tb):=by
  intro pins s σ H Q I h
  refine BoolOp_or (thn (ha pins s σ H _ I h) λv s1 ⟨x,H1,I1,r1,q1⟩=>?_)
  obtain⟨c,rfl,q1⟩:=q1
  cases r1
  refine wpAny_truthy_bool ?_
  cases c with
  | false=>exact hb pins s1 σ H1 Q I1 q1
  | true=>exact⟨.bl true,H1,I1,rfl,q1⟩
theorem pe_not (ha:PE X a ta):PE X (.UnaryOp .Not a pos) (tNotV ta):=by
  intro pins s σ H Q I h
  refine UnaryOp_ (thn (ha pins s σ H _ I h) λv s1 ⟨x,H1,I1,r1,q1⟩=>?_)
  obtain⟨c,rfl,q1⟩:=q1
  cases r1
  exact not_of (wpAny_truthy_bool ⟨.bl (!c),H1,I1,rfl,q1⟩)
noncomputable def tIf (t:TT) (ta tb:TE):TE:=fun σ H Q=>t σ H λc H1=>if c=true then ta σ H1 Q else tb σ H1 Q
theorem pe_ifExp {c:Expr}(hc:PT X c tA) (ha:PE X a ta) (hb:PE X b tb):PE X (.IfExp c a b pos) (tIf tA ta tb):=by
  intro pins s σ H Q I h
  refine wpAny_IfExp (thn (hc pins s σ H _ I h) λd s1 ⟨H1,I1,q1⟩=>?_)
  cases d with
  | true=>exact ha pins s1 σ H1 Q I1 q1
  | false=>exact hb pins s1 σ H1 Q I1 q1
end
end L2
namespace L2
open PySem PySem.Spec PyProof.Rows
noncomputable def SqL (K:PySem.W.Frag) (H:Hp) (a:Addr) (xs:List V):Prop:=
  Rd H a (.lst xs) ∨
    ∃(o:Obj) (its:Array Value) (n:Nat),K.lookup a=some o∧o.cls=.type "list"∧o.dict=none∧o.data=.seq its n∧its.size≤sizeLine∧Vals xs its.toList
noncomputable def SqT (K:PySem.W.Frag) (H:Hp) (a:Addr) (xs:List V):Prop:=
  Rd H a (.tup xs) ∨
    ∃(o:Obj) (its:Array Value) (n:Nat),K.lookup a=some o∧o.cls=.type "tuple"∧o.data=.seq its n∧its.size≤sizeLine∧Vals xs its.toList
noncomputable def absV:Value→Option V
  | .none=>some .non
  | .bool b=>some (.bl b)
  | .int i _=>some (.int i)
  | .str x _=>some (.str x)
  | .bytes b _=>some (.byt b)
  | .float b _=>some (.flt b)
  | .ref a=>some (.ref a)
  | .type n=>some (.ty n)
  | _=>none
theorem RelV.abs {x:V}{u:Value}(r:RelV x u):absV u=some x:=by
  cases x with
  | non=>cases r;rfl
  | bl _=>cases r;rfl
  | int _=>obtain⟨t,rfl⟩:=r;rfl
  | str _=>obtain⟨t,rfl⟩:=r;rfl
  | byt _=>obtain⟨t,rfl⟩:=r;rfl
  | flt _=>obtain⟨t,rfl⟩:=r;rfl
  | ref _=>cases r;rfl
  | ty _=>cases r;rfl
theorem RelV.inj {x y:V}{u:Value}(r:RelV x u) (q:RelV y u):x=y:=Option.some.inj (r.abs.symm.trans q.abs)
theorem Vals.inj:∀{xs ys:List V}{us:List Value},Vals xs us→Vals ys us→xs=ys
  | _,_,_,.nil,.nil=>rfl
  | _,_,_,.cons r t,.cons r' t'=>by rw [r.inj r',Vals.inj t t']
section
variable {X:Cx}{pins:List (Addr×Obj)}{σ:St}{H:Hp}{s:Shared}{a:Addr}{xs ys:List V}
theorem SqL.of {K:PySem.W.Frag}(h:H a=some (.lst xs)):SqL K H a xs:=.inl (.inl h)
theorem SqT.of {K:PySem.W.Frag}(h:H a=some (.tup xs)):SqT K H a xs:=.inl (.inl h)
theorem Inv.list (I:Inv X pins σ H s) (h:SqL X.K H a xs):∃its:List Value,Vals xs its∧PlainL s.heap a its.toArray∧xs.length≤sizeLine:=by
  rcases h with h|⟨o,its,n,hk,hc,hd,hs,hz,r⟩
  · obtain⟨z,its,n,r,e⟩:=h.ok I.hok
    exact⟨its,r,⟨_,n,e,rfl,rfl,rfl⟩,z⟩
  · refine⟨its.toList,r,⟨o,n,I.kIn a o hk,hc,hd,by simpa using hs⟩,?_⟩
    have e:=r.length
    simp only [Array.length_toList] at e
    omega
theorem Inv.tuple (I:Inv X pins σ H s) (h:SqT X.K H a xs):∃its:List Value,Vals xs its∧IsTup s.heap a its.toArray∧xs.length≤sizeLine:=by
  rcases h with h|⟨o,its,n,hk,hc,hs,hz,r⟩
  · obtain⟨z,its,r,p⟩:=h.ok I.hok
    exact⟨its,r,p,z⟩
  · refine⟨its.toList,r,⟨o,I.kIn a o hk,hc,n,by simpa using hs⟩,?_⟩
    have e:=r.length
    simp only [Array.length_toList] at e
    omega
theorem Inv.list_inj (I:Inv X pins σ H s) (h:SqL X.K H a xs) (h':SqL X.K H a ys):xs=ys:=by
  obtain⟨its,r,⟨o,n,e,_,_,d⟩,_⟩:=I.list h
  obtain⟨its',r',⟨o',n',e',_,_,d'⟩,_⟩:=I.list h'
  rw [e] at e';cases e'
  rw [d] at d'
  injection d' with d1 _
  have:its=its':=by simpa using congrArg Array.toList d1
  subst this
  exact r.inj r'
theorem Inv.tuple_inj (I:Inv X pins σ H s) (h:SqT X.K H a xs) (h':SqT X.K H a ys):xs=ys:=by
  obtain⟨its,r,⟨o,e,_,n,d⟩,_⟩:=I.tuple h
  obtain⟨its',r',⟨o',e',_,n',d'⟩,_⟩:=I.tuple h'
  rw [e] at e';cases e'
  rw [d] at d'
  injection d' with d1 _
  have:its=its':=by simpa using congrArg Array.toList d1
  subst this
  exact r.inj r'
end
noncomputable abbrev Cx.wish (X:Cx) (E:Value→Shared→Prop):Cx:={ X with xe:=E }
noncomputable abbrev Cx.nox (X:Cx):Cx:=X.wish λ_ _=>False
theorem Cx.Ok.wish {X:Cx}(ok:X.Ok) (E:Value→Shared→Prop):(X.wish E).Ok:=
  ⟨ok.mod,ok.kind,ok.glob,ok.blt,ok.above,ok.inj,ok.has,ok.cab,ok.hd,ok.frames,ok.stk,ok.exf,ok.bs,ok.bsz,ok.noex,ok.exfs,ok.funs,ok.frf⟩
theorem Cx.Ok.unwish {X:Cx}{E:Value→Shared→Prop}(ok:(X.wish E).Ok):X.Ok:=
  ⟨ok.mod,ok.kind,ok.glob,ok.blt,ok.above,ok.inj,ok.has,ok.cab,ok.hd,ok.frames,ok.stk,ok.exf,ok.bs,ok.bsz,ok.noex,ok.exfs,ok.funs,ok.frf⟩
section
variable {X:Cx}{pins:List (Addr×Obj)}{σ:St}{H:Hp}{s:Shared}{E:Value→Shared→Prop}
theorem Inv.wish (I:Inv X pins σ H s) (E:Value→Shared→Prop):Inv (X.wish E) pins σ H s:=⟨I.ok.wish E,I.os,I.bare,I.base,I.loc,I.cell,I.free,I.freeC,I.pin,I.hok,I.len⟩
theorem Inv.unwish (I:Inv (X.wish E) pins σ H s):Inv X pins σ H s:=⟨I.ok.unwish,I.os,I.bare,I.base,I.loc,I.cell,I.free,I.freeC,I.pin,I.hok,I.len⟩
theorem SP.unwish {D:Ends}{f:Flow}{s':Shared}(h:SP (X.wish E) pins D f s'):SP X pins D f s':=by
  cases f with
  | next=>obtain⟨σ',H',I,q⟩:=h;exact⟨σ',H',I.unwish,q⟩
  | brk=>obtain⟨σ',H',I,q⟩:=h;exact⟨σ',H',I.unwish,q⟩
  | cont=>obtain⟨σ',H',I,q⟩:=h;exact⟨σ',H',I.unwish,q⟩
  | ret u=>obtain⟨v,σ',H',I,r,q⟩:=h;exact⟨v,σ',H',I.unwish,r,q⟩
theorem PE.nox {e:Expr}{t:TE}(h:PE X.nox e t):PE X e t:=λpins s σ H Q I hw =>
  wpAny_mono (h pins s σ H Q (I.wish _) hw) (λ_ _ ⟨v,H',I',r,q⟩=>⟨v,H',I'.unwish,r,q⟩) λ_ _ z=>False.elim z
theorem PT.nox {e:Expr}{t:TT}(h:PT X.nox e t):PT X e t:=λpins s σ H Q I hw =>
  wpAny_mono (h pins s σ H Q (I.wish _) hw) (λ_ _ ⟨H',I',q⟩=>⟨H',I'.unwish,q⟩) λ_ _ z=>False.elim z
theorem PSs.nox {st:List Stmt}{t:TS}(h:PSs X.nox st t):PSs X st t:=λpins s σ H D I hw =>
  wpAny_mono (h pins s σ H D (I.wish _) hw) (λ_ _ q=>q.unwish) λ_ _ z=>False.elim z
end
section
variable {X:Cx}{st:Stmt}{rest:List Stmt}{t u:TS}{e:Expr}{te:TE}{pos:Pos}
noncomputable def tNext:TS:=λD σ H=>D.nx σ H
noncomputable def tSeq (t u:TS):TS:=λD σ H=>t { D with nx:=u D } σ H
theorem pss_nil:PSs X [] tNext:=λ_ _ σ H _ I h=>wpAny_execs_nil ⟨σ,H,I,h⟩
theorem pss_cons (h1:PS X st t) (h2:PSs X rest u):PSs X (st::rest) (tSeq t u):=by
  intro pins s σ H D I h
  refine wpAny_execs_cons (thn (h1 pins s σ H { D with nx:=u D } I h) λf s1 q=>?_)
  cases f with
  | next =>
    obtain⟨σ',H',I',q⟩:=q
    exact h2 pins s1 σ' H' D I' q
  | ret v=>exact q
  | brk=>exact q
  | cont=>exact q
theorem pss_one (h1:PS X st t):PSs X [st] t:=by
  intro pins s σ H D I h
  refine wpAny_execs_cons (thn (h1 pins s σ H D I h) λf s1 q=>?_)
  cases f with
  | next=>exact wpAny_execs_nil q
  | ret v=>exact q
  | brk=>exact q
  | cont=>exact q
theorem Inv.quiet {pins:List (Addr×Obj)}{σ:St}{H:Hp}{s:Shared}(I:Inv X pins σ H s):interactive X.env=false:=by simp [interactive,I.ok.kind]
noncomputable def tDrop (te:TE):TS:=λD σ H=>te σ H λ_ H1=>D.nx σ H1
theorem ps_expr (he:PE X e te) (hs:swapsWith e none pos.line X.env=pure false:=by rfl):PS X (.Expr e pos) (tDrop te):=by
  intro pins s σ H D I h
  exact wpAny_Expr_any (thn (he pins s σ H _ I h) λv s1 ⟨x,H1,I1,r1,q1⟩=>⟨σ,H1,I1,q1⟩) I.quiet hs
noncomputable def tRet (te:TE):TS:=λD σ H=>te σ H D.rt
theorem ps_ret (he:PE X e te):PS X (.Return (some e) pos) (tRet te):=by
  intro pins s σ H D I h
  exact wpAny_Return_some (thn (he pins s σ H _ I h) λv s1 ⟨x,H1,I1,r1,q1⟩=>⟨x,σ,H1,I1,r1,q1⟩)
noncomputable def tIfS (c:TT) (t u:TS):TS:=λD σ H=>c σ H λb H1=>if b=true then t D σ H1 else u D σ H1
theorem ps_if {c:Expr}{a b:List Stmt}{tc:TT}(hc:PT X c tc) (ha:PSs X a t) (hb:PSs X b u):PS X (.If c a b pos) (tIfS tc t u):=by
  intro pins s σ H D I h
  refine wpAny_If (thn (hc pins s σ H _ I h) λd s1 ⟨H1,I1,q1⟩=>?_)
  cases d with
  | true=>exact ha pins s1 σ H1 D I1 q1
  | false=>exact hb pins s1 σ H1 D I1 q1
end
noncomputable abbrev TG:=V→St→Hp→(St→Hp→Prop)→Prop
noncomputable abbrev TGs:=List V→St→Hp→(St→Hp→Prop)→Prop
noncomputable def PG (X:Cx) (target:Expr) (t:TG):Prop:=
  ∀(pins:List (Addr×Obj)) (s:Shared) (σ:St) (H:Hp) (v:V) (u:Value) (Q:St→Hp→Prop),Inv X pins σ H s→RelV v u→t v σ H Q →
    wpAny (model X.prog X.w) X.A (assign target X.env u) (λ_ s'=>∃σ' H',Inv X pins σ' H' s'∧Q σ' H') X.xe s
noncomputable def PGs (X:Cx) (ts:List Expr) (t:TGs):Prop:=
  ∀(pins:List (Addr×Obj)) (s:Shared) (σ:St) (H:Hp) (vs:List V) (us:List Value) (Q:St→Hp→Prop),Inv X pins σ H s→Vals vs us→t vs σ H Q →
    wpAny (model X.prog X.w) X.A (assignInOrder ((assignEach ts X.env).map (·.2)) us) (λ_ s'=>∃σ' H',Inv X pins σ' H' s'∧Q σ' H') X.xe s
section
variable {X:Cx}{pos:Pos}
noncomputable def gName (i:Nat):TG:=λv σ H Q=>Q (σ.set i (some v)) H
theorem pg_name {i:Nat}{x:Str}(hN:X.N.Nodup) (hi:X.N[i]?=some x) (hx:Loc X.env.scope x) (hf:X.fn x=true∨X.env.scope.names.lookup x=some .local:=by first|exact .inl rfl|exact .inr rfl|assumption):PG X (.Name x pos) (gName i):=by
  intro pins s σ H v u Q I r h
  exact wpAny_assign_Name (store_ok I hN hi hx r (λs' I'=>⟨_,H,I',h⟩) hf)
noncomputable def gNil:TGs:=λvs σ H Q=>vs=[]∧Q σ H
noncomputable def gCons (t:TG) (u:TGs):TGs:=λvs σ H Q=>∃v r,vs=v::r∧t v σ H fun σ' H'=>u r σ' H' Q
theorem pgs_nil:PGs X [] gNil:=by
  intro pins s σ H vs us Q I r h
  obtain⟨e,h⟩:=h
  subst e
  cases r
  exact assignInOrder_nil ⟨σ,H,I,h⟩
theorem pgs_cons {e:Expr}{es:List Expr}{t:TG}{u:TGs}(h1:PG X e t) (h2:PGs X es u)
    (hs:(assignEach (e::es) X.env).map (·.2)=assign e X.env::(assignEach es X.env).map (·.2):=by rfl):PGs X (e::es) (gCons t u):=by
  intro pins s σ H vs us Q I r h
  obtain⟨v,vr,e1,h⟩:=h
  subst e1
  cases r with
  | cons r rr =>
    rw [hs]
    refine assignInOrder_cons (thn (h1 pins s σ H _ _ _ I r h) λ_ s1 ⟨σ1,H1,I1,q1⟩=>?_)
    exact h2 pins s1 σ1 H1 _ _ Q I1 rr q1
noncomputable def gTup (K:PySem.W.Frag) (n:Nat) (t:TGs):TG:=λv σ H Q=>∃a xs,v=.ref a∧SqT K H a xs∧xs.length=n∧t xs σ H Q
theorem pg_tup {es:List Expr}{k:Nat}{t:TGs}{n:Nat}(hc:X.calm=true) (h:PGs X es t)
    (hn:(assignEach es X.env).length=n:=by rfl) (hst:(assignEach es X.env).findIdx? (·.1)=none:=by rfl):PG X (.Tuple es k pos) (gTup X.K n t):=by
  intro pins s σ H v u Q I r hw
  obtain⟨a,xs,e1,hq,hl,hw⟩:=hw
  subst e1
  cases r
  obtain⟨its,rv,ht,hz⟩:=I.tuple hq
  refine assign_Tuple_tuple (I.ok.hd hc) ht (by simp [hn,←hl,rv.length]) hst λh' hx=>?_
  have I1:Inv X pins σ H { s with heap:=h' }:=I.kept (t':=s.toks) λb o e=>hx b o (Nat.ne_of_lt (Heap.lt_size e)) e
  exact h pins _ σ H xs _ Q I1 (by simpa using rv) hw
noncomputable def tAsg (te:TE) (g:TG):TS:=λD σ H=>te σ H λx H1=>g x σ H1 D.nx
theorem ps_set {i:Nat}{x:Str}{e:Expr}{te:TE}{pos':Pos}(hN:X.N.Nodup) (hi:X.N[i]?=some x) (hx:Loc X.env.scope x) (he:PE X e te) (hs:swapsWith e (some (.Name x pos')) pos.line X.env=pure false:=by rfl) (hf:X.fn x=true∨X.env.scope.names.lookup x=some .local:=by first|exact .inl rfl|exact .inr rfl|assumption) :
    PS X (.Assign [.Name x pos'] e pos) (tAsg te (gName i)):=by
  intro pins s σ H D I h
  refine wpAny_Assign_Name (thn (he pins s σ H _ I h) λv s1 ⟨y,H1,I1,r1,q1⟩=>?_) hs
  exact store_ok I1 hN hi hx r1 (λs2 I2=>⟨_,H1,I2,q1⟩) hf
end
section
variable {X:Cx}{pos:Pos}
end
structure It where
  go:Nat→Hp→Prop
  yld:Nat→Hp→V→Hp→Prop
  stop:Nat→Hp→Prop
noncomputable def FpOk (X:Cx) (pins:List (Addr×Obj)) (H:Hp) (b:Addr):Prop:=
  H b=none∧b≠X.env.locals∧b∉X.fs∧(b∈X.ex∨X.s₀.heap.objs.size≤b)∧(∀x c,X.env.cells.lookup x=some c→c≠b)∧∀p∈X.pn++pins,p.1≠b
theorem Inv.fpOk {X:Cx}{pins:List (Addr×Obj)}{σ:St}{H H':Hp}{s:Shared}{b:Addr}(I:Inv X pins σ H s) (hb:s.heap.objs.size≤b) (hn:H' b=none):FpOk X pins H' b:=by
  refine⟨hn,Nat.ne_of_gt (Nat.lt_of_lt_of_le I.lt hb),I.nofs hb,.inr (Nat.le_trans I.sz hb),λx c e z=>?_,λp hp z=>?_⟩
  · obtain⟨v,q⟩:=I.cell x c e
    exact absurd (Nat.lt_of_lt_of_le q.lt (by rw [z];exact hb)) (Nat.lt_irrefl _)
  · exact absurd (Nat.lt_of_lt_of_le (Heap.lt_size (I.pin p hp).1) (by rw [z];exact hb)) (Nat.lt_irrefl _)
structure Turn (P:Program) (w:World) (K:PySem.W.Frag) (tg:Expr) (J:It) (fp:List Addr) (it:Addr) (tn:Nat→Heap→Prop):Prop where
  mem:it∈fp
  obj:∀i h,tn i h→∀b∈fp,∃o,h.get? b=some o∧∀v,o.data≠.cell v
  keep:∀i h h',tn i h→(∀b∈fp,∀o,h.get? b=some o→h'.get? b=some o)→tn i h'
  item:∀(X:Cx),X.prog=P→X.w=w→X.K=K→X.calm=true→∀(i:Nat) (pins:List (Addr×Obj)) (s:Shared) (σ:St) (H:Hp) (E:Value→Shared→Prop),Inv X pins σ H s→(∀b∈fp,FpOk X pins H b)→tn i s.heap→J.go i H →
    wpAny (model P w) X.A (pyNext (.ref it)) (λr s1=>∃u,r=some u ∧
      wpAny (model P w) X.A (letOwnedTupleGo tg (.ref it) u) (λ_ s2=>∃x H',Inv X pins σ H' s2∧RelV x u∧J.yld i H x H'∧tn (i+1) s2.heap∧∀b∈fp,H' b=none) E s1) E s
  done:∀(X:Cx),X.prog=P→X.w=w→X.K=K→X.calm=true→∀(i:Nat) (pins:List (Addr×Obj)) (s:Shared) (σ:St) (H:Hp) (E:Value→Shared→Prop),Inv X pins σ H s→(∀b∈fp,FpOk X pins H b)→tn i s.heap→J.stop i H →
    wpAny (model P w) X.A (pyNext (.ref it)) (λr s1=>r=none∧Inv X pins σ H s1) E s
  self:∀(A:Around) (i:Nat) (s:Shared) (Q:Value→Shared→Prop) (E:Value→Shared→Prop),tn i s.heap→Q (.ref it) s→wpAny (model P w) A (pyIter (.ref it)) Q E s
noncomputable abbrev TI:=St→Hp→(It→Hp→Prop)→Prop
noncomputable def PIE (X:Cx) (pins:List (Addr×Obj)) (σ:St) (tg:Expr) (R:It→Hp→Prop) (itv:Value) (s2:Shared):Prop:=
  ∃(it:Addr) (fp:List Addr) (tn:Nat→Heap→Prop) (J:It) (H':Hp),itv=.ref it∧Inv X pins σ H' s2∧Turn X.prog X.w X.K tg J fp it tn∧tn 0 s2.heap∧(∀b∈fp,FpOk X pins H' b)∧R J H'
noncomputable def PI (X:Cx) (tg iter:Expr) (wi:TI):Prop:=
  ∀(pins:List (Addr×Obj)) (s:Shared) (σ:St) (H:Hp) (R:It→Hp→Prop),Inv X pins σ H s→wi σ H R →
    wpAny (model X.prog X.w) X.A (eval iter X.env) (λv s1=>wpAny (model X.prog X.w) X.A (pyIter v) (PIE X pins σ tg R) X.xe s1) X.xe s
theorem go_of {M:Model}{A:Around}{E:Value→Shared→Prop}{s:Shared}{tg:Expr}{it:Addr}{u:Value}{o:Obj}{n:String}{vs:Array Value}{Q:Unit→Shared→Prop}(ho:s.heap.get? it=some o) (hc:o.cls=.type n) (hd:o.data=.fields vs)
    (hn:["enumerate","zip","dict_itemiterator","dict_reverseitemiterator","odict_iterator","itertools.zip_longest","itertools.pairwise"].contains n=false) (hQ:Q () s):wpAny M A (letOwnedTupleGo tg (.ref it) u) Q E s:=by
  unfold letOwnedTupleGo
  cases tg<;>first
    | exact wpAny_pure hQ
    | (cases u<;>first
        | exact wpAny_pure hQ
        | (refine wpAny_bind (wpAny_load ho ?_)
           rw [hc,hd]
           show wpAny M A (if (["enumerate","zip","dict_itemiterator","dict_reverseitemiterator","odict_iterator","itertools.zip_longest","itertools.pairwise"].contains n&&vs[0]? == some (rawInt _))=true then _ else _) Q E s
           rw [if_neg (by intro h;rw [hn,Bool.false_and] at h;cases h)]
           exact wpAny_pure hQ))
noncomputable def Itl (K:PySem.W.Frag) (a:Addr):It:=
  ⟨λi H=>∃xs x,SqL K H a xs∧xs[i]?=some x,λi H x H'=>H'=H∧∀xs,SqL K H a xs→xs[i]?=some x,λi H=>∃xs,SqL K H a xs∧xs.length≤i⟩
noncomputable def Itt (K:PySem.W.Frag) (a:Addr):It:=
  ⟨λi H=>∃xs x,SqT K H a xs∧xs[i]?=some x,λi H x H'=>H'=H∧∀xs,SqT K H a xs→xs[i]?=some x,λi H=>∃xs,SqT K H a xs∧xs.length≤i⟩
noncomputable def Itr (lo:Int) (n:Nat):It:=⟨λi _=>i<n,λi H x H'=>H'=H∧x=.int (lo+i),λi _=>n≤i⟩
theorem turn_list {P:Program}{w:World}{K:PySem.W.Frag}{tg:Expr}(a it:Addr):Turn P w K tg (Itl K a) [it] it (λi h=>h.IsListIter it a i) where
  mem:=by simp
  obj:=λi h st b hb=>by
    have e:b=it:=by simpa using hb
    subst e
    obtain⟨o,e,c,d⟩:=st
    exact⟨o,e,λv z=>by rw [d] at z;cases z⟩
  keep:=λi h h' st k=>st.at λo e=>k it (by simp) o e
  item:=by
    intro X hP hw hK hc i pins s σ H E I hf st hg
    subst hP hw hK
    obtain⟨xs,x,hq,hx⟩:=hg
    obtain⟨its,rv,p,hz⟩:=I.list hq
    obtain⟨u,hu,ru⟩:=rv.get hx
    obtain⟨f0,f1,f2,f3,f4,f5⟩:=hf it (by simp)
    refine wpAny_pyNext_list_item st p.isList (x:=u) (by simpa using hu) λh' st' sb=>?_
    have I1:Inv X pins σ H { s with heap:=h' }:=I.turned (t':=s.toks) (λb o hb e=>(sb.2 b hb).trans e) f0 f1 f3 f4 f5
    obtain⟨o,e,c,d⟩:=id st'
    exact⟨u,rfl,go_of (s:={ s with heap:=h' }) e c d (by decide) ⟨x,H,I1,ru,⟨rfl,λys hy=>by rw [I.list_inj hy hq];exact hx⟩,st',λb hb=>(hf b hb).1⟩⟩
  done:=by
    intro X hP hw hK hc i pins s σ H E I hf st hg
    subst hP hw hK
    obtain⟨xs,hq,hx⟩:=hg
    obtain⟨its,rv,p,hz⟩:=I.list hq
    obtain⟨f0,f1,f2,f3,f4,f5⟩:=hf it (by simp)
    have hl:=rv.length
    exact wpAny_pyNext_list_end (I.ok.hd hc) st p.isList (by simp;omega) λh' eb=>⟨rfl,I.turned (t':=s.toks) (λb o hb e=>eb b o hb e) f0 f1 f3 f4 f5⟩
  self:=λ_ _ _ _ _ st h=>wpAny_pyIter_listiter st h
theorem turn_tuple {P:Program}{w:World}{K:PySem.W.Frag}{tg:Expr}(a it:Addr):Turn P w K tg (Itt K a) [it] it (λi h=>h.IsTupleIter it a i) where
  mem:=by simp
  obj:=λi h st b hb=>by
    have e:b=it:=by simpa using hb
    subst e
    obtain⟨o,e,c,d⟩:=st
    exact⟨o,e,λv z=>by rw [d] at z;cases z⟩
  keep:=λi h h' st k=>st.at λo e=>k it (by simp) o e
  item:=by
    intro X hP hw hK hc i pins s σ H E I hf st hg
    subst hP hw hK
    obtain⟨xs,x,hq,hx⟩:=hg
    obtain⟨its,rv,p,hz⟩:=I.tuple hq
    obtain⟨u,hu,ru⟩:=rv.get hx
    obtain⟨f0,f1,f2,f3,f4,f5⟩:=hf it (by simp)
    refine wpAny_pyNext_tuple_item st (show s.heap.IsTuple a its.toArray from p) (x:=u) (by simpa using hu) λh' st' sb=>?_
    have I1:Inv X pins σ H { s with heap:=h' }:=I.turned (t':=s.toks) (λb o hb e=>(sb.2 b hb).trans e) f0 f1 f3 f4 f5
    obtain⟨o,e,c,d⟩:=id st'
    exact⟨u,rfl,go_of (s:={ s with heap:=h' }) e c d (by decide) ⟨x,H,I1,ru,⟨rfl,λys hy=>by rw [I.tuple_inj hy hq];exact hx⟩,st',λb hb=>(hf b hb).1⟩⟩
  done:=by
    intro X hP hw hK hc i pins s σ H E I hf st hg
    subst hP hw hK
    obtain⟨xs,hq,hx⟩:=hg
    obtain⟨its,rv,p,hz⟩:=I.tuple hq
    obtain⟨f0,f1,f2,f3,f4,f5⟩:=hf it (by simp)
    have hl:=rv.length
    exact wpAny_pyNext_tuple_end (I.ok.hd hc) st (show s.heap.IsTuple a its.toArray from p) (by simp;omega) λh' eb=>⟨rfl,I.turned (t':=s.toks) (λb o hb e=>eb b o hb e) f0 f1 f3 f4 f5⟩
  self:=λ_ _ _ _ _ st h=>wpAny_pyIter_tupleiter st h
theorem turn_range {P:Program}{w:World}{K:PySem.W.Frag}{tg:Expr}(it:Addr) (lo:Int) (n:Nat):Turn P w K tg (Itr lo n) [it] it (λi h=>IsRangeIter h it (lo+(i:Nat) * 1) ((n:Int) - (i:Nat)) 1) where
  mem:=by simp
  obj:=λi h st b hb=>by
    have e:b=it:=by simpa using hb
    subst e
    exact⟨_,st,λv z=>by
      have z':Data.fields _=Data.cell v:=z
      cases z'⟩
  keep:=λi h h' st k=>k it (by simp) _ st
  item:=by
    intro X hP hw hK hc i pins s σ H E I hf st hg
    subst hP hw hK
    obtain⟨f0,f1,f2,f3,f4,f5⟩:=hf it (by simp)
    have W:=Walks.range (prog:=X.prog) (w:=X.w) (I.ok.hd hc) it lo 1 n
    refine W.item i s _ _ hg st λv h' tk hv st' kk=>?_
    obtain⟨t,rfl⟩:=hv
    have I1:Inv X pins σ H { s with heap:=h',toks:=tk }:=I.turned (λb o hb e=>kk b o (by simpa using hb) e) f0 f1 f3 f4 f5
    refine⟨_,rfl,go_of (s:={ s with heap:=h',toks:=tk }) (n:="range_iterator") st' rfl rfl (by decide) ⟨.int (lo+i),H,I1,⟨t,?_⟩,⟨rfl,rfl⟩,st',λb hb=>(hf b hb).1⟩⟩
    rw [Int.mul_one]
  done:=by
    intro X hP hw hK hc i pins s σ H E I hf st hg
    subst hP hw hK
    obtain⟨f0,f1,f2,f3,f4,f5⟩:=hf it (by simp)
    exact wpAny_pyNext_range_end (I.ok.hd hc) st (by have:n≤i:=hg;omega) λh' eb=>⟨rfl,I.turned (t':=s.toks) (λb o hb e=>eb b o hb e) f0 f1 f3 f4 f5⟩
  self:=λ_ _ _ _ _ st h=>wpAny_pyIter_rangeiter st h
end L2
namespace L2
open PySem PySem.Spec PyProof.Rows
section
variable {X:Cx}{tg:Expr}
theorem range_it {pins:List (Addr×Obj)}{σ:St}{H:Hp}{s:Shared}{R:It→Hp→Prop}{E:Value→Shared→Prop}{lo hi:Int}{t u v:Tok}{tk:Nat}(I:Inv X pins σ H s) (h1:-(2^62)≤lo) (h2:lo<2^62) (h3:-(2^62)≤hi) (h4:hi<2^62)
    (q:R (Itr lo (hi - lo).toNat) H):wpAny (model X.prog X.w) X.A (pyIter (.ref s.heap.objs.size)) (PIE X pins σ tg R) E { s with heap:=s.heap.push { cls:=.type "range",data:=.fields #[.int lo t,.int hi u,.int 1 v] },toks:=tk }:=by
  refine wpAny_pyIter_range (IsRange.new ..) (small_one h1 h2 h3 h4) ?_
  have I1:Inv X pins σ H { s with heap:=s.heap.push { cls:=.type "range",data:=.fields #[.int lo t,.int hi u,.int 1 v] },toks:=tk }:=I.kept λb o e=>Heap.get?_push_of_some _ e
  refine⟨(s.heap.push { cls:=.type "range",data:=.fields #[.int lo t,.int hi u,.int 1 v] }).objs.size,[(s.heap.push { cls:=.type "range",data:=.fields #[.int lo t,.int hi u,.int 1 v] }).objs.size],_,_,H,rfl,
    I1.kept (t':=tk) λb o e=>Heap.get?_push_of_some _ e,turn_range _ lo (hi - lo).toNat,?_,λb hb=>?_,q⟩
  · have e1:lo+((0:Nat):Int) * 1=lo:=by simp
    have e2:(((hi - lo).toNat:Nat):Int) - ((0:Nat):Int)=Builtin.Range.rangeSize lo hi 1:=by rw [rangeSize_one];split<;>omega
    show IsRangeIter _ _ (lo+((0:Nat):Int) * 1) ((((hi - lo).toNat:Nat):Int) - ((0:Nat):Int)) 1
    rw [e1,e2]
    exact Heap.get?_push_size _ rfl
  · have e:b=(s.heap.push { cls:=.type "range",data:=.fields #[.int lo t,.int hi u,.int 1 v] }).objs.size:=by simpa using hb
    subst e
    exact I1.fpOk (Nat.le_refl _) (I1.hok.fresh (Nat.le_refl _))
noncomputable def iRng1 (ta:TA):TI:=fun σ H R=>ta σ H λvs H1=>∃j:Int,vs=[.int j]∧-(2^62)≤j∧j<2^62∧R (Itr 0 j.toNat) H1
theorem pi_range1 {a:Expr}{ta:TA}{p pos:Pos}(hg:Gl X "range") (hm:X.mg "range"=none) (ha:PA X [a] ta) (hs:starEach [a] X.env=[(false,eval a X.env)]:=by rfl):PI X tg (.Call (.Name "range" p) [a] [] pos) (iRng1 ta):=by
  intro pins s σ H R I h
  refine Call_ (ld_blt I hg hm boot_range (PyProof.Rows.callWith_type1 (thn (ha pos pins s σ H _ I h) λus s1 ⟨vs,H1,I1,r1,q1⟩=>?_) hs rfl))
  obtain⟨j,e,q1,q2,q⟩:=q1
  subst e
  cases r1 with
  | cons r rr =>
    cases rr
    obtain⟨t,rfl⟩:=r
    exact call_range_1 (range_it I1 (by omega) (by omega) q1 q2 (by simpa using q))
noncomputable def tFor (wi:TI) (g:TG) (tb:TS):TS:=λD σ H=>wi σ H λJ H1=>∃W:Nat→Nat→St→Hp→Prop,(∃m,W 0 m σ H1)∧∀i m σ H,W i m σ H →
  (J.stop i H∧D.nx σ H)∨(J.go i H∧∃N:St→Hp→Prop,(∀σ' H',N σ' H'→∃m',m'<m∧W (i+1) m' σ' H')∧∀x H',J.yld i H x H'→g x σ H' fun σ2 H2=>tb { D with nx:=N,ct:=N,bk:=D.nx } σ2 H2)
noncomputable def pinsAt (fp:List Addr) (h:Heap):List (Addr×Obj):=fp.filterMap λb=>(h.get? b).map λo=>(b,o)
theorem mem_pinsAt {fp:List Addr}{h:Heap}{b:Addr}{o:Obj}(hb:b∈fp) (e:h.get? b=some o):(b,o)∈pinsAt fp h:=List.mem_filterMap.mpr ⟨b,hb,by rw [e];rfl⟩
theorem of_pinsAt {fp:List Addr}{h:Heap}{p:Addr×Obj}(hp:p∈pinsAt fp h):p.1∈fp∧h.get? p.1=some p.2:=by
  obtain⟨b,hb,e⟩:=List.mem_filterMap.mp hp
  cases q:h.get? b with
  | none=>rw [q] at e;cases e
  | some o =>
    rw [q] at e
    have e':(b,o)=p:=Option.some.inj e
    subst e'
    exact⟨hb,q⟩
theorem Inv.pinned {pins:List (Addr×Obj)}{σ:St}{H:Hp}{s:Shared}{fp:List Addr}(I:Inv X pins σ H s) (hf:∀b∈fp,FpOk X pins H b) (ho:∀b∈fp,∃o,s.heap.get? b=some o∧∀v,o.data≠.cell v):Inv X (pins++pinsAt fp s.heap) σ H s:=
  I.pins_of λp hp=>(List.mem_append.mp hp).elim (λz=>I.pin p (List.mem_append_right _ z)) λz=>by
    obtain⟨hb,e⟩:=of_pinsAt z
    obtain⟨f0,f1,f2,_⟩:=hf p.1 hb
    obtain⟨o,e',d⟩:=ho p.1 hb
    rw [e] at e';cases e'
    exact⟨e,f0,f1,f2,d⟩
theorem Inv.unpinned {pins pl:List (Addr×Obj)}{σ:St}{H:Hp}{s:Shared}(I:Inv X (pins++pl) σ H s):Inv X pins σ H s:=I.pins_of λp hp=>I.pin p (List.mem_append_right _ (List.mem_append_left _ hp))
theorem ps_for {iter:Expr}{body:List Stmt}{wi:TI}{g:TG}{tb:TS}{pos:Pos}(hp:PassesOwn (model X.prog X.w) X.A X.env X.xe) (hc:X.calm=true) (hi:PI X tg iter wi) (hg:PG X tg g) (hb:PSs X body tb)
    (hs:∀x,foldedSetIterable iter X.env x=pure x:=by intro _;rfl):PS X (.For tg iter body [] pos) (tFor wi g tb):=by
  intro pins s σ H D I h
  refine wpAny_For (thn (hi pins s σ H _ I h) λv s1 h1=>thn h1 λitv s2 h2=>?_) hs
  obtain⟨it,fp,tn,J,H2,e,I2,T,st2,f2,W,⟨m0,w0⟩,turn⟩:=h2
  subst e
  have stat:∀{H':Hp},(∀b∈fp,H' b=none)→∀b∈fp,FpOk X pins H' b:=λhn b hb=>⟨hn b hb,(f2 b hb).2⟩
  refine codeAny_forLoop_any (λn s'=>∃i σ' H',Inv X pins σ' H' s'∧tn i s'.heap∧(∀b∈fp,H' b=none)∧W i n σ' H') ?_ m0 ⟨0,σ,H2,I2,st2,λb hb=>(f2 b hb).1,w0⟩
  rintro n s3 ⟨i,σ3,H3,I3,st3,fr3,w3⟩
  rcases turn i n σ3 H3 w3 with ⟨stop,qn⟩|⟨go,N,hN,step⟩
  · refine wpAny_passesOwn hp (thn (T.done X rfl rfl rfl hc i pins s3 σ3 H3 X.xe I3 (stat fr3) st3 stop) λr s4 ⟨hr,I4⟩=>?_)
    subst hr
    exact wpAny_execs_nil ⟨σ3,H3,I4,qn⟩
  · refine wpAny_passesOwn hp (thn (T.item X rfl rfl rfl hc i pins s3 σ3 H3 X.xe I3 (stat fr3) st3 go) λr s4 ⟨u,hr,h4⟩=>?_)
    subst hr
    refine wpAny_passesOwn hp (thn h4 λ_ s5 ⟨x,H5,I5,r5,y5,st5,fr5⟩=>?_)
    have I5':=I5.pinned (stat fr5) (T.obj _ _ st5)
    refine wpAny_passesOwn hp (thn (hg _ s5 σ3 H5 x u _ I5' r5 (step x H5 y5)) λ_ s6 ⟨σ6,H6,I6,q6⟩=>?_)
    refine wpAny_passesOwn hp (thn (hb _ s6 σ6 H6 _ I6 q6) λf s7 q7=>?_)
    have again:∀{σ7:St} {H7:Hp},Inv X (pins++pinsAt fp s5.heap) σ7 H7 s7→N σ7 H7→∃m,m<n∧∃i σ' H',Inv X pins σ' H' s7∧tn i s7.heap∧(∀b∈fp,H' b=none)∧W i m σ' H':=λ{σ7 H7} I7 n7=>by
      obtain⟨m',hm,w7⟩:=hN σ7 H7 n7
      refine⟨m',hm,i+1,σ7,H7,I7.unpinned,T.keep _ _ _ st5 λb hb o e=>(I7.pin (b,o) (List.mem_append_right _ (List.mem_append_right _ (mem_pinsAt hb e)))).1,λb hb=>?_,w7⟩
      obtain⟨o,e,d⟩:=T.obj _ _ st5 b hb
      exact (I7.pin (b,o) (List.mem_append_right _ (List.mem_append_right _ (mem_pinsAt hb e)))).2.1
    cases f with
    | next=>obtain⟨σ7,H7,I7,n7⟩:=q7;exact again I7 n7
    | cont=>obtain⟨σ7,H7,I7,n7⟩:=q7;exact again I7 n7
    | brk=>obtain⟨σ7,H7,I7,q7⟩:=q7;exact⟨σ7,H7,I7.unpinned,q7⟩
    | ret v=>obtain⟨x7,σ7,H7,I7,r7,q7⟩:=q7;exact⟨x7,σ7,H7,I7.unpinned,r7,q7⟩
end
end L2
namespace L2
open PySem PySem.Spec PyProof.Rows
noncomputable abbrev R2:=V→V→Hp→VK→Prop
noncomputable def OpR (X:Cx) (f:Value→Value→Sem Value) (r:R2):Prop:=
  ∀(pins:List (Addr×Obj)) (s:Shared) (σ:St) (H:Hp) (x y:V) (v u:Value) (Q:VK),Inv X pins σ H s→RelV x v→RelV y u→r x y H Q →
    wpAny (model X.prog X.w) X.A (f v u) (EP X pins σ Q) X.xe s
noncomputable def UnR (X:Cx) (f:Value→Sem Value) (r:V→Hp→VK→Prop):Prop:=
  ∀(pins:List (Addr×Obj)) (s:Shared) (σ:St) (H:Hp) (x:V) (v:Value) (Q:VK),Inv X pins σ H s→RelV x v→r x H Q →
    wpAny (model X.prog X.w) X.A (f v) (EP X pins σ Q) X.xe s
noncomputable def CallR (X:Cx) (f:Value) (r:List V→Hp→VK→Prop):Prop:=
  ∀(pins:List (Addr×Obj)) (s:Shared) (σ:St) (H:Hp) (xs:List V) (us:List Value) (Q:VK),Inv X pins σ H s→Vals xs us→r xs H Q →
    wpAny (model X.prog X.w) X.A (call f us) (EP X pins σ Q) X.xe s
noncomputable def tOp (r:R2) (ta tb:TE):TE:=fun σ H Q=>ta σ H λx H1=>tb σ H1 λy H2=>r x y H2 Q
noncomputable def tUn (r:V→Hp→VK→Prop) (ta:TE):TE:=fun σ H Q=>ta σ H λx H1=>r x H1 Q
noncomputable def rI (C:Int→Int→Prop) (g:Int→Int→V):R2:=λx y H Q=>∃i j,x=.int i∧y=.int j∧C i j∧Q (g i j) H
noncomputable def rI0 (g:Int→Int→V):R2:=λx y H Q=>∃i j,x=.int i∧y=.int j∧Q (g i j) H
noncomputable def rU (g:Int→V):V→Hp→VK→Prop:=λx H Q=>∃i,x=.int i∧Q (g i) H
section
variable {X:Cx}{a b c:Expr}{ta tb tc:TE}{pos:Pos}
theorem binT (ha:PE X a ta) (hb:PE X b tb) {pins:List (Addr×Obj)}{s:Shared}{σ:St}{H:Hp}{R:V→V→Hp→Prop}(I:Inv X pins σ H s)
    (h:ta σ H λx H1=>tb σ H1 λy H2=>R x y H2) {Q:Value→Shared→Prop}{f:Value→Value→Sem Value}
    (hf:∀v u s2 x y H2,Inv X pins σ H2 s2→RelV x v→RelV y u→R x y H2→wpAny (model X.prog X.w) X.A (f v u) Q X.xe s2) :
    wpAny (model X.prog X.w) X.A (eval a X.env) (λv s₁=>wpAny (model X.prog X.w) X.A (eval b X.env) (λu s₂=>wpAny (model X.prog X.w) X.A (f v u) Q X.xe s₂) X.xe s₁) X.xe s:=by
  refine thn (ha pins s σ H _ I h) λv s1 ⟨x,H1,I1,r1,q1⟩=>?_
  refine thn (hb pins s1 σ H1 _ I1 q1) λu s2 ⟨y,H2,I2,r2,q2⟩=>?_
  exact hf v u s2 x y H2 I2 r1 r2 q2
theorem pe_op {op:Operator}{r:R2}(ho:OpR X (binaryOp op) r) (ha:PE X a ta) (hb:PE X b tb):PE X (.BinOp a op b pos) (tOp r ta tb):=by
  intro pins s σ H Q I h
  exact wpAny_BinOp (binT ha hb I h λv u s2 x y H2 I2 rx ry q=>ho pins s2 σ H2 x y v u Q I2 rx ry q)
theorem pe_un {op:UnaryOp}{r:V→Hp→VK→Prop}(ho:UnR X (unaryOp op) r) (ha:PE X a ta):PE X (.UnaryOp op a pos) (tUn r ta):=by
  intro pins s σ H Q I h
  exact UnaryOp_ (thn (ha pins s σ H _ I h) λv s1 ⟨x,H1,I1,r1,q1⟩=>ho pins s1 σ H1 x v Q I1 r1 q1)
theorem opI {f:Value→Value→Sem Value}{C:Int→Int→Prop}{g:Int→Int→Int}
    (rule:∀(i j:Int) (t u:Tok) (s:Shared) (Q:Value→Shared→Prop) (E:Value→Shared→Prop),C i j→Q (.int (g i j) s.toks) { s with toks:=s.toks+1 }→wpAny (model X.prog X.w) X.A (f (.int i t) (.int j u)) Q E s) :
    OpR X f (rI C λi j=>.int (g i j)):=by
  intro pins s σ H x y v u Q I rx ry h
  obtain⟨i,j,rfl,rfl,hc,q⟩:=h
  obtain⟨t,rfl⟩:=rx
  obtain⟨t',rfl⟩:=ry
  exact rule i j t t' s _ _ hc ⟨.int (g i j),H,I.tok _,⟨_,rfl⟩,q⟩
theorem opI0 {f:Value→Value→Sem Value}{g:Int→Int→Int}
    (rule:∀(i j:Int) (t u:Tok) (s:Shared) (Q:Value→Shared→Prop) (E:Value→Shared→Prop),Q (.int (g i j) s.toks) { s with toks:=s.toks+1 }→wpAny (model X.prog X.w) X.A (f (.int i t) (.int j u)) Q E s) :
    OpR X f (rI0 λi j=>.int (g i j)):=by
  intro pins s σ H x y v u Q I rx ry h
  obtain⟨i,j,rfl,rfl,q⟩:=h
  obtain⟨t,rfl⟩:=rx
  obtain⟨t',rfl⟩:=ry
  exact rule i j t t' s _ _ ⟨.int (g i j),H,I.tok _,⟨_,rfl⟩,q⟩
theorem opB0 {f:Value→Value→Sem Value}{g:Int→Int→Bool}
    (rule:∀(i j:Int) (t u:Tok) (s:Shared) (Q:Value→Shared→Prop) (E:Value→Shared→Prop),Q (.bool (g i j)) s→wpAny (model X.prog X.w) X.A (f (.int i t) (.int j u)) Q E s) :
    OpR X f (rI0 λi j=>.bl (g i j)):=by
  intro pins s σ H x y v u Q I rx ry h
  obtain⟨i,j,rfl,rfl,q⟩:=h
  obtain⟨t,rfl⟩:=rx
  obtain⟨t',rfl⟩:=ry
  exact rule i j t t' s _ _ ⟨.bl (g i j),H,I,rfl,q⟩
noncomputable def CPow (i j:Int):Prop:=0≤j∧j≤1000000∧i.natAbs<2^64
noncomputable def CMul (i j:Int):Prop:=(-(2^64)<i∧i<2^64)∨(-(2^64)<j∧j<2^64)
theorem CMul.ok {i j:Int}(h:CMul i j):IntMulOk i j:=by
  rcases h with ⟨h1,h2⟩|⟨h1,h2⟩
  · exact .of_left (intBits_le_64 h1 h2)
  · exact .of_right (intBits_le_64 h1 h2)
theorem two_pow_nn (k:Nat):(0:Int)≤2^k:=by
  rw [two_pow_cast]
  exact Int.natCast_nonneg _
theorem op_add:OpR X (binaryOp .Add) (rI0 λi j=>.int (i+j)):=opI0 λ_ _ _ _ _ _ _ q=>add_int q
theorem op_sub:OpR X (binaryOp .Sub) (rI0 λi j=>.int (i - j)):=opI0 λ_ _ _ _ _ _ _ q=>sub_int q
theorem op_shl:OpR X (binaryOp .LShift) (rI CPow λi j=>.int (i * 2^j.toNat)):=opI λ_ _ _ _ _ _ _ hc q=>lshift_int_small hc.1 hc.2.1 hc.2.2 q
theorem op_shr:OpR X (binaryOp .RShift) (rI (λ_ j=>0≤j) λi j=>.int (i / 2^j.toNat)):=opI λi j _ _ _ _ _ hc q =>
  rshift_int hc (by rw [Int.fdiv_eq_ediv_of_nonneg i (two_pow_nn _)];exact q)
theorem unI {f:Value→Sem Value}{g:Int→Int}
    (rule:∀(i:Int) (t:Tok) (s:Shared) (Q:Value→Shared→Prop) (E:Value→Shared→Prop),Q (.int (g i) s.toks) { s with toks:=s.toks+1 }→wpAny (model X.prog X.w) X.A (f (.int i t)) Q E s) :
    UnR X f (rU λi=>.int (g i)):=by
  intro pins s σ H x v Q I rx h
  obtain⟨i,rfl,q⟩:=h
  obtain⟨t,rfl⟩:=rx
  exact rule i t s _ _ ⟨.int (g i),H,I.tok _,⟨_,rfl⟩,q⟩
theorem un_neg:UnR X (unaryOp .USub) (rU λi=>.int (-i)):=unI λ_ _ _ _ _ q=>neg_int q
end
section
variable {X:Cx}{a b c:Expr}{ta tb tc:TE}{pos:Pos}
theorem op_lt:OpR X (compareOp .Lt) (rI0 λi j=>.bl (decide (i<j))):=opB0 λ_ _ _ _ _ _ _ q=>lt_int q
theorem op_le:OpR X (compareOp .LtE) (rI0 λi j=>.bl (decide (i≤j))):=opB0 λ_ _ _ _ _ _ _ q=>le_int q
theorem op_gt:OpR X (compareOp .Gt) (rI0 λi j=>.bl (decide (j<i))):=opB0 λ_ _ _ _ _ _ _ q=>gt_int q
theorem op_ge:OpR X (compareOp .GtE) (rI0 λi j=>.bl (decide (j≤i))):=opB0 λ_ _ _ _ _ _ _ q=>ge_int q
theorem OpR.or {f:Value→Value→Sem Value}{r r':R2}(h:OpR X f r) (h':OpR X f r'):OpR X f (λx y H Q=>r x y H Q∨r' x y H Q):=by
  intro pins s σ H x y v u Q I rx ry q
  rcases q with q|q
  · exact h pins s σ H x y v u Q I rx ry q
  · exact h' pins s σ H x y v u Q I rx ry q
theorem nomark (b:Expr) {op:CmpOp}(h:op≠.In:=by decide) (h2:op≠.NotIn:=by decide):behindInMarks op b=false:=by
  have e1:(op == CmpOp.In)=false:=by cases op<;>first|rfl|exact absurd rfl h
  have e2:(op == CmpOp.NotIn)=false:=by cases op<;>first|rfl|exact absurd rfl h2
  cases b<;>simp [behindInMarks,e1,e2]
theorem pe_cmpR {op:CmpOp}{r:R2}(ho:OpR X (compareOp op) r) (ha:PE X a ta) (hb:PE X b tb) (hm:behindInMarks op b=false):PE X (.Compare a [op] [b] pos) (tOp r ta tb):=by
  intro pins s σ H Q I h
  exact wpAny_Compare1 (binT ha hb I h λv u s2 x y H2 I2 rx ry q=>ho pins s2 σ H2 x y v u Q I2 rx ry q) hm
noncomputable def tTest (t:TE):TT:=fun σ H Q=>t σ H λx H'=>∃k,x=.bl k∧Q k H'
theorem pt_cmpR {op:CmpOp}{r:R2}(ho:OpR X (compareOp op) r) (ha:PE X a ta) (hb:PE X b tb) (hm:behindInMarks op b=false):PT X (.Compare a [op] [b] pos) (tTest (tOp r ta tb)):=by
  intro pins s σ H Q I h
  refine wpAny_isTrue_Compare1 (thn (ha pins s σ H _ I h) λv s1 ⟨x,H1,I1,r1,q1⟩=>thn (hb pins s1 σ H1 _ I1 q1) λu s2 ⟨y,H2,I2,r2,q2⟩ =>
    thn (ho pins s2 σ H2 x y v u _ I2 r1 r2 q2) λc s3 ⟨z,H3,I3,r3,k,e,q3⟩=>?_) hm
  subst e
  cases r3
  exact wpAny_truthy_bool ⟨H3,I3,q3⟩
noncomputable def tChain (r r':R2) (ta tb tc:TE):TE:=fun σ H Q=>ta σ H λx H1=>tb σ H1 λy H2=>r x y H2 λz H3=>∃k,z=.bl k ∧
  (if k=true then tc σ H3 λw' H4=>r' y w' H4 Q else Q (.bl false) H3)
theorem pe_chain {op op':CmpOp}{r r':R2}(ho:OpR X (compareOp op) r) (ho':OpR X (compareOp op') r') (ha:PE X a ta) (hb:PE X b tb) (hc:PE X c tc)
    (hm:lastMarks [op,op'] [b,c]=false:=by with_unfolding_all rfl):PE X (.Compare a [op,op'] [b,c] pos) (tChain r r' ta tb tc):=by
  intro pins s σ H Q I h
  refine Compare_chain (thn (ha pins s σ H _ I h) λv s1 ⟨x,H1,I1,r1,q1⟩=>chain_link (thn (hb pins s1 σ H1 _ I1 q1) λu s2 ⟨y,H2,I2,r2,q2⟩ =>
    thn (ho pins s2 σ H2 x y v u _ I2 r1 r2 q2) λd s3 ⟨z,H3,I3,r3,k,e,q3⟩=>?_)) hm
  subst e
  cases r3
  refine wpAny_truthy_bool ?_
  cases k with
  | false=>exact ite_ff ⟨.bl false,H3,I3,rfl,q3⟩
  | true=>exact ite_tt (chain_last (thn (hc pins s3 σ H3 _ I3 q3) λw' s4 ⟨z',H4,I4,r4,q4⟩=>ho' pins s4 σ H4 y z' u w' Q I4 r2 r4 q4))
theorem pt_chain {op op':CmpOp}{r r':R2}(ho:OpR X (compareOp op) r) (ho':OpR X (compareOp op') r') (ha:PE X a ta) (hb:PE X b tb) (hc:PE X c tc)
    (hm:lastMarks [op,op'] [b,c]=false:=by with_unfolding_all rfl):PT X (.Compare a [op,op'] [b,c] pos) (tTest (tChain r r' ta tb tc)):=by
  intro pins s σ H Q I h
  refine isTrue_chain (thn (ha pins s σ H _ I h) λv s1 ⟨x,H1,I1,r1,q1⟩=>test_link (thn (hb pins s1 σ H1 _ I1 q1) λu s2 ⟨y,H2,I2,r2,q2⟩ =>
    thn (ho pins s2 σ H2 x y v u _ I2 r1 r2 q2) λd s3 ⟨z,H3,I3,r3,k,e,q3⟩=>?_)) hm
  subst e
  cases r3
  refine wpAny_truthy_bool ?_
  cases k with
  | false =>
    obtain⟨k',e',q'⟩:=q3
    cases e'
    exact ite_ff ⟨H3,I3,q'⟩
  | true =>
    refine ite_tt (test_last (thn (hc pins s3 σ H3 _ I3 q3) λw' s4 ⟨z',H4,I4,r4,q4⟩=>thn (ho' pins s4 σ H4 y z' u w' _ I4 r2 r4 q4) λd' s5 ⟨z2,H5,I5,r5,k2,e2,q5⟩=>?_))
    subst e2
    cases r5
    exact wpAny_truthy_bool ⟨H5,I5,q5⟩
theorem line63:(sizeLine:Nat)<2^63:=by rw [sizeLine_eq];decide
theorem op_add_str:OpR X (binaryOp .Add) (λx y H Q=>∃i j,x=.str i∧y=.str j∧i.length+j.length≤sizeLine∧Q (.str (i++j)) H):=by
  intro pins s σ H x y v u Q I rx ry h
  obtain⟨i,j,rfl,rfl,hz,q⟩:=h
  obtain⟨t,rfl⟩:=rx
  obtain⟨t',rfl⟩:=ry
  exact add_str (λt' tk=>⟨.str (i++j),H,I.tok _,⟨_,rfl⟩,q⟩) hz
theorem vals1 {x:V}{us:List Value}(r:Vals [x] us):∃u,us=[u]∧RelV x u:=by
  cases r with
  | cons r1 r2=>cases r2;exact⟨_,rfl,r1⟩
theorem vals2 {x y:V}{us:List Value}(r:Vals [x,y] us):∃u w',us=[u,w']∧RelV x u∧RelV y w':=by
  cases r with
  | cons r1 r2 =>
    cases r2 with
    | cons r3 r4=>cases r4;exact⟨_,_,rfl,r1,r3⟩
theorem call_max2 (hc:X.calm=true):CallR X (.builtin "max") (λxs H Q=>∃i j,xs=[.int i,.int j]∧Q (.int (if j > i then j else i)) H):=by
  intro pins s σ H xs us Q I r h
  obtain⟨i,j,rfl,q⟩:=h
  obtain⟨u,w',rfl,⟨t,rfl⟩,⟨t',rfl⟩⟩:=vals2 r
  refine max_two_ints (I.ok.hd hc) λh' tk k=>⟨_,H,I.kept k,?_,q⟩
  by_cases hj:j > i
  · rw [if_pos hj,if_pos hj];exact⟨_,rfl⟩
  · rw [if_neg hj,if_neg hj];exact⟨_,rfl⟩
theorem call_min2 (hc:X.calm=true):CallR X (.builtin "min") (λxs H Q=>∃i j,xs=[.int i,.int j]∧Q (.int (if j<i then j else i)) H):=by
  intro pins s σ H xs us Q I r h
  obtain⟨i,j,rfl,q⟩:=h
  obtain⟨u,w',rfl,⟨t,rfl⟩,⟨t',rfl⟩⟩:=vals2 r
  refine min_two_ints (I.ok.hd hc) λh' tk k=>⟨_,H,I.kept k,?_,q⟩
  by_cases hj:j<i
  · rw [if_pos hj,if_pos hj];exact⟨_,rfl⟩
  · rw [if_neg hj,if_neg hj];exact⟨_,rfl⟩
end
end L2
namespace L2
open PySem PySem.Spec PyProof.Rows
structure ObjM (h:Heap) (x dx C:Addr) (mA:Str→Option Value):Prop where
  obj:h.get? x=some (PySem.W.instObj C dx)
  ns:h.Ns1 dx mA
  ne:dx≠x
theorem lookIn_ns {h:Heap}{dx:Addr}{mA:Str→Option Value}(n:h.Ns1 dx mA):∃od,h.get? dx=some od∧∀name,PySem.W.lookIn name od=some (mA name):=by
  obtain⟨o,es,ep,ho,hd,hk,_,hm⟩:=n
  refine⟨o,ho,λname=>?_⟩
  have e:=hm name
  unfold nsFind findBy at e
  rw [←Array.find?_toList] at e
  unfold PySem.W.lookIn
  rw [hd]
  dsimp only
  split
  · rename_i y q
    rw [q] at e
    exact congrArg some e
  · rename_i q
    rw [q] at e
    have a:es.toList.any (·.refKey)=false:=by
      rw [List.any_eq_false]
      intro y hy
      obtain⟨z,t,hkey⟩:=hk y (Array.mem_toList_iff.mp hy)
      simp [DictEntry.refKey,hkey]
    have a':¬es.toList.any (·.refKey)=true:=by rw [a];exact Bool.false_ne_true
    rw [if_neg a']
    exact congrArg some e
theorem ObjM.look {h:Heap}{x dx C:Addr}{mA:Str→Option Value}(I:ObjM h x dx C mA):∃od,PySem.W.InstAt h x (PySem.W.instObj C dx) C (some od)∧∀name,PySem.W.lookIn name od=some (mA name):=
  let ⟨od,ho,hl⟩:=lookIn_ns I.ns
  ⟨od,⟨I.obj,rfl,rfl,ho⟩,hl⟩
section
variable {prog:Program}{w:World}{A:Around}{E:Value→Shared→Prop}{s:Shared}{K:PySem.W.Frag}{x dx C f:Addr}{mA:Str→Option Value}{name:Str}{v:Value}
theorem set_map {ns:List Str}{Q:Unit→Shared→Prop}(X:K.In s.heap) (I:ObjM s.heap x dx C mA)
    (hs:PySem.W.findIn K (.ref C) "__setattr__"=some (some (.builtin "object.__setattr__"))) (hp:PySem.W.plainOver K C=true) (ht:PySem.W.takerIn K C name=some none) (hh:PySem.W.hasDictIn K C=true)
    (hw:PySem.Within mA ns) (hsz:ns.length≤sizeLine)
    (h:∀h',ObjM h' x dx C (λy=>if y=name then some v else mA y)→Heap.SameBut dx s.heap h'→Q () { s with heap:=h',toks:=s.toks+2 }) :
    wpAny (model prog w) A (setAttr (.ref x) name v) Q E s:=by
  obtain⟨od,J,hl⟩:=I.look
  refine PySem.W.set_plain X J hs (PySem.W.osa_open (s:={ s with toks:=s.toks+1 }) (r:=none) X J hp ht λb=>?_)
  obtain⟨cd,hc,hd'⟩:=PySem.W.any_some hh
  have hx:s.heap.get? x=some ⟨.ref C,some dx,.plain,#[]⟩:=I.obj
  refine wpAny_bind (wpAny_pure (wpAny_bind (wpAny_bind (wpAny_loadPart hx (wpAny_bind (PySem.W.Looks.here (s:={ s with toks:=s.toks+1 }) (PySem.W.looks_clsIn X hc) ?_))))))
  rw [hd']
  refine wpAny_pure (a:=some dx) (wpAny_bind (wpAny_pure (wpAny_bind ?_)))
  refine wpAny_nsSet1 (s:={ s with toks:=s.toks+1 }) I.ns λh' hn2 hs2=>?_
  obtain⟨oD,esD,epD,hoD,hdD,hcD⟩:=hn2.count (PySem.Within.cons name v hw)
  refine wpAny_bind (wpAny_lookBehind hoD (by rw [hdD];exact pastItsLine_dict (Nat.le_trans hcD (by rw [List.length_cons];omega))) ?_)
  exact wpAny_pure (h _ ⟨(hs2.2 _ (Ne.symm I.ne)).trans I.obj,hn2,I.ne⟩ hs2)
end
noncomputable def putF (f:Str) (v:V):List (Str×V)→List (Str×V)
  | []=>[(f,v)]
  | (g,x)::r=>if g=f then (g,v)::r else (g,x)::putF f v r
theorem lookup_putF (f g:Str) (v:V):∀fs:List (Str×V),(putF f v fs).lookup g=if g=f then some v else fs.lookup g
  | []=>by
    show List.lookup g [(f,v)]=_
    by_cases h:g=f
    · have hb:(g == f)=true:=beq_iff_eq.mpr h
      simp only [List.lookup,hb,if_pos h]
    · have hb:(g == f)=false:=beq_eq_false_iff_ne.mpr h
      simp only [List.lookup,hb,if_neg h]
  | (k,x)::r=>by
    have ih:=lookup_putF f g v r
    rw [show putF f v ((k,x)::r)=(if k=f then (k,v)::r else (k,x)::putF f v r) from rfl]
    by_cases hk:k=f
    · rw [if_pos hk]
      by_cases h:g=k
      · have hb:(g == k)=true:=beq_iff_eq.mpr h
        simp only [List.lookup,hb,if_pos (h.trans hk)]
      · have hb:(g == k)=false:=beq_eq_false_iff_ne.mpr h
        simp only [List.lookup,hb,if_neg (λe:g=f=>h (e.trans hk.symm))]
    · rw [if_neg hk]
      by_cases h:g=k
      · have hb:(g == k)=true:=beq_iff_eq.mpr h
        simp only [List.lookup,hb,if_neg (λe:g=f=>hk (h.symm.trans e))]
      · have hb:(g == k)=false:=beq_eq_false_iff_ne.mpr h
        simp only [List.lookup,hb]
        exact ih
theorem keys_putF (f:Str) (v:V):∀fs:List (Str×V),f∈(putF f v fs).map (·.1)∧∀g,g∈fs.map (·.1)→g∈(putF f v fs).map (·.1)
  | []=>⟨by simp [putF],λg h=>by simp at h⟩
  | (k,x)::r=>by
    obtain⟨i1,i2⟩:=keys_putF f v r
    rw [show putF f v ((k,x)::r)=(if k=f then (k,v)::r else (k,x)::putF f v r) from rfl]
    by_cases hk:k=f
    · rw [if_pos hk]
      subst hk
      exact⟨by simp,λg h=>by simpa using h⟩
    · rw [if_neg hk]
      refine⟨?_,λg h=>?_⟩
      · rw [List.map_cons]
        exact List.mem_cons_of_mem _ i1
      · rw [List.map_cons] at h ⊢
        rcases List.mem_cons.mp h with e|e
        · exact List.mem_cons.mpr (.inl e)
        · exact List.mem_cons_of_mem _ (i2 g e)
theorem length_putF (f:Str) (v:V):∀fs:List (Str×V),(putF f v fs).length≤fs.length+1
  | []=>by simp [putF]
  | (k,x)::r=>by
    have ih:=length_putF f v r
    rw [show putF f v ((k,x)::r)=(if k=f then (k,v)::r else (k,x)::putF f v r) from rfl]
    by_cases hk:k=f
    · rw [if_pos hk,List.length_cons,List.length_cons];omega
    · rw [if_neg hk,List.length_cons,List.length_cons];omega
section
variable {P:Program}{w:World}{H H':Hp}{h h':Heap}{a C dx:Addr}{fs fs':List (Str×V)}
theorem ins_get (hok:HOk P w H h) (e:H a=some (.ins C dx fs)):∃mA,ObjM h a dx C mA∧(∀f,RelO (fs.lookup f) (mA f))∧PySem.Within mA (fs.map (·.1))∧fs.length≤1000∧H dx=some (.own a):=by
  obtain⟨d,z,ne,ob,mA,n,r,q⟩:=(show ObjOk P w H h a (.ins C dx fs) from hok a _ e)
  exact⟨mA,⟨ob,n,ne⟩,r,q,z,d⟩
end
structure Cls (K:PySem.W.Frag) (C:Addr):Prop where
  pg:PySem.W.plainGet K C Str.empty=true
  hd:PySem.W.hasDictIn K C=true
  po:PySem.W.plainOver K C=true
  sa:PySem.W.findIn K (.ref C) "__setattr__"=some (some (.builtin "object.__setattr__"))
theorem Cls.get {K:PySem.W.Frag}{C:Addr}(c:Cls K C) (f:Str):PySem.W.plainGet K C f=true:=c.pg
noncomputable def NoAttr (K:PySem.W.Frag) (C:Addr) (f:Str):Prop:=PySem.W.findIn K (.ref C) f=some none
theorem NoAttr.taker {K:PySem.W.Frag}{C:Addr}{f:Str}(n:NoAttr K C f):PySem.W.takerIn K C f=some none:=by
  unfold PySem.W.takerIn
  rw [show PySem.W.findIn K (.ref C) f=some none from n]
  rfl
structure Con (K:PySem.W.Frag) (C:Addr) (f:Str) (v:V) (u:Value):Prop where
  at_:PySem.W.findIn K (.ref C) f=some (some u)
  rel:RelV v u
  get:PySem.W.specialIn K u "__get__"=some none
  cp:PySem.W.copiedNames.contains f=false
structure Meth (K:PySem.W.Frag) (C:Addr) (m:Str) (f:Addr):Prop where
  at_:PySem.W.findIn K (.ref C) m=some (some (.ref f))
  fn:PySem.W.isFn K (.ref f)=true
  kp:PySem.W.keepIn K (.ref f)=true
section
variable {X:Cx}{pins:List (Addr×Obj)}{σ:St}{H:Hp}{s:Shared}{a C dx:Addr}{fs:List (Str×V)}{f:Str}{v:V}{A:Around}{E:Value→Shared→Prop}
theorem setattr_ok {y:V}{u:Value}{Q:Unit→Shared→Prop}(I:Inv X pins σ H s) (e:H a=some (.ins C dx fs)) (c:Cls X.K C) (n:NoAttr X.K C f) (hl:fs.length<1000) (ry:RelV y u)
    (h:∀s',Inv X pins σ (upd H a (.ins C dx (putF f y fs))) s'→Q () s'):wpAny (model X.prog X.w) A (setAttr (.ref a) f u) Q E s:=by
  obtain⟨mA,O,r,wi,_,ho⟩:=ins_get I.hok e
  have hz:(fs.map (·.1)).length≤sizeLine:=by rw [List.length_map,sizeLine_eq];omega
  refine set_map I.kIn O c.sa c.po n.taker c.hd wi hz λh' O' sb=>h _ ?_
  have hd:∃o,h'.get? dx=some o:=let ⟨o,_,_,e',_⟩:=O'.ns;⟨o,e'⟩
  refine I.write (x:=a) (e:=dx) (by rw [e];exact True.intro) (.inr ho) (λb q hb z=>(sb.2 b hb).trans z) hd ?_
  refine⟨by rw [upd_ne O.ne];exact ho,?_,O.ne,O'.obj,_,O'.ns,λg=>?_,λg hg=>?_⟩
  · have:=length_putF f y fs;omega
  · show RelO ((putF f y fs).lookup g) (if g=f then some u else mA g)
    rw [lookup_putF]
    by_cases q:g=f
    · rw [if_pos q,if_pos q];exact ry
    · rw [if_neg q,if_neg q];exact r g
  · by_cases q:g=f
    · rw [q];exact (keys_putF f y fs).1
    · refine (keys_putF f y fs).2 g (wi g λz=>hg ?_)
      show (if g=f then some u else mA g)=none
      rw [if_neg q];exact z
theorem Inv.made (I:Inv X pins σ H s):Inv X pins σ (upd (upd H s.heap.objs.size (.own (s.heap.objs.size+1))) (s.heap.objs.size+1) (.ins C s.heap.objs.size []))
    { s with heap:=(s.heap.push PySem.W.emptyDict).push (PySem.W.instObj C s.heap.objs.size) }:=by
  have e1:(s.heap.push PySem.W.emptyDict).get? s.heap.objs.size=some PySem.W.emptyDict:=Heap.get?_push_size s.heap rfl
  have e2:((s.heap.push PySem.W.emptyDict).push (PySem.W.instObj C s.heap.objs.size)).get? (s.heap.objs.size+1)=some (PySem.W.instObj C s.heap.objs.size):=by
    have:=Heap.get?_push_size (s.heap.push PySem.W.emptyDict) (o:=PySem.W.instObj C s.heap.objs.size) rfl
    rwa [Heap.size_push] at this
  have e3:(s.heap.push PySem.W.emptyDict).Ns s.heap.objs.size (λ_=>none):=⟨PySem.W.emptyDict,#[],_,e1,rfl,(λe he=>absurd he (by simp)),λ_=>rfl⟩
  have I1:=I.laid (a:=s.heap.objs.size) (o:=.own (s.heap.objs.size+1)) (h':=s.heap.push PySem.W.emptyDict) (t':=s.toks) (λb u q=>Heap.get?_push_of_some _ q) (Nat.le_refl _) ⟨_,e1⟩
  refine I1.laid (a:=s.heap.objs.size+1) (o:=.ins C s.heap.objs.size []) (t':=s.toks) (λb u q=>Heap.get?_push_of_some _ q) (Nat.le_of_eq (Heap.size_push _ _)) ?_
  have ne:s.heap.objs.size≠s.heap.objs.size+1:=Nat.ne_of_lt (Nat.lt_succ_self _)
  refine⟨by rw [upd_ne ne,upd_same],Nat.zero_le _,ne,e2,λ_=>none,(Heap.Ns1.of_empty e3).at λo q=>Heap.get?_push_of_some _ q,λ_=>True.intro,λy hy=>absurd rfl hy⟩
end
noncomputable def sFld (K:PySem.W.Frag) (ta tv:TE) (f:Str):TS:=λD σ H=>tv σ H λy H1=>ta σ H1 λx H2=>∃a C dx fs,x=.ref a∧H2 a=some (.ins C dx fs)∧Cls K C∧NoAttr K C f∧fs.length<1000 ∧
  D.nx σ (upd H2 a (.ins C dx (putF f y fs)))
section
variable {X:Cx}{o e value:Expr}{f:Str}{pos pos' tpos:Pos}{ta tv:TE}
theorem ps_fld (ha:PE X o ta) (hv:PE X value tv) (hs:swapsWith value (some (.Attribute o f pos')) pos.line X.env=pure false):PS X (.Assign [.Attribute o f pos'] value pos) (sFld X.K ta tv f):=by
  intro pins s σ H D I h
  refine plainObj_wpAny_Assign_Attribute (thn (hv pins s σ H _ I h) λu s1 ⟨y,H1,I1,ry,q⟩=>thn (ha pins s1 σ H1 _ I1 q) λov s2 ⟨x,H2,I2,rx,a,C,dx,fs,ex,ea,c,n,l,q2⟩=>?_) hs
  subst ex
  obtain rfl:ov=Value.ref a:=rx
  exact setattr_ok I2 ea c n l ry λs3 I3=>⟨σ,_,I3,q2⟩
end
section
variable {X:Cx}{pins:List (Addr×Obj)}{σ:St}{H:Hp}{s:Shared}{A:Around}{E:Value→Shared→Prop}{Q:Value→Shared→Prop}{c:Value}{b:Bool}
inductive TyOf (K:PySem.W.Frag) (H:Hp):V→Value→Prop where
  | non:TyOf K H .non (.type "NoneType")
  | bl (x:Bool):TyOf K H (.bl x) (.type "bool")
  | int (i:Int):TyOf K H (.int i) (.type "int")
  | str (x:Str):TyOf K H (.str x) (.type "str")
  | flt (x:UInt64):TyOf K H (.flt x) (.type "float")
  | lst {a:Addr} {xs:List V} (e:H a=some (.lst xs)):TyOf K H (.ref a) (.type "list")
  | frz {a:Addr} {o:Obj} {xs:List V} (e:H a=some (.frz o (.lst xs))):TyOf K H (.ref a) (.type "list")
  | tup {a:Addr} {xs:List V} (e:H a=some (.tup xs)):TyOf K H (.ref a) (.type "tuple")
  | dK {a:Addr} {kvs:List (Key×V)} (e:H a=some (.dK kvs)):TyOf K H (.ref a) (.type "dict")
  | dT {a:Addr} {kvs:List (List Key×V)} (e:H a=some (.dT kvs)):TyOf K H (.ref a) (.type "dict")
  | ins {a C dx:Addr} {fs:List (Str×V)} (e:H a=some (.ins C dx fs)) (cl:Cls K C) (ha:PySem.W.findIn K (.ref C) "__class__"=some (some (.builtin "object.__class__")))
      (hn:PySem.W.specialIn K (.builtin "object.__class__") "__get__"=some (some (.builtin "getset_descriptor.__get__"))) (htk:PySem.W.takesIn K (.builtin "object.__class__")=some true)
      (hm:PySem.W.mroIn K C (.type "object")=some true):TyOf K H (.ref a) (.ref C)
end
end L2
namespace L2
open PySem PySem.Spec PyProof.Rows
structure Room (k:Nat) (A:Around):Prop where
  hd:A.handled=none
  dp:A.depth+3 * k+5<recursionLimit
  un:A.units+16 * k+200<cLine
theorem Room.mono {j k:Nat}{A:Around}(r:Room k A) (h:j≤k):Room j A:=⟨r.hd,by have:=r.dp;omega,by have:=r.un;omega⟩
theorem Room.deeper {k:Nat}{A:Around}(r:Room (k+1) A) (env:Env):Room k (A.deeper env):=
  ⟨r.hd,by have:=r.dp;show A.depth+1+3 * k+5<_;omega,by have:=r.un;show A.units+3+16 * k+200<_;omega⟩
theorem Room.in1 {k:Nat}{A:Around}(r:Room (k+1) A):Room k A.in1:=
  ⟨r.hd,by have:=r.dp;show A.depth+3 * k+5<_;omega,by have:=r.un;show A.units+1+16 * k+200<_;omega⟩
theorem Room.depth {k:Nat}{A:Around}(r:Room k A):A.depth<recursionLimit:=by have:=r.dp;omega
theorem Room.units {k:Nat}{A:Around}(r:Room k A):A.units+64<cLine:=by have:=r.un;omega
noncomputable def tNil:TA:=λ_ H Q=>Q [] H
noncomputable def tCons (ta:TE) (tr:TA):TA:=fun σ H Q=>ta σ H λx H1=>tr σ H1 λxs H2=>Q (x::xs) H2
section
variable {X:Cx}{e:Expr}{es:List Expr}{te:TE}{t:TA}{pos:Pos}
theorem pa_nil:PA X [] tNil:=λ_ _ _ _ H Q I h=>Calls.spliced_nil ⟨[],H,I,.nil,h⟩
theorem pa_cons (ha:PE X e te) (hr:PA X es t) (hs:starEach (e::es) X.env=(false,eval e X.env)::starEach es X.env:=by rfl):PA X (e::es) (tCons te t):=by
  intro pos pins s σ H Q I h
  rw [hs]
  show wpAny _ _ (spliced ((false,eval e X.env)::backTo pos (starEach es X.env))) _ _ s
  refine Calls.spliced_cons (thn (ha pins s σ H _ I h) λu s1 ⟨x,H1,I1,r1,q1⟩=>?_)
  exact thn (hr pos pins s1 σ H1 _ I1 q1) λus s2 ⟨xs,H2,I2,r2,q2⟩=>⟨x::xs,H2,I2,.cons r1 r2,q2⟩
noncomputable def tTup (t:TA):TE:=fun σ H Q=>t σ H λxs H1=>xs.length≤sizeLine∧∀p,H1 p=none→Q (.ref p) (upd H1 p (.tup xs))
noncomputable def tLst (t:TA):TE:=fun σ H Q=>t σ H λxs H1=>xs.length≤sizeLine∧∀p,H1 p=none→Q (.ref p) (upd H1 p (.lst xs))
theorem pe_tup {x1}(h:PA X es t):PE X (.Tuple es x1 pos) (tTup t):=by
  intro pins s σ H Q I hq
  refine wpAny_Tuple_spliced (thn (h pos pins s σ H _ I hq) λus s1 ⟨xs,H1,I1,r,z,q⟩=>⟨by rw [←r.length];exact z,?_⟩)
  have hf:H1 s1.heap.objs.size=none:=I1.hok.fresh (Nat.le_refl _)
  refine⟨.ref s1.heap.objs.size,upd H1 s1.heap.objs.size (.tup xs),I1.laid (t':=s1.toks) (λb u e=>Heap.get?_push_of_some _ e) (Nat.le_refl _) ?_,rfl,q _ hf⟩
  exact⟨z,us,r,⟨_,Heap.get?_push_size _ rfl,rfl,_,rfl⟩⟩
theorem pe_lst (h:PA X es t):PE X (.List es pos) (tLst t):=by
  intro pins s σ H Q I hq
  refine wpAny_List_spliced (thn (h pos pins s σ H _ I hq) λus s1 ⟨xs,H1,I1,r,z,q⟩=>⟨by rw [←r.length];exact z,?_⟩)
  have hf:H1 s1.heap.objs.size=none:=I1.hok.fresh (Nat.le_refl _)
  refine⟨.ref s1.heap.objs.size,upd H1 s1.heap.objs.size (.lst xs),I1.laid (t':=s1.toks) (λb u e=>Heap.get?_push_of_some _ e) (Nat.le_refl _) ?_,rfl,q _ hf⟩
  exact⟨z,us,0,r,Heap.get?_push_size _ rfl⟩
end
noncomputable abbrev Sp:=List V→Hp→VK→XK→Prop
noncomputable abbrev CXT:=List Env→Hp→Shared→XK→Value→Shared→Prop
structure Env0 (P:Program) (w:World) (K:PySem.W.Frag) (mg:Str→Option Value) (base:Heap) (A:Around) (outer:List Env) (s:Shared) (H:Hp):Prop where
  frames:A.frames=some outer
  mod:Mod K mg base
  bs:∀b o,base.get? b=some o→s.heap.get? b=some o∧H b=none
  bsz:base.objs.size≤s.heap.objs.size
  funs:s.heap.FunFrames base outer
  frf:∀b∈frs outer,H b=none
  hok:HOk P w H s.heap
  bare:AllBare s.gens
noncomputable def CE (outer:List Env) (P:Program) (w:World) (H:Hp) (s:Shared) (Q:VK) (u:Value) (s':Shared):Prop:=
  ∃v H',s'.os=s.os∧AllBare s'.gens∧Un (frs outer) [] H H' s.heap s'.heap∧HOk P w H' s'.heap∧RelV v u∧Q v H'
noncomputable def CR (CX:CXT) (outer:List Env) (P:Program) (w:World) (H:Hp) (s:Shared) (Q:VK) (E:XK) (r:Result) (s':Shared):Prop:=
  match r with
  | .ok (.ret u)=>CE outer P w H s Q u s'
  | .ok _=>False
  | .error e=>CX outer H s E e s'
structure FnOk (P:Program) (w:World) (K:PySem.W.Frag) (mg:Str→Option Value) (base:Heap) (CX:CXT) (k:Nat) (f:Addr) (fd:FuncData) (ps:List Str) (sp:Sp):Prop where
  len:∀vs H Q E,sp vs H Q E→vs.length=ps.length
  run:∀(A:Around) (outer:List Env) (s:Shared) (H:Hp) (args:Args) (us:List Value) (vs:List V) (Q:VK) (E:XK),Room k A→Env0 P w K mg base A outer s H→BindsTo s fd args (ps.zip us)→Vals vs us→sp vs H Q E →
    codeAny (model P w) A (.call (.ref f) args) (CR CX outer P w H s Q E) s
theorem FnOk.mono {P:Program}{w:World}{K:PySem.W.Frag}{mg:Str→Option Value}{base:Heap}{CX:CXT}{j k:Nat}{f:Addr}{fd:FuncData}{ps:List Str}{sp:Sp}(F:FnOk P w K mg base CX j f fd ps sp) (h:j≤k) :
    FnOk P w K mg base CX k f fd ps sp:=⟨F.len,λA outer s H args us vs Q E hr=>F.run A outer s H args us vs Q E (hr.mono h)⟩
theorem FnOk.imp {P:Program}{w:World}{K:PySem.W.Frag}{mg:Str→Option Value}{base:Heap}{CX:CXT}{k:Nat}{f:Addr}{fd:FuncData}{ps:List Str}{sp sp':Sp}(F:FnOk P w K mg base CX k f fd ps sp)
    (h:∀vs H Q E,sp' vs H Q E→sp vs H Q E):FnOk P w K mg base CX k f fd ps sp':=
  ⟨λvs H Q E q=>F.len vs H Q E (h _ _ _ _ q),λA outer s H args us vs Q E hr he hb hv hs=>F.run A outer s H args us vs Q E hr he hb hv (h _ _ _ _ hs)⟩
theorem Env0.in1 {P:Program}{w:World}{K:PySem.W.Frag}{mg:Str→Option Value}{base:Heap}{A:Around}{outer:List Env}{s:Shared}{H:Hp}(e:Env0 P w K mg base A outer s H) :
    Env0 P w K mg base A.in1 outer s H:=⟨e.frames,e.mod,e.bs,e.bsz,e.funs,e.frf,e.hok,e.bare⟩
section
variable {X:Cx}{pins:List (Addr×Obj)}{σ:St}{H:Hp}{s s':Shared}
theorem Inv.env0 (I:Inv X pins σ H s):Env0 X.prog X.w X.K X.mg X.base X.A X.stack s H:=
  ⟨I.ok.frames,I.ok.mod,I.bs,Nat.le_trans I.ok.bsz I.sz,I.stack,I.stkFree,I.hok,I.bare⟩
theorem Inv.after {Q:VK}{u:Value}(I:Inv X pins σ H s) (h:CE X.stack X.prog X.w H s Q u s'):EP X pins σ Q u s':=by
  obtain⟨v,H',os,bare,un,hok,r,q⟩:=h
  obtain⟨hh,g,d,t,os'⟩:=s'
  obtain rfl:os'=s.os:=os
  exact⟨v,H',I.call (h':=hh) (g':=g) (d':=d) (t':=t) (ch:=[]) un hok bare (λb z=>absurd z (by simp)),r,q⟩
end
noncomputable def tCall (sp:Sp) (dvs:List V) (E:XK) (t:TA):TE:=fun σ H Q=>t σ H λvs H1=>sp (vs++dvs) H1 Q E
noncomputable def Binds (K:PySem.W.Frag) (fd:FuncData) (ps:List Str) (ds:List Value):Prop:=
  ∀(s:Shared) (us:List Value),K.In s.heap→(us++ds).length=ps.length→BindsTo s fd ⟨us,[]⟩ (ps.zip (us++ds))
theorem Binds.all {K:PySem.W.Frag}{fd:FuncData}{ps:List Str}(h:∀us:List Value,us.length=ps.length→bindArgs fd ⟨us,[]⟩=pure (ps.zip us)):Binds K fd ps []:=λs us _ hl=>by
  rw [List.append_nil] at hl ⊢
  exact .of_eq (h us hl)
noncomputable def Passes (CX:CXT) (X:Cx) (E:XK):Prop:=∀(pins:List (Addr×Obj)) (σ:St) (H:Hp) (s:Shared) (e:Value) (s':Shared),Inv X pins σ H s→CX X.stack H s E e s'→X.xe e s'
section
variable {X:Cx}{CX:CXT}{k:Nat}{f C:Addr}{fd:FuncData}{ps:List Str}{sp:Sp}{dvs:List V}{ds:List Value}{E:XK}{x m:Str}{p pos apos:Pos}{e o:Expr}{es:List Expr}{ta:TE}{t:TA}
theorem run_fn {pins:List (Addr×Obj)}{σ:St}{H:Hp}{s:Shared}{Q:VK}{us:List Value}{vs:List V}(F:FnOk X.prog X.w X.K X.mg X.base CX k f fd ps sp) (hr:Room k X.A) (hb:Binds X.K fd ps ds) (hd:Vals dvs ds) (hx:Passes CX X E)
    (I:Inv X pins σ H s) (r:Vals vs us) (h:sp (vs++dvs) H Q E):wpAny (model X.prog X.w) X.A (call (.ref f) us) (EP X pins σ Q) X.xe s:=by
  have r2:Vals (vs++dvs) (us++ds):=r.append hd
  have hl:(us++ds).length=ps.length:=by rw [←r2.length];exact F.len _ _ _ _ h
  refine wpAny_call (codeAny_mono (F.run X.A X.stack s H ⟨us,[]⟩ (us++ds) (vs++dvs) Q E hr I.env0 (hb s us I.kIn hl) r2 h) λr s' hq=>?_)
  cases r with
  | error e=>exact hx pins σ H s e s' I hq
  | ok fl =>
    cases fl with
    | ret u=>exact I.after hq
    | next=>exact False.elim hq
    | brk=>exact False.elim hq
    | cont=>exact False.elim hq
theorem pe_call (F:FnOk X.prog X.w X.K X.mg X.base CX k f fd ps sp) (hr:Room k X.A) (hg:Gl X x) (hm:X.mg x=some (.ref f)) (hk:PySem.W.keepIn X.K (.ref f)=true) (hb:Binds X.K fd ps ds) (hd:Vals dvs ds) (hx:Passes CX X E)
    (ha:PA X (e::es) t) (hdb:(x == ("__debug__":Str))=false:=by decide) (he:starEach (e::es) X.env=(false,eval e X.env)::starEach es X.env:=by rfl) (hpl:(backTo pos (starEach es X.env)).any (·.1)=false:=by rfl) :
    PE X (.Call (.Name x p) (e::es) [] pos) (tCall sp dvs E t):=by
  intro pins s σ H Q I h
  refine wpAny_Call_Name_kw (ld_glob I hg hm ?_ hdb)
  refine PySem.W.callWith_K (h₀:=X.base) I.ok.mod.kin hk (thn (ha pos pins s σ H _ I h) λus s1 ⟨vs,H1,I1,r,q⟩=>⟨I1.kIn,?_⟩) he hpl
  exact run_fn F hr hb hd hx I1 r q
structure Mk (K:PySem.W.Frag) (C f:Addr):Prop where
  makes:PySem.W.makesIn K C=true
  init:PySem.W.findIn K (.ref C) "__init__"=some (some (.ref f))
  fn:PySem.W.isFn K (.ref f)=true
  kp:PySem.W.keepIn K (.ref C)=true
end
noncomputable def PK (X:Cx) (kws:List Keyword) (t:TA):Prop:=
  ∀(pos:Pos) (pins:List (Addr×Obj)) (s:Shared) (σ:St) (H:Hp) (Q:List V→Hp→Prop),Inv X pins σ H s→t σ H Q→wpAny (model X.prog X.w) X.A (evalAll ((backToKw pos (keywordEach kws X.env)).map (·.2))) (AP X pins σ Q) X.xe s
section
variable {X:Cx}{CX:CXT}{k:Nat}{f C:Addr}{fd:FuncData}{ps ks:List Str}{sp:Sp}{E:XK}{x m:Str}{p pos apos kpos:Pos}{e o:Expr}{es:List Expr}{kws:List Keyword}{te ta:TE}{t tk:TA}{nm:Option Str}
theorem pk_nil:PK X [] tNil:=λ_ _ _ _ H Q I h=>wpAny_evalAll_nil ⟨[],H,I,.nil,h⟩
theorem pk_cons (ha:PE X e te) (hr:PK X kws t):PK X (⟨nm,e,kpos⟩::kws) (tCons te t):=by
  intro pos pins s σ H Q I h
  show wpAny _ _ (evalAll ((do let v ←eval e X.env;standAt pos;pure v)::(backToKw pos (keywordEach kws X.env)).map (·.2))) _ _ s
  refine wpAny_evalAll_cons (wpAny_bind (thn (ha pins s σ H _ I h) λu s1 ⟨x,H1,I1,r1,q1⟩=>wpAny_bind (wpAny_standAt (wpAny_pure ?_))))
  exact thn (hr pos pins s1 σ H1 _ I1 q1) λus s2 ⟨xs,H2,I2,r2,q2⟩=>⟨x::xs,H2,I2,.cons r1 r2,q2⟩
structure KBinds (K:PySem.W.Frag) (fd:FuncData) (ps ks:List Str) (g:List Value→List Value→List Value) (gV:List V→List V→List V):Prop where
  to:∀(s:Shared) (us ws:List Value),K.In s.heap→(g us ws).length=ps.length→BindsTo s fd ⟨us,ks.zip ws⟩ (ps.zip (g us ws))
  rel:∀{vs:List V} {us:List Value} {zs:List V} {ws:List Value},Vals vs us→Vals zs ws→Vals (gV vs zs) (g us ws)
variable {g:List Value→List Value→List Value}{gV:List V→List V→List V}
end
structure FnScope (N P:List Str) (sc:Scope):Prop where
  kind:sc.kind=.function
  co:sc.isCoroutine=false
  gen:sc.isGenerator=false
  nd:N.Nodup
  pre:N.take P.length=P
  par:∀x∈P,sc.names.lookup x=some .local∨sc.names.lookup x=some .cell
  nofree:∀y∈sc.names,y.2≠.free
theorem bindL_out {kindOf:Str→Option NameKind}{x:Str}:∀{binds:List (Str×Value)}{m:Str→Option Value},(∀v,(x,v)∉binds)→bindL kindOf binds m x=m x
  | [],_,_=>rfl
  | (n,v)::r,m,h=>by
    unfold bindL
    rw [bindL_out λw hw=>h w (List.mem_cons_of_mem _ hw)]
    split
    · have:x≠n:=by rintro rfl;exact h v List.mem_cons_self
      simp [this]
    · rfl
theorem bindC_out {kindOf:Str→Option NameKind}{x:Str}:∀{binds:List (Str×Value)}{m:Str→Option Value},(∀v,(x,v)∉binds)→bindC kindOf binds m x=m x
  | [],_,_=>rfl
  | (n,v)::r,m,h=>by
    unfold bindC
    rw [bindC_out λw hw=>h w (List.mem_cons_of_mem _ hw)]
    split
    · rfl
    · have:x≠n:=by rintro rfl;exact h v List.mem_cons_self
      simp [this]
theorem bindL_get {kindOf:Str→Option NameKind}{x:Str}{v:Value}:∀{P:List Str}{vs:List Value}{i:Nat}{m:Str→Option Value},P.Nodup→P[i]?=some x→vs[i]?=some v→kindOf x=some .local →
    bindL kindOf (P.zip vs) m x=some v
  | [],_,_,_,_,h,_,_=>by simp at h
  | _::_,[],_,_,_,_,h,_=>by simp at h
  | p::P,w::vs,0,m,nd,h1,h2,hk=>by
    simp at h1 h2;subst h1;subst h2
    show bindL kindOf ((p,w)::P.zip vs) m p=_
    unfold bindL
    rw [bindL_out λv hv=>(List.nodup_cons.mp nd).1 (List.of_mem_zip hv).1,if_pos hk]
    simp
  | p::P,w::vs,i+1,m,nd,h1,h2,hk=>by
    show bindL kindOf ((p,w)::P.zip vs) m x=_
    unfold bindL
    exact bindL_get (i:=i) (List.nodup_cons.mp nd).2 (by simpa using h1) (by simpa using h2) hk
theorem bindC_get {kindOf:Str→Option NameKind}{x:Str}{v:Value}:∀{P:List Str}{vs:List Value}{i:Nat}{m:Str→Option Value},P.Nodup→P[i]?=some x→vs[i]?=some v→kindOf x≠some .local →
    bindC kindOf (P.zip vs) m x=some v
  | [],_,_,_,_,h,_,_=>by simp at h
  | _::_,[],_,_,_,_,h,_=>by simp at h
  | p::P,w::vs,0,m,nd,h1,h2,hk=>by
    simp at h1 h2;subst h1;subst h2
    show bindC kindOf ((p,w)::P.zip vs) m p=_
    unfold bindC
    rw [bindC_out λv hv=>(List.nodup_cons.mp nd).1 (List.of_mem_zip hv).1,if_neg hk]
    simp
  | p::P,w::vs,i+1,m,nd,h1,h2,hk=>by
    show bindC kindOf ((p,w)::P.zip vs) m x=_
    unfold bindC
    exact bindC_get (i:=i) (List.nodup_cons.mp nd).2 (by simpa using h1) (by simpa using h2) hk
noncomputable def start (N:List Str) (vs:List V):St:=vs.map some++List.replicate (N.length - vs.length) none
noncomputable def cxOf (CX:CXT) (P:Program) (w:World) (K:PySem.W.Frag) (mg:Str→Option Value) (base:Heap) (N:List Str) (qual:Str) (scope:Scope) (f:Addr) (cd:Value) (A:Around) (outer:List Env) (s:Shared) (H:Hp) (E:XK):Cx where
  prog:=P
  w:=w
  K:=K
  mg:=mg
  base:=base
  A:=A.deeper (envOfC qual scope s.heap.objs.size f cd)
  N:=N
  s₀:=s
  H₀:=H
  env:=envOfC qual scope s.heap.objs.size f cd
  outer:=outer
  stack:=envOfC qual scope s.heap.objs.size f cd::outer
  ex:=[]
  calm:=true
  fn:=λ_=>true
  pn:=[]
  xe:=λe s'=>wpAny (model P w) (A.deeper (envOfC qual scope s.heap.objs.size f cd)) (leaving (envOfC qual scope s.heap.objs.size f cd) e) (λ_ s''=>CX outer H s E e s'') (λe' s''=>CX outer H s E e' s'') s'
theorem cell_has {sc:Scope}{n:Nat}{x:Str}(h:sc.names.lookup x=some .cell):∃c,(cellsFrom n sc.names []).lookup x=some c:=by
  have q:=PySem.W.cellsFrom_some sc.names n [] (.inl h)
  exact Option.isSome_iff_exists.mp q
theorem inv_start {CX:CXT}{P:Program}{w:World}{K:PySem.W.Frag}{mg:Str→Option Value}{base:Heap}{N ps:List Str}{qual:Str}{scope:Scope}{f:Addr}{cd:Value}{A:Around}{outer:List Env}{s s1:Shared}{H:Hp}{E:XK}{us:List Value}{vs:List V}
    (S:FnScope N ps scope) (hd:A.handled=none) (e0:Env0 P w K mg base A outer s H) (hl:vs.length=ps.length) (r:Vals vs us)
    (x:InCallC s s.heap.objs.size (bindL (envOfC qual scope s.heap.objs.size f cd).kindOf (ps.zip us) λ_=>none) (cellsFrom (s.heap.objs.size+1) scope.names []) (bindC (envOfC qual scope s.heap.objs.size f cd).kindOf (ps.zip us) λ_=>none) s1) :
    Inv (cxOf CX P w K mg base N qual scope f cd A outer s H E) [] (start N vs) H s1:=by
  have hpl:ps.length≤N.length:=by have:=congrArg List.length S.pre;rw [List.length_take] at this;omega
  obtain⟨h1,tk,rfl,hk⟩:=x.done
  have noA:∀b:Addr,b∉(cxOf CX P w K mg base N qual scope f cd A outer s H E).ex:=λb z=>absurd (show b∈([]:List Addr) from z) (by simp)
  refine⟨⟨e0.mod,S.kind,rfl,rfl,Nat.le_refl _,λy z c h1 h2=>?_,λy hy=>?_,λy c _ h=>?_,λ_=>hd,Around.frames_deeper e0.frames,.inr ⟨rfl,rfl⟩,λb z=>absurd z (noA b),e0.bs,e0.bsz,λb _ _=>noA b,λb z=>absurd z (noA b),e0.funs,e0.frf⟩,
    rfl,e0.bare,Un.kept hk,⟨_,x.toInCall.ns,λi y v h1 h2 h3=>?_⟩,λy c h=>⟨_,x.cell y c h⟩,e0.hok.fresh (Nat.le_refl _),λy c h=>?_,λp hp=>absurd (show p∈([]:List (Addr×Obj)) from hp) (by simp),e0.hok.kept hk,?_⟩
  · exact name_of_addr x.apart (PySem.mem_of_lookup h1) (PySem.mem_of_lookup h2)
  · have hy:scope.names.lookup y=some .cell∨scope.names.lookup y=some .free:=hy
    rcases hy with hy|hy
    · exact cell_has hy
    · exact absurd rfl (S.nofree _ (PySem.mem_of_lookup hy))
  · exact Nat.le_of_lt (x.above y c (PySem.mem_of_lookup h))
  · have hi:i<vs.length:=by
      unfold start at h2
      by_cases hi:i<vs.length
      · exact hi
      · rw [List.getElem?_append_right (by simpa using hi)] at h2
        rw [List.getElem?_replicate] at h2
        split at h2<;>cases h2
    have ha:vs[i]?=some v:=by
      unfold start at h2
      rw [List.getElem?_append_left (by simpa using hi),List.getElem?_map] at h2
      cases e:vs[i]? with
      | none=>rw [e] at h2;cases h2
      | some a=>rw [e] at h2;cases h2;rfl
    obtain⟨u,hu,rv⟩:=r.get ha
    have hp:ps[i]?=some y:=by
      rw [←S.pre,List.getElem?_take_of_lt (by omega)];exact h1
    have ndP:ps.Nodup:=by rw [←S.pre];exact S.nd.sublist (List.take_sublist _ _)
    refine⟨u,rv,?_⟩
    rcases S.par y (List.mem_of_getElem? hp) with k|k
    · exact .inl ⟨k,bindL_get ndP hp hu k⟩
    · obtain⟨c,e⟩:=cell_has (n:=s.heap.objs.size+1) k
      refine .inr ⟨.inl k,c,e,?_⟩
      have q:=x.cell y c e
      rw [bindC_get ndP hp hu (by show scope.names.lookup y≠_;rw [k];decide)] at q
      exact q
  · exact e0.hok.fresh (Nat.le_of_lt (x.above y c (PySem.mem_of_lookup h)))
  · unfold start
    show _=N.length
    rw [List.length_append,List.length_map,List.length_replicate]
    omega
theorem fn_of {CX:CXT}{P:Program}{w:World}{K:PySem.W.Frag}{mg:Str→Option Value}{base:Heap}{k:Nat}{f:Addr}{name qual:Str}{params:Arguments}{body:List Stmt}{scope:Scope}{dV kV doc pm cdv ct oc:Value}{an od:Option Addr}
    {osl:Array (Option Value)} {N ps:List Str} {sp:Sp} (lk:K.lookup f=some ⟨oc,od,.func (PySem.W.fnOf name qual params body scope dV kV doc pm an cdv ct),osl⟩) (hcd:PySem.W.codeIn K cdv qual=true) (S:FnScope N ps scope)
    (len:∀vs H Q E,sp vs H Q E→vs.length=ps.length)
    (hbody:∀(A:Around) (outer:List Env) (s:Shared) (H:Hp) (vs:List V) (Q:VK) (E:XK),Room k (A.deeper (envOfC qual scope s.heap.objs.size f cdv))→sp vs H Q E →
      ∃t,PSs (cxOf CX P w K mg base N qual scope f cdv A outer s H E) body t∧t { nx:=λ_ H'=>Q .non H',rt:=Q } (start N vs) H) :
    FnOk P w K mg base CX (k+1) f (PySem.W.fnOf name qual params body scope dV kV doc pm an cdv ct) ps sp:=by
  refine⟨len,λA outer s H args us vs Q E hr e0 hb r hsp=>?_⟩
  have hl:=len _ _ _ _ hsp
  have KX:K.In s.heap:=e0.mod.kin.keeps λb o e=>(e0.bs b o e).1
  have lim:s.heap.NoLimit:=e0.mod.nolimit.keeps λb o e=>(e0.bs b o e).1
  have hkind:∀y∈ps.zip us,scope.names.lookup y.1=some .local∨(scope.names.lookup y.1=some .cell∧((cellsFrom (s.heap.objs.size+1) scope.names []).lookup y.1).isSome=true):=λ⟨n,v⟩ hy=>by
    rcases S.par n (List.of_mem_zip hy).1 with q|q
    · exact .inl q
    · exact .inr ⟨q,PySem.W.cellsFrom_some _ _ _ (.inl q)⟩
  refine codeAny_call_function hr.depth (KX _ _ lk) rfl S.co S.gen rfl (PySem.W.codeRec_of KX hcd) (hb _ _ _ _ ?_)
  refine wpAny_newFunctionEnv_cells S.kind hkind λenv he s1 x=>?_
  subst he
  refine⟨lim.keeps x.toInCall.keep,codeAny_func ?_⟩
  obtain⟨t,ht,hq⟩:=hbody A outer s H vs Q E (hr.deeper _) hsp
  have I:Inv (cxOf CX P w K mg base N qual scope f cdv A outer s H E) [] (start N vs) H s1:=inv_start S hr.hd e0 hl r x
  refine wpAny_mono (ht [] s1 (start N vs) H _ I hq) (λfl s' hs=>?_) λe s' hs=>hs
  have fin:∀{σ':St} {H':Hp} {v:V} {u:Value},Inv (cxOf CX P w K mg base N qual scope f cdv A outer s H E) [] σ' H' s'→RelV v u→Q v H'→CE outer P w H s Q u s':=
    λ{σ' H' v u} J rv q=>⟨v,H',J.os,J.bare,J.base,J.hok,rv,q⟩
  cases fl with
  | ret u =>
    obtain⟨v,σ',H',J,rv,q⟩:=hs
    exact fin J rv q
  | next =>
    obtain⟨σ',H',J,q⟩:=hs
    exact fin (v:=V.non) (u:=Value.none) J rfl q
  | brk =>
    obtain⟨_,_,_,q⟩:=hs
    exact False.elim q
  | cont =>
    obtain⟨_,_,_,q⟩:=hs
    exact False.elim q
end L2
namespace L2
open PySem PySem.Spec PyProof.Rows
section
variable {X:Cx}{x:Str}{p pos:Pos}{e:Expr}{es:List Expr}{t:TA}{id T:String}{r:List V→Hp→VK→Prop}
noncomputable def tCB (r:List V→Hp→VK→Prop) (t:TA):TE:=fun σ H Q=>t σ H λvs H1=>r vs H1 Q
theorem pe_callB (hc:CallR X (.builtin id) r) (hg:Gl X x) (hm:X.mg x=none) (hv:bootBuiltins x=some (.builtin id)) (ha:PA X (e::es) t) (hn:x≠"__name__":=by decide) (hdb:(x == ("__debug__":Str))=false:=by decide)
    (he:starEach (e::es) X.env=(false,eval e X.env)::starEach es X.env:=by rfl) (hpl:(backTo pos (starEach es X.env)).any (·.1)=false:=by rfl):PE X (.Call (.Name x p) (e::es) [] pos) (tCB r t):=by
  intro pins s σ H Q I h
  refine wpAny_Call_Name_kw (ld_blt I hg hm hv ?_ hn hdb)
  exact PyProof.Rows.callWith_builtin1 (thn (ha pos pins s σ H _ I h) λus s1 ⟨vs,H1,I1,r1,q1⟩=>hc pins s1 σ H1 vs us Q I1 r1 q1) he hpl
theorem pe_callTy (hc:CallR X (.type T) r) (hg:Gl X x) (hm:X.mg x=none) (hv:bootBuiltins x=some (.type T)) (ha:PA X (e::es) t) (hn:x≠"__name__":=by decide) (hdb:(x == ("__debug__":Str))=false:=by decide)
    (he:starEach (e::es) X.env=(false,eval e X.env)::starEach es X.env:=by rfl) (hpl:(backTo pos (starEach es X.env)).any (·.1)=false:=by rfl):PE X (.Call (.Name x p) (e::es) [] pos) (tCB r t):=by
  intro pins s σ H Q I h
  refine wpAny_Call_Name_kw (ld_blt I hg hm hv ?_ hn hdb)
  exact PyProof.Rows.callWith_type1 (thn (ha pos pins s σ H _ I h) λus s1 ⟨vs,H1,I1,r1,q1⟩=>hc pins s1 σ H1 vs us Q I1 r1 q1) he hpl
end
end L2
namespace HT
open PySem PyProof.Rows
section
open PySem.SeqAt
open PySem.AutoSeq1 (wpAny_loadPart')
open PySem.MeetsSeq PySem.MeetsSeq2 PySem.MeetsSeq3
end
section
variable {prog:Program}{w:World}{A:Around}{E:Value→Shared→Prop}{s:Shared}
theorem cat_tup {t b:Addr}{vs ws:List Value}{Q:Value→Shared→Prop}(ht:IsTup s.heap t vs.toArray) (hb:IsTup s.heap b ws.toArray) (hv:vs≠[])
    (h1:ws=[]→Q (.ref t) s) (h2:ws≠[]→Q (.ref s.heap.objs.size) { s with heap:=s.heap.push { cls:=.type "tuple",data:=.seq (vs++ws).toArray } })
    (hsz:vs.length+ws.length≤sizeLine):wpAny (model prog w) A (binaryOp .Add (.ref t) (.ref b)) Q E s:=by
  obtain⟨⟨cls,dd,data,sl⟩,ho,hc,n,hd⟩:=id ht
  obtain⟨⟨cls2,dd2,data2,sl2⟩,ho2,hc2,n2,hd2⟩:=id hb
  simp only at hc hd hc2 hd2
  subst hc hd hc2 hd2
  have e:vs.toArray++ws.toArray=(vs++ws).toArray:=by simp
  by_cases hw:ws=[]
  · exact concat_meets ⟨_,ho,rfl⟩ ⟨_,ho2,rfl⟩ noFill_tuple_add seq_tuple_add PySem.F.slot_tuple_add PySem.F.entry_tuple_add (PySem.F.args_tuple_add_2 _ _)
      (tuple_addW1 t b vs.toArray ws.toArray n n2 dd dd2 sl sl2 (by simpa using hv) (by simp [hw])) ⟨ho,ho2,h1 hw⟩
  · refine concat_meets ⟨_,ho,rfl⟩ ⟨_,ho2,rfl⟩ noFill_tuple_add seq_tuple_add PySem.F.slot_tuple_add PySem.F.entry_tuple_add (PySem.F.args_tuple_add_2 _ _)
      (tuple_addW2 t b vs.toArray ws.toArray n n2 dd dd2 sl sl2 (by simpa using hv) (by simpa using hw) (by rw [List.size_toArray,List.size_toArray];exact hsz)) ⟨ho,ho2,?_⟩
    rw [e]
    exact h2 hw
noncomputable def sIx (n d:Nat):Option Int→Nat
  | none=>d
  | some v=>if v<0 then (v+(n:Int)).toNat else min v.toNat n
theorem sIx_le (n d:Nat) (hd:d≤n) (o:Option Int):sIx n d o≤n:=by
  cases o with
  | none=>exact hd
  | some v =>
    show (if v<0 then (v+(n:Int)).toNat else min v.toNat n)≤n
    by_cases hv:v<0
    · rw [if_pos hv];omega
    · rw [if_neg hv];exact Nat.min_le_right _ _
theorem clip_eq (v:Int) (n d:Nat):(if v<0 then max (v+(n:Int)) 0 else min v (n:Int))=((sIx n d (some v):Nat):Int):=by
  show (if v<0 then max (v+(n:Int)) 0 else min v (n:Int))=(((if v<0 then (v+(n:Int)).toNat else min v.toNat n):Nat):Int)
  by_cases hv:v<0
  · simp only [if_pos hv];omega
  · simp only [if_neg hv];omega
theorem adjust_gen (lo hi:Option Int) (n:Nat):Builtin.Slice.sliceAdjust lo hi 1 (n:Int)=(((sIx n 0 lo:Nat):Int),((sIx n n hi:Nat):Int)):=by
  have h1:¬((1:Int)<0):=by omega
  unfold Builtin.Slice.sliceAdjust
  simp only [h1,if_false]
  refine Prod.ext ?_ ?_
  · cases lo with
    | none=>rfl
    | some v=>exact clip_eq v n 0
  · cases hi with
    | none=>rfl
    | some v=>exact clip_eq v n n
theorem places_gen (i j:Nat):Builtin.Slice.slicePlaces (i:Int) (j:Int) 1=j - i:=by
  unfold Builtin.Slice.slicePlaces
  have h1:(1:Int) > 0:=by omega
  simp only [h1,if_true,Int.ediv_one]
  split<;>omega
theorem slicePart_ {v:Value}{o:Option Int}{Q:Option Int→Shared→Prop}(p:IsPart v o) (h:Q o s):wpAny (model prog w) A (Builtin.Slice.slicePartIndex v) Q E s:=by
  cases p with
  | none=>exact slicePart_none h
  | int i t=>exact slicePart_int h
theorem sliceApplied_gen {sl:Addr}{vl vu:Value}{lo hi:Option Int}{n:Nat}{Q:Int×Int×Nat→Shared→Prop}(hs:s.heap.IsSliceOf sl vl vu .none) (pl:IsPart vl lo) (pu:IsPart vu hi)
    (h:Q (((sIx n 0 lo:Nat):Int),1,sIx n n hi - sIx n 0 lo) s):wpAny (model prog w) A (Builtin.Slice.sliceApplied (.ref sl) (pure (n:Int))) Q E s:=by
  obtain⟨os,hos,hcs,hds⟩:=id hs
  unfold Builtin.Slice.sliceApplied Builtin.Slice.sliceFields
  refine wpAny_bind (wpAny_bind (wpAny_field hos hds (x:=vl) rfl (wpAny_bind (wpAny_field hos hds (x:=vu) rfl (wpAny_bind (wpAny_field hos hds (x:=.none) rfl (wpAny_pure ?_)))))))
  refine wpAny_bind (slicePart_none ?_)
  show wpAny _ _ (if ((1:Int) == 0)=true then _ else _) _ _ s
  rw [if_neg (by decide)]
  refine wpAny_bind (slicePart_ pl (wpAny_bind (slicePart_ pu (wpAny_bind (wpAny_pure ?_)))))
  show wpAny _ _ (match Builtin.Slice.sliceAdjust lo hi 1 (n:Int) with|(lo,hi)=>pure (lo,(1:Int),Builtin.Slice.slicePlaces lo hi 1)) _ _ s
  rw [adjust_gen lo hi n]
  show wpAny _ _ (pure (((sIx n 0 lo:Nat):Int),(1:Int),Builtin.Slice.slicePlaces ((sIx n 0 lo:Nat):Int) ((sIx n n hi:Nat):Int) 1)) _ _ s
  rw [places_gen]
  exact wpAny_pure h
theorem pick_gen (xs:Array Value) (i k:Nat):((List.range k).filterMap λ(m:Nat)=>xs[((i:Int)+(m:Int) * 1).toNat]?).toArray=((xs.toList.drop i).take k).toArray:=by
  have e:(λ(m:Nat)=>xs[((i:Int)+(m:Int) * 1).toNat]?)=λm=>xs[i+m]?:=by
    funext m
    have:((i:Int)+(m:Int) * 1).toNat=i+m:=by omega
    rw [this]
  rw [e]
  have:=pick_run xs i k
  rw [List.filterMap_map] at this
  have e2:((λx=>xs[x]?) ∘ λx=>i+x)=λm=>xs[i+m]?:=rfl
  rw [e2] at this
  rw [this]
theorem getItem_tuple_cut {t sl:Addr}{items:Array Value}{vl vu:Value}{lo hi:Option Int}{Q:Value→Shared→Prop}(ht:IsTup s.heap t items) (hs:s.heap.IsSliceOf sl vl vu .none) (pl:IsPart vl lo) (pu:IsPart vu hi)
    (hw:¬(sIx items.size 0 lo=0∧sIx items.size items.size hi=items.size))
    (h:Q (.ref s.heap.objs.size) { s with heap:=s.heap.push { cls:=.type "tuple",data:=.seq ((items.toList.drop (sIx items.size 0 lo)).take (sIx items.size items.size hi - sIx items.size 0 lo)).toArray } })
    (hsz:items.size≤sizeLine):wpAny (model prog w) A (getItem (.ref t) (.ref sl)) Q E s:=by
  have htake:sizeOk (.seq ((items.toList.drop (sIx items.size 0 lo)).take (sIx items.size items.size hi - sIx items.size 0 lo)).toArray):=by
    show ((items.toList.drop (sIx items.size 0 lo)).take (sIx items.size items.size hi - sIx items.size 0 lo)).toArray.size≤sizeLine
    rw [List.size_toArray,List.length_take,List.length_drop,Array.length_toList]
    omega
  have hj:sIx items.size items.size hi≤items.size:=sIx_le _ _ (Nat.le_refl _) hi
  obtain⟨os,hos,hcs,hds⟩:=id hs
  have hTs:s.TypeIs (.ref sl) "slice":=⟨os,hos,hcs⟩
  unfold getItem
  try with_reducible refine wpAny_holding ?_
  first|refine wpAny_bind (wpAny_pure ?_)|skip
  refine wpAny_bind (wpAny_sequenceKey ht.typeIs (by decide) ?_)
  refine wpAny_bind (wpAny_callSpecial?_slot (name:=Str.ofString "__getitem__") ht.typeIs PyProof.Rows.slot_tuple_getitem
    (wpAny_call_entry PyProof.Rows.slot_tuple_getitem ht.typeIs entry_tuple_getitem ?_ (args_tuple_getitem _ _)))
  show wpAny _ _ (Builtin.Tuple.tupleItemsOf (.ref t) >>= _) _ _ s
  refine wpAny_bind (tupleItemsOf_ ht ?_)
  refine wpAny_bind (wpAny_typeOf hTs ?_)
  rw [if_pos (by decide)]
  refine wpAny_bind (sliceApplied_gen hs pl pu ?_)
  have hno:¬((((sIx items.size 0 lo:Nat):Int) == 0&&(1:Int) == 1&&(sIx items.size items.size hi - sIx items.size 0 lo) == items.size)=true):=by
    intro q
    rw [Bool.and_eq_true,Bool.and_eq_true] at q
    have q1:((sIx items.size 0 lo:Nat):Int)=0:=eq_of_beq q.1.1
    have q2:sIx items.size items.size hi - sIx items.size 0 lo=items.size:=eq_of_beq q.2
    exact hw ⟨by omega,by omega⟩
  show wpAny _ _ (if (((sIx items.size 0 lo:Nat):Int) == 0&&(1:Int) == 1&&(sIx items.size items.size hi - sIx items.size 0 lo) == items.size)=true then _ else _) _ _ s
  rw [if_neg hno,pick_gen]
  first
    | exact wpAny_bind (m:=Builtin.Tuple.tupleExact _) (wpAny_newObj_type (wpAny_pure ⟨_,rfl,wpAny_pure h⟩) htake)
    | exact wpAny_bind (m:=Builtin.Tuple.tupleExact _) (wpAny_newObj_type (wpAny_bind (wpAny_pure (wpAny_pure ⟨_,rfl,wpAny_pure h⟩))) htake)
    | exact wpAny_bind (wpAny_bind (m:=Builtin.Tuple.tupleExact _) (wpAny_newObj_type (wpAny_pure (wpAny_pure ⟨_,rfl,wpAny_pure h⟩)) htake))
    | exact wpAny_bind (wpAny_bind (m:=Builtin.Tuple.tupleExact _) (wpAny_newObj_type (wpAny_pure ⟨_,rfl,wpAny_pure h⟩) htake))
end
end HT
namespace L2
open PySem PySem.Spec PyProof.Rows
noncomputable abbrev TO:=St→Hp→(Option Int→Hp→Prop)→Prop
noncomputable def PO (X:Cx) (e:Option Expr) (t:TO):Prop:=
  ∀(pins:List (Addr×Obj)) (s:Shared) (σ:St) (H:Hp) (Q:Option Int→Hp→Prop),Inv X pins σ H s→t σ H Q →
    wpAny (model X.prog X.w) X.A (evalPart e X.env) (λu s'=>∃o H',Inv X pins σ H' s'∧IsPart u o∧Q o H') X.xe s
noncomputable def tNoPart:TO:=λ_ H Q=>Q none H
noncomputable def tPart (t:TE):TO:=fun σ H Q=>t σ H λx H1=>∃i,x=.int i∧Q (some i) H1
section
variable {X:Cx}{e:Expr}{te:TE}{lo hi:Option Expr}{tl th:TO}{pos p2:Pos}
theorem po_none:PO X none tNoPart:=by
  intro pins s σ H Q I h
  rw [evalPart_none]
  exact wpAny_pure ⟨none,H,I,.none,h⟩
theorem po_some (h:PE X e te):PO X (some e) (tPart te):=by
  intro pins s σ H Q I hw
  rw [evalPart_some]
  refine thn (h pins s σ H _ I hw) λu s1 ⟨x,H1,I1,r1,q1⟩=>?_
  obtain⟨i,rfl,q⟩:=q1
  obtain⟨t,rfl⟩:=r1
  exact⟨some i,H1,I1,.int i t,q⟩
noncomputable def SlR (X:Cx) (r:V→Option Int→Option Int→Hp→VK→Prop):Prop:=
  ∀(pins:List (Addr×Obj)) (s:Shared) (σ:St) (H:Hp) (x:V) (v vl vu:Value) (lo hi:Option Int) (sl:Addr) (Q:VK),Inv X pins σ H s→RelV x v→s.heap.IsSliceOf sl vl vu .none→IsPart vl lo→IsPart vu hi→r x lo hi H Q →
    ∃T id,typeLookup (.type T) "__getitem__"=pure (some (.builtin id))∧s.TypeIs v T∧wpAny (model X.prog X.w) X.A (getItem v (.ref sl)) (EP X pins σ Q) X.xe s
theorem SlR.or {r r':V→Option Int→Option Int→Hp→VK→Prop}(h:SlR X r) (h':SlR X r'):SlR X (λx lo hi H Q=>r x lo hi H Q∨r' x lo hi H Q):=by
  intro pins s σ H x v vl vu lo hi sl Q I rx hs pl pu q
  rcases q with q|q
  · exact h pins s σ H x v vl vu lo hi sl Q I rx hs pl pu q
  · exact h' pins s σ H x v vl vu lo hi sl Q I rx hs pl pu q
noncomputable def tSl (r:V→Option Int→Option Int→Hp→VK→Prop) (te:TE) (tl th:TO):TE:=fun σ H Q=>te σ H λx H1=>tl σ H1 λl H2=>th σ H2 λu H3=>r x l u H3 Q
theorem pe_slice {r:V→Option Int→Option Int→Hp→VK→Prop}(hr:SlR X r) (he:PE X e te) (hl:PO X lo tl) (hu:PO X hi th):PE X (.Subscript e (.Slice lo hi none p2) pos) (tSl r te tl th):=by
  intro pins s σ H Q I h
  refine Subscript_ (thn (he pins s σ H _ I h) λv s1 ⟨x,H1,I1,r1,q1⟩=>?_)
  refine wpAny_Slice (thn (hl pins s1 σ H1 _ I1 q1) λvl s2 ⟨l,H2,I2,pl,q2⟩=>thn (hu pins s2 σ H2 _ I2 q2) λvu s3 ⟨u,H3,I3,pu,q3⟩=>?_)
  rw [evalPart_none]
  refine wpAny_pure ?_
  have I4:Inv X pins σ H3 { s3 with heap:=s3.heap.push { cls:=.type "slice",data:=.fields #[vl,vu,.none] } }:=I3.kept (t':=s3.toks) λb ob q=>Heap.get?_push_of_some _ q
  obtain⟨T,id,hT,ht,hg⟩:=hr pins { s3 with heap:=s3.heap.push { cls:=.type "slice",data:=.fields #[vl,vu,.none] } } σ H3 x v vl vu l u s3.heap.objs.size Q I4 r1 (Heap.IsSliceOf.new ..) pl pu q3
  show wpAny (model X.prog X.w) X.A (subscriptTail e (.Slice lo hi none p2) v (.ref s3.heap.objs.size)) (EP X pins σ Q) X.xe { s3 with heap:=s3.heap.push { cls:=.type "slice",data:=.fields #[vl,vu,.none] } }
  exact tail_any (ops:=[.ref s3.heap.objs.size,v]) ht hT hg (by with_unfolding_all rfl)
noncomputable def cutV (xs:List V) (lo hi:Option Int):List V:=(xs.drop (HT.sIx xs.length 0 lo)).take (HT.sIx xs.length xs.length hi - HT.sIx xs.length 0 lo)
theorem cutV_length (xs:List V) (lo hi:Option Int):(cutV xs lo hi).length≤xs.length:=by
  unfold cutV
  rw [List.length_take,List.length_drop]
  omega
noncomputable def rSlT (K:PySem.W.Frag):V→Option Int→Option Int→Hp→VK→Prop:=λx lo hi H Q=>∃a xs,x=.ref a∧SqT K H a xs ∧
  ¬(HT.sIx xs.length 0 lo=0∧HT.sIx xs.length xs.length hi=xs.length)∧∀p,H p=none→Q (.ref p) (upd H p (.tup (cutV xs lo hi)))
theorem sl_tup:SlR X (rSlT X.K):=by
  intro pins s σ H x v vl vu lo hi sl Q I rx hs pl pu h
  obtain⟨a,xs,rfl,hx,hw,q⟩:=h
  cases rx
  obtain⟨its,r,ht,hz⟩:=I.tuple hx
  have hlen:its.toArray.size=xs.length:=by rw [List.size_toArray];exact r.length.symm
  refine⟨"tuple",_,PyProof.Rows.slot_tuple_getitem.lookup,ht.typeIs,?_⟩
  refine HT.getItem_tuple_cut ht hs pl pu (by rw [hlen];exact hw) ?_ (by rw [hlen];exact hz)
  rw [hlen]
  refine⟨.ref s.heap.objs.size,_,I.laid (t':=s.toks) (o:=.tup (cutV xs lo hi)) (λb ob q=>Heap.get?_push_of_some _ q) (Nat.le_refl _) ?_,rfl,q _ (I.hok.fresh (Nat.le_refl _))⟩
  exact⟨Nat.le_trans (cutV_length xs lo hi) hz,_,(r.drop (HT.sIx xs.length 0 lo)).take (HT.sIx xs.length xs.length hi - HT.sIx xs.length 0 lo),IsTup.new _ _⟩
noncomputable def rCatT (K:PySem.W.Frag):R2:=λx y H Q=>∃a b xs ys,x=.ref a∧y=.ref b∧SqT K H a xs∧SqT K H b ys∧xs≠[]∧xs.length+ys.length≤sizeLine ∧
  (ys=[]→Q (.ref a) H)∧(ys≠[]→∀p,H p=none→Q (.ref p) (upd H p (.tup (xs++ys))))
theorem Vals.nil_iff {xs:List V}{us:List Value}(r:Vals xs us):us=[]↔xs=[]:=by
  cases r with
  | nil=>simp
  | cons _ _=>simp
theorem op_catT:OpR X (binaryOp .Add) (rCatT X.K):=by
  intro pins s σ H x y v u Q I rx ry h
  obtain⟨a,b,xs,ys,rfl,rfl,ha,hb,hx,hz,q1,q2⟩:=h
  cases rx
  cases ry
  obtain⟨its,r1,p1,_⟩:=I.tuple ha
  obtain⟨its2,r2,p2,_⟩:=I.tuple hb
  refine HT.cat_tup p1 p2 (λz=>hx (r1.nil_iff.mp z)) (λz=>⟨.ref a,H,I,rfl,q1 (r2.nil_iff.mp z)⟩) (λz=>?_) (by rw [←r1.length,←r2.length];exact hz)
  refine⟨.ref s.heap.objs.size,_,I.laid (t':=s.toks) (o:=.tup (xs++ys)) (λb ob q=>Heap.get?_push_of_some _ q) (Nat.le_refl _) ?_,rfl,q2 (λw=>z (r2.nil_iff.mpr w)) _ (I.hok.fresh (Nat.le_refl _))⟩
  exact⟨by rw [List.length_append];exact hz,_,r1.append r2,IsTup.new _ _⟩
end
end L2
namespace L2
open PySem PySem.Spec PyProof.Rows
noncomputable def ixN (n:Nat) (i:Int):Option Nat:=if 0≤i then (if i<n then some i.toNat else none) else if -(n:Int)≤i then some (i+n).toNat else none
noncomputable def atI {α:Type}(xs:List α) (i:Int):Option α:=(ixN xs.length i).bind λj=>xs[j]?
theorem ixN_seq {n:Nat}{i:Int}{j:Nat}(h:ixN n i=some j):seqIndex? i n=some j∧j<n∧-(n:Int)≤i∧i<n:=by
  unfold ixN at h
  by_cases h0:0≤i
  · rw [if_pos h0] at h
    by_cases h1:i<n
    · rw [if_pos h1] at h
      have e:i.toNat=j:=Option.some.inj h
      exact⟨by rw [seqIndex_of h0 h1,e],by omega,by omega,h1⟩
    · rw [if_neg h1] at h;cases h
  · rw [if_neg h0] at h
    by_cases h1:-(n:Int)≤i
    · rw [if_pos h1] at h
      have e:(i+n).toNat=j:=Option.some.inj h
      exact⟨by rw [seqIndex_neg (by omega) h1,e],by omega,h1,by omega⟩
    · rw [if_neg h1] at h;cases h
theorem atI_get {α:Type}{xs:List α}{i:Int}{v:α}(h:atI xs i=some v):∃j,seqIndex? i xs.length=some j∧xs[j]?=some v∧j<xs.length∧-(xs.length:Int)≤i∧i<xs.length:=by
  unfold atI at h
  cases e:ixN xs.length i with
  | none=>rw [e] at h;cases h
  | some j =>
    rw [e] at h
    obtain⟨h1,h2,h3,h4⟩:=ixN_seq e
    exact⟨j,h1,h,h2,h3,h4⟩
noncomputable def PlainIx (b:Expr):Prop:=∀o i,subscripted b false o i=operate [o,i] (getItem o i)
noncomputable def IxR (X:Cx) (r:R2):Prop:=
  ∀(value slice:Expr) (pins:List (Addr×Obj)) (s:Shared) (σ:St) (H:Hp) (x y:V) (v u:Value) (Q:VK),Inv X pins σ H s→RelV x v→RelV y u→r x y H Q →
    subscripted slice false v u=operate [v,u] (getItem v u)→wpAny (model X.prog X.w) X.A (subscriptTail value slice v u) (EP X pins σ Q) X.xe s
noncomputable def MtR (X:Cx) (id:String) (r:V→List V→Hp→VK→Prop):Prop:=
  ∀(pins:List (Addr×Obj)) (s:Shared) (σ:St) (H:Hp) (x:V) (xs:List V) (v:Value) (us:List Value) (Q:VK),Inv X pins σ H s→RelV x v→Vals xs us→r x xs H Q →
    wpAny (model X.prog X.w) X.A (call (.builtin id) (v::us)) (EP X pins σ Q) X.xe s
section
variable {X:Cx}{a b:Expr}{ta tb:TE}{pos:Pos}
theorem IxR.or {r r':R2}(h:IxR X r) (h':IxR X r'):IxR X (λx y H Q=>r x y H Q∨r' x y H Q):=by
  intro value slice pins s σ H x y v u Q I rx ry q hs
  rcases q with q|q
  · exact h value slice pins s σ H x y v u Q I rx ry q hs
  · exact h' value slice pins s σ H x y v u Q I rx ry q hs
theorem MtR.or {id:String}{r r':V→List V→Hp→VK→Prop}(h:MtR X id r) (h':MtR X id r'):MtR X id (λx xs H Q=>r x xs H Q∨r' x xs H Q):=by
  intro pins s σ H x xs v us Q I rx rs q
  rcases q with q|q
  · exact h pins s σ H x xs v us Q I rx rs q
  · exact h' pins s σ H x xs v us Q I rx rs q
theorem pe_ix {r:R2}(hr:IxR X r) (ha:PE X a ta) (hb:PE X b tb) (hs:PlainIx b):PE X (.Subscript a b pos) (tOp r ta tb):=by
  intro pins s σ H Q I h
  exact Subscript_ (binT ha hb I h λv u s2 x y H2 I2 rx ry q=>hr a b pins s2 σ H2 x y v u Q I2 rx ry q (hs _ _))
noncomputable def rIxL (K:PySem.W.Frag):R2:=λx y H Q=>∃p xs i v,x=.ref p∧y=.int i∧SqL K H p xs∧atI xs i=some v∧Q v H
noncomputable def rIxT (K:PySem.W.Frag):R2:=λx y H Q=>∃p xs i v,x=.ref p∧y=.int i∧SqT K H p xs∧atI xs i=some v∧Q v H
theorem ix_list:IxR X (rIxL X.K):=by
  intro value slice pins s σ H x y v u Q I rx ry h hs
  obtain⟨p,xs,i,z,rfl,rfl,hq,he,q⟩:=h
  cases rx
  obtain⟨t,rfl⟩:=ry
  obtain⟨its,r,pl,hz⟩:=I.list hq
  obtain⟨j,h1,h2,h3,h4,h5⟩:=atI_get he
  obtain⟨w,ew,rw'⟩:=r.get h2
  have hl:=r.length
  have hn:=line63
  have fin:EP X pins σ Q w s:=⟨z,H,I,rw',q⟩
  by_cases h0:0≤i
  · have hj:i.toNat=j:=by
      rw [seqIndex_of h0 h5] at h1
      exact Option.some.inj h1
    exact item_listR pl.isList h0 (by omega) (by rw [hj];simpa using ew) fin hs
  · have hj:(i+(its.toArray.size:Int)).toNat=j:=by
      rw [seqIndex_neg (by omega) h4] at h1
      rw [List.size_toArray,←hl]
      exact Option.some.inj h1
    exact subscriptTail_builtinR (x:=w) pl.isList.typeIs slot_list_getitem.lookup
      (wpAny_getItem_list_neg (Q:=λr s'=>r=w∧EP X pins σ Q r s') pl.isList (by omega) (by rw [List.size_toArray]<;>omega) (by omega) (by rw [hj];simpa using ew) ⟨rfl,fin⟩) hs
theorem ix_tup:IxR X (rIxT X.K):=by
  intro value slice pins s σ H x y v u Q I rx ry h hs
  obtain⟨p,xs,i,z,rfl,rfl,hq,he,q⟩:=h
  cases rx
  obtain⟨t,rfl⟩:=ry
  obtain⟨its,r,pl,hz⟩:=I.tuple hq
  obtain⟨j,h1,h2,h3,h4,h5⟩:=atI_get he
  obtain⟨w,ew,rw'⟩:=r.get h2
  have hl:=r.length
  have hn:=line63
  have fin:EP X pins σ Q w s:=⟨z,H,I,rw',q⟩
  exact subscriptTail_builtinR (x:=w) pl.typeIs slot_tuple_getitem.lookup
    (getItem_tuple (j:=j) (Q:=λr s'=>r=w∧EP X pins σ Q r s') pl (by omega) (by omega) (by rw [List.size_toArray,←hl];exact h1) (by simpa using ew) ⟨rfl,fin⟩) hs
theorem Inv.lst {pins:List (Addr×Obj)}{σ:St}{H:Hp}{s:Shared}{p:Addr}{xs:List V}(I:Inv X pins σ H s) (h:H p=some (.lst xs)) :
    ∃(its:List Value) (n:Nat),Vals xs its∧s.heap.get? p=some { cls:=.type "list",data:=.seq its.toArray n }∧xs.length≤sizeLine:=by
  obtain⟨z,its,n,r,e⟩:=I.hok p _ h
  exact⟨its,n,r,e,z⟩
theorem slice_bounds (lo hi:Option Int) (n:Nat):(sliceBounds lo hi none n).1=((HT.sIx n 0 lo:Nat):Int)∧(sliceBounds lo hi none n).2.1=((HT.sIx n n hi:Nat):Int)∧(sliceBounds lo hi none n).2.2=1:=by
  refine⟨?_,?_,rfl⟩
  · cases lo with
    | none=>simp [sliceBounds,HT.sIx]
    | some i =>
      simp only [sliceBounds,HT.sIx,Option.getD_none,show (1:Int) > 0 by decide,if_true]
      by_cases h:i<0
      · simp only [h,if_true]<;>omega
      · simp only [h,if_false]<;>omega
  · cases hi with
    | none=>simp [sliceBounds,HT.sIx]
    | some i =>
      simp only [sliceBounds,HT.sIx,Option.getD_none,show (1:Int) > 0 by decide,if_true]
      by_cases h:i<0
      · simp only [h,if_true]<;>omega
      · simp only [h,if_false]<;>omega
theorem slicePick_cut (its:List Value) (lo hi:Option Int):slicePick its.toArray lo hi none=((its.drop (HT.sIx its.length 0 lo)).take (HT.sIx its.length its.length hi - HT.sIx its.length 0 lo)).toArray:=by
  obtain⟨h1,h2,h3⟩:=slice_bounds lo hi its.toArray.size
  unfold slicePick
  rw [h1,h2,h3]
  simp only [sliceRange_one,pick_run,List.size_toArray]<;>rfl
noncomputable def rSlL (K:PySem.W.Frag):V→Option Int→Option Int→Hp→VK→Prop:=λx lo hi H Q=>∃a xs,x=.ref a∧SqL K H a xs∧∀p,H p=none→Q (.ref p) (upd H p (.lst (cutV xs lo hi)))
theorem sl_list:SlR X (rSlL X.K):=by
  intro pins s σ H x v vl vu lo hi sl Q I rx hs pl pu h
  obtain⟨a,xs,rfl,hx,q⟩:=h
  cases rx
  obtain⟨its,r,ht,hz⟩:=I.list hx
  have hlen:=r.length
  refine⟨"list",_,slot_list_getitem.lookup,ht.isList.typeIs,?_⟩
  refine wpAny_getItem_list_slice ht.isList hs pl pu .none (by simp) ?_ (by rw [List.size_toArray]<;>omega)
  rw [slicePick_cut,←hlen]
  refine⟨.ref s.heap.objs.size,_,I.laid (t':=s.toks) (o:=.lst (cutV xs lo hi)) (λb ob q=>Heap.get?_push_of_some _ q) (Nat.le_refl _) ?_,rfl,q _ (I.hok.fresh (Nat.le_refl _))⟩
  exact⟨Nat.le_trans (cutV_length xs lo hi) hz,_,0,(r.drop (HT.sIx xs.length 0 lo)).take (HT.sIx xs.length xs.length hi - HT.sIx xs.length 0 lo),Heap.get?_push_size _ rfl⟩
noncomputable def eqV:V→V→Bool
  | .non,.non=>true
  | .bl a,.bl b=>a == b
  | .bl a,.int b=>(if a then 1 else 0) == b
  | .int a,.bl b=>a == (if b then 1 else 0)
  | .int a,.int b=>a == b
  | .str a,.str b=>a == b
  | _,_=>false
noncomputable def inV (x:V) (xs:List V):Bool:=xs.any λy=>eqV y x
theorem call_len_seq:CallR X (.builtin "len") (λxs H Q=>∃p ys,xs=[.ref p]∧(SqL X.K H p ys∨SqT X.K H p ys)∧Q (.int ys.length) H):=by
  intro pins s σ H xs us Q I r h
  obtain⟨p,ys,rfl,hq,q⟩:=h
  obtain⟨u,rfl,rx⟩:=vals1 r
  cases rx
  have hn:=line63
  rcases hq with hq|hq
  · obtain⟨its,r',pl,hz⟩:=I.list hq
    have hlen:=r'.length
    exact Calls.call_len_list pl.isList (by simp only [List.size_toArray]<;>omega) ⟨.int ys.length,H,I.tok _,⟨s.toks+1,by rw [List.size_toArray,hlen]⟩,q⟩
  · obtain⟨its,r',pl,hz⟩:=I.tuple hq
    have hlen:=r'.length
    exact len_tuple pl (by simp only [List.size_toArray]<;>omega) ⟨.int ys.length,H,I.tok _,⟨s.toks+1,by rw [List.size_toArray,hlen]⟩,q⟩
theorem CallR.or {f:Value}{r r':List V→Hp→VK→Prop}(h:CallR X f r) (h':CallR X f r'):CallR X f (λxs H Q=>r xs H Q∨r' xs H Q):=by
  intro pins s σ H xs us Q I rs q
  rcases q with q|q
  · exact h pins s σ H xs us Q I rs q
  · exact h' pins s σ H xs us Q I rs q
theorem call_list_of:CallR X (.type "list") (λxs H Q=>∃p ys,xs=[.ref p]∧(SqL X.K H p ys∨SqT X.K H p ys)∧∀l,H l=none→Q (.ref l) (upd H l (.lst ys))):=by
  intro pins s σ H xs us Q I r h
  obtain⟨p,ys,rfl,hq,q⟩:=h
  obtain⟨u,rfl,rx⟩:=vals1 r
  cases rx
  have fin:∀(its:List Value),Vals ys its→ys.length≤sizeLine→∀(h':Heap) (c':Nat),(∀b o',s.heap.get? b=some o'→h'.get? b=some o') →
      h'.get? s.heap.objs.size=some { cls:=.type "list",dict:=none,data:=.seq its.toArray c',slots:=#[] }→EP X pins σ Q (.ref s.heap.objs.size) { s with heap:=h' }:=λits r' hz h' c' kp e =>
    ⟨.ref s.heap.objs.size,_,I.laid (t':=s.toks) kp (Nat.le_refl _) (show ObjOk X.prog X.w _ h' _ (.lst ys) from ⟨hz,its,c',r',e⟩),rfl,q _ (I.hok.fresh (Nat.le_refl _))⟩
  rcases hq with hq|hq
  · obtain⟨its,r',pl,hz⟩:=I.list hq
    have hlen:=r'.length
    obtain⟨o,ho,hc,n,hd⟩:=pl.isList
    exact call_list_seq p (.inl rfl) ho hc hd (λh' c' kp e=>fin its r' hz h' c' kp e) (by simp only [List.size_toArray]<;>omega)
  · obtain⟨its,r',pl,hz⟩:=I.tuple hq
    have hlen:=r'.length
    obtain⟨o,ho,hc,n,hd⟩:=pl
    exact call_list_seq p (.inr rfl) ho hc hd (λh' c' kp e=>fin its r' hz h' c' kp e) (by simp only [List.size_toArray]<;>omega)
theorem call_tuple_of:CallR X (.type "tuple") (λxs H Q=>∃p ys,xs=[.ref p]∧((SqL X.K H p ys∧∀l,H l=none→Q (.ref l) (upd H l (.tup ys)))∨(SqT X.K H p ys∧Q (.ref p) H))):=by
  intro pins s σ H xs us Q I r h
  obtain⟨p,ys,rfl,h⟩:=h
  obtain⟨u,rfl,rx⟩:=vals1 r
  cases rx
  rcases h with ⟨hq,q⟩|⟨hq,q⟩
  · obtain⟨its,r',pl,hz⟩:=I.list hq
    have hlen:=r'.length
    refine call_tuple_list pl.isList (λh' kp=>?_) (by simp only [List.size_toArray]<;>omega)
    have I1:Inv X pins σ H { s with heap:=h' }:=I.kept (t':=s.toks) kp
    have I2:Inv X pins σ (upd H h'.objs.size (.tup ys)) { s with heap:=h'.push { cls:=.type "tuple",data:=.seq its.toArray } }:=
      I1.laid (t':=s.toks) (λb o e=>Heap.get?_push_of_some _ e) (Nat.le_refl _) (show ObjOk X.prog X.w _ _ _ (.tup ys) from ⟨hz,its,r',IsTup.new _ _⟩)
    exact⟨.ref h'.objs.size,_,I2,rfl,q _ (I1.hok.fresh (Nat.le_refl _))⟩
  · obtain⟨its,r',pl,hz⟩:=I.tuple hq
    exact call_tuple_same pl ⟨.ref p,H,I,rfl,q⟩
noncomputable def tyV (K:PySem.W.Frag) (T:String) (x:V) (H:Hp):Prop:=match x with
  | .str _=>T="str"
  | .int _=>T="int"
  | .ref p=>(T="list"∧∃xs,SqL K H p xs)∨(T="tuple"∧∃o,K.lookup p=some o∧o.cls=.type "tuple"∧o.dict=none) ∨
      (T="dict"∧((∃kvs,H p=some (.dK kvs))∨∃kvs,H p=some (.dT kvs)))∨(T="set"∧∃S n,H p=some (.set S n))
  | _=>False
theorem tyV_is {pins:List (Addr×Obj)}{σ:St}{H:Hp}{s:Shared}{T:String}{x:V}{v:Value}(I:Inv X pins σ H s) (r:RelV x v) (ty:tyV X.K T x H) :
    s.TypeIs v T∧∀a,v=.ref a→∃ob,s.heap.get? a=some ob∧ob.dict=none:=by
  cases x with
  | str z =>
    obtain⟨t,rfl⟩:=r
    cases (show T="str" from ty)
    exact⟨typeIs_str s z t,λ_ e=>nomatch e⟩
  | int i =>
    obtain⟨t,rfl⟩:=r
    cases (show T="int" from ty)
    exact⟨typeIs_int s i t,λ_ e=>nomatch e⟩
  | ref p =>
    cases r
    rcases ty with ⟨rfl,xs,hq⟩|⟨rfl,o,hk,hc,hd⟩|⟨rfl,hk⟩|⟨rfl,S,n,hk⟩
    · obtain⟨its,_,pl,_⟩:=I.list hq
      refine⟨pl.isList.typeIs,λa e=>?_⟩
      cases e
      obtain⟨o,n,e,c,hd,_⟩:=pl
      exact⟨o,e,hd⟩
    · refine⟨⟨o,I.kIn p o hk,hc⟩,λa e=>?_⟩
      cases e
      exact⟨o,I.kIn _ o hk,hd⟩
    · have z:∃o,s.heap.get? p=some o∧o.ExactDict:=by
        rcases hk with ⟨kvs,hk⟩|⟨kvs,hk⟩
        · obtain⟨_,_,_,_,o,_,_,e,ex,_⟩:=I.hok p _ hk
          exact⟨o,e,ex⟩
        · obtain⟨_,_,_,_,o,_,_,e,ex,_⟩:=I.hok p _ hk
          exact⟨o,e,ex⟩
      obtain⟨o,e,ex⟩:=z
      refine⟨⟨o,e,ex.1⟩,λa e2=>?_⟩
      cases e2
      exact⟨o,e,ex.2.1⟩
    · obtain⟨o,_,_,_,e,ex,_⟩:=I.hok p _ hk
      refine⟨⟨o,e,ex.1⟩,λa e2=>?_⟩
      cases e2
      exact⟨o,e,ex.2.1⟩
  | _=>exact False.elim ty
noncomputable def tBM (K:PySem.W.Frag) (T:String) (r:V→List V→Hp→VK→Prop) (to:TE) (t:TA):TE:=fun σ H Q=>to σ H λx H1=>tyV K T x H1∧t σ H1 λxs H2=>r x xs H2 Q
variable {o e:Expr}{es:List Expr}{to:TE}{t:TA}{name:Str}{apos cpos:Pos}{T id:String}{r:V→List V→Hp→VK→Prop}
theorem pe_bm (pa:PlainAttrs T) (slot:Slot T name id) (hty:typeOf (.builtin id)=pure (.type "method_descriptor")) (hm:MtR X id r) (ho:PE X o to) (ha:PA X (e::es) t)
    (hbase:attributeBase o name X.env (eval o X.env)=eval o X.env:=by rfl)
    (hfew:((backTo cpos (starEach (e::es) X.env)).all (λx=>!x.1)&&(backToKw cpos (keywordEach [] X.env)).all (λx=>x.1.isSome)
      && decide ((e::es).length+([]:List Keyword).length+(if ([]:List Keyword).isEmpty then 0 else 1)<30))=true:=by rfl)
    (hline:(apos.endLine == cpos.line)=true:=by rfl) (hs:starEach (e::es) X.env=(false,eval e X.env)::starEach es X.env:=by rfl) (hplain:(backTo cpos (starEach es X.env)).any (·.1)=false:=by rfl) :
    PE X (.Call (.Attribute o name apos) (e::es) [] cpos) (tBM X.K T r to t):=by
  intro pins s σ H Q I h
  refine wpAny_Call_method_late hbase hfew hline rfl (thn (ho pins s σ H _ I h) λv s1 ⟨x,H1,I1,r1,ty,q1⟩=>?_)
  obtain⟨h1,h2⟩:=tyV_is I1 r1 ty
  refine⟨T,id,pa,slot,hty,h1,h2,?_⟩
  have hA:=ha cpos pins s1 σ H1 _ I1 q1
  rw [hs] at hA ⊢
  refine Calls.callWith_builtin (by show (false||(backTo cpos (starEach es X.env)).any (·.1))=false;rw [hplain]<;>rfl) (Calls.evalArgs_plain ?_)
  exact thn hA λus s2 ⟨vs,H2,I2,r2,q2⟩=>hm pins s2 σ H2 x vs v us Q I2 r1 r2 q2
end
end L2
namespace L2
open PySem PySem.Spec PyProof.Rows
noncomputable def MtM (X:Cx) (id:String) (r:V→List V→Hp→VK→Prop):Prop:=
  ∀(pins:List (Addr×Obj)) (s:Shared) (σ:St) (H:Hp) (x:V) (xs:List V) (v:Value) (us:List Value) (Q:VK),Inv X pins σ H s→RelV x v→Vals xs us→r x xs H Q →
    wpAny (model X.prog X.w) X.A (call (.builtin id) (v::us)) (EP X pins σ Q) X.xe s
theorem Vals.one:∀{x:V}{us:List Value},Vals [x] us→∃u,us=[u]∧RelV x u
  | _,_,.cons r .nil=>⟨_,rfl,r⟩
theorem Vals.two:∀{x y:V}{us:List Value},Vals [x,y] us→∃u v,us=[u,v]∧RelV x u∧RelV y v
  | _,_,_,.cons r (.cons q .nil)=>⟨_,_,rfl,r,q⟩
theorem Vals.zero:∀{us:List Value},Vals [] us→us=[]
  | _,.nil=>rfl
theorem Vals.dropLast {xs:List V}{us:List Value}(h:Vals xs us):Vals xs.dropLast us.dropLast:=by
  induction h with
  | nil=>exact .nil
  | cons r t ih =>
    cases t with
    | nil=>exact .nil
    | cons q t'=>exact .cons r ih
theorem Vals.reverse {xs:List V}{us:List Value}(h:Vals xs us):Vals xs.reverse us.reverse:=by
  induction h with
  | nil=>exact .nil
  | cons r t ih=>rw [List.reverse_cons,List.reverse_cons];exact Vals.append ih (.cons r .nil)
theorem Vals.rep {xs:List V}{us:List Value}(h:Vals xs us):∀k:Nat,Vals (List.replicate k xs).flatten (List.replicate k us).flatten
  | 0=>.nil
  | k+1=>by
    rw [List.replicate_succ,List.replicate_succ,List.flatten_cons,List.flatten_cons]
    exact Vals.append h (Vals.rep h k)
theorem foldl_rep (its:List Value):∀(k:Nat) (acc:List Value),
    List.foldl (λx1 x2=>x1++x2) acc.toArray (List.replicate k its.toArray)=(acc++(List.replicate k its).flatten).toArray
  | 0,acc=>by simp
  | k+1,acc=>by
    have e:acc.toArray++its.toArray=(acc++its).toArray:=by simp
    have e2:(acc++its)++(List.replicate k its).flatten=acc++(List.replicate (k+1) its).flatten:=by
      rw [List.replicate_succ,List.flatten_cons,List.append_assoc]
    rw [←e2,←foldl_rep its k (acc++its),←e,List.replicate_succ,List.foldl_cons]
section
variable {X:Cx}{pins:List (Addr×Obj)}{σ:St}{H:Hp}{s:Shared}{l b:Addr}{xs ys zs:List V}
theorem Inv.lset {its its':List Value}{n:Nat}{f:Array Value→Array Value}{t':Nat}(I:Inv X pins σ H s) (hH:H l=some (.lst xs))
    (e:s.heap.get? l=some { cls:=.type "list",data:=.seq its.toArray n }) (hf:f its.toArray=its'.toArray) (hv:Vals ys its') (hz:ys.length≤sizeLine) :
    Inv X pins σ (upd H l (.lst ys)) { s with heap:=s.heap.update l (Obj.mapSeq f),toks:=t' }:=by
  have q:=PySem.IsL.update e f
  rw [hf] at q
  refine I.write (x:=l) (e:=l) (by rw [hH];exact trivial) (.inl rfl) (λb' u hb hu=>(Heap.get?_update_other s.heap (Obj.mapSeq f) (Ne.symm hb)).trans hu) ⟨_,q⟩ ?_
  exact⟨hz,its',_,hv,q⟩
theorem Inv.lnew {its:List Value}{t':Nat}(I:Inv X pins σ H s) (hv:Vals ys its) (hz:ys.length≤sizeLine) :
    Inv X pins σ (upd H s.heap.objs.size (.lst ys)) { s with heap:=s.heap.push { cls:=.type "list",data:=.seq its.toArray },toks:=t' }:=
  I.laid (λ_ _ q=>Heap.get?_push_of_some _ q) (Nat.le_refl _) ⟨hz,its,0,hv,Heap.get?_push_size _ rfl⟩
theorem Inv.fresh (I:Inv X pins σ H s):H s.heap.objs.size=none:=I.hok.fresh (Nat.le_refl _)
theorem Inv.lstM (I:Inv X pins σ H s) (hH:H l=some (.lst xs)):xs.length≤sizeLine∧∃(its:List Value) (n:Nat),Vals xs its∧xs.length=its.length∧s.heap.get? l=some { cls:=.type "list",data:=.seq its.toArray n }:=by
  obtain⟨z,its,n,r,e⟩:=I.hok l _ hH
  exact⟨z,its,n,r,r.length,e⟩
theorem notLongL {n:Nat}(h:n≤sizeLine):Builtin.List.listTooLong n=false:=by
  unfold Builtin.List.listTooLong
  exact decide_eq_false (by omega)
end
section
variable {X:Cx}
noncomputable def rAppend:V→List V→Hp→VK→Prop:=λx vs H Q=>∃l xs y,x=.ref l∧vs=[y]∧H l=some (.lst xs)∧xs.length<sizeLine∧Q .non (upd H l (.lst (xs++[y])))
theorem mt_append:MtM X "list.append" rAppend:=by
  intro pins s σ H x vs v us Q I rx rv h
  obtain⟨l,xs,y,rfl,rfl,hH,hz,q⟩:=h
  cases rx
  obtain⟨u,rfl,ru⟩:=rv.one
  obtain⟨z,its,n,r,hl,e⟩:=I.lstM hH
  refine call_meets F.slot_list_append ⟨_,e,rfl⟩ F.entry_list_append (F.args_list_append_2 _ _) (PySem.list_append l its.toArray n u (by rw [List.size_toArray];omega)) ⟨e,?_⟩
  refine⟨.non,_,I.lset (its':=its++[u]) hH e (by simp) (r.append (.cons ru .nil)) ?_,rfl,q⟩
  rw [List.length_append,List.length_singleton]
  omega
theorem len_rep {α:Type}(xs:List α) (k:Nat):(List.replicate k xs).flatten.length=k * xs.length:=by
  induction k with
  | zero=>simp
  | succ k ih=>rw [List.replicate_succ,List.flatten_cons,List.length_append,ih,Nat.succ_mul,Nat.add_comm]
end
section
variable {prog:Program}{w:World}{A:Around}{E:Value→Shared→Prop}{s:Shared}
end
section
variable {X:Cx}
end
end L2
namespace Att
open PySem PySem.W PySem.Calls PyProof.Rows
theorem ints_of_wellAll {P:Params}{h:Heap}:∀(ns:List Int) (vs:List Value),WellAll P h vs (ns.map WData.int)→IntsAre vs ns:=by
  intro ns
  induction ns with
  | nil =>
    intro vs w
    rw [List.map_nil] at w
    cases w
    exact .nil
  | cons n ns ih =>
    intro vs w
    rw [List.map_cons] at w
    cases w with
    | cons a b =>
      cases a
      exact .cons _ _ (ih _ b)
theorem script_of {l:OpenLaw}{n:Nat}(hn:l.most=some n) {P:Params}{h:Heap}{args:List WData}{vals:List Value}
    (hpre:l.row.toRowW.claim.pre args=true) (hwl:WellAll P h vals args) :
    ∃a vs ns,vals=[Value.ref a]∧args=[WData.list (ns.map WData.int)]∧h.get? a=some { cls:=.type "list",data:=.seq vs.toArray }∧IntsAre vs ns∧ns.length≤n:=by
  have hsh:WShape.hasAll [] args [.list .int]=true:=(pre_splitW hpre).1
  have hc:l.pre.holds [] { args:=args }=true:=(pre_splitW hpre).2
  obtain⟨d,r,rfl,h1,h2⟩:=hasAllW_cons hsh
  obtain rfl:=hasAllW_nil h2
  obtain⟨xs,rfl,h3⟩:=hasW_list h1
  obtain⟨ns,rfl⟩:=items_int h3
  have hlen:ns.length≤n:=by
    unfold OpenLaw.pre at hc
    have h4:(WTm.not (.lt (.lit (.int (n:Int))) (.len (.arg 0)))).holds [] { args:=[.list (ns.map .int)] }=true:=by
      have h4:=(holds_andW hc).1
      rw [hn] at h4
      exact h4
    have h5:=condW_of h4 (w_not (w_lt w_lit (w_len_list (w_arg rfl))))
    rw [List.length_map] at h5
    refine Nat.le_of_not_lt λq=>?_
    have q':(n:Int)<((ns.length:Nat):Int):=by omega
    first
      | (rw [decide_eq_true q'] at h5;exact absurd h5 (by decide))
      | (simp at h5;omega)
  cases hwl with
  | cons w1 w2 =>
    cases w2
    cases w1 with
    | list ho hall=>exact⟨_,_,ns,rfl,rfl,ho,ints_of_wellAll ns _ hall,hlen⟩
theorem post_true (l:OpenLaw) (args:List WData):l.row.toRowW.claim.post args (.bool true) args=true:=
  postW_of (r:=l.row.toRowW) (X:=(true == true))
    (show WShape.has [] (.bool true) .bool=true by first|rfl|decide|simp [WShape.has,WShape.arms,WShape.armsAll])
    (show (WTm.eq .res (.lit (.bool true))).value [] { args:=args,res:=some (.bool true),after:=args }=some (.bool (true == true)) from w_eq_bool (w_res rfl) w_lit) rfl
section
variable {prog:Program}{w:World}{A:Around}{E:Value→Shared→Prop}{s:Shared}{K:Frag}
end
end Att
namespace L2
open PySem PySem.Spec PyProof.Rows
theorem vals_ints:∀{vs:List Value}{ns:List Int},IntsAre vs ns→Vals (ns.map V.int) vs
  | _,_,.nil=>.nil
  | _,_,.cons n t h=>.cons ⟨t,rfl⟩ (vals_ints h)
end L2
namespace L2
open PySem PySem.Spec PyProof.Rows
end L2
namespace L2
open PySem PySem.Spec PyProof.Rows
noncomputable abbrev CX0:CXT:=λ_ _ _ _ _ _=>False
noncomputable abbrev E0:XK:=λ_ _ _=>False
theorem pass0 {X:Cx}:Passes CX0 X E0:=λ_ _ _ _ _ _ _ h=>h.elim
structure Fun (K:PySem.W.Frag) (x qual:Str) (st:Stmt) (f:Addr) (fd:FuncData):Prop where
  ex:∃(oc:Value) (od:Option Addr) (kV doc pm:Value) (an:Option Addr) (cdv ct:Value) (osl:Array (Option Value)),
    fd=PySem.W.fnOf x qual (defArgs st) (defBody st) (defScope st) .none kV doc pm an cdv ct∧K.lookup f=some ⟨oc,od,.func fd,osl⟩∧PySem.W.codeIn K cdv qual=true
  kp:PySem.W.keepIn K (.ref f)=true
section
variable {P:Program}{w:World}{K:PySem.W.Frag}{mg:Str→Option Value}{base:Heap}
theorem Fun.ok {x qual:Str}{st:Stmt}{f:Addr}{fd:FuncData}{N ps:List Str}{k:Nat}{sp:Sp}(F:Fun K x qual st f fd) (S:FnScope N ps (defScope st)) (len:∀vs H Q E,sp vs H Q E→vs.length=ps.length)
    (hbody:∀(cdv:Value) (A:Around) (outer:List Env) (s:Shared) (H:Hp) (vs:List V) (Q:VK) (E:XK),Room k (A.deeper (envOfC qual (defScope st) s.heap.objs.size f cdv))→sp vs H Q E →
      ∃t,PSs (cxOf CX0 P w K mg base N qual (defScope st) f cdv A outer s H E).nox (defBody st) t∧t { nx:=λ_ H'=>Q .non H',rt:=Q } (start N vs) H):FnOk P w K mg base CX0 (k+1) f fd ps sp:=by
  obtain⟨oc,od,kV,doc,pm,an,cdv,ct,osl,rfl,lk,hcd⟩:=F.ex
  refine fn_of lk hcd S len λA outer s H vs Q E hr hsp=>?_
  obtain⟨t,h,q⟩:=hbody cdv A outer s H vs Q E hr hsp
  exact⟨t,h.nox,q⟩
theorem Fun.binds {x qual:Str}{st:Stmt}{f:Addr}{fd:FuncData}{ps:List Str}(F:Fun K x qual st f fd)
    (h:∀(kV doc pm:Value) (an:Option Addr) (cdv ct:Value) (us:List Value),us.length=ps.length→bindArgs (PySem.W.fnOf x qual (defArgs st) (defBody st) (defScope st) .none kV doc pm an cdv ct) ⟨us,[]⟩=pure (ps.zip us)):Binds K fd ps []:=by
  obtain⟨oc,od,kV,doc,pm,an,cdv,ct,osl,rfl,lk,hcd⟩:=F.ex
  exact .all (h kV doc pm an cdv ct)
theorem fun_mk {x qual:Str}{st:Stmt}{f:Addr}{oc:Value}{od an:Option Addr}{osl:Array (Option Value)}{kV doc pm cdv ct:Value}(l:K.lookup f=some ⟨oc,od,.func (PySem.W.fnOf x qual (defArgs st) (defBody st) (defScope st) .none kV doc pm an cdv ct),osl⟩)
    (c:PySem.W.codeIn K cdv qual=true) (k:PySem.W.keepIn K (.ref f)=true):Fun K x qual st f (PySem.W.fnOf x qual (defArgs st) (defBody st) (defScope st) .none kV doc pm an cdv ct):=⟨⟨oc,od,kV,doc,pm,an,cdv,ct,osl,rfl,l,c⟩,k⟩
end
section
variable {X:Cx}
end
theorem iteF {A B:Prop}(h:B):if false=true then A else B:=by
  rw [if_neg Bool.false_ne_true]
  exact h
theorem iteT {A B:Prop}(h:A):if true=true then A else B:=by
  rw [if_pos rfl]
  exact h
noncomputable def Same (H H':Hp):Prop:=∀b o,H b=some o→H' b=some o
theorem Same.refl (H:Hp):Same H H:=λ_ _ h=>h
theorem Same.trans {H H1 H2:Hp}(a:Same H H1) (b:Same H1 H2):Same H H2:=λc o h=>b c o (a c o h)
theorem Same.free {H H':Hp}(e:Same H H') {l:Addr}(h:H' l=Option.none):H l=Option.none:=by
  cases q:H l with
  | none=>rfl
  | some o =>
    rw [e l o q] at h
    cases h
theorem Same.seq {K:PySem.W.Frag}{H H':Hp}{a:Addr}{xs:List V}(e:Same H H') (h:SqL K H a xs):SqL K H' a xs:=by
  rcases h with (h|⟨o,h⟩)|h
  · exact .inl (.inl (e _ _ h))
  · exact .inl (.inr ⟨o,e _ _ h⟩)
  · exact .inr h
end L2
namespace L2
open PySem PySem.Spec PyProof.Rows
section
variable {κ:Type} [DecidableEq κ]
noncomputable def valV (kvs:List (κ×V)) (k:κ):Option V:=(kvs.find? λkv=>decide (kv.1=k)).map (·.2)
noncomputable def putK (kvs:List (κ×V)) (k:κ) (v:V):List (κ×V):=
  if (kvs.any λkv=>decide (kv.1=k))=true then kvs.map (λkv=>if kv.1=k then (kv.1,v) else kv) else kvs++[(k,v)]
noncomputable def dropK (kvs:List (κ×V)) (k:κ):List (κ×V):=kvs.filter λkv=>decide (kv.1≠k)
theorem valV_pos {p:κ×V}{r:List (κ×V)}{k:κ}(e:p.1=k):valV (p::r) k=some p.2:=by simp [valV,List.find?_cons,e]
theorem valV_neg {p:κ×V}{r:List (κ×V)}{k:κ}(e:¬p.1=k):valV (p::r) k=valV r k:=by simp [valV,List.find?_cons,e]
theorem RelO.getD {o:Option V}{u:Option Value}{d:V}{d':Value}(r:RelO o u) (rd:RelV d d'):RelV (o.getD d) (u.getD d'):=by
  cases o with
  | none=>cases u with
    | none=>exact rd
    | some _=>exact (show False from r).elim
  | some _=>cases u with
    | none=>exact (show False from r).elim
    | some _=>exact r
theorem KV.val {kvs:List (κ×V)}{vs:List (κ×Value)}(r:KV kvs vs) (k:κ):RelO (valV kvs k) (valueAt vs k):=by
  unfold KV at r
  induction r with
  | nil=>exact True.intro
  | @cons p q ps qs h t ih =>
    obtain⟨h1,h2⟩:=h
    by_cases e:p.1=k
    · have e':q.1=k:=h1.symm.trans e
      have b:valueAt (q::qs) k=some q.2:=by simp [valueAt,List.find?_cons,e']
      rw [valV_pos e,b];exact h2
    · have e':¬q.1=k:=λz=>e (h1.trans z)
      have b:valueAt (q::qs) k=valueAt qs k:=by simp [valueAt,List.find?_cons,e']
      rw [valV_neg e,b];exact ih
theorem KV.any {kvs:List (κ×V)}{vs:List (κ×Value)}(r:KV kvs vs) (k:κ):(kvs.any λkv=>decide (kv.1=k))=vs.any λkv=>decide (kv.1=k):=by
  unfold KV at r
  induction r with
  | nil=>rfl
  | cons h t ih=>rw [List.any_cons,List.any_cons,ih,h.1]
theorem KV.drop {kvs:List (κ×V)}{vs:List (κ×Value)}(r:KV kvs vs) (k:κ):KV (dropK kvs k) (without vs k):=by
  unfold KV at r ⊢
  unfold dropK without
  induction r with
  | nil=>exact .nil
  | @cons p q ps qs h t ih =>
    obtain⟨h1,h2⟩:=h
    rw [List.filter_cons,List.filter_cons]
    by_cases e:p.1=k
    · have a:¬decide (p.1≠k)=true:=by simp [e]
      have b:¬decide (q.1≠k)=true:=by simp [h1.symm.trans e]
      rw [if_neg a,if_neg b];exact ih
    · have e':¬q.1=k:=λz=>e (h1.trans z)
      have a:decide (p.1≠k)=true:=by simp [e]
      have b:decide (q.1≠k)=true:=by simp [e']
      rw [if_pos a,if_pos b];exact .cons ⟨h1,h2⟩ ih
theorem KV.length {kvs:List (κ×V)}{vs:List (κ×Value)}(r:KV kvs vs):kvs.length=vs.length:=Paired.length r
end
noncomputable abbrev KT (H:Hp):List (List Key×V)→List (List Key×Addr×Value)→Prop:=Paired λp q=>p.1=q.1∧H q.2.1=some (.tup (p.1.map kV))∧RelV p.2 q.2.2
theorem KT.val {H:Hp}{kvs:List (List Key×V)}{xs:List (List Key×Addr×Value)}(r:KT H kvs xs) (k:List Key):RelO (valV kvs k) ((atKey xs k).map (·.2)):=by
  induction r with
  | nil=>exact True.intro
  | @cons p q ps qs h t ih =>
    obtain⟨h1,_,h2⟩:=h
    by_cases e:p.1=k
    · have e':q.1=k:=h1.symm.trans e
      have b:atKey (q::qs) k=some q.2:=by simp [atKey,List.find?_cons,e']
      rw [valV_pos e,b];exact h2
    · have e':¬q.1=k:=λz=>e (h1.trans z)
      have b:atKey (q::qs) k=atKey qs k:=by simp [atKey,List.find?_cons,e']
      rw [valV_neg e,b];exact ih
theorem KT.keeps {H H':Hp}{kvs:List (List Key×V)}{xs:List (List Key×Addr×Value)}(r:KT H kvs xs) (ht:∀b ys,H b=some (.tup ys)→H' b=some (.tup ys)):KT H' kvs xs:=
  Paired.mapP r λ_ _ z=>⟨z.1,ht _ _ z.2.1,z.2.2⟩
section
variable {P:Program}{w:World}{H:Hp}{h:Heap}{a:Addr}
end
noncomputable def DGet (H:Hp) (a:Addr) (y:V) (r:Option V):Prop:=
  (∃kvs k,Rd H a (.dK kvs)∧y=kV k∧r=valV kvs k)∨∃kvs k b,Rd H a (.dT kvs)∧y=.ref b∧H b=some (.tup (k.map kV))∧r=valV kvs k
noncomputable def DPut (H:Hp) (a:Addr) (y v:V) (H':Hp):Prop:=
  (∃kvs k,H a=some (.dK kvs)∧y=kV k∧kvs.length<sizeLine∧H'=upd H a (.dK (putK kvs k v))) ∨
  ∃kvs k b,H a=some (.dT kvs)∧y=.ref b∧H b=some (.tup (k.map kV))∧kvs.length<sizeLine∧H'=upd H a (.dT (putK kvs k v))
theorem DGet.k {H:Hp}{a:Addr}{kvs:List (Key×V)}{k:Key}(e:H a=some (.dK kvs)):DGet H a (kV k) (valV kvs k):=.inl ⟨kvs,k,.inl e,rfl,rfl⟩
theorem DGet.t {H:Hp}{a b:Addr}{kvs:List (List Key×V)}{k:List Key}(e:H a=some (.dT kvs)) (eb:H b=some (.tup (k.map kV))):DGet H a (.ref b) (valV kvs k):=.inr ⟨kvs,k,b,.inl e,rfl,eb,rfl⟩
theorem DPut.k {H:Hp}{a:Addr}{kvs:List (Key×V)}{k:Key}{v:V}(e:H a=some (.dK kvs)) (hl:kvs.length<sizeLine):DPut H a (kV k) v (upd H a (.dK (putK kvs k v))):=.inl ⟨kvs,k,e,rfl,hl,rfl⟩
theorem DPut.t {H:Hp}{a b:Addr}{kvs:List (List Key×V)}{k:List Key}{v:V}(e:H a=some (.dT kvs)) (eb:H b=some (.tup (k.map kV))) (hl:kvs.length<sizeLine) :
    DPut H a (.ref b) v (upd H a (.dT (putK kvs k v))):=.inr ⟨kvs,k,b,e,rfl,eb,hl,rfl⟩
section
variable {X:Cx}{pins:List (Addr×Obj)}{σ:St}{H:Hp}{s:Shared}{a:Addr}{y v:V}{u r:Value}{o:Option V}{A:Around}{E:Value→Shared→Prop}
theorem Inv.big (I:Inv X pins σ H s):sysModules<s.heap.objs.size:=by
  have h:mainGlobals<s.heap.objs.size:=(I.mod.glob.keeps I.bk).lt
  exact Nat.lt_trans (by decide) h
end
section
variable {X:Cx}{pins:List (Addr×Obj)}{σ:St}{H:Hp}{s:Shared}{a:Addr}{kvs:List (Key×V)}{k:Key}{u:Value}{A:Around}{E:Value→Shared→Prop}
end
section
variable {X:Cx}{o i e value:Expr}{pos pos' tpos:Pos}{td ty tv:TE}
end
section
variable {X:Cx}{pos:Pos}
end
end L2
namespace L2
open PySem PySem.Spec PyProof.Rows
noncomputable def Nr (fr:List Addr) (g h:Heap):Prop:=∀b o,g.get? b=some o→(b∉fr→h.get? b=some o)∧∃sl,h.get? b=some { o with slots:=sl }
structure Lot (g h:Heap) (e:Addr) (C fl:Value):Prop where
  new:g.get? e=none
  ex:∃oe vs T oT ts,h.get? e=some oe∧(oe.cls=C∧oe.dict=none)∧oe.data=.fields vs∧vs[1]?=some (.ref T)∧T≠e∧g.get? T=none∧h.get? T=some oT∧oT.data=.fields ts∧ts[3]?=some fl
theorem Nr.of_keep {fr:List Addr}{g h:Heap}(k:∀b o,g.get? b=some o→h.get? b=some o):Nr fr g h:=λb o q=>⟨λ_=>k b o q,o.slots,k b o q⟩
theorem Nr.trans {fr:List Addr}{g h h':Heap}(x:Nr fr g h) (y:Nr fr h h'):Nr fr g h':=λb o q=>by
  obtain⟨x1,sl,x2⟩:=x b o q
  obtain⟨_,sl',y2⟩:=y b _ x2
  exact⟨λhb=>(y b o (x1 hb)).1 hb,sl',y2⟩
theorem Nr.of_but {fr:List Addr}{g h h':Heap}{e:Addr}(x:Nr fr g h) (he:g.get? e=none) (k:∀b o,b≠e→h.get? b=some o→h'.get? b=some o):Nr fr g h':=λb o q=>by
  have ne:b≠e:=λz=>by rw [z,he] at q;cases q
  obtain⟨x1,sl,x2⟩:=x b o q
  exact⟨λhb=>k b o ne (x1 hb),sl,k b _ ne x2⟩
theorem Nr.frames {fr:List Addr}{g h base:Heap}{l:List Env}(x:Nr fr g h) (f:g.FunFrames base l):h.FunFrames base l:=
  f.of_keeps λb o q _=>by
    obtain⟨_,sl,e⟩:=x b o q
    exact⟨_,e,rfl⟩
theorem dict_mf (o:Obj) (f:Array Value→Array Value):(o.mapFields f).dict=o.dict:=by
  obtain⟨c,d,dt,sl⟩:=o
  cases dt<;>rfl
section
variable {fr:List Addr}
variable {M:Model}{A:Around}{E:Value→Shared→Prop}{s:Shared}{base g:Heap}{env:Env}{outer:List Env}{L e:Addr}{C:Value}{Q:Unit→Shared→Prop}
theorem entry_on {oe:Obj}{vs:Array Value}{hd:Value}{b:Bool}(hfr:A.frames=some (env::outer)) (fun_:g.FunFrames base (env::outer)) (hf:env.frame=some L) (sub:∀b∈(env::outer).filterMap (·.frame),b∈fr) (nr:Nr fr g s.heap) (ge:g.get? e=none)
    (he:s.heap.get? e=some oe) (hdt:oe.data=.fields vs) (hsz:1<vs.size) (hc:oe.cls=C∧oe.dict=none) (k:∀h',Nr fr g h'→Lot g h' e C (rawInt L)→Q () { s with heap:=h' }) :
    wpAny M A (do setField (.ref e) 1 (←EntryCells.newEntry hd (←frameOf env) .none (rawInt L) .none (←entryPlaceOf L b))) Q E s:=by
  have fs:=nr.frames fun_
  have enf:e∉(env::outer).filterMap (·.frame):=λhm=>by
    obtain⟨_,o,ho,nf⟩:=fs.mem hm
    rw [he] at ho;cases ho
    exact nf vs hdt
  refine wpAny_bind (wpAny_frameOf_fun hfr fs hf λh1 so=>?_)
  refine wpAny_bind (wpAny_entryPlaceOf λpl ip=>?_)
  unfold EntryCells.newEntry newFields
  refine wpAny_bind (wpAny_newObj_type ?_ (ip.sizeOk5 _ _ _ _ _))
  generalize hto:([hd,Value.ref L,.none,rawInt L,.none]++(if pl.isEmpty then List.replicate 6 Value.none else pl)).toArray=ts
  have t3:ts[3]?=some (rawInt L):=by rw [←hto];simp
  have e1:h1.get? e=some oe:=(so.2.1 e enf).trans he
  have e2:=Heap.get?_push_of_some (h:=h1) { cls:=.type "traceback",dict:=none,data:=.fields ts } e1
  have tne:h1.objs.size≠e:=Nat.ne_of_gt (Heap.lt_size e1)
  have nr1:Nr fr g h1:=λc o q=>by
    obtain⟨x1,sl,x2⟩:=nr c o q
    obtain⟨sl',y⟩:=so.2.2 c _ x2
    exact⟨λhb=>(so.2.1 c λz=>hb (sub c z)).trans (x1 hb),sl',y⟩
  have nr2:Nr fr g (h1.push { cls:=.type "traceback",dict:=none,data:=.fields ts }):=nr1.trans (.of_keep λc o q=>Heap.get?_push_of_some _ q)
  refine wpAny_setField e2 hdt hsz (k _ (nr2.of_but ge λc o nc q=>?_) ⟨ge,?_⟩)
  · rw [Heap.get?_update_other _ _ (Ne.symm nc)];exact q
  · have e3:=Obj.data_mapFields hdt (·.setIfInBounds 1 (Value.ref h1.objs.size))
    refine⟨_,_,h1.objs.size,{ cls:=.type "traceback",dict:=none,data:=.fields ts },ts,Heap.get?_update_self _ e2 (Obj.isFreed_of_fields e3),⟨(Obj.cls_mapFields _ _).trans hc.1,(dict_mf _ _).trans hc.2⟩,e3,by simp [hsz],tne,?_,?_,rfl,t3⟩
    · cases q:g.get? h1.objs.size with
      | none=>rfl
      | some o =>
        obtain⟨_,sl,z⟩:=nr1 _ o q
        exact absurd (Heap.lt_size z) (Nat.lt_irrefl _)
    · rw [Heap.get?_update_other _ _ (Ne.symm tne)]
      exact Heap.get?_push_size h1 rfl
theorem note_first {oe:Obj}{vs:Array Value}(hfr:A.frames=some (env::outer)) (fun_:g.FunFrames base (env::outer)) (hf:env.frame=some L) (sub:∀b∈(env::outer).filterMap (·.frame),b∈fr) (nr:Nr fr g s.heap) (ge:g.get? e=none)
    (he:s.heap.get? e=some oe) (hdt:oe.data=.fields vs) (h1:vs[1]?=some .none) (hc:oe.cls=C∧oe.dict=none) (k:∀h',Nr fr g h'→Lot g h' e C (rawInt L)→Q () { s with heap:=h' }) :
    wpAny M A (noteFrame (.ref e) env) Q E s:=by
  unfold noteFrame
  rw [hf]
  refine wpAny_bind (wpAny_field he hdt h1 ?_)
  rw [if_neg (by decide)]
  exact entry_on hfr fun_ hf sub nr ge he hdt (Array.getElem?_eq_some_iff.mp h1).1 hc k
theorem note_on (hfr:A.frames=some (env::outer)) (fun_:g.FunFrames base (env::outer)) (hf:env.frame=some L) (sub:∀b∈(env::outer).filterMap (·.frame),b∈fr) (nr:Nr fr g s.heap) (lot:Lot g s.heap e C .none)
    (k:∀h',Nr fr g h'→Lot g h' e C (rawInt L)→Q () { s with heap:=h' }):wpAny M A (noteFrame (.ref e) env) Q E s:=by
  obtain⟨ge,oe,vs,T,oT,ts,a1,a2,a3,a4,a5,a6,a7,a8,a9⟩:=lot
  unfold noteFrame
  rw [hf]
  refine wpAny_bind (wpAny_field a1 a3 a4 ?_)
  rw [if_pos (show (Value.ref T != Value.none)=true by simp)]
  refine wpAny_bind (wpAny_field a7 a8 a9 ?_)
  rw [if_neg (show ¬(Value.none == rawInt L)=true by simp [rawInt])]
  refine wpAny_bind (wpAny_setField a7 a8 (Array.getElem?_eq_some_iff.mp a9).1 ?_)
  exact entry_on hfr fun_ hf sub (nr.of_but a6 λc o nc q=>by rw [Heap.get?_update_other _ _ (Ne.symm nc)];exact q) ge (by rw [Heap.get?_update_other _ _ a5];exact a1) a3 (Array.getElem?_eq_some_iff.mp a4).1 a2 k
theorem flight_off {fl:Value}(nr:Nr fr g s.heap) (lot:Lot g s.heap e C fl) (k:∀h',Nr fr g h'→Lot g h' e C .none→Q () { s with heap:=h' }):wpAny M A (setFlight (.ref e) none) Q E s:=by
  obtain⟨ge,oe,vs,T,oT,ts,a1,a2,a3,a4,a5,a6,a7,a8,a9⟩:=lot
  have sz:3<ts.size:=(Array.getElem?_eq_some_iff.mp a9).1
  unfold setFlight
  refine wpAny_bind (wpAny_field a1 a3 a4 ?_)
  rw [if_pos (show (Value.ref T != Value.none)=true by simp)]
  have d3:=Obj.data_mapFields a8 (·.setIfInBounds 3 ((none:Option Addr).elim Value.none λf=>rawInt f))
  exact wpAny_setField a7 a8 sz (k _ (nr.of_but a6 λc o nc q=>by rw [Heap.get?_update_other _ _ (Ne.symm nc)];exact q) ⟨ge,oe,vs,T,_,_,by rw [Heap.get?_update_other _ _ a5];exact a1,a2,a3,a4,a5,a6,Heap.get?_update_self _ a7 (Obj.isFreed_of_fields d3),d3,by simp [sz]⟩)
theorem leave_first {oe:Obj}{vs:Array Value}(hfr:A.frames=some (env::outer)) (fun_:g.FunFrames base (env::outer)) (hf:env.frame=some L) (sub:∀b∈(env::outer).filterMap (·.frame),b∈fr) (nr:Nr fr g s.heap) (ge:g.get? e=none)
    (he:s.heap.get? e=some oe) (hdt:oe.data=.fields vs) (h1:vs[1]?=some .none) (hc:oe.cls=C∧oe.dict=none) (k:∀h',Nr fr g h'→Lot g h' e C .none→Q () { s with heap:=h' }) :
    wpAny M A (leaving env (.ref e)) Q E s:=by
  unfold leaving
  exact wpAny_bind (note_first hfr fun_ hf sub nr ge he hdt h1 hc λh' nr' lot=>flight_off (s:={ s with heap:=h' }) nr' lot λh2 n2 l2=>k h2 n2 l2)
end
end L2
namespace L2
open PySem PySem.W PySem.Spec PySem.Calls PyProof.Rows
structure XCls (K:Frag) (D:Addr):Prop where
  ga:findIn K (.ref D) "__getattribute__"=some (some (.builtin "BaseException.__getattribute__"))
  no:findIn K (.ref D) "__getattr__"=some none
  fo:findObj K D none "__class__"=some (.bind (.builtin "getset_descriptor.__get__") (.builtin "object.__class__"))
  ob:mroIn K D (.type "object")=some true
  be:subIn K (.ref D) (.type "BaseException")=some true
  cl:(clsIn K D).isSome=true
noncomputable def XAt (D x:Addr) (h:Heap):Prop:=∃o vs,h.get? x=some o∧o.cls=.ref D∧o.dict=none∧o.data=.fields vs
theorem XAt.inst {D x:Addr}{h:Heap}(p:XAt D x h):∃o,InstAt h x o D none:=by
  obtain⟨o,vs,h1,h2,h3,h4⟩:=p
  refine⟨o,h1,h2,?_,?_⟩
  · unfold notCls;rw [h4]
  · rw [h3];trivial
section
variable {prog:Program}{w:World}{A:Around}{E:Value→Shared→Prop}{s:Shared}{K:Frag}{x D:Addr}
theorem ga_check {nv:Value}{Q:Unit→Shared→Prop}(X:K.In s.heap) (C:XCls K D) (p:XAt D x s.heap) (h:Q () s):wpAny (model prog w) A (checkBuiltinCall "BaseException.__getattribute__" ⟨[.ref x,nv],[]⟩) Q E s:=by
  obtain⟨o,I⟩:=p.inst
  obtain⟨hh,g,d,t,os⟩:=s
  have k1:builtinKind "BaseException.__getattribute__"=some .slot:=by decide +kernel
  have k2:splitId "BaseException.__getattribute__"=some ("BaseException","__getattribute__"):=by decide +kernel
  have L0:=I.type (M:=model prog w)
  have L1:Looks (model prog w) hh (isInstance (.ref x) (.type "BaseException")) true:=L0.andThen (looks_subIn X C.be)
  have k3:=F.args_bexc_ga (.ref x) nv
  simp only [checkBuiltinCall,k1,k2]
  refine wpAny_bind (L1.at ?_)
  simp only [Bool.not_true,Bool.false_eq_true,if_false]
  unfold argsOk at k3
  split at k3
  · rename_i sig hs
    rw [hs]
    exact wpAny_of_eq k3 h
  · rename_i hs
    rw [hs]
    exact wpAny_pure h
theorem exc_class {Q:Option Value→Shared→Prop}(X:K.In s.heap) (C:XCls K D) (p:XAt D x s.heap) (h:Q (some (.ref D)) { s with toks:=s.toks+1 }):wpAny (model prog w) A (getAttr? (.ref x) "__class__") Q E s:=by
  obtain⟨o,I⟩:=p.inst
  obtain⟨hh,g,d,t,os⟩:=s
  have L0:=I.type (M:=model prog w)
  have L1:=looks_findIn (M:=model prog w) X C.ga
  have L2:=looks_findIn (M:=model prog w) X C.no
  have L3:=looks_find (M:=model prog w) X I C.fo
  have bd:=F.attr_ValueError.ga.bind (.ref x)
  unfold getAttr? getAttrBy? getAttrBy
  refine wpAny_bind (wpAny_mkText (wpAny_bind (wpAny_attempt (wpAny_holding (wpAny_bind (L0.at (wpAny_bind (L1.at ?_))))))))
  show wpAny _ _ (getAttrByItsOwn _ _ _ _ _ _) _ _ _
  unfold getAttrByItsOwn hookBefore
  refine wpAny_bind ?_
  show wpAny _ _ (typeLookup (.ref D) "__getattr__") _ _ _
  refine L2.at (wpAny_bind (wpAny_attempt (wpAny_holding ?_)))
  unfold callGetattribute boundAndCalled
  rw [if_neg (by decide),bd]
  refine wpAny_bind (wpAny_pure ?_)
  refine wpAny_call (codeAny_call_builtin F.attr_ValueError.ga.plain F.entry_bexc_ga (ga_check (s:=⟨hh,g,d,t+1,os⟩) X C p ?_))
  unfold Builtin.«object.__getattribute__»
  repeat (first|with_reducible refine wpAny_call ?_|lk)
  refine class_get (s:=⟨hh,g,d,t+1,os⟩) X I C.ob ?_
  repeat lk
  exact h
theorem kitx_exc (C:XCls K D):KitX K (.ref x) (.ref D) (XAt D x):=by
  have hc:∃c d cd sl,K.lookup D=some ⟨c,d,.cls cd,sl⟩:=by
    have q:=C.cl
    unfold clsIn at q
    split at q
    · rename_i c d cd sl ho
      exact⟨c,d,cd,sl,ho⟩
    · cases q
  obtain⟨c,d,cd,sl,ho⟩:=hc
  refine⟨λM h _ p=>?_,λM h X _=>?_,λh tp dd its n sl' X e=>?_,λX p k=>exc_class X C p k⟩
  · obtain⟨o,I⟩:=p.inst
    exact I.type
  · intro A' Q' E' s' k q
    unfold isType loadHead
    exact wpAny_bind (wpAny_loadPart (k _ _ (X _ _ ho)) (wpAny_pure q))
  · refine Bool.eq_false_iff.mpr λq=>?_
    have z:D=tp:=Value.ref.inj (beq_iff_eq.mp q)
    rw [←z,X _ _ ho] at e
    cases e
theorem exc_match {c:Value}{b:Bool}{Q:Bool→Shared→Prop}(X:K.In s.heap) (p:XAt D x s.heap) (e:exmOne K (.ref D) c=some b) (h:Q b s):wpAny (model prog w) A (excMatches (.ref x) c) Q E s:=by
  obtain⟨o,I⟩:=p.inst
  obtain⟨hh,g,d,t,os⟩:=s
  exact (exm_one X (I.type (M:=model prog w)) e).at h
end
end L2
namespace L2
open PySem PySem.W PySem.Spec PySem.Calls PyProof.Rows
section
variable {P:Program}{w:World}{H H':Hp}{g h h0:Heap}{fr fs:List Addr}
theorem HOk.nr (k:HOk P w H g) (n:Nr fr g h) (hf:∀b∈fr,H b=none):HOk P w H h:=λa o e =>
  (k a o e).stay (λb u hb q=>(n b u q).1 λz=>by
    rcases hb with rfl|hb
    · rw [hf _ z] at e;cases e
    · rw [hf _ z] at hb;cases hb) (λ_ q=>q) (λ_ _ q=>q) λ_ _ _ q=>q
theorem Un.nr (u:Un fs [] H H' h0 g) (n:Nr fr g h) (hf:∀b∈fr,b∈fs∨h0.get? b=none):Un fs [] H H' h0 h where
  keep:=λb o q m hb hx=>(n b o (u.keep b o q m hb hx)).1 λz=>by
    rcases hf b z with z|z
    · exact hb z
    · rw [z] at q;cases q
  slot:=λb o q m hb hx=>by
    obtain⟨sl,e⟩:=u.slot b o q m hb hx
    obtain⟨_,sl',e'⟩:=n b _ e
    exact⟨sl',e'⟩
  free:=u.free
  there:=λb o q hx=>by
    obtain⟨o',e⟩:=u.there b o q hx
    obtain⟨_,sl,e'⟩:=n b _ e
    exact⟨_,e'⟩
  tups:=u.tups
  frzs:=u.frzs
  tbls:=u.tbls
end
noncomputable def CXr (P:Program) (w:World):CXT:=λouter H s E e s'=>∃(a C:Addr) (H':Hp) (g:Heap) (fr:List Addr),e=.ref a∧s'.os=s.os∧AllBare s'.gens∧Un (frs outer) [] H H' s.heap g∧HOk P w H' g ∧
  (∀b∈fr,(b∈frs outer∨s.heap.get? b=none)∧H' b=none)∧(∀b∈frs outer,b∈fr)∧Nr fr g s'.heap∧Lot g s'.heap a (.ref C) .none∧E (.ref C) none H'
noncomputable def Wish (X:Cx) (c:Str) (H:Hp):Prop:=∀(pins:List (Addr×Obj)) (σ:St) (s:Shared) (h':Heap) (e C:Addr) (vs:List Value),Inv X pins σ H s→X.mg c=some (.ref C)→Heap.MadeExcOf s.heap h' e (.ref C) vs→X.xe (.ref e) { s with heap:=h' }
section
variable {P:Program}{w:World}{K:Frag}{mg:Str→Option Value}{base:Heap}{N:List Str}{qual:Str}{scope:Scope}{f:Addr}{cd:Value}{A:Around}{outer:List Env}{s₀:Shared}{H₀:Hp}{E:XK}
theorem wish_of {c:Str}{H:Hp}(hE:∀C,mg c=some (.ref C)→E (.ref C) none H):Wish (cxOf (CXr P w) P w K mg base N qual scope f cd A outer s₀ H₀ E) c H:=by
  intro pins σ s h' e C vs I hm mk
  obtain⟨t,he,_,_⟩:=mk.there
  have hfr:=I.ok.frames
  have sub:∀b∈frs (envOfC qual scope s₀.heap.objs.size f cd::outer),(b∈frs outer∨s₀.heap.get? b=none)∧H b=none:=λb hb=>by
    refine⟨?_,I.stkFree b hb⟩
    rcases List.mem_cons.mp (show b∈s₀.heap.objs.size::frs outer from hb) with z|z
    · exact .inr (by rw [z];exact Heap.get?_none_of_le (Nat.le_refl _))
    · exact .inl z
  refine leave_first (base:=base) (g:=s.heap) (fr:=frs (envOfC qual scope s₀.heap.objs.size f cd::outer)) (L:=s₀.heap.objs.size) (C:=.ref C) (outer:=outer) hfr I.stack rfl (λb hb=>hb) (.of_keep mk.keeps) mk.new he rfl rfl ⟨rfl,rfl⟩ λh2 n2 l2=>?_
  exact⟨e,C,H,s.heap,_,rfl,I.os,I.bare,I.base,I.hok,sub,λb hb=>List.mem_cons_of_mem _ hb,n2,l2,hE C hm⟩
end
section
variable {X:Cx}
theorem ps_raise {c:Str}{C:Addr}{B nid iid:String}{bm:List Value}{m:Str}{j:Nat}{np p1 cpos pos:Pos}(hc:X.calm=true) (hg:Gl X c) (FB:ExcBaseFacts B nid iid bm) (O:OwnCls c C bm nid X.mg X.base) (hd:(c == ("__debug__":Str))=false) :
    PS X (.Raise (some (.Call (.Name c np) [.Constant (.str m) j p1] [] cpos)) none pos) (λ_ _ H=>Wish X c H):=by
  intro pins s σ H D I hw
  obtain⟨tl,Nn,nm,q,bs,hdct,sn,sub,ab,col,dd,k0,k1,k2,k3,k5,mN,hC,hN,hni,T⟩:=O.obj
  refine wpAny_Raise_call_subT (C:=C) (nm:=nm) (q:=q) (N:=Nn) (bs:=bs) (bm:=tl) (hdct:=hdct) (sn:=sn) (sub:=sub) (ab:=ab) (col:=col) (dd:=dd) (k0:=k0) (k1:=k1) (k2:=k2) (k3:=k3) (k5:=k5) FB (mN:=mN) (T.hasType FB.hasBase) (I.ok.hd hc) rfl hni
    (ld_glob I hg O.bound ⟨rfl,?_⟩ hd)
  refine Calls.evalArgs_plain (Calls.spliced_cons (Calls.Constant_str (k:=j) (pos:=p1) (Calls.spliced_nil ?_)))
  have kp:=(I.tok (s.toks+1)).bk
  exact⟨rfl,by show 1≤sizeLine;decide,kp _ _ hC,hN.keeps kp,T.keeps kp,λh' e mk=>hw pins σ { s with toks:=s.toks+1 } h' e C _ (I.tok _) O.bound mk⟩
end
end L2
namespace L2
open PySem PySem.W PySem.Spec PySem.Calls PyProof.Rows
noncomputable abbrev Cx.hold (X:Cx) (a:Addr):Cx:={ X with A:=X.A.mark (some (.ref a)),calm:=false,xe:=λ_ _=>False }
section
variable {X:Cx}{pins:List (Addr×Obj)}{σ σ':St}{H:Hp}{s:Shared}{a:Addr}
theorem Cx.Ok.hold (ok:X.Ok) (a:Addr):(X.hold a).Ok:=
  ⟨ok.mod,ok.kind,ok.glob,ok.blt,ok.above,ok.inj,ok.has,ok.cab,λz=>(nomatch z),ok.frames,ok.stk,ok.exf,ok.bs,ok.bsz,ok.noex,ok.exfs,ok.funs,ok.frf⟩
theorem Inv.hold (I:Inv X pins σ H s) (a:Addr):Inv (X.hold a) pins σ H s:=⟨I.ok.hold a,I.os,I.bare,I.base,I.loc,I.cell,I.free,I.freeC,I.pin,I.hok,I.len⟩
theorem Inv.unhold (ok:X.Ok) (I:Inv (X.hold a) pins σ H s):Inv X pins σ H s:=⟨ok,I.os,I.bare,I.base,I.loc,I.cell,I.free,I.freeC,I.pin,I.hok,I.len⟩
theorem Inv.take {b:Addr}{o:HO}{s':Shared}(I:Inv X pins σ H s') (h0:X.s₀.heap.get? b=none) (hl:b≠X.env.locals) (hc:∀x c,X.env.cells.lookup x=some c→c≠b) (hp:∀p∈X.pn++pins,p.1≠b) (hn:H b=none)
    (new:ObjOk X.prog X.w (upd H b o) s'.heap b o):Inv X pins σ (upd H b o) s':=by
  have ne:∀{c:Addr} {u:HO},H c=some u→upd H b o c=some u:=λ{c u} e=>by rw [upd_ne (ne_of_none e hn)];exact e
  refine⟨I.ok,I.os,I.bare,⟨I.base.keep,I.base.slot,λc u e n hx=>?_,I.base.there,λc xs e=>ne (I.base.tups c xs e),λc ob u e=>ne (I.base.frzs c ob u e),λc ps e=>?_⟩,I.loc,I.cell,?_,λx c e=>?_,λp hp'=>?_,λc u e=>?_,I.len⟩
  · rw [upd_ne (λz=>by rw [z,h0] at e;cases e)];exact I.base.free c u e n hx
  · obtain⟨m,q⟩:=I.base.tbls c ps e
    exact⟨m,ne q⟩
  · rw [upd_ne hl.symm];exact I.free
  · rw [upd_ne (hc x c e)];exact I.freeC x c e
  · obtain⟨e,n,r⟩:=I.pin p hp'
    exact⟨e,by rw [upd_ne (hp p hp')];exact n,r⟩
  · by_cases hcb:c=b
    · subst hcb;rw [upd_same] at e;cases e;exact new
    · rw [upd_ne hcb] at e
      exact (I.hok c u e).stay (λ_ _ _ q=>q) (λd q=>ne q) (λd xs q=>ne q) λd ob u q=>ne q
theorem name_goes {M:Model}{A:Around}{E:Value→Shared→Prop}{i:Nat}{n:Str}{pos:Pos}{Q:Unit→Shared→Prop}(I:Inv X pins σ H s) (hN:X.N.Nodup) (hi:X.N[i]?=some n) (hk:X.env.scope.names.lookup n=some .local)
    (k:∀s',Inv X pins (σ.set i none) H s'→Q () s'):wpAny M A (do bindName X.env n .none;unbindBehindTheSuite X.env n pos) Q E s:=by
  obtain⟨m,hn,hl⟩:=id I.loc
  have ab:∀{b:Addr} {o:Obj},X.s₀.heap.get? b=some o→b≠X.env.locals:=λe=>Nat.ne_of_lt (Nat.lt_of_lt_of_le (Heap.lt_size e) I.ok.above)
  refine wpAny_nameGoes_keeps hk hn (by rw [I.ok.kind];rfl) λh' v hn' sb=>k _ ?_
  have stay:∀{b:Addr} {o:Obj},b≠X.env.locals→s.heap.get? b=some o→h'.get? b=some o:=λhb e=>(sb.2 _ hb).trans e
  refine⟨I.ok,I.os,I.bare,⟨λb o e n hb hx=>stay (ab e) (I.base.keep b o e n hb hx),λb o e n hb hx=>?_,I.base.free,λb o e hx=>?_,I.base.tups,I.base.frzs,I.base.tbls⟩,⟨_,hn',λj y v' e1 e2 e3=>?_⟩,λy c e=>?_,I.free,I.freeC,λp hp=>?_,λb u e=>?_,by rw [List.length_set];exact I.len⟩
  · obtain⟨sl,q⟩:=I.base.slot b o e n hb hx
    exact⟨sl,stay (ab e) q⟩
  · obtain⟨o',q⟩:=I.base.there b o e hx
    exact⟨o',stay (ab e) q⟩
  · have hj:i≠j:=λz=>by
      subst z
      by_cases hlt:i<σ.length
      · rw [List.getElem?_set_self hlt] at e2;cases e2
      · rw [List.getElem?_eq_none (by rw [List.length_set];omega)] at e2;cases e2
    rw [List.getElem?_set_ne hj] at e2
    obtain⟨u,r,q⟩:=hl j y v' e1 e2 e3
    refine⟨u,r,?_⟩
    rcases q with ⟨k1,q⟩|⟨k1,c,q1,o,q2,q3⟩
    · have hy:y≠n:=λz=>by subst z;exact hj (nodup_ix hN hi e1)
      refine .inl ⟨k1,?_⟩
      show (if y=n then v else m y)=some u
      rw [if_neg hy]
      exact q
    · exact .inr ⟨k1,c,q1,o,stay (I.cne y c q1) q2,q3⟩
  · obtain⟨v',o,q1,q2⟩:=I.cell y c e
    exact⟨v',o,stay (I.cne y c e) q1,q2⟩
  · obtain⟨q1,q2,q3,q4⟩:=I.pin p hp
    exact⟨stay q3 q1,q2,q3,q4⟩
  · refine (I.hok b u e).stay (λc o hc q=>stay (λz=>?_) q) (λ_ q=>q) (λ_ _ q=>q) λ_ _ _ q=>q
    rcases hc with rfl|hc
    · rw [z,I.free] at e;cases e
    · rw [z,I.free] at hc;cases hc
theorem frames_un {base h h':Heap}:∀{l:List Env},h.FunFrames base l→(∀b∈frs l,∀o,h.get? b=some o→∃o',h'.get? b=some o'∧o'.data=o.data)→h'.FunFrames base l
  | [],_,_=>trivial
  | env::l,⟨k1,⟨L,o,k2,k3,k4,k5⟩,k6⟩,k=>by
    have mem:∀b,b=L∨b∈frs l→b∈frs (env::l):=λb hb=>by
      unfold frs
      rw [List.filterMap_cons,k2]
      exact List.mem_cons.mpr hb
    obtain⟨o',e1,e2⟩:=k L (mem L (.inl rfl)) o k4
    exact⟨k1,⟨L,o',k2,k3,e1,λvs z=>k5 vs (e2▸z)⟩,frames_un k6 λb hb=>k b (mem b (.inr hb))⟩
theorem ObjOk.there {P:Program}{w:World}{H:Hp}{h:Heap}{a:Addr}{o:HO}(x:ObjOk P w H h a o):∃ob,h.get? a=some ob:=by
  cases o with
  | lst xs=>obtain⟨_,_,_,_,e⟩:=x;exact⟨_,e⟩
  | tup xs=>obtain⟨_,_,_,o,e,_⟩:=x;exact⟨o,e⟩
  | dK kvs=>obtain⟨_,_,_,_,o,_,_,e,_⟩:=x;exact⟨o,e⟩
  | dT kvs=>obtain⟨_,_,_,_,o,_,_,e,_⟩:=x;exact⟨o,e⟩
  | set S n=>obtain⟨o,_,_,_,e,_⟩:=x;exact⟨o,e⟩
  | ins C dx fs=>obtain⟨_,_,_,e,_⟩:=x;exact⟨_,e⟩
  | own y=>exact x
  | xd fs=>obtain⟨_,⟨o,_,_,e,_⟩,_⟩:=x;exact⟨o,e⟩
  | rng lo hi=>obtain⟨_,_,_,e⟩:=x;exact⟨_,e⟩
  | frz ob u=>obtain⟨e,_⟩:=x;exact⟨_,e⟩
  | tbl ps=>exact⟨_,x⟩
  | met f y=>exact⟨_,x⟩
  | tab pos q=>obtain⟨_,e,_⟩:=x;exact⟨_,e⟩
  | ext φ=>obtain⟨_,e,_⟩:=x;exact e
noncomputable def tTry (ta:TA) (sp:Sp) (cond:Addr→Prop) (i:Nat) (tsu:TS):TS:=λD σ H=>ta σ H λvs H1=>sp vs H1 (λ_ H'=>D.nx σ H') (λcls _ H'=>∃C,cls=.ref C∧cond C ∧
  ∀a,H' a=none→tsu { nx:=fun σ' H''=>D.nx (σ'.set i none) H'',rt:=λ_ _=>False } (σ.set i (some (.ref a))) (upd H' a (.ext (XAt C a))))
theorem XAt.ext {D x:Addr}{h:Heap}{P:Program}{w:World}{H:Hp}(p:XAt D x h):ObjOk P w H h x (.ext (XAt D x)):=
  ⟨p,let ⟨o,_,e,_⟩:=p;⟨o,e⟩,λh1 h2 ⟨o,vs,a1,a2,a3,a4⟩ k=>⟨o,vs,k o a1,a2,a3,a4⟩⟩
theorem Lot.at_ {g h:Heap}{e C:Addr}{fl:Value}(l:Lot g h e (.ref C) fl):XAt C e h:=by
  obtain⟨_,oe,vs,T,oT,ts,a1,a2,a3,_⟩:=l
  exact⟨oe,vs,a1,a2.1,a2.2,a3⟩
theorem ps_try {f c n:Str}{fa Cc:Addr}{fd:FuncData}{ps:List Str}{sp:Sp}{k i:Nat}{e:Expr}{es:List Expr}{ta:TA}{b₀:Stmt}{suite:List Stmt}{tsu:TS}{cond:Addr→Prop}{p pos epos np hpos tpos:Pos}
    (F:FnOk X.prog X.w X.K X.mg X.base (CXr X.prog X.w) k fa fd ps sp) (hr:Room k X.A) (hg:Gl X f) (hm:X.mg f=some (.ref fa)) (hk:keepIn X.K (.ref fa)=true) (hb:Binds X.K fd ps []) (ha:PA X.nox (e::es) ta) (hdb:(f == ("__debug__":Str))=false)
    (he:starEach (e::es) X.env=(false,eval e X.env)::starEach es X.env) (hpl:(backTo pos (starEach es X.env)).any (·.1)=false)
    (hgc:Gl X c) (hmc:X.mg c=some (.ref Cc)) (hdc:(c == ("__debug__":Str))=false) (hcd:∀C,cond C→exmOne X.K (.ref C) (.ref Cc)=some true) (hN:X.N.Nodup) (hi:X.N[i]?=some n) (hn:X.env.scope.names.lookup n=some .local)
    (hsu:∀a,PSs (X.hold a) (b₀::suite) tsu) (hst:X.stack=X.env::X.outer∧X.env.frame=some X.env.locals) (hex:X.ex=[]) :
    PS X (.Try [.Expr (.Call (.Name f p) (e::es) [] pos) epos] [.ExceptHandler (some (.Name c np)) (some n) (b₀::suite) hpos] [] [] tpos) (tTry ta sp cond i tsu):=by
  intro pins s σ H D I hq
  refine wpAny_Try_except (wpAny_execs_cons (wpAny_Expr_any ?_ I.quiet rfl))
  refine wpAny_Call_Name_kw (ld_glob I hg hm ?_ hdb)
  refine callWith_K (h₀:=X.base) I.ok.mod.kin hk (wpAny_mono (ha pos pins s σ H _ (I.wish _) hq) (λus s1 ⟨vs,H1,I1,r,q⟩=>?_) λ_ _ z=>z.elim) he hpl
  have I1:=I1.unwish
  refine⟨I1.kIn,?_⟩
  have hl:us.length=ps.length:=by rw [←r.length];exact F.len _ _ _ _ q
  refine wpAny_call (codeAny_mono (F.run X.A X.stack s1 H1 ⟨us,[]⟩ us vs _ _ hr I1.env0 (by have:=hb s1 us I1.kIn (by simpa using hl);simpa using this) r q) λr' s' hq'=>?_)
  cases r' with
  | ok fl =>
    cases fl with
    | ret u =>
      obtain⟨v,H',I',_,q'⟩:=I1.after hq'
      exact wpAny_execs_nil (wpAny_execs_nil ⟨σ,H',I',q'⟩)
    | next=>exact False.elim hq'
    | brk=>exact False.elim hq'
    | cont=>exact False.elim hq'
  | error ev =>
    obtain⟨a,C,H',g,fr,rfl,os,bare,un,hok,hfr,hsub,nr,lot,C',eC,cC,hT⟩:=hq'
    cases eC
    have fg:g.FunFrames X.base (X.env::X.outer):=by
      have q:=frames_un (h':=g) I1.stack λb hb o e=>by
        obtain⟨sl,z⟩:=un.slot b o e (I1.stkFree b hb) hb (by simp)
        exact⟨_,z,rfl⟩
      rw [hst.1] at q
      exact q
    have gone:∀b,(∃o,s1.heap.get? b=some o)→a≠b:=λb ⟨o,e⟩ z=>by
      obtain⟨o',e'⟩:=un.there b o e (by simp)
      rw [←z,lot.new] at e';cases e'
    have hn':H' a=none:=by
      cases q:H' a with
      | none=>rfl
      | some u =>
        obtain⟨o,e⟩:=(hok a u q).there
        rw [lot.new] at e;cases e
    have fr2:X.A.frames=some (X.env::X.outer):=by rw [←hst.1];exact I1.ok.frames
    have inv:∀h3,Nr fr g h3→Inv X pins σ H' { s' with heap:=h3 }:=λh3 n3 =>
      I1.call' (s':={ s' with heap:=h3 }) (ch:=[]) os (un.nr n3 λb hb=>(hfr b hb).1) (hok.nr n3 λb hb=>(hfr b hb).2) bare λb z=>absurd z (by simp)
    refine note_on (base:=X.base) (g:=g) (fr:=fr) fr2 fg hst.2 (λb hb=>hsub b (by rw [hst.1];exact hb)) nr lot λh2 n2 l2=>?_
    refine flight_off (s:={ s' with heap:=h2 }) n2 l2 λh3 n3 l3=>?_
    have I3:=inv h3 n3
    refine wpAny_handleBy_cons (codeAny_handlers_test (ld_glob (X:=X.hold a) (I3.hold a) hgc hmc (exc_match I3.kIn l3.at_ (hcd C cC) ?_) hdc)) (by intro q;cases q)
    refine codeAny_handlers_suite_as (flight_off (s:={ s' with heap:=h3 }) n3 l3 λh4 n4 l4=>?_)
    have I4:=inv h4 n4
    have I5:=I4.take (b:=a) (o:=.ext (XAt C a)) (by
        cases q:X.s₀.heap.get? a with
        | none=>rfl
        | some o=>exact absurd rfl (gone a (I1.base.there a o q (by rw [hex];simp))))
      (gone _ (let ⟨m,⟨o,_,_,e,_⟩,_⟩:=I1.loc;⟨o,e⟩)) (λx c e=>(gone c (let ⟨v,o,e,_⟩:=I1.cell x c e;⟨o,e⟩)).symm) (λp hp=>(gone p.1 ⟨_,(I1.pin p hp).1⟩).symm) hn' l4.at_.ext
    refine store_ok (X:=X) I5 hN hi (.inl hn) (v:=.ref a) rfl (λs5 I6=>?_) (.inr hn)
    refine wpAny_mono (hsu a pins s5 _ _ _ (I6.hold a) (hT a hn')) (λfl s6 q6=>?_) (λ_ _ z=>z.elim)
    cases fl with
    | next =>
      obtain⟨σ6,H6,I7,q7⟩:=q6
      exact name_goes (I7.unhold I.ok) hN hi hn λs7 I8=>⟨_,H6,I8,q7⟩
    | ret u=>obtain⟨_,_,_,_,_,z⟩:=q6;exact z.elim
    | brk=>obtain⟨_,_,_,z⟩:=q6;exact z.elim
    | cont=>obtain⟨_,_,_,z⟩:=q6;exact z.elim
end
end L2
namespace L2
open PySem PySem.W PySem.Spec PySem.Calls PyProof.Rows
structure FnH (P:Program) (w:World) (K:Frag) (mg:Str→Option Value) (base:Heap) (k:Nat) (f:Addr) (fd:FuncData) (ps:List Str) (sp:List V→Hp→VK→Prop):Prop where
  len:∀vs H Q,sp vs H Q→vs.length=ps.length
  run:∀(A:Around) (outer:List Env) (s:Shared) (H:Hp) (args:Args) (us:List Value) (vs:List V) (Q:VK),A.depth+3 * k+5<recursionLimit→A.units+16 * k+200<cLine→Env0 P w K mg base A outer s H→BindsTo s fd args (ps.zip us)→Vals vs us→sp vs H Q →
    codeAny (model P w) A (.call (.ref f) args) (CR CX0 outer P w H s Q E0) s
section
variable {P:Program}{w:World}{K:Frag}{mg:Str→Option Value}{base:Heap}{N ps:List Str}{qual:Str}{scope:Scope}{f:Addr}{cd:Value}{outer:List Env}{H:Hp}
noncomputable abbrev cxH (P:Program) (w:World) (K:Frag) (mg:Str→Option Value) (base:Heap) (N:List Str) (qual:Str) (scope:Scope) (f:Addr) (cd:Value) (A:Around) (outer:List Env) (s:Shared) (H:Hp):Cx:=
  { cxOf CX0 P w K mg base N qual scope f cd A outer s H E0 with calm:=false }
theorem inv_h {A:Around}{s s1:Shared}{us:List Value}{vs:List V}(S:FnScope N ps scope) (e0:Env0 P w K mg base A outer s H) (hl:vs.length=ps.length) (r:Vals vs us)
    (x:InCallC s s.heap.objs.size (bindL (envOfC qual scope s.heap.objs.size f cd).kindOf (ps.zip us) λ_=>none) (cellsFrom (s.heap.objs.size+1) scope.names []) (bindC (envOfC qual scope s.heap.objs.size f cd).kindOf (ps.zip us) λ_=>none) s1) :
    Inv (cxH P w K mg base N qual scope f cd A outer s H) [] (start N vs) H s1:=by
  have e1:Env0 P w K mg base { A with handled:=none } outer s H:=⟨e0.frames,e0.mod,e0.bs,e0.bsz,e0.funs,e0.frf,e0.hok,e0.bare⟩
  have I:=inv_start (CX:=CX0) (E:=E0) S rfl e1 hl r x
  exact⟨⟨I.ok.mod,I.ok.kind,I.ok.glob,I.ok.blt,I.ok.above,I.ok.inj,I.ok.has,I.ok.cab,λz=>(nomatch z),Around.frames_deeper e0.frames,I.ok.stk,I.ok.exf,I.ok.bs,I.ok.bsz,I.ok.noex,I.ok.exfs,I.ok.funs,I.ok.frf⟩,I.os,I.bare,I.base,I.loc,I.cell,I.free,I.freeC,I.pin,I.hok,I.len⟩
theorem fn_h {k:Nat}{name:Str}{params:Arguments}{body:List Stmt}{dV kV doc pm ct oc:Value}{an od:Option Addr}{osl:Array (Option Value)}{sp:List V→Hp→VK→Prop}(lk:K.lookup f=some ⟨oc,od,.func (fnOf name qual params body scope dV kV doc pm an cd ct),osl⟩) (hcd:codeIn K cd qual=true) (S:FnScope N ps scope)
    (len:∀vs H Q,sp vs H Q→vs.length=ps.length) (go:∀(A:Around) (outer:List Env) (s:Shared) (H:Hp) (vs:List V) (Q:VK),sp vs H Q→∃t,PSs (cxH P w K mg base N qual scope f cd A outer s H) body t∧t { nx:=λ_ H'=>Q .non H',rt:=Q } (start N vs) H) :
    FnH P w K mg base (k+1) f (fnOf name qual params body scope dV kV doc pm an cd ct) ps sp:=by
  constructor
  · exact len
  intro A outer s H args us vs Q hd hu e0 hb r hs
  have old:∀b o,base.get? b=some o→s.heap.get? b=some o:=λb o e=>(e0.bs b o e).1
  have kin:=e0.mod.kin.keeps old
  apply codeAny_call_function (by omega) (kin _ _ lk) rfl S.co S.gen rfl (codeRec_of kin hcd)
  apply hb
  apply wpAny_newFunctionEnv_cells S.kind
  · rintro⟨n,v⟩ hy
    exact (S.par n (List.of_mem_zip hy).1).imp id λq=>⟨q,cellsFrom_some _ _ _ (.inl q)⟩
  rintro env rfl s1 x
  obtain⟨t,ht,hq⟩:=go A outer s H vs Q hs
  refine⟨(e0.mod.nolimit.keeps old).keeps x.toInCall.keep,codeAny_func (wpAny_mono (ht [] s1 _ H _ (inv_h S e0 (len _ _ _ hs) r x) hq) ?_ λ_ _ z=>z)⟩
  intro fl s' hs'
  cases fl with
  | ret u =>
    obtain⟨v,σ',H',J,rv,q⟩:=hs'
    exact⟨v,H',J.os,J.bare,J.base,J.hok,rv,q⟩
  | next =>
    obtain⟨σ',H',J,q⟩:=hs'
    exact⟨V.non,H',J.os,J.bare,J.base,J.hok,rfl,q⟩
  | brk=>exact hs'.choose_spec.choose_spec.2.elim
  | cont=>exact hs'.choose_spec.choose_spec.2.elim
theorem pe_callH {X:Cx}{x:Str}{p pos:Pos}{e:Expr}{es:List Expr}{ta:TA}{k:Nat}{fd:FuncData}{sp:List V→Hp→VK→Prop}(F:FnH X.prog X.w X.K X.mg X.base k f fd ps sp) (hd:X.A.depth+3 * k+5<recursionLimit) (hu:X.A.units+16 * k+200<cLine) (hg:Gl X x) (hm:X.mg x=some (.ref f)) (hk:keepIn X.K (.ref f)=true) (hb:Binds X.K fd ps [])
    (ha:PA X (e::es) ta) (hdb:(x == ("__debug__":Str))=false) (he:starEach (e::es) X.env=(false,eval e X.env)::starEach es X.env) (hpl:(backTo pos (starEach es X.env)).any (·.1)=false) :
    PE X (.Call (.Name x p) (e::es) [] pos) (fun σ H Q=>ta σ H λvs H1=>sp vs H1 Q):=by
  intro pins s σ H Q I h
  apply wpAny_Call_Name_kw
  apply ld_glob I hg hm _ hdb
  apply callWith_K (h₀:=X.base) I.ok.mod.kin hk _ he hpl
  apply thn (ha pos pins s σ H _ I h)
  rintro us s1 ⟨vs,H1,I1,r,q⟩
  refine⟨I1.kIn,wpAny_call (codeAny_mono (F.run X.A X.stack s1 H1 ⟨us,[]⟩ us vs Q hd hu I1.env0 (by have:=hb s1 us I1.kIn (by rw [List.append_nil,←r.length];exact F.len _ _ _ q);rw [List.append_nil] at this;exact this) r q) ?_)⟩
  rintro (e|fl) s' z
  · exact z.elim
  · cases fl with
    | ret u=>exact I1.after z
    | next=>exact z.elim
    | brk=>exact z.elim
    | cont=>exact z.elim
end
end L2
namespace L2
open PySem PySem.W PySem.Calls PyProof.Rows
section
variable {X:Cx}{pins:List (Addr×Obj)}{σ:St}{H:Hp}{s:Shared}{h':Heap}
end
end L2
namespace L2
open PySem PySem.W PySem.Calls PyProof.Rows
section
variable {P:Program}{w:World}{K:Frag}{mg:Str→Option Value}{base:Heap}{N:List Str}{name qual:Str}{params:Arguments}{body:Expr}{scope:Scope}{f c:Addr}{clos:List (Str×Addr)}{pm ctv:Value}{A:Around}{outer:List Env}{s:Shared}{H:Hp}
end
end L2
namespace Dw
open PySem PySem.W PyProof.Rows
structure Ord (c:Nat→Nat→Bool):Prop where
  as:∀i j,c i j=true→c j i=false
  nt:∀i j k,c i j=false→c j k=false→c i k=false
noncomputable abbrev gt0 (p:Array Nat) (i:Nat):Nat:=p.getD i 0
section
variable {c:Nat→Nat→Bool}
noncomputable def Dn (c:Nat→Nat→Bool) (p:Array Nat) (n:Nat):Prop:=∀a b,a<b→b<n→c (gt0 p a) (gt0 p b)=false
end
end Dw
namespace Dw
open PySem PySem.W PySem.Calls PyProof.Rows
noncomputable def EntAt (h:Heap) (d:Addr) (es:Array DictEntry) (ep:Nat):Prop:=∃o,h.get? d=some o∧o.ExactDict∧o.data=.dict es ep
theorem EntAt.ty {s:Shared}{d:Addr}{es:Array DictEntry}{ep:Nat}(x:EntAt s.heap d es ep):s.TypeIs (.ref d) "dict":=let ⟨o,a,b,_⟩:=x;⟨o,a,b.1⟩
theorem EntAt.mv {h h':Heap}{d:Addr}{es:Array DictEntry}{ep:Nat}(x:EntAt h d es ep) (e:∀o,h.get? d=some o→h'.get? d=some o):EntAt h' d es ep:=let ⟨o,a,b⟩:=x;⟨o,e _ a,b⟩
theorem EntAt.lt {h:Heap}{d:Addr}{es:Array DictEntry}{ep:Nat}(x:EntAt h d es ep):d<h.objs.size:=let ⟨_,a,_⟩:=x;Heap.lt_size a
section
variable {prog:Program}{w:World}{A:Around}{E:Value→Shared→Prop}{s:Shared}{d it:Addr}{es:Array DictEntry}{ep i:Nat}
end
end Dw
namespace Dw
open PySem PySem.W PySem.Calls PyProof.Rows
section
variable {c:Nat→Nat→Bool}{n:Nat}
noncomputable def Bd (n:Nat) (p:Array Nat):Prop:=∀i,p.getD i 0<n
theorem Bd.mv {p q:Array Nat}(h0:0<n) (h:Bd n p) (e:q.Perm p):Bd n q:=λi=>by
  rw [Array.getD_eq_getD_getElem?]
  cases z:q[i]? with
  | none=>exact h0
  | some x =>
    have hx:x∈p:=e.mem_iff.mp (Array.mem_of_getElem? z)
    obtain⟨j,hj⟩:=Array.getElem?_of_mem hx
    have:=h j
    rw [Array.getD_eq_getD_getElem?,hj] at this
    exact this
end
section
variable {prog:Program}{w:World}{A:Around}{E:Value→Shared→Prop}{s:Shared}
end
end Dw
namespace Dw
open PySem PySem.W PySem.Calls PyProof.Rows
section
variable {prog:Program}{w:World}{A:Around}{E:Value→Shared→Prop}{s:Shared}{a kS:Addr}{vs ks:List Value}{κ:SortKind}{c:Nat→Nat→Bool}
end
end Dw
namespace Dw
open PySem PySem.W PySem.Calls PyProof.Rows
section
variable {prog:Program}{w:World}{A:Around}{E:Value→Shared→Prop}{s:Shared}
end
end Dw
namespace L2
open PySem PySem.W PySem.Calls PyProof.Rows Dw
section
variable {X:Cx}{pins:List (Addr×Obj)}{σ:St}{H:Hp}{s:Shared}
structure Ours (X:Cx) (pins:List (Addr×Obj)) (b:Addr):Prop where
  loc:b≠X.env.locals
  new:X.s₀.heap.objs.size≤b
  cel:∀x c,X.env.cells.lookup x=some c→c≠b
  pin:∀p∈X.pn++pins,p.1≠b
  stk:b∉frs X.stack
theorem Ours.of {b:Addr}(I:Inv X pins σ H s) (hb:s.heap.objs.size≤b):Ours X pins b where
  loc:=Nat.ne_of_gt (Nat.lt_of_lt_of_le I.lt hb)
  new:=Nat.le_trans I.sz hb
  cel:=λx c e=>by
    obtain⟨v,o,ho,_⟩:=I.cell x c e
    exact Nat.ne_of_lt (Nat.lt_of_lt_of_le (Heap.lt_size ho) hb)
  pin:=λp hp=>Nat.ne_of_lt (Nat.lt_of_lt_of_le (Heap.lt_size (I.pin p hp).1) hb)
  stk:=λhs=>by
    rcases List.mem_cons.mp (I.stkSub b hs) with z|z
    · exact absurd (Nat.lt_of_lt_of_le I.lt hb) (by rw [z];exact Nat.lt_irrefl _)
    · obtain⟨_,o,ho,_⟩:=I.ok.funs.mem z
      exact absurd (Nat.lt_of_lt_of_le (Heap.lt_size ho) (Nat.le_trans I.sz hb)) (Nat.lt_irrefl _)
end
end L2
namespace L2
open PySem PySem.W PySem.Calls PyProof.Rows Dw
section
variable {X:Cx}{id:String}{ks:List Str}{r:List V→List V→Hp→VK→St→Prop}{x:Str}{p pos:Pos}{e:Expr}{es:List Expr}{kws:List Keyword}{t tk:TA}
end
section
variable {X:Cx}{pins:List (Addr×Obj)}{σ:St}{H:Hp}{s:Shared}
end
end L2
namespace L2
open PySem
theorem clos_of {sc:Scope}{env:Env}(h:∀y,(y,NameKind.free)∈sc.names→∃c,env.cells.lookup y=some c) :
    ∃clos,closureFor sc env=pure clos∧(∀y c,clos.lookup y=some c→env.cells.lookup y=some c)∧∀y,(y,NameKind.free)∈sc.names→∃c,clos.lookup y=some c:=by
  unfold closureFor
  have go:∀(l:List (Str×NameKind)) (cs:List (Str×Addr)),(∀y,(y,NameKind.free)∈l→∃c,env.cells.lookup y=some c)→(∀y c,cs.lookup y=some c→env.cells.lookup y=some c) →
      ∃cs',(forIn l cs (λx (cs:List (Str×Addr))=>(match x with
        | (name,kind)=>if (kind == NameKind.free)=true then do let a ←cellOf env name;pure (ForInStep.yield ((name,a)::cs)) else pure (ForInStep.yield cs):Sem (ForInStep (List (Str×Addr))))))=(pure cs':Sem (List (Str×Addr))) ∧
        (∀y c,cs'.lookup y=some c→env.cells.lookup y=some c)∧(∀y,(y,NameKind.free)∈l→∃c,cs'.lookup y=some c)∧∀y c,cs.lookup y=some c→∃c,cs'.lookup y=some c:=by
    intro l
    induction l with
    | nil=>intro cs _ hc;exact⟨cs,rfl,hc,λ_ z=>(nomatch z),λy c e=>⟨c,e⟩⟩
    | cons x l ih =>
      intro cs hl hc
      obtain⟨nm,kd⟩:=x
      rw [List.forIn_cons]
      by_cases hk:kd=.free
      · subst hk
        obtain⟨a,ha⟩:=hl nm List.mem_cons_self
        obtain⟨cs',e1,e2,e3,e4⟩:=ih ((nm,a)::cs) (λy hy=>hl y (List.mem_cons_of_mem _ hy)) λy c e=>by
          rw [List.lookup_cons] at e
          split at e
          · rename_i hq;cases e;rw [beq_iff_eq.mp hq];exact ha
          · exact hc y c e
        refine⟨cs',?_,e2,λy hy=>?_,λy c e=>?_⟩
        · simp only [beq_self_eq_true,if_true,cellOf,ha,pure_bind]
          exact e1
        · rcases List.mem_cons.mp hy with q|q
          · cases q;exact e4 nm a (by rw [List.lookup_cons,beq_self_eq_true])
          · exact e3 y q
        · by_cases q:y=nm
          · subst q;exact e4 y a (by rw [List.lookup_cons,beq_self_eq_true])
          · exact e4 y c (by rw [List.lookup_cons,show (y == nm)=false by simpa using q];exact e)
      · obtain⟨cs',e1,e2,e3,e4⟩:=ih cs (λy hy=>hl y (List.mem_cons_of_mem _ hy)) hc
        refine⟨cs',?_,e2,λy hy=>?_,e4⟩
        · have:(kd == NameKind.free)=false:=by simpa using hk
          simp only [this,Bool.false_eq_true,if_false,pure_bind]
          exact e1
        · rcases List.mem_cons.mp hy with q|q
          · cases q;exact absurd rfl hk
          · exact e3 y q
  obtain⟨cs',e1,e2,e3,_⟩:=go sc.names [] h λ_ _ z=>(nomatch z)
  refine⟨cs',?_,e2,e3⟩
  have e:=congrArg (λm=>m >>= λcs=>(pure cs:Sem (List (Str×Addr)))) e1
  simp only [pure_bind] at e
  exact e
end L2
namespace Dw
open PySem L2
noncomputable def tbs:List (Addr×Pos×Str):=[]
noncomputable def TB (H:Hp):Prop:=∀t∈tbs,H t.1=some (.tab t.2.1 t.2.2)
theorem TB.same {H H':Hp}(h:TB H) (s:Same H H'):TB H':=λt m=>s _ _ (h t m)
end Dw
namespace Dw
open PySem PySem.Spec PyProof.Rows L2
noncomputable def Its (lo st:Int) (n:Nat):It:={ go:=λi _=>i<n,yld:=λi H x H'=>H'=H∧x=V.int (lo+(i:Nat) * st),stop:=λi _=>n≤i }
theorem rsz_eq (a b c:Int):Builtin.Range.rangeSize a b c=rszD a b c:=rfl
theorem rsz_bd (a b c:Int) (h:c≠0):0≤rszD a b c∧rszD a b c≤(b - a).natAbs:=by
  unfold rszD
  split
  · split
    · have h1:0≤(b - a - 1) / c:=Int.ediv_nonneg (by omega) (by omega)
      have h2:(b - a - 1) / c≤b - a - 1:=Int.ediv_le_self _ (by omega)
      omega
    · omega
  · split
    · have h1:0≤(a - b - 1) / -c:=Int.ediv_nonneg (by omega) (by omega)
      have h2:(a - b - 1) / -c≤a - b - 1:=Int.ediv_le_self _ (by omega)
      omega
    · omega
theorem rsz_small {a b c:Int}(h1:-(2^62)≤a) (h2:a<2^62) (h3:-(2^62)≤b) (h4:b<2^62) (h5:c≠0) (h6:c.natAbs<2^30):Builtin.Range.small a b c=true:=by
  have hb:=rsz_bd a b c h5
  unfold Builtin.Range.small
  rw [rsz_eq]
  generalize rszD a b c=z at hb
  have f:∀x:Int,-(2^63)≤x→x<2^63→Builtin.Range.rangeFitsLong x=true:=by
    intro x p q
    simp [Builtin.Range.rangeFitsLong];omega
  rw [f a (by omega) (by omega),f b (by omega) (by omega),f c (by omega) (by omega),f z (by omega) (by omega)]
  simp only [Bool.true_and,Bool.or_eq_true]
  right
  split
  · exact f _ (by omega) (by omega)
  · exact f _ (by omega) (by omega)
theorem turnStep {P:Program}{w:World}{K:PySem.W.Frag}{tg:Expr}(j:Addr) (lo st:Int) (n:Nat):Turn P w K tg (Its lo st n) [j] j (λi h=>IsRangeIter h j (lo+(i:Nat) * st) ((n:Int) - (i:Nat)) st) where
  mem:=by simp
  obj:=λi h y b hb=>by
    have e:b=j:=by simpa using hb
    subst e
    exact⟨_,y,λv z=>by
      have z':Data.fields _=Data.cell v:=z
      cases z'⟩
  keep:=λi h h' y k=>k j (by simp) _ y
  item:=by
    intro X hP hw hK hc i pins s σ H E I hf y hg
    subst hP hw hK
    obtain⟨u0,u1,u2,u3,u4,u5⟩:=hf j (by simp)
    have W:=Walks.range (prog:=X.prog) (w:=X.w) (I.ok.hd hc) j lo st n
    refine W.item i s _ _ hg y λv h' tk hv y' kk=>?_
    obtain⟨t,rfl⟩:=hv
    have J:Inv X pins σ H { s with heap:=h',toks:=tk }:=I.turned (λb o hb e=>kk b o (by simpa using hb) e) u0 u1 u3 u4 u5
    exact⟨_,rfl,go_of (s:={ s with heap:=h',toks:=tk }) (n:="range_iterator") y' rfl rfl (by decide) ⟨.int (lo+i * st),H,J,⟨t,rfl⟩,⟨rfl,rfl⟩,y',λb hb=>(hf b hb).1⟩⟩
  done:=by
    intro X hP hw hK hc i pins s σ H E I hf y hg
    subst hP hw hK
    obtain⟨u0,u1,u2,u3,u4,u5⟩:=hf j (by simp)
    exact wpAny_pyNext_range_end (I.ok.hd hc) y (by have:n≤i:=hg;omega) λh' eb=>⟨rfl,I.turned (t':=s.toks) (λb o hb e=>eb b o hb e) u0 u1 u3 u4 u5⟩
  self:=λ_ _ _ _ _ y h=>wpAny_pyIter_rangeiter y h
section
variable {X:Cx}{tg:Expr}
theorem stepIt {pins:List (Addr×Obj)}{σ:L2.St}{H:Hp}{s:Shared}{R:It→Hp→Prop}{E:Value→Shared→Prop}{lo hi st:Int}{t u v:Tok}{tk:Nat}(I:L2.Inv X pins σ H s) (h1:-(2^62)≤lo) (h2:lo<2^62) (h3:-(2^62)≤hi) (h4:hi<2^62) (h5:st≠0) (h6:st.natAbs<2^30)
    (q:R (Its lo st (rszD lo hi st).toNat) H):wpAny (model X.prog X.w) X.A (pyIter (.ref s.heap.objs.size)) (PIE X pins σ tg R) E { s with heap:=s.heap.push { cls:=.type "range",data:=.fields #[.int lo t,.int hi u,.int st v] },toks:=tk }:=by
  refine wpAny_pyIter_range (IsRange.new ..) (rsz_small h1 h2 h3 h4 h5 h6) ?_
  have J:Inv X pins σ H { s with heap:=s.heap.push { cls:=.type "range",data:=.fields #[.int lo t,.int hi u,.int st v] },toks:=tk }:=I.kept λb o e=>Heap.get?_push_of_some _ e
  refine⟨(s.heap.push { cls:=.type "range",data:=.fields #[.int lo t,.int hi u,.int st v] }).objs.size,[(s.heap.push { cls:=.type "range",data:=.fields #[.int lo t,.int hi u,.int st v] }).objs.size],_,_,H,rfl,
    J.kept (t':=tk) λb o e=>Heap.get?_push_of_some _ e,turnStep _ lo st (rszD lo hi st).toNat,?_,λb hb=>?_,q⟩
  · have e1:lo+((0:Nat):Int) * st=lo:=by simp
    have e2:(((rszD lo hi st).toNat:Nat):Int) - ((0:Nat):Int)=Builtin.Range.rangeSize lo hi st:=by
      have:=rsz_bd lo hi st h5
      rw [rsz_eq];omega
    show IsRangeIter _ _ (lo+((0:Nat):Int) * st) ((((rszD lo hi st).toNat:Nat):Int) - ((0:Nat):Int)) st
    rw [e1,e2]
    exact Heap.get?_push_size _ rfl
  · have e:b=(s.heap.push { cls:=.type "range",data:=.fields #[.int lo t,.int hi u,.int st v] }).objs.size:=by simpa using hb
    subst e
    exact J.fpOk (Nat.le_refl _) (J.hok.fresh (Nat.le_refl _))
noncomputable def iRng3 (ta:TA):TI:=fun σ H R=>ta σ H λvs H1=>∃i j c:Int,vs=[.int i,.int j,.int c]∧(-(2^62)≤i∧i<2^62∧-(2^62)≤j∧j<2^62∧c≠0∧c.natAbs<2^30)∧R (Its i c (rszD i j c).toNat) H1
theorem no_pylong (x y:Int) (h:y.natAbs<2^30):Builtin.divisionGoesByPylong x y=false:=by
  unfold Builtin.divisionGoesByPylong
  simp only [Bool.and_eq_false_iff,decide_eq_false_iff_not]
  left
  split
  · decide
  · have:y.natAbs.log2<30:=by
      by_cases h0:y.natAbs=0
      · rw [h0];decide
      · exact (Nat.log2_lt h0).mpr h
    omega
theorem pi_range3 {a b c:Expr}{ta:TA}{p pos:Pos}(hg:Gl X "range") (hm:X.mg "range"=none) (ha:PA X [a,b,c] ta) (hs:starEach [a,b,c] X.env=[(false,eval a X.env),(false,eval b X.env),(false,eval c X.env)]) (hs2:starEach [b,c] X.env=[(false,eval b X.env),(false,eval c X.env)]) :
    PI X tg (.Call (.Name "range" p) [a,b,c] [] pos) (iRng3 ta):=by
  intro pins s σ H R I h
  refine Call_ (ld_blt I hg hm boot_range (PyProof.Rows.callWith_type1 (thn (ha pos pins s σ H _ I h) λus s1 ⟨vs,H1,J,r1,q1⟩=>?_) (by rw [hs,hs2]) (by rw [hs2];rfl)))
  obtain⟨i,j,k,e,⟨q1,q2,q3,q4,q5,q6⟩,q⟩:=q1
  subst e
  cases r1 with
  | cons r rr =>
    cases rr with
    | cons r' rr =>
      cases rr with
      | cons r'' rr =>
        cases rr
        obtain⟨t,rfl⟩:=r
        obtain⟨t',rfl⟩:=r'
        obtain⟨t'',rfl⟩:=r''
        exact call_range_3 q5 (stepIt J q1 q2 q3 q4 q5 q6 q) (.inl (no_pylong _ _ q6))
end
end Dw
namespace Dw
open PySem PySem.Spec PyProof.Rows L2
section
variable {prog:Program}{w:World}{A:Around}{E:Value→Shared→Prop}{s:Shared}
end
section
variable {X:Cx}{tg:Expr}
end
end Dw
namespace Dw
open PySem PySem.Spec PyProof.Rows L2 HT
section
variable {prog:Program}{w:World}{A:Around}{E:Value→Shared→Prop}{s:Shared}
theorem exact_tup {t:Addr}{items:Array Value}{Q:Bool→Shared→Prop}(ht:IsTup s.heap t items) (h:Q true s):wpAny (model prog w) A (Builtin.Tuple.tupleIsExact (.ref t)) Q E s:=by
  unfold Builtin.Tuple.tupleIsExact
  exact wpAny_bind (wpAny_typeOf ht.typeIs (wpAny_pure h))
theorem tup_whole {t sl:Addr}{items:Array Value}{vl vu:Value}{lo hi:Option Int}{Q:Value→Shared→Prop}(ht:IsTup s.heap t items) (hs:s.heap.IsSliceOf sl vl vu .none) (pl:IsPart vl lo) (pu:IsPart vu hi)
    (hw:sIx items.size 0 lo=0∧sIx items.size items.size hi=items.size) (h:Q (.ref t) s):wpAny (model prog w) A (getItem (.ref t) (.ref sl)) Q E s:=by
  obtain⟨os,hos,hcs,hds⟩:=id hs
  have hTs:s.TypeIs (.ref sl) "slice":=⟨os,hos,hcs⟩
  unfold getItem
  try with_reducible refine wpAny_holding ?_
  first|refine wpAny_bind (wpAny_pure ?_)|skip
  refine wpAny_bind (wpAny_sequenceKey ht.typeIs (by decide) ?_)
  refine wpAny_bind (wpAny_callSpecial?_slot (name:=Str.ofString "__getitem__") ht.typeIs PyProof.Rows.slot_tuple_getitem
    (wpAny_call_entry PyProof.Rows.slot_tuple_getitem ht.typeIs entry_tuple_getitem ?_ (args_tuple_getitem _ _)))
  show wpAny _ _ (Builtin.Tuple.tupleItemsOf (.ref t) >>= _) _ _ s
  refine wpAny_bind (tupleItemsOf_ ht (wpAny_bind (wpAny_typeOf hTs ?_)))
  rw [if_pos (by decide)]
  refine wpAny_bind (sliceApplied_gen hs pl pu ?_)
  have yes:(((sIx items.size 0 lo:Nat):Int) == 0&&(1:Int) == 1&&(sIx items.size items.size hi - sIx items.size 0 lo) == items.size)=true:=by
    rw [hw.1,hw.2];simp
  show wpAny _ _ (if (((sIx items.size 0 lo:Nat):Int) == 0&&(1:Int) == 1&&(sIx items.size items.size hi - sIx items.size 0 lo) == items.size)=true then _ else _) _ _ s
  rw [if_pos yes]
  refine wpAny_bind (exact_tup ht ?_)
  rw [if_pos rfl]
  refine wpAny_bind (wpAny_rule ?_)
  first
    | exact wpAny_bind (wpAny_pure (wpAny_pure ⟨_,rfl,wpAny_pure h⟩))
    | exact wpAny_bind (wpAny_pure ⟨_,rfl,wpAny_pure h⟩)
    | exact wpAny_pure ⟨_,rfl,wpAny_pure h⟩
end
section
variable {X:Cx}
noncomputable def rSlA (K:PySem.W.Frag):V→Option Int→Option Int→Hp→VK→Prop:=λx lo hi H Q=>∃a xs,x=.ref a∧SqT K H a xs∧(HT.sIx xs.length 0 lo=0∧HT.sIx xs.length xs.length hi=xs.length)∧Q (.ref a) H
theorem sl_all:SlR X (rSlA X.K):=by
  intro pins s σ H x v vl vu lo hi sl Q I rx hs pl pu h
  obtain⟨a,xs,rfl,hx,hw,q⟩:=h
  cases rx
  obtain⟨its,r,ht,hz⟩:=I.tuple hx
  have hlen:its.toArray.size=xs.length:=by rw [List.size_toArray];exact r.length.symm
  exact⟨"tuple",_,PyProof.Rows.slot_tuple_getitem.lookup,ht.typeIs,tup_whole ht hs pl pu (by rw [hlen];exact hw) ⟨.ref a,H,I,rfl,q⟩⟩
theorem cat_nil {prog:Program}{w:World}{A:Around}{E:Value→Shared→Prop}{s:Shared}{t b:Addr}{ws:Array Value}{Q:Value→Shared→Prop}(ht:IsTup s.heap t #[]) (hb:IsTup s.heap b ws) (h:Q (.ref b) s):wpAny (model prog w) A (binaryOp .Add (.ref t) (.ref b)) Q E s:=by
  obtain⟨⟨cls,dd,data,sl⟩,ho,hc,n,hd⟩:=id ht
  obtain⟨⟨cls2,dd2,data2,sl2⟩,ho2,hc2,n2,hd2⟩:=id hb
  simp only at hc hd hc2 hd2
  subst hc hd hc2 hd2
  exact concat_meets ⟨_,ho,rfl⟩ ⟨_,ho2,rfl⟩ noFill_tuple_add seq_tuple_add PySem.F.slot_tuple_add PySem.F.entry_tuple_add (PySem.F.args_tuple_add_2 _ _) (tuple_addW0 t b #[] ws n n2 dd dd2 sl sl2 rfl) ⟨ho,ho2,h⟩
theorem op_catN:OpR X (binaryOp .Add) (λx y H Q=>∃a b ys,x=.ref a∧y=.ref b∧SqT X.K H a []∧SqT X.K H b ys∧Q (.ref b) H):=by
  intro pins s σ H x y v u Q I rx ry h
  obtain⟨a,b,ys,rfl,rfl,ha,hb,q⟩:=h
  cases rx
  cases ry
  obtain⟨its,r1,p1,_⟩:=I.tuple ha
  obtain⟨its2,r2,p2,_⟩:=I.tuple hb
  cases r1
  exact cat_nil p1 p2 ⟨.ref b,H,I,rfl,q⟩
end
end Dw
namespace Dw
open PySem PySem.Spec PyProof.Rows L2
section
variable {X:Cx}
noncomputable def tFv (te:TE):TE:=fun σ H Q=>te σ H λx H1=>∃i:Int,x=.int i∧i.natAbs.log2<1920∧Q (.str (Str.ofString (toString i))) H1
theorem pe_fv {e:Expr}{te:TE}{pos:Pos}(he:PE X e te):PE X (.FormattedValue e (-1) none pos) (tFv te):=by
  intro pins s σ H Q I h
  refine wpAny_FormattedValue_plain (thn (he pins s σ H _ I h) λv s1 ⟨x,H1,I1,r1,i,e1,hi,q⟩=>?_)
  subst e1
  obtain⟨t,rfl⟩:=r1
  exact wpAny_formatField_int hi ⟨.str _,H1,(I1.tok _).tok _,⟨_,rfl⟩,q⟩
noncomputable abbrev TJ:=Str→L2.St→Hp→(Str→Hp→Prop)→Prop
noncomputable def PJ (X:Cx) (es:List Expr) (t:TJ):Prop:=∀(pins:List (Addr×Obj)) (s:Shared) (σ:L2.St) (H:Hp) (acc:Str) (Q:Str→Hp→Prop),Inv X pins σ H s→t acc σ H Q →
  Joins (model X.prog X.w) X.A X.xe (evalEach es X.env) acc (λout s'=>∃H',Inv X pins σ H' s'∧Q out H') s
noncomputable def tjNil:TJ:=λacc _ H Q=>Q acc H
noncomputable def tjCons (te:TE) (t:TJ):TJ:=λacc σ H Q=>te σ H λx H1=>∃y,x=.str y∧(acc++y).length≤sizeLine∧t (acc++y) σ H1 Q
theorem pj_nil:PJ X [] tjNil:=λpins s σ H acc Q I h=>⟨H,I,h⟩
theorem pj_cons {e:Expr}{es:List Expr}{te:TE}{t:TJ}(he:PE X e te) (hr:PJ X es t):PJ X (e::es) (tjCons te t):=by
  intro pins s σ H acc Q I h
  refine thn (he pins s σ H _ I h) λv s1 ⟨x,H1,I1,r1,y,e1,hz,q⟩=>?_
  subst e1
  obtain⟨t',rfl⟩:=r1
  exact⟨y,t',rfl,hz,hr pins s1 σ H1 _ Q I1 q⟩
end
end Dw
namespace Dw
open PySem PySem.Spec PyProof.Rows L2
theorem turnLong {P:Program}{w:World}{K:PySem.W.Frag}{tg:Expr}(j:Addr) (lo st:Int) (n:Nat):Turn P w K tg (Its lo st n) [j] j (λi h=>IsLongIter h j (lo+(i:Nat) * st) ((n:Int) - (i:Nat)) st) where
  mem:=by simp
  obj:=λi h y b hb=>by
    have e:b=j:=by simpa using hb
    subst e
    exact⟨_,y,λv z=>by
      have z':Data.fields _=Data.cell v:=z
      cases z'⟩
  keep:=λi h h' y k=>k j (by simp) _ y
  item:=by
    intro X hP hw hK hc i pins s σ H E I hf y hg
    subst hP hw hK
    obtain⟨u0,u1,u2,u3,u4,u5⟩:=hf j (by simp)
    have W:=Walks.longrange (prog:=X.prog) (w:=X.w) (I.ok.hd hc) j lo st n
    refine W.item i s _ _ hg y λv h' tk hv y' kk=>?_
    obtain⟨t,rfl⟩:=hv
    have J:Inv X pins σ H { s with heap:=h',toks:=tk }:=I.turned (λb o hb e=>kk b o (by simpa using hb) e) u0 u1 u3 u4 u5
    exact⟨_,rfl,go_of (s:={ s with heap:=h',toks:=tk }) (n:="longrange_iterator") y' rfl rfl (by decide) ⟨.int (lo+i * st),H,J,⟨t,rfl⟩,⟨rfl,rfl⟩,y',λb hb=>(hf b hb).1⟩⟩
  done:=by
    intro X hP hw hK hc i pins s σ H E I hf y hg
    subst hP hw hK
    obtain⟨u0,u1,u2,u3,u4,u5⟩:=hf j (by simp)
    exact wpAny_pyNext_long_end (I.ok.hd hc) y (by have:n≤i:=hg;omega) λh' eb=>⟨rfl,I.turned (t':=s.toks) (λb o hb e=>eb b o hb e) u0 u1 u3 u4 u5⟩
  self:=λ_ _ _ _ _ y h=>wpAny_pyIter_longiter y h
section
variable {X:Cx}{tg:Expr}
theorem longIt {pins:List (Addr×Obj)}{σ:L2.St}{H:Hp}{s:Shared}{R:It→Hp→Prop}{E:Value→Shared→Prop}{lo hi:Int}{t u v:Tok}{tk:Nat}(I:L2.Inv X pins σ H s)
    (q:R (Its lo 1 (hi - lo).toNat) H):wpAny (model X.prog X.w) X.A (pyIter (.ref s.heap.objs.size)) (PIE X pins σ tg R) E { s with heap:=s.heap.push { cls:=.type "range",data:=.fields #[.int lo t,.int hi u,.int 1 v] },toks:=tk }:=by
  have J:Inv X pins σ H { s with heap:=s.heap.push { cls:=.type "range",data:=.fields #[.int lo t,.int hi u,.int 1 v] },toks:=tk }:=I.kept λb o e=>Heap.get?_push_of_some _ e
  have e1:lo+((0:Nat):Int) * 1=lo:=by simp
  have e2:(((hi - lo).toNat:Nat):Int) - ((0:Nat):Int)=Builtin.Range.rangeSize lo hi 1:=by rw [rangeSize_one];split<;>omega
  have fp:∀b∈[(s.heap.push { cls:=.type "range",data:=.fields #[.int lo t,.int hi u,.int 1 v] }).objs.size],FpOk X pins H b:=λb hb=>by
    have e:b=(s.heap.push { cls:=.type "range",data:=.fields #[.int lo t,.int hi u,.int 1 v] }).objs.size:=by simpa using hb
    subst e
    exact J.fpOk (Nat.le_refl _) (J.hok.fresh (Nat.le_refl _))
  cases hsm:Builtin.Range.small lo hi 1 with
  | true =>
    refine wpAny_pyIter_range (IsRange.new ..) hsm ⟨_,[(s.heap.push { cls:=.type "range",data:=.fields #[.int lo t,.int hi u,.int 1 v] }).objs.size],_,_,H,rfl,J.kept (t':=tk) λb o e=>Heap.get?_push_of_some _ e,turnStep _ lo 1 (hi - lo).toNat,?_,fp,q⟩
    show IsRangeIter _ _ (lo+((0:Nat):Int) * 1) ((((hi - lo).toNat:Nat):Int) - ((0:Nat):Int)) 1
    rw [e1,e2]
    exact Heap.get?_push_size _ rfl
  | false =>
    refine wpAny_pyIter_longrange (IsRange.new ..) hsm ⟨_,[(s.heap.push { cls:=.type "range",data:=.fields #[.int lo t,.int hi u,.int 1 v] }).objs.size],_,_,H,rfl,J.kept (t':=tk) λb o e=>Heap.get?_push_of_some _ e,turnLong _ lo 1 (hi - lo).toNat,?_,fp,q⟩
    show IsLongIter _ _ (lo+((0:Nat):Int) * 1) ((((hi - lo).toNat:Nat):Int) - ((0:Nat):Int)) 1
    rw [e1,e2]
    exact Heap.get?_push_size _ rfl
noncomputable def iRngL (ta:TA):TI:=fun σ H R=>ta σ H λvs H1=>∃i j:Int,vs=[.int i,.int j]∧R (Its i 1 (j - i).toNat) H1
theorem pi_rangeL {a b:Expr}{ta:TA}{p pos:Pos}(hg:Gl X "range") (hm:X.mg "range"=none) (ha:PA X [a,b] ta) (hs:starEach [a,b] X.env=[(false,eval a X.env),(false,eval b X.env)]) (hs2:starEach [b] X.env=[(false,eval b X.env)]) :
    PI X tg (.Call (.Name "range" p) [a,b] [] pos) (iRngL ta):=by
  intro pins s σ H R I h
  refine Call_ (ld_blt I hg hm boot_range (PyProof.Rows.callWith_type1 (thn (ha pos pins s σ H _ I h) λus s1 ⟨vs,H1,I1,r1,q1⟩=>?_) (by rw [hs,hs2]) (by rw [hs2];rfl)))
  obtain⟨i,j,e,q⟩:=q1
  subst e
  cases r1 with
  | cons r rr =>
    cases rr with
    | cons r' rr =>
      cases rr
      obtain⟨t,rfl⟩:=r
      obtain⟨t',rfl⟩:=r'
      exact call_range_2 (longIt I1 q)
end
end Dw
namespace Dw
open PySem PySem.Spec PyProof.Rows L2
noncomputable abbrev Fz:=Addr→Prop
noncomputable def KLst (K:PySem.W.Frag) (a:Addr) (xs:List V):Prop:=
  ∃(o:Obj) (its:Array Value) (n:Nat),K.lookup a=some o∧o.cls=.type "list"∧o.dict=none∧o.data=.seq its n∧its.size≤sizeLine∧Vals xs its.toList
noncomputable def LsR (K:PySem.W.Frag) (H:Hp) (F:Fz) (a:Addr) (xs:List V):Prop:=(F a∧Rd H a (.lst xs))∨KLst K a xs
theorem LsR.sq {K:PySem.W.Frag}{H:Hp}{F:Fz}{a:Addr}{xs:List V}(h:LsR K H F a xs):SqL K H a xs:=h.elim (λh=>.inl h.2) .inr
noncomputable def dk (ks:List Int):List (Key×V):=ks.map λk=>(Sum.inl k,V.bl true)
@[simp] noncomputable def isDc:D→Bool
  | .dct _ _=>true
  | .obj _ _=>true
  | _=>false
mutual
noncomputable def RD (K:PySem.W.Frag) (H:Hp) (F:Fz):D→V→Prop
  | .non,v=>v=.non
  | .bl b,v=>v=.bl b
  | .int i,v=>v=.int i
  | .str x,v=>v=.str x
  | .tup ds,v=>∃a vs,v=.ref a∧SqT K H a vs∧RDs K H F ds vs
  | .lst ds,v=>∃a vs,v=.ref a∧LsR K H F a vs∧RDs K H F ds vs
  | .dct _ _,_=>False
  | .obj _ _,_=>False
  | .exc _,_=>False
noncomputable def RDs (K:PySem.W.Frag) (H:Hp) (F:Fz):List D→List V→Prop
  | [],vs=>vs=[]
  | d::ds,vs=>∃v r,vs=v::r∧RD K H F d v∧RDs K H F ds r
end
structure Keep (H:Hp) (F:Fz) (H':Hp) (F':Fz):Prop where
  tups:∀a xs,Rd H a (.tup xs)→Rd H' a (.tup xs)
  lsts:∀a xs,F a→Rd H a (.lst xs)→F' a∧Rd H' a (.lst xs)
section
variable {K:PySem.W.Frag}{H H' H'':Hp}{F F' F'':Fz}
mutual
theorem RD.mono (k:Keep H F H' F'):∀{d:D}{v:V},RD K H F d v→RD K H' F' d v
  | .non,_,h=>h
  | .bl _,_,h=>h
  | .int _,_,h=>h
  | .str _,_,h=>h
  | .tup ds,v,h=>by
    simp only [RD] at h ⊢
    obtain⟨a,vs,e,hs,hr⟩:=h
    exact⟨a,vs,e,hs.elim (λz=>.inl (k.tups _ _ z)) .inr,RDs.mono k hr⟩
  | .lst ds,v,h=>by
    simp only [RD] at h ⊢
    obtain⟨a,vs,e,hs,hr⟩:=h
    exact⟨a,vs,e,hs.elim (λz=>.inl (k.lsts _ _ z.1 z.2)) .inr,RDs.mono k hr⟩
  | .dct _ _,_,h=>by simp only [RD] at h
  | .obj _ _,_,h=>by simp only [RD] at h
  | .exc _,_,h=>by simp only [RD] at h
theorem RDs.mono (k:Keep H F H' F'):∀{ds:List D}{vs:List V},RDs K H F ds vs→RDs K H' F' ds vs
  | [],_,h=>h
  | d::ds,vs,h=>by
    simp only [RDs] at h ⊢
    obtain⟨v,r,e,h1,h2⟩:=h
    exact⟨v,r,e,RD.mono k h1,RDs.mono k h2⟩
end
theorem RDs.length:∀{ds:List D}{vs:List V},RDs K H F ds vs→vs.length=ds.length
  | [],_,h=>by simp only [RDs] at h;subst h;rfl
  | d::ds,vs,h=>by
    simp only [RDs] at h
    obtain⟨v,r,rfl,_,h2⟩:=h
    simp [RDs.length h2]
theorem RDs.get:∀{ds:List D}{vs:List V}{i:Nat}{d:D},RDs K H F ds vs→ds[i]?=some d→∃v,vs[i]?=some v∧RD K H F d v
  | [],_,_,_,_,e=>by simp at e
  | x::ds,vs,i,d,h,e=>by
    simp only [RDs] at h
    obtain⟨v,r,rfl,h1,h2⟩:=h
    cases i with
    | zero=>simp at e;subst e;exact⟨v,rfl,h1⟩
    | succ i=>simp at e;obtain⟨w,e1,e2⟩:=RDs.get h2 e;exact⟨w,by simpa using e1,e2⟩
theorem RDs.append:∀{ds es:List D}{vs ws:List V},RDs K H F ds vs→RDs K H F es ws→RDs K H F (ds++es) (vs++ws)
  | [],_,_,_,h,h'=>by simp only [RDs] at h;subst h;exact h'
  | d::ds,es,vs,ws,h,h'=>by
    simp only [RDs] at h
    obtain⟨v,r,rfl,h1,h2⟩:=h
    exact⟨v,r++ws,rfl,h1,RDs.append h2 h'⟩
theorem RDs.take:∀{ds:List D}{vs:List V}(n:Nat),RDs K H F ds vs→RDs K H F (ds.take n) (vs.take n)
  | _,_,0,_=>by simp [RDs]
  | [],_,n+1,h=>by simp only [RDs] at h;subst h;simp [RDs]
  | d::ds,vs,n+1,h=>by
    simp only [RDs] at h
    obtain⟨v,r,rfl,h1,h2⟩:=h
    exact⟨v,r.take n,rfl,h1,RDs.take n h2⟩
theorem RDs.drop:∀{ds:List D}{vs:List V}(n:Nat),RDs K H F ds vs→RDs K H F (ds.drop n) (vs.drop n)
  | _,_,0,h=>by simpa using h
  | [],_,n+1,h=>by simp only [RDs] at h;subst h;simp [RDs]
  | d::ds,vs,n+1,h=>by
    simp only [RDs] at h
    obtain⟨v,r,rfl,h1,h2⟩:=h
    simpa using RDs.drop n h2
theorem RDs.set {d:D}{v:V}(hd:RD K H F d v):∀{ds:List D}{vs:List V}(n:Nat),RDs K H F ds vs→RDs K H F (ds.set n d) (vs.set n v)
  | [],_,_,h=>by simp only [RDs] at h;subst h;simp [RDs]
  | x::ds,vs,n,h=>by
    simp only [RDs] at h
    obtain⟨w,r,rfl,h1,h2⟩:=h
    cases n with
    | zero=>exact⟨v,r,rfl,hd,h2⟩
    | succ n=>exact⟨w,r.set n v,rfl,h1,RDs.set hd n h2⟩
theorem RDs.rep {ds:List D}{vs:List V}(h:RDs K H F ds vs):∀n:Nat,RDs K H F (List.replicate n ds).flatten (List.replicate n vs).flatten
  | 0=>by simp [RDs]
  | n+1=>by simpa [List.replicate_succ] using RDs.append h (RDs.rep h n)
theorem RDs.ints:∀{ds:List D}{vs:List V}{is:List Int},RDs K H F ds vs→intsOf ds=some is→vs=is.map V.int
  | [],_,_,h,e=>by simp only [RDs] at h;subst h;simp at e;subst e;rfl
  | d::ds,vs,is,h,e=>by
    simp only [RDs] at h
    obtain⟨v,r,rfl,h1,h2⟩:=h
    cases d with
    | int i =>
      cases q:intsOf ds with
      | none=>simp [q] at e
      | some js =>
        simp [q] at e
        subst e
        have h1':v=.int i:=h1
        rw [h1',RDs.ints h2 q];rfl
    | _=>simp at e
theorem RDs.bls:∀{ds:List D}{vs:List V}{is:List Bool},RDs K H F ds vs→blsOf ds=some is→vs=is.map V.bl
  | [],_,_,h,e=>by simp only [RDs] at h;subst h;simp at e;subst e;rfl
  | d::ds,vs,is,h,e=>by
    simp only [RDs] at h
    obtain⟨v,r,rfl,h1,h2⟩:=h
    cases d with
    | bl i =>
      cases q:blsOf ds with
      | none=>simp [q] at e
      | some js =>
        simp [q] at e
        subst e
        have h1':v=.bl i:=h1
        rw [h1',RDs.bls h2 q];rfl
    | _=>simp at e
theorem RDs.of_ints (is:List Int):RDs K H F (is.map .int) (is.map V.int):=by
  induction is with
  | nil=>simp [RDs]
  | cons i r ih=>exact⟨_,_,rfl,rfl,ih⟩
end
structure Gr (H:Hp) (F:Fz) (H':Hp) (F':Fz):Prop where
  same:Same H H'
  sub:∀a,F a→F' a
  new:∀a,F' a→F a∨H a=none
  dom:∀a,H' a=none→¬F' a
section
variable {K:PySem.W.Frag}{H H1 H2:Hp}{F F1 F2:Fz}
theorem same_rd {a:Addr}{u:HO}(s:Same H H1) (h:Rd H a u):Rd H1 a u:=h.elim (λz=>.inl (s _ _ z)) λ⟨o,z⟩=>.inr ⟨o,s _ _ z⟩
theorem Gr.keep (g:Gr H F H1 F1):Keep H F H1 F1:=⟨λ_ _ h=>same_rd g.same h,λ_ _ f h=>⟨g.sub _ f,same_rd g.same h⟩⟩
theorem Gr.refl (d:∀a,H a=none→¬F a):Gr H F H F:=⟨Same.refl H,λ_ h=>h,λ_ h=>.inl h,d⟩
theorem Gr.trans (g:Gr H F H1 F1) (g':Gr H1 F1 H2 F2):Gr H F H2 F2:=
  ⟨g.same.trans g'.same,λa h=>g'.sub a (g.sub a h),λa h=>(g'.new a h).elim (λz=>g.new a z) λz=>.inr (g.same.free z),g'.dom⟩
theorem Gr.laid {p:Addr}{o:HO}(d:∀a,H a=none→¬F a) (hp:H p=none):Gr H F (upd H p o) F:=
  ⟨λb u q=>by rw [upd_ne (ne_of_none q hp)];exact q,λ_ h=>h,λ_ h=>.inl h,λa e=>by
    by_cases z:a=p
    · subst z;exact d a hp
    · rw [upd_ne z] at e;exact d a e⟩
theorem Gr.fz {p:Addr}{o:HO}(g:Gr H F H1 F1) (hp:H p=none) (h1:H1 p=some o):Gr H F H1 (λa=>a=p∨F1 a):=
  ⟨g.same,λa h=>.inr (g.sub a h),λa h=>h.elim (λz=>.inr (z▸hp)) (λz=>g.new a z),λa e h=>h.elim (λz=>by subst z;rw [h1] at e;cases e) (g.dom a e)⟩
noncomputable def RR (K:PySem.W.Frag) (H H':Hp) (F':Fz):R→V→Prop
  | (false,d),v=>RD K H' F' d v
  | (true,d),v=>∃a ds vs,d=.lst ds∧v=.ref a∧H a=none∧¬F' a∧H' a=some (.lst vs)∧RDs K H' F' ds vs
noncomputable def RP (K:PySem.W.Frag) (H:Hp) (F:Fz) (d:D) (v:V):Prop:=
  RD K H F d v∨∃a ds vs,d=.lst ds∧v=.ref a∧H a=some (.lst vs)∧RDs K H F ds vs
theorem RR.grow {r:R}{v:V}(h:RR K H H1 F1 r v) (g:Gr H1 F1 H2 F2):RR K H H2 F2 r v:=by
  obtain⟨b,d⟩:=r
  cases b with
  | false=>exact RD.mono g.keep h
  | true =>
    obtain⟨a,ds,vs,e1,e2,e3,e4,e5,e6⟩:=h
    exact⟨a,ds,vs,e1,e2,e3,(λz=>(g.new a z).elim e4 λz=>absurd (e5.symm.trans z) (by simp)),g.same _ _ e5,RDs.mono g.keep e6⟩
theorem RR.back {H0:Hp}{r:R}{v:V}(h:RR K H H1 F1 r v) (s:Same H0 H):RR K H0 H1 F1 r v:=by
  obtain⟨b,d⟩:=r
  cases b with
  | false=>exact h
  | true =>
    obtain⟨a,ds,vs,e1,e2,e3,e⟩:=h
    exact⟨a,ds,vs,e1,e2,s.free e3,e⟩
theorem RR.look {r:R}{v:V}(h:RR K H H1 F1 r v):RP K H1 F1 r.2 v:=by
  obtain⟨b,d⟩:=r
  cases b with
  | false=>exact .inl h
  | true =>
    obtain⟨a,ds,vs,e1,e2,e3,e4,e5,e6⟩:=h
    exact .inr ⟨a,ds,vs,e1,e2,e5,e6⟩
theorem RR.fz {r:R}{v:V}(h:RR K H H1 F1 r v) (g:Gr H F H1 F1):∃F2,Gr H F H1 F2∧RD K H1 F2 r.2 v:=by
  obtain⟨b,d⟩:=r
  cases b with
  | false=>exact⟨F1,g,h⟩
  | true =>
    obtain⟨a,ds,vs,rfl,rfl,e3,e4,e5,e6⟩:=h
    have g2:Keep H1 F1 H1 (λb=>b=a∨F1 b):=⟨λ_ _ h=>h,λ_ _ f h=>⟨.inr f,h⟩⟩
    exact⟨λb=>b=a∨F1 b,g.fz e3 e5,⟨a,vs,rfl,.inl ⟨.inl rfl,.inl e5⟩,RDs.mono g2 e6⟩⟩
theorem RP.grow {d:D}{v:V}(h:RP K H F d v) (g:Gr H F H1 F1):RP K H1 F1 d v:=
  h.elim (λz=>.inl (RD.mono g.keep z)) λ⟨a,ds,vs,e1,e2,e3,e4⟩=>.inr ⟨a,ds,vs,e1,e2,g.same _ _ e3,RDs.mono g.keep e4⟩
theorem RP.int {i:Int}{v:V}(h:RP K H F (.int i) v):v=.int i:=h.elim (λz=>z) λ⟨_,_,_,e,_⟩=>by cases e
theorem RP.bl {i:Bool}{v:V}(h:RP K H F (.bl i) v):v=.bl i:=h.elim (λz=>z) λ⟨_,_,_,e,_⟩=>by cases e
theorem RP.non {v:V}(h:RP K H F .non v):v=.non:=h.elim (λz=>z) λ⟨_,_,_,e,_⟩=>by cases e
theorem RP.str {x:Str}{v:V}(h:RP K H F (.str x) v):v=.str x:=h.elim (λz=>z) λ⟨_,_,_,e,_⟩=>by cases e
theorem RP.tup {ds:List D}{v:V}(h:RP K H F (.tup ds) v):∃a vs,v=.ref a∧SqT K H a vs∧RDs K H F ds vs:=h.elim (λz=>z) λ⟨_,_,_,e,_⟩=>by cases e
theorem RP.noDct {m:Bool}{ks:List Int}{v:V}:¬RP K H F (.dct m ks) v:=λh=>h.elim (λz=>by simp only [RD] at z) λ⟨_,_,_,e,_⟩=>by cases e
theorem RP.noObj {ns:List Str}{ds:List D}{v:V}:¬RP K H F (.obj ns ds) v:=λh=>h.elim (λz=>by simp only [RD] at z) λ⟨_,_,_,e,_⟩=>by cases e
theorem RP.noExc {c:Str}{v:V}:¬RP K H F (.exc c) v:=λh=>h.elim (λz=>by simp only [RD] at z) λ⟨_,_,_,e,_⟩=>by cases e
theorem RP.lst {ds:List D}{v:V}(h:RP K H F (.lst ds) v):∃a vs,v=.ref a∧SqL K H a vs∧RDs K H F ds vs:=by
  rcases h with ⟨a,vs,e,h1,h2⟩|⟨a,ds',vs,e1,e2,e3,e4⟩
  · exact⟨a,vs,e,h1.sq,h2⟩
  · cases e1;exact⟨a,vs,e2,SqL.of e3,e4⟩
end
noncomputable def ObR (K:PySem.W.Frag) (H:Hp) (F:Fz) (ns:List Str) (ds:List D) (v:V):Prop:=
  ∃(a C dx:Addr) (fs:List (Str×V)) (vs:List V),v=.ref a∧¬F a∧H a=some (.ins C dx fs)∧Cls K C∧(∀(j:Nat) (f:Str),ns[j]?=some f→NoAttr K C f∧∃u,fs.lookup f=some u∧vs[j]?=some u)∧RDs K H F ds vs
theorem ObR.mono {K:PySem.W.Frag}{H H1:Hp}{F F1:Fz}{ns:List Str}{ds:List D}{v:V}(k:Keep H F H1 F1) (h:ObR K H F ns ds v) (hf:∀a C dx fs,v=.ref a→H a=some (.ins C dx fs)→¬F a→¬F1 a∧H1 a=H a):ObR K H1 F1 ns ds v:=by
  obtain⟨a,C,dx,fs,vs,e,h1,h2,h3,h4,h5⟩:=h
  obtain⟨q1,q2⟩:=hf a C dx fs e h2 h1
  exact⟨a,C,dx,fs,vs,e,q1,q2.trans h2,h3,h4,RDs.mono k h5⟩
theorem ObR.grow {K:PySem.W.Frag}{H H1:Hp}{F F1:Fz}{ns:List Str}{ds:List D}{v:V}(h:ObR K H F ns ds v) (g:Gr H F H1 F1):ObR K H1 F1 ns ds v:=
  h.mono g.keep λa C dx fs _ e n=>⟨λz=>(g.new a z).elim n λz=>absurd (e.symm.trans z) (by simp),(g.same _ _ e).trans e.symm⟩
structure SR (K:PySem.W.Frag) (G H:Hp) (F:Fz) (σ:En) (τ:L2.St):Prop where
  len:σ.length=τ.length
  ent:Same G H
  dom:∀a,H a=none→¬F a
  val:∀i d,getv σ i=some (false,d)→∃v,τ[i]?=some (some v)∧RD K H F d v
  own:∀i d,getv σ i=some (true,d)→isDc d=false→∃a ds vs,d=.lst ds∧τ[i]?=some (some (.ref a))∧G a=none∧¬F a∧H a=some (.lst vs)∧RDs K H F ds vs
  sep:∀i j d e,getv σ i=some (true,d)→getv σ j=some (true,e)→τ[i]?=τ[j]?→i=j
  dct:∀i m ks,getv σ i=some (true,.dct m ks)→∃a,τ[i]?=some (some (.ref a))∧¬F a∧H a=some (.dK (dk ks))∧(m=true→G a=none)
  obj:∀i ns ds,getv σ i=some (true,.obj ns ds)→∃v,τ[i]?=some (some v)∧ObR K H F ns ds v
  tb:TB G
theorem SR.grow {K:PySem.W.Frag}{G H H1:Hp}{F F1:Fz}{σ:En}{τ:L2.St}(s:SR K G H F σ τ) (g:Gr H F H1 F1):SR K G H1 F1 σ τ:=
  ⟨s.len,s.ent.trans g.same,g.dom,λi d e=>let ⟨v,h1,h2⟩:=s.val i d e;⟨v,h1,RD.mono g.keep h2⟩,
    λi d e hd=>let ⟨a,ds,vs,h1,h2,h3,h4,h5,h6⟩:=s.own i d e hd
      ⟨a,ds,vs,h1,h2,h3,(λz=>(g.new a z).elim h4 λz=>absurd (h5.symm.trans z) (by simp)),g.same _ _ h5,RDs.mono g.keep h6⟩,s.sep,
    λi m ks e=>let ⟨a,h1,h2,h3,h4⟩:=s.dct i m ks e
      ⟨a,h1,(λz=>(g.new a z).elim h2 λz=>absurd (h3.symm.trans z) (by simp)),g.same _ _ h3,h4⟩,
    λi ns ds e=>let ⟨v,h1,h2⟩:=s.obj i ns ds e;⟨v,h1,h2.grow g⟩,s.tb⟩
theorem SR.tbH {K:PySem.W.Frag}{G H:Hp}{F:Fz}{σ:En}{τ:L2.St}(s:SR K G H F σ τ):TB H:=s.tb.same s.ent
theorem SR.addr {K:PySem.W.Frag}{G H:Hp}{F:Fz}{σ:En}{τ:L2.St}{i:Nat}{d:D}(s:SR K G H F σ τ) (h:getv σ i=some (true,d)):∃a u,τ[i]?=some (some (.ref a))∧¬F a∧H a=some u:=by
  cases hd:isDc d with
  | false=>obtain⟨a,ds,vs,h1,h2,h3,h4,h5,h6⟩:=s.own i d h hd;exact⟨a,_,h2,h4,h5⟩
  | true =>
    cases d with
    | dct m ks=>obtain⟨a,h1,h2,h3,h4⟩:=s.dct i m ks h;exact⟨a,_,h1,h2,h3⟩
    | obj ns ds=>obtain⟨v,h1,a,C,dx,fs,vs,rfl,h2,h3,h4⟩:=s.obj i ns ds h;exact⟨a,_,h1,h2,h3⟩
    | _=>cases hd
end Dw
namespace Dw
open PySem PySem.Spec PyProof.Rows L2
theorem bits_of {a:Int}{n:Nat}(h:a.natAbs<2^n):Builtin.Int.intBits a≤n:=by
  unfold Builtin.Int.intBits
  split
  · exact Nat.zero_le _
  · rename_i hz
    have h0:a.natAbs≠0:=λz=>by
      have:a=0:=Int.natAbs_eq_zero.mp z
      subst this;simp at hz
    have:=(Nat.log2_lt h0).mpr h
    omega
theorem mul_ok {a b:Int}(h:mulOk a b=true):IntMulOk a b:=by
  have h':=of_decide_eq_true h
  rcases h' with ⟨h1,h2⟩|h1|h1|⟨h1,h2⟩
  · exact IntMulOk.of_bits (Nat.le_trans (bits_of h1) (by decide)) (Nat.le_trans (bits_of h2) (by decide))
  · exact IntMulOk.of_left (bits_of h1)
  · exact IntMulOk.of_right (bits_of h1)
  · exact IntMulOk.of_bits (bits_of h1) (bits_of h2)
section
variable {X:Cx}
theorem op_mulD:OpR X (binaryOp .Mult) (rI (λi j=>mulOk i j=true) λi j=>.int (i * j)):=opI λ_ _ _ _ _ _ _ hc q=>mul_int q (mul_ok hc)
theorem op_fdivD:OpR X (binaryOp .FloorDiv) (rI (λ_ j=>divOk j=true) λi j=>.int (i.fdiv j)):=opI λi j _ _ _ _ _ hc q=>by
  have h:=of_decide_eq_true hc
  refine floordiv_int h.1 q (.inl (PyProof.noPylong_of_log2 ?_))
  rcases h.2 with h2|h2
  · have:=(Nat.log2_lt (λz=>h.1 (Int.natAbs_eq_zero.mp z))).mpr h2
    omega
  · have:=(Nat.log2_lt (λz=>h.1 (Int.natAbs_eq_zero.mp z))).mpr h2
    omega
theorem op_modD:OpR X (binaryOp .Mod) (rI (λ_ j=>divOk j=true) λi j=>.int (i.fmod j)):=opI λ_ _ _ _ _ _ _ hc q=>mod_int' (of_decide_eq_true hc).1 q
theorem op_powD:OpR X (binaryOp .Pow) (rI (λi j=>powOk i j=true) λi j=>.int (i^j.toNat)):=opI λi j _ _ _ _ _ hc q=>by
  obtain⟨h1,h2,h3⟩:=of_decide_eq_true hc
  refine pow_int h2 ?_ q
  have:=bits_of h1
  calc (Builtin.Int.intBits i:Int) * j≤240 * 200:=Int.mul_le_mul (by exact_mod_cast this) h3 h2 (by decide)
    _≤2^27:=by decide
theorem listAddG (l:Addr) (items:Array Value) (n:Nat) (sl:Array (Option Value)) (b:Addr) (items2:Array Value) (n2:Nat) (sl2:Array (Option Value)) (hc0:items.size+items2.size≤sizeLine) :
    Meets (Builtin.«list.__add__» ⟨[.ref l,.ref b],[]⟩) (λ_ R s=>s.heap.get? l=some ⟨.type "list",none,.seq items n,sl⟩∧s.heap.get? b=some ⟨.type "list",none,.seq items2 n2,sl2⟩ ∧
      R (.ok (.ret (Value.ref s.heap.objs.size))) { s with heap:=s.heap.push { cls:=.type "list",data:=.seq (items++items2) } }):=
  .of_wp λprog w A R s h=>by
    obtain⟨hp,g,d,tk,os⟩:=s
    obtain⟨hl,hb,h⟩:=h
    have f3:=F.sub_list_list
    wp_walk using AutoSeq1.wpAny_loadPart' hl,AutoSeq1.wpAny_loadPart' hb
    exact⟨_,rfl,h⟩
theorem listMulG (l:Addr) (items:Array Value) (n:Nat) (sl:Array (Option Value)) (x:Int) (u:Tok) (hc0:¬(!Builtin.List.listFitsIndex x)=true) (hc1:¬items.size * x.toNat > (2^63 - 1) / 8) (hc2:¬Builtin.List.listTooLong (items.size * x.toNat)=true) :
    Meets (Builtin.«list.__mul__» ⟨[.ref l,.int x u],[]⟩) (λ_ R s=>s.heap.get? l=some ⟨.type "list",none,.seq items n,sl⟩ ∧
      R (.ok (.ret (Value.ref s.heap.objs.size))) { s with heap:=s.heap.push { cls:=Value.type "list",data:=Data.seq (List.foldl (λx1 x2=>x1++x2) #[] (List.replicate (if items.isEmpty=true then 0 else x.toNat) items)) } }):=
  .of_wp λprog w A R s h=>by
    obtain⟨hp,g,d,tk,os⟩:=s
    obtain⟨hl,h⟩:=h
    have hsz:=AutoListH.joined_fits hc2
    wp_walk
    refine wpAny_ite_false (decide_eq_false (Nat.not_lt.mpr hsz)) ?_
    wp_walk
    exact⟨_,rfl,h⟩
theorem rmulG (a:Int) (t:Tok) (l:Addr) (items:Array Value) (n:Nat) (sl:Array (Option Value)) :
    Meets (Builtin.«int.__rmul__» ⟨[.int a t,.ref l],[]⟩) (λ_ R s=>s.heap.get? l=some ⟨.type "list",none,.seq items n,sl⟩∧R (.ok (.ret Value.notImplemented)) s):=
  .of_wp λprog w A R s h=>by
    obtain⟨hp,g,d,tk,os⟩:=s
    obtain⟨hl,h⟩:=h
    wp_walk
    exact⟨_,rfl,h⟩
theorem Inv.lobj {pins:List (Addr×Obj)}{σ:L2.St}{H:Hp}{s:Shared}{a:Addr}{xs:List V}(I:Inv X pins σ H s) (h:SqL X.K H a xs) :
    ∃(its:List Value) (n:Nat) (sl:Array (Option Value)),Vals xs its∧xs.length=its.length∧s.heap.get? a=some ⟨.type "list",none,.seq its.toArray n,sl⟩∧xs.length≤sizeLine:=by
  obtain⟨its,r,⟨⟨c,dd,da,sl⟩,n,e,e1,e2,e3⟩,z⟩:=I.list h
  simp only at e1 e2 e3
  subst e1 e2 e3
  exact⟨its,n,sl,r,r.length,e,z⟩
noncomputable def rCatD (K:PySem.W.Frag):R2:=λx y H Q=>∃l b xs zs,x=.ref l∧y=.ref b∧SqL K H l xs∧SqL K H b zs∧xs.length+zs.length≤sizeLine∧∀p,H p=none→Q (.ref p) (upd H p (.lst (xs++zs)))
theorem op_catD:OpR X (binaryOp .Add) (rCatD X.K):=by
  intro pins s σ H x y v u Q I rx ry h
  obtain⟨l,b,xs,zs,rfl,rfl,hH,hB,hz,q⟩:=h
  cases rx
  cases ry
  obtain⟨its,n,sl,r,hl,e,z⟩:=Inv.lobj I hH
  obtain⟨its2,n2,sl2,r2,hl2,e2,z2⟩:=Inv.lobj I hB
  refine concat_meets ⟨_,e,rfl⟩ ⟨_,e2,rfl⟩ noFill_list_add seq_list_add F.slot_list_add F.entry_list_add (F.args_list_add_2 _ _)
    (listAddG l its.toArray n sl b its2.toArray n2 sl2 (by rw [List.size_toArray,List.size_toArray];omega)) ⟨e,e2,?_⟩
  have ea:its.toArray++its2.toArray=(its++its2).toArray:=by simp
  rw [ea]
  exact⟨.ref _,_,I.lnew (t':=s.toks) (r.append r2) (by rw [List.length_append];omega),rfl,q _ I.fresh⟩
noncomputable def rRepD (K:PySem.W.Frag):R2:=λx y H Q=>∃l k xs,x=.ref l∧y=.int k∧SqL K H l xs∧-(2^63)≤k∧k<2^63∧xs.length * k.toNat≤sizeLine ∧
  ∀p,H p=none→Q (.ref p) (upd H p (.lst (List.replicate k.toNat xs).flatten))
theorem op_repD:OpR X (binaryOp .Mult) (rRepD X.K):=by
  intro pins s σ H x y v u Q I rx ry h
  obtain⟨l,k,xs,rfl,rfl,hH,h1,h2,hz,q⟩:=h
  cases rx
  obtain⟨t,rfl⟩:=ry
  obtain⟨its,n,sl,r,hl,e,z⟩:=Inv.lobj I hH
  have hlen:its.toArray.size * k.toNat≤sizeLine:=by rw [List.size_toArray,←hl];exact hz
  have hcap:¬its.toArray.size * k.toNat > (2^63 - 1) / 8:=by
    have:(sizeLine:Nat)≤(2^63 - 1) / 8:=by decide
    omega
  have hfit:¬(!Builtin.List.listFitsIndex k)=true:=by rw [fitsIndex_both h1 h2];exact Bool.false_ne_true
  have hlong:¬Builtin.List.listTooLong (its.toArray.size * k.toNat)=true:=by rw [notLongL hlen];exact Bool.false_ne_true
  have hnew:List.foldl (λx1 x2=>x1++x2) #[] (List.replicate (if its.toArray.isEmpty=true then 0 else k.toNat) its.toArray)=(List.replicate k.toNat its).flatten.toArray:=by
    have f0:∀m:Nat,List.foldl (λx1 x2=>x1++x2) #[] (List.replicate m its.toArray)=(List.replicate m its).flatten.toArray:=λm=>by simpa using foldl_rep its m []
    rw [f0]
    cases its with
    | nil=>simp
    | cons a r'=>rw [if_neg (by simp)]
  refine wpAny_binaryOp_repeat_ref (T:="list") (U:="int") (by decide) ⟨_,e,rfl⟩ (λs'=>typeIs_int s' k t) noFill_list_mul F.fills_int_mul F.slot_int_rmul repeat_list F.slot_int_index.lookup
    (call_meets F.slot_int_rmul (typeIs_int s k t) F.entry_int_rmul (F.args_int_rmul_2 _ _) (rmulG k t l its.toArray n sl)
      ⟨e,rfl,⟨_,e,rfl⟩,call_meets F.slot_list_mul ⟨_,e,rfl⟩ F.entry_list_mul (F.args_list_mul_2 _ _) (listMulG l its.toArray n sl k t hfit hcap hlong) ⟨e,?_⟩⟩)
  rw [hnew]
  exact⟨.ref _,_,I.lnew (t':=s.toks) (r.rep k.toNat) (by rw [len_rep,Nat.mul_comm];exact hz),rfl,q _ I.fresh⟩
theorem call_max3 (hc:X.calm=true):CallR X (.builtin "max") (λxs H Q=>∃i j k,xs=[.int i,.int j,.int k]∧Q (.int (if k > (if j > i then j else i) then k else (if j > i then j else i))) H):=by
  intro pins s σ H xs us Q I r h
  obtain⟨i,j,k,rfl,q⟩:=h
  obtain _|⟨⟨t,rfl⟩,_|⟨⟨t',rfl⟩,_|⟨⟨t2,rfl⟩,_|_⟩⟩⟩:=r
  refine max_three_ints (I.ok.hd hc) λh' tk hk=>?_
  have I1:Inv X pins σ H { s with heap:=h',toks:=tk }:=I.kept hk
  have fin:∀(z:Int) (tok:Tok),z=(if k > (if j > i then j else i) then k else (if j > i then j else i))→EP X pins σ Q (.int z tok) { s with heap:=h',toks:=tk }:=λz tok e=>⟨.int z,H,I1,⟨_,rfl⟩,by rw [e];exact q⟩
  by_cases hba:j > i<;>by_cases hc1:k > j<;>by_cases hc2:k > i<;>simp only [hba,hc1,hc2,if_true,if_false] at fin ⊢<;>first|exact fin _ _ rfl|exact fin _ _ (by omega)
end
end Dw
namespace Dw
open PySem PySem.Spec PyProof.Rows L2
section
variable {X:Cx}
theorem ints_pairs:∀{is:List Int}{its:List Value},Vals (is.map V.int) its→∃xs:List (Int×Tok),its=xs.map (λp=>Value.int p.1 p.2)∧xs.map (·.1)=is
  | [],_,.nil=>⟨[],rfl,rfl⟩
  | i::is,_,.cons ⟨t,e⟩ r=>by
    obtain⟨xs,h1,h2⟩:=ints_pairs r
    exact⟨(i,t)::xs,by rw [e,h1];rfl,by rw [List.map_cons,h2]⟩
theorem preSum_list (xs:Array (Int×Tok)):preSum (numAt xs) xs.size=(xs.toList.map (·.1)).sum:=by
  rw [preSum_eq,List.take_of_length_le (by simp)]
theorem call_sumD (hc:X.calm=true):CallR X (.builtin "sum") (λxs H Q=>∃(p:Addr) (is:List Int),xs=[.ref p]∧SqL X.K H p (is.map V.int)∧Q (.int is.sum) H):=by
  intro pins s σ H xs us Q I r h
  obtain⟨p,is,rfl,hq,q⟩:=h
  obtain⟨u,rfl,ru⟩:=vals1 r
  cases ru
  obtain⟨its,rv,pl,z⟩:=I.list hq
  obtain⟨ps,rfl,rfl⟩:=ints_pairs rv
  have e:(ps.map λp=>Value.int p.1 p.2).toArray=intItems ps.toArray:=by simp [intItems]
  have hl:s.heap.IsList p (intItems ps.toArray):=by rw [←e];exact pl.isList
  refine sum_intListG (I.ok.hd hc) hl λh' tk t' hk=>?_
  rw [preSum_list]
  exact⟨.int _,H,I.kept hk,⟨_,rfl⟩,q⟩
theorem mnL_spec {is:List Int}{m:Int}(h:mnL is=some m):m∈is∧∀a∈is,m≤a:=by
  cases is with
  | nil=>cases h
  | cons a r =>
    cases h
    have:∀(l:List Int) (b:Int),(l.foldl (λm x=>if x<m then x else m) b=b∨l.foldl (λm x=>if x<m then x else m) b∈l)∧l.foldl (λm x=>if x<m then x else m) b≤b∧∀y∈l,l.foldl (λm x=>if x<m then x else m) b≤y:=by
      intro l
      induction l with
      | nil=>intro b;exact⟨.inl rfl,Int.le_refl _,λ_ h=>nomatch h⟩
      | cons x l ih =>
        intro b
        rw [List.foldl_cons]
        obtain⟨h1,h2,h3⟩:=ih (if x<b then x else b)
        generalize l.foldl (λm x=>if x<m then x else m) (if x<b then x else b)=z at h1 h2 h3
        refine⟨?_,?_,λy hy=>?_⟩
        · rcases h1 with h1|h1
          · split at h1
            · exact .inr (h1▸List.mem_cons_self)
            · exact .inl h1
          · exact .inr (List.mem_cons_of_mem _ h1)
        · split at h2<;>omega
        · rcases List.mem_cons.mp hy with rfl|hy
          · split at h2<;>omega
          · exact h3 y hy
    obtain⟨h1,h2,h3⟩:=this r a
    exact⟨List.mem_cons.mpr h1,λy hy=>(List.mem_cons.mp hy).elim (λe=>e▸h2) (h3 y)⟩
theorem mxL_spec {is:List Int}{m:Int}(h:mxL is=some m):m∈is∧∀a∈is,a≤m:=by
  cases is with
  | nil=>cases h
  | cons a r =>
    cases h
    have:∀(l:List Int) (b:Int),(l.foldl (λm x=>if m<x then x else m) b=b∨l.foldl (λm x=>if m<x then x else m) b∈l)∧b≤l.foldl (λm x=>if m<x then x else m) b∧∀y∈l,y≤l.foldl (λm x=>if m<x then x else m) b:=by
      intro l
      induction l with
      | nil=>intro b;exact⟨.inl rfl,Int.le_refl _,λ_ h=>nomatch h⟩
      | cons x l ih =>
        intro b
        rw [List.foldl_cons]
        obtain⟨h1,h2,h3⟩:=ih (if b<x then x else b)
        generalize l.foldl (λm x=>if m<x then x else m) (if b<x then x else b)=z at h1 h2 h3
        refine⟨?_,?_,λy hy=>?_⟩
        · rcases h1 with h1|h1
          · split at h1
            · exact .inr (h1▸List.mem_cons_self)
            · exact .inl h1
          · exact .inr (List.mem_cons_of_mem _ h1)
        · split at h2<;>omega
        · rcases List.mem_cons.mp hy with rfl|hy
          · split at h2<;>omega
          · exact h3 y hy
    obtain⟨h1,h2,h3⟩:=this r a
    exact⟨List.mem_cons.mpr h1,λy hy=>(List.mem_cons.mp hy).elim (λe=>e▸h2) (h3 y)⟩
theorem call_min1 (hc:X.calm=true):CallR X (.builtin "min") (λxs H Q=>∃(p:Addr) (is:List Int) (m:Int),xs=[.ref p]∧SqL X.K H p (is.map V.int)∧mnL is=some m∧Q (.int m) H):=by
  intro pins s σ H xs us Q I r h
  obtain⟨p,is,m,rfl,hq,hm,q⟩:=h
  obtain⟨u,rfl,ru⟩:=vals1 r
  cases ru
  obtain⟨its,rv,pl,z⟩:=I.list hq
  obtain⟨ps,rfl,rfl⟩:=ints_pairs rv
  have e:(ps.map λp=>Value.int p.1 p.2).toArray=intItems ps.toArray:=by simp [intItems]
  have hl:s.heap.IsList p (intItems ps.toArray):=by rw [←e];exact pl.isList
  obtain⟨m1,m2⟩:=mnL_spec hm
  have hsz:0<ps.toArray.size:=by
    cases ps with
    | nil=>cases hm
    | cons _ _=>simp
  refine min_intList (I.ok.hd hc) hl hsz λv h' tk hv hk=>?_
  obtain⟨t,rfl⟩:=intItems_at hv
  obtain⟨h1,h2⟩:=argBest_lt (numAt ps.toArray) (ps.toArray.size - 1)
  have key:numAt ps.toArray (argBest (λi j=>decide (numAt ps.toArray i<numAt ps.toArray j)) (ps.toArray.size - 1))=m:=by
    refine Int.le_antisymm ?_ (m2 _ ?_)
    · obtain⟨j,hj,e⟩:=List.getElem_of_mem m1
      have:=h2 j (by simp at hj ⊢;omega)
      refine Int.le_trans this (Int.le_of_eq ?_)
      rw [←e]
      simp [numAt] at hj ⊢
      rw [List.getElem?_eq_getElem hj];rfl
    · generalize argBest (λi j=>decide (numAt ps.toArray i<numAt ps.toArray j)) (ps.toArray.size - 1)=k at h1 ⊢
      have hk:k<ps.length:=by simp at h1 hsz;omega
      refine List.mem_map.mpr ⟨ps[k],List.getElem_mem hk,?_⟩
      simp [numAt]
      rw [List.getElem?_eq_getElem hk];rfl
  rw [key]
  exact⟨.int _,H,I.kept hk,⟨_,rfl⟩,q⟩
theorem call_max1 (hc:X.calm=true):CallR X (.builtin "max") (λxs H Q=>∃(p:Addr) (is:List Int) (m:Int),xs=[.ref p]∧SqL X.K H p (is.map V.int)∧mxL is=some m∧Q (.int m) H):=by
  intro pins s σ H xs us Q I r h
  obtain⟨p,is,m,rfl,hq,hm,q⟩:=h
  obtain⟨u,rfl,ru⟩:=vals1 r
  cases ru
  obtain⟨its,rv,pl,z⟩:=I.list hq
  obtain⟨ps,rfl,rfl⟩:=ints_pairs rv
  have e:(ps.map λp=>Value.int p.1 p.2).toArray=intItems ps.toArray:=by simp [intItems]
  have hl:s.heap.IsList p (intItems ps.toArray):=by rw [←e];exact pl.isList
  obtain⟨m1,m2⟩:=mxL_spec hm
  have hsz:0<ps.toArray.size:=by
    cases ps with
    | nil=>cases hm
    | cons _ _=>simp
  refine max_intList (I.ok.hd hc) hl hsz λv h' tk hv hk=>?_
  obtain⟨t,rfl⟩:=intItems_at hv
  obtain⟨h1,h2⟩:=argBest_gt (numAt ps.toArray) (ps.toArray.size - 1)
  have key:numAt ps.toArray (argBest (λi j=>decide (numAt ps.toArray i > numAt ps.toArray j)) (ps.toArray.size - 1))=m:=by
    refine Int.le_antisymm (m2 _ ?_) ?_
    · generalize argBest (λi j=>decide (numAt ps.toArray i > numAt ps.toArray j)) (ps.toArray.size - 1)=k at h1 ⊢
      have hk:k<ps.length:=by simp at h1 hsz;omega
      refine List.mem_map.mpr ⟨ps[k],List.getElem_mem hk,?_⟩
      simp [numAt]
      rw [List.getElem?_eq_getElem hk];rfl
    · obtain⟨j,hj,e⟩:=List.getElem_of_mem m1
      have:=h2 j (by simp at hj ⊢;omega)
      refine Int.le_trans (Int.le_of_eq ?_) this
      rw [←e]
      simp [numAt] at hj ⊢
      rw [List.getElem?_eq_getElem hj];rfl
  rw [key]
  exact⟨.int _,H,I.kept hk,⟨_,rfl⟩,q⟩
theorem call_allD (hc:X.calm=true):CallR X (.builtin "all") (λxs H Q=>∃(p:Addr) (bs:List Bool),xs=[.ref p]∧SqL X.K H p (bs.map V.bl)∧Q (.bl (bs.all id)) H):=by
  intro pins s σ H xs us Q I r h
  obtain⟨p,bs,rfl,hq,q⟩:=h
  obtain⟨u,rfl,ru⟩:=vals1 r
  cases ru
  obtain⟨its,rv,pl,z⟩:=I.list hq
  have hlen:bs.length=its.length:=by simpa using rv.length
  have hlt:p<s.heap.objs.size:=by obtain⟨_,e,_⟩:=pl.isList;exact Heap.lt_size e
  refine call_all_walk (wpAny_pyIter_list pl.isList ?_)
  refine⟨s.heap.objs.size,_,_,_,_,_,λi=>(bs[i]?).getD false,rfl,Walks.list (A:=X.A.in1) (I.ok.hd hc) _ p (Nat.ne_of_lt hlt) its.toArray,⟨⟨_,Heap.get?_push_size _ rfl,rfl,rfl⟩,pl.isList.push _⟩,?_,λh' tk hk=>?_⟩
  · intro i v s' Q' E' hv hQ
    have hi:its[i]?=some v:=by simpa using hv
    have hib:i<bs.length:=by
      have:=(List.getElem?_eq_some_iff.mp hi).1
      omega
    obtain⟨u,e1,e2⟩:=rv.get (i:=i) (x:=.bl bs[i]) (by simp [hib])
    rw [hi] at e1
    cases e1
    cases e2
    have:(bs[i]?).getD false=bs[i]:=by simp [hib]
    have hQ':Q' ((bs[i]?).getD false) s':=hQ
    rw [this] at hQ'
    exact wpAny_truthy_bool hQ'
  · have e:(List.range its.toArray.size).all (λi=>(bs[i]?).getD false)=bs.all id:=by
      rw [List.size_toArray,←hlen,Bool.eq_iff_iff,List.all_eq_true,List.all_eq_true]
      constructor
      · intro h b hb
        obtain⟨i,hi,rfl⟩:=List.mem_iff_getElem.mp hb
        simpa [hi] using h i (by simpa using hi)
      · intro h i hi
        have hi':i<bs.length:=by simpa using hi
        simpa [hi'] using h bs[i] (List.getElem_mem hi')
    rw [e]
    refine⟨.bl _,H,?_,rfl,q⟩
    refine I.kept (t':=tk) λb o eb=>hk b o (λhb=>?_) (Heap.get?_push_of_some _ eb)
    have:b=s.heap.objs.size:=by simpa using hb
    subst this
    exact absurd (Heap.lt_size eb) (Nat.lt_irrefl _)
end
theorem in1_units (A:Around):A.in1.units=A.units+1:=rfl
theorem eqDs_all:∀ds es:List D,eqDs ds es=((List.range (min ds.length es.length)).all (λj=>eqD (ds.getD j .non) (es.getD j .non))&&ds.length == es.length)
  | [],[]=>rfl
  | [],e::es=>by
    have h:(([]:List D).length == (e::es).length)=false:=rfl
    rw [h,Bool.and_false];rfl
  | d::ds,[]=>by
    have h:((d::ds).length == ([]:List D).length)=false:=rfl
    rw [h,Bool.and_false];rfl
  | d::ds,e::es=>by
    have h:=eqDs_all ds es
    simp only [eqDs,h,List.length_cons,Nat.succ_min_succ,List.range_succ_eq_map,List.all_cons,List.getD_cons_zero,List.all_map]
    have e2:((λj=>eqD ((d::ds).getD j .non) ((e::es).getD j .non)) ∘ Nat.succ)=λj=>eqD (ds.getD j .non) (es.getD j .non):=by funext j;simp
    rw [e2,Bool.and_assoc]
    congr 2
    simp
mutual
theorem eqD_refl:∀d:D,eqD d d=true
  | .non=>by simp
  | .bl _=>by simp
  | .int _=>by simp
  | .str _=>by simp
  | .tup ds=>by simpa using eqDs_refl ds
  | .lst ds=>by simpa using eqDs_refl ds
  | .dct _ _=>by simp
  | .obj _ ds=>by simpa using eqDs_refl ds
  | .exc c=>by simp
theorem eqDs_refl:∀ds:List D,eqDs ds ds=true
  | []=>by simp
  | d::ds=>by simp [eqD_refl d,eqDs_refl ds]
end
section
variable {X:Cx}{pins:List (Addr×Obj)}{σ:L2.St}{H:Hp}{s:Shared}{F:Fz}
theorem lt_ne {a:Addr}{xs ys:List V}(I:Inv X pins σ H s) (h:SqL X.K H a xs) (h':SqT X.K H a ys):False:=by
  obtain⟨its,_,p,_⟩:=I.list h
  obtain⟨its',_,p',_⟩:=I.tuple h'
  exact SeqAt.ne_of_list_tuple p.isList (show s.heap.IsTuple a its'.toArray from p') rfl
mutual
theorem RP.inj (I:Inv X pins σ H s):∀{d e:D}{v:V},RP X.K H F d v→RP X.K H F e v→d=e
  | .non,e,v,h,h'=>by
    have:=h.non;subst this
    cases e with
    | dct _ _=>exact absurd h' RP.noDct
    | obj _ _=>exact absurd h' RP.noObj
    | exc _=>exact absurd h' RP.noExc
    | non=>rfl
    | bl _=>exact absurd h'.bl (by simp)
    | int _=>exact absurd h'.int (by simp)
    | str _=>exact absurd h'.str (by simp)
    | tup _=>obtain⟨_,_,q,_⟩:=h'.tup;cases q
    | lst _=>obtain⟨_,_,q,_⟩:=h'.lst;cases q
  | .bl b,e,v,h,h'=>by
    have:=h.bl;subst this
    cases e with
    | dct _ _=>exact absurd h' RP.noDct
    | obj _ _=>exact absurd h' RP.noObj
    | exc _=>exact absurd h' RP.noExc
    | non=>exact absurd h'.non (by simp)
    | bl _=>have:=h'.bl;cases this;rfl
    | int _=>exact absurd h'.int (by simp)
    | str _=>exact absurd h'.str (by simp)
    | tup _=>obtain⟨_,_,q,_⟩:=h'.tup;cases q
    | lst _=>obtain⟨_,_,q,_⟩:=h'.lst;cases q
  | .int b,e,v,h,h'=>by
    have:=h.int;subst this
    cases e with
    | dct _ _=>exact absurd h' RP.noDct
    | obj _ _=>exact absurd h' RP.noObj
    | exc _=>exact absurd h' RP.noExc
    | non=>exact absurd h'.non (by simp)
    | bl _=>exact absurd h'.bl (by simp)
    | int _=>have:=h'.int;cases this;rfl
    | str _=>exact absurd h'.str (by simp)
    | tup _=>obtain⟨_,_,q,_⟩:=h'.tup;cases q
    | lst _=>obtain⟨_,_,q,_⟩:=h'.lst;cases q
  | .str b,e,v,h,h'=>by
    have:=h.str;subst this
    cases e with
    | dct _ _=>exact absurd h' RP.noDct
    | obj _ _=>exact absurd h' RP.noObj
    | exc _=>exact absurd h' RP.noExc
    | non=>exact absurd h'.non (by simp)
    | bl _=>exact absurd h'.bl (by simp)
    | int _=>exact absurd h'.int (by simp)
    | str _=>have:=h'.str;cases this;rfl
    | tup _=>obtain⟨_,_,q,_⟩:=h'.tup;cases q
    | lst _=>obtain⟨_,_,q,_⟩:=h'.lst;cases q
  | .tup ds,e,v,h,h'=>by
    obtain⟨a,vs,rfl,h1,h2⟩:=h.tup
    cases e with
    | dct _ _=>exact absurd h' RP.noDct
    | obj _ _=>exact absurd h' RP.noObj
    | exc _=>exact absurd h' RP.noExc
    | non=>exact absurd h'.non (by simp)
    | bl _=>exact absurd h'.bl (by simp)
    | int _=>exact absurd h'.int (by simp)
    | str _=>exact absurd h'.str (by simp)
    | tup es=>obtain⟨b,ws,q,h3,h4⟩:=h'.tup;cases q;rw [I.tuple_inj h3 h1] at h4;rw [RDs.inj I h2 h4]
    | lst _=>obtain⟨b,ws,q,h3,h4⟩:=h'.lst;cases q;exact (lt_ne I h3 h1).elim
  | .lst ds,e,v,h,h'=>by
    obtain⟨a,vs,rfl,h1,h2⟩:=h.lst
    cases e with
    | dct _ _=>exact absurd h' RP.noDct
    | obj _ _=>exact absurd h' RP.noObj
    | exc _=>exact absurd h' RP.noExc
    | non=>exact absurd h'.non (by simp)
    | bl _=>exact absurd h'.bl (by simp)
    | int _=>exact absurd h'.int (by simp)
    | str _=>exact absurd h'.str (by simp)
    | lst es=>obtain⟨b,ws,q,h3,h4⟩:=h'.lst;cases q;rw [I.list_inj h3 h1] at h4;rw [RDs.inj I h2 h4]
    | tup _=>obtain⟨b,ws,q,h3,h4⟩:=h'.tup;cases q;exact (lt_ne I h1 h3).elim
  | .dct _ _,e,v,h,h'=>absurd h RP.noDct
  | .obj _ _,e,v,h,h'=>absurd h RP.noObj
  | .exc _,e,v,h,h'=>absurd h RP.noExc
theorem RDs.inj (I:Inv X pins σ H s):∀{ds es:List D}{vs:List V},RDs X.K H F ds vs→RDs X.K H F es vs→ds=es
  | [],es,vs,h,h'=>by
    simp only [RDs] at h;subst h
    cases es with
    | nil=>rfl
    | cons _ _=>simp only [RDs] at h';obtain⟨_,_,q,_⟩:=h';cases q
  | d::ds,es,vs,h,h'=>by
    simp only [RDs] at h
    obtain⟨v,r,rfl,h1,h2⟩:=h
    cases es with
    | nil=>simp only [RDs] at h';cases h'
    | cons e es =>
      simp only [RDs] at h'
      obtain⟨v',r',q,h3,h4⟩:=h'
      cases q
      rw [RP.inj I (.inl h1) (.inl h3),RDs.inj I h2 h4]
end
theorem RDs.vals {ds:List D}{vs:List V}{us:List Value}(h:RDs X.K H F ds vs) (r:Vals vs us) (j:Nat) (hj:j<us.toArray.size) :
    ∃v,RD X.K H F (ds.getD j .non) v∧RelV v us.toArray[j]:=by
  have l1:=RDs.length h
  have l2:=r.length
  have hj':j<us.length:=by simpa using hj
  have hd:ds[j]?=some (ds.getD j .non):=by simp [List.getD,show j<ds.length by omega]
  obtain⟨v,e1,e2⟩:=RDs.get h hd
  obtain⟨u,e3,e4⟩:=r.get e1
  refine⟨v,e2,?_⟩
  have:us.toArray[j]=u:=by
    have:=List.getElem?_eq_some_iff.mp e3
    obtain⟨_,q⟩:=this
    simpa using q
  rw [this];exact e4
theorem shals_get:∀{n:Nat}{ds:List D}(j:Nat),shals n ds=true→shal n (ds.getD j .non)=true
  | n,[],j,_=>by cases n<;>simp [List.getD]
  | n,d::ds,0,h=>by simp at h;simpa using h.1
  | n,d::ds,j+1,h=>by simp at h;simpa using shals_get j h.2
noncomputable def VS (X:Cx) (H:Hp) (F:Fz) (s:Shared):D→Value→Prop
  | .non,u=>u=.none
  | .bl b,u=>u=.bool b
  | .int i,u=>∃t,u=.int i t
  | .str x,u=>∃t,u=.str x t
  | .tup ds,u=>∃a its vs,u=.ref a∧s.heap.IsTuple a its.toArray∧RDs X.K H F ds vs∧Vals vs its
  | .lst ds,u=>∃a its vs,u=.ref a∧s.heap.IsList a its.toArray∧RDs X.K H F ds vs∧Vals vs its
  | .dct _ _,_=>False
  | .obj _ _,_=>False
  | .exc _,_=>False
theorem vs_of (I:Inv X pins σ H s):∀{d:D}{x:V}{u:Value},RP X.K H F d x→RelV x u→VS X H F s d u
  | .non,x,u,h,r=>by have:=h.non;subst this;exact r
  | .bl _,x,u,h,r=>by have:=h.bl;subst this;exact r
  | .int _,x,u,h,r=>by have:=h.int;subst this;exact r
  | .str _,x,u,h,r=>by have:=h.str;subst this;exact r
  | .tup ds,x,u,h,r=>by
    obtain⟨a,vs,rfl,h1,h2⟩:=h.tup
    obtain⟨its,rv,p,_⟩:=I.tuple h1
    exact⟨a,its,vs,r,p,h2,rv⟩
  | .lst ds,x,u,h,r=>by
    obtain⟨a,vs,rfl,h1,h2⟩:=h.lst
    obtain⟨its,rv,p,_⟩:=I.list h1
    exact⟨a,its,vs,r,p.isList,h2,rv⟩
  | .dct _ _,x,u,h,r=>absurd h RP.noDct
  | .obj _ _,x,u,h,r=>absurd h RP.noObj
  | .exc _,x,u,h,r=>absurd h RP.noExc
theorem eq_at (I:Inv X pins σ H s):∀(n:Nat) (d e:D) (x y:V) (u v:Value) (A:Around),RP X.K H F d x→RP X.K H F e y→RelV x u→RelV y v→(shal n d||shal n e)=true→A.units+n<cLine →
      SeqAt.EqAt A s u v (eqD d e)∧SeqAt.RcAt A s u v (eqD d e)∧SeqAt.RcNeAt A s u v (!eqD d e):=by
  intro n d e x y u v A hx hy ru rv hs hu
  have kx:=vs_of I hx ru
  have ky:=vs_of I hy rv
  have hA:A.units<cLine:=by omega
  cases d with
  | dct _ _=>exact absurd hx RP.noDct
  | obj _ _=>exact absurd hx RP.noObj
  | exc _=>exact absurd hx RP.noExc
  | non =>
    have kx:u=.none:=kx
    subst kx
    cases e with
    | dct _ _=>exact absurd hy RP.noDct
    | obj _ _=>exact absurd hy RP.noObj
    | exc _=>exact absurd hy RP.noExc
    | non=>have ky:v=.none:=ky;subst ky;exact⟨SeqAt.EqAt.same _,SeqAt.RcAt.none_none,SeqAt.RcNeAt.none_none⟩
    | bl b=>have ky:v=.bool b:=ky;subst ky;exact⟨SeqAt.EqAt.none_bool _,SeqAt.RcAt.none_bool _,SeqAt.RcNeAt.none_bool _⟩
    | int b=>obtain⟨t,rfl⟩:=ky;exact⟨SeqAt.EqAt.none_int _ _,SeqAt.RcAt.none_int _ _,SeqAt.RcNeAt.none_int _ _⟩
    | str b=>obtain⟨t,rfl⟩:=ky;exact⟨SeqAt.EqAt.none_str _ _,SeqAt.RcAt.none_str _ _,SeqAt.RcNeAt.none_str _ _⟩
    | tup es=>obtain⟨a,its,vs,rfl,p,_⟩:=ky;exact⟨SeqAt.EqAt.none_tuple p hA,SeqAt.RcAt.none_tuple p hA,SeqAt.RcNeAt.none_tuple p hA⟩
    | lst es=>obtain⟨a,its,vs,rfl,p,_⟩:=ky;exact⟨SeqAt.EqAt.none_list p hA,SeqAt.RcAt.none_list p hA,SeqAt.RcNeAt.none_list p hA⟩
  | bl c =>
    have kx:u=.bool c:=kx
    subst kx
    cases e with
    | dct _ _=>exact absurd hy RP.noDct
    | obj _ _=>exact absurd hy RP.noObj
    | exc _=>exact absurd hy RP.noExc
    | non=>have ky:v=.none:=ky;subst ky;exact⟨SeqAt.EqAt.bool_none _,SeqAt.RcAt.bool_none _,SeqAt.RcNeAt.bool_none _⟩
    | bl b=>have ky:v=.bool b:=ky;subst ky;exact⟨SeqAt.EqAt.bool_bool _ _,SeqAt.RcAt.bool_bool _ _,SeqAt.RcNeAt.bool_bool _ _⟩
    | int b=>obtain⟨t,rfl⟩:=ky;exact⟨SeqAt.EqAt.bool_int _ _ _,SeqAt.RcAt.bool_int _ _ _,SeqAt.RcNeAt.bool_int _ _ _⟩
    | str b=>obtain⟨t,rfl⟩:=ky;exact⟨SeqAt.EqAt.bool_str _ _ _,SeqAt.RcAt.bool_str _ _ _,SeqAt.RcNeAt.bool_str _ _ _⟩
    | tup es=>obtain⟨a,its,vs,rfl,p,_⟩:=ky;exact⟨SeqAt.EqAt.bool_tuple _ p hA,SeqAt.RcAt.bool_tuple _ p hA,SeqAt.RcNeAt.bool_tuple _ p hA⟩
    | lst es=>obtain⟨a,its,vs,rfl,p,_⟩:=ky;exact⟨SeqAt.EqAt.bool_list _ p hA,SeqAt.RcAt.bool_list _ p hA,SeqAt.RcNeAt.bool_list _ p hA⟩
  | int c =>
    obtain⟨tc,rfl⟩:=kx
    cases e with
    | dct _ _=>exact absurd hy RP.noDct
    | obj _ _=>exact absurd hy RP.noObj
    | exc _=>exact absurd hy RP.noExc
    | non=>have ky:v=.none:=ky;subst ky;exact⟨SeqAt.EqAt.int_none _ _,SeqAt.RcAt.int_none _ _,SeqAt.RcNeAt.int_none _ _⟩
    | bl b=>have ky:v=.bool b:=ky;subst ky;exact⟨SeqAt.EqAt.int_bool _ _ _,SeqAt.RcAt.int_bool _ _ _,SeqAt.RcNeAt.int_bool _ _ _⟩
    | int b=>obtain⟨t,rfl⟩:=ky;exact⟨SeqAt.EqAt.int_int _ _ _ _,SeqAt.RcAt.int_int _ _ _ _,SeqAt.RcNeAt.int_int _ _ _ _⟩
    | str b=>obtain⟨t,rfl⟩:=ky;exact⟨SeqAt.EqAt.int_str _ _ _ _,SeqAt.RcAt.int_str _ _ _ _,SeqAt.RcNeAt.int_str _ _ _ _⟩
    | tup es=>obtain⟨a,its,vs,rfl,p,_⟩:=ky;exact⟨SeqAt.EqAt.int_tuple _ _ p hA,SeqAt.RcAt.int_tuple _ _ p hA,SeqAt.RcNeAt.int_tuple _ _ p hA⟩
    | lst es=>obtain⟨a,its,vs,rfl,p,_⟩:=ky;exact⟨SeqAt.EqAt.int_list _ _ p hA,SeqAt.RcAt.int_list _ _ p hA,SeqAt.RcNeAt.int_list _ _ p hA⟩
  | str c =>
    obtain⟨tc,rfl⟩:=kx
    cases e with
    | dct _ _=>exact absurd hy RP.noDct
    | obj _ _=>exact absurd hy RP.noObj
    | exc _=>exact absurd hy RP.noExc
    | non=>have ky:v=.none:=ky;subst ky;exact⟨SeqAt.EqAt.str_none _ _,SeqAt.RcAt.str_none _ _,SeqAt.RcNeAt.str_none _ _⟩
    | bl b=>have ky:v=.bool b:=ky;subst ky;exact⟨SeqAt.EqAt.str_bool _ _ _,SeqAt.RcAt.str_bool _ _ _,SeqAt.RcNeAt.str_bool _ _ _⟩
    | int b=>obtain⟨t,rfl⟩:=ky;exact⟨SeqAt.EqAt.str_int _ _ _ _,SeqAt.RcAt.str_int _ _ _ _,SeqAt.RcNeAt.str_int _ _ _ _⟩
    | str b=>obtain⟨t,rfl⟩:=ky;exact⟨SeqAt.EqAt.str_str _ _ _ _,SeqAt.RcAt.str_str _ _ _ _,SeqAt.RcNeAt.str_str _ _ _ _⟩
    | tup es=>obtain⟨a,its,vs,rfl,p,_⟩:=ky;exact⟨SeqAt.EqAt.str_tuple _ _ p hA,SeqAt.RcAt.str_tuple _ _ p hA,SeqAt.RcNeAt.str_tuple _ _ p hA⟩
    | lst es=>obtain⟨a,its,vs,rfl,p,_⟩:=ky;exact⟨SeqAt.EqAt.str_list _ _ p hA,SeqAt.RcAt.str_list _ _ p hA,SeqAt.RcNeAt.str_list _ _ p hA⟩
  | tup ds =>
    obtain⟨a,its,vs,rfl,p,hd,hv⟩:=kx
    cases e with
    | dct _ _=>exact absurd hy RP.noDct
    | obj _ _=>exact absurd hy RP.noObj
    | exc _=>exact absurd hy RP.noExc
    | non=>have ky:v=.none:=ky;subst ky;exact⟨SeqAt.EqAt.tuple_none p hA,SeqAt.RcAt.tuple_none p hA,SeqAt.RcNeAt.tuple_none p hA⟩
    | bl b=>have ky:v=.bool b:=ky;subst ky;exact⟨SeqAt.EqAt.tuple_bool _ p hA,SeqAt.RcAt.tuple_bool _ p hA,SeqAt.RcNeAt.tuple_bool _ p hA⟩
    | int b=>obtain⟨t,rfl⟩:=ky;exact⟨SeqAt.EqAt.tuple_int _ _ p hA,SeqAt.RcAt.tuple_int _ _ p hA,SeqAt.RcNeAt.tuple_int _ _ p hA⟩
    | str b=>obtain⟨t,rfl⟩:=ky;exact⟨SeqAt.EqAt.tuple_str _ _ p hA,SeqAt.RcAt.tuple_str _ _ p hA,SeqAt.RcNeAt.tuple_str _ _ p hA⟩
    | tup es =>
      obtain⟨b,its2,vs2,rfl,p2,hd2,hv2⟩:=ky
      cases n with
      | zero=>simp at hs
      | succ n =>
        have l1:=RDs.length hd
        have l2:=RDs.length hd2
        have l3:=hv.length
        have l4:=hv2.length
        have hj:∀j (h1:j<its.toArray.size) (h2:j<its2.toArray.size),SeqAt.EqAt A.in1 s its.toArray[j] its2.toArray[j] (eqD (ds.getD j .non) (es.getD j .non)):=λj h1 h2=>by
          obtain⟨v1,q1,q2⟩:=RDs.vals hd hv j h1
          obtain⟨v2,q3,q4⟩:=RDs.vals hd2 hv2 j h2
          refine (eq_at I n _ _ v1 v2 _ _ A.in1 (.inl q1) (.inl q3) q2 q4 ?_ (by rw [in1_units];omega)).1
          simp only [shal,Bool.or_eq_true] at hs ⊢
          exact hs.imp (λz=>shals_get j z) (λz=>shals_get j z)
        have e1:((List.range (min its.toArray.size its2.toArray.size)).all (λj=>eqD (ds.getD j .non) (es.getD j .non))&&its.toArray.size == its2.toArray.size)=eqD (.tup ds) (.tup es):=by
          simp only [eqD,eqDs_all,List.size_toArray,←l3,←l4,l1,l2]
        have r1:=SeqAt.RcAt.tuples p p2 hA hj
        have r2:=SeqAt.RcNeAt.tuples p p2 hA hj
        rw [e1] at r1 r2
        refine⟨?_,r1,r2⟩
        by_cases hab:a=b
        · subst hab
          have:D.tup ds=D.tup es:=by
            cases ru':x with
            | ref a' =>
              cases ry':y with
              | ref b' =>
                subst ru' ry'
                have z1:Value.ref a=Value.ref a':=ru
                have z2:Value.ref a=Value.ref b':=rv
                cases z1;cases z2
                exact RP.inj I hx hy
              | _=>subst ry';obtain⟨_,_,q,_⟩:=hy.tup;cases q
            | _=>subst ru';obtain⟨_,_,q,_⟩:=hx.tup;cases q
          rw [this,eqD_refl]
          exact SeqAt.EqAt.same _
        · exact SeqAt.EqAt.of_refs hab r1
    | lst es=>obtain⟨b,its2,vs2,rfl,p2,_⟩:=ky;exact⟨SeqAt.EqAt.tuple_list p p2 hA,SeqAt.RcAt.tuple_list p p2 hA,SeqAt.RcNeAt.tuple_list p p2 hA⟩
  | lst ds =>
    obtain⟨a,its,vs,rfl,p,hd,hv⟩:=kx
    cases e with
    | dct _ _=>exact absurd hy RP.noDct
    | obj _ _=>exact absurd hy RP.noObj
    | exc _=>exact absurd hy RP.noExc
    | non=>have ky:v=.none:=ky;subst ky;exact⟨SeqAt.EqAt.list_none p hA,SeqAt.RcAt.list_none p hA,SeqAt.RcNeAt.list_none p hA⟩
    | bl b=>have ky:v=.bool b:=ky;subst ky;exact⟨SeqAt.EqAt.list_bool _ p hA,SeqAt.RcAt.list_bool _ p hA,SeqAt.RcNeAt.list_bool _ p hA⟩
    | int b=>obtain⟨t,rfl⟩:=ky;exact⟨SeqAt.EqAt.list_int _ _ p hA,SeqAt.RcAt.list_int _ _ p hA,SeqAt.RcNeAt.list_int _ _ p hA⟩
    | str b=>obtain⟨t,rfl⟩:=ky;exact⟨SeqAt.EqAt.list_str _ _ p hA,SeqAt.RcAt.list_str _ _ p hA,SeqAt.RcNeAt.list_str _ _ p hA⟩
    | tup es=>obtain⟨b,its2,vs2,rfl,p2,_⟩:=ky;exact⟨SeqAt.EqAt.list_tuple p p2 hA,SeqAt.RcAt.list_tuple p p2 hA,SeqAt.RcNeAt.list_tuple p p2 hA⟩
    | lst es =>
      obtain⟨b,its2,vs2,rfl,p2,hd2,hv2⟩:=ky
      cases n with
      | zero=>simp at hs
      | succ n =>
        have l1:=RDs.length hd
        have l2:=RDs.length hd2
        have l3:=hv.length
        have l4:=hv2.length
        have hj:∀j (h1:j<its.toArray.size) (h2:j<its2.toArray.size),SeqAt.EqAt A.in1 s its.toArray[j] its2.toArray[j] (eqD (ds.getD j .non) (es.getD j .non)):=λj h1 h2=>by
          obtain⟨v1,q1,q2⟩:=RDs.vals hd hv j h1
          obtain⟨v2,q3,q4⟩:=RDs.vals hd2 hv2 j h2
          refine (eq_at I n _ _ v1 v2 _ _ A.in1 (.inl q1) (.inl q3) q2 q4 ?_ (by rw [in1_units];omega)).1
          simp only [shal,Bool.or_eq_true] at hs ⊢
          exact hs.imp (λz=>shals_get j z) (λz=>shals_get j z)
        have both:SeqAt.RcAt A s (.ref a) (.ref b) (eqD (.lst ds) (.lst es))∧SeqAt.RcNeAt A s (.ref a) (.ref b) (!eqD (.lst ds) (.lst es)):=by
          by_cases hsz:its.toArray.size=its2.toArray.size
          · have e1:(List.range its.toArray.size).all (λj=>eqD (ds.getD j .non) (es.getD j .non))=eqD (.lst ds) (.lst es):=by
              have hl:ds.length=es.length:=by simp only [List.size_toArray] at hsz;omega
              have hm:its.toArray.size=min ds.length es.length:=by simp only [List.size_toArray];omega
              simp only [eqD,eqDs_all,hm,hl,beq_self_eq_true,Bool.and_true]
            have r1:=SeqAt.RcAt.lists p p2 hsz hA hj
            have r2:=SeqAt.RcNeAt.lists p p2 hsz hA hj
            rw [e1] at r1 r2
            exact⟨r1,r2⟩
          · have hb:(its.toArray.size != its2.toArray.size)=true:=by simpa using hsz
            have e1:eqD (.lst ds) (.lst es)=false:=by
              have hl:(ds.length == es.length)=false:=by
                simp only [List.size_toArray] at hsz
                rw [beq_eq_false_iff_ne];omega
              simp only [eqD,eqDs_all,hl,Bool.and_false]
            rw [e1]
            exact⟨SeqAt.RcAt.lists_lengths p p2 hb hA,SeqAt.RcNeAt.lists_lengths p p2 hb hA⟩
        refine⟨?_,both⟩
        by_cases hab:a=b
        · subst hab
          have:D.lst ds=D.lst es:=by
            cases ru':x with
            | ref a' =>
              cases ry':y with
              | ref b' =>
                subst ru' ry'
                have z1:Value.ref a=Value.ref a':=ru
                have z2:Value.ref a=Value.ref b':=rv
                cases z1;cases z2
                exact RP.inj I hx hy
              | _=>subst ry';obtain⟨_,_,q,_⟩:=hy.lst;cases q
            | _=>subst ru';obtain⟨_,_,q,_⟩:=hx.lst;cases q
          rw [this,eqD_refl]
          exact SeqAt.EqAt.same _
        · exact SeqAt.EqAt.of_refs hab both.1
end
end Dw
namespace Dw
open PySem PySem.Spec PyProof.Rows L2
section
variable {prog:Program}{w:World}{A:Around}{R:Result→Shared→Prop}{I:Addr}{fp wr:List Addr}{n:Nat}{P:Nat→Value→Prop}{St:Nat→Heap→Prop}
end
section
variable {prog:Program}{w:World}{A:Around}{E:Value→Shared→Prop}{s:Shared}
end
section
variable {X:Cx}
end
end Dw
namespace Dw
open PySem PySem.Spec PyProof.Rows L2
noncomputable def tyName:Ty→String
  | .int=>"int"|.bool=>"bool"|.tuple=>"tuple"|.list=>"list"|.str=>"str"
noncomputable def kindName:D→String
  | .non=>"NoneType"|.bl _=>"bool"|.int _=>"int"|.str _=>"str"|.tup _=>"tuple"|.lst _=>"list"|.dct _ _=>"NoneType"|.obj _ _=>"NoneType"|.exc _=>"NoneType"
theorem kit_all (K:PySem.W.Frag) (ty:Ty) (d:D):PySem.W.kitOne K (.type (kindName d)) (.type (tyName ty))=some (tyD ty d):=by
  cases ty<;>cases d<;>kernel_rfl
section
variable {X:Cx}
theorem call_isiD:CallR X (.builtin "isinstance") (λxs H Q=>∃(x:V) (d:D) (F:Fz) (ty:Ty),xs=[x,.ty (tyName ty)]∧RP X.K H F d x∧Q (.bl (tyD ty d)) H):=by
  intro pins s σ H xs us Q I r h
  obtain⟨x,d,F,ty,rfl,hx,q⟩:=h
  obtain⟨u,w',rfl,ru,rw'⟩:=vals2 r
  have rw'':w'=Value.type (tyName ty):=rw'
  subst rw''
  have fin:∀tk,EP X pins σ Q (.bool (tyD ty d)) { s with toks:=tk }:=λtk=>⟨.bl _,H,I.tok tk,rfl,q⟩
  have e:=kit_all X.K ty d
  have k:=vs_of I hx ru
  cases d with
  | dct _ _=>exact absurd hx RP.noDct
  | obj _ _=>exact absurd hx RP.noObj
  | exc _=>exact absurd hx RP.noExc
  | non=>have k:u=.none:=k;subst k;exact PySem.W.kia_one PySem.W.kitx_none I.kIn True.intro e (λz=>nomatch z) fin
  | bl b=>have k:u=.bool b:=k;subst k;exact PySem.W.kia_one PySem.W.kitx_bool I.kIn True.intro e (λz=>nomatch z) fin
  | int i=>obtain⟨t,rfl⟩:=k;exact PySem.W.kia_one PySem.W.kitx_int I.kIn True.intro e (λz=>nomatch z) fin
  | str i=>obtain⟨t,rfl⟩:=k;exact PySem.W.kia_one PySem.W.kitx_str I.kIn True.intro e (λz=>nomatch z) fin
  | tup ds=>obtain⟨a,its,vs,rfl,⟨o,h1,h2,_⟩,_⟩:=k;exact PySem.W.kia_one PySem.W.kitx_tuple I.kIn ⟨o,h1,h2⟩ e (λz=>nomatch z) fin
  | lst ds=>obtain⟨a,its,vs,rfl,⟨o,h1,h2,_⟩,_⟩:=k;exact PySem.W.kia_one PySem.W.kitx_list I.kIn ⟨o,h1,h2⟩ e (λz=>nomatch z) fin
theorem op_isD (neg:Bool):OpR X (compareOp (if neg then .IsNot else .Is)) (λx y H Q=>∃(d e:D) (F:Fz) (b:Bool),RP X.K H F d x∧RP X.K H F e y∧isD neg d e=some (false,.bl b)∧Q (.bl b) H):=by
  intro pins s σ H x y v u Q I rx ry h
  obtain⟨d,e,F,b,hx,hy,hb,q⟩:=h
  have kx:=vs_of I hx rx
  have ky:=vs_of I hy ry
  have fin:∀c:Bool,c=b→EP X pins σ Q (.bool c) s:=λc z=>⟨.bl c,H,I,rfl,by rw [z];exact q⟩
  have go:∀(c:Bool),plainIs v u=true→(v == u)=c→(if neg then !c else c)=b→wpAny (model X.prog X.w) X.A (compareOp (if neg then .IsNot else .Is) v u) (EP X pins σ Q) X.xe s:=λc hp hv hc=>by
    subst hv
    cases neg with
    | true=>exact wpAny_isNot_plain hp (fin _ hc)
    | false=>exact wpAny_is_plain hp (fin _ hc)
  have no:∀{x y:Value},x≠y→(x == y)=false:=λh=>beq_eq_false_iff_ne.mpr h
  cases e with
  | non =>
    have ky:u=.none:=ky
    subst ky
    cases d with
    | dct _ _=>exact absurd hx RP.noDct
    | obj _ _=>exact absurd hx RP.noObj
    | exc _=>exact absurd hx RP.noExc
    | non=>have kx:v=.none:=kx;subst kx;exact go true rfl (beq_self_eq_true _) (by cases neg<;>simp at hb ⊢<;>exact hb)
    | bl c=>have kx:v=.bool c:=kx;subst kx;exact go false rfl (no (λz=>nomatch z)) (by cases neg<;>simp at hb ⊢<;>exact hb)
    | int c=>obtain⟨t,rfl⟩:=kx;exact go false rfl (no (λz=>nomatch z)) (by cases neg<;>simp at hb ⊢<;>exact hb)
    | str c=>obtain⟨t,rfl⟩:=kx;exact go false rfl (no (λz=>nomatch z)) (by cases neg<;>simp at hb ⊢<;>exact hb)
    | tup ds=>obtain⟨a,its,vs,rfl,_⟩:=kx;exact go false rfl (no (λz=>nomatch z)) (by cases neg<;>simp at hb ⊢<;>exact hb)
    | lst ds=>obtain⟨a,its,vs,rfl,_⟩:=kx;exact go false rfl (no (λz=>nomatch z)) (by cases neg<;>simp at hb ⊢<;>exact hb)
  | bl c2 =>
    have ky:u=.bool c2:=ky
    subst ky
    cases d with
    | dct _ _=>exact absurd hx RP.noDct
    | obj _ _=>exact absurd hx RP.noObj
    | exc _=>exact absurd hx RP.noExc
    | non=>have kx:v=.none:=kx;subst kx;exact go false rfl (no (λz=>nomatch z)) (by cases neg<;>simp at hb ⊢<;>exact hb)
    | bl c =>
      have kx:v=.bool c:=kx
      subst kx
      by_cases hc:c=c2
      · subst hc
        exact go true rfl (beq_self_eq_true _) (by cases neg<;>simp at hb ⊢<;>exact hb)
      · exact go false rfl (no (λz=>hc (by injection z))) (by cases neg<;>cases c<;>cases c2<;>simp at hb hc ⊢<;>exact hb)
    | int c=>obtain⟨t,rfl⟩:=kx;exact go false rfl (no (λz=>nomatch z)) (by cases neg<;>simp at hb ⊢<;>exact hb)
    | str c=>obtain⟨t,rfl⟩:=kx;exact go false rfl (no (λz=>nomatch z)) (by cases neg<;>simp at hb ⊢<;>exact hb)
    | tup ds=>obtain⟨a,its,vs,rfl,_⟩:=kx;exact go false rfl (no (λz=>nomatch z)) (by cases neg<;>simp at hb ⊢<;>exact hb)
    | lst ds=>obtain⟨a,its,vs,rfl,_⟩:=kx;exact go false rfl (no (λz=>nomatch z)) (by cases neg<;>simp at hb ⊢<;>exact hb)
  | _=>cases d<;>simp at hb
theorem op_eqD (hu:X.A.units+20<cLine):OpR X (compareOp .Eq) (λx y H Q=>∃(d e:D) (F:Fz),RP X.K H F d x∧RP X.K H F e y∧(shal 20 d||shal 20 e)=true∧Q (.bl (eqD d e)) H):=by
  intro pins s σ H x y v u Q I rx ry h
  obtain⟨d,e,F,hx,hy,hs,q⟩:=h
  exact (eq_at I 20 d e x y v u X.A hx hy rx ry hs hu).2.1 _ _ _ _ ⟨.bl _,H,I,rfl,q⟩
theorem op_neD (hu:X.A.units+20<cLine):OpR X (compareOp .NotEq) (λx y H Q=>∃(d e:D) (F:Fz),RP X.K H F d x∧RP X.K H F e y∧(shal 20 d||shal 20 e)=true∧Q (.bl (!eqD d e)) H):=by
  intro pins s σ H x y v u Q I rx ry h
  obtain⟨d,e,F,hx,hy,hs,q⟩:=h
  exact (eq_at I 20 d e x y v u X.A hx hy rx ry hs hu).2.2 _ _ _ _ ⟨.bl _,H,I,rfl,q⟩
end
end Dw
namespace Dw
open PySem PySem.Spec PyProof.Rows L2
noncomputable def RG (K:PySem.W.Frag) (H:Hp) (F:Fz) (d:D) (v:V):Prop:=RD K H F d v∨(∃a ks,d=.dct false ks∧v=.ref a∧¬F a∧H a=some (.dK (dk ks)))∨∃ns ds,d=.obj ns ds∧ObR K H F ns ds v
noncomputable def RGs (K:PySem.W.Frag) (H:Hp) (F:Fz):List D→List V→Prop
  | [],vs=>vs=[]
  | d::ds,vs=>∃v r,vs=v::r∧RG K H F d v∧RGs K H F ds r
theorem RG.grow {K:PySem.W.Frag}{H H1:Hp}{F F1:Fz}(g:Gr H F H1 F1) {d:D}{v:V}(h:RG K H F d v):RG K H1 F1 d v:=
  h.elim (λz=>.inl (RD.mono g.keep z)) λz=>z.elim (λ⟨a,ks,e1,e2,e3,e4⟩=>.inr (.inl ⟨a,ks,e1,e2,(λz=>(g.new a z).elim e3 λz=>absurd (e4.symm.trans z) (by simp)),g.same _ _ e4⟩)) λ⟨ns,ds,e,o⟩=>.inr (.inr ⟨ns,ds,e,o.grow g⟩)
theorem RGs.of {K:PySem.W.Frag}{H:Hp}{F:Fz}:∀{ds:List D}{vs:List V},RDs K H F ds vs→RGs K H F ds vs
  | [],_,h=>h
  | _::_,_,⟨v,r,e,h1,h2⟩=>⟨v,r,e,.inl h1,RGs.of h2⟩
theorem RGs.length {K:PySem.W.Frag}{H:Hp}{F:Fz}:∀{ds:List D}{vs:List V},RGs K H F ds vs→vs.length=ds.length
  | [],_,h=>by rw [show _=[] from h];rfl
  | _::_,_,⟨v,r,e,h1,h2⟩=>by rw [e,List.length_cons,List.length_cons,RGs.length h2]
theorem RGs.get {K:PySem.W.Frag}{H:Hp}{F:Fz}:∀{ds:List D}{vs:List V}{i:Nat}{d:D},RGs K H F ds vs→ds[i]?=some d→∃v,vs[i]?=some v∧RG K H F d v
  | [],_,_,_,_,e=>by simp at e
  | x::ds,_,i,d,⟨v,r,e1,h1,h2⟩,e=>by
    subst e1
    cases i with
    | zero=>simp at e;subst e;exact⟨v,rfl,h1⟩
    | succ i=>simp at e;obtain⟨w,q1,q2⟩:=RGs.get h2 e;exact⟨w,by simpa using q1,q2⟩
noncomputable def spD (K:PySem.W.Frag) (n:Nat) (f:List D→Option R):Sp:=λvs H Q _=>vs.length=n∧TB H∧∃(F:Fz) (ds:List D) (r:R),(∀a,H a=none→¬F a)∧RGs K H F ds vs∧f ds=some r ∧
  ∀v H' F',Gr H F H' F'→RR K H H' F' r v→Q v H'
structure Dfn (call:Nat→List D→Option R) (k:Nat) (X:Cx) (f:Str) (i:Nat):Prop where
  ex:∃(a:Addr) (fd:FuncData) (ps:List Str),X.mg f=some (.ref a)∧PySem.W.keepIn X.K (.ref a)=true∧Binds X.K fd ps []∧FnOk X.prog X.w X.K X.mg X.base CX0 k a fd ps (spD X.K ps.length (call i))∧∀ds r,call i ds=some r→ds.length=ps.length
noncomputable def kV:D→V
  | .int i=>.int i
  | .bl b=>.bl b
  | .str x=>.str x
  | _=>.non
noncomputable def isK:D→Bool
  | .tup _=>false
  | .lst _=>false
  | .dct _ _=>false
  | .obj _ _=>false
  | .exc _=>false
  | _=>true
noncomputable def arV (vs zs:List V):Ar→V
  | .pos i=>vs.getD i .non
  | .kw i=>zs.getD i .non
  | .dft _ d=>kV d
theorem rd_k {K:PySem.W.Frag}{H:Hp}{F:Fz}{d:D}(h:isK d=true):RD K H F d (kV d):=by cases d<;>first|rfl|cases h
structure Dfu (call:Nat→List D→Option R) (k:Nat) (X:Cx) (u:Uc):Prop where
  ex:∃(a:Addr) (fd:FuncData) (ps:List Str) (g:List Value→List Value→List Value) (gV:List V→List V→List V),X.mg u.f=some (.ref a)∧PySem.W.keepIn X.K (.ref a)=true∧KBinds X.K fd ps u.ks g gV∧(∀vs zs,vs.length=u.np→zs.length=u.ks.length→gV vs zs=u.pl.map (arV vs zs)) ∧
    (∀j d,Ar.dft j d∈u.pl→isK d=true)∧FnOk X.prog X.w X.K X.mg X.base CX0 k a fd ps (spD X.K ps.length (call u.i))∧∀ds r,call u.i ds=some r→ds.length=ps.length
noncomputable def putA:List Str→List V→List (Str×V)→List (Str×V)
  | f::ns,v::vs,fs=>putA ns vs (putF f v fs)
  | _,_,fs=>fs
noncomputable def spI (K:PySem.W.Frag) (ns:List Str):Sp:=λvs H Q _=>∃(x C dx:Addr) (ws:List V),vs=.ref x::ws∧ws.length=ns.length∧H x=some (.ins C dx [])∧Cls K C∧(∀f∈ns,NoAttr K C f)∧Q .non (upd H x (.ins C dx (putA ns ws [])))
structure Dfm (call:Nat→List D→Option R) (k:Nat) (X:Cx) (ns:List Str) (c m:Str) (i:Nat):Prop where
  ex:∃(C fi fm:Addr) (fdi fdm:FuncData) (psi psm:List Str),X.mg c=some (.ref C)∧Mk X.K C fi∧Cls X.K C∧(∀f∈ns,NoAttr X.K C f)∧Binds X.K fdi psi []∧FnOk X.prog X.w X.K X.mg X.base CX0 1 fi fdi psi (spI X.K ns)∧Meth X.K C m fm∧Binds X.K fdm psm [] ∧
    FnOk X.prog X.w X.K X.mg X.base CX0 k fm fdm psm (spD X.K psm.length (call i))∧(∀ds r,call i ds=some r→ds.length=psm.length)∧m∉ns∧ns.Nodup
noncomputable def bltNames:List Str:=["len","abs","min","max","sum","all","tuple","list","int","bool","str","isinstance","range","zip","reversed","sorted","enumerate","any"].map Str.ofString
structure Rse (X:Cx) (c:Str):Prop where
  ex:∃(C:Addr) (B nid iid:String) (bm:List Value),ExcBaseFacts B nid iid bm∧OwnCls c C bm nid X.mg X.base
noncomputable def spX (K:PySem.W.Frag) (mg:Str→Option Value) (n:Nat) (f:List D→Option R):Sp:=λvs H Q E=>vs.length=n∧TB H∧∃(F:Fz) (ds:List D) (r:R),(∀a,H a=none→¬F a)∧RGs K H F ds vs∧f ds=some r ∧
  (∀v H' F',Gr H F H' F'→RR K H H' F' r v→Q v H')∧∀c,r=(false,.exc c)→∀H' F',Gr H F H' F'→∀C,mg c=some (.ref C)→E (.ref C) none H'
structure Dfx (call:Nat→List D→Option R) (k:Nat) (X:Cx) (f:Str) (i:Nat):Prop where
  ex:∃(a:Addr) (fd:FuncData) (ps:List Str),X.mg f=some (.ref a)∧PySem.W.keepIn X.K (.ref a)=true∧Binds X.K fd ps []∧FnOk X.prog X.w X.K X.mg X.base (CXr X.prog X.w) k a fd ps (spX X.K X.mg ps.length (call (i+XO)))∧∀ds r,call (i+XO) ds=some r→ds.length=ps.length
structure XG (call:Nat→List D→Option R) (G:Gx) (k:Nat) (X:Cx) (sc:Scope) (N:List Str):Prop where
  hN:X.N=N
  nd:N.Nodup
  vis:∀x,visB sc x=true→Vis X.env.scope x
  loc:∀x,(sc.names.lookup x == some .local||sc.names.lookup x == some .cell)=true→Loc X.env.scope x∧(X.fn x=true∨X.env.scope.names.lookup x=some .local)
  gl:∀x,glB sc x=true→Gl X x
  cap:∀x,capB sc x=true→X.env.kindOf x=some .cell∨X.env.kindOf x=some .free
  calm:X.calm=true
  xe:PassesOwn (model X.prog X.w) X.A X.env X.xe
  room:Room k X.A
  defs:∀f i,G.defs.lookup f=some i→Dfn call k X f i
  blt:∀x,G.defs.lookup x=none→x∈bltNames→X.mg x=none
  cons:∀x i,G.cons.lookup x=some i→∃t,X.mg x=some (.int i t)
  ucal:∀u∈G.ucal,Dfu call k X u
  meth:∀u∈G.meth,Dfm call k X (G.flds.map (·.1)) u.1 u.2.1 u.2.2
  two:G.meth≠[]→2≤k
  rse:∀c∈G.rse,Rse X c
  xdf:∀f i,G.xdf.lookup f=some i→Dfx call k X f i
section
variable {call:Nat→List D→Option R}{G:Gx}{k:Nat}{X:Cx}{sc:Scope}{N:List Str}
variable (call X) in
noncomputable def SndE (e:Expr) (c:C):Prop:=∃t:TE,PE X e t∧∀(Ge H:Hp) (F:Fz) (σ:En) (τ:L2.St) (r:R) (Q:VK),evE call σ c=some r→SR X.K Ge H F σ τ→(∀v H' F',Gr H F H' F'→RR X.K H H' F' r v→Q v H')→t τ H Q
variable (call X) in
noncomputable def SndP (e:Expr) (c:C):Prop:=∃t:TE,PE X e t∧∀(Ge H:Hp) (F:Fz) (σ:En) (τ:L2.St) (d:D) (Q:VK),pk σ c (evE call σ c)=some d→SR X.K Ge H F σ τ→(∀v H' F',Gr H F H' F'→RP X.K H' F' d v→Q v H')→t τ H Q
variable (call X) in
noncomputable def SndT (e:Expr) (c:C):Prop:=∃t:TT,PT X e t∧∀(Ge H:Hp) (F:Fz) (σ:En) (τ:L2.St) (x b:Bool) (Q:Bool→Hp→Prop),evE call σ c=some (x,.bl b)→SR X.K Ge H F σ τ→(∀H' F',Gr H F H' F'→Q b H')→t τ H Q
variable (call X) in
noncomputable def SndA (es:List Expr) (cs:List C):Prop:=∃t:TA,PA X es t∧∀(Ge H:Hp) (F:Fz) (σ:En) (τ:L2.St) (ds:List D) (Q:List V→Hp→Prop),evA call σ cs=some ds→SR X.K Ge H F σ τ→(∀vs H' F',Gr H F H' F'→RDs X.K H' F' ds vs→Q vs H')→t τ H Q
noncomputable def RPs (K:PySem.W.Frag) (H:Hp) (F:Fz):List D→List V→Prop
  | [],vs=>vs=[]
  | d::ds,vs=>∃v r,vs=v::r∧RP K H F d v∧RPs K H F ds r
theorem RPs.grow {K:PySem.W.Frag}{H H1:Hp}{F F1:Fz}(g:Gr H F H1 F1):∀{ds:List D}{vs:List V},RPs K H F ds vs→RPs K H1 F1 ds vs
  | [],_,h=>h
  | _::_,_,⟨v,r,e,h1,h2⟩=>⟨v,r,e,h1.grow g,RPs.grow g h2⟩
variable (call X) in
noncomputable def SndAP (es:List Expr) (cs:List C):Prop:=∃t:TA,PA X es t∧∀(Ge H:Hp) (F:Fz) (σ:En) (τ:L2.St) (ds:List D) (Q:List V→Hp→Prop),evAP call σ cs=some ds→SR X.K Ge H F σ τ→(∀vs H' F',Gr H F H' F'→RPs X.K H' F' ds vs→Q vs H')→t τ H Q
variable (call X) in
noncomputable def SndAg (e:Expr) (c:C):Prop:=∃t:TE,PE X e t∧∀(Ge H:Hp) (F:Fz) (σ:En) (τ:L2.St) (d:D) (Q:VK),ag σ c (evE call σ c)=some d→SR X.K Ge H F σ τ→(∀v H' F',Gr H F H' F'→RG X.K H' F' d v→Q v H')→t τ H Q
variable (call X) in
noncomputable def SndGA (es:List Expr) (cs:List C):Prop:=∃t:TA,PA X es t∧∀(Ge H:Hp) (F:Fz) (σ:En) (τ:L2.St) (ds:List D) (Q:List V→Hp→Prop),evG call σ cs=some ds→SR X.K Ge H F σ τ→(∀vs H' F',Gr H F H' F'→RGs X.K H' F' ds vs→Q vs H')→t τ H Q
variable (call X) in
noncomputable def SndO (e:Option Expr) (c:Option C):Prop:=∃t:TO,PO X e t∧∀(Ge H:Hp) (F:Fz) (σ:En) (τ:L2.St) (o:Option Int) (Q:Option Int→Hp→Prop),evO call σ c=some o→SR X.K Ge H F σ τ→(∀H' F',Gr H F H' F'→Q o H')→t τ H Q
theorem SndE.look {e:Expr}{c:C}(h:SndE call X e c) (hc:∀i,c≠.v i):SndP call X e c:=by
  obtain⟨t,p,q⟩:=h
  refine⟨t,p,λGe H F σ τ d Q hd hs k=>?_⟩
  have hd':(evE call σ c).map (·.2)=some d:=by
    cases c with
    | v i=>exact absurd rfl (hc i)
    | _=>exact hd
  cases hr:evE call σ c with
  | none=>rw [hr] at hd';cases hd'
  | some r =>
    rw [hr] at hd'
    cases hd'
    exact q Ge H F σ τ r Q hr hs λv H' F' g z=>k v H' F' g z.look
theorem SndE.lend {e:Expr}{c:C}(h:SndE call X e c) (hc:∀i,c≠.v i):SndAg call X e c:=by
  obtain⟨t,p,q⟩:=h
  refine⟨t,p,λGe H F σ τ d Q hd hs k=>?_⟩
  have hd':(evE call σ c).map (·.2)=some d:=by
    cases c with
    | v i=>exact absurd rfl (hc i)
    | _=>exact hd
  cases hr:evE call σ c with
  | none=>rw [hr] at hd';cases hd'
  | some r =>
    rw [hr] at hd'
    cases hd'
    refine q Ge H F σ τ r Q hr hs λv H' F' g z=>?_
    obtain⟨F2,g2,rd⟩:=z.fz g
    exact k v H' F2 g2 (.inl rd)
theorem slot_get {x:Str}{i:Nat}(h:slotOf N x=some i):N[i]?=some x:=by
  unfold slotOf at h
  obtain⟨h1,h2,_⟩:=List.findIdx?_eq_some_iff_getElem.mp h
  rw [List.getElem?_eq_getElem h1]
  simpa using h2
theorem var_of (g:XG call G k X sc N) {x:Str}{i:Nat}(h:varOf sc N x=some i):X.N[i]?=some x∧Vis X.env.scope x∧(x == ("__debug__":Str))=false∧(x == ("__classdict__":Str))=false:=by
  unfold varOf at h
  split at h
  · rename_i hv
    rw [Bool.and_eq_true] at hv
    have hp:=hv.2
    unfold plainName at hp
    simp only [Bool.and_eq_true,bne_iff_ne,ne_eq] at hp
    refine⟨by rw [g.hN];exact slot_get h,g.vis x hv.1,?_,?_⟩
    · exact beq_eq_false_iff_ne.mpr hp.1.1
    · exact beq_eq_false_iff_ne.mpr hp.1.2
  · cases h
theorem snd_name (g:XG call G k X sc N) {x:Str}{pos:Pos}{i:Nat}(h:varOf sc N x=some i):SndE call X (.Name x pos) (.v i)∧SndP call X (.Name x pos) (.v i)∧SndAg call X (.Name x pos) (.v i):=by
  obtain⟨h1,h2,h3,h4⟩:=var_of g h
  refine⟨?_,?_,?_⟩
  · refine⟨_,pe_var h1 h2 h3 h4,λGe H F σ τ r Q hr hs k=>?_⟩
    change noOwn (getv σ i)=some r at hr
    cases hv:getv σ i with
    | none=>rw [hv] at hr;cases hr
    | some z =>
      obtain⟨b,d⟩:=z
      rw [hv] at hr
      cases b with
      | true=>cases hr
      | false =>
        cases hr
        obtain⟨v,e,rd⟩:=hs.val i d hv
        exact⟨v,e,k v H F (Gr.refl hs.dom) rd⟩
  · refine⟨_,pe_var h1 h2 h3 h4,λGe H F σ τ d Q hr hs k=>?_⟩
    change (getv σ i).bind pkR=some d at hr
    cases hv:getv σ i with
    | none=>rw [hv] at hr;cases hr
    | some z =>
      obtain⟨b,d'⟩:=z
      rw [hv] at hr
      cases b with
      | false =>
        cases hr
        obtain⟨v,e,rd⟩:=hs.val i _ hv
        exact⟨v,e,k v H F (Gr.refl hs.dom) (.inl rd)⟩
      | true =>
        cases d' with
        | lst ds' =>
          cases hr
          obtain⟨a,ds,vs,e1,e2,e3,e4,e5,e6⟩:=hs.own i _ hv rfl
          exact⟨.ref a,e2,k _ H F (Gr.refl hs.dom) (.inr ⟨a,ds,vs,e1,rfl,e5,e6⟩)⟩
        | _=>cases hr
  · refine⟨_,pe_var h1 h2 h3 h4,λGe H F σ τ d Q hr hs k=>?_⟩
    change (getv σ i).bind agR=some d at hr
    cases hv:getv σ i with
    | none=>rw [hv] at hr;cases hr
    | some z =>
      obtain⟨b,d'⟩:=z
      rw [hv] at hr
      cases b with
      | false =>
        cases hr
        obtain⟨v,e,rd⟩:=hs.val i _ hv
        exact⟨v,e,k v H F (Gr.refl hs.dom) (.inl rd)⟩
      | true =>
        cases d' with
        | dct m ks =>
          cases hr
          obtain⟨a,e1,e2,e3,e4⟩:=hs.dct i m ks hv
          exact⟨.ref a,e1,k _ H F (Gr.refl hs.dom) (.inr (.inl ⟨a,ks,rfl,rfl,e2,e3⟩))⟩
        | _=>cases hr
theorem snd_const {c:Const}{d:D}{j:Nat}{pos:Pos}(h:kOf c=some d):SndE call X (.Constant c j pos) (.k d):=by
  cases c with
  | int i=>cases h;exact⟨_,pe_int,λGe H F σ τ r Q hr hs k=>by cases hr;exact k _ H F (Gr.refl hs.dom) rfl⟩
  | bool i=>cases h;exact⟨_,pe_bl,λGe H F σ τ r Q hr hs k=>by cases hr;exact k _ H F (Gr.refl hs.dom) rfl⟩
  | str x=>cases h;exact⟨_,pe_str,λGe H F σ τ r Q hr hs k=>by cases hr;exact k _ H F (Gr.refl hs.dom) rfl⟩
  | none=>cases h;exact⟨_,pe_non,λGe H F σ τ r Q hr hs k=>by cases hr;exact k _ H F (Gr.refl hs.dom) rfl⟩
  | _=>cases h
theorem snd_gl (g:XG call G k X sc N) {x:Str}{c:C}{pos:Pos}(h:cGl G sc x=some c):SndE call X (.Name x pos) c∧∀i,c≠.v i:=by
  unfold cGl at h
  split at h
  · rename_i hb
    rw [Bool.and_eq_true] at hb
    cases hc:G.cons.lookup x with
    | none=>rw [hc] at h;cases h
    | some i =>
      rw [hc] at h
      cases h
      obtain⟨t,ht⟩:=g.cons x i hc
      have hd:(x == ("__debug__":Str))=false:=by
        have:=hb.2
        unfold plainName at this
        simp only [Bool.and_eq_true,bne_iff_ne,ne_eq] at this
        simpa using this.1.1
      exact⟨⟨_,pe_glob (v:=.int i) (g.gl x hb.1) ht ⟨t,rfl⟩ hd,λGe H F σ τ r Q hr hs k=>by cases hr;exact k _ H F (Gr.refl hs.dom) rfl⟩,λi z=>nomatch z⟩
  · cases h
noncomputable def OpD (X:Cx) (f:Value→Value→Sem Value) (b:D→D→Option R):Prop:=
  ∃r:R2,OpR X f r∧∀(H:Hp) (F:Fz) (d e:D) (x y:V) (z:R) (Q:VK),b d e=some z→(∀a,H a=none→¬F a)→RP X.K H F d x→RP X.K H F e y→(∀v H' F',Gr H F H' F'→RR X.K H H' F' z v→Q v H')→r x y H Q
theorem bind2 {α β γ:Type}{a:Option α}{b:Option β}{f:α→β→Option γ}{z:γ}(h:(a.bind λx=>b.bind λy=>f x y)=some z):∃x y,a=some x∧b=some y∧f x y=some z:=by
  cases a with
  | none=>cases h
  | some x =>
    cases b with
    | none=>cases h
    | some y=>exact⟨x,y,rfl,rfl,h⟩
theorem bind1 {α γ:Type}{a:Option α}{f:α→Option γ}{z:γ}(h:a.bind f=some z):∃x,a=some x∧f x=some z:=by
  cases a with
  | none=>cases h
  | some x=>exact⟨x,rfl,h⟩
theorem read2 {a b:Expr}{ca cb:C}{ta tb:TE}{Ge H:Hp}{F:Fz}{σ:En}{τ:L2.St}{x y:D}{R':V→V→Hp→Prop}
    (qa:∀(Ge H:Hp) (F:Fz) (σ:En) (τ:L2.St) (d:D) (Q:VK),pk σ ca (evE call σ ca)=some d→SR X.K Ge H F σ τ→(∀v H' F',Gr H F H' F'→RP X.K H' F' d v→Q v H')→ta τ H Q)
    (qb:∀(Ge H:Hp) (F:Fz) (σ:En) (τ:L2.St) (d:D) (Q:VK),pk σ cb (evE call σ cb)=some d→SR X.K Ge H F σ τ→(∀v H' F',Gr H F H' F'→RP X.K H' F' d v→Q v H')→tb τ H Q)
    (ex:pk σ ca (evE call σ ca)=some x) (ey:pk σ cb (evE call σ cb)=some y) (hs:SR X.K Ge H F σ τ)
    (h:∀v w H2 F2,Gr H F H2 F2→RP X.K H2 F2 x v→RP X.K H2 F2 y w→R' v w H2):ta τ H λv H1=>tb τ H1 λw H2=>R' v w H2:=by
  refine qa Ge H F σ τ x _ ex hs λv H1 F1 g1 r1=>?_
  refine qb Ge H1 F1 σ τ y _ ey (hs.grow g1) λw H2 F2 g2 r2=>?_
  exact h v w H2 F2 (g1.trans g2) (r1.grow g2) r2
theorem snd_bin {a b:Expr}{ca cb:C}{op:Operator}{o:BOp}{pos:Pos}(ho:OpD X (binaryOp op) (binD o)) (ha:SndP call X a ca) (hb:SndP call X b cb):SndE call X (.BinOp a op b pos) (.bin o ca cb):=by
  obtain⟨r,hr,hq⟩:=ho
  obtain⟨ta,pa,qa⟩:=ha
  obtain⟨tb,pb,qb⟩:=hb
  refine⟨_,pe_op hr pa pb,λGe H F σ τ z Q hz hs k=>?_⟩
  obtain⟨x,y,ex,ey,ez⟩:=bind2 (by simpa only [evE_bin] using hz)
  refine read2 (a:=a) (b:=b) qa qb ex ey hs λv w H2 F2 g rx ry=>?_
  exact hq H2 F2 x y v w z Q ez g.dom rx ry λu H' F' g' rr=>k u H' F' (g.trans g') (rr.back g.same)
theorem snd_cmp {a b:Expr}{ca cb:C}{op:CmpOp}{o:COp}{pos:Pos}(ho:OpD X (compareOp op) (cmpD o)) (hm:behindInMarks op b=false) (hb2:∀x y z,cmpD o x y=some z→∃c,z=(false,.bl c)) (ha:SndP call X a ca) (hb:SndP call X b cb) :
    SndE call X (.Compare a [op] [b] pos) (.cmp o ca cb)∧SndT call X (.Compare a [op] [b] pos) (.cmp o ca cb):=by
  obtain⟨r,hr,hq⟩:=ho
  obtain⟨ta,pa,qa⟩:=ha
  obtain⟨tb,pb,qb⟩:=hb
  constructor
  · refine⟨_,pe_cmpR hr pa pb hm,λGe H F σ τ z Q hz hs k=>?_⟩
    obtain⟨x,y,ex,ey,ez⟩:=bind2 (by simpa only [evE_cmp] using hz)
    refine read2 (a:=a) (b:=b) qa qb ex ey hs λv w H2 F2 g rx ry=>?_
    exact hq H2 F2 x y v w z Q ez g.dom rx ry λu H' F' g' rr=>k u H' F' (g.trans g') (rr.back g.same)
  · refine⟨_,pt_cmpR hr pa pb hm,λGe H F σ τ xx bb Q hz hs k=>?_⟩
    obtain⟨x,y,ex,ey,ez⟩:=bind2 (by simpa only [evE_cmp] using hz)
    refine read2 (a:=a) (b:=b) qa qb ex ey hs λv w H2 F2 g rx ry=>?_
    obtain⟨c,ec⟩:=hb2 _ _ _ ez
    cases ec
    exact hq H2 F2 x y v w _ _ ez g.dom rx ry λu H' F' g' rr=>⟨bb,rr,k H' F' (g.trans g')⟩
theorem snd_chn {a b c:Expr}{ca cb cc:C}{op op':CmpOp}{o o':COp}{pos:Pos}(ho:OpD X (compareOp op) (cmpD o)) (ho':OpD X (compareOp op') (cmpD o')) (hm:lastMarks [op,op'] [b,c]=false)
    (hb2:∀x y z,cmpD o x y=some z→∃c,z=(false,.bl c)) (hb3:∀x y z,cmpD o' x y=some z→∃c,z=(false,.bl c)) (ha:SndP call X a ca) (hb:SndP call X b cb) (hc:SndP call X c cc) :
    SndE call X (.Compare a [op,op'] [b,c] pos) (.chn o o' ca cb cc)∧SndT call X (.Compare a [op,op'] [b,c] pos) (.chn o o' ca cb cc):=by
  obtain⟨r,hr,hq⟩:=ho
  obtain⟨r',hr',hq'⟩:=ho'
  obtain⟨ta,pa,qa⟩:=ha
  obtain⟨tb,pb,qb⟩:=hb
  obtain⟨tc,pc,qc⟩:=hc
  have main:∀(Ge H:Hp) (F:Fz) (σ:En) (τ:L2.St) (z:R) (Q:VK),evE call σ (.chn o o' ca cb cc)=some z→SR X.K Ge H F σ τ→(∀v H' F',Gr H F H' F'→RR X.K H H' F' z v→Q v H')→tChain r r' ta tb tc τ H Q:=λGe H F σ τ z Q hz hs k=>by
    rw [evE_chn] at hz
    obtain⟨x,ex,hz⟩:=bind1 hz
    obtain⟨y,ey,hz⟩:=bind1 hz
    obtain⟨w,ew,hz⟩:=bind1 hz
    obtain⟨b1,rfl⟩:=hb2 _ _ _ ew
    refine read2 (a:=a) (b:=b) qa qb ex ey hs λv u H2 F2 g rx ry=>?_
    refine hq H2 F2 x y v u _ _ ew g.dom rx ry λu1 H' F' g' rr=>⟨b1,rr,?_⟩
    cases b1 with
    | false =>
      cases hz
      rw [if_neg (by decide)]
      exact k _ H' F' (g.trans g') rfl
    | true =>
      rw [if_pos rfl]
      obtain⟨w2,ew2,hz⟩:=bind1 hz
      refine qc Ge H' F' σ τ w2 _ ew2 (hs.grow (g.trans g')) λv3 H4 F4 g4 r4=>?_
      exact hq' H4 F4 y w2 u v3 z Q hz g4.dom (ry.grow (g'.trans g4)) r4 λu5 H5 F5 g5 rr5=>k u5 H5 F5 (((g.trans g').trans g4).trans g5) (rr5.back ((g.trans g').trans g4).same)
  constructor
  · exact⟨_,pe_chain hr hr' pa pb pc hm,main⟩
  · refine⟨_,pt_chain hr hr' pa pb pc hm,λGe H F σ τ xx bb Q hz hs k=>?_⟩
    exact main Ge H F σ τ (xx,.bl bb) _ hz hs λv H' F' g rr=>by
      cases xx with
      | false=>exact⟨bb,rr,k H' F' g⟩
      | true=>obtain⟨p,ds,vs,z,_⟩:=rr;cases z
theorem vals_any (i:Int):∀{is:List Int}{us:List Value},Vals (is.map V.int) us→(∀u∈us,∃j t,u=Value.int j t)∧us.any (λu=>match u with|.int j _=>j == i|_=>false)=is.any (· == i)
  | [],us,h=>by cases h;exact⟨(λ_ z=>nomatch z),rfl⟩
  | n::is,us,h=>by
    cases h with
    | cons h1 h2 =>
      obtain⟨t,rfl⟩:=h1
      obtain⟨q1,q2⟩:=vals_any i h2
      refine⟨λu hu=>?_,?_⟩
      · rcases List.mem_cons.mp hu with rfl|hu
        · exact⟨n,t,rfl⟩
        · exact q1 u hu
      · rw [List.any_cons,List.any_cons,q2]
theorem op_inT (n:Bool):OpR X (compareOp (if n then .NotIn else .In)) (λx y H Q=>∃(i:Int) (p:Addr) (is:List Int),x=.int i∧y=.ref p∧SqT X.K H p (is.map V.int)∧Q (.bl (if n then !(is.any (· == i)) else is.any (· == i))) H):=by
  intro pins s σ H x y v u Q I rx ry h
  obtain⟨i,p,is,rfl,rfl,hp,q⟩:=h
  obtain⟨t,rfl⟩:=rx
  cases ry
  obtain⟨its,rv,ht,_⟩:=I.tuple hp
  obtain⟨q1,q2⟩:=vals_any i rv
  have he:∀y,y∈its.toArray→SeqAt.EqAt X.A.in1 s y (.int i t) ((λu:Value=>match u with|.int j _=>j == i|_=>false) y):=λy hy=>by
    obtain⟨j,t',rfl⟩:=q1 y (by simpa using hy)
    exact SeqAt.EqAt.int_int _ _ _ _
  have ea:its.toArray.any (λu:Value=>match u with|.int j _=>j == i|_=>false)=is.any (· == i):=by rw [List.any_toArray];exact q2
  cases n with
  | false=>exact SeqAt.in_tupleAt _ ht he ⟨.bl _,H,I,by rw [ea];rfl,q⟩
  | true=>exact SeqAt.notIn_tupleAt _ ht he ⟨.bl _,H,I,by rw [ea];rfl,q⟩
theorem opd_in (n:Bool):OpD X (compareOp (if n then .NotIn else .In)) (inD n):=by
  refine⟨_,op_inT n,λH F d e x y z Q hz dom hx hy k=>?_⟩
  cases d with
  | int i =>
    cases e with
    | tup ys =>
      obtain⟨a,vs,rfl,hl,hr⟩:=hy.tup
      have hz:(intsOf ys).map (λis=>(false,D.bl (if n then !(is.any (· == i)) else is.any (· == i))))=some z:=hz
      cases hi:intsOf ys with
      | none=>rw [hi] at hz;cases hz
      | some is =>
        rw [hi] at hz
        cases hz
        obtain rfl:=RDs.ints hr hi
        exact⟨i,a,is,hx.int,rfl,hl,k _ H F (Gr.refl dom) rfl⟩
    | _=>cases hz
  | _=>cases e<;>cases hz
theorem laid_lst {K:PySem.W.Frag}{H:Hp}{F:Fz}{ds:List D}{vs:List V}{p:Addr}(dom:∀a,H a=none→¬F a) (hp:H p=none) (h:RDs K H F ds vs) :
    Gr H F (upd H p (.lst vs)) F∧RR K H (upd H p (.lst vs)) F (true,.lst ds) (.ref p):=by
  have g:Gr H F (upd H p (.lst vs)) F:=Gr.laid dom hp
  exact⟨g,p,ds,vs,rfl,rfl,hp,dom p hp,upd_same,RDs.mono g.keep h⟩
theorem laid_tup {K:PySem.W.Frag}{H:Hp}{F:Fz}{ds:List D}{vs:List V}{p:Addr}(dom:∀a,H a=none→¬F a) (hp:H p=none) (h:RDs K H F ds vs) :
    Gr H F (upd H p (.tup vs)) F∧RR K H (upd H p (.tup vs)) F (false,.tup ds) (.ref p):=by
  have g:Gr H F (upd H p (.tup vs)) F:=Gr.laid dom hp
  exact⟨g,p,vs,rfl,SqT.of upd_same,RDs.mono g.keep h⟩
theorem opd_int {f:Value→Value→Sem Value}{b:D→D→Option R}{Cc:Int→Int→Prop}{gg:Int→Int→V}{kk:Int→Int→D}(h:OpR X f (rI Cc gg))
    (hb:∀d e z,b d e=some z→∃i j,d=.int i∧e=.int j∧Cc i j∧z=(false,kk i j)) (hk:∀(H:Hp) (F:Fz) i j,RD X.K H F (kk i j) (gg i j)):OpD X f b:=by
  refine⟨_,h,λH F d e x y z Q hz dom hx hy k=>?_⟩
  obtain⟨i,j,rfl,rfl,hc,rfl⟩:=hb d e z hz
  exact⟨i,j,hx.int,hy.int,hc,k _ H F (Gr.refl dom) (hk H F i j)⟩
theorem opd_int0 {f:Value→Value→Sem Value}{b:D→D→Option R}{gg:Int→Int→V}{kk:Int→Int→D}(h:OpR X f (rI0 gg))
    (hb:∀d e z,b d e=some z→∃i j,d=.int i∧e=.int j∧z=(false,kk i j)) (hk:∀(H:Hp) (F:Fz) i j,RD X.K H F (kk i j) (gg i j)):OpD X f b:=by
  refine⟨_,h,λH F d e x y z Q hz dom hx hy k=>?_⟩
  obtain⟨i,j,rfl,rfl,rfl⟩:=hb d e z hz
  exact⟨i,j,hx.int,hy.int,k _ H F (Gr.refl dom) (hk H F i j)⟩
theorem ite_some {α:Type}{c:Prop} [Decidable c] {a b:α}(h:(if c then some a else none)=some b):c∧a=b:=by
  by_cases hc:c
  · rw [if_pos hc] at h;exact⟨hc,Option.some.inj h⟩
  · rw [if_neg hc] at h;cases h
theorem opd_sub:OpD X (binaryOp .Sub) (binD .sub):=opd_int0 (kk:=λi j=>.int (i - j)) op_sub (λd e z h=>by
  cases d<;>cases e<;>first|(cases h;exact⟨_,_,rfl,rfl,rfl⟩)|cases h) λ_ _ _ _=>rfl
theorem opd_fdiv:OpD X (binaryOp .FloorDiv) (binD .fdiv):=opd_int (kk:=λi j=>.int (i.fdiv j)) op_fdivD (λd e z h=>by
  cases d<;>cases e<;>first|(obtain⟨h1,rfl⟩:=ite_some h;exact⟨_,_,rfl,rfl,h1,rfl⟩)|cases h) λ_ _ _ _=>rfl
theorem opd_mod:OpD X (binaryOp .Mod) (binD .mod):=opd_int (kk:=λi j=>.int (i.fmod j)) op_modD (λd e z h=>by
  cases d<;>cases e<;>first|(obtain⟨h1,rfl⟩:=ite_some h;exact⟨_,_,rfl,rfl,h1,rfl⟩)|cases h) λ_ _ _ _=>rfl
theorem opd_pow:OpD X (binaryOp .Pow) (binD .pow):=opd_int (kk:=λi j=>.int (i^j.toNat)) op_powD (λd e z h=>by
  cases d<;>cases e<;>first|(obtain⟨h1,rfl⟩:=ite_some h;exact⟨_,_,rfl,rfl,h1,rfl⟩)|cases h) λ_ _ _ _=>rfl
theorem opd_shl:OpD X (binaryOp .LShift) (binD .shl):=opd_int (kk:=λi j=>.int (i * 2^j.toNat)) op_shl (λd e z h=>by
  cases d<;>cases e<;>first|(obtain⟨h1,rfl⟩:=ite_some h;have h2:=of_decide_eq_true h1;exact⟨_,_,rfl,rfl,⟨h2.1,by omega,h2.2.2⟩,rfl⟩)|cases h) λ_ _ _ _=>rfl
theorem opd_shr:OpD X (binaryOp .RShift) (binD .shr):=opd_int (kk:=λi j=>.int (i / 2^j.toNat)) op_shr (λd e z h=>by
  cases d<;>cases e<;>first|(obtain⟨h1,rfl⟩:=ite_some h;exact⟨_,_,rfl,rfl,h1,rfl⟩)|cases h) λ_ _ _ _=>rfl
theorem band_nn {x y:Int}(h1:0≤x) (h2:0≤y):Builtin.bitAnd x y=((x.toNat &&& y.toNat:Nat):Int):=by
  unfold Builtin.bitAnd;rw [decide_eq_true h1,decide_eq_true h2]
theorem bor_nn {x y:Int}(h1:0≤x) (h2:0≤y):Builtin.bitOr x y=((x.toNat ||| y.toNat:Nat):Int):=by
  have n:∀z:Int,Builtin.bitNot z=-z - 1:=λz=>by simp only [Builtin.bitNot]<;>omega
  unfold Builtin.bitOr Builtin.bitAnd
  rw [decide_eq_false (show ¬0≤Builtin.bitNot x by rw [n];omega),decide_eq_false (show ¬0≤Builtin.bitNot y by rw [n];omega)]
  simp only
  rw [n,n,n,n,n,n]
  rw [show -(-x - 1) - 1=x by omega,show -(-y - 1) - 1=y by omega]
  omega
theorem op_bandD:OpR X (binaryOp .BitAnd) (rI (λi j=>0≤i∧0≤j) λi j=>.int ((i.toNat &&& j.toNat:Nat):Int)):=opI λi j _ _ _ _ _ hc q=>and_int (by rw [band_nn hc.1 hc.2];exact q)
theorem op_borD:OpR X (binaryOp .BitOr) (rI (λi j=>0≤i∧0≤j) λi j=>.int ((i.toNat ||| j.toNat:Nat):Int)):=opI λi j _ _ _ _ _ hc q=>or_int (by rw [bor_nn hc.1 hc.2];exact q)
theorem opd_band:OpD X (binaryOp .BitAnd) (binD .band):=opd_int (kk:=λi j=>.int ((i.toNat &&& j.toNat:Nat):Int)) op_bandD (λd e z h=>by
  cases d<;>cases e<;>first|(obtain⟨h1,rfl⟩:=ite_some h;exact⟨_,_,rfl,rfl,h1,rfl⟩)|cases h) λ_ _ _ _=>rfl
theorem opd_bor:OpD X (binaryOp .BitOr) (binD .bor):=opd_int (kk:=λi j=>.int ((i.toNat ||| j.toNat:Nat):Int)) op_borD (λd e z h=>by
  cases d<;>cases e<;>first|(obtain⟨h1,rfl⟩:=ite_some h;exact⟨_,_,rfl,rfl,h1,rfl⟩)|cases h) λ_ _ _ _=>rfl
theorem op_bxorD:OpR X (binaryOp .BitXor) (rI (λi j=>0≤i∧0≤j) λi j=>.int (((i.toNat ||| j.toNat:Nat):Int) - ((i.toNat &&& j.toNat:Nat):Int))):=opI λi j _ _ _ _ _ hc q=>xor_int (by unfold Builtin.bitXor;rw [bor_nn hc.1 hc.2,band_nn hc.1 hc.2];exact q)
theorem opd_bxor:OpD X (binaryOp .BitXor) (binD .bxor):=opd_int (kk:=λi j=>.int (((i.toNat ||| j.toNat:Nat):Int) - ((i.toNat &&& j.toNat:Nat):Int))) op_bxorD (λd e z h=>by
  cases d<;>cases e<;>first|(obtain⟨h1,rfl⟩:=ite_some h;exact⟨_,_,rfl,rfl,h1,rfl⟩)|cases h) λ_ _ _ _=>rfl
theorem opd_mul:OpD X (binaryOp .Mult) (binD .mul):=by
  refine⟨_,op_mulD.or op_repD,λH F d e x y z Q hz dom hx hy k=>?_⟩
  cases d with
  | int i =>
    cases e with
    | int j=>obtain⟨h1,rfl⟩:=ite_some hz;exact .inl ⟨i,j,hx.int,hy.int,h1,k _ H F (Gr.refl dom) rfl⟩
    | _=>cases hz
  | lst xs =>
    cases e with
    | int j =>
      obtain⟨⟨h1,h2,h3⟩,rfl⟩:=ite_some hz
      obtain⟨a,vs,rfl,hl,hr⟩:=hx.lst
      refine .inr ⟨a,j,vs,rfl,hy.int,hl,by omega,by omega,by rw [RDs.length hr];exact h1,λp hp=>?_⟩
      obtain⟨g,rr⟩:=laid_lst dom hp (RDs.rep hr j.toNat)
      exact k _ _ _ g rr
    | _=>cases hz
  | _=>cases e<;>cases hz
theorem opd_add:OpD X (binaryOp .Add) (binD .add):=by
  refine⟨_,(op_add.or (op_catD.or op_catT)).or (op_catN.or op_add_str),λH F d e x y z Q hz dom hx hy k=>?_⟩
  cases d with
  | int i =>
    cases e with
    | int j=>cases hz;exact .inl (.inl ⟨i,j,hx.int,hy.int,k _ H F (Gr.refl dom) rfl⟩)
    | _=>cases hz
  | str xs =>
    cases e with
    | str ys =>
      obtain⟨h1,rfl⟩:=ite_some hz
      exact .inr (.inr ⟨xs,ys,hx.str,hy.str,h1,k _ H F (Gr.refl dom) rfl⟩)
    | _=>cases hz
  | lst xs =>
    cases e with
    | lst ys =>
      obtain⟨h1,rfl⟩:=ite_some hz
      obtain⟨a,vs,rfl,hl,hr⟩:=hx.lst
      obtain⟨a2,vs2,rfl,hl2,hr2⟩:=hy.lst
      refine .inl (.inr (.inl ⟨a,a2,vs,vs2,rfl,rfl,hl,hl2,by rw [RDs.length hr,RDs.length hr2];exact h1,λp hp=>?_⟩))
      obtain⟨g,rr⟩:=laid_lst dom hp (RDs.append hr hr2)
      exact k _ _ _ g rr
    | _=>cases hz
  | tup xs =>
    cases e with
    | tup ys =>
      cases xs with
      | nil =>
        cases hz
        obtain⟨a,vs,rfl,hl,hr⟩:=hx.tup
        obtain⟨a2,vs2,rfl,hl2,hr2⟩:=hy.tup
        have hr:vs=[]:=hr
        subst hr
        exact .inr (.inl ⟨a,a2,vs2,rfl,rfl,hl,hl2,k _ H F (Gr.refl dom) ⟨a2,vs2,rfl,hl2,hr2⟩⟩)
      | cons x0 xs =>
        obtain⟨h1,rfl⟩:=ite_some hz
        obtain⟨a,vs,rfl,hl,hr⟩:=hx.tup
        obtain⟨a2,vs2,rfl,hl2,hr2⟩:=hy.tup
        have hv:vs≠[]:=λz=>by have:=RDs.length hr;rw [z] at this;cases this
        refine .inl (.inr (.inr ⟨a,a2,vs,vs2,rfl,rfl,hl,hl2,hv,by rw [RDs.length hr,RDs.length hr2];exact h1,λz=>?_,λ_ p hp=>?_⟩))
        · subst z
          have e0:ys=[]:=by have:=RDs.length hr2;exact List.length_eq_zero_iff.mp this.symm
          subst e0
          rw [List.append_nil] at k
          exact k _ H F (Gr.refl dom) ⟨a,vs,rfl,hl,hr⟩
        · obtain⟨g,rr⟩:=laid_tup dom hp (RDs.append hr hr2)
          exact k _ _ _ g rr
    | _=>cases xs<;>cases hz
  | _=>cases e<;>cases hz
theorem opd_of {op:Operator}{o:BOp}(h:bopOf op=some o):OpD X (binaryOp op) (binD o):=by
  cases op<;>first|(cases h;first|exact opd_add|exact opd_sub|exact opd_mul|exact opd_fdiv|exact opd_mod|exact opd_pow|exact opd_shl|exact opd_shr|exact opd_band|exact opd_bor|exact opd_bxor)|cases h
theorem cmpd_of {op:CmpOp}{o:COp}(hu:X.A.units+20<cLine) (h:copOf op=some o):OpD X (compareOp op) (cmpD o):=by
  cases op with
  | Eq =>
    cases h
    refine⟨_,op_eqD hu,λH F d e x y z Q hz dom hx hy k=>?_⟩
    obtain⟨h1,rfl⟩:=ite_some (show (if (shal 20 d||shal 20 e)=true then some (false,D.bl (eqD d e)) else none)=some z from hz)
    exact⟨d,e,F,hx,hy,h1,k _ H F (Gr.refl dom) rfl⟩
  | NotEq =>
    cases h
    refine⟨_,op_neD hu,λH F d e x y z Q hz dom hx hy k=>?_⟩
    obtain⟨h1,rfl⟩:=ite_some (show (if (shal 20 d||shal 20 e)=true then some (false,D.bl (!eqD d e)) else none)=some z from hz)
    exact⟨d,e,F,hx,hy,h1,k _ H F (Gr.refl dom) rfl⟩
  | Lt=>cases h;exact opd_int0 (kk:=λi j=>.bl (decide (i<j))) op_lt (λd e z h=>by cases d<;>cases e<;>first|(cases h;exact⟨_,_,rfl,rfl,rfl⟩)|cases h) λ_ _ _ _=>rfl
  | LtE=>cases h;exact opd_int0 (kk:=λi j=>.bl (decide (i≤j))) op_le (λd e z h=>by cases d<;>cases e<;>first|(cases h;exact⟨_,_,rfl,rfl,rfl⟩)|cases h) λ_ _ _ _=>rfl
  | Gt=>cases h;exact opd_int0 (kk:=λi j=>.bl (decide (j<i))) op_gt (λd e z h=>by cases d<;>cases e<;>first|(cases h;exact⟨_,_,rfl,rfl,rfl⟩)|cases h) λ_ _ _ _=>rfl
  | GtE=>cases h;exact opd_int0 (kk:=λi j=>.bl (decide (j≤i))) op_ge (λd e z h=>by cases d<;>cases e<;>first|(cases h;exact⟨_,_,rfl,rfl,rfl⟩)|cases h) λ_ _ _ _=>rfl
  | In=>cases h;exact opd_in false
  | NotIn=>cases h;exact opd_in true
  | _=>cases h
theorem in_bl {n:Bool}{d e:D}{z:R}(h:inD n d e=some z):∃c,z=(false,.bl c):=by
  cases d with
  | int i =>
    cases e with
    | tup ys =>
      have h:(intsOf ys).map (λis=>(false,D.bl (if n then !(is.any (· == i)) else is.any (· == i))))=some z:=h
      cases hi:intsOf ys with
      | none=>rw [hi] at h;cases h
      | some is=>rw [hi] at h;cases h;exact⟨_,rfl⟩
    | _=>cases h
  | _=>cases e<;>cases h
theorem cmp_bl {o:COp}{d e:D}{z:R}(h:cmpD o d e=some z):∃c,z=(false,.bl c):=by
  cases o with
  | eq=>obtain⟨_,rfl⟩:=ite_some (show (if (shal 20 d||shal 20 e)=true then some (false,D.bl (eqD d e)) else none)=some z from h);exact⟨_,rfl⟩
  | ne=>obtain⟨_,rfl⟩:=ite_some (show (if (shal 20 d||shal 20 e)=true then some (false,D.bl (!eqD d e)) else none)=some z from h);exact⟨_,rfl⟩
  | isin=>exact in_bl h
  | notin=>exact in_bl h
  | _=>cases d<;>cases e<;>first|(cases h;exact⟨_,rfl⟩)|cases h
end
end Dw
namespace Dw
open PySem PySem.Spec PyProof.Rows L2
section
variable {call:Nat→List D→Option R}{G:Gx}{k:Nat}{X:Cx}{sc:Scope}{N:List Str}
theorem isd_of (neg:Bool):OpD X (compareOp (if neg then .IsNot else .Is)) (isD neg):=by
  refine⟨_,op_isD neg,λH F d e x y z Q hz dom hx hy k=>?_⟩
  obtain⟨b,rfl⟩:∃b,z=(false,.bl b):=by
    cases d<;>cases e<;>first|(cases hz;exact⟨_,rfl⟩)|cases hz
  exact⟨d,e,F,b,hx,hy,hz,k _ H F (Gr.refl dom) rfl⟩
theorem is_bl {neg:Bool}{d e:D}{z:R}(h:isD neg d e=some z):∃c,z=(false,.bl c):=by
  cases d<;>cases e<;>first|(cases h;exact⟨_,rfl⟩)|cases h
theorem snd_is {a:Expr}{ca:C}{op:CmpOp}(neg:Bool) {c:Const}{d:D}{j:Nat}{pos pos':Pos}(hop:op=if neg then .IsNot else .Is) (hc:kOf c=some d) (ha:SndP call X a ca) :
    SndE call X (.Compare a [op] [.Constant c j pos'] pos) (.isC neg ca d)∧SndT call X (.Compare a [op] [.Constant c j pos'] pos) (.isC neg ca d):=by
  subst hop
  obtain⟨r,hr,hq⟩:=isd_of (X:=X) neg
  obtain⟨ta,pa,qa⟩:=ha
  obtain⟨tb,pb,qb⟩:=(snd_const (call:=call) (X:=X) (j:=j) (pos:=pos') hc).look (λi z=>nomatch z)
  have hm:behindInMarks (if neg then CmpOp.IsNot else CmpOp.Is) (.Constant c j pos')=false:=by cases neg<;>exact nomark _
  constructor
  · refine⟨_,pe_cmpR hr pa pb hm,λGe H F σ τ z Q hz hs k=>?_⟩
    obtain⟨x,ex,ez⟩:=bind1 (by simpa only [evE_isC] using hz)
    refine read2 (call:=call) (cb:=.k d) (a:=a) (b:=a) (y:=d) qa qb ex rfl hs λv w H2 F2 g rx ry=>?_
    exact hq H2 F2 x d v w z Q ez g.dom rx ry λu H' F' g' rr=>k u H' F' (g.trans g') (rr.back g.same)
  · refine⟨_,pt_cmpR hr pa pb hm,λGe H F σ τ xx bb Q hz hs k=>?_⟩
    obtain⟨x,ex,ez⟩:=bind1 (by simpa only [evE_isC] using hz)
    refine read2 (call:=call) (cb:=.k d) (a:=a) (b:=a) (y:=d) qa qb ex rfl hs λv w H2 F2 g rx ry=>?_
    obtain⟨c,ec⟩:=is_bl ez
    cases ec
    exact hq H2 F2 x d v w _ _ ez g.dom rx ry λu H' F' g' rr=>⟨bb,rr,k H' F' (g.trans g')⟩
theorem snd_neg {a:Expr}{ca:C}{pos:Pos}(ha:SndP call X a ca):SndE call X (.UnaryOp .USub a pos) (.neg ca):=by
  obtain⟨ta,pa,qa⟩:=ha
  refine⟨_,pe_un un_neg pa,λGe H F σ τ z Q hz hs k=>?_⟩
  obtain⟨x,ex,ez⟩:=bind1 (by simpa only [evE_neg] using hz)
  refine qa Ge H F σ τ x _ ex hs λv H1 F1 g rx=>?_
  cases x with
  | int i=>cases ez;exact⟨i,rx.int,k _ H1 F1 g rfl⟩
  | _=>cases ez
theorem SndE.test {e:Expr}{c:C}(h:SndE call X e c) (he:∀whole,isTrue e X.env whole=(do let v ←whole;standAt e.pos;holding [v] (truthy v))):SndT call X e c:=by
  obtain⟨t,p,q⟩:=h
  refine⟨_,pt_val p he,λGe H F σ τ x b Q hz hs k=>?_⟩
  refine q Ge H F σ τ (x,.bl b) _ hz hs λv H' F' g rr=>?_
  cases x with
  | false=>exact⟨b,rr,k H' F' g⟩
  | true=>obtain⟨_,_,_,e,_⟩:=rr;cases e
theorem snd_not {a:Expr}{ca:C}{pos:Pos}(ha:SndE call X a ca) (ht:SndT call X a ca):SndE call X (.UnaryOp .Not a pos) (.not ca)∧SndT call X (.UnaryOp .Not a pos) (.not ca):=by
  have inv:∀{σ:En} {z:R},evE call σ (.not ca)=some z→∃x b,evE call σ ca=some (x,.bl b)∧z=(false,.bl (!b)):=λ{σ z} hz=>by
    obtain⟨⟨x,d⟩,e1,e2⟩:=bind1 (by simpa only [evE_not] using hz)
    cases d with
    | bl b=>cases e2;exact⟨x,b,e1,rfl⟩
    | _=>cases e2
  constructor
  · obtain⟨t,p,q⟩:=ha
    refine⟨_,pe_not p,λGe H F σ τ z Q hz hs k=>?_⟩
    obtain⟨x,b,e1,rfl⟩:=inv hz
    refine q Ge H F σ τ _ _ e1 hs λv H' F' g rr=>?_
    cases x with
    | false=>exact⟨b,rr,k _ H' F' g rfl⟩
    | true=>obtain⟨_,_,_,e,_⟩:=rr;cases e
  · obtain⟨t,p,q⟩:=ht
    refine⟨_,pt_not p,λGe H F σ τ x b Q hz hs k=>?_⟩
    obtain⟨x',b',e1,e2⟩:=inv hz
    cases e2
    exact q Ge H F σ τ x' b' _ e1 hs λH' F' g=>k H' F' g
variable (call X) in
noncomputable def SndW (op:BoolOp) (es:List Expr) (c:C):Prop:=∀pos:Pos,SndE call X (.BoolOp op es pos) c∧∃t:TT,PW X (.BoolOp op es pos) t ∧
  ∀(Ge H:Hp) (F:Fz) (σ:En) (τ:L2.St) (x b:Bool) (Q:Bool→Hp→Prop),evE call σ c=some (x,.bl b)→SR X.K Ge H F σ τ→(∀H' F',Gr H F H' F'→Q b H')→t τ H Q
theorem SndW.test {op:BoolOp}{es:List Expr}{c:C}{pos:Pos}(h:SndW call X op es c):SndT call X (.BoolOp op es pos) c:=by
  obtain⟨_,t,p,q⟩:=h pos
  exact⟨t,p.pt,q⟩
theorem snd_one {op:BoolOp}{a:Expr}{ca:C}(ha:SndE call X a ca) (ht:SndT call X a ca):SndW call X op [a] ca:=λpos=>by
  obtain⟨t,p,q⟩:=ha
  obtain⟨t',p',q'⟩:=ht
  refine⟨⟨t,pe_one p,q⟩,?_⟩
  cases op with
  | And=>exact⟨t',pw_and1 p',q'⟩
  | Or=>exact⟨t',pw_or1 p',q'⟩
theorem bl_of {K:PySem.W.Frag}{H H':Hp}{F':Fz}{x b:Bool}{v:V}(h:RR K H H' F' (x,.bl b) v):v=.bl b:=by
  cases x with
  | false=>exact h
  | true=>obtain⟨_,_,_,e,_⟩:=h;cases e
theorem snd_and {a b:Expr}{rest:List Expr}{ca cb:C}(ha:SndE call X a ca) (hta:SndT call X a ca) (hb:SndW call X .And (b::rest) cb):SndW call X .And (a::b::rest) (.and ca cb):=λpos=>by
  obtain⟨hb1,tb',pb',qb'⟩:=hb pos
  have inv:∀{σ:En} {z:R},evE call σ (.and ca cb)=some z→∃x c,evE call σ ca=some (x,.bl c)∧(if c=true then evE call σ cb=some z else z=(false,.bl false)):=λ{σ z} hz=>by
    obtain⟨⟨x,d⟩,e1,e2⟩:=bind1 (by simpa only [evE_and] using hz)
    cases d with
    | bl c=>cases c with
      | true=>exact⟨x,true,e1,e2⟩
      | false=>cases e2;exact⟨x,false,e1,rfl⟩
    | _=>cases e2
  constructor
  · obtain⟨ta,pa,qa⟩:=ha
    obtain⟨tb,pb,qb⟩:=hb1
    refine⟨_,pe_and pa pb,λGe H F σ τ z Q hz hs k=>?_⟩
    obtain⟨x,c,e1,e2⟩:=inv hz
    refine qa Ge H F σ τ _ _ e1 hs λv H' F' g rr=>⟨c,bl_of rr,?_⟩
    cases c with
    | true=>exact qb Ge H' F' σ τ z Q e2 (hs.grow g) λu H2 F2 g2 r2=>k u H2 F2 (g.trans g2) (r2.back g.same)
    | false=>have e2':z=(false,.bl false):=e2;subst e2';exact k _ H' F' g rfl
  · obtain⟨ta,pa,qa⟩:=hta
    refine⟨_,pw_and pa pb',λGe H F σ τ x b Q hz hs k=>?_⟩
    obtain⟨x',c,e1,e2⟩:=inv hz
    refine qa Ge H F σ τ x' c _ e1 hs λH' F' g=>?_
    cases c with
    | true=>exact qb' Ge H' F' σ τ x b Q e2 (hs.grow g) λH2 F2 g2=>k H2 F2 (g.trans g2)
    | false=>have e2':(x,D.bl b)=(false,.bl false):=e2;cases e2';exact k H' F' g
theorem snd_or {a b:Expr}{rest:List Expr}{ca cb:C}(ha:SndE call X a ca) (hta:SndT call X a ca) (hb:SndW call X .Or (b::rest) cb):SndW call X .Or (a::b::rest) (.or ca cb):=λpos=>by
  obtain⟨hb1,tb',pb',qb'⟩:=hb pos
  have inv:∀{σ:En} {z:R},evE call σ (.or ca cb)=some z→∃x c,evE call σ ca=some (x,.bl c)∧(if c=true then z=(false,.bl true) else evE call σ cb=some z):=λ{σ z} hz=>by
    obtain⟨⟨x,d⟩,e1,e2⟩:=bind1 (by simpa only [evE_or] using hz)
    cases d with
    | bl c=>cases c with
      | false=>exact⟨x,false,e1,e2⟩
      | true=>cases e2;exact⟨x,true,e1,rfl⟩
    | _=>cases e2
  constructor
  · obtain⟨ta,pa,qa⟩:=ha
    obtain⟨tb,pb,qb⟩:=hb1
    refine⟨_,pe_or pa pb,λGe H F σ τ z Q hz hs k=>?_⟩
    obtain⟨x,c,e1,e2⟩:=inv hz
    refine qa Ge H F σ τ _ _ e1 hs λv H' F' g rr=>⟨c,bl_of rr,?_⟩
    cases c with
    | false=>exact qb Ge H' F' σ τ z Q e2 (hs.grow g) λu H2 F2 g2 r2=>k u H2 F2 (g.trans g2) (r2.back g.same)
    | true=>have e2':z=(false,.bl true):=e2;subst e2';exact k _ H' F' g rfl
  · obtain⟨ta,pa,qa⟩:=hta
    refine⟨_,pw_or pa pb',λGe H F σ τ x b Q hz hs k=>?_⟩
    obtain⟨x',c,e1,e2⟩:=inv hz
    refine qa Ge H F σ τ x' c _ e1 hs λH' F' g=>?_
    cases c with
    | false=>exact qb' Ge H' F' σ τ x b Q e2 (hs.grow g) λH2 F2 g2=>k H2 F2 (g.trans g2)
    | true=>have e2':(x,D.bl b)=(false,.bl true):=e2;cases e2';exact k H' F' g
theorem snd_ifx {t a b:Expr}{ct ca cb:C}{pos:Pos}(ht:SndT call X t ct) (ha:SndE call X a ca) (hb:SndE call X b cb):SndE call X (.IfExp t a b pos) (.ifx ct ca cb):=by
  obtain⟨tt,pt,qt⟩:=ht
  obtain⟨ta,pa,qa⟩:=ha
  obtain⟨tb,pb,qb⟩:=hb
  refine⟨_,pe_ifExp pt pa pb,λGe H F σ τ z Q hz hs k=>?_⟩
  obtain⟨⟨x,d⟩,e1,e2⟩:=bind1 (by simpa only [evE_ifx] using hz)
  cases d with
  | bl c =>
    refine qt Ge H F σ τ x c _ e1 hs λH' F' g=>?_
    cases c with
    | true=>exact iteT (qa Ge H' F' σ τ z Q e2 (hs.grow g) λu H2 F2 g2 r2=>k u H2 F2 (g.trans g2) (r2.back g.same))
    | false=>exact iteF (qb Ge H' F' σ τ z Q e2 (hs.grow g) λu H2 F2 g2 r2=>k u H2 F2 (g.trans g2) (r2.back g.same))
  | _=>cases e2
theorem pt_ifx {t a b:Expr}{tt ta tb:TT}{pos:Pos}(ht:PT X t tt) (ha:PT X a ta) (hb:PT X b tb):PT X (.IfExp t a b pos) (fun σ H Q=>tt σ H λc H1=>if c=true then ta σ H1 Q else tb σ H1 Q):=by
  intro pins s σ H Q I h
  rw [PySem.isTrue]
  refine wpAny_bind (thn (ht pins s σ H _ I h) λd s1 ⟨H1,I1,q1⟩=>?_)
  cases d with
  | true=>exact ha pins s1 σ H1 Q I1 q1
  | false=>exact hb pins s1 σ H1 Q I1 q1
theorem snd_ifxT {t a b:Expr}{ct ca cb:C}{pos:Pos}(ht:SndT call X t ct) (ha:SndT call X a ca) (hb:SndT call X b cb):SndT call X (.IfExp t a b pos) (.ifx ct ca cb):=by
  obtain⟨tt,pt,qt⟩:=ht
  obtain⟨ta,pa,qa⟩:=ha
  obtain⟨tb,pb,qb⟩:=hb
  refine⟨_,pt_ifx pt pa pb,λGe H F σ τ x b Q hz hs k=>?_⟩
  obtain⟨⟨x',d⟩,e1,e2⟩:=bind1 (by simpa only [evE_ifx] using hz)
  cases d with
  | bl c =>
    refine qt Ge H F σ τ x' c _ e1 hs λH' F' g=>?_
    cases c with
    | true=>exact iteT (qa Ge H' F' σ τ x b Q e2 (hs.grow g) λH2 F2 g2=>k H2 F2 (g.trans g2))
    | false=>exact iteF (qb Ge H' F' σ τ x b Q e2 (hs.grow g) λH2 F2 g2=>k H2 F2 (g.trans g2))
  | _=>cases e2
theorem ixN_eq (n:Nat) (i:Int):Dw.ixN n i=L2.ixN n i:=rfl
theorem ixD_get {K:PySem.W.Frag}{H:Hp}{F:Fz}{ds:List D}{vs:List V}{i:Int}{d:D}(h:RDs K H F ds vs) (e:ixD ds i=some d):∃v,atI vs i=some v∧RD K H F d v:=by
  obtain⟨j,e1,e2⟩:=bind1 e
  obtain⟨v,e3,e4⟩:=RDs.get h e2
  refine⟨v,?_,e4⟩
  unfold atI
  rw [RDs.length h,←ixN_eq,e1]
  exact e3
theorem snd_ix {a b:Expr}{ca cb:C}{pos:Pos}(hp:PlainIx b) (ha:SndP call X a ca) (hb:SndP call X b cb):SndE call X (.Subscript a b pos) (.ix ca cb):=by
  obtain⟨ta,pa,qa⟩:=ha
  obtain⟨tb,pb,qb⟩:=hb
  refine⟨_,pe_ix (ix_list.or ix_tup) pa pb hp,λGe H F σ τ z Q hz hs k=>?_⟩
  obtain⟨x,y,ex,ey,ez⟩:=bind2 (by simpa only [evE_ix] using hz)
  refine read2 (a:=a) (b:=b) qa qb ex ey hs λv w H2 F2 g rx ry=>?_
  cases x with
  | lst xs =>
    cases y with
    | int i =>
      obtain⟨d,e1,e2⟩:=Option.map_eq_some_iff.mp ez
      subst e2
      obtain⟨p,vs,rfl,hl,hr⟩:=rx.lst
      obtain⟨u,e3,e4⟩:=ixD_get hr e1
      exact .inl ⟨p,vs,i,u,rfl,ry.int,hl,e3,k u H2 F2 g e4⟩
    | _=>cases ez
  | tup xs =>
    cases y with
    | int i =>
      obtain⟨d,e1,e2⟩:=Option.map_eq_some_iff.mp ez
      subst e2
      obtain⟨p,vs,rfl,hl,hr⟩:=rx.tup
      obtain⟨u,e3,e4⟩:=ixD_get hr e1
      exact .inr ⟨p,vs,i,u,rfl,ry.int,hl,e3,k u H2 F2 g e4⟩
    | _=>cases ez
  | _=>cases y<;>cases ez
theorem cutAt_eq (n d:Nat) (o:Option Int):Dw.cutAt n d o=HT.sIx n d o:=by
  cases o with
  | none=>rfl
  | some v =>
    have h:=HT.clip_eq v n d
    unfold Dw.cutAt
    by_cases hv:v<0
    · simp only [hv,if_true] at h ⊢;omega
    · simp only [hv,if_false] at h ⊢;omega
theorem cut_rel {K:PySem.W.Frag}{H:Hp}{F:Fz}{ds:List D}{vs:List V}(h:RDs K H F ds vs) (l u:Option Int):RDs K H F (cutD ds l u) (cutV vs l u):=by
  unfold cutD cutV
  rw [RDs.length h,cutAt_eq,cutAt_eq]
  exact RDs.take _ (RDs.drop _ h)
theorem snd_sl {a:Expr}{lo hi:Option Expr}{ca:C}{cl ch:Option C}{p2 pos:Pos}(ha:SndP call X a ca) (hl:SndO call X lo cl) (hh:SndO call X hi ch):SndE call X (.Subscript a (.Slice lo hi none p2) pos) (.sl ca cl ch):=by
  obtain⟨ta,pa,qa⟩:=ha
  obtain⟨tl,pl,ql⟩:=hl
  obtain⟨th,ph,qh⟩:=hh
  refine⟨_,pe_slice ((sl_list.or sl_tup).or sl_all) pa pl ph,λGe H F σ τ z Q hz hs k=>?_⟩
  obtain⟨x,ex,hz⟩:=bind1 (by simpa only [evE_sl] using hz)
  obtain⟨l,el,hz⟩:=bind1 hz
  obtain⟨u,eu,hz⟩:=bind1 hz
  refine qa Ge H F σ τ x _ ex hs λv H1 F1 g1 rx=>?_
  refine ql Ge H1 F1 σ τ l _ el (hs.grow g1) λH2 F2 g2=>?_
  refine qh Ge H2 F2 σ τ u _ eu ((hs.grow g1).grow g2) λH3 F3 g3=>?_
  have g:=(g1.trans g2).trans g3
  have rx3:=(rx.grow g2).grow g3
  cases x with
  | lst xs =>
    cases hz
    obtain⟨p,vs,rfl,hl',hr⟩:=rx3.lst
    refine .inl (.inl ⟨p,vs,rfl,hl',λq hq=>?_⟩)
    obtain⟨g4,rr⟩:=laid_lst g.dom hq (cut_rel hr l u)
    exact k _ _ _ (g.trans g4) (rr.back g.same)
  | tup xs =>
    cases hz
    obtain⟨p,vs,rfl,hl',hr⟩:=rx3.tup
    by_cases hw:Dw.cutAt xs.length 0 l=0∧Dw.cutAt xs.length xs.length u=xs.length
    · refine .inr ⟨p,vs,rfl,hl',?_,?_⟩
      · rw [RDs.length hr,←cutAt_eq,←cutAt_eq];exact hw
      · have e:cutD xs l u=xs:=by
          unfold cutD
          rw [hw.1,hw.2]
          simp
        have e':(false,D.tup (cutD xs l u))=(false,D.tup xs):=by rw [e]
        refine k _ H3 F3 g ?_
        rw [e]
        exact⟨p,vs,rfl,hl',hr⟩
    · refine .inl (.inr ⟨p,vs,rfl,hl',?_,λq hq=>?_⟩)
      · rw [RDs.length hr,←cutAt_eq,←cutAt_eq];exact hw
      · obtain⟨g4,rr⟩:=laid_tup g.dom hq (cut_rel hr l u)
        exact k _ _ _ (g.trans g4) (rr.back g.same)
  | _=>cases hz
theorem RDs.rev {K:PySem.W.Frag}{H:Hp}{F:Fz}:∀{ds:List D}{vs:List V},RDs K H F ds vs→RDs K H F ds.reverse vs.reverse
  | [],vs,h=>by have h:vs=[]:=h;subst h;rfl
  | d::ds,vs,h=>by
    obtain⟨v,r,rfl,h1,h2⟩:=h
    rw [List.reverse_cons,List.reverse_cons]
    exact RDs.append (RDs.rev h2) ⟨v,[],rfl,h1,rfl⟩
theorem RDs.strs {K:PySem.W.Frag}{H:Hp}{F:Fz}:∀{ds:List D}{vs:List V}{ts:List Str},RDs K H F ds vs→strsOf ds=some ts→vs=ts.map V.str
  | [],vs,ts,h,e=>by have h:vs=[]:=h;cases e;exact h
  | d::ds,vs,ts,h,e=>by
    obtain⟨v,r,rfl,h1,h2⟩:=h
    cases d with
    | str x =>
      obtain⟨ts',e1,e2⟩:=Option.map_eq_some_iff.mp e
      subst e2
      have h1:v=.str x:=h1
      rw [h1,RDs.strs h2 e1];rfl
    | _=>cases e
noncomputable def SndJ (call:Nat→List D→Option R) (X:Cx) (es:List Expr) (cs:List C):Prop:=∃t:TJ,PJ X es t∧∀(Ge H:Hp) (F:Fz) (σ:En) (τ:L2.St) (acc out:Str) (ds:List D) (ts:List Str) (Q:Str→Hp→Prop),evA call σ cs=some ds→strsOf ds=some ts→catS acc ts=some out→SR X.K Ge H F σ τ→(∀H' F',Gr H F H' F'→Q out H')→t acc τ H Q
theorem snd_jnil:SndJ call X [] []:=⟨_,pj_nil,λGe H F σ τ acc out ds ts Q h1 h2 h3 hs k=>by
  cases h1
  cases h2
  cases h3
  exact k H F (Gr.refl hs.dom)⟩
theorem snd_jcons {e:Expr}{es:List Expr}{c:C}{cs:List C}(h:SndE call X e c) (hr:SndJ call X es cs):SndJ call X (e::es) (c::cs):=by
  obtain⟨t,p,q⟩:=h
  obtain⟨t',p',q'⟩:=hr
  refine⟨_,pj_cons p p',λGe H F σ τ acc out ds ts Q h1 h2 h3 hs k=>?_⟩
  obtain⟨r,er,h1⟩:=bind1 (by simpa only [evA_cons] using h1)
  obtain⟨ds',ed,h1⟩:=bind1 h1
  cases h1
  obtain⟨b,d⟩:=r
  cases d with
  | str x =>
    obtain⟨ts',e1,e2⟩:=Option.map_eq_some_iff.mp h2
    subst e2
    obtain⟨h4,h5⟩:=ite_some' (show (if (acc++x).length≤lim then catS (acc++x) ts' else none)=some out from h3)
    refine q Ge H F σ τ _ _ er hs λv H1 F1 g rr=>?_
    have hv:v=.str x:=by
      cases b with
      | false=>exact rr
      | true=>obtain⟨_,_,_,e,_⟩:=rr;cases e
    exact⟨x,hv,h4,q' Ge H1 F1 σ τ _ out ds' ts' _ ed e1 h5 (hs.grow g) λH' F' g2=>k H' F' (g.trans g2)⟩
  | _=>cases h2
where
  ite_some' {α:Type} {p:Prop} [Decidable p] {a:Option α} {z:α} (h:(if p then a else none)=some z):p∧a=some z:=by
    by_cases hp:p
    · rw [if_pos hp] at h;exact⟨hp,h⟩
    · rw [if_neg hp] at h;cases h
theorem snd_fv {e:Expr}{c:C}{pos:Pos}(h:SndP call X e c):SndE call X (.FormattedValue e (-1) none pos) (.bi .str [c]):=by
  obtain⟨t,p,q⟩:=h
  refine⟨_,pe_fv p,λGe H F σ τ z Q hz hs k=>?_⟩
  obtain⟨ds,e1,hz⟩:=bind1 (by simpa only [evE_bi] using hz)
  obtain⟨d,e2,e3⟩:=bind1 (by simpa only [evAP_cons] using e1)
  obtain⟨r,e4,e5⟩:=bind1 e3
  cases e4
  cases e5
  refine q Ge H F σ τ d _ e2 hs λv H1 F1 g rx=>?_
  cases d with
  | int i =>
    obtain⟨h1,rfl⟩:=ite_some (show (if i.natAbs<2^240 then some (false,D.str (istr i)) else none)=some z from hz)
    exact⟨i,rx.int,small_log h1,k _ H1 F1 g rfl⟩
  | _=>cases hz
where
  small_log {n:Nat} (h:n<2^240):n.log2<1920:=by
    by_cases h0:n=0
    · subst h0;decide
    · have:=(Nat.log2_lt h0).mpr h;omega
theorem snd_onone:SndO call X none none:=⟨_,po_none,λGe H F σ τ o Q ho hs k=>by cases ho;exact k H F (Gr.refl hs.dom)⟩
theorem snd_osome {e:Expr}{c:C}(h:SndP call X e c):SndO call X (some e) (some c):=by
  obtain⟨t,p,q⟩:=h
  refine⟨_,po_some p,λGe H F σ τ o Q ho hs k=>?_⟩
  obtain⟨x,ex,ez⟩:=bind1 (by simpa only [evO_some] using ho)
  refine q Ge H F σ τ x _ ex hs λv H1 F1 g rx=>?_
  cases x with
  | int i=>cases ez;exact⟨i,rx.int,k H1 F1 g⟩
  | _=>cases ez
theorem snd_anil:SndA call X [] []:=⟨_,pa_nil,λGe H F σ τ ds Q h hs k=>by cases h;exact k [] H F (Gr.refl hs.dom) rfl⟩
theorem snd_acons {e:Expr}{es:List Expr}{c:C}{cs:List C}(hst:starEach (e::es) X.env=(false,eval e X.env)::starEach es X.env) (h:SndE call X e c) (hr:SndA call X es cs):SndA call X (e::es) (c::cs):=by
  obtain⟨t,p,q⟩:=h
  obtain⟨t',p',q'⟩:=hr
  refine⟨_,pa_cons p p' hst,λGe H F σ τ ds Q hd hs k=>?_⟩
  obtain⟨r,er,hd⟩:=bind1 (by simpa only [evA_cons] using hd)
  obtain⟨ds',ed,hd⟩:=bind1 hd
  cases hd
  refine q Ge H F σ τ r _ er hs λv H1 F1 g rr=>?_
  obtain⟨F2,g2,rd⟩:=rr.fz g
  refine q' Ge H1 F2 σ τ ds' _ ed (hs.grow g2) λvs H3 F3 g3 rs=>?_
  exact k (v::vs) H3 F3 (g2.trans g3) ⟨v,vs,rfl,RD.mono g3.keep rd,rs⟩
theorem snd_ganil:SndGA call X [] []:=⟨_,pa_nil,λGe H F σ τ ds Q h hs k=>by cases h;exact k [] H F (Gr.refl hs.dom) rfl⟩
theorem RGs.grow {K:PySem.W.Frag}{H H1:Hp}{F F1:Fz}(g:Gr H F H1 F1):∀{ds:List D}{vs:List V},RGs K H F ds vs→RGs K H1 F1 ds vs
  | [],_,h=>h
  | _::_,_,⟨v,r,e,h1,h2⟩=>⟨v,r,e,h1.grow g,RGs.grow g h2⟩
theorem snd_gacons {e:Expr}{es:List Expr}{c:C}{cs:List C}(hst:starEach (e::es) X.env=(false,eval e X.env)::starEach es X.env) (h:SndAg call X e c) (hr:SndGA call X es cs):SndGA call X (e::es) (c::cs):=by
  obtain⟨t,p,q⟩:=h
  obtain⟨t',p',q'⟩:=hr
  refine⟨_,pa_cons p p' hst,λGe H F σ τ ds Q hd hs k=>?_⟩
  obtain⟨r,er,hd⟩:=bind1 (by simpa only [evG_cons] using hd)
  obtain⟨ds',ed,hd⟩:=bind1 hd
  cases hd
  refine q Ge H F σ τ r _ er hs λv H1 F1 g rr=>?_
  refine q' Ge H1 F1 σ τ ds' _ ed (hs.grow g) λvs H3 F3 g3 rs=>?_
  exact k (v::vs) H3 F3 (g.trans g3) ⟨v,vs,rfl,rr.grow g3,rs⟩
theorem snd_apnil:SndAP call X [] []:=⟨_,pa_nil,λGe H F σ τ ds Q h hs k=>by cases h;exact k [] H F (Gr.refl hs.dom) rfl⟩
theorem snd_apcons {e:Expr}{es:List Expr}{c:C}{cs:List C}(hst:starEach (e::es) X.env=(false,eval e X.env)::starEach es X.env) (h:SndP call X e c) (hr:SndAP call X es cs):SndAP call X (e::es) (c::cs):=by
  obtain⟨t,p,q⟩:=h
  obtain⟨t',p',q'⟩:=hr
  refine⟨_,pa_cons p p' hst,λGe H F σ τ ds Q hd hs k=>?_⟩
  obtain⟨r,er,hd⟩:=bind1 (by simpa only [evAP_cons] using hd)
  obtain⟨ds',ed,hd⟩:=bind1 hd
  cases hd
  refine q Ge H F σ τ r _ er hs λv H1 F1 g rr=>?_
  refine q' Ge H1 F1 σ τ ds' _ ed (hs.grow g) λvs H3 F3 g3 rs=>?_
  exact k (v::vs) H3 F3 (g.trans g3) ⟨v,vs,rfl,rr.grow g3,rs⟩
theorem snd_tup {es:List Expr}{cs:List C}{x1:Nat}{pos:Pos}(h:SndA call X es cs):SndE call X (.Tuple es x1 pos) (.tup cs):=by
  obtain⟨t,p,q⟩:=h
  refine⟨_,pe_tup p,λGe H F σ τ z Q hz hs k=>?_⟩
  obtain⟨ds,ed,hz⟩:=bind1 (by simpa only [evE_tup] using hz)
  obtain⟨h1,rfl⟩:=ite_some hz
  refine q Ge H F σ τ ds _ ed hs λvs H1 F1 g rs=>⟨by rw [RDs.length rs];exact h1,λp hp=>?_⟩
  obtain⟨g4,rr⟩:=laid_tup g.dom hp rs
  exact k _ _ _ (g.trans g4) (rr.back g.same)
theorem snd_lst {es:List Expr}{cs:List C}{pos:Pos}(h:SndA call X es cs):SndE call X (.List es pos) (.lst cs):=by
  obtain⟨t,p,q⟩:=h
  refine⟨_,pe_lst p,λGe H F σ τ z Q hz hs k=>?_⟩
  obtain⟨ds,ed,hz⟩:=bind1 (by simpa only [evE_lst] using hz)
  obtain⟨h1,rfl⟩:=ite_some hz
  refine q Ge H F σ τ ds _ ed hs λvs H1 F1 g rs=>⟨by rw [RDs.length rs];exact h1,λp hp=>?_⟩
  obtain⟨g4,rr⟩:=laid_lst g.dom hp rs
  exact k _ _ _ (g.trans g4) (rr.back g.same)
noncomputable def noStar:Expr→Bool
  | .Starred _ _=>false
  | _=>true
theorem star_cons {e:Expr}{es:List Expr}{env:Env}(h:noStar e=true):starEach (e::es) env=(false,eval e env)::starEach es env:=by
  cases e<;>first|rfl|cases h
theorem star_any:∀{es:List Expr}{env:Env}{pos:Pos},es.all noStar=true→(backTo pos (starEach es env)).any (·.1)=false
  | [],env,pos,_=>rfl
  | e::es,env,pos,h=>by
    rw [List.all_cons,Bool.and_eq_true] at h
    rw [star_cons h.1]
    have:=star_any (env:=env) (pos:=pos) h.2
    simpa [backTo] using this
theorem snd_call (g:XG call G k X sc N) {f:Str}{i:Nat}{es:List Expr}{cs:List C}{p pos:Pos}(hf:G.defs.lookup f=some i) (hg:glB sc f=true) (hd:(f == ("__debug__":Str))=false) (hn:es.all noStar=true) (hne:es≠[]) (h:SndGA call X es cs) :
    SndE call X (.Call (.Name f p) es [] pos) (.call i cs):=by
  obtain⟨a,fd,ps,hm,hk,hb,hF,hl⟩:=(g.defs f i hf).ex
  obtain⟨t,pt,q⟩:=h
  cases es with
  | nil=>exact absurd rfl hne
  | cons e es =>
    rw [List.all_cons,Bool.and_eq_true] at hn
    refine⟨_,pe_call hF g.room (g.gl f hg) hm hk hb .nil pass0 pt hd (star_cons hn.1) (star_any hn.2),λGe H F σ τ z Q hz hs k=>?_⟩
    obtain⟨ds,ed,hz⟩:=bind1 (by simpa only [evE_call] using hz)
    refine q Ge H F σ τ ds _ ed hs λvs H1 F1 g1 rs=>?_
    rw [List.append_nil]
    exact⟨by rw [RGs.length rs];exact hl ds z hz,(hs.grow g1).tbH,F1,ds,z,g1.dom,rs,hz,λv H' F' g2 rr=>k v H' F' (g1.trans g2) (rr.back g1.same)⟩
variable (call X) in
noncomputable def SndK (kws:List Keyword) (cs:List C):Prop:=∃t:TA,PK X kws t∧∀(Ge H:Hp) (F:Fz) (σ:En) (τ:L2.St) (ds:List D) (Q:List V→Hp→Prop),evA call σ cs=some ds→SR X.K Ge H F σ τ→(∀vs H' F',Gr H F H' F'→RDs X.K H' F' ds vs→Q vs H')→t τ H Q
theorem snd_knil:SndK call X [] []:=⟨_,pk_nil,λGe H F σ τ ds Q h hs k=>by cases h;exact k [] H F (Gr.refl hs.dom) rfl⟩
theorem snd_kcons {kw:Keyword}{kws:List Keyword}{c:C}{cs:List C}(h:SndE call X kw.value c) (hr:SndK call X kws cs):SndK call X (kw::kws) (c::cs):=by
  obtain⟨nm,e,kp⟩:=kw
  obtain⟨t,p,q⟩:=h
  obtain⟨t',p',q'⟩:=hr
  refine⟨_,pk_cons p p',λGe H F σ τ ds Q hd hs k=>?_⟩
  obtain⟨r,er,hd⟩:=bind1 (by simpa only [evA_cons] using hd)
  obtain⟨ds',ed,hd⟩:=bind1 hd
  cases hd
  refine q Ge H F σ τ r _ er hs λv H1 F1 g rr=>?_
  obtain⟨F2,g2,rd⟩:=rr.fz g
  refine q' Ge H1 F2 σ τ ds' _ ed (hs.grow g2) λvs H3 F3 g3 rs=>?_
  exact k (v::vs) H3 F3 (g2.trans g3) ⟨v,vs,rfl,RD.mono g3.keep rd,rs⟩
theorem snd_bi {x:Str}{id:String}{b:BI}{es:List Expr}{cs:List C}{p pos:Pos}{r:List V→Hp→VK→Prop}(hc:CallR X (.builtin id) r) (hg:Gl X x) (hm:X.mg x=none) (hv:bootBuiltins x=some (.builtin id)) (hnm:x≠"__name__") (hdb:(x == ("__debug__":Str))=false)
    (hn:es.all noStar=true) (hne:es≠[]) (h:SndAP call X es cs)
    (hr:∀(H:Hp) (F:Fz) (ds:List D) (vs:List V) (z:R) (Q:VK),biD b ds=some z→(∀a,H a=none→¬F a)→RPs X.K H F ds vs→(∀v H' F',Gr H F H' F'→RR X.K H H' F' z v→Q v H')→r vs H Q) :
    SndE call X (.Call (.Name x p) es [] pos) (.bi b cs):=by
  obtain⟨t,pt,q⟩:=h
  cases es with
  | nil=>exact absurd rfl hne
  | cons e es =>
    rw [List.all_cons,Bool.and_eq_true] at hn
    refine⟨_,pe_callB hc hg hm hv pt hnm hdb (star_cons hn.1) (star_any hn.2),λGe H F σ τ z Q hz hs k=>?_⟩
    obtain⟨ds,ed,hz⟩:=bind1 (by simpa only [evE_bi] using hz)
    refine q Ge H F σ τ ds _ ed hs λvs H1 F1 g1 rs=>?_
    exact hr H1 F1 ds vs z Q hz g1.dom rs λv H' F' g2 rr=>k v H' F' (g1.trans g2) (rr.back g1.same)
theorem snd_bity {x:Str}{id:String}{b:BI}{es:List Expr}{cs:List C}{p pos:Pos}{r:List V→Hp→VK→Prop}(hc:CallR X (.type id) r) (hg:Gl X x) (hm:X.mg x=none) (hv:bootBuiltins x=some (.type id)) (hnm:x≠"__name__") (hdb:(x == ("__debug__":Str))=false)
    (hn:es.all noStar=true) (hne:es≠[]) (h:SndAP call X es cs)
    (hr:∀(H:Hp) (F:Fz) (ds:List D) (vs:List V) (z:R) (Q:VK),biD b ds=some z→(∀a,H a=none→¬F a)→RPs X.K H F ds vs→(∀v H' F',Gr H F H' F'→RR X.K H H' F' z v→Q v H')→r vs H Q) :
    SndE call X (.Call (.Name x p) es [] pos) (.bi b cs):=by
  obtain⟨t,pt,q⟩:=h
  cases es with
  | nil=>exact absurd rfl hne
  | cons e es =>
    rw [List.all_cons,Bool.and_eq_true] at hn
    refine⟨_,pe_callTy hc hg hm hv pt hnm hdb (star_cons hn.1) (star_any hn.2),λGe H F σ τ z Q hz hs k=>?_⟩
    obtain⟨ds,ed,hz⟩:=bind1 (by simpa only [evE_bi] using hz)
    refine q Ge H F σ τ ds _ ed hs λvs H1 F1 g1 rs=>?_
    exact hr H1 F1 ds vs z Q hz g1.dom rs λv H' F' g2 rr=>k v H' F' (g1.trans g2) (rr.back g1.same)
end
end Dw
namespace Dw
open PySem PySem.Spec PyProof.Rows L2
section
variable {call:Nat→List D→Option R}{G:Gx}{k:Nat}{X:Cx}{sc:Scope}{N:List Str}
theorem RPs.one {K:PySem.W.Frag}{H:Hp}{F:Fz}{d:D}{vs:List V}(h:RPs K H F [d] vs):∃v,vs=[v]∧RP K H F d v:=by
  obtain⟨v,r,e,h1,h2⟩:=h
  cases h2
  exact⟨v,e,h1⟩
theorem RPs.two {K:PySem.W.Frag}{H:Hp}{F:Fz}{d e:D}{vs:List V}(h:RPs K H F [d,e] vs):∃v w,vs=[v,w]∧RP K H F d v∧RP K H F e w:=by
  obtain⟨v,r,e1,h1,h2⟩:=h
  obtain⟨w,e2,h3⟩:=RPs.one h2
  exact⟨v,w,by rw [e1,e2],h1,h3⟩
theorem RPs.three {K:PySem.W.Frag}{H:Hp}{F:Fz}{d e f:D}{vs:List V}(h:RPs K H F [d,e,f] vs):∃v w u,vs=[v,w,u]∧RP K H F d v∧RP K H F e w∧RP K H F f u:=by
  obtain⟨v,r,e1,h1,h2⟩:=h
  obtain⟨w,u,e2,h3,h4⟩:=RPs.two h2
  exact⟨v,w,u,by rw [e1,e2],h1,h3,h4⟩
variable (X) in
noncomputable def BiR (b:BI) (r:List V→Hp→VK→Prop):Prop:=∀(H:Hp) (F:Fz) (ds:List D) (vs:List V) (z:R) (Q:VK),biD b ds=some z→(∀a,H a=none→¬F a)→RPs X.K H F ds vs→(∀v H' F',Gr H F H' F'→RR X.K H H' F' z v→Q v H')→r vs H Q
theorem bi_len:BiR X .len (λxs H Q=>∃p ys,xs=[.ref p]∧(SqL X.K H p ys∨SqT X.K H p ys)∧Q (.int ys.length) H):=by
  intro H F ds vs z Q hz dom hs kk
  match ds,hz,hs with
  | [.tup xs],hz,hs =>
    cases hz
    obtain⟨v,rfl,hv⟩:=RPs.one hs
    obtain⟨p,ws,rfl,h1,h2⟩:=hv.tup
    exact⟨p,ws,rfl,.inr h1,by rw [RDs.length h2];exact kk _ H F (Gr.refl dom) rfl⟩
  | [.lst xs],hz,hs =>
    cases hz
    obtain⟨v,rfl,hv⟩:=RPs.one hs
    obtain⟨p,ws,rfl,h1,h2⟩:=hv.lst
    exact⟨p,ws,rfl,.inl h1,by rw [RDs.length h2];exact kk _ H F (Gr.refl dom) rfl⟩
theorem bi_min:BiR X .min (λxs H Q=>(∃i j,xs=[.int i,.int j]∧Q (.int (if j<i then j else i)) H)∨∃(p:Addr) (is:List Int) (m:Int),xs=[.ref p]∧SqL X.K H p (is.map V.int)∧mnL is=some m∧Q (.int m) H):=by
  intro H F ds vs z Q hz dom hs kk
  match ds,hz,hs with
  | [.int i,.int j],hz,hs =>
    cases hz
    obtain⟨v,w,rfl,hv,hw⟩:=RPs.two hs
    exact .inl ⟨i,j,by rw [hv.int,hw.int],kk _ H F (Gr.refl dom) rfl⟩
  | [.lst xs],hz,hs =>
    have hz:minD xs=some z:=hz
    unfold minD at hz
    split at hz
    · rename_i is e1
      obtain⟨m,e3,e4⟩:=Option.map_eq_some_iff.mp hz
      subst e4
      obtain⟨v,rfl,hv⟩:=RPs.one hs
      obtain⟨p,ws,rfl,h1,h2⟩:=hv.lst
      rw [RDs.ints h2 e1] at h1
      exact .inr ⟨p,is,m,rfl,h1,e3,kk _ H F (Gr.refl dom) rfl⟩
    · cases hz
theorem bi_max:BiR X .max (λxs H Q=>((∃i j,xs=[.int i,.int j]∧Q (.int (if j > i then j else i)) H)∨∃i j k,xs=[.int i,.int j,.int k]∧Q (.int (if k > (if j > i then j else i) then k else (if j > i then j else i))) H)∨∃(p:Addr) (is:List Int) (m:Int),xs=[.ref p]∧SqL X.K H p (is.map V.int)∧mxL is=some m∧Q (.int m) H):=by
  intro H F ds vs z Q hz dom hs kk
  match ds,hz,hs with
  | [.int i,.int j],hz,hs =>
    cases hz
    obtain⟨v,w,rfl,hv,hw⟩:=RPs.two hs
    exact .inl (.inl ⟨i,j,by rw [hv.int,hw.int],kk _ H F (Gr.refl dom) rfl⟩)
  | [.int i,.int j,.int l],hz,hs =>
    cases hz
    obtain⟨v,w,u,rfl,hv,hw,hu⟩:=RPs.three hs
    exact .inl (.inr ⟨i,j,l,by rw [hv.int,hw.int,hu.int],kk _ H F (Gr.refl dom) rfl⟩)
  | [.lst xs],hz,hs =>
    obtain⟨is,e1,e2⟩:=bind1 hz
    obtain⟨m,e3,e4⟩:=Option.map_eq_some_iff.mp e2
    subst e4
    obtain⟨v,rfl,hv⟩:=RPs.one hs
    obtain⟨p,ws,rfl,h1,h2⟩:=hv.lst
    rw [RDs.ints h2 e1] at h1
    exact .inr ⟨p,is,m,rfl,h1,e3,kk _ H F (Gr.refl dom) rfl⟩
theorem bi_sum:BiR X .sum (λxs H Q=>∃(p:Addr) (is:List Int),xs=[.ref p]∧SqL X.K H p (is.map V.int)∧Q (.int is.sum) H):=by
  intro H F ds vs z Q hz dom hs kk
  match ds,hz,hs with
  | [.lst xs],hz,hs =>
    obtain⟨is,e1,e2⟩:=Option.map_eq_some_iff.mp hz
    subst e2
    obtain⟨v,rfl,hv⟩:=RPs.one hs
    obtain⟨p,ws,rfl,h1,h2⟩:=hv.lst
    rw [RDs.ints h2 e1] at h1
    exact⟨p,is,rfl,h1,kk _ H F (Gr.refl dom) rfl⟩
theorem bi_all:BiR X .all (λxs H Q=>∃(p:Addr) (bs:List Bool),xs=[.ref p]∧SqL X.K H p (bs.map V.bl)∧Q (.bl (bs.all id)) H):=by
  intro H F ds vs z Q hz dom hs kk
  match ds,hz,hs with
  | [.lst xs],hz,hs =>
    obtain⟨is,e1,e2⟩:=Option.map_eq_some_iff.mp hz
    subst e2
    obtain⟨v,rfl,hv⟩:=RPs.one hs
    obtain⟨p,ws,rfl,h1,h2⟩:=hv.lst
    rw [RDs.bls h2 e1] at h1
    exact⟨p,is,rfl,h1,kk _ H F (Gr.refl dom) rfl⟩
theorem bi_tuple:BiR X .tuple (λxs H Q=>∃p ys,xs=[.ref p]∧((SqL X.K H p ys∧∀l,H l=none→Q (.ref l) (upd H l (.tup ys)))∨(SqT X.K H p ys∧Q (.ref p) H))):=by
  intro H F ds vs z Q hz dom hs kk
  match ds,hz,hs with
  | [.lst xs],hz,hs =>
    cases hz
    obtain⟨v,rfl,hv⟩:=RPs.one hs
    obtain⟨p,ws,rfl,h1,h2⟩:=hv.lst
    refine⟨p,ws,rfl,.inl ⟨h1,λl hl=>?_⟩⟩
    obtain⟨g,rr⟩:=laid_tup dom hl h2
    exact kk _ _ _ g rr
  | [.tup xs],hz,hs =>
    cases hz
    obtain⟨v,rfl,hv⟩:=RPs.one hs
    obtain⟨p,ws,rfl,h1,h2⟩:=hv.tup
    exact⟨p,ws,rfl,.inr ⟨h1,kk _ H F (Gr.refl dom) ⟨p,ws,rfl,h1,h2⟩⟩⟩
theorem bi_list:BiR X .list (λxs H Q=>∃p ys,xs=[.ref p]∧(SqL X.K H p ys∨SqT X.K H p ys)∧∀l,H l=none→Q (.ref l) (upd H l (.lst ys))):=by
  intro H F ds vs z Q hz dom hs kk
  match ds,hz,hs with
  | [.lst xs],hz,hs =>
    cases hz
    obtain⟨v,rfl,hv⟩:=RPs.one hs
    obtain⟨p,ws,rfl,h1,h2⟩:=hv.lst
    refine⟨p,ws,rfl,.inl h1,λl hl=>?_⟩
    obtain⟨g,rr⟩:=laid_lst dom hl h2
    exact kk _ _ _ g rr
  | [.tup xs],hz,hs =>
    cases hz
    obtain⟨v,rfl,hv⟩:=RPs.one hs
    obtain⟨p,ws,rfl,h1,h2⟩:=hv.tup
    refine⟨p,ws,rfl,.inr h1,λl hl=>?_⟩
    obtain⟨g,rr⟩:=laid_lst dom hl h2
    exact kk _ _ _ g rr
theorem bt_len:bootBuiltins (Str.ofString "len")=some (.builtin "len"):=by decide +kernel
theorem bt_min:bootBuiltins (Str.ofString "min")=some (.builtin "min"):=by decide +kernel
theorem bt_max:bootBuiltins (Str.ofString "max")=some (.builtin "max"):=by decide +kernel
theorem bt_sum:bootBuiltins (Str.ofString "sum")=some (.builtin "sum"):=by decide +kernel
theorem bt_all:bootBuiltins (Str.ofString "all")=some (.builtin "all"):=by decide +kernel
theorem bt_isi:bootBuiltins (Str.ofString "isinstance")=some (.builtin "isinstance"):=by decide +kernel
theorem bt_tuple:bootBuiltins (Str.ofString "tuple")=some (.type "tuple"):=by decide +kernel
theorem bt_list:bootBuiltins (Str.ofString "list")=some (.type "list"):=by decide +kernel
theorem bt_int:bootBuiltins (Str.ofString "int")=some (.type "int"):=by decide +kernel
theorem bt_bool:bootBuiltins (Str.ofString "bool")=some (.type "bool"):=by decide +kernel
theorem bt_str:bootBuiltins (Str.ofString "str")=some (.type "str"):=by decide +kernel
theorem plain_of {x:Str}(h:plainName x=true):x≠"__name__"∧(x == ("__debug__":Str))=false:=by
  unfold plainName at h
  simp only [Bool.and_eq_true,bne_iff_ne,ne_eq] at h
  exact⟨h.2,beq_eq_false_iff_ne.mpr h.1.1⟩
theorem mem_blt {x:Str}{s:String}(h:x=Str.ofString s) (hs:s∈["len","abs","min","max","sum","all","tuple","list","int","bool","str","isinstance","range","zip","reversed","sorted","enumerate","any"]):x∈bltNames:=by
  subst h
  exact List.mem_map.mpr ⟨s,hs,rfl⟩
theorem snd_bi_of (g:XG call G k X sc N) {x:Str}{b:BI}{es:List Expr}{cs:List C}{p pos:Pos}(hb:biOf x es.length=some b) (hd:G.defs.lookup x=none) (hg:glB sc x=true) (hp:plainName x=true) (hn:es.all noStar=true) (h:SndAP call X es cs) :
    SndE call X (.Call (.Name x p) es [] pos) (.bi b cs):=by
  obtain⟨h1,h2⟩:=plain_of hp
  have gx:=g.gl x hg
  have bl:∀s:String,x=Str.ofString s→s∈["len","abs","min","max","sum","all","tuple","list","int","bool","str","isinstance","range","zip","reversed","sorted","enumerate","any"]→X.mg x=none:=λs e hs=>g.blt x hd (mem_blt e hs)
  have ne:∀{n:Nat},es.length=n+1→es≠[]:=λe z=>by rw [z] at e;cases e
  unfold biOf at hb
  split at hb
  · rename_i e
    split at hb
    · rename_i hl
      cases hb
      exact snd_bi call_len_seq gx (bl _ e (by decide)) (by rw [e];exact bt_len) h1 h2 hn (ne hl) h bi_len
    · cases hb
  split at hb
  · rename_i e
    split at hb
    · rename_i hl
      cases hb
      exact snd_bi ((call_min2 g.calm).or (call_min1 g.calm)) gx (bl _ e (by decide)) (by rw [e];exact bt_min) h1 h2 hn (hl.elim (λz=>ne z) (λz=>ne z)) h bi_min
    · cases hb
  split at hb
  · rename_i e
    split at hb
    · rename_i hl
      cases hb
      exact snd_bi (((call_max2 g.calm).or (call_max3 g.calm)).or (call_max1 g.calm)) gx (bl _ e (by decide)) (by rw [e];exact bt_max) h1 h2 hn (hl.elim (λz=>ne z) (λz=>z.elim (λz=>ne z) (λz=>ne z))) h bi_max
    · cases hb
  split at hb
  · rename_i e
    split at hb
    · rename_i hl
      cases hb
      exact snd_bi (call_sumD g.calm) gx (bl _ e (by decide)) (by rw [e];exact bt_sum) h1 h2 hn (ne hl) h bi_sum
    · cases hb
  split at hb
  · rename_i e
    split at hb
    · rename_i hl
      cases hb
      exact snd_bi (call_allD g.calm) gx (bl _ e (by decide)) (by rw [e];exact bt_all) h1 h2 hn (ne hl) h bi_all
    · cases hb
  split at hb
  · rename_i e
    split at hb
    · rename_i hl
      cases hb
      exact snd_bity call_tuple_of gx (bl _ e (by decide)) (by rw [e];exact bt_tuple) h1 h2 hn (ne hl) h bi_tuple
    · cases hb
  split at hb
  · rename_i e
    split at hb
    · rename_i hl
      cases hb
      exact snd_bity call_list_of gx (bl _ e (by decide)) (by rw [e];exact bt_list) h1 h2 hn (ne hl) h bi_list
    · cases hb
  · cases hb
theorem ty_boot {t:Str}{ty:Ty}(h:tyOf t=some ty):bootBuiltins t=some (.type (tyName ty))∧t∈bltNames∧plainName t=true:=by
  unfold tyOf at h
  split at h
  · rename_i e;subst e;cases h;exact⟨bt_int,mem_blt rfl (by decide),by decide +kernel⟩
  split at h
  · rename_i e;subst e;cases h;exact⟨bt_bool,mem_blt rfl (by decide),by decide +kernel⟩
  split at h
  · rename_i e;subst e;cases h;exact⟨bt_tuple,mem_blt rfl (by decide),by decide +kernel⟩
  split at h
  · rename_i e;subst e;cases h;exact⟨bt_list,mem_blt rfl (by decide),by decide +kernel⟩
  split at h
  · rename_i e;subst e;cases h;exact⟨bt_str,mem_blt rfl (by decide),by decide +kernel⟩
  · cases h
theorem snd_isi (g:XG call G k X sc N) {f t:Str}{ty:Ty}{a:Expr}{ca:C}{p p2 pos:Pos}(hf:f=Str.ofString "isinstance") (hd:G.defs.lookup f=none) (hdt:G.defs.lookup t=none) (hg:glB sc f=true) (hgt:glB sc t=true) (ht:tyOf t=some ty) (hn:noStar a=true) (h:SndP call X a ca) :
    SndE call X (.Call (.Name f p) [a,.Name t p2] [] pos) (.isi ca ty):=by
  obtain⟨b1,b2,b3⟩:=ty_boot ht
  obtain⟨n1,n2⟩:=plain_of b3
  have hm:X.mg f=none:=g.blt f hd (mem_blt hf (by decide))
  obtain⟨ta,pa,qa⟩:=h
  have pt:PE X (.Name t p2) (tC (.ty (tyName ty))):=pe_bltn (g.gl t hgt) (g.blt t hdt b2) b1 rfl n1 n2
  refine⟨_,pe_callB call_isiD (g.gl f hg) hm (by rw [hf];exact bt_isi) (pa_cons pa (pa_cons pt pa_nil) (star_cons hn)) (by rw [hf];decide +kernel) (by rw [hf];decide +kernel) (star_cons hn) (by rfl),λGe H F σ τ z Q hz hs kk=>?_⟩
  obtain⟨x,ex,ez⟩:=bind1 (by simpa only [evE_isi] using hz)
  cases ez
  refine qa Ge H F σ τ x _ ex hs λv H1 F1 g1 rx=>?_
  exact⟨v,x,F1,ty,rfl,rx,kk _ H1 F1 g1 rfl⟩
end
end Dw
namespace Dw
open PySem PySem.Spec PyProof.Rows L2
theorem putF_len (f:Str) (v:V):∀fs:List (Str×V),(putF f v fs).length≤fs.length+1
  | []=>by simp [putF]
  | (g,x)::r=>by
    unfold putF
    split
    · simp
    · have:=putF_len f v r;simp;omega
section
variable {call:Nat→List D→Option R}{G:Gx}{k:Nat}{X:Cx}{sc:Scope}{N:List Str}
end
noncomputable def initB (sc:Scope) (N:List Str):Nat→List Str→List Stmt→Bool
  | _,[],[]=>true
  | j,f::ns,.Assign [.Attribute (.Name s _) g _] (.Name p _) _::r=>g == f&&varOf sc N s == some 0&&varOf sc N p == some (j+1)&&initB sc N (j+1) ns r
  | _,_,_=>false
section
variable {call:Nat→List D→Option R}{G:Gx}{k:Nat}{X:Cx}{sc:Scope}{N:List Str}
theorem initB_cons {sc:Scope}{N:List Str}{j:Nat}{f:Str}{ns:List Str}{st:Stmt}{r:List Stmt}(h:initB sc N j (f::ns) (st::r)=true):∃s sp gp p pp ap,st=.Assign [.Attribute (.Name s sp) f gp] (.Name p pp) ap∧varOf sc N s=some 0∧varOf sc N p=some (j+1)∧initB sc N (j+1) ns r=true:=by
  unfold initB at h
  split at h
  · rename_i h1 h2;cases h2
  · rename_i _ _ _ _ s sp g' gp p pp ap _ e1 e2
    cases e1
    cases e2
    rw [Bool.and_eq_true,Bool.and_eq_true,Bool.and_eq_true] at h
    obtain⟨⟨⟨hf,hs⟩,hp⟩,hr⟩:=h
    have hf:g'=f:=by simpa using hf
    subst hf
    exact⟨s,sp,gp,p,pp,ap,rfl,by simpa using hs,by simpa using hp,hr⟩
  · cases h
theorem init_body (g:XG call G k X sc N):∀(ns:List Str) (j:Nat) (body:List Stmt),initB sc N j ns body=true→∃t,PSs X body t∧∀(σ:L2.St) (H:Hp) (x C dx:Addr) (fs:List (Str×V)) (ws:List V) (Dn:Ends),σ[0]?=some (some (.ref x))→(∀i w,ws[i]?=some w→σ[j+1+i]?=some (some w))→ws.length=ns.length →
    H x=some (.ins C dx fs)→Cls X.K C→(∀f∈ns,NoAttr X.K C f)→fs.length+ns.length<1000→Dn.nx σ (upd H x (.ins C dx (putA ns ws fs)))→t Dn σ H
  | [],j,[],_=>⟨_,pss_nil,fun σ H x C dx fs ws Dn h0 hw hl hH hC hN hz hq=>by
      have e:upd H x (.ins C dx fs)=H:=by
        funext b
        by_cases h:b=x
        · subst h;rw [upd_same,hH]
        · rw [upd_ne h]
      have hq:Dn.nx σ (upd H x (.ins C dx fs)):=hq
      rw [e] at hq
      exact hq⟩
  | [],_,_::_,h=>by cases h
  | f::ns,j,[],h=>by cases h
  | f::ns,j,st::r,h=>by
    obtain⟨s,sp,gp,p,pp,ap,rfl,hs,hp,hr⟩:=initB_cons h
    obtain⟨s1,s2,s3,s4⟩:=var_of g hs
    obtain⟨p1,p2,p3,p4⟩:=var_of g hp
    obtain⟨t,pt,qt⟩:=init_body g ns (j+1) r hr
    refine⟨_,pss_cons (ps_fld (pe_var (i:=0) s1 s2 s3 s4) (pe_var (i:=j+1) p1 p2 p3 p4) rfl) pt,fun σ H x C dx fs ws Dn h0 hw hl hH hC hN hz hq=>?_⟩
    cases ws with
    | nil=>simp at hl
    | cons w ws =>
      refine⟨w,hw 0 w rfl,.ref x,h0,x,C,dx,fs,rfl,hH,hC,hN _ List.mem_cons_self,by simp at hz;omega,?_⟩
      refine qt σ _ x C dx (putF f w fs) ws Dn h0 (λi u hi=>?_) (by simpa using hl) upd_same hC (λf hf=>hN f (List.mem_cons_of_mem _ hf)) (by have:=putF_len f w fs;simp at hz;omega) ?_
      · have:=hw (i+1) u (by simpa using hi)
        rw [show j+1+1+i=j+1+(i+1) by omega]
        exact this
      · rw [upd_upd]
        exact hq
end
end Dw
namespace Dw
open PySem PySem.Spec PyProof.Rows L2
theorem getv_same {σ:En}{i:Nat}{o:Option R}(h:i<σ.length):getv (σ.set i o) i=o:=by
  simp [getv,h]
theorem getv_ne {σ:En}{i j:Nat}{o:Option R}(h:i≠j):getv (σ.set i o) j=getv σ j:=by
  simp [getv,List.getElem?_set_ne h]
theorem getv_lt {σ:En}{i:Nat}{r:R}(h:getv σ i=some r):i<σ.length:=by
  by_cases hi:i<σ.length
  · exact hi
  · have:σ[i]?=none:=List.getElem?_eq_none (by omega)
    simp [getv,this] at h
section
variable {K:PySem.W.Frag}{G H H1:Hp}{F F1:Fz}{σ:En}{τ:L2.St}{i:Nat}{d:D}{v:V}
theorem SR.bind (s:SR K G H F σ τ) (h:RD K H F d v):SR K G H F (σ.set i (some (false,d))) (τ.set i (some v)):=by
  refine⟨by simp [s.len],s.ent,s.dom,λj e hj=>?_,λj e hj hd=>?_,λj k e e' hj hk hjk=>?_,λj m ks hj=>?_,λj ns ds hj=>?_,s.tb⟩
  · by_cases hij:i=j
    · subst hij
      have hl:i<σ.length:=by simpa using getv_lt hj
      rw [getv_same hl] at hj
      cases hj
      exact⟨v,by rw [List.getElem?_set_self (by rw [←s.len];exact hl)],h⟩
    · rw [getv_ne hij] at hj
      obtain⟨u,h1,h2⟩:=s.val j e hj
      exact⟨u,by rw [List.getElem?_set_ne hij];exact h1,h2⟩
  · have hij:i≠j:=λz=>by
      subst z
      have hl:i<σ.length:=by simpa using getv_lt hj
      rw [getv_same hl] at hj
      cases hj
    rw [getv_ne hij] at hj
    obtain⟨a,ds,vs,h1,h2,h3⟩:=s.own j e hj hd
    exact⟨a,ds,vs,h1,by rw [List.getElem?_set_ne hij];exact h2,h3⟩
  · have nj:∀{j:Nat} {e:D},getv (σ.set i (some (false,d))) j=some (true,e)→i≠j:=λ{j e} hj z=>by
      subst z
      have hl:i<σ.length:=by simpa using getv_lt hj
      rw [getv_same hl] at hj
      cases hj
    have n1:=nj hj
    have n2:=nj hk
    rw [getv_ne n1] at hj
    rw [getv_ne n2] at hk
    rw [List.getElem?_set_ne n1,List.getElem?_set_ne n2] at hjk
    exact s.sep j k e e' hj hk hjk
  · have hij:i≠j:=λz=>by
      subst z
      have hl:i<σ.length:=by simpa using getv_lt hj
      rw [getv_same hl] at hj
      cases hj
    rw [getv_ne hij] at hj
    obtain⟨a,h1,h2⟩:=s.dct j m ks hj
    exact⟨a,by rw [List.getElem?_set_ne hij];exact h1,h2⟩
  · have hij:i≠j:=λz=>by
      subst z
      have hl:i<σ.length:=by simpa using getv_lt hj
      rw [getv_same hl] at hj
      cases hj
    rw [getv_ne hij] at hj
    obtain⟨a,h1,h2⟩:=s.obj j ns ds hj
    exact⟨a,by rw [List.getElem?_set_ne hij];exact h1,h2⟩
theorem SR.skip (s:SR K G H F σ τ) (h:getv σ i=none):SR K G H F σ (τ.set i (some v)):=by
  have ne:∀{j:Nat} {r:R},getv σ j=some r→i≠j:=λ{j r} e z=>by subst z;rw [h] at e;cases e
  refine⟨by simp [s.len],s.ent,s.dom,λj e hj=>?_,λj e hj hd=>?_,λj k e e' hj hk hjk=>?_,λj m ks hj=>?_,λj ns ds hj=>?_,s.tb⟩
  · obtain⟨u,h1,h2⟩:=s.val j e hj
    exact⟨u,by rw [List.getElem?_set_ne (ne hj)];exact h1,h2⟩
  · obtain⟨a,ds,vs,h1,h2,h3⟩:=s.own j e hj hd
    exact⟨a,ds,vs,h1,by rw [List.getElem?_set_ne (ne hj)];exact h2,h3⟩
  · rw [List.getElem?_set_ne (ne hj),List.getElem?_set_ne (ne hk)] at hjk
    exact s.sep j k e e' hj hk hjk
  · obtain⟨a,h1,h2⟩:=s.dct j m ks hj
    exact⟨a,by rw [List.getElem?_set_ne (ne hj)];exact h1,h2⟩
  · obtain⟨a,h1,h2⟩:=s.obj j ns ds hj
    exact⟨a,by rw [List.getElem?_set_ne (ne hj)];exact h1,h2⟩
theorem SR.keep {G':Hp}(tb:TB G') (s:SR K G H F σ τ) (k:Keep H F H1 F1) (ent:Same G' H1) (dom:∀a,H1 a=none→¬F1 a)
    (own:∀i d,getv σ i=some (true,d)→isDc d=false→∃a ds vs,d=.lst ds∧τ[i]?=some (some (.ref a))∧G' a=none∧¬F1 a∧H1 a=some (.lst vs)∧RDs K H1 F1 ds vs)
    (dct:∀i m ks,getv σ i=some (true,.dct m ks)→∃a,τ[i]?=some (some (.ref a))∧¬F1 a∧H1 a=some (.dK (dk ks))∧(m=true→G' a=none))
    (obj:∀i ns ds,getv σ i=some (true,.obj ns ds)→∃v,τ[i]?=some (some v)∧ObR K H1 F1 ns ds v):SR K G' H1 F1 σ τ:=
  ⟨s.len,ent,dom,λi d e=>let ⟨v,h1,h2⟩:=s.val i d e;⟨v,h1,RD.mono k h2⟩,own,s.sep,dct,obj,tb⟩
theorem Keep.trans {H2:Hp}{F2:Fz}(a:Keep H F H1 F1) (b:Keep H1 F1 H2 F2):Keep H F H2 F2:=
  ⟨λp xs h=>b.tups p xs (a.tups p xs h),λp xs f h=>b.lsts p xs (a.lsts p xs f h).1 (a.lsts p xs f h).2⟩
theorem Keep.refl:Keep H F H F:=⟨λ_ _ h=>h,λ_ _ f h=>⟨f,h⟩⟩
end
section
variable {call:Nat→List D→Option R}{G:Gx}{k:Nat}{X:Cx}{sc:Scope}{N:List Str}
noncomputable def gL:List Nat→TGs
  | []=>gNil
  | i::is=>gCons (gName i) (gL is)
noncomputable def gTg (K:PySem.W.Frag):Tg→TG
  | .one i=>gName i
  | .two i j=>gTup K 2 (gCons (gName i) (gCons (gName j) gNil))
  | .many is=>gTup K is.length (gL is)
theorem loc_of (g:XG call G k X sc N) {x:Str}(h:(sc.names.lookup x == some .local||sc.names.lookup x == some .cell)=true):Loc X.env.scope x∧(X.fn x=true∨X.env.scope.names.lookup x=some .local):=g.loc x h
theorem snd_tg (g:XG call G k X sc N) {tg:Expr}{t:Tg}(h:tgOf sc N tg=some t):PG X tg (gTg X.K t):=by
  unfold tgOf at h
  split at h
  · rename_i x pos
    split at h
    · rename_i hx
      cases hi:slotOf N x with
      | none=>rw [hi] at h;cases h
      | some i =>
        rw [hi] at h
        cases h
        obtain⟨l1,l2⟩:=loc_of g hx
        exact pg_name (by rw [g.hN];exact g.nd) (by rw [g.hN];exact slot_get hi) l1 l2
    · cases h
  · rename_i x p y p' kk pos
    split at h
    · rename_i hx
      rw [Bool.and_eq_true,Bool.and_eq_true] at hx
      obtain⟨⟨hx,hy⟩,hne⟩:=hx
      cases hi:slotOf N x with
      | none=>rw [hi] at h;cases h
      | some i =>
        cases hj:slotOf N y with
        | none=>rw [hi,hj] at h;cases h
        | some j =>
          rw [hi,hj] at h
          cases h
          obtain⟨l1,l2⟩:=loc_of g hx
          obtain⟨m1,m2⟩:=loc_of g hy
          exact pg_tup g.calm (pgs_cons (pg_name (by rw [g.hN];exact g.nd) (by rw [g.hN];exact slot_get hi) l1 l2) (pgs_cons (pg_name (by rw [g.hN];exact g.nd) (by rw [g.hN];exact slot_get hj) m1 m2) pgs_nil))
    · cases h
  · cases h
theorem tg_bind {K:PySem.W.Frag}{Ge H:Hp}{F:Fz}{σ σ':En}{τ:L2.St}{t:Tg}{d:D}{v:V}{Q:L2.St→Hp→Prop}(hm:∀is,t≠.many is) (s:SR K Ge H F σ τ) (hb:bindT σ t d=some σ') (hv:RD K H F d v)
    (h:∀τ',SR K Ge H F σ' τ'→(∀σ0:En,SR K Ge H F σ0 τ→(∀i,(t=.one i∨∃j,t=.two i j∨t=.two j i)→getv σ0 i=none)→SR K Ge H F σ0 τ')→Q τ' H):gTg K t v τ H Q:=by
  cases t with
  | one i =>
    cases hb
    exact h _ (s.bind hv) fun σ0 s0 hn=>s0.skip (hn i (.inl rfl))
  | two i j =>
    unfold bindT at hb
    split at hb
    · rename_i heq;cases heq
    · rename_i i' j' x y heq
      cases heq
      cases hb
      obtain⟨a,vs,rfl,hs,hr⟩:=hv
      obtain⟨v1,r,rfl,h1,w,r2,e2,h2,h3⟩:=hr
      have h3:r2=[]:=h3
      subst h3
      subst e2
      exact⟨a,[v1,w],rfl,hs,rfl,v1,[w],rfl,w,[],rfl,rfl,h _ ((s.bind h1).bind h2) fun σ0 s0 hn=>(s0.skip (hn i (.inr ⟨j,.inl rfl⟩))).skip (hn j (.inr ⟨i,.inr rfl⟩))⟩
    · rename_i heq;cases heq
    · cases hb
  | many is=>exact absurd rfl (hm is)
theorem setAll_bind {K:PySem.W.Frag}{Ge H:Hp}{F:Fz}{Q:L2.St→Hp→Prop}:∀{is:List Nat}{ds:List D}{vs:List V}{σ σ':En}{τ:L2.St},SR K Ge H F σ τ→setAll σ is ds=some σ'→RDs K H F ds vs→(∀τ',SR K Ge H F σ' τ'→Q τ' H)→gL is vs τ H Q
  | [],ds,vs,σ,σ',τ,s,hb,hv,h=>by
    cases ds with
    | nil=>cases hb;have hv:vs=[]:=hv;exact⟨hv,h _ s⟩
    | cons d r=>cases hb
  | i::is,ds,vs,σ,σ',τ,s,hb,hv,h=>by
    cases ds with
    | nil=>cases hb
    | cons d r =>
      obtain⟨v,w,rfl,h1,h2⟩:=hv
      exact⟨v,w,rfl,setAll_bind (s.bind h1) hb h2 h⟩
theorem setAll_len:∀{is:List Nat}{ds:List D}{σ σ':En},setAll σ is ds=some σ'→ds.length=is.length
  | [],[],_,_,_=>rfl
  | [],_::_,_,_,h=>by cases h
  | _::_,[],_,_,h=>by cases h
  | i::is,d::ds,σ,σ',h=>by rw [List.length_cons,List.length_cons,setAll_len (show setAll (σ.set i (some (false,d))) is ds=some σ' from h)]
theorem tg_bindM {K:PySem.W.Frag}{Ge H:Hp}{F:Fz}{σ σ':En}{τ:L2.St}{t:Tg}{d:D}{v:V}{Q:L2.St→Hp→Prop}(s:SR K Ge H F σ τ) (hb:bindT σ t d=some σ') (hv:RD K H F d v)
    (h:∀τ',SR K Ge H F σ' τ'→Q τ' H):gTg K t v τ H Q:=by
  cases t with
  | one i=>exact tg_bind (λ_ z=>nomatch z) s hb hv fun τ' s' _=>h τ' s'
  | two i j=>exact tg_bind (λ_ z=>nomatch z) s hb hv fun τ' s' _=>h τ' s'
  | many is =>
    unfold bindT at hb
    split at hb
    · rename_i heq;cases heq
    · rename_i heq;cases heq
    · rename_i is' ds heq
      cases heq
      obtain⟨a,vs,rfl,hs,hr⟩:=hv
      exact⟨a,vs,rfl,hs,by rw [RDs.length hr];exact setAll_len hb,setAll_bind s hb hr h⟩
    · cases hb
theorem nm_tg (g:XG call G k X sc N) {e:Expr}{i:Nat}(h:nmOf sc N e=some i):PG X e (gName i)∧∃x p,e=.Name x p:=by
  unfold nmOf at h
  split at h
  · rename_i x pos
    split at h
    · rename_i hx
      obtain⟨l1,l2⟩:=loc_of g hx
      exact⟨pg_name (by rw [g.hN];exact g.nd) (by rw [g.hN];exact slot_get h) l1 l2,x,pos,rfl⟩
    · cases h
  · cases h
theorem nms_tg (g:XG call G k X sc N):∀{es:List Expr}{is:List Nat},optAll (nmOf sc N) es=some is→PGs X es (gL is)∧(assignEach es X.env).length=is.length∧(assignEach es X.env).findIdx? (·.1)=none
  | [],is,h=>by cases h;exact⟨pgs_nil,rfl,rfl⟩
  | e::es,is,h=>by
    unfold optAll at h
    cases hx:nmOf sc N e with
    | none=>rw [hx] at h;cases h
    | some i =>
      rw [hx] at h
      cases hy:optAll (nmOf sc N) es with
      | none=>simp only [Option.bind_some] at h;rw [hy] at h;cases h
      | some js =>
        simp only [Option.bind_some] at h
        rw [hy] at h
        cases h
        obtain⟨p1,x,p,rfl⟩:=nm_tg g hx
        obtain⟨q1,q2,q3⟩:=nms_tg g hy
        refine⟨pgs_cons p1 q1 rfl,?_,?_⟩
        · show (assignEach es X.env).length+1=_
          rw [q2];rfl
        · show List.findIdx? _ ((false,_)::assignEach es X.env)=none
          rw [List.findIdx?_cons,q3];rfl
theorem tgOf_nm {tg:Expr}{t:Tg}(h:tgOf sc N tg=some t):∀is,t≠.many is:=by
  intro is z
  subst z
  unfold tgOf at h
  split at h
  · split at h
    · rename_i x _ _;cases hx:slotOf N x<;>(rw [hx] at h;cases h)
    · cases h
  · split at h
    · rename_i x _ y _ _ _ _;cases hx:slotOf N x<;>rw [hx] at h<;>first|cases h|(cases hy:slotOf N y<;>(rw [hy] at h;cases h))
    · cases h
  · cases h
theorem snd_tgM (g:XG call G k X sc N) {tg:Expr}{t:Tg}(h:tgM sc N tg=some t):PG X tg (gTg X.K t):=by
  unfold tgM at h
  cases ht:tgOf sc N tg with
  | some t' =>
    rw [ht] at h
    cases h
    exact snd_tg g ht
  | none =>
    rw [ht] at h
    cases tg with
    | Tuple es kk pos =>
      have h:(optAll (nmOf sc N) es).map Tg.many=some t:=h
      cases hx:optAll (nmOf sc N) es with
      | none=>rw [hx] at h;cases h
      | some is =>
        rw [hx] at h
        cases h
        obtain⟨q1,q2,q3⟩:=nms_tg g hx
        exact pg_tup g.calm q1 q2 q3
    | _=>cases h
end
noncomputable def ItOk (K:PySem.W.Frag) (J:It) (H:Hp) (F:Fz) (its:List D):Prop:=∀H' F',Keep H F H' F'→(∀a,H' a=none→¬F' a) →
  (∀i d,its[i]?=some d→J.go i H'∧∀x H3,J.yld i H' x H3→∃F3,Gr H' F' H3 F3∧RD K H3 F3 d x)∧J.stop its.length H'
theorem it_list {K:PySem.W.Frag}{H:Hp}{F:Fz}{a:Addr}{ds:List D}{vs:List V}(h:LsR K H F a vs) (r:RDs K H F ds vs):ItOk K (Itl K a) H F ds:=by
  intro H' F' k dom
  have h':LsR K H' F' a vs:=h.elim (λz=>.inl (k.lsts _ _ z.1 z.2)) .inr
  have r':=RDs.mono k r
  have hl:=RDs.length r'
  refine⟨λi d hd=>?_,⟨vs,h'.sq,by omega⟩⟩
  obtain⟨v,e1,e2⟩:=RDs.get r' hd
  refine⟨⟨vs,v,h'.sq,e1⟩,λx H3 y=>?_⟩
  obtain⟨rfl,y⟩:=y
  have:=y vs h'.sq
  rw [e1] at this
  cases this
  exact⟨F',Gr.refl dom,e2⟩
theorem it_tup {K:PySem.W.Frag}{H:Hp}{F:Fz}{a:Addr}{ds:List D}{vs:List V}(h:SqT K H a vs) (r:RDs K H F ds vs):ItOk K (Itt K a) H F ds:=by
  intro H' F' k dom
  have h':SqT K H' a vs:=h.elim (λz=>.inl (k.tups _ _ z)) .inr
  have r':=RDs.mono k r
  have hl:=RDs.length r'
  refine⟨λi d hd=>?_,⟨vs,h',by omega⟩⟩
  obtain⟨v,e1,e2⟩:=RDs.get r' hd
  refine⟨⟨vs,v,h',e1⟩,λx H3 y=>?_⟩
  obtain⟨rfl,y⟩:=y
  have:=y vs h'
  rw [e1] at this
  cases this
  exact⟨F',Gr.refl dom,e2⟩
theorem it_rng {K:PySem.W.Frag}{H:Hp}{F:Fz}(lo:Int) (n:Nat):ItOk K (Itr lo n) H F ((List.range n).map λi=>.int (lo+(i:Nat))):=by
  intro H' F' k dom
  refine⟨λi d hd=>?_,?_⟩
  · rw [List.getElem?_map] at hd
    cases q:(List.range n)[i]? with
    | none=>rw [q] at hd;cases hd
    | some j =>
      rw [q] at hd
      obtain⟨hl,ej⟩:=List.getElem?_eq_some_iff.mp q
      simp at hl ej
      subst ej
      cases hd
      refine⟨hl,λx H3 y=>?_⟩
      obtain⟨rfl,rfl⟩:=y
      exact⟨F',Gr.refl dom,rfl⟩
  · show n≤_
    simp
theorem it_rngS {K:PySem.W.Frag}{H:Hp}{F:Fz}(lo st:Int) (n:Nat):ItOk K (Its lo st n) H F ((List.range n).map λi=>.int (lo+(i:Nat) * st)):=by
  intro H' F' k dom
  refine⟨λi d hd=>?_,?_⟩
  · rw [List.getElem?_map] at hd
    cases q:(List.range n)[i]? with
    | none=>rw [q] at hd;cases hd
    | some j =>
      rw [q] at hd
      obtain⟨hl,ej⟩:=List.getElem?_eq_some_iff.mp q
      simp at hl ej
      subst ej
      cases hd
      refine⟨hl,λx H3 y=>?_⟩
      obtain⟨rfl,rfl⟩:=y
      exact⟨F',Gr.refl dom,rfl⟩
  · show n≤_
    simp
end Dw
namespace Dw
open PySem PySem.Spec PyProof.Rows L2
section
variable {prog:Program}{w:World}{A:Around}{E:Value→Shared→Prop}{s:Shared}
theorem nx_item {p t:Addr}{k:Nat}{its:Array Value}{y:Value}{Q:Value→Shared→Prop}(hp:s.heap.IsTupleIter p t k) (ht:s.heap.IsTuple t its) (hy:its[k]?=some y)
    (q:∀h1,h1.IsTupleIter p t (k+1)→Heap.SameBut p s.heap h1→Q y { s with heap:=h1 }):wpAny (model prog w) A (Builtin.SmallTypes.nextOf (.ref p)) Q E s:=by
  obtain⟨b,b1,b2,b3⟩:=id hp;obtain⟨c,c1,_,n1,c3⟩:=ht;unfold Builtin.SmallTypes.nextOf
  refine wpAny_bind (wpAny_callSpecial?_slot (name:=Str.ofString "__next__") hp.typeIs F.slot_tuple_iterator_next (wpAny_call_entry F.slot_tuple_iterator_next hp.typeIs F.entry_tuple_iterator_next ?_ (F.args_tuple_iterator_next_1 _)))
  show wpAny _ _ (field (.ref p) 0 >>= _) _ _ s
  refine wpAny_bind (wpAny_field b1 b3 (x:=.ref t) rfl ?_);show wpAny _ _ (if (Value.ref t == Value.none)=true then _ else _) _ _ s
  rw [if_neg (show ¬((Value.ref t == Value.none)=true) from Bool.false_ne_true)];show wpAny _ _ (field (.ref p) 1 >>= _) _ _ s
  refine wpAny_bind (wpAny_field b1 b3 (x:=.int k 0) rfl ?_);show wpAny _ _ (seqItems? (.ref t) >>= _) _ _ s
  refine wpAny_bind (wpAny_seqItems c1 c3 ?_);simp only [hy,Int.toNat_natCast]
  refine wpAny_bind (wpAny_setField b1 b3 (by simp) (wpAny_pure ⟨y,rfl,wpAny_pure (q _ ?_ (Heap.SameBut.update ..))⟩))
  exact⟨_,Heap.get?_update_self _ b1 (Obj.isFreed_of_fields (Obj.data_mapFields b3 _)),(Obj.cls_mapFields ..).trans b2,by (rw [Obj.data_mapFields b3];simp [rawInt])⟩
theorem nx_end {p t:Addr}{k:Nat}{its:Array Value}{Q:Value→Shared→Prop}(hh:A.handled=none) (hp:s.heap.IsTupleIter p t k) (ht:s.heap.IsTuple t its) (hy:its[k]?=none)
    (q:∀h1 e,Heap.ExtBut p s.heap h1→(∃o,h1.get? e=some o∧o.cls=.type "StopIteration")→E (.ref e) { s with heap:=h1 }):wpAny (model prog w) A (Builtin.SmallTypes.nextOf (.ref p)) Q E s:=by
  obtain⟨b,b1,b2,b3⟩:=id hp;obtain⟨c,c1,_,n1,c3⟩:=ht;unfold Builtin.SmallTypes.nextOf
  refine wpAny_bind (wpAny_callSpecial?_slot (name:=Str.ofString "__next__") hp.typeIs F.slot_tuple_iterator_next (wpAny_call_entry F.slot_tuple_iterator_next hp.typeIs F.entry_tuple_iterator_next ?_ (F.args_tuple_iterator_next_1 _)))
  show wpAny _ _ (field (.ref p) 0 >>= _) _ _ s
  refine wpAny_bind (wpAny_field b1 b3 (x:=.ref t) rfl ?_);show wpAny _ _ (if (Value.ref t == Value.none)=true then _ else _) _ _ s
  rw [if_neg (show ¬((Value.ref t == Value.none)=true) from Bool.false_ne_true)];show wpAny _ _ (field (.ref p) 1 >>= _) _ _ s
  refine wpAny_bind (wpAny_field b1 b3 (x:=.int k 0) rfl ?_);show wpAny _ _ (seqItems? (.ref t) >>= _) _ _ s
  refine wpAny_bind (wpAny_seqItems c1 c3 ?_);simp only [hy,Int.toNat_natCast]
  refine wpAny_bind (wpAny_rule (wpAny_bind (wpAny_setField b1 b3 (by simp) ?_)));show wpAny _ _ (newExc (.type "StopIteration") [] >>= _) _ _ _
  refine wpAny_bind ?_;simp only [newExc,newTuple];refine wpAny_bind (wpAny_newObj_type ?_ (by size_fits))
  refine wpAny_bind (m:=firstArgMember _ _) (wpAny_of_eq (a:=Value.none) (by first|rfl|(simp only [firstArgMember];rfl)) ?_);refine wpAny_newObj_type ?_ (by size_fits)
  simp only [raiseNew];refine wpAny_bind (wpAny_handled ?_);first|rw [show A.in1.handled=none from hh]|rw [hh]
  refine wpAny_bind (wpAny_pure (wpAny_throw ?_));exact q _ _ (((Heap.SameBut.update ..).extBut.push _).push _) ⟨_,Heap.get?_push_size _ rfl,rfl⟩
theorem nl_item {p t:Addr}{k:Nat}{its:Array Value}{y:Value}{Q:Value→Shared→Prop}(hp:s.heap.IsListIter p t k) (ht:s.heap.IsList t its) (hy:its[k]?=some y)
    (q:∀h1,h1.IsListIter p t (k+1)→Heap.SameBut p s.heap h1→Q y { s with heap:=h1 }):wpAny (model prog w) A (Builtin.SmallTypes.nextOf (.ref p)) Q E s:=by
  obtain⟨b,b1,b2,b3⟩:=id hp;obtain⟨c,c1,_,n1,c3⟩:=ht;unfold Builtin.SmallTypes.nextOf
  refine wpAny_bind (wpAny_callSpecial?_slot (name:=Str.ofString "__next__") hp.typeIs PySem.slot_listiter_next (wpAny_call_entry PySem.slot_listiter_next hp.typeIs PySem.entry_listiter_next ?_ (PySem.args_listiter_next _)))
  show wpAny _ _ (field (.ref p) 0 >>= _) _ _ s
  refine wpAny_bind (wpAny_field b1 b3 (x:=.ref t) rfl ?_);show wpAny _ _ (if (Value.ref t == Value.none)=true then _ else _) _ _ s
  rw [if_neg (show ¬((Value.ref t == Value.none)=true) from Bool.false_ne_true)];show wpAny _ _ (field (.ref p) 1 >>= _) _ _ s
  refine wpAny_bind (wpAny_field b1 b3 (x:=.int k 0) rfl ?_);show wpAny _ _ (seqItems? (.ref t) >>= _) _ _ s
  refine wpAny_bind (wpAny_seqItems c1 c3 ?_);simp only [hy,Int.toNat_natCast]
  refine wpAny_bind (wpAny_setField b1 b3 (by simp) (wpAny_pure ⟨y,rfl,wpAny_pure (q _ ?_ (Heap.SameBut.update ..))⟩))
  exact⟨_,Heap.get?_update_self _ b1 (Obj.isFreed_of_fields (Obj.data_mapFields b3 _)),(Obj.cls_mapFields ..).trans b2,by (rw [Obj.data_mapFields b3];simp [rawInt])⟩
theorem nl_end {p t:Addr}{k:Nat}{its:Array Value}{Q:Value→Shared→Prop}(hh:A.handled=none) (hp:s.heap.IsListIter p t k) (ht:s.heap.IsList t its) (hy:its[k]?=none)
    (q:∀h1 e,Heap.ExtBut p s.heap h1→(∃o,h1.get? e=some o∧o.cls=.type "StopIteration")→E (.ref e) { s with heap:=h1 }):wpAny (model prog w) A (Builtin.SmallTypes.nextOf (.ref p)) Q E s:=by
  obtain⟨b,b1,b2,b3⟩:=id hp;obtain⟨c,c1,_,n1,c3⟩:=ht;unfold Builtin.SmallTypes.nextOf
  refine wpAny_bind (wpAny_callSpecial?_slot (name:=Str.ofString "__next__") hp.typeIs PySem.slot_listiter_next (wpAny_call_entry PySem.slot_listiter_next hp.typeIs PySem.entry_listiter_next ?_ (PySem.args_listiter_next _)))
  show wpAny _ _ (field (.ref p) 0 >>= _) _ _ s
  refine wpAny_bind (wpAny_field b1 b3 (x:=.ref t) rfl ?_);show wpAny _ _ (if (Value.ref t == Value.none)=true then _ else _) _ _ s
  rw [if_neg (show ¬((Value.ref t == Value.none)=true) from Bool.false_ne_true)];show wpAny _ _ (field (.ref p) 1 >>= _) _ _ s
  refine wpAny_bind (wpAny_field b1 b3 (x:=.int k 0) rfl ?_);show wpAny _ _ (seqItems? (.ref t) >>= _) _ _ s
  refine wpAny_bind (wpAny_seqItems c1 c3 ?_);simp only [hy,Int.toNat_natCast]
  refine wpAny_bind (wpAny_rule (wpAny_bind (wpAny_setField b1 b3 (by simp) ?_)));show wpAny _ _ (newExc (.type "StopIteration") [] >>= _) _ _ _
  refine wpAny_bind ?_;simp only [newExc,newTuple];refine wpAny_bind (wpAny_newObj_type ?_ (by size_fits))
  refine wpAny_bind (m:=firstArgMember _ _) (wpAny_of_eq (a:=Value.none) (by first|rfl|(simp only [firstArgMember];rfl)) ?_);refine wpAny_newObj_type ?_ (by size_fits)
  simp only [raiseNew];refine wpAny_bind (wpAny_handled ?_);first|rw [show A.in1.handled=none from hh]|rw [hh]
  refine wpAny_bind (wpAny_pure (wpAny_throw ?_));exact q _ _ (((Heap.SameBut.update ..).extBut.push _).push _) ⟨_,Heap.get?_push_size _ rfl,rfl⟩
noncomputable def SqH:Bool→Heap→Addr→Array Value→Prop
  | true,h,t,its=>h.IsList t its
  | false,h,t,its=>h.IsTuple t its
noncomputable def SqI:Bool→Heap→Addr→Addr→Nat→Prop
  | true,h,p,t,k=>h.IsListIter p t k
  | false,h,p,t,k=>h.IsTupleIter p t k
theorem SqI.extBut {kd:Bool}{h h':Heap}{a b t:Addr}{i:Nat}(x:SqI kd h a t i) (hs:Heap.ExtBut b h h') (hab:a≠b):SqI kd h' a t i:=by
  cases kd with
  | true=>exact Heap.IsListIter.extBut x hs hab
  | false=>exact Heap.IsTupleIter.extBut x hs hab
theorem SqI.at {kd:Bool}{h h':Heap}{a t:Addr}{i:Nat}(x:SqI kd h a t i) (e:∀o,h.get? a=some o→h'.get? a=some o):SqI kd h' a t i:=by
  cases kd with
  | true=>exact Heap.IsListIter.at x e
  | false=>exact Heap.IsTupleIter.at x e
theorem SqI.rec' {kd:Bool}{h:Heap}{a t:Addr}{i:Nat}(x:SqI kd h a t i):∃o,h.get? a=some o∧∀v,o.data≠.cell v:=by
  cases kd with
  | true=>obtain⟨o,e,c,d⟩:=x;exact⟨o,e,λv r=>by rw [d] at r;cases r⟩
  | false=>obtain⟨o,e,c,d⟩:=x;exact⟨o,e,λv r=>by rw [d] at r;cases r⟩
theorem SqH.but {kd:Bool}{h h':Heap}{p t:Addr}{its:Array Value}(ht:SqH kd h t its) (hs:Heap.SameBut p h h') (ne:t≠p):SqH kd h' t its:=by
  cases kd with
  | true=>exact Heap.IsList.extBut ht hs.extBut ne
  | false=>exact Heap.IsTuple.extBut ht hs.extBut ne
theorem ns_item {kd:Bool}{p t:Addr}{k:Nat}{its:Array Value}{y:Value}{Q:Value→Shared→Prop}(hp:SqI kd s.heap p t k) (ht:SqH kd s.heap t its) (hy:its[k]?=some y)
    (q:∀h1,SqI kd h1 p t (k+1)→Heap.SameBut p s.heap h1→Q y { s with heap:=h1 }):wpAny (model prog w) A (Builtin.SmallTypes.nextOf (.ref p)) Q E s:=by
  cases kd with
  | true=>exact nl_item hp ht hy q
  | false=>exact nx_item hp ht hy q
theorem ns_end {kd:Bool}{p t:Addr}{k:Nat}{its:Array Value}{Q:Value→Shared→Prop}(hh:A.handled=none) (hp:SqI kd s.heap p t k) (ht:SqH kd s.heap t its) (hy:its[k]?=none)
    (q:∀h1 e,Heap.ExtBut p s.heap h1→(∃o,h1.get? e=some o∧o.cls=.type "StopIteration")→E (.ref e) { s with heap:=h1 }):wpAny (model prog w) A (Builtin.SmallTypes.nextOf (.ref p)) Q E s:=by
  cases kd with
  | true=>exact nl_end hh hp ht hy q
  | false=>exact nx_end hh hp ht hy q
structure Zp (z a b i j:Addr):Prop where
  az:a≠z
  bz:b≠z
  iz:i≠z
  jz:j≠z
  ab:a≠b
  ai:a≠i
  aj:a≠j
  bi:b≠i
  bj:b≠j
  ij:i≠j
structure Zs (kd:Bool) (h:Heap) (z a b i j t u:Addr) (k:Nat):Prop where
  hz:IsZip h z a b .none
  ha:IsPair h a (.ref i) (.ref j)
  hb:∃x y,IsPair h b x y
  hi:SqI kd h i t k
  hj:h.IsTupleIter j u k
theorem tup_but {h h':Heap}{p t:Addr}{its:Array Value}(ht:h.IsTuple t its) (hs:Heap.SameBut p h h') (ne:t≠p):h'.IsTuple t its:=ht.extBut hs.extBut ne
theorem zp_next {kd:Bool}{z a b i j t u:Addr}{k:Nat}{xs ys:Array Value}{x y:Value}{Q:Option Value→Shared→Prop}(D:Zp z a b i j) (S:Zs kd s.heap z a b i j t u k) (ht:SqH kd s.heap t xs) (hu:s.heap.IsTuple u ys)
    (nt:t∉[z,a,b,i,j]) (nu:u∉[z,a,b,i,j]) (hx:xs[k]?=some x) (hy:ys[k]?=some y)
    (q:∀h',IsZip h' z a b (rawInt s.heap.objs.size)→(∃x y,IsPair h' b x y)→SqI kd h' i t (k+1)→h'.IsTupleIter j u (k+1)→IsPair h' s.heap.objs.size x y→h'.objs.size=s.heap.objs.size+1 →
      (∀c o,c∉[z,b,i,j]→s.heap.get? c=some o→h'.get? c=some o)→Q (some (.ref s.heap.objs.size)) { s with heap:=h' }):wpAny (model prog w) A (pyNext (.ref z)) Q E s:=by
  obtain⟨hz,ha,⟨x0,y0,hb⟩,hi,hj⟩:=S
  simp only [List.mem_cons,List.not_mem_nil,or_false,not_or] at nt nu
  obtain⟨tz,ta,tb,ti,tj⟩:=nt
  obtain⟨uz,ua,ub,ui,uj⟩:=nu
  have hT:s.TypeIs (.ref z) "zip":=⟨_,hz,rfl⟩
  unfold pyNext
  refine wpAny_bind (wpAny_attempt (wpAny_callSpecial?_slot (name:=Str.ofString "__next__") hT F.slot_zip_next (wpAny_call_entry F.slot_zip_next hT F.entry_zip_next ?_ (F.args_zip_next_1 _))))
  show wpAny _ _ (field (.ref z) 2 >>= _) _ _ _
  refine wpAny_bind (wpAny_field hz rfl (x:=.bool false) rfl ?_);show wpAny _ _ (field (.ref z) 3 >>= _) _ _ _
  refine wpAny_bind (wpAny_field hz rfl (x:=.ref a) rfl ?_);refine wpAny_bind (wpAny_seqItems ha rfl ?_)
  show wpAny _ _ (Builtin.SmallTypes.ownedTupleIsFree (.ref z) >>= _) _ _ _
  refine wpAny_bind ?_;unfold Builtin.SmallTypes.ownedTupleIsFree
  refine wpAny_bind (wpAny_field hz rfl (x:=.none) rfl (wpAny_pure ?_));simp only [if_true]
  refine wpAny_bind (wpAny_rule ?_);refine wpAny_bind (wpAny_field hz rfl (x:=.ref b) rfl ?_)
  refine wpAny_bind (wpAny_setField_rec hz (by simp) λh1 z1 s1=>?_)
  replace z1:IsZip h1 z a b .ellipsis:=z1
  refine wpAny_bind ?_
  simp only [List.zipIdx_cons,List.zipIdx_nil,List.forIn_nil,List.forIn_cons]
  refine wpAny_bind (wpAny_bind (wpAny_onRaise ?_));show wpAny _ _ (Builtin.SmallTypes.nextOf (.ref i) >>= _) _ _ _
  refine wpAny_bind (ns_item (hi.extBut s1.extBut D.iz) (ht.but s1 tz) hx λh2 i2 s2=>wpAny_pure ?_)
  have b2:IsPair h2 b x0 y0:=s2.extBut _ _ D.bi (s1.extBut _ _ D.bz hb)
  refine wpAny_bind (wpAny_seqItems b2 rfl ?_)
  refine wpAny_bind (wpAny_updateSeq_pair b2 λh3 b3 s3=>?_)
  replace b3:IsPair h3 b x y0:=b3
  refine wpAny_bind (wpAny_letGo (wpAny_pure ?_));refine wpAny_bind (wpAny_bind (wpAny_onRaise ?_))
  show wpAny _ _ (Builtin.SmallTypes.nextOf (.ref j) >>= _) _ _ _
  refine wpAny_bind (nx_item (((hj.extBut s1.extBut D.jz).extBut s2.extBut D.ij.symm).extBut s3.extBut D.bj.symm) (tup_but (tup_but (tup_but hu s1 uz) s2 ui) s3 ub) hy λh4 j4 s4=>wpAny_pure ?_)
  have b4:IsPair h4 b x y0:=s4.extBut _ _ D.bj b3
  refine wpAny_bind (wpAny_seqItems b4 rfl ?_)
  refine wpAny_bind (wpAny_updateSeq_pair b4 λh5 b5 s5=>?_)
  replace b5:IsPair h5 b x y:=b5
  refine wpAny_bind (wpAny_letGo (wpAny_pure (wpAny_pure ?_)));refine wpAny_bind (wpAny_seqItems b5 rfl ?_)
  refine wpAny_bind (wpAny_newTuple ?_)
  have hsz:h5.objs.size=s.heap.objs.size:=by rw [s5.1,s4.1,s3.1,s2.1,s1.1]
  have z5:IsZip h5 z a b .ellipsis:=s5.extBut _ _ D.bz.symm (s4.extBut _ _ D.jz.symm (s3.extBut _ _ D.bz.symm (s2.extBut _ _ D.iz.symm z1)))
  have k5:∀c o,c∉[z,b,i,j]→s.heap.get? c=some o→h5.get? c=some o:=λc o hc e=>by
    simp only [List.mem_cons,List.not_mem_nil,or_false,not_or] at hc
    exact s5.extBut _ _ hc.2.1 (s4.extBut _ _ hc.2.2.2 (s3.extBut _ _ hc.2.1 (s2.extBut _ _ hc.2.2.1 (s1.extBut _ _ hc.1 e))))
  have i5:SqI kd h5 i t (k+1):=((i2.extBut s3.extBut D.bi.symm).extBut s4.extBut D.ij).extBut s5.extBut D.bi.symm
  have j5:h5.IsTupleIter j u (k+1):=j4.extBut s5.extBut D.bj.symm
  have lz:z<h5.objs.size:=Heap.lt_size z5
  show wpAny _ _ (Builtin.SmallTypes.ownedTupleHandOut (.ref z) (.ref h5.objs.size) >>= _) _ _ _
  refine wpAny_bind ?_;unfold Builtin.SmallTypes.ownedTupleHandOut
  have z6:IsZip (h5.push { cls:=.type "tuple",data:=.seq #[x,y] }) z a b .ellipsis:=Heap.get?_push_of_some _ z5
  refine wpAny_bind (wpAny_setField_rec z6 (by simp) λh7 z7 s7=>?_)
  replace z7:IsZip h7 z a b (rawInt h5.objs.size):=z7
  refine wpAny_setField_rec z7 (by simp) λh8 z8 s8=>?_
  replace z8:IsZip h8 z a b (rawInt h5.objs.size):=z8
  have up:∀c o,c≠z→h5.get? c=some o→h8.get? c=some o:=λc o c1 e=>s8.extBut _ _ c1 (s7.extBut _ _ c1 (Heap.get?_push_of_some _ e))
  have t8:IsPair h8 h5.objs.size x y:=s8.extBut _ _ (Nat.ne_of_gt lz) (s7.extBut _ _ (Nat.ne_of_gt lz) (Heap.get?_push_size _ rfl))
  have n8:h8.objs.size=h5.objs.size+1:=by rw [s8.1,s7.1,Heap.size_push]
  rw [hsz] at z8 t8 n8
  refine wpAny_pure ⟨_,rfl,wpAny_pure ?_⟩
  show Q (some (.ref h5.objs.size)) _
  rw [hsz]
  refine q h8 z8 ⟨_,_,up _ _ D.bz b5⟩ (i5.at λo e=>up _ o D.iz e) (j5.at λo e=>up _ o D.jz e) t8 n8 λc o hc e=>up c o (λr=>hc (by simp [r])) (k5 c o hc e)
theorem zp_stop {kd:Bool}{z a b i j t u:Addr}{k:Nat}{xs ys:Array Value}{Q:Option Value→Shared→Prop}(hh:A.handled=none) (D:Zp z a b i j) (S:Zs kd s.heap z a b i j t u k) (ht:SqH kd s.heap t xs) (hu:s.heap.IsTuple u ys)
    (nt:t∉[z,a,b,i,j]) (nu:u∉[z,a,b,i,j]) (hend:xs[k]?=none∨ys[k]?=none)
    (q:∀h',(∀c o,c∉[z,b,i,j]→s.heap.get? c=some o→h'.get? c=some o)→Q none { s with heap:=h' }):wpAny (model prog w) A (pyNext (.ref z)) Q E s:=by
  obtain⟨hz,ha,⟨x0,y0,hb⟩,hi,hj⟩:=S
  simp only [List.mem_cons,List.not_mem_nil,or_false,not_or] at nt nu
  obtain⟨tz,ta,tb,ti,tj⟩:=nt
  obtain⟨uz,ua,ub,ui,uj⟩:=nu
  have hT:s.TypeIs (.ref z) "zip":=⟨_,hz,rfl⟩
  unfold pyNext
  refine wpAny_bind (wpAny_attempt (wpAny_callSpecial?_slot (name:=Str.ofString "__next__") hT F.slot_zip_next (wpAny_call_entry F.slot_zip_next hT F.entry_zip_next ?_ (F.args_zip_next_1 _))))
  show wpAny _ _ (field (.ref z) 2 >>= _) _ _ _
  refine wpAny_bind (wpAny_field hz rfl (x:=.bool false) rfl ?_);show wpAny _ _ (field (.ref z) 3 >>= _) _ _ _
  refine wpAny_bind (wpAny_field hz rfl (x:=.ref a) rfl ?_);refine wpAny_bind (wpAny_seqItems ha rfl ?_)
  show wpAny _ _ (Builtin.SmallTypes.ownedTupleIsFree (.ref z) >>= _) _ _ _
  refine wpAny_bind ?_;unfold Builtin.SmallTypes.ownedTupleIsFree
  refine wpAny_bind (wpAny_field hz rfl (x:=.none) rfl (wpAny_pure ?_));simp only [if_true]
  refine wpAny_bind (wpAny_rule ?_);refine wpAny_bind (wpAny_field hz rfl (x:=.ref b) rfl ?_)
  refine wpAny_bind (wpAny_setField_rec hz (by simp) λh1 z1 s1=>?_)
  replace z1:IsZip h1 z a b .ellipsis:=z1
  refine wpAny_bind ?_
  simp only [List.zipIdx_cons,List.zipIdx_nil,List.forIn_nil,List.forIn_cons]
  refine wpAny_bind (wpAny_bind (wpAny_onRaise ?_));show wpAny _ _ (Builtin.SmallTypes.nextOf (.ref i) >>= _) _ _ _
  cases hx:xs[k]? with
  | none =>
    refine wpAny_bind (ns_end hh (hi.extBut s1.extBut D.iz) (ht.but s1 tz) hx λh2 e s2 he=>?_)
    obtain⟨oe,hoe,hce⟩:=he
    have z2:IsZip h2 z a b .ellipsis:=s2 _ _ D.iz.symm z1
    have ez:e≠z:=λr=>by subst r;rw [z2] at hoe;cases hoe;simp at hce
    refine wpAny_setField_rec z2 (by simp) λh3 _ s3=>wpAny_bind (wpAny_isInstance (T:="StopIteration") (b:=true) ⟨oe,s3.extBut _ _ ez hoe,hce⟩ isSubtype_stop (wpAny_pure (q _ λc o hc r=>?_)))
    simp only [List.mem_cons,List.not_mem_nil,or_false,not_or] at hc
    exact s3.extBut _ _ hc.1 (s2 _ _ hc.2.2.1 (s1.extBut _ _ hc.1 r))
  | some x =>
    have hy:ys[k]?=none:=by rcases hend with r|r;rw [hx] at r;cases r;exact r
    refine wpAny_bind (ns_item (hi.extBut s1.extBut D.iz) (ht.but s1 tz) hx λh2 i2 s2=>wpAny_pure ?_)
    have b2:IsPair h2 b x0 y0:=s2.extBut _ _ D.bi (s1.extBut _ _ D.bz hb)
    refine wpAny_bind (wpAny_seqItems b2 rfl ?_)
    refine wpAny_bind (wpAny_updateSeq_pair b2 λh3 b3 s3=>?_)
    refine wpAny_bind (wpAny_letGo (wpAny_pure ?_));refine wpAny_bind (wpAny_bind (wpAny_onRaise ?_))
    show wpAny _ _ (Builtin.SmallTypes.nextOf (.ref j) >>= _) _ _ _
    refine wpAny_bind (nx_end hh (((hj.extBut s1.extBut D.jz).extBut s2.extBut D.ij.symm).extBut s3.extBut D.bj.symm) (tup_but (tup_but (tup_but hu s1 uz) s2 ui) s3 ub) hy λh4 e s4 he=>?_)
    obtain⟨oe,hoe,hce⟩:=he
    have z4:IsZip h4 z a b .ellipsis:=s4 _ _ D.jz.symm (s3.extBut _ _ D.bz.symm (s2.extBut _ _ D.iz.symm z1))
    have ez:e≠z:=λr=>by subst r;rw [z4] at hoe;cases hoe;simp at hce
    refine wpAny_setField_rec z4 (by simp) λh5 _ s5=>wpAny_bind (wpAny_isInstance (T:="StopIteration") (b:=true) ⟨oe,s5.extBut _ _ ez hoe,hce⟩ isSubtype_stop (wpAny_pure (q _ λc o hc r=>?_)))
    simp only [List.mem_cons,List.not_mem_nil,or_false,not_or] at hc
    exact s5.extBut _ _ hc.1 (s4 _ _ hc.2.2.2 (s3.extBut _ _ hc.2.1 (s2.extBut _ _ hc.2.2.1 (s1.extBut _ _ hc.1 r))))
end
end Dw
namespace Dw
open PySem PySem.Spec PyProof.Rows L2
section
variable {X:Cx}{pins:List (Addr×Obj)}{σ:L2.St}{H:Hp}{s:Shared}{h':Heap}{fp:List Addr}
theorem turnN {t':Nat}(I:Inv X pins σ H s) (hf:∀b∈fp,FpOk X pins H b) (k:∀b o,b∉fp→s.heap.get? b=some o→h'.get? b=some o):Inv X pins σ H { s with heap:=h',toks:=t' }:=by
  have nit:∀b u,H b=some u→b∉fp:=λb u e z=>by have:=(hf b z).1;rw [this] at e;cases e
  refine I.step (g':=s.gens) (d':=s.drawn) (ch:=fp) (λb hb=>?_) (λb o _ _ hc e _=>k b o hc e) (λb o _ _ hc e _=>⟨o.slots,k b o hc e⟩) (λ_ _ _ _ n=>n) (λb o hc e=>⟨o,k b o hc e⟩) (λ_ _ e=>e) (λ_ _ _ e=>e) (λb ps e=>⟨#[],by rw [e];simp⟩) (λm hm=>?_) (λb u e=>?_) I.bare
  · obtain⟨f0,f1,f2,f3,f4,f5⟩:=hf b hb
    exact⟨f3,f1,f4,f5⟩
  · obtain⟨o,es,ep,ho,r⟩:=hm
    exact⟨o,es,ep,k _ o (λz=>(hf _ z).2.1 rfl) ho,r⟩
  · refine (I.hok b u e).stay (λc v hc q=>k c v ?_ q) (λ_ q=>q) (λ_ _ q=>q) λ_ _ _ q=>q
    rcases hc with z|z
    · rw [z];exact nit b u e
    · exact nit c _ z
theorem turnL {t':Nat}{T:Addr}{o:HO}(I:Inv X pins σ H s) (hf:∀b∈fp,FpOk X pins H b) (k:∀b o,b∉fp→s.heap.get? b=some o→h'.get? b=some o) (hT:s.heap.objs.size≤T) (new:ObjOk X.prog X.w (upd H T o) h' T o):Inv X pins σ (upd H T o) { s with heap:=h',toks:=t' }:=by
  have hn:H T=none:=I.hok.fresh hT
  have neT:∀b ob,s.heap.get? b=some ob→b≠T:=λb ob e=>Nat.ne_of_lt (Nat.lt_of_lt_of_le (Heap.lt_size e) hT)
  have nit:∀b u,H b=some u→b∉fp:=λb u e z=>by have:=(hf b z).1;rw [this] at e;cases e
  refine I.step (g':=s.gens) (d':=s.drawn) (ch:=fp) (λb hb=>?_) (λb o _ _ hc e _=>k b o hc e) (λb o _ _ hc e _=>⟨o.slots,k b o hc e⟩) (λb ob _ e n=>by rw [upd_ne (neT b ob e)];exact n) (λb o hc e=>⟨o,k b o hc e⟩)
    (λb xs e=>by rw [upd_ne (ne_of_none e hn)];exact e) (λb ob u e=>by rw [upd_ne (ne_of_none e hn)];exact e) (λb ps e=>⟨#[],by rw [upd_ne (ne_of_none e hn),e];simp⟩) (λm hm=>?_) (λb u e=>?_) I.bare
  · obtain⟨f0,f1,f2,f3,f4,f5⟩:=hf b hb
    exact⟨f3,f1,f4,f5⟩
  · obtain⟨o,es,ep,ho,r⟩:=hm
    exact⟨o,es,ep,k _ o (λz=>(hf _ z).2.1 rfl) ho,r⟩
  · by_cases hb:b=T
    · subst hb;rw [upd_same] at e;cases e;exact new
    · rw [upd_ne hb] at e
      refine (I.hok b u e).stay (λc v hc q=>k c v ?_ q) (λc q=>by rw [upd_ne (ne_of_none q hn)];exact q) (λc xs q=>by rw [upd_ne (ne_of_none q hn)];exact q) λc ob u q=>by rw [upd_ne (ne_of_none q hn)];exact q
      rcases hc with z|z
      · rw [z];exact nit b u e
      · exact nit c _ z
theorem not_fp (I:Inv X pins σ H s) (hf:∀b∈fp,FpOk X pins H b) {a:Addr}{xs:List V}(h:SqT X.K H a xs):a∉fp:=λz=>by
  obtain⟨f0,f1,f2,f3,f4,f5⟩:=hf a z
  rcases h with (h|⟨o,h⟩)|⟨o,its,n,hk,_⟩
  · rw [f0] at h;cases h
  · rw [f0] at h;cases h
  · have hb:=I.ok.mod.kin a o hk
    rcases f3 with q|q
    · exact I.ok.noex a o hb q
    · exact absurd (Nat.lt_of_lt_of_le (Heap.lt_size (I.ok.bs a o hb).1) q) (Nat.lt_irrefl _)
end
theorem not_fpL {X:Cx}{pins:List (Addr×Obj)}{σ:L2.St}{H:Hp}{s:Shared}{fp:List Addr}(I:Inv X pins σ H s) (hf:∀b∈fp,FpOk X pins H b) {a:Addr}{xs:List V}(h:SqL X.K H a xs):a∉fp:=λz=>by
  obtain⟨f0,f1,f2,f3,f4,f5⟩:=hf a z
  rcases h with (h|⟨o,h⟩)|⟨o,its,n,hk,_⟩
  · rw [f0] at h;cases h
  · rw [f0] at h;cases h
  · have hb:=I.ok.mod.kin a o hk
    rcases f3 with q|q
    · exact I.ok.noex a o hb q
    · exact absurd (Nat.lt_of_lt_of_le (Heap.lt_size (I.ok.bs a o hb).1) q) (Nat.lt_irrefl _)
noncomputable def SqK:Bool→PySem.W.Frag→Hp→Addr→List V→Prop
  | true,K,H,a,xs=>SqL K H a xs
  | false,K,H,a,xs=>SqT K H a xs
section
variable {X:Cx}{pins:List (Addr×Obj)}{σ:L2.St}{H:Hp}{s:Shared}{fp:List Addr}{a:Addr}{xs ys:List V}{kd:Bool}
theorem SqK.its (I:Inv X pins σ H s) (h:SqK kd X.K H a xs):∃its,Vals xs its∧SqH kd s.heap a its.toArray∧xs.length≤sizeLine:=by
  cases kd with
  | true=>obtain⟨its,r,p,z⟩:=I.list h;exact⟨its,r,p.isList,z⟩
  | false=>obtain⟨its,r,p,z⟩:=I.tuple h;exact⟨its,r,p,z⟩
theorem SqK.nfp (I:Inv X pins σ H s) (hf:∀b∈fp,FpOk X pins H b) (h:SqK kd X.K H a xs):a∉fp:=by
  cases kd with
  | true=>exact not_fpL I hf h
  | false=>exact not_fp I hf h
theorem SqK.inj (I:Inv X pins σ H s) (h:SqK kd X.K H a xs) (h':SqK kd X.K H a ys):xs=ys:=by
  cases kd with
  | true=>exact I.list_inj h h'
  | false=>exact I.tuple_inj h h'
end
noncomputable def Itz (kd:Bool) (K:PySem.W.Frag) (a b:Addr):It:=
  ⟨λi H=>∃xs ys x y,SqK kd K H a xs∧SqT K H b ys∧xs[i]?=some x∧ys[i]?=some y,
   λi H v H'=>∃T x y,H T=none∧v=.ref T∧(∀xs,SqK kd K H a xs→xs[i]?=some x)∧(∀ys,SqT K H b ys→ys[i]?=some y)∧H'=upd H T (.tup [x,y]),
   λi H=>∃xs ys,SqK kd K H a xs∧SqT K H b ys∧(xs.length≤i∨ys.length≤i)⟩
theorem turn_zip {kd:Bool}{P:Program}{w:World}{K:PySem.W.Frag}{es:List Expr}{kk:Nat}{pos:Pos}{z p q i j:Addr}(a b:Addr) (D:Zp z p q i j):Turn P w K (.Tuple es kk pos) (Itz kd K a b) [z,p,q,i,j] z (λk h=>Zs kd h z p q i j a b k) where
  mem:=by simp
  obj:=λk h S c hc=>by
    obtain⟨hz,hp,⟨x,y,hq⟩,hi,hj⟩:=S
    simp only [List.mem_cons,List.not_mem_nil,or_false] at hc
    rcases hc with rfl|rfl|rfl|rfl|rfl
    · exact⟨_,hz,λv r=>by have r':Data.fields _=Data.cell v:=r;cases r'⟩
    · exact⟨_,hp,λv r=>by have r':Data.seq _ _=Data.cell v:=r;cases r'⟩
    · exact⟨_,hq,λv r=>by have r':Data.seq _ _=Data.cell v:=r;cases r'⟩
    · exact hi.rec'
    · obtain⟨o,e,c,d⟩:=hj;exact⟨o,e,λv r=>by rw [d] at r;cases r⟩
  keep:=λk h h' S kp=>by
    obtain⟨hz,hp,⟨x,y,hq⟩,hi,hj⟩:=S
    exact⟨kp z (by simp) _ hz,kp p (by simp) _ hp,⟨x,y,kp q (by simp) _ hq⟩,hi.at λo e=>kp i (by simp) o e,hj.at λo e=>kp j (by simp) o e⟩
  item:=by
    intro X hP hw hK hc k pins s σ H E I hf S hg
    subst hP hw hK
    obtain⟨xs,ys,x,y,ha,hb,hx,hy⟩:=hg
    obtain⟨i1,r1,p1,z1⟩:=ha.its I
    obtain⟨i2,r2,p2,z2⟩:=I.tuple hb
    obtain⟨u,hu,ru⟩:=r1.get hx
    obtain⟨v,hv,rv⟩:=r2.get hy
    have na:=ha.nfp I hf
    have nb:=not_fp I hf hb
    refine zp_next D S p1 (show s.heap.IsTuple b i2.toArray from p2) na nb (x:=u) (y:=v) (by simpa using hu) (by simpa using hv) λh' e1 e2 e3 e4 e5 e6 kp=>?_
    refine⟨_,rfl,wpAny_letOwnedTupleGo_zip e1 λh2 f1 f2=>?_⟩
    have ltz:z<s.heap.objs.size:=Heap.lt_size S.hz
    have nT:s.heap.objs.size≠z:=Nat.ne_of_gt ltz
    have kp2:∀c o,c∉[z,p,q,i,j]→s.heap.get? c=some o→h2.get? c=some o:=λc o hc e=>by
      simp only [List.mem_cons,List.not_mem_nil,or_false,not_or] at hc
      exact f2.extBut _ _ hc.1 (kp c o (by simp [hc]) e)
    have hpp:s.heap.get? p=some _:=S.ha
    have I2:=turnL (t':=s.toks) (T:=s.heap.objs.size) (o:=.tup [x,y]) I hf kp2 (Nat.le_refl _) ⟨by show 2≤sizeLine;decide,[u,v],.cons ru (.cons rv .nil),⟨_,f2.extBut _ _ nT e5,rfl,_,rfl⟩⟩
    have hn:H s.heap.objs.size=none:=I.hok.fresh (Nat.le_refl _)
    obtain⟨x1,y1,e2⟩:=e2
    refine⟨.ref s.heap.objs.size,upd H s.heap.objs.size (.tup [x,y]),I2,rfl,⟨_,x,y,hn,rfl,λzs hz=>by rw [SqK.inj I hz ha];exact hx,λzs hz=>by rw [I.tuple_inj hz hb];exact hy,rfl⟩,
      ⟨f1,f2.extBut _ _ D.az (kp _ _ (by simp [D.az,D.ab,D.ai,D.aj]) S.ha),⟨x1,y1,f2.extBut _ _ D.bz e2⟩,e3.extBut f2.extBut D.iz,e4.extBut f2.extBut D.jz⟩,λc hc=>?_⟩
    have hlt:c<s.heap.objs.size:=by
      obtain⟨hz,hp,⟨x,y,hq⟩,hi,hj⟩:=S
      simp only [List.mem_cons,List.not_mem_nil,or_false] at hc
      rcases hc with rfl|rfl|rfl|rfl|rfl
      · exact Heap.lt_size hz
      · exact Heap.lt_size hp
      · exact Heap.lt_size hq
      · obtain⟨o,e,_⟩:=hi.rec';exact Heap.lt_size e
      · obtain⟨o,e,_⟩:=hj;exact Heap.lt_size e
    rw [upd_ne (Nat.ne_of_lt hlt)]
    exact (hf c hc).1
  done:=by
    intro X hP hw hK hc k pins s σ H E I hf S hg
    subst hP hw hK
    obtain⟨xs,ys,ha,hb,he⟩:=hg
    obtain⟨i1,r1,p1,z1⟩:=ha.its I
    obtain⟨i2,r2,p2,z2⟩:=I.tuple hb
    have l1:=r1.length
    have l2:=r2.length
    refine zp_stop (I.ok.hd hc) D S p1 (show s.heap.IsTuple b i2.toArray from p2) (ha.nfp I hf) (not_fp I hf hb) (by
      rcases he with r|r
      · exact .inl (by simp;omega)
      · exact .inr (by simp;omega)) λh' kp=>⟨rfl,turnN (t':=s.toks) I hf λc o hc e=>kp c o (by simp at hc ⊢;simp [hc]) e⟩
  self:=λ_ _ _ _ _ S h=>wpAny_pyIter_zip S.hz h
noncomputable def SqF:Bool→PySem.W.Frag→Hp→Fz→Addr→List V→Prop
  | true,K,H,F,a,xs=>LsR K H F a xs
  | false,K,H,_,a,xs=>SqT K H a xs
theorem SqF.keep {kd:Bool}{K:PySem.W.Frag}{H H':Hp}{F F':Fz}{a:Addr}{xs:List V}(h:SqF kd K H F a xs) (k:Keep H F H' F'):SqK kd K H' a xs:=by
  cases kd with
  | true=>exact LsR.sq (h.elim (λz=>.inl (k.lsts _ _ z.1 z.2)) .inr)
  | false=>exact h.elim (λz=>.inl (k.tups _ _ z)) .inr
theorem it_zip {kd:Bool}{K:PySem.W.Frag}{H:Hp}{F:Fz}{a b:Addr}{ds es:List D}{vs ws:List V}(ha:SqF kd K H F a vs) (hb:SqT K H b ws) (ra:RDs K H F ds vs) (rb:RDs K H F es ws):ItOk K (Itz kd K a b) H F (zipD ds es):=by
  intro H' F' k dom
  have ha':SqK kd K H' a vs:=ha.keep k
  have hb':SqT K H' b ws:=hb.elim (λz=>.inl (k.tups _ _ z)) .inr
  have ra':=RDs.mono k ra
  have rb':=RDs.mono k rb
  have la:=RDs.length ra'
  have lb:=RDs.length rb'
  refine⟨λi d hd=>?_,⟨vs,ws,ha',hb',?_⟩⟩
  · unfold zipD at hd
    rw [List.getElem?_zipWith] at hd
    cases h1:ds[i]? with
    | none=>simp [h1] at hd
    | some d1 =>
      cases h2:es[i]? with
      | none=>simp [h1,h2] at hd
      | some d2 =>
        simp [h1,h2] at hd
        subst hd
        obtain⟨v,e1,e2⟩:=RDs.get ra' h1
        obtain⟨w,e3,e4⟩:=RDs.get rb' h2
        refine⟨⟨vs,ws,v,w,ha',hb',e1,e3⟩,λx H3 y=>?_⟩
        obtain⟨T,x1,y1,hT,rfl,q1,q2,rfl⟩:=y
        have:=q1 vs ha'
        rw [e1] at this
        cases this
        have:=q2 ws hb'
        rw [e3] at this
        cases this
        obtain⟨g,rr⟩:=laid_tup (ds:=[d1,d2]) dom hT ⟨v,[w],rfl,e2,w,[],rfl,e4,rfl⟩
        exact⟨F',g,rr⟩
  · unfold zipD
    rw [List.length_zipWith]
    omega
section
variable {prog:Program}{w:World}{A:Around}{E:Value→Shared→Prop}{s:Shared}
noncomputable def itN:Bool→String
  | true=>"list_iterator"
  | false=>"tuple_iterator"
noncomputable abbrev zq1 (kd:Bool) (h:Heap) (a:Addr):Heap:=h.push { cls:=.type (itN kd),data:=.fields #[.ref a,.int 0 0] }
noncomputable abbrev zq2 (kd:Bool) (h:Heap) (a b:Addr):Heap:=(zq1 kd h a).push { cls:=.type "tuple_iterator",data:=.fields #[.ref b,.int 0 0] }
noncomputable abbrev zq3 (kd:Bool) (h:Heap) (a b:Addr):Heap:=(zq2 kd h a b).push { cls:=.type "tuple",data:=.seq #[.ref h.objs.size,.ref (zq1 kd h a).objs.size] }
noncomputable abbrev zq4 (kd:Bool) (h:Heap) (a b:Addr):Heap:=(zq3 kd h a b).push { cls:=.type "tuple",data:=.seq #[.none,.none] }
noncomputable abbrev zq5 (kd:Bool) (h:Heap) (a b:Addr):Heap:=(zq4 kd h a b).push { cls:=.type "zip",data:=.fields #[.none,.bool false,.bool false,.ref (zq2 kd h a b).objs.size,.ref (zq3 kd h a b).objs.size] }
theorem zip_made (kd:Bool) (a b:Addr) (xs ys:Array Value):Meets (Builtin.«zip.__new__» ⟨[.type "zip",.ref a,.ref b],[]⟩) (λ_ R s=>SqH kd s.heap a xs∧s.heap.IsTuple b ys∧R (.ok (.ret (.ref (zq4 kd s.heap a b).objs.size))) { s with heap:=zq5 kd s.heap a b }):=
  .of_wp λprog w A R s h=>by
    obtain⟨hp,g,d,tk,os⟩:=s;obtain⟨h1,h2,h⟩:=h;have hsub:=sub_zip
    cases kd with
    | false =>
      have H1:Heap.IsTuple (Shared.heap ⟨hp,g,d,tk,os⟩) a xs:=h1
      have H2:Heap.IsTuple (Shared.heap ⟨hp.push { cls:=.type "tuple_iterator",data:=.fields #[.ref a,.int 0 0] },g,d,tk,os⟩) b ys:=Heap.IsTuple.push h2 _
      wp_walk using wpAny_pyIter_tuple H1,wpAny_pyIter_tuple H2
      exact⟨_,rfl,h⟩
    | true =>
      have H1:Heap.IsList (Shared.heap ⟨hp,g,d,tk,os⟩) a xs:=h1
      have H2:Heap.IsTuple (Shared.heap ⟨hp.push { cls:=.type "list_iterator",data:=.fields #[.ref a,.int 0 0] },g,d,tk,os⟩) b ys:=Heap.IsTuple.push h2 _
      wp_walk using wpAny_pyIter_list H1,wpAny_pyIter_tuple H2
      exact⟨_,rfl,h⟩
theorem zip_call {kd:Bool}{a b:Addr}{xs ys:Array Value}{Q:Value→Shared→Prop}(ha:SqH kd s.heap a xs) (hb:s.heap.IsTuple b ys)
    (h:∀h',Zs kd h' (s.heap.objs.size+4) (s.heap.objs.size+2) (s.heap.objs.size+3) s.heap.objs.size (s.heap.objs.size+1) a b 0→(∀c o,s.heap.get? c=some o→h'.get? c=some o)→Q (.ref (s.heap.objs.size+4)) { s with heap:=h' }):wpAny (model prog w) A (call (.type "zip") [.ref a,.ref b]) Q E s:=by
  refine callType_new F.called_zip (by decide) (F.typeCall_zip_2 _ _) (F.newCall_zip_2 _ _) (λobj=>F.args_object_init_3 obj _ _) F.entry_zip_new (zip_made kd a b xs ys) ⟨ha,hb,?_⟩
  have z1:(zq1 kd s.heap a).objs.size=s.heap.objs.size+1:=Heap.size_push ..
  have z2:(zq2 kd s.heap a b).objs.size=s.heap.objs.size+2:=by rw [Heap.size_push,z1]
  have z3:(zq3 kd s.heap a b).objs.size=s.heap.objs.size+3:=by rw [Heap.size_push,z2]
  have z4:(zq4 kd s.heap a b).objs.size=s.heap.objs.size+4:=by rw [Heap.size_push,z3]
  have g5:(zq5 kd s.heap a b).get? (zq4 kd s.heap a b).objs.size=some _:=Heap.get?_push_size _ rfl
  have g4:(zq5 kd s.heap a b).get? (zq3 kd s.heap a b).objs.size=some _:=Heap.get?_push_of_some _ (Heap.get?_push_size _ rfl)
  have g3:(zq5 kd s.heap a b).get? (zq2 kd s.heap a b).objs.size=some _:=Heap.get?_push_of_some _ (Heap.get?_push_of_some _ (Heap.get?_push_size _ rfl))
  have g2:(zq5 kd s.heap a b).get? (zq1 kd s.heap a).objs.size=some _:=Heap.get?_push_of_some _ (Heap.get?_push_of_some _ (Heap.get?_push_of_some _ (Heap.get?_push_size _ rfl)))
  have g1:(zq5 kd s.heap a b).get? s.heap.objs.size=some _:=Heap.get?_push_of_some _ (Heap.get?_push_of_some _ (Heap.get?_push_of_some _ (Heap.get?_push_of_some _ (Heap.get?_push_size _ rfl))))
  show _∧_
  rw [z2,z3,z4] at g5;rw [z1,z2] at g3;rw [z3] at g4;rw [z1] at g2;rw [z4]
  exact⟨⟨_,g5,rfl⟩,h _ ⟨g5,g3,⟨_,_,g4⟩,(by cases kd with|true=>exact⟨_,g1,rfl,rfl⟩|false=>exact⟨_,g1,rfl,rfl⟩),⟨_,g2,rfl,rfl⟩⟩ λc o x=>Heap.get?_push_of_some _ (Heap.get?_push_of_some _ (Heap.get?_push_of_some _ (Heap.get?_push_of_some _ (Heap.get?_push_of_some _ x))))⟩
end
theorem zp_apart (n:Nat):Zp (n+4) (n+2) (n+3) n (n+1):=by
  constructor<;>(intro h;have h':(_:Nat)=_:=h;omega)
section
variable {X:Cx}
theorem boot_zip:bootBuiltins (Str.ofString "zip")=some (.type "zip"):=by decide +kernel
noncomputable def iZip (K:PySem.W.Frag) (ta:TA):TI:=fun σ H R=>ta σ H λvs H1=>∃(kd:Bool) (a b:Addr) (xs ys:List V),vs=[.ref a,.ref b]∧SqK kd K H1 a xs∧SqT K H1 b ys∧(xs.length≤sizeLine→R (Itz kd K a b) H1)
theorem pi_zip {es:List Expr}{kk:Nat}{tp:Pos}{x:Str}{a b:Expr}{ta:TA}{p pos:Pos}(hx:x=Str.ofString "zip") (hg:Gl X x) (hm:X.mg x=none) (ha:PA X [a,b] ta) (hs:starEach [a,b] X.env=[(false,eval a X.env),(false,eval b X.env)]) (hs2:starEach [b] X.env=[(false,eval b X.env)]) :
    PI X (.Tuple es kk tp) (.Call (.Name x p) [a,b] [] pos) (iZip X.K ta):=by
  subst hx
  intro pins s σ H R I h
  refine Call_ (ld_blt I hg hm boot_zip (PyProof.Rows.callWith_type1 (thn (ha pos pins s σ H _ I h) λus s1 ⟨vs,H1,I1,r1,q1⟩=>?_) (by rw [hs,hs2]) (by rw [hs2];rfl)))
  obtain⟨kd,a1,b1,xs,ys,rfl,hx,hy,q⟩:=q1
  cases r1 with
  | cons ra rr =>
    cases rr with
    | cons rb rr =>
      cases rr
      cases ra
      cases rb
      obtain⟨t1,v1,p1,zl⟩:=hx.its I1
      obtain⟨t2,v2,p2,_⟩:=I1.tuple hy
      refine zip_call p1 (show s1.heap.IsTuple b1 t2.toArray from p2) λh' S kp=>wpAny_pyIter_zip S.hz ?_
      have I2:Inv X pins σ H1 { s1 with heap:=h' }:=I1.kept (t':=s1.toks) kp
      refine⟨_,[s1.heap.objs.size+4,s1.heap.objs.size+2,s1.heap.objs.size+3,s1.heap.objs.size,s1.heap.objs.size+1],_,_,H1,rfl,I2,turn_zip a1 b1 (zp_apart _),S,λc hc=>?_,q zl⟩
      have hge:s1.heap.objs.size≤c:=by
        simp only [List.mem_cons,List.not_mem_nil,or_false] at hc
        rcases hc with rfl|rfl|rfl|rfl|rfl<;>omega
      exact I1.fpOk hge (I1.hok.fresh hge)
end
end Dw
namespace Dw
open PySem PySem.Spec PyProof.Rows L2
section
open AutoSeq1 (wpAny_loadPart')
end
structure Es (kd:Bool) (h:Heap) (e i t:Addr) (k:Nat):Prop where
  he:∃old,IsEnum h e i ((k:Nat):Int) old
  hi:SqI kd h i t k
section
variable {prog:Program}{w:World}{A:Around}{E:Value→Shared→Prop}{s:Shared}
theorem SqH.at {kd:Bool}{h h':Heap}{t:Addr}{its:Array Value}(x:SqH kd h t its) (e:∀o,h.get? t=some o→h'.get? t=some o):SqH kd h' t its:=by
  cases kd with
  | true=>obtain⟨o,a,b⟩:=x;exact⟨o,e _ a,b⟩
  | false=>obtain⟨o,a,b⟩:=x;exact⟨o,e _ a,b⟩
end
section
variable {X:Cx}
end
end Dw
namespace Dw
open PySem PySem.Spec PyProof.Rows L2
noncomputable def clOf (env:Env):List (Str×NameKind)→List (Str×Addr)→List (Str×Addr)
  | [],acc=>acc
  | (n,k)::r,acc=>clOf env r (if k == .free then (n,(env.cells.lookup n).getD 0)::acc else acc)
theorem clos_go (env:Env):∀(l:List (Str×NameKind)) (acc:List (Str×Addr)),(∀y∈l,y.2=.free→∃c,env.cells.lookup y.1=some c) →
    (do
      let mut cs:=acc
      for (name,kind) in l do
        if kind == .free then cs:=(name,←cellOf env name)::cs
      return cs:Sem (List (Str×Addr)))=pure (clOf env l acc)
  | [],acc,_=>rfl
  | (n,k)::r,acc,h=>by
    have ih:=λa=>clos_go env r a λy hy=>h y (List.mem_cons_of_mem _ hy)
    simp only [List.forIn_cons]
    cases hk:k == NameKind.free with
    | true =>
      obtain⟨c,hc⟩:=h (n,k) List.mem_cons_self (by simpa using hk)
      have e:cellOf env n=pure c:=by unfold cellOf;rw [hc]
      simp only [if_true]
      rw [e]
      have:=ih ((n,c)::acc)
      simp only [clOf,hk,if_true,hc,Option.getD_some]
      exact this
    | false =>
      simp only [clOf,hk,Bool.false_eq_true,if_false]
      exact ih acc
theorem clos_of (sc:Scope) (env:Env) (h:∀y∈sc.names,y.2=.free→∃c,env.cells.lookup y.1=some c):closureFor sc env=pure (clOf env sc.names []):=clos_go env sc.names [] h
theorem clOf_look (env:Env):∀(l:List (Str×NameKind)) (acc:List (Str×Addr)) (x:Str) (c:Addr),(clOf env l acc).lookup x=some c→acc.lookup x=some c∨((x,NameKind.free)∈l∧c=(env.cells.lookup x).getD 0)
  | [],acc,x,c,h=>.inl h
  | (n,k)::r,acc,x,c,h=>by
    rcases clOf_look env r _ x c h with q|q
    · split at q
      · rename_i hk
        rw [List.lookup_cons] at q
        split at q
        · rename_i hx
          have e1:x=n:=by simpa using hx
          have e2:k=.free:=by simpa using hk
          subst e1 e2
          cases q
          exact .inr ⟨List.mem_cons_self,rfl⟩
        · exact .inl q
      · exact .inl q
    · exact .inr ⟨List.mem_cons_of_mem _ q.1,q.2⟩
theorem clOf_some (env:Env):∀(l:List (Str×NameKind)) (acc:List (Str×Addr)) (x:Str),((x,NameKind.free)∈l∨(acc.lookup x).isSome=true)→∃c,(clOf env l acc).lookup x=some c
  | [],acc,x,h=>by
    rcases h with h|h
    · cases h
    · exact Option.isSome_iff_exists.mp h
  | (n,k)::r,acc,x,h=>by
    refine clOf_some env r _ x ?_
    rcases h with h|h
    · rcases List.mem_cons.mp h with e|e
      · cases e
        exact .inr (by simp)
      · exact .inl e
    · refine .inr ?_
      split
      · rw [List.lookup_cons]
        split
        · rfl
        · exact h
      · exact h
theorem cl_of {env:Env}{sc:Scope}{x:Str}{c:Addr}(h:∀y∈sc.names,y.2=.free→∃c,env.cells.lookup y.1=some c) (e:(clOf env sc.names []).lookup x=some c):env.cells.lookup x=some c:=by
  rcases clOf_look env _ _ x c e with q|⟨q1,q2⟩
  · cases q
  · obtain⟨c',hc⟩:=h _ q1 rfl
    have hc':env.cells.lookup x=some c':=hc
    rw [q2,hc']
    rfl
theorem look_relabel {env:Env}:∀{names:List (Str×NameKind)}{x:Str},
    (names.map λ(n,k)=>if (k == NameKind.free&&env.scope.kind == .function&&env.kindOf n == some .cell) then (n,NameKind.cell) else (n,k)).lookup x =
      (names.lookup x).map λk=>if (k == NameKind.free&&env.scope.kind == .function&&env.kindOf x == some .cell) then NameKind.cell else k
  | [],x=>rfl
  | (n,k)::r,x=>by
    have ih:=@look_relabel env r x
    show List.lookup x ((if (k == NameKind.free&&env.scope.kind == .function&&env.kindOf n == some .cell)=true then (n,NameKind.cell) else (n,k))::_)=_
    cases hx:x == n with
    | true =>
      have e:x=n:=by simpa using hx
      subst e
      cases hc:(k == NameKind.free&&env.scope.kind == .function&&env.kindOf x == some .cell)<;>simp only [List.lookup_cons,hc,beq_self_eq_true,if_true,Bool.false_eq_true,if_false,Option.map_some]
    | false =>
      cases hc:(k == NameKind.free&&env.scope.kind == .function&&env.kindOf n == some .cell)<;>(simp only [List.lookup_cons,hx,if_true,Bool.false_eq_true,if_false];exact ih)
theorem rl_look (sc:Scope) (env:Env) (x:Str):(relabel sc env).names.lookup x=(sc.names.lookup x).map λk=>if (k == NameKind.free&&env.scope.kind == .function&&env.kindOf x == some .cell) then NameKind.cell else k:=look_relabel
theorem rl_local {sc:Scope}{env:Env}{x:Str}(h:sc.names.lookup x=some .local):(relabel sc env).names.lookup x=some .local:=by
  rw [rl_look,h];rfl
theorem rl_glob {sc:Scope}{env:Env}{x:Str}(h:sc.names.lookup x=some .globalImplicit):(relabel sc env).names.lookup x=some .globalImplicit:=by
  rw [rl_look,h];rfl
theorem rl_free {sc:Scope}{env:Env}{x:Str}(h:sc.names.lookup x=some .free):(relabel sc env).names.lookup x=some .cell∨(relabel sc env).names.lookup x=some .free:=by
  rw [rl_look,h]
  simp only [Option.map_some]
  split
  · exact .inl rfl
  · exact .inr rfl
theorem rl_cell {sc:Scope}{env:Env}{x:Str}(hc:∀y∈sc.names,y.2≠.cell) (h:(relabel sc env).names.lookup x=some .cell∨(relabel sc env).names.lookup x=some .free):sc.names.lookup x=some .free:=by
  rw [rl_look] at h
  cases hx:sc.names.lookup x with
  | none=>rw [hx] at h;rcases h with h|h<;>cases h
  | some k =>
    rw [hx] at h
    simp only [Option.map_some,Option.some.injEq] at h
    cases k with
    | free=>rfl
    | cell=>exact absurd rfl (hc _ (PySem.mem_of_lookup hx))
    | _=>rcases h with h|h<;>(split at h<;>first|(cases h;done)|(rename_i q;exfalso;revert q;simp;done))
noncomputable def cxComp (X:Cx) (sc:Scope) (N:List Str) (C:Addr) (s:Shared) (H:Hp) (fp:List Addr):Cx where
  prog:=X.prog
  w:=X.w
  K:=X.K
  mg:=X.mg
  base:=X.base
  A:=X.A
  N:=N
  s₀:=s
  H₀:=H
  env:=compEnvC sc (clOf X.env sc.names []) C X.env
  outer:=X.stack
  stack:=X.stack
  ex:=fp
  calm:=X.calm
  fn:=λ_=>false
  pn:=[]
  xe:=λ_ _=>False
section
variable {call:Nat→List D→Option R}{G:Gx}{k:Nat}{X:Cx}{sc sc':Scope}{N:List Str}
structure ScOk (sc:Scope):Prop where
  kind:sc.kind=.function
  cell:∀y∈sc.names,y.2≠.cell
  nd:(sc.names.map (·.1)).Nodup
  pl:∀x∈ownN sc++freeN sc,plainName x=true
theorem scope_ok (h:scopeOk sc=true):ScOk sc:=by
  unfold scopeOk at h
  simp only [Bool.and_eq_true,beq_iff_eq,List.all_eq_true,bne_iff_ne,ne_eq,decide_eq_true_eq] at h
  obtain⟨⟨⟨h1,h2⟩,h3⟩,h4⟩:=h
  exact⟨h1,h2,h3,h4⟩
theorem look_mem {l:List (Str×NameKind)}(nd:(l.map (·.1)).Nodup) {x:Str}{k:NameKind}(h:(x,k)∈l):l.lookup x=some k:=by
  induction l with
  | nil=>cases h
  | cons p r ih =>
    obtain⟨n,k'⟩:=p
    simp only [List.map_cons,List.nodup_cons] at nd
    rcases List.mem_cons.mp h with e|e
    · cases e
      simp [List.lookup_cons]
    · have hne:(x == n)=false:=by
        rw [beq_eq_false_iff_ne]
        intro z
        subst z
        exact nd.1 (List.mem_map.mpr ⟨_,e,rfl⟩)
      rw [List.lookup_cons,hne]
      exact ih nd.2 e
theorem own_mem {x:Str}:x∈ownN sc↔(x,NameKind.local)∈sc.names∧x≠Str.ofString ".0":=by
  unfold ownN
  simp only [List.mem_map,List.mem_filter,Bool.and_eq_true,beq_iff_eq,bne_iff_ne,ne_eq]
  constructor
  · rintro⟨⟨n,k⟩,⟨h1,h2,h3⟩,rfl⟩
    have h2:k=.local:=h2
    subst h2
    exact⟨h1,h3⟩
  · rintro⟨h1,h2⟩
    exact⟨_,⟨h1,rfl,h2⟩,rfl⟩
theorem free_mem {x:Str}:x∈freeN sc↔(x,NameKind.free)∈sc.names:=by
  unfold freeN
  simp only [List.mem_map,List.mem_filter,beq_iff_eq]
  constructor
  · rintro⟨⟨n,k⟩,⟨h1,h2⟩,rfl⟩
    have h2:k=.free:=h2
    subst h2
    exact h1
  · intro h
    exact⟨_,⟨h,rfl⟩,rfl⟩
theorem sub_nd {p:(Str×NameKind)→Bool}(nd:(sc.names.map (·.1)).Nodup):((sc.names.filter p).map (·.1)).Nodup:=nd.sublist ((List.filter_sublist).map _)
theorem names_nd (S:ScOk sc):(ownN sc++freeN sc).Nodup:=by
  rw [List.nodup_append]
  refine⟨sub_nd S.nd,sub_nd S.nd,λx hx y hy e=>?_⟩
  subst e
  have h1:=look_mem S.nd (own_mem.mp hx).1
  have h2:=look_mem S.nd (free_mem.mp hy)
  rw [h1] at h2
  cases h2
end
end Dw
namespace Dw
open PySem PySem.Spec PyProof.Rows L2
section
variable {call:Nat→List D→Option R}{G:Gx}{k:Nat}{X:Cx}{sc sc':Scope}{N:List Str}
noncomputable def Takes (X:Cx) (sc':Scope):Prop:=∀x,(x,NameKind.free)∈sc'.names→X.env.kindOf x=some .cell∨X.env.kindOf x=some .free
theorem takes_cells (ok:X.Ok) (h:Takes X sc'):∀y∈sc'.names,y.2=.free→∃c,X.env.cells.lookup y.1=some c:=λy hy e=>by
  obtain⟨x,kk⟩:=y
  have e:kk=.free:=e
  subst e
  exact ok.has x (h x hy)
theorem cx_ok {pins:List (Addr×Obj)}{σ:L2.St}{H:Hp}{s:Shared}{fp:List Addr}{N':List Str}(I:Inv X pins σ H s) (S:ScOk sc') (T:Takes X sc') (hf:∀b∈fp,FpOk X pins H b) (hl:∀b∈fp,b<s.heap.objs.size) :
    (cxComp X sc' N' s.heap.objs.size s H fp).Ok:=by
  have hc:=takes_cells I.ok T
  refine⟨I.ok.mod,S.kind,I.ok.glob,I.ok.blt,Nat.le_refl _,λx y c h1 h2=>?_,λx h=>?_,λx c h=>?_,I.ok.hd,I.ok.frames,.inl rfl,λb hb=>⟨Nat.ne_of_lt (hl b hb),λx c e=>?_⟩,I.bs,Nat.le_trans I.ok.bsz I.sz,λb o e hb=>?_,λb hb hs=>?_,I.stack,I.stkFree⟩
  · exact I.ok.inj x y c (cl_of hc h1) (cl_of hc h2)
  · have hx:=rl_cell S.cell h
    exact clOf_some X.env _ _ x (.inl (PySem.mem_of_lookup hx))
  · exact absurd h (by intro z;cases z)
  · exact (hf b hb).2.2.2.2.1 x c (cl_of hc e)
  · rcases (hf b hb).2.2.2.1 with q|q
    · exact I.ok.noex b o e q
    · exact absurd (Nat.lt_of_lt_of_le (Heap.lt_size (I.ok.bs b o e).1) q) (Nat.lt_irrefl _)
  · rcases List.mem_cons.mp (I.stkSub b hs) with e|e
    · exact (hf b hb).2.1 e
    · exact (hf b hb).2.2.1 e
theorem cx_start {pins:List (Addr×Obj)}{σ:L2.St}{H:Hp}{s:Shared}{fp:List Addr}{N':List Str}{h':Heap}{t':Nat}{m:Str→Option Value}(I:Inv X pins σ H s) (S:ScOk sc') (T:Takes X sc') (hf:∀b∈fp,FpOk X pins H b) (hl:∀b∈fp,b<s.heap.objs.size)
    (kp:∀b o,s.heap.get? b=some o→h'.get? b=some o) (hn:h'.Ns s.heap.objs.size m) (τ:L2.St) (hlen:τ.length=N'.length)
    (hv:∀(i:Nat) (x:Str) (v:V),N'[i]?=some x→τ[i]?=some (some v)→(x,NameKind.free)∈sc'.names∧∃j:Nat,X.N[j]?=some x∧σ[j]?=some (some v)) (hvis:∀x,(x,NameKind.free)∈sc'.names→Vis X.env.scope x) :
    Inv (cxComp X sc' N' s.heap.objs.size s H fp) (X.pn++pins) τ H { s with heap:=h',toks:=t' }:=by
  have hc:=takes_cells I.ok T
  refine⟨cx_ok I S T hf hl,rfl,I.bare,Un.kept kp,⟨m,hn,λi x v e1 e2 e3=>?_⟩,λx c e=>?_,I.hok.fresh (Nat.le_refl _),λx c e=>I.freeC x c (cl_of hc e),λp hp=>?_,I.hok.kept kp,hlen⟩
  · obtain⟨hx,j,q1,q2⟩:=hv i x v e1 e2
    obtain⟨m0,hm0,hl0⟩:=I.loc
    obtain⟨u,r,l⟩:=hl0 j x v q1 q2 (hvis x hx)
    refine⟨u,r,.inr ⟨?_,?_⟩⟩
    · exact rl_free (look_mem S.nd hx)
    · obtain⟨c,ec⟩:=clOf_some X.env _ [] x (.inl hx)
      refine⟨c,ec,?_⟩
      have ec':=cl_of hc ec
      rcases l with ⟨hk,_⟩|⟨hk,c',hc',hcell⟩
      · rcases T x hx with z|z<;>(rw [hk] at z;cases z)
      · rw [ec'] at hc'
        cases hc'
        obtain⟨o,ho,hd⟩:=hcell
        exact⟨o,kp c o ho,hd⟩
  · obtain⟨v,o,ho,hd⟩:=I.cell x c (cl_of hc e)
    exact⟨v,o,kp c o ho,hd⟩
  · have hp':p∈X.pn++pins:=hp
    obtain⟨e,n,ne,nf,d⟩:=I.pin p hp'
    refine⟨kp _ _ e,n,Nat.ne_of_lt (Heap.lt_size e),λhs=>?_,d⟩
    rcases List.mem_cons.mp (I.stkSub p.1 hs) with z|z
    · exact ne z
    · exact nf z
theorem cx_xg (g:XG call G k X sc N) (S:ScOk sc') {C:Addr}{s:Shared}{H:Hp}{fp:List Addr}:XG call G k (cxComp X sc' (ownN sc'++freeN sc') C s H fp) sc' (ownN sc'++freeN sc'):=by
  refine⟨rfl,names_nd S,λx h=>?_,λx h=>?_,λx h=>?_,λx h=>?_,g.calm,PassesOwn.never,g.room,λf i h=>?_,g.blt,g.cons,λu hu=>?_,λu hu=>?_,g.two,λc h=>⟨(g.rse c h).ex⟩,λf i h=>⟨(g.xdf f i h).ex⟩⟩
  · unfold visB at h
    simp only [Bool.or_eq_true,beq_iff_eq] at h
    rcases h with (h|h)|h
    · exact .inl (rl_local h)
    · exact absurd rfl (S.cell _ (PySem.mem_of_lookup h))
    · rcases rl_free (env:=X.env) h with q|q
      · exact .inr (.inl q)
      · exact .inr (.inr q)
  · simp only [Bool.or_eq_true,beq_iff_eq] at h
    rcases h with h|h
    · exact⟨.inl (rl_local h),.inr (rl_local h)⟩
    · exact absurd rfl (S.cell _ (PySem.mem_of_lookup h))
  · unfold glB at h
    rw [beq_iff_eq] at h
    exact rl_glob h
  · unfold capB at h
    simp only [Bool.or_eq_true,beq_iff_eq] at h
    rcases h with h|h
    · exact absurd rfl (S.cell _ (PySem.mem_of_lookup h))
    · exact rl_free h
  · obtain⟨a,fd,ps,h1,h2,h3,h4,h5⟩:=(g.defs f i h).ex
    exact⟨a,fd,ps,h1,h2,h3,h4,h5⟩
  · obtain⟨a,fd,ps,gg,gV,h1,h2,h3,h4,h5,h6,h7⟩:=(g.ucal u hu).ex
    exact⟨a,fd,ps,gg,gV,h1,h2,h3,h4,h5,h6,h7⟩
  · exact⟨(g.meth u hu).ex⟩
end
end Dw
namespace Dw
open PySem PySem.Spec PyProof.Rows L2
section
variable {call:Nat→List D→Option R}{G:Gx}{k:Nat}{X:Cx}{sc sc':Scope}{N:List Str}
variable (X) in
noncomputable def SndI (tg iter:Expr) (b:Bool) (src:En→Option (List D)):Prop:=∃wi:TI,PI X tg iter wi∧∀(Ge H:Hp) (F:Fz) (σ:En) (τ:L2.St) (its:List D) (Rr:It→Hp→Prop),src σ=some its→SR X.K Ge H F σ τ →
  (∀J H' F',Gr H F H' F'→ItOk X.K J H' F' its→(b=true→its.length≤lim)→Rr J H')→wi τ H Rr
noncomputable def iSeq (K:PySem.W.Frag) (tl:TE):TI:=fun σ H R=>tl σ H λx H1=>∃a xs,x=.ref a∧((SqL K H1 a xs∧(xs.length≤sizeLine→R (Itl K a) H1))∨(SqT K H1 a xs∧(xs.length≤sizeLine→R (Itt K a) H1)))
theorem pi_seq {tg l:Expr}{tl:TE}(hl:PE X l tl):PI X tg l (iSeq X.K tl):=by
  intro pins s σ H R I h
  refine thn (hl pins s σ H _ I h) λv s1 ⟨x,H1,I1,r1,a,xs,e,q⟩=>?_
  subst e;cases r1
  have hf:∀b∈[s1.heap.objs.size],FpOk X pins H1 b:=λb hb=>by
    have e:b=s1.heap.objs.size:=by simpa using hb
    subst e;exact I1.fpOk (Nat.le_refl _) (I1.hok.fresh (Nat.le_refl _))
  rcases q with ⟨hq,q⟩|⟨hq,q⟩
  · obtain⟨its,rv,p,hz⟩:=I1.list hq
    exact wpAny_pyIter_list p.isList ⟨s1.heap.objs.size,[s1.heap.objs.size],_,_,H1,rfl,I1.kept (t':=s1.toks) λb o e=>Heap.get?_push_of_some _ e,turn_list a _,⟨_,Heap.get?_push_size _ rfl,rfl,rfl⟩,hf,q hz⟩
  · obtain⟨its,rv,p,hz⟩:=I1.tuple hq
    exact wpAny_pyIter_tuple (show s1.heap.IsTuple a its.toArray from p) ⟨s1.heap.objs.size,[s1.heap.objs.size],_,_,H1,rfl,I1.kept (t':=s1.toks) λb o e=>Heap.get?_push_of_some _ e,turn_tuple a _,⟨_,Heap.get?_push_size _ rfl,rfl,rfl⟩,hf,q hz⟩
theorem snd_seq {tg l:Expr}{c:C}(h:SndE call X l c):SndI X tg l true (fun σ=>(evE call σ c).bind λx=>seqD x.2):=by
  obtain⟨t,p,q⟩:=h
  refine⟨_,pi_seq p,λGe H F σ τ its Rr hs hr kk=>?_⟩
  obtain⟨r,e1,e2⟩:=bind1 hs
  refine q Ge H F σ τ r _ e1 hr λv H1 F1 g rr=>?_
  obtain⟨F2,g2,rd⟩:=rr.fz g
  obtain⟨b,d⟩:=r
  cases d with
  | lst ds =>
    cases e2
    obtain⟨a,vs,rfl,hl,hrd⟩:=rd
    exact⟨a,vs,rfl,.inl ⟨hl.sq,λz=>kk _ H1 F2 g2 (it_list hl hrd) λ_=>by rw [←RDs.length hrd];exact z⟩⟩
  | tup ds =>
    cases e2
    obtain⟨a,vs,rfl,hl,hrd⟩:=rd
    exact⟨a,vs,rfl,.inr ⟨hl,λz=>kk _ H1 F2 g2 (it_tup hl hrd) λ_=>by rw [←RDs.length hrd];exact z⟩⟩
  | _=>cases e2
theorem snd_zip {es:List Expr}{kk:Nat}{tp:Pos}{x:Str}{a b:Expr}{ca cb:C}{p pos:Pos}(hx:x=Str.ofString "zip") (hg:Gl X x) (hm:X.mg x=none) (hn:[a,b].all noStar=true) (ha:SndE call X a ca) (hb:SndE call X b cb) :
    SndI X (.Tuple es kk tp) (.Call (.Name x p) [a,b] [] pos) true (fun σ=>(evE call σ ca).bind λx=>(evE call σ cb).bind λy=>(seqD x.2).bind λxs=>(tupD y.2).bind λys=>some (zipD xs ys)):=by
  simp only [List.all_cons,List.all_nil,Bool.and_true,Bool.and_eq_true] at hn
  have s2:starEach [b] X.env=[(false,eval b X.env)]:=star_cons hn.2
  have s1:starEach [a,b] X.env=[(false,eval a X.env),(false,eval b X.env)]:=(star_cons hn.1).trans (by rw [s2])
  obtain⟨ta,pa,qa⟩:=ha
  obtain⟨tb,pb,qb⟩:=hb
  refine⟨_,pi_zip hx hg hm (pa_cons pa (pa_cons pb pa_nil s2) (star_cons hn.1)) s1 s2,λGe H F σ τ its Rr hs hr kk=>?_⟩
  obtain⟨r,e1,e2⟩:=bind1 hs
  obtain⟨r',e3,e4⟩:=bind1 e2
  obtain⟨xs,e5,e6⟩:=bind1 e4
  obtain⟨ys,e7,e8⟩:=bind1 e6
  cases e8
  refine qa Ge H F σ τ r _ e1 hr λv H1 F1 g1 rr1=>?_
  obtain⟨F1',g1',rd1⟩:=rr1.fz g1
  refine qb Ge H1 F1' σ τ r' _ e3 (hr.grow g1') λw H2 F2 g2 rr2=>?_
  obtain⟨F2',g2',rd2⟩:=rr2.fz g2
  have rd1':=RD.mono g2'.keep rd1
  obtain⟨b1,d1⟩:=r
  obtain⟨b2,d2⟩:=r'
  cases d1 with
  | lst ds1 =>
    cases d2 with
    | tup ds2 =>
      cases e5
      cases e7
      obtain⟨p1,v1,rfl,h1,q1⟩:=rd1'
      obtain⟨p2,v2,rfl,h2,q2⟩:=rd2
      exact⟨true,p1,p2,v1,v2,rfl,LsR.sq h1,h2,λz=>kk _ H2 F2' (g1'.trans g2') (it_zip (kd:=true) h1 h2 q1 q2) λ_=>by
        have:=RDs.length q1
        unfold zipD
        rw [List.length_zipWith,←this]
        exact Nat.le_trans (Nat.min_le_left _ _) z⟩
    | _=>cases e7
  | tup ds1 =>
    cases d2 with
    | tup ds2 =>
      cases e5
      cases e7
      obtain⟨p1,v1,rfl,h1,q1⟩:=rd1'
      obtain⟨p2,v2,rfl,h2,q2⟩:=rd2
      exact⟨false,p1,p2,v1,v2,rfl,h1,h2,λz=>kk _ H2 F2' (g1'.trans g2') (it_zip (kd:=false) h1 h2 q1 q2) λ_=>by
        have:=RDs.length q1
        unfold zipD
        rw [List.length_zipWith,←this]
        exact Nat.le_trans (Nat.min_le_left _ _) z⟩
    | _=>cases e7
  | _=>cases e5
theorem evAP_len:∀{cs:List C}{σ:En}{ds:List D},evAP call σ cs=some ds→ds.length=cs.length
  | [],_,_,h=>by cases h;rfl
  | c::cr,σ,ds,h=>by
    obtain⟨x,e1,e2⟩:=bind1 (by simpa only [evAP_cons] using h)
    obtain⟨xs,e3,e4⟩:=bind1 e2
    cases e4
    simp [evAP_len e3]
theorem snd_rng {tg:Expr}{x:Str}{rs:List Expr}{cs:List C}{p pos:Pos}(hx:x=Str.ofString "range") (hg:Gl X x) (hm:X.mg x=none) (hn:rs.all noStar=true) (hl:rs.length=1∨rs.length=2∨rs.length=3) (hcl:cs.length=rs.length) (h:SndAP call X rs cs) :
    SndI X tg (.Call (.Name x p) rs [] pos) false (fun σ=>(evAP call σ cs).bind rngD):=by
  subst hx
  obtain⟨t,pt,q⟩:=h
  match rs,hl,hn,hcl,pt with
  | [a],_,hn,hcl,pt =>
    simp only [List.all_cons,List.all_nil,Bool.and_true] at hn
    refine⟨_,pi_range1 hg hm pt (star_cons hn),λGe H F σ τ its Rr hs hr kk=>?_⟩
    obtain⟨ds,e1,e2⟩:=bind1 hs
    have hlen:=evAP_len e1
    rw [hcl] at hlen
    refine q Ge H F σ τ ds _ e1 hr λvs H1 F1 g rr=>?_
    match ds,e2,rr,hlen with
    | [.int n],e2,rr,_ =>
      obtain⟨hc,rfl⟩:=ite_some (show (if -(2^62)≤n∧n<2^62 then some ((List.range n.toNat).map λi=>D.int (i:Nat)) else none)=some its from e2)
      obtain⟨v,rfl,hv⟩:=RPs.one rr
      have e:(List.range n.toNat).map (λi:Nat=>D.int (i:Nat))=(List.range n.toNat).map λi:Nat=>D.int (0+(i:Nat)):=by simp
      exact⟨n,by rw [hv.int],hc.1,hc.2,kk _ H1 F1 g (by rw [e];exact it_rng 0 n.toNat) λz=>nomatch z⟩
  | [a,b],_,hn,hcl,pt =>
    simp only [List.all_cons,List.all_nil,Bool.and_true,Bool.and_eq_true] at hn
    have s2:starEach [b] X.env=[(false,eval b X.env)]:=star_cons hn.2
    have s1:starEach [a,b] X.env=[(false,eval a X.env),(false,eval b X.env)]:=(star_cons hn.1).trans (by rw [s2])
    refine⟨_,pi_rangeL hg hm pt s1 s2,λGe H F σ τ its Rr hs hr kk=>?_⟩
    obtain⟨ds,e1,e2⟩:=bind1 hs
    have hlen:=evAP_len e1
    rw [hcl] at hlen
    refine q Ge H F σ τ ds _ e1 hr λvs H1 F1 g rr=>?_
    match ds,e2,rr,hlen with
    | [.int i,.int j],e2,rr,_ =>
      cases e2
      obtain⟨v,w,rfl,hv,hw⟩:=RPs.two rr
      have e:(List.range (j - i).toNat).map (λk:Nat=>D.int (i+(k:Nat)))=(List.range (j - i).toNat).map λk:Nat=>D.int (i+(k:Nat) * 1):=by
        refine List.map_congr_left λk _=>?_
        rw [Int.mul_one]
      exact⟨i,j,by rw [hv.int,hw.int],kk _ H1 F1 g (by rw [e];exact it_rngS i 1 (j - i).toNat) λz=>nomatch z⟩
  | [a,b,c],_,hn,hcl,pt =>
    simp only [List.all_cons,List.all_nil,Bool.and_true,Bool.and_eq_true] at hn
    have s3:starEach [c] X.env=[(false,eval c X.env)]:=star_cons hn.2.2
    have s2:starEach [b,c] X.env=[(false,eval b X.env),(false,eval c X.env)]:=(star_cons hn.2.1).trans (by rw [s3])
    have s1:starEach [a,b,c] X.env=[(false,eval a X.env),(false,eval b X.env),(false,eval c X.env)]:=(star_cons hn.1).trans (by rw [s2])
    refine⟨_,pi_range3 hg hm pt s1 s2,λGe H F σ τ its Rr hs hr kk=>?_⟩
    obtain⟨ds,e1,e2⟩:=bind1 hs
    have hlen:=evAP_len e1
    rw [hcl] at hlen
    refine q Ge H F σ τ ds _ e1 hr λvs H1 F1 g rr=>?_
    match ds,e2,rr,hlen with
    | [.int i,.int j,.int k],e2,rr,_ =>
      obtain⟨hc,rfl⟩:=ite_some (show (if -(2^62)≤i∧i<2^62∧-(2^62)≤j∧j<2^62∧k≠0∧k.natAbs<2^30 then some ((List.range (rszD i j k).toNat).map λn=>D.int (i+(n:Nat) * k)) else none)=some its from e2)
      obtain⟨v,w,x,rfl,hv,hw,hx⟩:=RPs.three rr
      exact⟨i,j,k,by rw [hv.int,hw.int,hx.int],hc,kk _ H1 F1 g (it_rngS i k (rszD i j k).toNat) λz=>nomatch z⟩
end
end Dw
namespace Dw
open PySem PySem.Spec PyProof.Rows L2
section
variable {call:Nat→List D→Option R}{G:Gx}{k:Nat}{X:Cx}{sc sc':Scope}{N:List Str}
theorem optAll_get {α β:Type}{f:α→Option β}:∀{l:List α}{ks:List β},optAll f l=some ks→ks.length=l.length∧∀(i:Nat) (x:α),l[i]?=some x→∃j,ks[i]?=some j∧f x=some j
  | [],ks,h=>by cases h;exact⟨rfl,λi x e=>by simp at e⟩
  | a::r,ks,h=>by
    obtain⟨b,e1,e2⟩:=bind1 (show ((f a).bind λx=>(optAll f r).bind λxs=>some (x::xs))=some ks from h)
    obtain⟨bs,e3,e4⟩:=bind1 e2
    cases e4
    obtain⟨h1,h2⟩:=optAll_get e3
    refine⟨by simp [h1],λi x e=>?_⟩
    cases i with
    | zero=>simp at e;subst e;exact⟨b,rfl,e1⟩
    | succ i=>simp at e;obtain⟨j,q1,q2⟩:=h2 i x e;exact⟨j,by simpa using q1,q2⟩
theorem cap_of {x:Str}{j:Nat}(h:capOf sc N x=some j):capB sc x=true∧N[j]?=some x∧visB sc x=true:=by
  unfold capOf at h
  split at h
  · rename_i hc
    unfold varOf at h
    split at h
    · rename_i hv
      rw [Bool.and_eq_true] at hv
      exact⟨hc,slot_get h,hv.1⟩
    · cases h
  · cases h
variable {ks:List Nat}
theorem takes_of (g:XG call G k X sc N) (hk:optAll (capOf sc N) (freeN sc')=some ks):Takes X sc':=λx hx=>by
  obtain⟨i,hi⟩:=List.mem_iff_getElem?.mp (free_mem.mpr hx)
  obtain⟨j,e1,e2⟩:=(optAll_get hk).2 i x hi
  exact g.cap x (cap_of e2).1
theorem vis_of (g:XG call G k X sc N) (hk:optAll (capOf sc N) (freeN sc')=some ks):∀x,(x,NameKind.free)∈sc'.names→Vis X.env.scope x:=λx hx=>by
  obtain⟨i,hi⟩:=List.mem_iff_getElem?.mp (free_mem.mpr hx)
  obtain⟨j,e1,e2⟩:=(optAll_get hk).2 i x hi
  exact g.vis x (cap_of e2).2.2
noncomputable def tau0 (τ:L2.St) (nl:Nat) (ks:List Nat):L2.St:=List.replicate nl none++ks.map λj=>(τ[j]?).join
theorem tau0_len (τ:L2.St) (nl:Nat):(tau0 τ nl ks).length=nl+ks.length:=by simp [tau0]
theorem tau0_get {τ:L2.St}{nl i:Nat}{v:V}(h:(tau0 τ nl ks)[i]?=some (some v)):∃m j,i=nl+m∧ks[m]?=some j∧τ[j]?=some (some v):=by
  unfold tau0 at h
  by_cases hi:i<nl
  · rw [List.getElem?_append_left (by simpa using hi),List.getElem?_replicate] at h
    split at h<;>cases h
  · rw [List.getElem?_append_right (by simpa using hi),List.getElem?_map] at h
    simp only [List.length_replicate] at h
    cases q:ks[i - nl]? with
    | none=>rw [q] at h;cases h
    | some j =>
      rw [q] at h
      refine⟨i - nl,j,by omega,q,?_⟩
      simp only [Option.map_some,Option.some.injEq] at h
      cases q2:τ[j]? with
      | none=>rw [q2] at h;cases h
      | some o=>rw [q2] at h;simpa using h
theorem tau0_at {τ:L2.St}{nl m j:Nat}{v:V}(h1:ks[m]?=some j) (h2:τ[j]?=some (some v)):(tau0 τ nl ks)[nl+m]?=some (some v):=by
  unfold tau0
  rw [List.getElem?_append_right (by simp),List.getElem?_map]
  simp [h1,h2]
theorem capt_get {σ:En}{nl i:Nat}{r:R}(h:getv (capt σ nl ks) i=some r):∃m j,i=nl+m∧ks[m]?=some j∧getv σ j=some r:=by
  unfold getv capt at h
  by_cases hi:i<nl
  · rw [List.getElem?_append_left (by simpa using hi),List.getElem?_replicate] at h
    split at h<;>cases h
  · rw [List.getElem?_append_right (by simpa using hi),List.getElem?_map] at h
    simp only [List.length_replicate] at h
    cases q:ks[i - nl]? with
    | none=>rw [q] at h;cases h
    | some j =>
      rw [q] at h
      exact⟨i - nl,j,by omega,q,by simpa using h⟩
theorem ks_inj (S:ScOk sc') (hk:optAll (capOf sc N) (freeN sc')=some ks) {m m' j:Nat}(h1:ks[m]?=some j) (h2:ks[m']?=some j):m=m':=by
  obtain⟨hl,hg⟩:=optAll_get hk
  have get:∀{m:Nat},ks[m]?=some j→∃x,(freeN sc')[m]?=some x∧N[j]?=some x:=λ{m} h=>by
    obtain⟨q,_⟩:=List.getElem?_eq_some_iff.mp h
    have hx:(freeN sc')[m]?=some (freeN sc')[m]:=List.getElem?_eq_getElem (by omega)
    obtain⟨j',e1,e2⟩:=hg m _ hx
    rw [h] at e1
    cases e1
    exact⟨_,hx,(cap_of e2).2.1⟩
  obtain⟨x,a1,a2⟩:=get h1
  obtain⟨y,b1,b2⟩:=get h2
  rw [a2] at b2
  cases b2
  exact nodup_ix (sub_nd S.nd) a1 b1
theorem sr_start (S:ScOk sc') (hk:optAll (capOf sc N) (freeN sc')=some ks) {K:PySem.W.Frag}{Ge H:Hp}{F:Fz}{σ:En}{τ:L2.St}(nl:Nat) (s:SR K Ge H F σ τ):SR K Ge H F (capt σ nl ks) (tau0 τ nl ks):=by
  refine⟨by simp [capt,tau0],s.ent,s.dom,λi d e=>?_,λi d e hd=>?_,λi i' d e h1 h2 h3=>?_,λi m ks' e=>?_,λi ns ds e=>?_,s.tb⟩
  · obtain⟨m,j,rfl,h1,h2⟩:=capt_get e
    obtain⟨v,q1,q2⟩:=s.val j d h2
    exact⟨v,tau0_at h1 q1,q2⟩
  · obtain⟨m,j,rfl,h1,h2⟩:=capt_get e
    obtain⟨a,ds,vs,q1,q2,q3⟩:=s.own j d h2 hd
    exact⟨a,ds,vs,q1,tau0_at h1 q2,q3⟩
  · obtain⟨m,j,rfl,a1,a2⟩:=capt_get h1
    obtain⟨m',j',rfl,b1,b2⟩:=capt_get h2
    obtain⟨a,u,q2,_⟩:=s.addr a2
    obtain⟨a',u',p2,_⟩:=s.addr b2
    rw [tau0_at a1 q2,tau0_at b1 p2] at h3
    have:j=j':=s.sep j j' d e a2 b2 (by rw [q2,p2,Option.some.inj h3])
    subst this
    rw [ks_inj S hk a1 b1]
  · obtain⟨m',j,rfl,h1,h2⟩:=capt_get e
    obtain⟨a,q1,q2⟩:=s.dct j m ks' h2
    exact⟨a,tau0_at h1 q1,q2⟩
  · obtain⟨m',j,rfl,h1,h2⟩:=capt_get e
    obtain⟨a,q1,q2⟩:=s.obj j ns ds h2
    exact⟨a,tau0_at h1 q1,q2⟩
theorem tg_own (S:ScOk sc') {tg:Expr}{t:Tg}(h:tgOf sc' (ownN sc'++freeN sc') tg=some t) (σ:En):∀i,(t=.one i∨∃j,t=.two i j∨t=.two j i)→getv (capt σ (ownN sc').length ks) i=none:=by
  have one:∀{x:Str} {i:Nat},(sc'.names.lookup x == some .local||sc'.names.lookup x == some .cell)=true→slotOf (ownN sc'++freeN sc') x=some i→getv (capt σ (ownN sc').length ks) i=none:=λ{x i} hx hi=>by
    cases q:getv (capt σ (ownN sc').length ks) i with
    | none=>rfl
    | some r =>
      obtain⟨m,j,rfl,h1,h2⟩:=capt_get q
      have hs:=slot_get hi
      rw [List.getElem?_append_right (by omega)] at hs
      have hm:=free_mem.mp (List.mem_of_getElem? hs)
      have:=look_mem S.nd hm
      rw [this] at hx
      simp at hx
  unfold tgOf at h
  split at h
  · rename_i x pos
    split at h
    · rename_i hx
      cases hi:slotOf (ownN sc'++freeN sc') x with
      | none=>rw [hi] at h;cases h
      | some i =>
        rw [hi] at h
        cases h
        intro i' z
        rcases z with z|⟨j,z|z⟩<;>cases z
        exact one hx hi
    · cases h
  · rename_i x p y p' kk pos
    split at h
    · rename_i hx
      rw [Bool.and_eq_true,Bool.and_eq_true] at hx
      obtain⟨⟨hx,hy⟩,hne⟩:=hx
      cases hi:slotOf (ownN sc'++freeN sc') x with
      | none=>rw [hi] at h;cases h
      | some i =>
        cases hj:slotOf (ownN sc'++freeN sc') y with
        | none=>rw [hi,hj] at h;cases h
        | some j =>
          rw [hi,hj] at h
          cases h
          intro i' z
          rcases z with z|⟨j',z|z⟩<;>cases z
          · exact one hx hi
          · exact one hy hj
    · cases h
  · cases h
end
end Dw
namespace Dw
open PySem PySem.Spec PyProof.Rows L2
section
variable {call:Nat→List D→Option R}{G:Gx}{k:Nat}{X:Cx}{sc sc':Scope}{N:List Str}{ks:List Nat}
structure Off (X:Cx) (pins:List (Addr×Obj)) (H:Hp) (C:Addr) (h:Heap):Prop where
  n:H C=none
  ne:C≠X.env.locals
  ab:X.s₀.heap.objs.size≤C
  cl:∀x c,X.env.cells.lookup x=some c→c≠C
  pn:∀p∈X.pn++pins,p.1≠C
  ns:∃m,h.Ns C m
theorem Off.let {pins:List (Addr×Obj)}{τ:L2.St}{H:Hp}{s:Shared}{C:Addr}{h':Heap}(o:Off X pins H C s.heap) (I:Inv X pins τ H s) (hs:Heap.SameBut C s.heap h'):Inv X pins τ H { s with heap:=h' }:=
  I.turned (t':=s.toks) (λb ob hb e=>hs.extBut b ob hb e) o.n o.ne (.inr o.ab) o.cl o.pn
theorem tg_bind2 {K:PySem.W.Frag}{Ge H:Hp}{F:Fz}{σ σ':En}{τ:L2.St}{t:Tg}{d:D}{v:V}(hm:∀is,t≠.many is) (s:SR K Ge H F σ τ) (hb:bindT σ t d=some σ') (hv:RD K H F d v)
    (hn:∀i,(t=.one i∨∃j,t=.two i j∨t=.two j i)→getv σ i=none):gTg K t v τ H fun τ' H'=>H'=H∧SR K Ge H F σ' τ'∧SR K Ge H F σ τ'∧∀j,getv σ j≠none→τ'[j]?=τ[j]?:=by
  cases t with
  | one i =>
    cases hb
    have n1:=hn i (.inl rfl)
    exact⟨rfl,s.bind hv,s.skip n1,λj hj=>List.getElem?_set_ne λz:i=j=>hj (by rw [←z];exact n1)⟩
  | two i j =>
    unfold bindT at hb
    split at hb
    · rename_i heq;cases heq
    · rename_i i' j' x y heq
      cases heq
      cases hb
      obtain⟨a,vs,rfl,hs,hr⟩:=hv
      obtain⟨v1,r,rfl,h1,w,r2,e2,h2,h3⟩:=hr
      have h3:r2=[]:=h3
      subst h3
      subst e2
      have n1:=hn i (.inr ⟨j,.inl rfl⟩)
      have n2:=hn j (.inr ⟨i,.inr rfl⟩)
      exact⟨a,[v1,w],rfl,hs,rfl,v1,[w],rfl,w,[],rfl,rfl,rfl,(s.bind h1).bind h2,(s.skip n1).skip n2,λq hq=>by
        rw [List.getElem?_set_ne λz:j=q=>hq (by rw [←z];exact n2),List.getElem?_set_ne λz:i=q=>hq (by rw [←z];exact n1)]⟩
    · rename_i heq;cases heq
    · cases hb
  | many is=>exact absurd rfl (hm is)
theorem comp_run (g:XG call G k X sc N) {elt tg iter:Expr}{t:Tg}{ce:C}{b:Bool}{src:En→Option (List D)}{pos p':Pos}(S:ScOk sc') (ht:tgOf sc' (ownN sc'++freeN sc') tg=some t) (hk:optAll (capOf sc N) (freeN sc')=some ks)
    (he:∀X':Cx,XG call G k X' sc' (ownN sc'++freeN sc')→SndE call X' elt ce) (hi:SndI X tg iter b src) (hfs:∀x,foldedSetIterable iter X.env x=pure x)
    {pins:List (Addr×Obj)} {s:Shared} {τ:L2.St} {H:Hp} {Ge:Hp} {F:Fz} {σ:En} {its ys:List D} {use:Option (Value→Sem Unit)} {Qv:Value→Shared→Prop}
    (I:Inv X pins τ H s) (hS:SR X.K Ge H F σ τ) (hsrc:src σ=some its) (hev:evComp call ce (capt σ (ownN sc').length ks) t its=some ys) (hlen:(b=true→its.length≤lim)→its.length≤lim)
    (hend:∀(D C:Addr) (H':Hp) (F':Fz) (s':Shared),Gr H F H' F'→RR X.K H H' F' (true,.lst ys) (.ref D)→Inv X pins τ H' s'→Off X pins H' C s'.heap→compPost (model X.prog X.w) X.A X.xe use Qv (.ref D) C (.ok .next) s') :
    wpAny (model X.prog X.w) X.A (comprehension (.ListComp elt [⟨tg,iter,[],0⟩] sc' pos) sc' X.env p' (newList []) false (eval iter X.env) use) Qv X.xe s:=by
  have T:=takes_of g hk
  have hcl:=takes_cells I.ok T
  refine wpAny_comprehension_free (use:=use) rfl hfs (clos_of sc' X.env hcl) S.kind (λx hx e=>by obtain⟨n,kk⟩:=x;have e:kk=.local:=e;subst e;exact look_mem S.nd hx) ?_
  obtain⟨wi,pi,qi⟩:=hi
  refine thn (pi pins s τ H (λJ H'=>∃F',Gr H F H' F'∧ItOk X.K J H' F' its∧its.length≤lim) I (qi Ge H F σ τ its _ hsrc hS λJ H' F' g1 ok hl=>⟨F',g1,ok,hlen hl⟩)) λv s1 h1=>thn h1 λitv s2 h2=>?_
  obtain⟨it,fp,tn,J,H2,rfl,I2,Tn,st2,f2,F2,g2,ok2,hl2⟩:=h2
  refine wpAny_newObj_type (wpAny_newFunctionEnv S.cell (by intro y hy;simp at hy) (λh3 hns hsb=>?_) S.kind)
  dsimp only at hns hsb ⊢
  have hD:H2 s2.heap.objs.size=none:=I2.hok.fresh (Nat.le_refl _)
  generalize hDe:s2.heap.objs.size=Da at hns hsb hD ⊢
  have hD0:H Da=none:=g2.same.free hD
  have lt2:∀{c:Addr} {o:Obj},s2.heap.get? c=some o→c<Da:=λe=>by rw [←hDe];exact Heap.lt_size e
  have I3:Inv X pins τ (upd H2 Da (.lst [])) { s2 with heap:=s2.heap.push { cls:=.type "list",dict:=none,data:=.seq ([]:List Value).toArray } }:=by
    subst hDe
    exact I2.laid (t':=s2.toks) (λc u e=>Heap.get?_push_of_some _ e) (Nat.le_refl _) ⟨Nat.zero_le _,[],0,.nil,Heap.get?_push_size _ rfl⟩
  generalize hHp:s2.heap.push { cls:=.type "list",dict:=none,data:=.seq ([]:List Value).toArray }=hp at hns hsb I3 ⊢
  have hCs:hp.objs.size=Da+1:=by rw [←hHp,Heap.size_push,hDe]
  have kp:∀c o,hp.get? c=some o→h3.get? c=some o:=λc o e=>hsb.extBut c o (Nat.ne_of_lt (Heap.lt_size e)) (Heap.get?_push_of_some _ e)
  have lfp:∀c∈fp,c<Da:=λc hc=>by obtain⟨o,e,_⟩:=Tn.obj _ _ st2 c hc;exact lt2 e
  have f3:∀c∈fp,FpOk X pins (upd H2 Da (.lst [])) c:=λc hc=>⟨by rw [upd_ne (Nat.ne_of_lt (lfp c hc))];exact (f2 c hc).1,(f2 c hc).2⟩
  have lf3:∀c∈fp,c<({ s2 with heap:=hp }:Shared).heap.objs.size:=λc hc=>by show c<hp.objs.size;rw [hCs];exact Nat.lt_succ_of_lt (lfp c hc)
  obtain⟨kl,kg⟩:=optAll_get hk
  have I4:Inv (cxComp X sc' (ownN sc'++freeN sc') hp.objs.size { s2 with heap:=hp } (upd H2 Da (.lst [])) fp) (X.pn++pins) (tau0 τ (ownN sc').length ks) (upd H2 Da (.lst [])) { s2 with heap:=h3,toks:=s2.toks+([]:List (Str×Value)).length }:=by
    refine cx_start (N':=ownN sc'++freeN sc') I3 S T f3 lf3 kp hns _ (by rw [tau0_len,List.length_append,kl]) (λi x v e1 e2=>?_) (vis_of g hk)
    obtain⟨m,j,rfl,q1,q2⟩:=tau0_get e2
    rw [List.getElem?_append_right (by omega)] at e1
    have e1':(freeN sc')[m]?=some x:=by rw [←e1];congr 1;omega
    obtain⟨j',r1,r2⟩:=kg m x e1'
    rw [q1] at r1
    cases r1
    exact⟨free_mem.mp (List.mem_of_getElem? e1'),j,by rw [g.hN];exact (cap_of r2).2.1,q2⟩
  have g':XG call G k (cxComp X sc' (ownN sc'++freeN sc') hp.objs.size { s2 with heap:=hp } (upd H2 Da (.lst [])) fp) sc' (ownN sc'++freeN sc'):=cx_xg g S
  have se:=he _ g'
  have pg:=snd_tg g' ht
  have tow:=tg_own (ks:=ks) S ht σ
  generalize hX':cxComp X sc' (ownN sc'++freeN sc') hp.objs.size { s2 with heap:=hp } (upd H2 Da (.lst [])) fp=X' at I4 g' se pg
  have eP:X'.prog=X.prog:=by rw [←hX'];rfl
  have ew:X'.w=X.w:=by rw [←hX'];rfl
  have eK:X'.K=X.K:=by rw [←hX'];rfl
  have eA:X'.A=X.A:=by rw [←hX'];rfl
  have eE:X'.env=compEnvC sc' (clOf X.env sc'.names []) hp.objs.size X.env:=by rw [←hX'];rfl
  have ex:X'.xe=λ_ _=>False:=by rw [←hX'];rfl
  have fpX:∀{H':Hp},(∀c∈fp,H' c=none)→∀c∈fp,FpOk X' (X.pn++pins) H' c:=λ{H'} hn c hc=>by
    obtain⟨a0,a1,a2,a3,a4,a5⟩:=f3 c hc
    rw [←hX']
    refine⟨hn c hc,Nat.ne_of_lt (lf3 c hc),λhs=>?_,.inl hc,λx cc e=>a4 x cc (cl_of hcl e),λp hp=>a5 p hp⟩
    rcases List.mem_cons.mp (I3.stkSub c hs) with z|z
    · exact a1 z
    · exact a2 z
  have loop:codeAny (model X.prog X.w) X.A (.compLoop (.ListComp elt [⟨tg,iter,[],0⟩] sc' pos) 0 (.ref it) (.ref Da) (compEnvC sc' (clOf X.env sc'.names []) hp.objs.size X.env)) (compPost (model X.prog X.w) X.A X.xe use Qv (.ref Da) hp.objs.size) { s2 with heap:=h3,toks:=s2.toks+([]:List (Str×Value)).length }:=by
    refine PySem.W.kcp_loop (λn s'=>∃(i:Nat) (τ':L2.St) (H':Hp) (F':Fz) (zs:List V),Inv X' (X.pn++pins) τ' H' s'∧tn i s'.heap∧(∀c∈fp,H' c=none)∧Gr H2 F2 H' F'∧H' Da=some (.lst zs)∧¬F' Da∧RDs X.K H' F' (ys.take i) zs∧i≤its.length∧n=its.length - i ∧
      evComp call ce (capt σ (ownN sc').length ks) t (its.drop i)=some (ys.drop i)∧zs.length=i∧SR X.K Ge H' F' (capt σ (ownN sc').length ks) τ' ∧
      ∀j d a,getv (capt σ (ownN sc').length ks) j=some (true,d)→τ'[j]?=some (some (.ref a))→a≠Da) ?_ its.length ?_
    · rintro n s' ⟨i,τ',H',F',zs,I',st',fr',gr',hd',nf',rd',hi,rfl,hev',hzl,sr',nD'⟩
      have hx':∀{α:Type} {tr:Sem α} {Q1:α→Shared→Prop} {E1:Value→Shared→Prop} {s0:Shared},wpAny (model X'.prog X'.w) X'.A tr Q1 X'.xe s0→wpAny (model X.prog X.w) X.A tr Q1 E1 s0:=λ{α tr Q1 E1 s0} h=>by
        rw [eP,ew,eA,ex] at h
        exact wpAny_mono h (λ_ _ z=>z) λ_ _ z=>z.elim
      have kd:Keep H2 F2 H' F':=gr'.keep
      obtain⟨okI,okS⟩:=ok2 H' F' kd gr'.dom
      by_cases hlt:i<its.length
      · have hdi:its[i]?=some its[i]:=List.getElem?_eq_getElem hlt
        obtain⟨go,yl⟩:=okI i _ hdi
        have hdr:its.drop i=its[i]::its.drop (i+1):=List.drop_eq_getElem_cons hlt
        rw [hdr,evComp_cons] at hev'
        obtain⟨σ1,b1,hev'⟩:=bind1 hev'
        obtain⟨y,b2,hev'⟩:=bind1 hev'
        obtain⟨ys',b3,hev'⟩:=bind1 hev'
        have hys:ys.drop i=y.2::ys':=(Option.some.inj hev').symm
        have ti:=Tn.item X' eP ew eK g'.calm i (X.pn++pins) s' τ' H' (notedBy (model X.prog X.w) X.A (compEnvC sc' (clOf X.env sc'.names []) hp.objs.size X.env) λe s'=>compPost (model X.prog X.w) X.A X.xe use Qv (.ref Da) hp.objs.size (.error e) s') I' (fpX fr') st' go
        rw [eA] at ti
        refine thn ti λr s4 ⟨u,hr,h4⟩=>?_
        subst hr
        refine thn h4 λ_ s5 ⟨x,H5,I5,r5,y5,st5,fr5⟩=>?_
        obtain⟨F5,g5,rd5⟩:=yl x H5 y5
        have I5':=I5.pinned (fpX fr5) (Tn.obj _ _ st5)
        have sr5:=sr'.grow g5
        rw [←eE]
        have a6:=pg _ s5 τ' H5 x u (fun τ6 H6=>H6=H5∧SR X.K Ge H5 F5 σ1 τ6∧SR X.K Ge H5 F5 (capt σ (ownN sc').length ks) τ6∧∀j,getv (capt σ (ownN sc').length ks) j≠none→τ6[j]?=τ'[j]?) I5' r5 (by
          rw [eK]
          exact tg_bind2 (tgOf_nm ht) sr5 b1 rd5 tow)
        refine hx' (thn a6 λ_ s6 ⟨τ6,H6,I6,e6,sr6,sc6,sm6⟩=>?_)
        subst e6
        obtain⟨te,pe,qe⟩:=se
        have a7:=pe _ s6 τ6 H6 (λv H7=>∃F7,Gr H6 F5 H7 F7∧RR X.K H6 H7 F7 y v) I6 (qe Ge H6 F5 σ1 τ6 y _ b2 (by rw [eK];exact sr6) λv H7 F7 g7 rr=>⟨F7,g7,by rw [←eK];exact rr⟩)
        refine hx' (thn a7 λvv s7 ⟨v,H7,I7,r7,F7,g7,rr7⟩=>?_)
        obtain⟨F8,g8,rd8⟩:=rr7.fz g7
        have hd7:H7 Da=some (.lst zs):=g7.same _ _ (g5.same _ _ hd')
        have nf8:¬F8 Da:=λz=>by
          rcases g8.new Da z with q|q
          · rcases g5.new Da q with q'|q'
            · exact nf' q'
            · rw [hd'] at q';cases q'
          · rw [g5.same _ _ hd'] at q;cases q
        have a8:=mt_append (X:=X') _ s7 τ6 H7 (.ref Da) [v] (.ref Da) [vv] (λ_ H9=>H9=upd H7 Da (.lst (zs++[v]))) I7 rfl (.cons r7 .nil) ⟨Da,zs,v,rfl,rfl,hd7,Nat.lt_of_lt_of_le (by omega) hl2,rfl⟩
        refine hx' (thn a8 λ_ s9 ⟨_,H9,I9,_,e9⟩=>?_)
        subst e9
        have k8:Keep H7 F8 (upd H7 Da (.lst (zs++[v]))) F8:=⟨λp xs h=>by
          have ne:p≠Da:=λz=>by
            subst z
            rcases h with h|⟨o,h⟩<;>(rw [hd7] at h;cases h)
          rcases h with h|⟨o,h⟩
          · exact .inl (by rw [upd_ne ne];exact h)
          · exact .inr ⟨o,by rw [upd_ne ne];exact h⟩,λp xs f h=>by
          have ne:p≠Da:=λz=>by subst z;exact nf8 f
          refine⟨f,?_⟩
          rcases h with h|⟨o,h⟩
          · exact .inl (by rw [upd_ne ne];exact h)
          · exact .inr ⟨o,by rw [upd_ne ne];exact h⟩⟩
        have g58:Gr H' F' H7 F8:=g5.trans g8
        have gall:Gr H2 F2 (upd H7 Da (.lst (zs++[v]))) F8:=by
          have gg:=gr'.trans g58
          refine⟨λc o e=>?_,gg.sub,gg.new,λc e=>?_⟩
          · rw [upd_ne (ne_of_none e hD)];exact gg.same c o e
          · by_cases z:c=Da
            · subst z;rw [upd_same] at e;cases e
            · rw [upd_ne z] at e;exact gg.dom c e
        refine⟨its.length - (i+1),by omega,i+1,τ6,upd H7 Da (.lst (zs++[v])),F8,zs++[v],I9.unpinned,?_,?_,gall,upd_same,nf8,?_,hlt,rfl,?_,by simp [hzl],?_,λj d a h1 h2=>?_⟩
        · exact Tn.keep _ _ _ st5 λc hc o e=>(I9.pin (c,o) (List.mem_append_right _ (List.mem_append_right _ (mem_pinsAt hc e)))).1
        · intro c hc
          obtain⟨o,e,d⟩:=Tn.obj _ _ st5 c hc
          exact (I9.pin (c,o) (List.mem_append_right _ (List.mem_append_right _ (mem_pinsAt hc e)))).2.1
        · have e1:ys.take (i+1)=ys.take i++[y.2]:=by
            have:ys[i]?=some y.2:=by
              have:=congrArg (λl=>l[0]?) hys
              simpa using this
            rw [List.take_add_one,this];rfl
          rw [e1]
          exact RDs.append (RDs.mono (g58.keep.trans k8) rd') ⟨v,[],rfl,RD.mono k8 rd8,rfl⟩
        · rw [b3]
          have:ys.drop (i+1)=ys':=by
            have:=congrArg List.tail hys
            simpa using this
          rw [this]
        · have sc8:=sc6.grow g8
          refine sc8.keep sc8.tb k8 ?_ gall.dom (λj d hj hd=>?_) (λj m ks' hj=>?_) (λj ns ds hj=>?_)
          · intro c o e
            have h7:=sc8.ent c o e
            have:c≠Da:=λz=>by
              subst z
              have:=hS.ent c o e
              rw [hD0] at this
              cases this
            rw [upd_ne this];exact h7
          · obtain⟨a,ds,vs,q1,q2,q3,q4,q5,q6⟩:=sc8.own j d hj hd
            have ne:a≠Da:=nD' j d a hj (by rw [←sm6 j (by rw [hj];simp)];exact q2)
            exact⟨a,ds,vs,q1,q2,q3,q4,by rw [upd_ne ne];exact q5,RDs.mono k8 q6⟩
          · obtain⟨a,q1,q2,q3,q4⟩:=sc8.dct j m ks' hj
            have ne:a≠Da:=nD' j _ a hj (by rw [←sm6 j (by rw [hj];simp)];exact q1)
            exact⟨a,q1,q2,by rw [upd_ne ne];exact q3,q4⟩
          · obtain⟨v8,q1,q2⟩:=sc8.obj j ns ds hj
            refine⟨v8,q1,q2.mono k8 λa C dx fs e hH hF=>⟨hF,upd_ne ?_⟩⟩
            subst e
            exact nD' j _ a hj (by rw [←sm6 j (by rw [hj];simp)];exact q1)
        · exact nD' j d a h1 (by rw [←sm6 j (by rw [h1];simp)];exact h2)
      · have hin:i=its.length:=by omega
        subst hin
        have td:=Tn.done X' eP ew eK g'.calm its.length (X.pn++pins) s' τ' H' (notedBy (model X.prog X.w) X.A (compEnvC sc' (clOf X.env sc'.names []) hp.objs.size X.env) λe s'=>compPost (model X.prog X.w) X.A X.xe use Qv (.ref Da) hp.objs.size (.error e) s') I' (fpX fr') st' okS
        rw [eA] at td
        refine thn td λr s4 ⟨hr,I4'⟩=>?_
        subst hr
        rw [List.drop_of_length_le (Nat.le_refl _)] at hev'
        have hyl:ys.drop its.length=[]:=(Option.some.inj hev').symm
        have hyt:ys.take its.length=ys:=by
          have:=List.take_append_drop its.length ys
          rw [hyl,List.append_nil] at this
          exact this
        rw [hyt] at rd'
        have Ib:=I4'.base
        rw [←hX'] at Ib
        have Io:Inv X pins τ H' s4:=by
          refine I3.call' (ch:=fp) (by have:=I4'.os;rw [←hX'] at this;exact this) Ib (by have:=I4'.hok;rw [eP,ew] at this;exact this) I4'.bare λc hc=>?_
          obtain⟨a0,a1,a2,a3,a4,a5⟩:=f3 c hc
          exact⟨a3,a1,a4,a5⟩
        refine hend Da hp.objs.size H' F' s4 (g2.trans gr') ⟨Da,ys,zs,rfl,rfl,hD0,nf',hd',rd'⟩ Io ⟨?_,Nat.ne_of_gt I3.lt,I3.sz,λx c e=>?_,λp hp=>?_,?_⟩
        · have:=I4'.free
          rw [eE] at this
          exact this
        · obtain⟨v,q⟩:=I3.cell x c e
          exact Nat.ne_of_lt q.lt
        · exact Nat.ne_of_lt (Heap.lt_size (I3.pin p hp).1)
        · obtain⟨m,hm,_⟩:=I4'.loc
          rw [eE] at hm
          exact⟨m,hm⟩
    · refine⟨0,tau0 τ (ownN sc').length ks,upd H2 Da (.lst []),F2,[],I4,?_,λc hc=>(f3 c hc).1,Gr.laid g2.dom hD,upd_same,g2.dom Da hD,by rw [List.take_zero];rfl,Nat.zero_le _,rfl,by simpa using hev,rfl,?_,λj d a h1 h2=>?_⟩
      · exact Tn.keep _ _ _ st2 λc hc o e=>kp c o (by rw [←hHp];exact Heap.get?_push_of_some _ e)
      · exact sr_start S hk _ (hS.grow (g2.trans (Gr.laid g2.dom hD)))
      · obtain⟨m,j',rfl,q1,q2⟩:=capt_get h1
        obtain⟨a',u',p2,_,p5⟩:=hS.addr q2
        rw [tau0_at q1 p2] at h2
        cases h2
        exact ne_of_none p5 hD0
  exact codeAny_compStart_list loop (Tn.self _ 0 _ _ _ (Tn.keep _ _ _ st2 λc hc o e=>kp c o (by rw [←hHp];exact Heap.get?_push_of_some _ e)) loop)
end
end Dw
namespace Dw
open PySem PySem.Spec PyProof.Rows L2
section
variable {call:Nat→List D→Option R}{G:Gx}{k:Nat}{X:Cx}{sc sc':Scope}{N:List Str}{ks:List Nat}
theorem comp_runF (g:XG call G k X sc N) {elt tg iter cnd:Expr}{t:Tg}{ce cc:C}{b:Bool}{src:En→Option (List D)}{pos p':Pos}(S:ScOk sc') (ht:tgOf sc' (ownN sc'++freeN sc') tg=some t) (hk:optAll (capOf sc N) (freeN sc')=some ks)
    (he:∀X':Cx,XG call G k X' sc' (ownN sc'++freeN sc')→SndE call X' elt ce) (hcn:∀X':Cx,XG call G k X' sc' (ownN sc'++freeN sc')→SndT call X' cnd cc) (hi:SndI X tg iter b src) (hfs:∀x,foldedSetIterable iter X.env x=pure x)
    {pins:List (Addr×Obj)} {s:Shared} {τ:L2.St} {H:Hp} {Ge:Hp} {F:Fz} {σ:En} {its ys:List D} {use:Option (Value→Sem Unit)} {Qv:Value→Shared→Prop}
    (I:Inv X pins τ H s) (hS:SR X.K Ge H F σ τ) (hsrc:src σ=some its) (hev:evCompF call cc ce (capt σ (ownN sc').length ks) t its=some ys) (hlen:(b=true→its.length≤lim)→its.length≤lim)
    (hend:∀(D C:Addr) (H':Hp) (F':Fz) (s':Shared),Gr H F H' F'→RR X.K H H' F' (true,.lst ys) (.ref D)→Inv X pins τ H' s'→Off X pins H' C s'.heap→compPost (model X.prog X.w) X.A X.xe use Qv (.ref D) C (.ok .next) s') :
    wpAny (model X.prog X.w) X.A (comprehension (.ListComp elt [⟨tg,iter,[cnd],0⟩] sc' pos) sc' X.env p' (newList []) false (eval iter X.env) use) Qv X.xe s:=by
  have T:=takes_of g hk
  have hcl:=takes_cells I.ok T
  refine wpAny_comprehension_free (use:=use) rfl hfs (clos_of sc' X.env hcl) S.kind (λx hx e=>by obtain⟨n,kk⟩:=x;have e:kk=.local:=e;subst e;exact look_mem S.nd hx) ?_
  obtain⟨wi,pi,qi⟩:=hi
  refine thn (pi pins s τ H (λJ H'=>∃F',Gr H F H' F'∧ItOk X.K J H' F' its∧its.length≤lim) I (qi Ge H F σ τ its _ hsrc hS λJ H' F' g1 ok hl=>⟨F',g1,ok,hlen hl⟩)) λv s1 h1=>thn h1 λitv s2 h2=>?_
  obtain⟨it,fp,tn,J,H2,rfl,I2,Tn,st2,f2,F2,g2,ok2,hl2⟩:=h2
  refine wpAny_newObj_type (wpAny_newFunctionEnv S.cell (by intro y hy;simp at hy) (λh3 hns hsb=>?_) S.kind)
  dsimp only at hns hsb ⊢
  have hD:H2 s2.heap.objs.size=none:=I2.hok.fresh (Nat.le_refl _)
  generalize hDe:s2.heap.objs.size=Da at hns hsb hD ⊢
  have hD0:H Da=none:=g2.same.free hD
  have lt2:∀{c:Addr} {o:Obj},s2.heap.get? c=some o→c<Da:=λe=>by rw [←hDe];exact Heap.lt_size e
  have I3:Inv X pins τ (upd H2 Da (.lst [])) { s2 with heap:=s2.heap.push { cls:=.type "list",dict:=none,data:=.seq ([]:List Value).toArray } }:=by
    subst hDe
    exact I2.laid (t':=s2.toks) (λc u e=>Heap.get?_push_of_some _ e) (Nat.le_refl _) ⟨Nat.zero_le _,[],0,.nil,Heap.get?_push_size _ rfl⟩
  generalize hHp:s2.heap.push { cls:=.type "list",dict:=none,data:=.seq ([]:List Value).toArray }=hp at hns hsb I3 ⊢
  have hCs:hp.objs.size=Da+1:=by rw [←hHp,Heap.size_push,hDe]
  have kp:∀c o,hp.get? c=some o→h3.get? c=some o:=λc o e=>hsb.extBut c o (Nat.ne_of_lt (Heap.lt_size e)) (Heap.get?_push_of_some _ e)
  have lfp:∀c∈fp,c<Da:=λc hc=>by obtain⟨o,e,_⟩:=Tn.obj _ _ st2 c hc;exact lt2 e
  have f3:∀c∈fp,FpOk X pins (upd H2 Da (.lst [])) c:=λc hc=>⟨by rw [upd_ne (Nat.ne_of_lt (lfp c hc))];exact (f2 c hc).1,(f2 c hc).2⟩
  have lf3:∀c∈fp,c<({ s2 with heap:=hp }:Shared).heap.objs.size:=λc hc=>by show c<hp.objs.size;rw [hCs];exact Nat.lt_succ_of_lt (lfp c hc)
  obtain⟨kl,kg⟩:=optAll_get hk
  have I4:Inv (cxComp X sc' (ownN sc'++freeN sc') hp.objs.size { s2 with heap:=hp } (upd H2 Da (.lst [])) fp) (X.pn++pins) (tau0 τ (ownN sc').length ks) (upd H2 Da (.lst [])) { s2 with heap:=h3,toks:=s2.toks+([]:List (Str×Value)).length }:=by
    refine cx_start (N':=ownN sc'++freeN sc') I3 S T f3 lf3 kp hns _ (by rw [tau0_len,List.length_append,kl]) (λi x v e1 e2=>?_) (vis_of g hk)
    obtain⟨m,j,rfl,q1,q2⟩:=tau0_get e2
    rw [List.getElem?_append_right (by omega)] at e1
    have e1':(freeN sc')[m]?=some x:=by rw [←e1];congr 1;omega
    obtain⟨j',r1,r2⟩:=kg m x e1'
    rw [q1] at r1
    cases r1
    exact⟨free_mem.mp (List.mem_of_getElem? e1'),j,by rw [g.hN];exact (cap_of r2).2.1,q2⟩
  have g':XG call G k (cxComp X sc' (ownN sc'++freeN sc') hp.objs.size { s2 with heap:=hp } (upd H2 Da (.lst [])) fp) sc' (ownN sc'++freeN sc'):=cx_xg g S
  have se:=he _ g'
  have sn:=hcn _ g'
  have pg:=snd_tg g' ht
  have tow:=tg_own (ks:=ks) S ht σ
  generalize hX':cxComp X sc' (ownN sc'++freeN sc') hp.objs.size { s2 with heap:=hp } (upd H2 Da (.lst [])) fp=X' at I4 g' se sn pg
  have eP:X'.prog=X.prog:=by rw [←hX'];rfl
  have ew:X'.w=X.w:=by rw [←hX'];rfl
  have eK:X'.K=X.K:=by rw [←hX'];rfl
  have eA:X'.A=X.A:=by rw [←hX'];rfl
  have eE:X'.env=compEnvC sc' (clOf X.env sc'.names []) hp.objs.size X.env:=by rw [←hX'];rfl
  have ex:X'.xe=λ_ _=>False:=by rw [←hX'];rfl
  have fpX:∀{H':Hp},(∀c∈fp,H' c=none)→∀c∈fp,FpOk X' (X.pn++pins) H' c:=λ{H'} hn c hc=>by
    obtain⟨a0,a1,a2,a3,a4,a5⟩:=f3 c hc
    rw [←hX']
    refine⟨hn c hc,Nat.ne_of_lt (lf3 c hc),λhs=>?_,.inl hc,λx cc e=>a4 x cc (cl_of hcl e),λp hp=>a5 p hp⟩
    rcases List.mem_cons.mp (I3.stkSub c hs) with z|z
    · exact a1 z
    · exact a2 z
  have loop:codeAny (model X.prog X.w) X.A (.compLoop (.ListComp elt [⟨tg,iter,[cnd],0⟩] sc' pos) 0 (.ref it) (.ref Da) (compEnvC sc' (clOf X.env sc'.names []) hp.objs.size X.env)) (compPost (model X.prog X.w) X.A X.xe use Qv (.ref Da) hp.objs.size) { s2 with heap:=h3,toks:=s2.toks+([]:List (Str×Value)).length }:=by
    refine PySem.W.kct_loop (λn s'=>∃(i:Nat) (τ':L2.St) (H':Hp) (F':Fz) (zs:List V) (y1 y2:List D),Inv X' (X.pn++pins) τ' H' s'∧tn i s'.heap∧(∀c∈fp,H' c=none)∧Gr H2 F2 H' F'∧H' Da=some (.lst zs)∧¬F' Da∧RDs X.K H' F' y1 zs∧i≤its.length∧n=its.length - i ∧
      evCompF call cc ce (capt σ (ownN sc').length ks) t (its.drop i)=some y2∧ys=y1++y2∧zs.length≤i∧SR X.K Ge H' F' (capt σ (ownN sc').length ks) τ' ∧
      ∀j d a,getv (capt σ (ownN sc').length ks) j=some (true,d)→τ'[j]?=some (some (.ref a))→a≠Da) ?_ its.length ?_
    · rintro n s' ⟨i,τ',H',F',zs,y1,y2,I',st',fr',gr',hd',nf',rd',hi,rfl,hev',hyy,hzl,sr',nD'⟩
      have hx':∀{α:Type} {tr:Sem α} {Q1:α→Shared→Prop} {E1:Value→Shared→Prop} {s0:Shared},wpAny (model X'.prog X'.w) X'.A tr Q1 X'.xe s0→wpAny (model X.prog X.w) X.A tr Q1 E1 s0:=λ{α tr Q1 E1 s0} h=>by
        rw [eP,ew,eA,ex] at h
        exact wpAny_mono h (λ_ _ z=>z) λ_ _ z=>z.elim
      have kd:Keep H2 F2 H' F':=gr'.keep
      obtain⟨okI,okS⟩:=ok2 H' F' kd gr'.dom
      by_cases hlt:i<its.length
      · have hdi:its[i]?=some its[i]:=List.getElem?_eq_getElem hlt
        obtain⟨go,yl⟩:=okI i _ hdi
        have hdr:its.drop i=its[i]::its.drop (i+1):=List.drop_eq_getElem_cons hlt
        rw [hdr,evCompF_cons] at hev'
        obtain⟨σ1,b1,hev'⟩:=bind1 hev'
        obtain⟨⟨x0,d0⟩,b0,hev'⟩:=bind1 hev'
        have ti:=Tn.item X' eP ew eK g'.calm i (X.pn++pins) s' τ' H' (notedBy (model X.prog X.w) X.A (compEnvC sc' (clOf X.env sc'.names []) hp.objs.size X.env) λe s'=>compPost (model X.prog X.w) X.A X.xe use Qv (.ref Da) hp.objs.size (.error e) s') I' (fpX fr') st' go
        rw [eA] at ti
        refine thn ti λr s4 ⟨u,hr,h4⟩=>?_
        subst hr
        refine thn h4 λ_ s5 ⟨x,H5,I5,r5,y5,st5,fr5⟩=>?_
        obtain⟨F5,g5,rd5⟩:=yl x H5 y5
        have I5':=I5.pinned (fpX fr5) (Tn.obj _ _ st5)
        have sr5:=sr'.grow g5
        rw [←eE]
        have a6:=pg _ s5 τ' H5 x u (fun τ6 H6=>H6=H5∧SR X.K Ge H5 F5 σ1 τ6∧SR X.K Ge H5 F5 (capt σ (ownN sc').length ks) τ6∧∀j,getv (capt σ (ownN sc').length ks) j≠none→τ6[j]?=τ'[j]?) I5' r5 (by
          rw [eK]
          exact tg_bind2 (tgOf_nm ht) sr5 b1 rd5 tow)
        refine hx' (thn a6 λ_ s6 ⟨τ6,H6,I6,e6,sr6,sc6,sm6⟩=>?_)
        subst e6
        obtain⟨b00,rfl⟩:∃b00,d0=.bl b00:=by cases d0<;>first|exact⟨_,rfl⟩|cases hev'
        obtain⟨tt,pt,qt⟩:=sn
        have a6c:=pt _ s6 τ6 H6 (λbb H7=>∃F7,Gr H6 F5 H7 F7∧bb=b00) I6 (qt Ge H6 F5 σ1 τ6 x0 b00 _ b0 (by rw [eK];exact sr6) λH7 F7 g7=>⟨F7,g7,rfl⟩)
        refine hx' (thn a6c λokb s6b ⟨H6b,I6b,F6b,g6b,eb⟩=>?_)
        subst eb
        have hd6:H6b Da=some (.lst zs):=g6b.same _ _ (g5.same _ _ hd')
        have g56:Gr H' F' H6b F6b:=g5.trans g6b
        have nf6:¬F6b Da:=λz=>by
          rcases g56.new Da z with q|q
          · exact nf' q
          · rw [hd'] at q;cases q
        cases okb with
        | false =>
          rw [if_neg (by decide)]
          refine⟨its.length - (i+1),by omega,i+1,τ6,H6b,F6b,zs,y1,y2,I6b.unpinned,?_,?_,gr'.trans g56,hd6,nf6,RDs.mono g56.keep rd',hlt,rfl,hev',hyy,by omega,sc6.grow g6b,λj d a h1 h2=>?_⟩
          · exact Tn.keep _ _ _ st5 λc hc o e=>(I6b.pin (c,o) (List.mem_append_right _ (List.mem_append_right _ (mem_pinsAt hc e)))).1
          · intro c hc
            obtain⟨o,e,d⟩:=Tn.obj _ _ st5 c hc
            exact (I6b.pin (c,o) (List.mem_append_right _ (List.mem_append_right _ (mem_pinsAt hc e)))).2.1
          · exact nD' j d a h1 (by rw [←sm6 j (by rw [h1];simp)];exact h2)
        | true =>
        rw [if_pos rfl]
        obtain⟨y,b2,hev'⟩:=bind1 hev'
        obtain⟨ys',b3,hev'⟩:=bind1 hev'
        have hys:y2=y.2::ys':=(Option.some.inj hev').symm
        replace sr6:=sr6.grow g6b
        replace sc6:=sc6.grow g6b
        replace I6:=I6b
        replace hd':=hd6
        replace g5:=g56
        clear hd6 g56
        obtain⟨te,pe,qe⟩:=se
        have a7:=pe _ s6b τ6 H6b (λv H7=>∃F7,Gr H6b F6b H7 F7∧RR X.K H6b H7 F7 y v) I6 (qe Ge H6b F6b σ1 τ6 y _ b2 (by rw [eK];exact sr6) λv H7 F7 g7 rr=>⟨F7,g7,by rw [←eK];exact rr⟩)
        refine hx' (thn a7 λvv s7 ⟨v,H7,I7,r7,F7,g7,rr7⟩=>?_)
        obtain⟨F8,g8,rd8⟩:=rr7.fz g7
        have hd7:H7 Da=some (.lst zs):=g7.same _ _ hd'
        have nf8:¬F8 Da:=λz=>by
          rcases g8.new Da z with q|q
          · exact nf6 q
          · rw [hd'] at q;cases q
        have a8:=mt_append (X:=X') _ s7 τ6 H7 (.ref Da) [v] (.ref Da) [vv] (λ_ H9=>H9=upd H7 Da (.lst (zs++[v]))) I7 rfl (.cons r7 .nil) ⟨Da,zs,v,rfl,rfl,hd7,Nat.lt_of_lt_of_le (by omega) hl2,rfl⟩
        refine hx' (thn a8 λ_ s9 ⟨_,H9,I9,_,e9⟩=>?_)
        subst e9
        have k8:Keep H7 F8 (upd H7 Da (.lst (zs++[v]))) F8:=⟨λp xs h=>by
          have ne:p≠Da:=λz=>by
            subst z
            rcases h with h|⟨o,h⟩<;>(rw [hd7] at h;cases h)
          rcases h with h|⟨o,h⟩
          · exact .inl (by rw [upd_ne ne];exact h)
          · exact .inr ⟨o,by rw [upd_ne ne];exact h⟩,λp xs f h=>by
          have ne:p≠Da:=λz=>by subst z;exact nf8 f
          refine⟨f,?_⟩
          rcases h with h|⟨o,h⟩
          · exact .inl (by rw [upd_ne ne];exact h)
          · exact .inr ⟨o,by rw [upd_ne ne];exact h⟩⟩
        have g58:Gr H' F' H7 F8:=g5.trans g8
        have gall:Gr H2 F2 (upd H7 Da (.lst (zs++[v]))) F8:=by
          have gg:=gr'.trans g58
          refine⟨λc o e=>?_,gg.sub,gg.new,λc e=>?_⟩
          · rw [upd_ne (ne_of_none e hD)];exact gg.same c o e
          · by_cases z:c=Da
            · subst z;rw [upd_same] at e;cases e
            · rw [upd_ne z] at e;exact gg.dom c e
        refine⟨its.length - (i+1),by omega,i+1,τ6,upd H7 Da (.lst (zs++[v])),F8,zs++[v],y1++[y.2],ys',I9.unpinned,?_,?_,gall,upd_same,nf8,?_,hlt,rfl,b3,(by rw [hyy,hys,List.append_assoc];rfl),(by simp;omega),?_,λj d a h1 h2=>?_⟩
        · exact Tn.keep _ _ _ st5 λc hc o e=>(I9.pin (c,o) (List.mem_append_right _ (List.mem_append_right _ (mem_pinsAt hc e)))).1
        · intro c hc
          obtain⟨o,e,d⟩:=Tn.obj _ _ st5 c hc
          exact (I9.pin (c,o) (List.mem_append_right _ (List.mem_append_right _ (mem_pinsAt hc e)))).2.1
        · exact RDs.append (RDs.mono (g58.keep.trans k8) rd') ⟨v,[],rfl,RD.mono k8 rd8,rfl⟩
        · have sc8:=sc6.grow g8
          refine sc8.keep sc8.tb k8 ?_ gall.dom (λj d hj hd=>?_) (λj m ks' hj=>?_) (λj ns ds hj=>?_)
          · intro c o e
            have h7:=sc8.ent c o e
            have:c≠Da:=λz=>by
              subst z
              have:=hS.ent c o e
              rw [hD0] at this
              cases this
            rw [upd_ne this];exact h7
          · obtain⟨a,ds,vs,q1,q2,q3,q4,q5,q6⟩:=sc8.own j d hj hd
            have ne:a≠Da:=nD' j d a hj (by rw [←sm6 j (by rw [hj];simp)];exact q2)
            exact⟨a,ds,vs,q1,q2,q3,q4,by rw [upd_ne ne];exact q5,RDs.mono k8 q6⟩
          · obtain⟨a,q1,q2,q3,q4⟩:=sc8.dct j m ks' hj
            have ne:a≠Da:=nD' j _ a hj (by rw [←sm6 j (by rw [hj];simp)];exact q1)
            exact⟨a,q1,q2,by rw [upd_ne ne];exact q3,q4⟩
          · obtain⟨v8,q1,q2⟩:=sc8.obj j ns ds hj
            refine⟨v8,q1,q2.mono k8 λa C dx fs e hH hF=>⟨hF,upd_ne ?_⟩⟩
            subst e
            exact nD' j _ a hj (by rw [←sm6 j (by rw [hj];simp)];exact q1)
        · exact nD' j d a h1 (by rw [←sm6 j (by rw [h1];simp)];exact h2)
      · have hin:i=its.length:=by omega
        subst hin
        have td:=Tn.done X' eP ew eK g'.calm its.length (X.pn++pins) s' τ' H' (notedBy (model X.prog X.w) X.A (compEnvC sc' (clOf X.env sc'.names []) hp.objs.size X.env) λe s'=>compPost (model X.prog X.w) X.A X.xe use Qv (.ref Da) hp.objs.size (.error e) s') I' (fpX fr') st' okS
        rw [eA] at td
        refine thn td λr s4 ⟨hr,I4'⟩=>?_
        subst hr
        rw [List.drop_of_length_le (Nat.le_refl _)] at hev'
        have hyl:y2=[]:=(Option.some.inj hev').symm
        subst hyl
        rw [List.append_nil] at hyy
        subst hyy
        have Ib:=I4'.base
        rw [←hX'] at Ib
        have Io:Inv X pins τ H' s4:=by
          refine I3.call' (ch:=fp) (by have:=I4'.os;rw [←hX'] at this;exact this) Ib (by have:=I4'.hok;rw [eP,ew] at this;exact this) I4'.bare λc hc=>?_
          obtain⟨a0,a1,a2,a3,a4,a5⟩:=f3 c hc
          exact⟨a3,a1,a4,a5⟩
        refine hend Da hp.objs.size H' F' s4 (g2.trans gr') ⟨Da,ys,zs,rfl,rfl,hD0,nf',hd',rd'⟩ Io ⟨?_,Nat.ne_of_gt I3.lt,I3.sz,λx c e=>?_,λp hp=>?_,?_⟩
        · have:=I4'.free
          rw [eE] at this
          exact this
        · obtain⟨v,q⟩:=I3.cell x c e
          exact Nat.ne_of_lt q.lt
        · exact Nat.ne_of_lt (Heap.lt_size (I3.pin p hp).1)
        · obtain⟨m,hm,_⟩:=I4'.loc
          rw [eE] at hm
          exact⟨m,hm⟩
    · refine⟨0,tau0 τ (ownN sc').length ks,upd H2 Da (.lst []),F2,[],[],ys,I4,?_,λc hc=>(f3 c hc).1,Gr.laid g2.dom hD,upd_same,g2.dom Da hD,rfl,Nat.zero_le _,rfl,by simpa using hev,rfl,Nat.le_refl _,?_,λj d a h1 h2=>?_⟩
      · exact Tn.keep _ _ _ st2 λc hc o e=>kp c o (by rw [←hHp];exact Heap.get?_push_of_some _ e)
      · exact sr_start S hk _ (hS.grow (g2.trans (Gr.laid g2.dom hD)))
      · obtain⟨m,j',rfl,q1,q2⟩:=capt_get h1
        obtain⟨a',u',p2,_,p5⟩:=hS.addr q2
        rw [tau0_at q1 p2] at h2
        cases h2
        exact ne_of_none p5 hD0
  exact codeAny_compStart_list loop (Tn.self _ 0 _ _ _ (Tn.keep _ _ _ st2 λc hc o e=>kp c o (by rw [←hHp];exact Heap.get?_push_of_some _ e)) loop)
end
end Dw
namespace Dw
open PySem PySem.Spec PyProof.Rows L2
section
variable {call:Nat→List D→Option R}{G:Gx}{k:Nat}{X:Cx}{sc sc':Scope}{N:List Str}{ks:List Nat}
theorem snd_comp (g:XG call G k X sc N) {elt tg iter:Expr}{t:Tg}{ce c:C}{b:Bool}{src:En→Option (List D)}{pos:Pos}(S:ScOk sc') (ht:tgOf sc' (ownN sc'++freeN sc') tg=some t) (hk:optAll (capOf sc N) (freeN sc')=some ks)
    (he:∀X':Cx,XG call G k X' sc' (ownN sc'++freeN sc')→SndE call X' elt ce) (hi:SndI X tg iter b src) (hfs:∀x,foldedSetIterable iter X.env x=pure x)
    (hc:∀σ r,evE call σ c=some r→∃its ys,src σ=some its∧evComp call ce (capt σ (ownN sc').length ks) t its=some ys∧r=(true,.lst ys)∧((b=true→its.length≤lim)→its.length≤lim)) :
    SndE call X (.ListComp elt [⟨tg,iter,[],0⟩] sc' pos) c:=by
  refine⟨fun τ H Q=>∃Ge F σ r,evE call σ c=some r∧SR X.K Ge H F σ τ∧∀v H' F',Gr H F H' F'→RR X.K H H' F' r v→Q v H',λpins s τ H Q I ⟨Ge,F,σ,r,h1,h2,h3⟩=>?_,λGe H F σ τ r Q h1 h2 h3=>⟨Ge,F,σ,r,h1,h2,h3⟩⟩
  obtain⟨its,ys,e1,e2,rfl,e4⟩:=hc σ r h1
  rw [eval_ListComp]
  refine comp_run g S ht hk he hi hfs (use:=none) I h2 e1 e2 e4 λDa C H' F' s' gr rr I' o=>?_
  obtain⟨m,hm⟩:=o.ns
  exact⟨m,hm,λh' hs=>⟨.ref Da,H',o.let I' hs,rfl,h3 _ H' F' gr rr⟩⟩
theorem asg_comp (g:XG call G k X sc N) {elt tg iter:Expr}{t:Tg}{ce c:C}{b:Bool}{src:En→Option (List D)}{pos py spos:Pos}{x:Str}{i:Nat}(S:ScOk sc') (ht:tgOf sc' (ownN sc'++freeN sc') tg=some t) (hk:optAll (capOf sc N) (freeN sc')=some ks)
    (he:∀X':Cx,XG call G k X' sc' (ownN sc'++freeN sc')→SndE call X' elt ce) (hi:SndI X tg iter b src) (hfs:∀x,foldedSetIterable iter X.env x=pure x)
    (hc:∀σ r,evE call σ c=some r→∃its ys,src σ=some its∧evComp call ce (capt σ (ownN sc').length ks) t its=some ys∧r=(true,.lst ys)∧((b=true→its.length≤lim)→its.length≤lim))
    (hx:(sc.names.lookup x == some .local||sc.names.lookup x == some .cell)=true) (hsl:slotOf N x=some i) (hsw:swapsWith (.ListComp elt [⟨tg,iter,[],0⟩] sc' pos) (some (.Name x py)) spos.line X.env=pure true) :
    PS X (.Assign [.Name x py] (.ListComp elt [⟨tg,iter,[],0⟩] sc' pos) spos) (λDn τ H=>∃Ge F σ r,evE call σ c=some r∧SR X.K Ge H F σ τ∧∀v H' F',Gr H F H' F'→RR X.K H H' F' r v→Dn.nx (τ.set i (some v)) H'):=by
  intro pins s τ H Dn I ⟨Ge,F,σ,r,h1,h2,h3⟩
  obtain⟨its,ys,e1,e2,rfl,e4⟩:=hc σ r h1
  rw [exec_Assign_Name_used _ _ _ _ hsw]
  refine wpAny_bind (wpAny_standAt (wpAny_bind ?_))
  obtain⟨l1,l2⟩:=loc_of g hx
  refine wpAny_bind (comp_run g (p':=firstIterPos [⟨tg,iter,[],0⟩] pos) S ht hk he hi hfs (use:=some (assign (.Name x py) X.env)) I h2 e1 e2 e4 λDa C H' F' s' gr rr I' o=>?_)
  have q:=h3 _ H' F' gr rr
  refine wpAny_assign_Name (store_ok2 (v:=.ref Da) I' (by rw [g.hN];exact g.nd) (by rw [g.hN];exact slot_get hsl) l1 rfl (λs2 I2 hch=>?_) l2)
  obtain⟨m,hm⟩:=o.ns
  obtain⟨a,hsb,ha⟩:=hch
  have hCa:C≠a:=by
    rcases ha with e|e
    · rw [e];exact o.ne
    · exact (o.cl _ _ e).symm
  have o2:Off X pins H' C s2.heap:=⟨o.n,o.ne,o.ab,o.cl,o.pn,⟨m,hm.sameBut hsb hCa⟩⟩
  exact⟨m,hm.sameBut hsb hCa,λh' hs=>wpAny_pure (wpAny_pure ⟨_,H',o2.let I2 hs,q⟩)⟩
theorem snd_compF (g:XG call G k X sc N) {elt tg iter cnd:Expr}{t:Tg}{ce cc c:C}{b:Bool}{src:En→Option (List D)}{pos:Pos}(S:ScOk sc') (ht:tgOf sc' (ownN sc'++freeN sc') tg=some t) (hk:optAll (capOf sc N) (freeN sc')=some ks)
    (he:∀X':Cx,XG call G k X' sc' (ownN sc'++freeN sc')→SndE call X' elt ce) (hcn:∀X':Cx,XG call G k X' sc' (ownN sc'++freeN sc')→SndT call X' cnd cc) (hi:SndI X tg iter b src) (hfs:∀x,foldedSetIterable iter X.env x=pure x)
    (hc:∀σ r,evE call σ c=some r→∃its ys,src σ=some its∧evCompF call cc ce (capt σ (ownN sc').length ks) t its=some ys∧r=(true,.lst ys)∧((b=true→its.length≤lim)→its.length≤lim)) :
    SndE call X (.ListComp elt [⟨tg,iter,[cnd],0⟩] sc' pos) c:=by
  refine⟨fun τ H Q=>∃Ge F σ r,evE call σ c=some r∧SR X.K Ge H F σ τ∧∀v H' F',Gr H F H' F'→RR X.K H H' F' r v→Q v H',λpins s τ H Q I ⟨Ge,F,σ,r,h1,h2,h3⟩=>?_,λGe H F σ τ r Q h1 h2 h3=>⟨Ge,F,σ,r,h1,h2,h3⟩⟩
  obtain⟨its,ys,e1,e2,rfl,e4⟩:=hc σ r h1
  rw [eval_ListComp]
  refine comp_runF g S ht hk he hcn hi hfs (use:=none) I h2 e1 e2 e4 λDa C H' F' s' gr rr I' o=>?_
  obtain⟨m,hm⟩:=o.ns
  exact⟨m,hm,λh' hs=>⟨.ref Da,H',o.let I' hs,rfl,h3 _ H' F' gr rr⟩⟩
theorem asg_compF (g:XG call G k X sc N) {elt tg iter cnd:Expr}{t:Tg}{ce cc c:C}{b:Bool}{src:En→Option (List D)}{pos py spos:Pos}{x:Str}{i:Nat}(S:ScOk sc') (ht:tgOf sc' (ownN sc'++freeN sc') tg=some t) (hk:optAll (capOf sc N) (freeN sc')=some ks)
    (he:∀X':Cx,XG call G k X' sc' (ownN sc'++freeN sc')→SndE call X' elt ce) (hcn:∀X':Cx,XG call G k X' sc' (ownN sc'++freeN sc')→SndT call X' cnd cc) (hi:SndI X tg iter b src) (hfs:∀x,foldedSetIterable iter X.env x=pure x)
    (hc:∀σ r,evE call σ c=some r→∃its ys,src σ=some its∧evCompF call cc ce (capt σ (ownN sc').length ks) t its=some ys∧r=(true,.lst ys)∧((b=true→its.length≤lim)→its.length≤lim))
    (hx:(sc.names.lookup x == some .local||sc.names.lookup x == some .cell)=true) (hsl:slotOf N x=some i) (hsw:swapsWith (.ListComp elt [⟨tg,iter,[cnd],0⟩] sc' pos) (some (.Name x py)) spos.line X.env=pure true) :
    PS X (.Assign [.Name x py] (.ListComp elt [⟨tg,iter,[cnd],0⟩] sc' pos) spos) (λDn τ H=>∃Ge F σ r,evE call σ c=some r∧SR X.K Ge H F σ τ∧∀v H' F',Gr H F H' F'→RR X.K H H' F' r v→Dn.nx (τ.set i (some v)) H'):=by
  intro pins s τ H Dn I ⟨Ge,F,σ,r,h1,h2,h3⟩
  obtain⟨its,ys,e1,e2,rfl,e4⟩:=hc σ r h1
  rw [exec_Assign_Name_used _ _ _ _ hsw]
  refine wpAny_bind (wpAny_standAt (wpAny_bind ?_))
  obtain⟨l1,l2⟩:=loc_of g hx
  refine wpAny_bind (comp_runF g (p':=firstIterPos [⟨tg,iter,[cnd],0⟩] pos) S ht hk he hcn hi hfs (use:=some (assign (.Name x py) X.env)) I h2 e1 e2 e4 λDa C H' F' s' gr rr I' o=>?_)
  have q:=h3 _ H' F' gr rr
  refine wpAny_assign_Name (store_ok2 (v:=.ref Da) I' (by rw [g.hN];exact g.nd) (by rw [g.hN];exact slot_get hsl) l1 rfl (λs2 I2 hch=>?_) l2)
  obtain⟨m,hm⟩:=o.ns
  obtain⟨a,hsb,ha⟩:=hch
  have hCa:C≠a:=by
    rcases ha with e|e
    · rw [e];exact o.ne
    · exact (o.cl _ _ e).symm
  have o2:Off X pins H' C s2.heap:=⟨o.n,o.ne,o.ab,o.cl,o.pn,⟨m,hm.sameBut hsb hCa⟩⟩
  exact⟨m,hm.sameBut hsb hCa,λh' hs=>wpAny_pure (wpAny_pure ⟨_,H',o2.let I2 hs,q⟩)⟩
theorem plain_ix {n:Nat}{e:Expr}{c:C}(h:cE G n sc N e=some c):PlainIx e:=by
  cases n with
  | zero=>cases h
  | succ n=>cases e<;>first|(intro o i;rfl)|(cases h;done)|(cases n<;>cases h)
theorem no_star {n:Nat}{e:Expr}{c:C}(h:cE G n sc N e=some c):noStar e=true:=by
  cases n with
  | zero=>cases h
  | succ n=>cases e<;>first|rfl|(cases h;done)|(cases n<;>cases h)
theorem no_fold {n:Nat}{e:Expr}{c:C}(h:cE G n sc N e=some c) (env:Env):∀x,foldedSetIterable e env x=pure x:=by
  cases n with
  | zero=>cases h
  | succ n=>cases e<;>first|(intro x;rfl)|(cases h;done)|(cases n<;>cases h)
theorem no_mark {n:Nat}{e:Expr}{c:C}(h:cE G n sc N e=some c) (op:CmpOp):behindInMarks op e=false:=by
  cases n with
  | zero=>cases h
  | succ n=>cases e<;>first|rfl|(cases h;done)|(cases n<;>cases h)
structure Ok (call:Nat→List D→Option R) (X:Cx) (e:Expr) (c:C):Prop where
  he:SndE call X e c
  hp:SndP call X e c
  ht:SndT call X e c
  hg:SndAg call X e c
  nv:(∃x p,e=.Name x p)∨∀i,c≠.v i
theorem Ok.of {e:Expr}{c:C}(h:SndE call X e c) (ht:SndT call X e c) (hc:∀i,c≠.v i):Ok call X e c:=⟨h,h.look hc,ht,h.lend hc,.inr hc⟩
structure AllE (call:Nat→List D→Option R) (G:Gx) (k n:Nat):Prop where
  e:∀(X:Cx) (sc:Scope) (N:List Str) (e:Expr) (c:C),XG call G k X sc N→cE G n sc N e=some c→Ok call X e c
  f:∀(X:Cx) (sc:Scope) (N:List Str) (f:Str) (es:List Expr) (c:C) (p pos:Pos),XG call G k X sc N→glB sc f=true→plainName f=true→cCall G n sc N f es=some c→SndE call X (.Call (.Name f p) es [] pos) c∧∀i,c≠.v i
  a:∀(X:Cx) (sc:Scope) (N:List Str) (es:List Expr) (cs:List C),XG call G k X sc N→cEs G n sc N es=some cs→SndA call X es cs∧SndAP call X es cs∧es.all noStar=true∧cs.length=es.length
  o:∀(X:Cx) (sc:Scope) (N:List Str) (e:Option Expr) (c:Option C),XG call G k X sc N→cO G n sc N e=some c→SndO call X e c
  kf:∀(X:Cx) (sc:Scope) (N:List Str) (kws:List Keyword) (cs:List C),XG call G k X sc N→cEs G n sc N (kws.map (·.value))=some cs→SndK call X kws cs
  x:∀(X:Cx) (sc:Scope) (N:List Str) (e:Expr) (c:C),XG call G k X sc N→cX G n sc N e=some c→Ok call X e c∧∀i,c≠.v i
  j:∀(X:Cx) (sc:Scope) (N:List Str) (es:List Expr) (cs:List C),XG call G k X sc N→cJ G n sc N es=some cs→SndJ call X es cs
  ga:∀(X:Cx) (sc:Scope) (N:List Str) (es:List Expr) (cs:List C),XG call G k X sc N→cEs G n sc N es=some cs→SndGA call X es cs
  w:∀(X:Cx) (sc:Scope) (N:List Str) (es:List Expr) (c:C),XG call G k X sc N→cAnd G n sc N es=some c→SndW call X .And es c
  v:∀(X:Cx) (sc:Scope) (N:List Str) (es:List Expr) (c:C),XG call G k X sc N→cOr G n sc N es=some c→SndW call X .Or es c
theorem all_zero:AllE call G k 0:=by
  constructor
  · intro X sc N e c _ h;cases h
  · intro X sc N f es c p pos _ _ _ h;cases h
  · intro X sc N e c _ h;cases h
  · intro X sc N e c _ h;cases h
  · intro X sc N e c _ h;cases h
  · intro X sc N e c _ h;cases h
  · intro X sc N e c _ h;cases h
  · intro X sc N e c _ h;cases h
  · intro X sc N e c _ h;cases h
  · intro X sc N e c _ h;cases h
inductive Srk (sc:Scope):Expr→Sr→Prop where
  | seq (e:Expr):Srk sc e (.seq e)
  | rng (x:Str) (p:Pos) (as:List Expr) (pos:Pos):glB sc x=true→x=Str.ofString "range"→(as.length=1∨as.length=2∨as.length=3)→Srk sc (.Call (.Name x p) as [] pos) (.rng as)
  | zip (x:Str) (p:Pos) (a b:Expr) (pos:Pos):glB sc x=true→x=Str.ofString "zip"→Srk sc (.Call (.Name x p) [a,b] [] pos) (.zip a b)
  | enm (x:Str) (p:Pos) (a:Expr) (pos:Pos):glB sc x=true→x=Str.ofString "enumerate"→Srk sc (.Call (.Name x p) [a] [] pos) (.enm a)
  | rev (x y:Str) (p p2:Pos) (a:Expr) (pos pos2:Pos):glB sc x=true→x=Str.ofString "reversed"→glB sc y=true→y=Str.ofString "range"→Srk sc (.Call (.Name x p) [.Call (.Name y p2) [a] [] pos2] [] pos) (.rev [a])
theorem srk (it:Expr):Srk sc it (srOf sc it):=by
  unfold srOf
  split
  · rename_i f p as pos
    split
    · rename_i h
      simp only [Bool.and_eq_true,Bool.or_eq_true,beq_iff_eq,or_assoc] at h
      exact .rng f p as pos h.1.1 h.1.2 h.2
    · split
      · rename_i h
        simp only [Bool.and_eq_true,beq_iff_eq] at h
        split
        · exact .zip f p _ _ pos h.1 h.2
        · exact .seq _
      · split
        · rename_i h
          simp only [Bool.and_eq_true,beq_iff_eq] at h
          split
          · split
            · rename_i h'
              simp only [Bool.and_eq_true,beq_iff_eq] at h'
              exact .rev f _ p _ _ pos _ h.1 h.2 h'.1 h'.2
            · exact .seq _
          · exact .seq _
        · split
          · rename_i h
            simp only [Bool.and_eq_true,beq_iff_eq] at h
            split
            · exact .enm f p _ pos h.1 h.2
            · exact .seq _
          · exact .seq _
  · exact .seq _
theorem blt_none (g:XG call G k X sc N) (hG:∀x∈bltNames,G.defs.lookup x=none) {x:Str}{s:String}(h:x=Str.ofString s) (hs:s∈["len","abs","min","max","sum","all","tuple","list","int","bool","str","isinstance","range","zip","reversed","sorted","enumerate","any"]):X.mg x=none:=g.blt x (hG x (mem_blt h hs)) (mem_blt h hs)
theorem src_seq {n:Nat}(A:AllE call G k n) (g:XG call G k X sc N) {tg it:Expr}{x:C}(h:cE G n sc N it=some x):SndI X tg it true (fun σ=>(evE call σ x).bind λr=>seqD r.2):=snd_seq (A.e X sc N it x g h).he
theorem src_rng {n:Nat}(A:AllE call G k n) (g:XG call G k X sc N) (hG:∀x∈bltNames,G.defs.lookup x=none) {tg:Expr}{f:Str}{p pos:Pos}{as:List Expr}{xs:List C}(hg:glB sc f=true) (hf:f=Str.ofString "range") (hl:as.length=1∨as.length=2∨as.length=3) (h:cEs G n sc N as=some xs) :
    SndI X tg (.Call (.Name f p) as [] pos) false (fun σ=>(evAP call σ xs).bind rngD):=by
  obtain⟨_,a2,a3,a4⟩:=A.a X sc N as xs g h
  exact snd_rng hf (g.gl f hg) (blt_none g hG hf (by decide)) a3 hl a4 a2
theorem src_zip {n:Nat}(A:AllE call G k n) (g:XG call G k X sc N) (hG:∀x∈bltNames,G.defs.lookup x=none) {es:List Expr}{kk:Nat}{tp:Pos}{f:Str}{p pos:Pos}{a b:Expr}{x y:C}(hg:glB sc f=true) (hf:f=Str.ofString "zip") (ha:cE G n sc N a=some x) (hb:cE G n sc N b=some y) :
    SndI X (.Tuple es kk tp) (.Call (.Name f p) [a,b] [] pos) true (fun σ=>(evE call σ x).bind λx=>(evE call σ y).bind λy=>(seqD x.2).bind λxs=>(tupD y.2).bind λys=>some (zipD xs ys)):=
  snd_zip hf (g.gl f hg) (blt_none g hG hf (by decide)) (by simp [no_star ha,no_star hb]) (A.e X sc N a x g ha).he (A.e X sc N b y g hb).he
theorem two_tup {tg:Expr}{t:Tg}(h:tgOf sc N tg=some t) (h2:isTwo t=true):∃es kk tp,tg=.Tuple es kk tp:=by
  unfold tgOf at h
  split at h
  · split at h
    · rename_i x _ _
      cases hs:slotOf N x with
      | none=>rw [hs] at h;cases h
      | some i=>rw [hs] at h;cases h;cases h2
    · cases h
  · exact⟨_,_,_,rfl⟩
  · cases h
theorem cE_name {n:Nat}{x:Str}{p:Pos}{i:Nat}(h:cE G n sc N (.Name x p)=some (.v i)):varOf sc N x=some i:=by
  cases n with
  | zero=>cases h
  | succ n =>
    have h:(match varOf sc N x with|some i=>some (C.v i)|none=>cGl G sc x)=some (.v i):=h
    cases hv:varOf sc N x with
    | some j=>rw [hv] at h;cases h;rfl
    | none =>
      rw [hv] at h
      have h:cGl G sc x=some (.v i):=h
      unfold cGl at h
      split at h
      · cases hc:G.cons.lookup x<;>(rw [hc] at h;cases h)
      · cases h
theorem units20 (g:XG call G k X sc N):X.A.units+20<cLine:=by
  have:=g.room.units
  omega
theorem and_nv {n:Nat}{es:List Expr}{c:C}(hl:2≤es.length) (h:cAnd G n sc N es=some c):∀i,c≠.v i:=by
  cases n with
  | zero=>cases h
  | succ n =>
    unfold cAnd at h
    split at h
    · simp at hl
    · obtain⟨x,e1,e2⟩:=bind1 h
      obtain⟨y,e3,e4⟩:=bind1 e2
      cases e4
      exact λi z=>nomatch z
    · cases h
theorem or_nv {n:Nat}{es:List Expr}{c:C}(hl:2≤es.length) (h:cOr G n sc N es=some c):∀i,c≠.v i:=by
  cases n with
  | zero=>cases h
  | succ n =>
    unfold cOr at h
    split at h
    · simp at hl
    · obtain⟨x,e1,e2⟩:=bind1 h
      obtain⟨y,e3,e4⟩:=bind1 e2
      cases e4
      exact λi z=>nomatch z
    · cases h
theorem all_succ (hG:∀x∈bltNames,G.defs.lookup x=none) {n:Nat}(A:AllE call G k n):AllE call G k (n+1):=by
  constructor
  · intro X sc N e c g h
    unfold cE at h
    split at h
    · -- a name
      rename_i x pos
      cases hv:varOf sc N x with
      | none =>
        rw [hv] at h
        obtain⟨h1,h2⟩:=snd_gl (call:=call) (pos:=pos) g h
        exact .of h1 (h1.test λ_=>rfl) h2
      | some i =>
        rw [hv] at h
        cases h
        obtain⟨h1,h2,h3⟩:=snd_name (call:=call) (pos:=pos) g hv
        exact⟨h1,h2,h1.test λ_=>rfl,h3,.inl ⟨_,_,rfl⟩⟩
    · rename_i cc j pos
      cases hv:kOf cc with
      | none=>rw [hv] at h;cases h
      | some d =>
        rw [hv] at h
        cases h
        have h1:=snd_const (call:=call) (X:=X) (j:=j) (pos:=pos) hv
        exact .of h1 (h1.test λ_=>rfl) λi z=>nomatch z
    · rename_i a op b pos
      obtain⟨o,e1,e2⟩:=bind1 h
      obtain⟨x,e3,e4⟩:=bind1 e2
      obtain⟨y,e5,e6⟩:=bind1 e4
      cases e6
      have h1:=snd_bin (call:=call) (pos:=pos) (opd_of (X:=X) e1) (A.e X sc N a x g e3).hp (A.e X sc N b y g e5).hp
      exact .of h1 (h1.test λ_=>rfl) λi z=>nomatch z
    · rename_i a pos
      cases hx:cE G n sc N a with
      | none=>rw [hx] at h;cases h
      | some x =>
        rw [hx] at h
        cases h
        have h1:=snd_neg (pos:=pos) (A.e X sc N a x g hx).hp
        exact .of h1 (h1.test λ_=>rfl) λi z=>nomatch z
    · rename_i a pos
      cases hx:cE G n sc N a with
      | none=>rw [hx] at h;cases h
      | some x =>
        rw [hx] at h
        cases h
        have h0:=A.e X sc N a x g hx
        obtain⟨h1,h2⟩:=snd_not (pos:=pos) h0.he h0.ht
        exact .of h1 h2 λi z=>nomatch z
    · rename_i es pos
      split at h
      · rename_i hl
        have h0:=A.w X sc N es c g h
        exact .of (h0 pos).1 h0.test (and_nv hl h)
      · cases h
    · rename_i es pos
      split at h
      · rename_i hl
        have h0:=A.v X sc N es c g h
        exact .of (h0 pos).1 h0.test (or_nv hl h)
      · cases h
    · rename_i a cc j p2 pos
      obtain⟨d,e1,e2⟩:=bind1 h
      obtain⟨x,e3,e4⟩:=bind1 e2
      cases e4
      obtain⟨h1,h2⟩:=snd_is (call:=call) (X:=X) (pos:=pos) (pos':=p2) (j:=j) false rfl e1 (A.e X sc N a x g e3).hp
      exact .of h1 h2 λi z=>nomatch z
    · rename_i a cc j p2 pos
      obtain⟨d,e1,e2⟩:=bind1 h
      obtain⟨x,e3,e4⟩:=bind1 e2
      cases e4
      obtain⟨h1,h2⟩:=snd_is (call:=call) (X:=X) (pos:=pos) (pos':=p2) (j:=j) true rfl e1 (A.e X sc N a x g e3).hp
      exact .of h1 h2 λi z=>nomatch z
    · rename_i a op b pos _ _
      obtain⟨o,e1,e2⟩:=bind1 h
      obtain⟨x,e3,e4⟩:=bind1 e2
      obtain⟨y,e5,e6⟩:=bind1 e4
      have hm:behindInMarks op b=false:=no_mark e5 op
      obtain⟨h1,h2⟩:=snd_cmp (call:=call) (pos:=pos) (cmpd_of (X:=X) (units20 g) e1) hm (λ_ _ _ hz=>cmp_bl hz) (A.e X sc N a x g e3).hp (A.e X sc N b y g e5).hp
      cases e6
      exact .of h1 h2 λi z=>nomatch z
    · rename_i a lo hi p2 pos
      obtain⟨x,e1,e2⟩:=bind1 h
      obtain⟨l,e3,e4⟩:=bind1 e2
      obtain⟨u,e5,e6⟩:=bind1 e4
      cases e6
      have h1:=snd_sl (p2:=p2) (pos:=pos) (A.e X sc N a x g e1).hp (A.o X sc N lo l g e3) (A.o X sc N hi u g e5)
      exact .of h1 (h1.test λ_=>rfl) λi z=>nomatch z
    · rename_i a b pos _
      obtain⟨x,e1,e2⟩:=bind1 h
      obtain⟨y,e3,e4⟩:=bind1 e2
      cases e4
      have h1:=snd_ix (pos:=pos) (plain_ix e3) (A.e X sc N a x g e1).hp (A.e X sc N b y g e3).hp
      exact .of h1 (h1.test λ_=>rfl) λi z=>nomatch z
    · rename_i es kk pos
      cases hx:cEs G n sc N es with
      | none=>rw [hx] at h;cases h
      | some xs =>
        rw [hx] at h
        cases h
        have h1:=snd_tup (x1:=kk) (pos:=pos) (A.a X sc N es xs g hx).1
        exact .of h1 (h1.test λ_=>rfl) λi z=>nomatch z
    · rename_i es pos
      cases hx:cEs G n sc N es with
      | none=>rw [hx] at h;cases h
      | some xs =>
        rw [hx] at h
        cases h
        have h1:=snd_lst (pos:=pos) (A.a X sc N es xs g hx).1
        exact .of h1 (h1.test λ_=>rfl) λi z=>nomatch z
    · rename_i f p as pos
      split at h
      · rename_i hf
        rw [Bool.and_eq_true] at hf
        obtain⟨h1,h2⟩:=A.f X sc N f as c p pos g hf.1 hf.2 h
        exact .of h1 (h1.test λ_=>rfl) h2
      · cases h
    · rename_i t a b pos
      obtain⟨ct,e1,e2⟩:=bind1 h
      obtain⟨x,e3,e4⟩:=bind1 e2
      obtain⟨y,e5,e6⟩:=bind1 e4
      cases e6
      have h1:=snd_ifx (pos:=pos) (A.e X sc N t ct g e1).ht (A.e X sc N a x g e3).he (A.e X sc N b y g e5).he
      exact .of h1 (snd_ifxT (A.e X sc N t ct g e1).ht (A.e X sc N a x g e3).ht (A.e X sc N b y g e5).ht) λi z=>nomatch z
    · rename_i elt tg it sc' pos
      split at h
      · rename_i hsc
        have S:=scope_ok hsc
        obtain⟨t,e1,e2⟩:=bind1 h
        obtain⟨ks,e3,e4⟩:=bind1 e2
        obtain⟨ce,e5,e6⟩:=bind1 e4
        have he:∀X':Cx,XG call G k X' sc' (ownN sc'++freeN sc')→SndE call X' elt ce:=λX' g'=>(A.e X' sc' _ elt ce g' e5).he
        have hsr:=srk (sc:=sc) it
        cases hq:srOf sc it with
        | seq s =>
          rw [hq] at e6 hsr
          obtain⟨x,q1,q2⟩:=bind1 e6
          cases q2
          cases hsr
          have h1:=snd_comp (pos:=pos) (c:=.compS ce (ownN sc').length ks t x) g S e1 e3 he (src_seq A g q1) (no_fold q1 X.env) fun σ r hr=>by
            obtain⟨y,r1,r2⟩:=bind1 (by simpa only [evE_compS] using hr)
            obtain⟨its,r3,r4⟩:=bind1 r2
            obtain⟨ys,r5,r6⟩:=bind1 r4
            cases r6
            exact⟨its,ys,by simp only [r1];exact r3,r5,rfl,λz=>z rfl⟩
          exact .of h1 (h1.test λ_=>rfl) λi z=>nomatch z
        | rng rs =>
          rw [hq] at e6 hsr
          obtain⟨xs,q1,q2⟩:=bind1 e6
          cases q2
          cases hsr with
          | rng f p as pos2 hg hf hl =>
            have h1:=snd_comp (pos:=pos) (c:=.compR ce (ownN sc').length ks t xs) g S e1 e3 he (src_rng (p:=p) (pos:=pos2) A g hG hg hf hl q1) (λ_=>rfl) fun σ r hr=>by
              obtain⟨y,r1,r2⟩:=bind1 (by simpa only [evE_compR] using hr)
              obtain⟨its,r3,r4⟩:=bind1 r2
              split at r4
              · rename_i hle
                obtain⟨ys,r5,r6⟩:=bind1 r4
                cases r6
                exact⟨its,ys,by simp only [r1];exact r3,r5,rfl,λ_=>hle⟩
              · cases r4
            exact .of h1 (h1.test λ_=>rfl) λi z=>nomatch z
        | zip a b =>
          rw [hq] at e6 hsr
          simp only at e6
          split at e6
          · rename_i h2
            obtain⟨x,q1,q2⟩:=bind1 e6
            obtain⟨y,q3,q4⟩:=bind1 q2
            cases q4
            obtain⟨es,kk,tp,rfl⟩:=two_tup e1 h2
            cases hsr with
            | zip f p a b pos2 hg hf =>
              have h1:=snd_comp (pos:=pos) (c:=.compZ ce (ownN sc').length ks t x y) g S e1 e3 he (src_zip (p:=p) (pos:=pos2) A g hG hg hf q1 q3) (λ_=>rfl) fun σ r hr=>by
                obtain⟨z,r1,r2⟩:=bind1 (by simpa only [evE_compZ] using hr)
                obtain⟨z2,r3,r4⟩:=bind1 r2
                obtain⟨xs,r5,r6⟩:=bind1 r4
                obtain⟨ys,r7,r8⟩:=bind1 r6
                obtain⟨zs,r9,r10⟩:=bind1 r8
                cases r10
                exact⟨zipD xs ys,zs,by simp only [r1,r3,r5,r7,Option.bind_some],r9,rfl,λz=>z rfl⟩
              exact .of h1 (h1.test λ_=>rfl) λi z=>nomatch z
          · cases e6
        | rev rs=>rw [hq] at e6;cases e6
        | enm a=>rw [hq] at e6;cases e6
      · cases h
    · exact (A.x X sc N _ c g h).1
  · intro X sc N f es c p pos g hg hp h
    unfold cCall at h
    split at h
    · rename_i i hd
      split at h
      · cases h
      · rename_i hne
        cases hx:cEs G n sc N es with
        | none=>rw [hx] at h;cases h
        | some xs =>
          rw [hx] at h
          cases h
          obtain⟨a1,a2,a3,a4⟩:=A.a X sc N es xs g hx
          exact⟨snd_call g hd hg (plain_of hp).2 a3 (by intro z;subst z;exact hne rfl) (A.ga X sc N es xs g hx),(λi z=>nomatch z)⟩
    · rename_i hd
      split at h
      · rename_i a t p2 hf
        split at h
        · rename_i hq
          rw [Bool.and_eq_true] at hq
          obtain⟨ty,e1,e2⟩:=bind1 h
          obtain⟨x,e3,e4⟩:=bind1 e2
          cases e4
          have hdt:G.defs.lookup t=none:=by simpa using hq.2
          exact⟨snd_isi g (by simpa using hf) hd hdt hg hq.1 e1 (no_star e3) (A.e X sc N a x g e3).hp,λi z=>nomatch z⟩
        · cases h
      · obtain⟨b,e1,e2⟩:=bind1 h
        rename_i as _ _ hf
        cases hx:cEs G n sc N as with
        | none=>rw [hx] at e2;cases e2
        | some xs =>
          rw [hx] at e2
          cases e2
          obtain⟨a1,a2,a3,a4⟩:=A.a X sc N as xs g hx
          exact⟨snd_bi_of g e1 hd hg hp a3 a2,λi z=>nomatch z⟩
      · cases h
  · intro X sc N es cs g h
    unfold cEs at h
    split at h
    · cases h
      exact⟨snd_anil,snd_apnil,rfl,rfl⟩
    · rename_i a r
      obtain⟨x,e1,e2⟩:=bind1 h
      obtain⟨xs,e3,e4⟩:=bind1 e2
      cases e4
      have h0:=A.e X sc N a x g e1
      obtain⟨a1,a2,a3,a4⟩:=A.a X sc N r xs g e3
      have hs:=star_cons (env:=X.env) (es:=r) (no_star e1)
      exact⟨snd_acons hs h0.he a1,snd_apcons hs h0.hp a2,by simp [no_star e1];simpa using a3,by simp [a4]⟩
  · intro X sc N e c g h
    unfold cO at h
    split at h
    · cases h;exact snd_onone
    · rename_i e
      cases hx:cE G n sc N e with
      | none=>rw [hx] at h;cases h
      | some x =>
        rw [hx] at h
        cases h
        exact snd_osome (A.e X sc N e x g hx).hp
  · intro X sc N kws cs g h
    unfold cEs at h
    cases kws with
    | nil=>cases h;exact snd_knil
    | cons kw kws =>
      obtain⟨x,e1,e2⟩:=bind1 h
      obtain⟨xs,e3,e4⟩:=bind1 e2
      cases e4
      exact snd_kcons (A.e X sc N kw.value x g e1).he (A.kf X sc N kws xs g e3)
  · intro X sc N e c g h
    unfold cX at h
    split at h
    · rename_i elt tg it cd sc' pos
      split at h
      · rename_i hsc
        have S:=scope_ok hsc
        obtain⟨t,e1,e2⟩:=bind1 h
        obtain⟨ks,e3,e4⟩:=bind1 e2
        obtain⟨ce,e5,e6⟩:=bind1 e4
        obtain⟨cc,e7,e8⟩:=bind1 e6
        have he:∀X':Cx,XG call G k X' sc' (ownN sc'++freeN sc')→SndE call X' elt ce:=λX' g'=>(A.e X' sc' _ elt ce g' e5).he
        have hc:∀X':Cx,XG call G k X' sc' (ownN sc'++freeN sc')→SndT call X' cd cc:=λX' g'=>(A.e X' sc' _ cd cc g' e7).ht
        have hsr:=srk (sc:=sc) it
        cases hq:srOf sc it with
        | seq s =>
          rw [hq] at e8 hsr
          obtain⟨x,q1,q2⟩:=bind1 e8
          cases q2
          cases hsr
          have h1:=snd_compF (pos:=pos) (c:=.compF ce cc (ownN sc').length ks t x) g S e1 e3 he hc (src_seq A g q1) (no_fold q1 X.env) fun σ r hr=>by
            obtain⟨y,r1,r2⟩:=bind1 (by simpa only [evE_compF] using hr)
            obtain⟨its,r3,r4⟩:=bind1 r2
            obtain⟨ys,r5,r6⟩:=bind1 r4
            cases r6
            exact⟨its,ys,by simp only [r1];exact r3,r5,rfl,λz=>z rfl⟩
          exact⟨.of h1 (h1.test λ_=>rfl) (λi z=>nomatch z),(λi z=>nomatch z)⟩
        | _=>rw [hq] at e8;cases e8
      · cases h
    · rename_i a o p b c' pos
      obtain⟨o',e1,h⟩:=bind1 h
      obtain⟨p',e2,h⟩:=bind1 h
      obtain⟨x,e3,h⟩:=bind1 h
      obtain⟨y,e4,h⟩:=bind1 h
      obtain⟨z,e5,h⟩:=bind1 h
      cases h
      obtain⟨h1,h2⟩:=snd_chn (call:=call) (pos:=pos) (cmpd_of (X:=X) (units20 g) e1) (cmpd_of (X:=X) (units20 g) e2) (show behindInMarks p c'=false from no_mark e5 p) (λ_ _ _ hz=>cmp_bl hz) (λ_ _ _ hz=>cmp_bl hz) (A.e X sc N a x g e3).hp (A.e X sc N b y g e4).hp (A.e X sc N c' z g e5).hp
      exact⟨.of h1 h2 (λi z=>nomatch z),(λi z=>nomatch z)⟩
    · cases h
  · intro X sc N es cs g h
    unfold cJ at h
    split at h
    · cases h;exact snd_jnil
    · rename_i x j p r
      cases hx:cJ G n sc N r with
      | none=>rw [hx] at h;cases h
      | some xs =>
        rw [hx] at h
        cases h
        exact snd_jcons (snd_const rfl) (A.j X sc N r xs g hx)
    · rename_i e p r
      obtain⟨x,e1,e2⟩:=bind1 h
      obtain⟨xs,e3,e4⟩:=bind1 e2
      cases e4
      exact snd_jcons (snd_fv (A.e X sc N e x g e1).hp) (A.j X sc N r xs g e3)
    · cases h
  · intro X sc N es cs g h
    unfold cEs at h
    split at h
    · cases h
      exact snd_ganil
    · rename_i a r
      obtain⟨x,e1,e2⟩:=bind1 h
      obtain⟨xs,e3,e4⟩:=bind1 e2
      cases e4
      exact snd_gacons (star_cons (env:=X.env) (es:=r) (no_star e1)) (A.e X sc N a x g e1).hg (A.ga X sc N r xs g e3)
  · intro X sc N es c g h
    unfold cAnd at h
    split at h
    · rename_i a
      have h0:=A.e X sc N a c g h
      exact snd_one h0.he h0.ht
    · rename_i a b r
      obtain⟨x,e1,e2⟩:=bind1 h
      obtain⟨y,e3,e4⟩:=bind1 e2
      cases e4
      have h0:=A.e X sc N a x g e1
      exact snd_and h0.he h0.ht (A.w X sc N (b::r) y g e3)
    · cases h
  · intro X sc N es c g h
    unfold cOr at h
    split at h
    · rename_i a
      have h0:=A.e X sc N a c g h
      exact snd_one h0.he h0.ht
    · rename_i a b r
      obtain⟨x,e1,e2⟩:=bind1 h
      obtain⟨y,e3,e4⟩:=bind1 e2
      cases e4
      have h0:=A.e X sc N a x g e1
      exact snd_or h0.he h0.ht (A.v X sc N (b::r) y g e3)
    · cases h
theorem all_ok (hG:∀x∈bltNames,G.defs.lookup x=none):∀n,AllE call G k n
  | 0=>all_zero
  | n+1=>all_succ hG (all_ok hG n)
end
end Dw
namespace Dw
open PySem PySem.Spec PySem.W PyProof.Rows L2
noncomputable abbrev G0:Gx:=⟨[],[],[],[],[],[],[]⟩
section
variable {call:Nat→List D→Option R}{k:Nat}{X:Cx}{sc sc':Scope}{N:List Str}{ks:List Nat}
end
end Dw
namespace Dw
open PySem PySem.Spec PyProof.Rows L2
section
variable {call:Nat→List D→Option R}{G:Gx}{k:Nat}{X:Cx}{sc sc':Scope}{N:List Str}
theorem comp_inv (hG:∀x∈bltNames,G.defs.lookup x=none) {n:Nat}(A:AllE call G k n) (g:XG call G k X sc N) {elt:Expr}{gens:List Comprehension}{pos:Pos}{c:C}(h:cE G (n+1) sc N (.ListComp elt gens sc' pos)=some c) (hx:cX G n sc N (.ListComp elt gens sc' pos)≠some c) :
    ∃(tg iter:Expr) (t:Tg) (ks:List Nat) (ce:C) (b:Bool) (src:En→Option (List D)),gens=[⟨tg,iter,[],0⟩]∧ScOk sc'∧tgOf sc' (ownN sc'++freeN sc') tg=some t∧optAll (capOf sc N) (freeN sc')=some ks ∧
      (∀X':Cx,XG call G k X' sc' (ownN sc'++freeN sc')→SndE call X' elt ce)∧SndI X tg iter b src∧(∀x,foldedSetIterable iter X.env x=pure x) ∧
      (∀σ r,evE call σ c=some r→∃its ys,src σ=some its∧evComp call ce (capt σ (ownN sc').length ks) t its=some ys∧r=(true,.lst ys)∧((b=true→its.length≤lim)→its.length≤lim)):=by
  unfold cE at h
  split at h
  any_goals (rename_i heq;first|cases heq|skip)
  all_goals first|(cases n<;>(cases h;done))|skip
  rotate_left
  · exact absurd h hx
  rename_i _ tg it
  split at h
  · rename_i hsc
    have S:=scope_ok hsc
    obtain⟨t,e1,e2⟩:=bind1 h
    obtain⟨ks,e3,e4⟩:=bind1 e2
    obtain⟨ce,e5,e6⟩:=bind1 e4
    have he:∀X':Cx,XG call G k X' sc' (ownN sc'++freeN sc')→SndE call X' elt ce:=λX' g'=>(A.e X' sc' _ elt ce g' e5).he
    have hsr:=srk (sc:=sc) it
    cases hq:srOf sc it with
    | seq s =>
      rw [hq] at e6 hsr
      obtain⟨x,q1,q2⟩:=bind1 e6
      cases q2
      cases hsr
      refine⟨tg,it,t,ks,ce,true,_,rfl,S,e1,e3,he,src_seq A g q1,no_fold q1 X.env,fun σ r hr=>?_⟩
      obtain⟨y,r1,r2⟩:=bind1 (by simpa only [evE_compS] using hr)
      obtain⟨its,r3,r4⟩:=bind1 r2
      obtain⟨ys,r5,r6⟩:=bind1 r4
      cases r6
      exact⟨its,ys,by simp only [r1];exact r3,r5,rfl,λz=>z rfl⟩
    | rng rs =>
      rw [hq] at e6 hsr
      obtain⟨xs,q1,q2⟩:=bind1 e6
      cases q2
      cases hsr with
      | rng f p as pos2 hg hf hl =>
        refine⟨tg,_,t,ks,ce,false,_,rfl,S,e1,e3,he,src_rng (p:=p) (pos:=pos2) A g hG hg hf hl q1,λ_=>rfl,fun σ r hr=>?_⟩
        obtain⟨y,r1,r2⟩:=bind1 (by simpa only [evE_compR] using hr)
        obtain⟨its,r3,r4⟩:=bind1 r2
        split at r4
        · rename_i hle
          obtain⟨ys,r5,r6⟩:=bind1 r4
          cases r6
          exact⟨its,ys,by simp only [r1];exact r3,r5,rfl,λ_=>hle⟩
        · cases r4
    | zip a b =>
      rw [hq] at e6 hsr
      simp only at e6
      split at e6
      · rename_i h2
        obtain⟨x,q1,q2⟩:=bind1 e6
        obtain⟨y,q3,q4⟩:=bind1 q2
        cases q4
        obtain⟨es,kk,tp,rfl⟩:=two_tup e1 h2
        cases hsr with
        | zip f p a b pos2 hg hf =>
          refine⟨_,_,t,ks,ce,true,_,rfl,S,e1,e3,he,src_zip (p:=p) (pos:=pos2) A g hG hg hf q1 q3,λ_=>rfl,fun σ r hr=>?_⟩
          obtain⟨z,r1,r2⟩:=bind1 (by simpa only [evE_compZ] using hr)
          obtain⟨z2,r3,r4⟩:=bind1 r2
          obtain⟨xs,r5,r6⟩:=bind1 r4
          obtain⟨ys,r7,r8⟩:=bind1 r6
          obtain⟨zs,r9,r10⟩:=bind1 r8
          cases r10
          exact⟨zipD xs ys,zs,by simp only [r1,r3,r5,r7,Option.bind_some],r9,rfl,λz=>z rfl⟩
      · cases e6
    | rev rs=>rw [hq] at e6;cases e6
    | enm a=>rw [hq] at e6;cases e6
  · cases h
theorem compF_inv (hG:∀x∈bltNames,G.defs.lookup x=none) {n:Nat}(A:AllE call G k n) (g:XG call G k X sc N) {elt:Expr}{gens:List Comprehension}{pos:Pos}{c:C}(h:cX G (n+1) sc N (.ListComp elt gens sc' pos)=some c) :
    ∃(tg iter cnd:Expr) (t:Tg) (ks:List Nat) (ce cc:C) (src:En→Option (List D)),gens=[⟨tg,iter,[cnd],0⟩]∧ScOk sc'∧tgOf sc' (ownN sc'++freeN sc') tg=some t∧optAll (capOf sc N) (freeN sc')=some ks ∧
      (∀X':Cx,XG call G k X' sc' (ownN sc'++freeN sc')→SndE call X' elt ce)∧(∀X':Cx,XG call G k X' sc' (ownN sc'++freeN sc')→SndT call X' cnd cc)∧SndI X tg iter true src∧(∀x,foldedSetIterable iter X.env x=pure x) ∧
      (∀σ r,evE call σ c=some r→∃its ys,src σ=some its∧evCompF call cc ce (capt σ (ownN sc').length ks) t its=some ys∧r=(true,.lst ys)∧((true=true→its.length≤lim)→its.length≤lim)):=by
  unfold cX at h
  split at h
  any_goals (rename_i heq;first|cases heq|skip)
  all_goals first|(cases h;done)|skip
  rename_i _ tg it cd
  split at h
  · rename_i hsc
    have S:=scope_ok hsc
    obtain⟨t,e1,e2⟩:=bind1 h
    obtain⟨ks,e3,e4⟩:=bind1 e2
    obtain⟨ce,e5,e6⟩:=bind1 e4
    obtain⟨cc,e7,e8⟩:=bind1 e6
    have hsr:=srk (sc:=sc) it
    cases hq:srOf sc it with
    | seq s =>
      rw [hq] at e8 hsr
      obtain⟨x,q1,q2⟩:=bind1 e8
      cases q2
      cases hsr
      refine⟨tg,it,cd,t,ks,ce,cc,_,rfl,S,e1,e3,λX' g'=>(A.e X' sc' _ elt ce g' e5).he,λX' g'=>(A.e X' sc' _ cd cc g' e7).ht,src_seq A g q1,no_fold q1 X.env,fun σ r hr=>?_⟩
      obtain⟨y,r1,r2⟩:=bind1 (by simpa only [evE_compF] using hr)
      obtain⟨its,r3,r4⟩:=bind1 r2
      obtain⟨ys,r5,r6⟩:=bind1 r4
      cases r6
      exact⟨its,ys,by simp only [r1];exact r3,r5,rfl,λz=>z rfl⟩
    | _=>rw [hq] at e8;cases e8
  · cases h
theorem swap_comp (elt:Expr) (gens:List Comprehension) (sc':Scope) (pos py:Pos) (x:Str) (ln:Nat) (env:Env):∃b:Bool,swapsWith (.ListComp elt gens sc' pos) (some (.Name x py)) ln env=pure b:=⟨_,rfl⟩
theorem asg_any (hG:∀x∈bltNames,G.defs.lookup x=none) {n:Nat}(g:XG call G k X sc N) {e:Expr}{c:C}{x:Str}{i:Nat}{py spos:Pos}(h:cE G n sc N e=some c) (hx:(sc.names.lookup x == some .local||sc.names.lookup x == some .cell)=true) (hsl:slotOf N x=some i) :
    ∃t:TS,PS X (.Assign [.Name x py] e spos) t∧∀(Ge H:Hp) (F:Fz) (σ:En) (τ:L2.St) (r:R) (Dn:Ends),evE call σ c=some r→SR X.K Ge H F σ τ→(∀v H' F',Gr H F H' F'→RR X.K H H' F' r v→Dn.nx (τ.set i (some v)) H')→t Dn τ H:=by
  obtain⟨l1,l2⟩:=loc_of g hx
  have plain:swapsWith e (some (.Name x py)) spos.line X.env=pure false→∃t:TS,PS X (.Assign [.Name x py] e spos) t∧∀(Ge H:Hp) (F:Fz) (σ:En) (τ:L2.St) (r:R) (Dn:Ends),evE call σ c=some r→SR X.K Ge H F σ τ→(∀v H' F',Gr H F H' F'→RR X.K H H' F' r v→Dn.nx (τ.set i (some v)) H')→t Dn τ H:=λhs=>by
    obtain⟨te,pe,qe⟩:=((all_ok (call:=call) (k:=k) hG n).e X sc N e c g h).he
    exact⟨_,ps_set (i:=i) (by rw [g.hN];exact g.nd) (by rw [g.hN];exact slot_get hsl) l1 pe hs l2,λGe H F σ τ r Dn h1 h2 h3=>qe Ge H F σ τ r _ h1 h2 h3⟩
  cases n with
  | zero=>cases h
  | succ n =>
    cases e with
    | ListComp elt gens sc' pos =>
      obtain⟨b,hb⟩:=swap_comp elt gens sc' pos py x spos.line X.env
      cases b with
      | false=>exact plain hb
      | true =>
        by_cases hx':cX G n sc N (.ListComp elt gens sc' pos)=some c
        · cases n with
          | zero=>cases hx'
          | succ n =>
            obtain⟨tg,iter,cnd,t,ks,ce,cc,src,rfl,S,e1,e3,he,hcn,hi,hf,hc⟩:=compF_inv hG (all_ok (call:=call) (k:=k) hG n) g hx'
            exact⟨_,asg_compF g S e1 e3 he hcn hi hf hc hx hsl hb,λGe H F σ τ r Dn h1 h2 h3=>⟨Ge,F,σ,r,h1,h2,h3⟩⟩
        obtain⟨tg,iter,t,ks,ce,b,src,rfl,S,e1,e3,he,hi,hf,hc⟩:=comp_inv hG (all_ok (call:=call) (k:=k) hG n) g h hx'
        exact⟨_,asg_comp g S e1 e3 he hi hf hc hx hsl hb,λGe H F σ τ r Dn h1 h2 h3=>⟨Ge,F,σ,r,h1,h2,h3⟩⟩
    | SetComp _ _ _ _=>(cases n<;>cases h)
    | DictComp _ _ _ _ _=>(cases n<;>cases h)
    | _=>exact plain rfl
noncomputable def EndsOk (X:Cx) (Ge:Hp) (F0:Fz) (H:Hp) (F:Fz) (o:Ou) (Dn:Ends):Prop:=match o with
  | .nx σ'=>∀τ' H' F',Keep H F H' F'→Gr Ge F0 H' F'→SR X.K Ge H' F' σ' τ'→Dn.nx τ' H'
  | .rt r=>(∀v H' F',Gr Ge F0 H' F'→RR X.K Ge H' F' r v→Dn.rt v H')∧∀c,r=(false,.exc c)→∀H' F',Gr Ge F0 H' F'→Wish X c H'
  | .bk σ'=>∀τ' H' F',Keep H F H' F'→Gr Ge F0 H' F'→SR X.K Ge H' F' σ' τ'→Dn.bk τ' H'
  | .ct σ'=>∀τ' H' F',Keep H F H' F'→Gr Ge F0 H' F'→SR X.K Ge H' F' σ' τ'→Dn.ct τ' H'
theorem EndsOk.mv {X:Cx}{Ge:Hp}{F0:Fz}{H H1:Hp}{F F1:Fz}{o:Ou}{Dn:Ends}(h:EndsOk X Ge F0 H F o Dn) (k:Keep H F H1 F1):EndsOk X Ge F0 H1 F1 o Dn:=by
  cases o with
  | nx σ'=>exact fun τ' H' F' k' g s=>h τ' H' F' (k.trans k') g s
  | rt r=>exact h
  | bk σ'=>exact fun τ' H' F' k' g s=>h τ' H' F' (k.trans k') g s
  | ct σ'=>exact fun τ' H' F' k' g s=>h τ' H' F' (k.trans k') g s
variable (call X) in
noncomputable def SndS (st:List Stmt) (cs:List S):Prop:=∃t:TS,PSs X st t∧∀(Ge:Hp) (F0:Fz) (H:Hp) (F:Fz) (σ:En) (τ:L2.St) (o:Ou) (Dn:Ends),evSs call σ cs=some o→SR X.K Ge H F σ τ→Gr Ge F0 H F→EndsOk X Ge F0 H F o Dn→t Dn τ H
variable (call X) in
noncomputable def Snd1 (st:Stmt) (cs:List S):Prop:=∃t:TS,PS X st t∧∀(Ge:Hp) (F0:Fz) (H:Hp) (F:Fz) (σ:En) (τ:L2.St) (o:Ou) (Dn:Ends),evSs call σ cs=some o→SR X.K Ge H F σ τ→Gr Ge F0 H F→EndsOk X Ge F0 H F o Dn→t Dn τ H
theorem evSs_append (cx cy:List S):∀σ:En,evSs call σ (cx++cy)=(evSs call σ cx).bind (thenK fun σ'=>evSs call σ' cy):=by
  induction cx with
  | nil=>intro σ;rfl
  | cons a r ih =>
    intro σ
    rw [List.cons_append,evSs_cons,evSs_cons]
    rcases evS call σ a with _|(σ1|r1|σ1|σ1)
    · rfl
    · exact ih σ1
    · rfl
    · rfl
    · rfl
theorem snd_nil:SndS call X [] []:=⟨_,pss_nil,λGe F0 H F σ τ o Dn h s g e=>by cases h;exact e τ H F Keep.refl g s⟩
theorem snd_cons {st:Stmt}{rest:List Stmt}{cx cy:List S}(h1:Snd1 call X st cx) (h2:SndS call X rest cy):SndS call X (st::rest) (cx++cy):=by
  obtain⟨t1,p1,q1⟩:=h1
  obtain⟨t2,p2,q2⟩:=h2
  refine⟨_,pss_cons p1 p2,λGe F0 H F σ τ o Dn h s g e=>?_⟩
  rw [evSs_append] at h
  obtain⟨o1,e1,e2⟩:=bind1 h
  cases o1 with
  | nx σ1=>exact q1 Ge F0 H F σ τ (.nx σ1) { Dn with nx:=t2 Dn } e1 s g fun τ' H' F' k' g' s'=>q2 Ge F0 H' F' σ1 τ' o Dn e2 s' g' (e.mv k')
  | rt r=>cases e2;exact q1 Ge F0 H F σ τ (.rt r) { Dn with nx:=t2 Dn } e1 s g e
  | bk σ1=>cases e2;exact q1 Ge F0 H F σ τ (.bk σ1) { Dn with nx:=t2 Dn } e1 s g e
  | ct σ1=>cases e2;exact q1 Ge F0 H F σ τ (.ct σ1) { Dn with nx:=t2 Dn } e1 s g e
theorem SR.frz1 {K:PySem.W.Frag}{Ge H:Hp}{F F0:Fz}{σ:En}{τ:L2.St}(s:SR K Ge H F σ τ) (g:Gr Ge F0 H F) (i:Nat):∃F',SR K Ge H F' (Dw.frz1 σ i) τ∧Keep H F H F'∧Gr Ge F0 H F':=by
  unfold Dw.frz1
  split
  · rename_i ds0 hd
    obtain⟨a,ds,vs,eq0,h2,h3,h4,h5,h6⟩:=s.own i _ hd rfl
    cases eq0
    have kp:Keep H F H (λb=>b=a∨F b):=⟨λ_ _ h=>h,λ_ _ f h=>⟨.inr f,h⟩⟩
    refine⟨λb=>b=a∨F b,?_,kp,⟨g.same,λb f=>.inr (g.sub b f),λb f=>f.elim (λz=>.inr (z▸h3)) (g.new b),λb e f=>f.elim (λz=>by subst z;rw [h5] at e;cases e) (g.dom b e)⟩⟩
    have hl:=getv_lt hd
    refine⟨by simp [s.len],s.ent,λb e f=>f.elim (λz=>by subst z;rw [h5] at e;cases e) (s.dom b e),λj e hj=>?_,λj e hj hde=>?_,λj l e e' hj hl' hjl=>?_,λj m ks hj=>?_,λj ns ds hj=>?_,s.tb⟩
    · by_cases hij:i=j
      · subst hij
        rw [getv_same hl] at hj
        cases hj
        exact⟨.ref a,h2,a,vs,rfl,.inl ⟨.inl rfl,.inl h5⟩,RDs.mono kp h6⟩
      · rw [getv_ne hij] at hj
        obtain⟨v,q1,q2⟩:=s.val j e hj
        exact⟨v,q1,RD.mono kp q2⟩
    · have hij:i≠j:=λz=>by subst z;rw [getv_same hl] at hj;cases hj
      rw [getv_ne hij] at hj
      obtain⟨a',ds',vs',p1,p2,p3,p4,p5,p6⟩:=s.own j e hj hde
      refine⟨a',ds',vs',p1,p2,p3,λf=>f.elim (λz=>?_) p4,p5,RDs.mono kp p6⟩
      subst z
      exact hij (s.sep i j _ _ hd hj (by rw [h2,p2]))
    · have ne:∀{j:Nat} {e:D},getv (σ.set i (some (false,.lst ds0))) j=some (true,e)→i≠j:=λ{j e} hj z=>by subst z;rw [getv_same hl] at hj;cases hj
      have n1:=ne hj
      have n2:=ne hl'
      rw [getv_ne n1] at hj
      rw [getv_ne n2] at hl'
      exact s.sep j l e e' hj hl' hjl
    · have hij:i≠j:=λz=>by subst z;rw [getv_same hl] at hj;cases hj
      rw [getv_ne hij] at hj
      obtain⟨a',p1,p2,p3,p4⟩:=s.dct j m ks hj
      refine⟨a',p1,λf=>f.elim (λz=>?_) p2,p3,p4⟩
      subst z
      rw [h5] at p3
      cases p3
    · have hij:i≠j:=λz=>by subst z;rw [getv_same hl] at hj;cases hj
      rw [getv_ne hij] at hj
      obtain⟨v8,p1,p2⟩:=s.obj j ns ds hj
      refine⟨v8,p1,p2.mono kp λa' C dx fs _ hH hF=>⟨λf=>f.elim (λz=>?_) hF,rfl⟩⟩
      subst z
      rw [h5] at hH
      cases hH
  · exact⟨F,s,Keep.refl,g⟩
theorem SR.frzs {K:PySem.W.Frag}{Ge H:Hp}{F0:Fz}{τ:L2.St}:∀(js:List Nat) {σ:En}{F:Fz},SR K Ge H F σ τ→Gr Ge F0 H F→∃F',SR K Ge H F' (js.foldl Dw.frz1 σ) τ∧Keep H F H F'∧Gr Ge F0 H F'
  | [],σ,F,s,g=>⟨F,s,Keep.refl,g⟩
  | j::js,σ,F,s,g=>by
    obtain⟨F1,s1,k1,g1⟩:=SR.frz1 s g j
    obtain⟨F2,s2,k2,g2⟩:=SR.frzs js s1 g1
    exact⟨F2,s2,k1.trans k2,g2⟩
theorem snd_withF {st:Stmt}{mt is:List Nat}{s:S}(h:Snd1 call X st [s]):Snd1 call X st (withF mt is s):=by
  unfold withF
  split
  · exact h
  · obtain⟨t,p,q⟩:=h
    refine⟨t,p,λGe F0 H F σ τ o Dn hv hs g e=>?_⟩
    obtain⟨F',s',k',g'⟩:=SR.frzs (is.filter (mt.contains ·)) hs g
    exact q Ge F0 H F' _ τ o Dn hv s' g' (e.mv k')
end
end Dw
namespace Dw
open PySem PySem.Spec PyProof.Rows L2
section
variable {call:Nat→List D→Option R}{G:Gx}{k:Nat}{X:Cx}{sc sc':Scope}{N:List Str}
theorem evSs_one (σ:En) (s:S):evSs call σ [s]=evS call σ s:=by
  rw [evSs_cons]
  rcases evS call σ s with _|(_|_|_|_)<;>rfl
theorem SR.bindOwn {K:PySem.W.Frag}{Ge H H1:Hp}{F F1:Fz}{σ:En}{τ:L2.St}{i:Nat}{d:D}{v:V}(s0:SR K Ge H F σ τ) (s:SR K Ge H1 F1 σ τ) (h:RR K H H1 F1 (true,d) v):SR K Ge H1 F1 (σ.set i (some (true,d))) (τ.set i (some v)):=by
  obtain⟨a,ds,vs,rfl,rfl,h3,h4,h5,h6⟩:=h
  have hne:∀{j:Nat} {e:D} {a':Addr},getv σ j=some (true,e)→τ[j]?=some (some (.ref a'))→a'≠a:=λ{j e a'} hj ht z=>by
    obtain⟨b,u,q2,_,q5⟩:=s0.addr hj
    rw [ht] at q2
    cases q2
    subst z
    rw [h3] at q5
    cases q5
  refine⟨by simp [s.len],s.ent,s.dom,λj e hj=>?_,λj e hj hde=>?_,λj l e e' hj hl hjl=>?_,λj m ks hj=>?_,λj ns ds hj=>?_,s.tb⟩
  · have hij:i≠j:=λz=>by
      subst z
      rw [getv_same (by simpa using getv_lt hj)] at hj
      cases hj
    rw [getv_ne hij] at hj
    obtain⟨u,q1,q2⟩:=s.val j e hj
    exact⟨u,by rw [List.getElem?_set_ne hij];exact q1,q2⟩
  · by_cases hij:i=j
    · subst hij
      have hl:i<σ.length:=by simpa using getv_lt hj
      rw [getv_same hl] at hj
      cases hj
      exact⟨a,ds,vs,rfl,by rw [List.getElem?_set_self (by rw [←s.len];exact hl)],s0.ent.free h3,h4,h5,h6⟩
    · rw [getv_ne hij] at hj
      obtain⟨a',ds',vs',q1,q2,q3⟩:=s.own j e hj hde
      exact⟨a',ds',vs',q1,by rw [List.getElem?_set_ne hij];exact q2,q3⟩
  · by_cases n1:i=j
    · by_cases n2:i=l
      · rw [←n1,←n2]
      · subst n1
        have hl':i<σ.length:=by simpa using getv_lt hj
        rw [getv_ne n2] at hl
        obtain⟨b,u,q2,_⟩:=s.addr hl
        rw [List.getElem?_set_self (by rw [←s.len];exact hl'),List.getElem?_set_ne n2,q2] at hjl
        cases hjl
        exact absurd rfl (hne hl q2)
    · rw [getv_ne n1] at hj
      by_cases n2:i=l
      · subst n2
        have hl':i<σ.length:=by simpa using getv_lt hl
        obtain⟨b,u,q2,_⟩:=s.addr hj
        rw [List.getElem?_set_self (by rw [←s.len];exact hl'),List.getElem?_set_ne n1,q2] at hjl
        cases hjl
        exact absurd rfl (hne hj q2)
      · rw [getv_ne n2] at hl
        rw [List.getElem?_set_ne n1,List.getElem?_set_ne n2] at hjl
        exact s.sep j l e e' hj hl hjl
  · have hij:i≠j:=λz=>by
      subst z
      rw [getv_same (by simpa using getv_lt hj)] at hj
      cases hj
    rw [getv_ne hij] at hj
    obtain⟨a',q1,q2⟩:=s.dct j m ks hj
    exact⟨a',by rw [List.getElem?_set_ne hij];exact q1,q2⟩
  · have hij:i≠j:=λz=>by
      subst z
      rw [getv_same (by simpa using getv_lt hj)] at hj
      cases hj
    rw [getv_ne hij] at hj
    obtain⟨a',q1,q2⟩:=s.obj j ns ds hj
    exact⟨a',by rw [List.getElem?_set_ne hij];exact q1,q2⟩
theorem snd_set (hG:∀x∈bltNames,G.defs.lookup x=none) {n:Nat}(g:XG call G k X sc N) {e:Expr}{c:C}{x:Str}{i:Nat}{keep:Bool}{py spos:Pos}(h:cE G n sc N e=some c) (hx:(sc.names.lookup x == some .local||sc.names.lookup x == some .cell)=true) (hsl:slotOf N x=some i) :
    Snd1 call X (.Assign [.Name x py] e spos) [.set i keep c]:=by
  obtain⟨t,p,q⟩:=asg_any (py:=py) (spos:=spos) hG g h hx hsl
  refine⟨t,p,λGe F0 H F σ τ o Dn hv hs gr en=>?_⟩
  rw [evSs_one,evS_set] at hv
  obtain⟨r,e1,e2⟩:=bind1 hv
  cases e2
  refine q Ge H F σ τ r Dn e1 hs λv H' F' g' rr=>?_
  obtain⟨b,d⟩:=r
  have froz:keepR keep (b,d)=(false,d)→Dn.nx (τ.set i (some v)) H':=λhk=>by
    obtain⟨F2,g2,rd⟩:=rr.fz g'
    have en':∀τ' H' F',Keep H F H' F'→Gr Ge F0 H' F'→SR X.K Ge H' F' (σ.set i (some (keepR keep (b,d)))) τ'→Dn.nx τ' H':=en
    rw [hk] at en'
    exact en' _ H' F2 g2.keep (gr.trans g2) ((hs.grow g2).bind rd)
  cases b with
  | false=>exact froz (by cases keep<;>rfl)
  | true =>
    cases keep with
    | false=>exact froz rfl
    | true=>exact en _ H' F' g'.keep (gr.trans g') (SR.bindOwn hs (hs.grow g') rr)
theorem own_keep {H:Hp}{F:Fz}{a:Addr}{vs ws:List V}(h:H a=some (.lst vs)) (hf:¬F a):Keep H F (upd H a (.lst ws)) F:=⟨λp xs q=>by
    have ne:p≠a:=λz=>by subst z;rcases q with q|⟨o,q⟩<;>(rw [h] at q;cases q)
    rcases q with q|⟨o,q⟩
    · exact .inl (by rw [upd_ne ne];exact q)
    · exact .inr ⟨o,by rw [upd_ne ne];exact q⟩,λp xs f q=>by
    have ne:p≠a:=λz=>by subst z;exact hf f
    refine⟨f,?_⟩
    rcases q with q|⟨o,q⟩
    · exact .inl (by rw [upd_ne ne];exact q)
    · exact .inr ⟨o,by rw [upd_ne ne];exact q⟩⟩
theorem own_gr {Ge H:Hp}{F0 F:Fz}{a:Addr}{vs ws:List V}(g:Gr Ge F0 H F) (h:H a=some (.lst vs)) (hg:Ge a=none):Gr Ge F0 (upd H a (.lst ws)) F:=⟨λb o e=>by rw [upd_ne (ne_of_none e hg)];exact g.same b o e,g.sub,g.new,λb e=>by
    by_cases z:b=a
    · subst z;rw [upd_same] at e;cases e
    · rw [upd_ne z] at e;exact g.dom b e⟩
theorem own_sr {K:PySem.W.Frag}{Ge H:Hp}{F0 F:Fz}{σ:En}{τ:L2.St}{i:Nat}{a:Addr}{ds es:List D}{vs ws:List V}(s:SR K Ge H F σ τ) (g:Gr Ge F0 H F) (hi:getv σ i=some (true,.lst ds)) (ht:τ[i]?=some (some (.ref a))) (hg:Ge a=none) (hf:¬F a) (h:H a=some (.lst vs)) (r:RDs K H F es ws) :
    SR K Ge (upd H a (.lst ws)) F (σ.set i (some (true,.lst es))) τ:=by
  have kp:=own_keep (ws:=ws) h hf
  have hl:=getv_lt hi
  refine⟨by simp [s.len],(own_gr (ws:=ws) g h hg).same,(own_gr (ws:=ws) g h hg).dom,λj e hj=>?_,λj e hj hde=>?_,λj l e e' hj hl' hjl=>?_,λj m ks hj=>?_,λj ns ds hj=>?_,s.tb⟩
  · have hij:i≠j:=λz=>by subst z;rw [getv_same hl] at hj;cases hj
    rw [getv_ne hij] at hj
    obtain⟨v,q1,q2⟩:=s.val j e hj
    exact⟨v,q1,RD.mono kp q2⟩
  · by_cases hij:i=j
    · subst hij
      rw [getv_same hl] at hj
      cases hj
      exact⟨a,es,ws,rfl,ht,hg,hf,upd_same,RDs.mono kp r⟩
    · rw [getv_ne hij] at hj
      obtain⟨a',ds',vs',p1,p2,p3,p4,p5,p6⟩:=s.own j e hj hde
      have ne:a'≠a:=λz=>by subst z;exact hij (s.sep i j _ _ hi hj (by rw [ht,p2]))
      exact⟨a',ds',vs',p1,p2,p3,p4,by rw [upd_ne ne];exact p5,RDs.mono kp p6⟩
  · have back:∀{j:Nat} {e:D},getv (σ.set i (some (true,.lst es))) j=some (true,e)→∃e',getv σ j=some (true,e'):=λ{j e} hj=>by
      by_cases hij:i=j
      · subst hij;exact⟨_,hi⟩
      · rw [getv_ne hij] at hj;exact⟨e,hj⟩
    obtain⟨_,b1⟩:=back hj
    obtain⟨_,b2⟩:=back hl'
    exact s.sep j l _ _ b1 b2 hjl
  · have hij:i≠j:=λz=>by subst z;rw [getv_same hl] at hj;cases hj
    rw [getv_ne hij] at hj
    obtain⟨a',p1,p2,p3,p4⟩:=s.dct j m ks hj
    have ne:a'≠a:=λz=>by subst z;rw [h] at p3;cases p3
    exact⟨a',p1,p2,by rw [upd_ne ne];exact p3,p4⟩
  · have hij:i≠j:=λz=>by subst z;rw [getv_same hl] at hj;cases hj
    rw [getv_ne hij] at hj
    obtain⟨v8,p1,p2⟩:=s.obj j ns ds hj
    refine⟨v8,p1,p2.mono kp λa' C dx fs _ hH hF=>⟨hF,upd_ne λz=>?_⟩⟩
    subst z
    rw [h] at hH
    cases hH
theorem own_look {K:PySem.W.Frag}{Ge H:Hp}{F:Fz}{σ:En}{τ:L2.St}{i:Nat}{ds:List D}(s:SR K Ge H F σ τ) (h:getv σ i=some (true,.lst ds)):∃a vs,τ[i]?=some (some (.ref a))∧Ge a=none∧¬F a∧H a=some (.lst vs)∧RDs K H F ds vs:=by
  obtain⟨a,ds',vs,e,h2,h3,h4,h5,h6⟩:=s.own i _ h rfl
  cases e
  exact⟨a,vs,h2,h3,h4,h5,h6⟩
theorem snd_app {n:Nat}(A:AllE call G k n) (g:XG call G k X sc N) {x m:Str}{i:Nat}{p p2 p3 spos:Pos}{e:Expr}{c:C}(hm:m=Str.ofString "append") (hln:(p2.endLine == p3.line)=true) (hv:varOf sc N x=some i) (h:cE G n sc N e=some c) :
    Snd1 call X (.Expr (.Call (.Attribute (.Name x p) m p2) [e] [] p3) spos) [.app i c]:=by
  subst hm
  obtain⟨h1,h2,h3,h4⟩:=var_of g hv
  obtain⟨te,pe,qe⟩:=(A.e X sc N e c g h).he
  have pn:PE X (.Name x p) (tVar i):=pe_var h1 h2 h3 h4
  have hst:=star_cons (env:=X.env) (es:=[]) (no_star h)
  refine⟨_,ps_expr (pe_bm PySem.F.plainAttrs_list PySem.F.slot_list_append PySem.F.type_list_append mt_append pn (pa_cons pe pa_nil hst) (hfew:=by rw [hst];rfl) (hline:=hln) (hs:=hst)),λGe F0 H F σ τ o Dn hvv hs gr en=>?_⟩
  rw [evSs_one,evS_app] at hvv
  obtain⟨r,e1,e2⟩:=bind1 hvv
  unfold appD at e2
  split at e2
  · rename_i xs hg
    split at e2
    · rename_i hlt
      cases e2
      obtain⟨a,vs,q1,q2,q3,q4,q5⟩:=own_look hs hg
      refine⟨.ref a,q1,.inl ⟨rfl,_,SqL.of q4⟩,?_⟩
      refine qe Ge H F σ τ r _ e1 hs λv H1 F1 g1 rr=>?_
      obtain⟨F2,g2,rd⟩:=rr.fz g1
      have s2:=hs.grow g2
      obtain⟨a',vs',q1',q2',q3',q4',q5'⟩:=own_look s2 hg
      rw [q1] at q1'
      cases q1'
      have gr2:=gr.trans g2
      refine⟨a,vs',v,rfl,rfl,q4',by rw [RDs.length q5'];exact hlt,?_⟩
      exact en _ _ F2 (g2.keep.trans (own_keep q4' q3')) (own_gr gr2 q4' q2') (own_sr s2 gr2 hg q1 q2' q3' q4' (RDs.append q5' ⟨v,[],rfl,rd,rfl⟩))
    · cases e2
  · cases e2
section
open AutoSeq1
end
theorem RDs.last {K:PySem.W.Frag}{H:Hp}{F:Fz}{ds:List D}{vs:List V}{d:D}(h:RDs K H F ds vs) (e:ds.getLast?=some d):∃v,vs[vs.length - 1]?=some v∧RD K H F d v:=by
  rw [List.getLast?_eq_getElem?] at e
  obtain⟨v,e1,e2⟩:=RDs.get h e
  exact⟨v,by rw [RDs.length h];exact e1,e2⟩
theorem RDs.init {K:PySem.W.Frag}{H:Hp}{F:Fz}{ds:List D}{vs:List V}(h:RDs K H F ds vs):RDs K H F ds.dropLast vs.dropLast:=by
  rw [List.dropLast_eq_take,List.dropLast_eq_take,RDs.length h]
  exact RDs.take _ h
theorem snd_ret (hG:∀x∈bltNames,G.defs.lookup x=none) {n:Nat}(g:XG call G k X sc N) {e:Expr}{c:C}{spos:Pos}(h:cE G n sc N e=some c):Snd1 call X (.Return (some e) spos) [.ret c]:=by
  have ok:=(all_ok (call:=call) (k:=k) hG n).e X sc N e c g h
  by_cases hc:∃i,c=.v i
  · obtain⟨i,rfl⟩:=hc
    cases n with
    | zero=>cases h
    | succ n =>
      have hn:∃x p,e=.Name x p∧varOf sc N x=some i:=by
        rcases ok.nv with ⟨x,p,rfl⟩|z
        · exact⟨x,p,rfl,cE_name h⟩
        · exact absurd rfl (z i)
      obtain⟨x,p,rfl,hv⟩:=hn
      obtain⟨h1,h2,h3,h4⟩:=var_of g hv
      refine⟨_,ps_ret (pe_var h1 h2 h3 h4),λGe F0 H F σ τ o Dn hvv hs gr en=>?_⟩
      rw [evSs_one,evS_ret] at hvv
      obtain⟨r,e1,e2⟩:=bind1 hvv
      cases e2
      have e1:(getv σ i).bind rtR=some r:=e1
      obtain⟨⟨b,d⟩,e0,e1⟩:=bind1 e1
      cases b with
      | false =>
        cases e1
        obtain⟨v,q1,q2⟩:=hs.val i d e0
        exact⟨v,q1,en.1 v H F gr q2⟩
      | true =>
        cases d with
        | lst ds0 =>
          cases e1
          obtain⟨a,ds,vs,q1,q2,q3,q4,q5,q6⟩:=hs.own i _ e0 rfl
          exact⟨.ref a,q2,en.1 _ H F gr ⟨a,ds,vs,q1,rfl,q3,q4,q5,q6⟩⟩
        | _=>cases e1
  · obtain⟨te,pe,qe⟩:=ok.he
    refine⟨_,ps_ret pe,λGe F0 H F σ τ o Dn hvv hs gr en=>?_⟩
    rw [evSs_one,evS_ret] at hvv
    obtain⟨r,e1,e2⟩:=bind1 hvv
    cases e2
    have e1':evE call σ c=some r:=by
      cases c with
      | v i=>exact absurd ⟨i,rfl⟩ hc
      | _=>exact e1
    exact qe Ge H F σ τ r _ e1' hs λv H' F' g' rr=>en.1 v H' F' (gr.trans g') (rr.back hs.ent)
theorem snd_rse (g:XG call G k X sc N) {c m:Str}{j:Nat}{np p1 cpos pos:Pos}(hc:c∈G.rse) (hg:glB sc c=true) (hp:plainName c=true):Snd1 call X (.Raise (some (.Call (.Name c np) [.Constant (.str m) j p1] [] cpos)) none pos) [.rse c]:=by
  obtain⟨C,B,nid,iid,bm,FB,O⟩:=(g.rse c hc).ex
  refine⟨_,ps_raise g.calm (g.gl c hg) FB O (plain_of hp).2,λGe F0 H F σ τ o Dn hv hs gr en=>?_⟩
  rw [evSs_one,evS_rse] at hv
  cases hv
  exact en.2 c rfl H F gr
theorem snd_if {n:Nat}(A:AllE call G k n) (g:XG call G k X sc N) {t:Expr}{c:C}{a b:List Stmt}{ca cb:List S}{spos:Pos}(h:cE G n sc N t=some c) (ha:SndS call X a ca) (hb:SndS call X b cb):Snd1 call X (.If t a b spos) [.ite c ca cb]:=by
  obtain⟨tt,pt,qt⟩:=(A.e X sc N t c g h).ht
  obtain⟨ta,pa,qa⟩:=ha
  obtain⟨tb,pb,qb⟩:=hb
  refine⟨_,ps_if pt pa pb,λGe F0 H F σ τ o Dn hvv hs gr en=>?_⟩
  rw [evSs_one,evS_ite] at hvv
  obtain⟨r,e1,e2⟩:=bind1 hvv
  obtain⟨x,d⟩:=r
  cases d with
  | bl bb =>
    refine qt Ge H F σ τ x bb _ e1 hs λH' F' g'=>?_
    cases bb with
    | true=>exact iteT (qa Ge F0 H' F' σ τ o Dn e2 (hs.grow g') (gr.trans g') (en.mv g'.keep))
    | false=>exact iteF (qb Ge F0 H' F' σ τ o Dn e2 (hs.grow g') (gr.trans g') (en.mv g'.keep))
  | _=>cases e2
theorem snd_for (g:XG call G k X sc N) {tg it:Expr}{t:Tg}{b:Bool}{src:En→Option (List D)}{body:List Stmt}{cb:List S}{s:S}{spos:Pos}(ht:tgM sc N tg=some t) (hi:SndI X tg it b src) (hf:∀x,foldedSetIterable it X.env x=pure x) (hb:SndS call X body cb)
    (hv:∀σ o,evS call σ s=some o→∃its,src σ=some its∧evFor call cb t its σ=some o):Snd1 call X (.For tg it body [] spos) [s]:=by
  obtain⟨wi,pi,qi⟩:=hi
  obtain⟨tb,pb,qb⟩:=hb
  have pg:=snd_tgM g ht
  refine⟨_,ps_for g.xe g.calm pi pg pb hf,λGe F0 H F σ τ o Dn hvv hs gr en=>?_⟩
  rw [evSs_one] at hvv
  obtain⟨its,e1,e2⟩:=hv σ o hvv
  refine qi Ge H F σ τ its _ e1 hs λJ H1 F1 g1 ok1 _=>?_
  refine⟨λi m τ' H'=>i≤its.length∧m=its.length - i∧∃F' σ',SR X.K Ge H' F' σ' τ'∧Gr Ge F0 H' F'∧Keep H1 F1 H' F'∧evFor call cb t (its.drop i) σ'=some o,⟨its.length,Nat.zero_le _,rfl,F1,σ,hs.grow g1,gr.trans g1,Keep.refl,by simpa using e2⟩,?_⟩
  rintro i m τ' H' ⟨hi,rfl,F',σ',sr',gr',kp',ev'⟩
  obtain⟨okI,okS⟩:=ok1 H' F' kp' gr'.dom
  by_cases hlt:i<its.length
  · refine .inr ?_
    have hdi:its[i]?=some its[i]:=List.getElem?_eq_getElem hlt
    obtain⟨go,yl⟩:=okI i _ hdi
    have hdr:its.drop i=its[i]::its.drop (i+1):=List.drop_eq_getElem_cons hlt
    rw [hdr,evFor_cons] at ev'
    obtain⟨σ1,b1,ev'⟩:=bind1 ev'
    obtain⟨o1,b2,ev'⟩:=bind1 ev'
    cases o1 with
    | nx σ2 =>
      refine⟨go,fun τ2 H2=>∃F2,SR X.K Ge H2 F2 σ2 τ2∧Gr Ge F0 H2 F2∧Keep H1 F1 H2 F2,fun τ2 H2 ⟨F2,q1,q2,q3⟩=>⟨its.length - (i+1),by omega,hlt,rfl,F2,σ2,q1,q2,q3,ev'⟩,λx H3 y=>?_⟩
      obtain⟨F3,g3,rd3⟩:=yl x H3 y
      refine tg_bindM (sr'.grow g3) b1 rd3 fun τ4 s4=>?_
      exact qb Ge F0 H3 F3 σ1 τ4 (.nx σ2) _ b2 s4 (gr'.trans g3) fun τ5 H5 F5 k5 g5 s5=>⟨F5,s5,g5,(kp'.trans g3.keep).trans k5⟩
    | rt r =>
      cases ev'
      refine⟨go,λ_ _=>False,λ_ _ z=>z.elim,λx H3 y=>?_⟩
      obtain⟨F3,g3,rd3⟩:=yl x H3 y
      refine tg_bindM (sr'.grow g3) b1 rd3 fun τ4 s4=>?_
      exact qb Ge F0 H3 F3 σ1 τ4 (.rt r) _ b2 s4 (gr'.trans g3) en
    | ct σ2 =>
      refine⟨go,fun τ2 H2=>∃F2,SR X.K Ge H2 F2 σ2 τ2∧Gr Ge F0 H2 F2∧Keep H1 F1 H2 F2,fun τ2 H2 ⟨F2,q1,q2,q3⟩=>⟨its.length - (i+1),by omega,hlt,rfl,F2,σ2,q1,q2,q3,ev'⟩,λx H3 y=>?_⟩
      obtain⟨F3,g3,rd3⟩:=yl x H3 y
      refine tg_bindM (sr'.grow g3) b1 rd3 fun τ4 s4=>?_
      exact qb Ge F0 H3 F3 σ1 τ4 (.ct σ2) _ b2 s4 (gr'.trans g3) fun τ5 H5 F5 k5 g5 s5=>⟨F5,s5,g5,(kp'.trans g3.keep).trans k5⟩
    | bk σ2 =>
      cases ev'
      refine⟨go,λ_ _=>False,λ_ _ z=>z.elim,λx H3 y=>?_⟩
      obtain⟨F3,g3,rd3⟩:=yl x H3 y
      refine tg_bindM (sr'.grow g3) b1 rd3 fun τ4 s4=>?_
      exact qb Ge F0 H3 F3 σ1 τ4 (.bk σ2) _ b2 s4 (gr'.trans g3) fun τ5 H5 F5 k5 g5 s5=>en τ5 H5 F5 (((g1.keep.trans kp').trans g3.keep).trans k5) g5 s5
  · have hin:i=its.length:=by omega
    subst hin
    rw [List.drop_of_length_le (Nat.le_refl _)] at ev'
    cases ev'
    exact .inl ⟨okS,en τ' H' F' (g1.keep.trans kp') gr' sr'⟩
end
end Dw
namespace Dw
open PySem PySem.Spec PySem.W PyProof.Rows L2
section
variable {K:PySem.W.Frag}{G0 H:Hp}{F:Fz}{σ:En}{τ:L2.St}{i:Nat}
theorem SR.unset (s:SR K G0 H F σ τ) (h:getv σ i=none):SR K G0 H F σ (τ.set i none):=by
  have ne:∀{j:Nat} {r:R},getv σ j=some r→i≠j:=λ{j r} e z=>by subst z;rw [h] at e;cases e
  have at_:∀{j:Nat} {r:R},getv σ j=some r→(τ.set i none)[j]?=τ[j]?:=λe=>List.getElem?_set_ne (ne e)
  refine⟨by rw [List.length_set];exact s.len,s.ent,s.dom,λj e hj=>?_,λj e hj hd=>?_,λj k e e' hj hk hjk=>?_,λj m ks hj=>?_,λj ns ds hj=>?_,s.tb⟩
  · rw [at_ hj];exact s.val j e hj
  · rw [at_ hj];exact s.own j e hj hd
  · rw [at_ hj,at_ hk] at hjk;exact s.sep j k e e' hj hk hjk
  · rw [at_ hj];exact s.dct j m ks hj
  · rw [at_ hj];exact s.obj j ns ds hj
end
noncomputable def SuOk (X:Cx) (su:List Stmt) (i t:Nat) (tb:List (Str×D)):Prop:=∃tsu:TS,(∀a,PSs (X.hold a) su tsu)∧∀(c:Str) (d:D) (C a:Addr) (τ:L2.St) (H:Hp) (Dn:Ends),tb.lookup c=some d→X.mg c=some (.ref C)→H a=some (.ext (XAt C a))→τ[i]?=some (some (.ref a)) →
  (∀H',Same H H'→Dn.nx (τ.set t (some (kV d))) H')→tsu Dn τ H
section
variable {call:Nat→List D→Option R}{G:Gx}{k:Nat}{X:Cx}{sc:Scope}{N:List Str}
theorem snd_try {m:Nat}(A:AllE call G k m) (g:XG call G k X sc N) {f c n:Str}{fi i t:Nat}{Cc:Addr}{e:Expr}{es:List Expr}{cs:List C}{tb:List (Str×D)}{b₀:Stmt}{suite:List Stmt}{p pos epos np hpos tpos:Pos}
    (gn:XG call G k X.nox sc N) (hf:G.xdf.lookup f=some fi) (hgf:glB sc f=true) (hpf:plainName f=true) (hcs:cEs G m sc N (e::es)=some cs) (hgc:glB sc c=true) (hpc:plainName c=true) (hmc:X.mg c=some (.ref Cc))
    (hex:∀c' d C,tb.lookup c'=some d→X.mg c'=some (.ref C)→exmOne X.K (.ref C) (.ref Cc)=some true) (hkd:∀c' d,tb.lookup c'=some d→isK d=true) (hi:N[i]?=some n) (hn:X.env.scope.names.lookup n=some .local) (hit:i≠t)
    (su:SuOk X (b₀::suite) i t tb) (hst:X.stack=X.env::X.outer∧X.env.frame=some X.env.locals) (hx0:X.ex=[]) :
    Snd1 call X (.Try [.Expr (.Call (.Name f p) (e::es) [] pos) epos] [.ExceptHandler (some (.Name c np)) (some n) (b₀::suite) hpos] [] [] tpos) [.tryB i t fi cs tb]:=by
  obtain⟨a,fd,ps,q1,q2,q3,q4,q5⟩:=(g.xdf f fi hf).ex
  obtain⟨_,_,hns,_⟩:=A.a X sc N (e::es) cs g hcs
  obtain⟨ta,pta,qta⟩:=A.ga X.nox sc N (e::es) cs gn hcs
  obtain⟨tsu,psu,qsu⟩:=su
  rw [List.all_cons,Bool.and_eq_true] at hns
  refine⟨_,ps_try (cond:=λC=>∃c' d,tb.lookup c'=some d∧X.mg c'=some (.ref C)) q4 g.room (g.gl f hgf) q1 q2 q3 pta (plain_of hpf).2 (star_cons hns.1) (star_any hns.2) (g.gl c hgc) hmc (plain_of hpc).2 (λC ⟨c',d,z1,z2⟩=>hex c' d C z1 z2)
    (by rw [g.hN];exact g.nd) (by rw [g.hN];exact hi) hn psu hst hx0,λGe F0 H F σ τ o Dn hv hs gr en=>?_⟩
  rw [evSs_one,evS_tryB] at hv
  split at hv
  · rename_i hnone
    have hlt:i<τ.length:=by rw [←hs.len];exact hnone.2
    have hnone:getv σ i=none:=by simpa using hnone.1
    obtain⟨xs,ed,hv⟩:=bind1 hv
    obtain⟨r,hz,hv⟩:=bind1 hv
    refine qta Ge H F σ τ xs _ ed hs λvs H1 F1 g1 rs=>?_
    refine⟨by rw [RGs.length rs];exact q5 xs r hz,(hs.grow g1).tbH,F1,xs,r,g1.dom,rs,hz,λv H' F' g2 rr=>?_,λc' hr H' F' g2 C hC=>?_⟩
    · obtain⟨b,d⟩:=r
      have ho:o=.nx σ:=by
        cases b with
        | true=>cases d<;>exact (Option.some.inj hv).symm
        | false =>
          cases d with
          | exc c'=>exact absurd rr (by intro z;exact z)
          | _=>exact (Option.some.inj hv).symm
      subst ho
      have g3:=g1.trans g2
      exact en τ H' F' g3.keep (gr.trans g3) (hs.grow g3)
    · subst hr
      have hv:(tb.lookup c').map (λd=>Ou.nx (σ.set t (some (false,d))))=some o:=hv
      cases hl:tb.lookup c' with
      | none=>rw [hl] at hv;cases hv
      | some d =>
        rw [hl] at hv
        cases hv
        refine⟨C,rfl,⟨c',d,hl,hC⟩,λx hx=>?_⟩
        refine qsu c' d C x _ _ _ hl hC upd_same (List.getElem?_set_self hlt) λH2 sm=>?_
        have g3:Gr H F H2 F':=by
          have g4:=g1.trans g2
          refine⟨λb u q=>sm b u (by rw [upd_ne (ne_of_none (g4.same b u q) hx)];exact g4.same b u q),g4.sub,g4.new,λb q=>g4.dom b ?_⟩
          cases z:H' b with
          | none=>rfl
          | some u=>rw [sm b u (by rw [upd_ne (ne_of_none z hx)];exact z)] at q;cases q
        have e1:(((τ.set i (some (V.ref x))).set t (some (kV d))).set i none)=(τ.set t (some (kV d))).set i none:=by
          rw [List.set_comm _ _ hit,List.set_set]
        show Dn.nx (((τ.set i (some (V.ref x))).set t (some (kV d))).set i none) H2
        rw [e1]
        refine en _ H2 F' g3.keep (gr.trans g3) (SR.unset ((hs.grow g3).bind (rd_k (hkd c' d hl))) ?_)
        unfold getv at hnone ⊢
        rw [List.getElem?_set_ne (Ne.symm hit)]
        exact hnone
  · cases hv
end
end Dw
namespace Dw
open PySem PySem.Spec PySem.W PyProof.Rows L2
noncomputable def clV:Value→V
  | .ref a=>.ref a
  | .type T=>.ty T
  | _=>.non
noncomputable def rIsx (K:Frag):List V→Hp→VK→Prop:=λxs H Q=>∃(a C:Addr) (c:Value) (b:Bool),xs=[.ref a,clV c]∧((∃D,c=.ref D)∨∃T,c=.type T)∧H a=some (.ext (XAt C a))∧XCls K C∧kitOne K (.ref C) c=some b∧Q (.bl b) H
theorem bt_isx:bootBuiltins (Str.ofString "isinstance")=some (.builtin "isinstance"):=by decide +kernel
section
variable {X:Cx}
theorem call_isx:CallR X (.builtin "isinstance") (rIsx X.K):=by
  intro pins s σ H xs us Q I r h
  obtain⟨a,C,c,b,rfl,hc,ha,xc,e,q⟩:=h
  have hu:us=[.ref a,c]:=by
    cases r with
    | cons r1 r2 =>
      cases r2 with
      | cons r2 r3 =>
        cases r3
        cases r1
        rcases hc with ⟨D,rfl⟩|⟨T,rfl⟩<;>(cases r2;rfl)
  subst hu
  exact kia_one (kitx_exc xc) I.kIn (I.hok a _ ha).1 e (λz=>nomatch z) λtk=>⟨.bl b,H,I.tok tk,rfl,q⟩
end
end Dw
namespace Dw
open PySem PySem.Spec PySem.W PyProof.Rows L2
theorem one_tbX {c0 c:Str}{d0 d:D}(h:List.lookup c [(c0,d0)]=some d):c=c0∧d=d0:=by
  rw [List.lookup_cons] at h
  cases e:c == c0 with
  | true=>rw [e] at h;cases h;exact⟨beq_iff_eq.mp e,rfl⟩
  | false=>rw [e] at h;cases h
noncomputable def AskI (i:Nat) (K:Frag) (c:Value) (b:Bool) (σ:L2.St) (H:Hp):Prop:=∃a C:Addr,σ[i]?=some (some (.ref a))∧H a=some (.ext (XAt C a))∧XCls K C∧kitOne K (.ref C) c=some b
section
variable {X:Cx}
noncomputable def tIsx (i:Nat) (K:Frag) (c:Value):TE:=fun σ H Q=>∃b,AskI i K c b σ H∧Q (.bl b) H
theorem pe_isx {n c:Str}{i:Nat}{cv:Value}{p pn pc pos:Pos}(hi:X.N[i]?=some n) (hvi:Vis X.env.scope n) (hpn:plainName n=true) (hgi:Gl X "isinstance") (hmi:X.mg "isinstance"=none) (hcv:(∃D,cv=.ref D)∨∃T,cv=.type T) (pec:PE X (.Name c pc) (tC (clV cv))) :
    PE X (.Call (.Name "isinstance" p) [.Name n pn,.Name c pc] [] pos) (tIsx i X.K cv):=by
  have hd:=plain_of hpn
  have hcd:(n == ("__classdict__":Str))=false:=by
    unfold plainName at hpn
    simp only [Bool.and_eq_true,bne_iff_ne,ne_eq] at hpn
    exact beq_eq_false_iff_ne.mpr hpn.1.2
  have h:=pe_callB (X:=X) (p:=p) (pos:=pos) (id:="isinstance") (r:=rIsx X.K) call_isx hgi hmi bt_isx (pa_cons (pe_var (pos:=pn) hi hvi hd.2 hcd) (pa_cons pec pa_nil))
  intro pins s σ H Q I q
  obtain⟨b,⟨a,C,q1,q2,q3,q4⟩,q5⟩:=q
  exact h pins s σ H Q I ⟨.ref a,q1,a,C,cv,b,rfl,hcv,q2,q3,q4,q5⟩
theorem pt_isx {n c:Str}{i:Nat}{cv:Value}{p pn pc pos:Pos}(hi:X.N[i]?=some n) (hvi:Vis X.env.scope n) (hpn:plainName n=true) (hgi:Gl X "isinstance") (hmi:X.mg "isinstance"=none) (hcv:(∃D,cv=.ref D)∨∃T,cv=.type T) (pec:PE X (.Name c pc) (tC (clV cv))) :
    PT X (.Call (.Name "isinstance" p) [.Name n pn,.Name c pc] [] pos) (tB (tIsx i X.K cv)):=pt_val (pe_isx hi hvi hpn hgi hmi hcv pec)
noncomputable def OkS (scope:Scope) (mg:Str→Option Value) (c:Str) (C:Addr):Prop:=scope.names.lookup c=some .globalImplicit∧mg c=some (.ref C)∧plainName c=true
noncomputable def spO (K:Frag) (cs:List Addr):List V→Hp→VK→Prop:=λvs H Q=>∃a C:Addr,vs=[.ref a]∧H a=some (.ext (XAt C a))∧XCls K C∧(∀c∈cs,kitOne K (.ref C) (.ref c)=some false)∧Q (.bl false) H
theorem other_h {P:Program}{w:World}{K:Frag}{mg:Str→Option Value}{base:Heap}{k:Nat}{f:Addr}{name qual n c1 c2 c3 c4 c5 c6 c7 c8:Str}{params:Arguments}{body:List Stmt}{scope:Scope}{dV kV doc pm cd ct oc:Value}{an od:Option Addr}{osl:Array (Option Value)}{C1 C2 C3 C4 C5 C6 C7 C8:Addr}{k1 k2:Nat}{p1 a1 b1 d1 p2 a2 b2 d2 p3 a3 b3 d3 p4 a4 b4 d4 p5 a5 b5 d5 p6 a6 b6 d6 p7 a7 b7 d7 p8 a8 b8 d8 o1 o2 o3 r1 r2 r3 r4 r5 r6 r7:Pos}
    (lk:K.lookup f=some ⟨oc,od,.func (fnOf name qual params body scope dV kV doc pm an cd ct),osl⟩) (hcd:codeIn K cd qual=true) (S:FnScope [n] [n] scope) (hb:body=[.If (.BoolOp .Or [.Call (.Name "isinstance" p1) [.Name n a1,.Name c1 b1] [] d1,.Call (.Name "isinstance" p2) [.Name n a2,.Name c2 b2] [] d2,.Call (.Name "isinstance" p3) [.Name n a3,.Name c3 b3] [] d3] o1) [.Return (some (.Constant (.bool true) k1 r1)) r2] [] r3,.If (.BoolOp .Or [.Call (.Name "isinstance" p4) [.Name n a4,.Name c4 b4] [] d4,.Call (.Name "isinstance" p5) [.Name n a5,.Name c5 b5] [] d5,.Call (.Name "isinstance" p6) [.Name n a6,.Name c6 b6] [] d6] o2) [.Return (some (.Constant (.bool true) k2 r4)) r5] [] r6,.Return (some (.BoolOp .Or [.Call (.Name "isinstance" p7) [.Name n a7,.Name c7 b7] [] d7,.Call (.Name "isinstance" p8) [.Name n a8,.Name c8 b8] [] d8] o3)) r7])
    (hn:scope.names.lookup n=some .local) (hpn:plainName n=true) (hgi':scope.names.lookup (Str.ofString "isinstance")=some .globalImplicit) (hmi:mg "isinstance"=none) (h1:OkS scope mg c1 C1) (h2:OkS scope mg c2 C2) (h3:OkS scope mg c3 C3) (h4:OkS scope mg c4 C4) (h5:OkS scope mg c5 C5) (h6:OkS scope mg c6 C6) (h7:OkS scope mg c7 C7) (h8:OkS scope mg c8 C8) :
    FnH P w K mg base (k+1) f (fnOf name qual params body scope dV kV doc pm an cd ct) [n] (spO K [C1,C2,C3,C4,C5,C6,C7,C8]):=by
  subst hb
  refine fn_h (N:=[n]) lk hcd S (λvs H Q h=>by obtain⟨a,C,rfl,_⟩:=h;rfl) λA outer s H vs Q h=>?_
  let X:Cx:=cxH P w K mg base [n] qual scope f cd A outer s H
  have hi:X.N[0]?=some n:=rfl
  have hvi:Vis X.env.scope n:=.inl hn
  have hgi:Gl X "isinstance":=hgi'
  have hmi:X.mg "isinstance"=none:=hmi
  refine⟨_,pss_cons (ps_if (pw_or (pt_isx (X:=X) hi hvi hpn hgi hmi (.inl ⟨_,rfl⟩) (pe_glob (v:=.ref C1) h1.1 h1.2.1 rfl (plain_of h1.2.2).2)) (pw_or (pt_isx (X:=X) hi hvi hpn hgi hmi (.inl ⟨_,rfl⟩) (pe_glob (v:=.ref C2) h2.1 h2.2.1 rfl (plain_of h2.2.2).2)) (pw_or1 (pt_isx (X:=X) hi hvi hpn hgi hmi (.inl ⟨_,rfl⟩) (pe_glob (v:=.ref C3) h3.1 h3.2.1 rfl (plain_of h3.2.2).2))))).pt (pss_one (ps_ret (pe_bl (X:=X)))) pss_nil) (pss_cons (ps_if (pw_or (pt_isx (X:=X) hi hvi hpn hgi hmi (.inl ⟨_,rfl⟩) (pe_glob (v:=.ref C4) h4.1 h4.2.1 rfl (plain_of h4.2.2).2)) (pw_or (pt_isx (X:=X) hi hvi hpn hgi hmi (.inl ⟨_,rfl⟩) (pe_glob (v:=.ref C5) h5.1 h5.2.1 rfl (plain_of h5.2.2).2)) (pw_or1 (pt_isx (X:=X) hi hvi hpn hgi hmi (.inl ⟨_,rfl⟩) (pe_glob (v:=.ref C6) h6.1 h6.2.1 rfl (plain_of h6.2.2).2))))).pt (pss_one (ps_ret (pe_bl (X:=X)))) pss_nil) (pss_one (ps_ret (pe_or (pe_isx (X:=X) hi hvi hpn hgi hmi (.inl ⟨_,rfl⟩) (pe_glob (v:=.ref C7) h7.1 h7.2.1 rfl (plain_of h7.2.2).2)) (pe_one (pe_isx (X:=X) hi hvi hpn hgi hmi (.inl ⟨_,rfl⟩) (pe_glob (v:=.ref C8) h8.1 h8.2.1 rfl (plain_of h8.2.2).2))))))),?_⟩
  obtain⟨a,C,rfl,q1,q2,q3,q4⟩:=h
  have ask:∀c∈[C1,C2,C3,C4,C5,C6,C7,C8],AskI 0 K (.ref c) false (start [n] [.ref a]) H:=λc hc=>⟨a,C,rfl,q1,q2,q3 c hc⟩
  refine⟨false,ask C1 (by simp),false,rfl,iteF ⟨false,ask C2 (by simp),false,rfl,iteF ⟨false,ask C3 (by simp),false,rfl,iteF ?_⟩⟩⟩
  refine⟨false,ask C4 (by simp),false,rfl,iteF ⟨false,ask C5 (by simp),false,rfl,iteF ⟨false,ask C6 (by simp),false,rfl,iteF ?_⟩⟩⟩
  exact⟨false,ask C7 (by simp),false,rfl,iteF ⟨false,ask C8 (by simp),q4⟩⟩
theorem su_or {n np tn ca cb f w1 w2:Str}{i t kf j1 j2:Nat}{c0:Str}{C0 Ca fa:Addr}{Tb:String}{fd:FuncData}{cs:List Addr}{pt q1 s1 pi pn pa pc u1 pi' pn' pb pc' u2 fp fn fpos o pt2 q2 s2 s3:Pos}(hN:X.N.Nodup) (hi:X.N[i]?=some n) (hvi:Vis X.env.scope n) (hpn:plainName n=true) (ht:X.N[t]?=some tn) (htl:X.env.scope.names.lookup tn=some .local) (hit:i≠t)
    (hgi:Gl X "isinstance") (hmi:X.mg "isinstance"=none) (hga:Gl X ca) (hma:X.mg ca=some (.ref Ca)) (hpa:plainName ca=true) (hgb:Gl X cb) (hmb:X.mg cb=none) (hpb:plainName cb=true) (hbb:bootBuiltins cb=some (.type Tb))
    (hgf:Gl X f) (hmf:X.mg f=some (.ref fa)) (hpf:plainName f=true) (hkf:keepIn X.K (.ref fa)=true) (hbf:Binds X.K fd [np] []) (F:FnH X.prog X.w X.K X.mg X.base kf fa fd [np] (spO X.K cs)) (hdp:X.A.depth+3 * kf+5<recursionLimit) (hun:X.A.units+16 * kf+200<cLine)
    (m0:X.mg c0=some (.ref C0)) (xc:XCls X.K C0) (ka:kitOne X.K (.ref C0) (.ref Ca)=some true) (kb:kitOne X.K (.ref C0) (.type Tb)=some true) (kc:∀c∈cs,kitOne X.K (.ref C0) (.ref c)=some false) :
    SuOk X [.Assign [.Name tn pt] (.Constant (.str w1) j1 q1) s1,.If (.BoolOp .Or [.UnaryOp .Not (.Call (.Name "isinstance" pi) [.Name n pn,.Name ca pa] [] pc) u1,.UnaryOp .Not (.Call (.Name "isinstance" pi') [.Name n pn',.Name cb pb] [] pc') u2,.Call (.Name f fp) [.Name n fn] [] fpos] o) [.Assign [.Name tn pt2] (.Constant (.str w2) j2 q2) s2] [] s3] i t [(c0,.str w1)]:=by
  have hd:=plain_of hpn
  have hcd:(n == ("__classdict__":Str))=false:=by
    unfold plainName at hpn
    simp only [Bool.and_eq_true,bne_iff_ne,ne_eq] at hpn
    exact beq_eq_false_iff_ne.mpr hpn.1.2
  have hnb:cb≠Str.ofString "__name__":=by
    unfold plainName at hpb
    simp only [Bool.and_eq_true,bne_iff_ne,ne_eq] at hpb
    exact hpb.2
  have e1:∀a,PT (X.hold a) (.Call (.Name "isinstance" pi) [.Name n pn,.Name ca pa] [] pc) (tB (tIsx i X.K (.ref Ca))):=λa=>pt_isx (X:=X.hold a) (i:=i) (cv:=.ref Ca) hi hvi hpn hgi hmi (.inl ⟨_,rfl⟩) (pe_glob (v:=.ref Ca) hga hma rfl (plain_of hpa).2)
  have e2:∀a,PT (X.hold a) (.Call (.Name "isinstance" pi') [.Name n pn',.Name cb pb] [] pc') (tB (tIsx i X.K (.type Tb))):=λa=>pt_isx (X:=X.hold a) (i:=i) (cv:=.type Tb) hi hvi hpn hgi hmi (.inr ⟨_,rfl⟩) (pe_bltn (v:=.ty Tb) hgb hmb hbb rfl hnb (plain_of hpb).2)
  have e3:∀a,PT (X.hold a) (.Call (.Name f fp) [.Name n fn] [] fpos) (tB fun σ H Q=>tCons (tVar i) tNil σ H λvs H1=>spO X.K cs vs H1 Q):=λa=>pt_val (pe_callH (X:=X.hold a) F hdp hun hgf hmf hkf hbf (pa_cons (pe_var hi hvi hd.2 hcd) pa_nil) (plain_of hpf).2 rfl rfl)
  refine⟨_,λa=>pss_cons (ps_set (X:=X.hold a) hN ht (.inl htl) pe_str rfl (.inr htl)) (pss_one (ps_if (pw_or (pt_not (e1 a)) (pw_or (pt_not (e2 a)) (pw_or1 (e3 a)))).pt (pss_one (ps_set (X:=X.hold a) hN ht (.inl htl) pe_str rfl (.inr htl))) pss_nil)),λc d C a τ H Dn h1 h2 h3 h4 k=>?_⟩
  obtain⟨rfl,rfl⟩:=one_tbX h1
  rw [m0] at h2
  cases h2
  have h5:(τ.set t (some (.str w1)))[i]?=some (some (.ref a)):=by rw [List.getElem?_set_ne (Ne.symm hit)];exact h4
  have h6:Dn.nx (τ.set t (some (.str w1))) H:=k H (Same.refl H)
  exact⟨true,⟨a,C0,h5,h3,xc,ka⟩,true,rfl,iteF ⟨true,⟨a,C0,h5,h3,xc,kb⟩,true,rfl,iteF ⟨.ref a,h5,a,C0,rfl,h3,xc,kc,false,rfl,iteF h6⟩⟩⟩
theorem su_orK {K:Frag}{mg:Str→Option Value}{n np tn ca cb f w1 w2:Str}{i t kf j1 j2:Nat}{c0:Str}{C0 Ca fa:Addr}{Tb:String}{fd:FuncData}{cs:List Addr}{pt q1 s1 pi pn pa pc u1 pi' pn' pb pc' u2 fp fn fpos o pt2 q2 s2 s3:Pos}(hK:X.K=K) (hmg:X.mg=mg) (hN:X.N.Nodup) (hi:X.N[i]?=some n) (hvi:Vis X.env.scope n) (hpn:plainName n=true) (ht:X.N[t]?=some tn) (htl:X.env.scope.names.lookup tn=some .local) (hit:i≠t)
    (hgi:Gl X "isinstance") (hmi:mg "isinstance"=none) (hga:Gl X ca) (hma:mg ca=some (.ref Ca)) (hpa:plainName ca=true) (hgb:Gl X cb) (hmb:mg cb=none) (hpb:plainName cb=true) (hbb:bootBuiltins cb=some (.type Tb))
    (hgf:Gl X f) (hmf:mg f=some (.ref fa)) (hpf:plainName f=true) (hkf:keepIn K (.ref fa)=true) (hbf:Binds K fd [np] []) (F:FnH X.prog X.w K mg X.base kf fa fd [np] (spO K cs)) (hdp:X.A.depth+3 * kf+5<recursionLimit) (hun:X.A.units+16 * kf+200<cLine)
    (m0:mg c0=some (.ref C0)) (xc:XCls K C0) (ka:kitOne K (.ref C0) (.ref Ca)=some true) (kb:kitOne K (.ref C0) (.type Tb)=some true) (kc:∀c∈cs,kitOne K (.ref C0) (.ref c)=some false) :
    SuOk X [.Assign [.Name tn pt] (.Constant (.str w1) j1 q1) s1,.If (.BoolOp .Or [.UnaryOp .Not (.Call (.Name "isinstance" pi) [.Name n pn,.Name ca pa] [] pc) u1,.UnaryOp .Not (.Call (.Name "isinstance" pi') [.Name n pn',.Name cb pb] [] pc') u2,.Call (.Name f fp) [.Name n fn] [] fpos] o) [.Assign [.Name tn pt2] (.Constant (.str w2) j2 q2) s2] [] s3] i t [(c0,.str w1)]:=by
  subst hK hmg
  exact su_or hN hi hvi hpn ht htl hit hgi hmi hga hma hpa hgb hmb hpb hbb hgf hmf hpf hkf hbf F hdp hun m0 xc ka kb kc
end
end Dw
namespace Dw
open PySem PySem.Spec PyProof.Rows L2
section
variable {call:Nat→List D→Option R}{G:Gx}{k:Nat}
structure AllS (call:Nat→List D→Option R) (G:Gx) (k n:Nat):Prop where
  o:∀(X:Cx) (sc:Scope) (N:List Str) (mt:List Nat) (st:Stmt) (cs:List S),XG call G k X sc N→cS G n sc N mt st=some cs→Snd1 call X st cs
  s:∀(X:Cx) (sc:Scope) (N:List Str) (mt:List Nat) (st:List Stmt) (cs:List S),XG call G k X sc N→cSs G n sc N mt st=some cs→SndS call X st cs
theorem st_succ (hG:∀x∈bltNames,G.defs.lookup x=none) {n:Nat}(B:AllS call G k n):AllS call G k (n+1):=by
  have A:=all_ok (call:=call) (k:=k) hG n
  constructor
  · intro X sc N mt st cs g h
    unfold cS at h
    split at h
    · rename_i x p e pos
      split at h
      · rename_i hx
        obtain⟨i,e1,e2⟩:=bind1 h
        · obtain⟨c,e3,e4⟩:=bind1 e2
          cases e4
          exact snd_withF (snd_set hG g e3 hx e1)
      · cases h
    · rename_i x p m p2 e p3 pos
      split at h
      · rename_i hm
        rw [Bool.and_eq_true] at hm
        obtain⟨i,e1,e2⟩:=bind1 h
        obtain⟨c,e3,e4⟩:=bind1 e2
        cases e4
        exact snd_withF (snd_app A g (by simpa using hm.1) hm.2 e1 e3)
      · cases h
    · rename_i c np m j p1 cpos pos
      split at h
      · rename_i hm
        rw [Bool.and_eq_true,Bool.and_eq_true] at hm
        cases h
        exact snd_rse g (by simpa using hm.1.1) hm.1.2 hm.2
      · cases h;exact⟨λ_ _ _=>False,(λ_ _ _ _ _ _ z=>False.elim z),λGe F0 H F σ τ o Dn hv _ _ _=>by cases hv⟩
    · cases h;exact⟨λ_ _ _=>False,(λ_ _ _ _ _ _ z=>False.elim z),λGe F0 H F σ τ o Dn hv _ _ _=>by cases hv⟩
    · rename_i e pos
      obtain⟨c,e1,e2⟩:=bind1 h
      cases e2
      exact snd_withF (snd_ret hG g e1)
    · rename_i t a b pos
      obtain⟨c,e1,e2⟩:=bind1 h
      obtain⟨ca,e3,e4⟩:=bind1 e2
      obtain⟨cb,e5,e6⟩:=bind1 e4
      cases e6
      exact snd_withF (snd_if A g e1 (B.s X sc N mt a ca g e3) (B.s X sc N mt b cb g e5))
    · rename_i tg it body pos
      obtain⟨t,e1,e2⟩:=bind1 h
      obtain⟨cb,e3,e4⟩:=bind1 e2
      have hb:=B.s X sc N mt body cb g e3
      have hsr:=srk (sc:=sc) it
      cases hq:srOf sc it with
      | seq s =>
        rw [hq] at e4 hsr
        obtain⟨x,q1,q2⟩:=bind1 e4
        cases q2
        cases hsr
        refine snd_withF (snd_for g e1 (src_seq A g q1) (no_fold q1 X.env) hb fun σ o hv=>?_)
        rw [evS_forS] at hv
        obtain⟨r,r1,r2⟩:=bind1 hv
        obtain⟨its,r3,r4⟩:=bind1 r2
        exact⟨its,by simp only [r1];exact r3,r4⟩
      | rng rs =>
        rw [hq] at e4 hsr
        obtain⟨xs,q1,q2⟩:=bind1 e4
        cases q2
        cases hsr with
        | rng f p as pos2 hg hf hl =>
          refine snd_withF (snd_for g e1 (src_rng (p:=p) (pos:=pos2) A g hG hg hf hl q1) (λ_=>rfl) hb fun σ o hv=>?_)
          rw [evS_forR] at hv
          obtain⟨r,r1,r2⟩:=bind1 hv
          obtain⟨its,r3,r4⟩:=bind1 r2
          exact⟨its,by simp only [r1];exact r3,r4⟩
      | zip a b=>rw [hq] at e4;cases e4
      | enm a=>rw [hq] at e4;cases e4
      | rev rs=>rw [hq] at e4;cases e4
    · cases h
  · intro X sc N mt st cs g h
    unfold cSs at h
    split at h
    · cases h;exact snd_nil
    · rename_i a r
      obtain⟨x,e1,e2⟩:=bind1 h
      obtain⟨y,e3,e4⟩:=bind1 e2
      cases e4
      exact snd_cons (B.o X sc N mt a x g e1) (B.s X sc N mt r y g e3)
theorem st_zero:AllS call G k 0:=by
  constructor
  · intro X sc N mt st cs _ h;cases h
  · intro X sc N mt st cs _ h;cases h
theorem all_st (hG:∀x∈bltNames,G.defs.lookup x=none):∀n,AllS call G k n
  | 0=>st_zero
  | n+1=>st_succ hG (all_st hG n)
end
structure FunD (K:PySem.W.Frag) (x qual:Str) (st:Stmt) (f:Addr) (fd:FuncData):Prop where
  ex:∃(oc:Value) (od:Option Addr) (dV kV doc pm:Value) (an:Option Addr) (cdv ct:Value) (osl:Array (Option Value)),
    fd=PySem.W.fnOf x qual (defArgs st) (defBody st) (defScope st) dV kV doc pm an cdv ct∧K.lookup f=some ⟨oc,od,.func fd,osl⟩∧PySem.W.codeIn K cdv qual=true
  kp:PySem.W.keepIn K (.ref f)=true
theorem fun_toD {K:PySem.W.Frag}{x qual:Str}{st:Stmt}{f:Addr}{fd:FuncData}(F:Fun K x qual st f fd):FunD K x qual st f fd:=by
  obtain⟨⟨oc,od,kV,doc,pm,an,cdv,ct,osl,h1,h2,h3⟩,kp⟩:=F
  exact⟨⟨oc,od,.none,kV,doc,pm,an,cdv,ct,osl,h1,h2,h3⟩,kp⟩
theorem FunD.ok {P:Program}{w:World}{K:PySem.W.Frag}{mg:Str→Option Value}{base:Heap}{x qual:Str}{st:Stmt}{f:Addr}{fd:FuncData}{N ps:List Str}{k:Nat}{sp:Sp}(F:FunD K x qual st f fd) (S:FnScope N ps (defScope st)) (len:∀vs H Q E,sp vs H Q E→vs.length=ps.length)
    (body:∀(cdv:Value) (A:Around) (outer:List Env) (s:Shared) (H:Hp) (vs:List V) (Q:VK) (E:XK),Room k (A.deeper (envOfC qual (defScope st) s.heap.objs.size f cdv))→sp vs H Q E →
      ∃t,PSs (cxOf CX0 P w K mg base N qual (defScope st) f cdv A outer s H E).nox (defBody st) t∧t { nx:=λ_ H'=>Q .non H',rt:=Q } (start N vs) H):FnOk P w K mg base CX0 (k+1) f fd ps sp:=by
  obtain⟨oc,od,dV,kV,doc,pm,an,cdv,ct,osl,rfl,lk,hcd⟩:=F.ex
  refine fn_of lk hcd S len λA outer s H vs Q E hr h=>?_
  obtain⟨t,h1,h2⟩:=body cdv A outer s H vs Q E hr h
  exact⟨t,h1.nox,h2⟩
structure DefIn (K:PySem.W.Frag) (mg:Str→Option Value) (G:Gx) (tab:List Fd) (fuel:Nat) (x:Str) (i:Nat):Prop where
  ex:∃(a:Addr) (fdt:FuncData) (st:Stmt) (ps:List Str) (fd:Fd),mg x=some (.ref a)∧FunD K x x st a fdt∧Binds K fdt ps []∧FnScope (namesOf (defScope st)) ps (defScope st) ∧
    cSs G fuel (defScope st) (namesOf (defScope st)) (mutS fuel (namesOf (defScope st)) (defBody st)) (defBody st)=some fd.body∧tab[i]?=some fd∧fd.np=ps.length∧fd.ns=(namesOf (defScope st)).length
structure UseIn (K:PySem.W.Frag) (mg:Str→Option Value) (G:Gx) (tab:List Fd) (fuel:Nat) (u:Uc):Prop where
  ex:∃(a:Addr) (fdt:FuncData) (st:Stmt) (ps:List Str) (fd:Fd) (g:List Value→List Value→List Value) (gV:List V→List V→List V),mg u.f=some (.ref a)∧FunD K u.f u.f st a fdt∧KBinds K fdt ps u.ks g gV∧(∀vs zs,vs.length=u.np→zs.length=u.ks.length→gV vs zs=u.pl.map (arV vs zs))∧(∀j d,Ar.dft j d∈u.pl→isK d=true) ∧
    FnScope (namesOf (defScope st)) ps (defScope st)∧cSs G fuel (defScope st) (namesOf (defScope st)) (mutS fuel (namesOf (defScope st)) (defBody st)) (defBody st)=some fd.body∧tab[u.i]?=some fd∧fd.np=ps.length∧fd.ns=(namesOf (defScope st)).length
structure MthIn (K:PySem.W.Frag) (mg:Str→Option Value) (G:Gx) (tab:List Fd) (fuel:Nat) (c m:Str) (i:Nat):Prop where
  ex:∃(C fi fm:Addr) (fdi fdm:FuncData) (sti stm:Stmt) (psi psm:List Str) (qi qm:Str) (fd:Fd),mg c=some (.ref C)∧Mk K C fi∧Cls K C∧(∀f∈G.flds.map (·.1),NoAttr K C f)∧FunD K "__init__" qi sti fi fdi∧Binds K fdi psi []∧FnScope (namesOf (defScope sti)) psi (defScope sti) ∧
    initB (defScope sti) (namesOf (defScope sti)) 0 (G.flds.map (·.1)) (defBody sti)=true∧psi.length=(G.flds.map (·.1)).length+1∧Meth K C m fm∧FunD K m qm stm fm fdm∧Binds K fdm psm []∧FnScope (namesOf (defScope stm)) psm (defScope stm) ∧
    cSs G fuel (defScope stm) (namesOf (defScope stm)) (mutS fuel (namesOf (defScope stm)) (defBody stm)) (defBody stm)=some fd.body∧tab[i]?=some fd∧fd.np=psm.length∧fd.ns=(namesOf (defScope stm)).length∧m∉G.flds.map (·.1)∧(G.flds.map (·.1)).Nodup∧(G.flds.map (·.1)).length<1000
theorem runX_len {call:Nat→List D→Option R}{fd:Fd}{ds:List D}{r:R}(h:runX call fd ds=some r):ds.length=fd.np:=by
  unfold runX at h
  split at h
  · assumption
  · cases h
theorem callN_len {tab:List Fd}{n i:Nat}{fd:Fd}{ds:List D}{r:R}(ht:tab[i]?=some fd) (h:callN tab n i ds=some r):ds.length=fd.np:=by
  cases n with
  | zero=>cases h
  | succ n =>
    rw [callN_at ht] at h
    obtain⟨r',h1,_⟩:=bind1 (show (runX (callN tab n) fd ds).bind noX=some r from h)
    exact runX_len h1
theorem callX_len {tab:List Fd}{n i:Nat}{fd:Fd}{ds:List D}{r:R}(hl:tab.length≤XO) (ht:tab[i]?=some fd) (h:callN tab n (i+XO) ds=some r):ds.length=fd.np:=by
  cases n with
  | zero=>cases h
  | succ n =>
    rw [callX_at ht hl] at h
    exact runX_len h
theorem XG.nox {call:Nat→List D→Option R}{G:Gx}{k:Nat}{X:Cx}{sc:Scope}{N:List Str}(g:XG call G k X sc N):XG call G k X.nox sc N:=
  ⟨g.hN,g.nd,g.vis,g.loc,g.gl,g.cap,g.calm,PassesOwn.never,g.room,λf i h=>⟨(g.defs f i h).ex⟩,g.blt,g.cons,λu h=>⟨(g.ucal u h).ex⟩,λu h=>⟨(g.meth u h).ex⟩,g.two,λc h=>⟨(g.rse c h).ex⟩,λf i h=>⟨(g.xdf f i h).ex⟩⟩
section
variable {P:Program}{w:World}{K:PySem.W.Frag}{mg:Str→Option Value}{base:Heap}{G:Gx}{tab:List Fd}{fuel:Nat}
theorem agE_get:∀{b:Bool}{ds:List D}{m i:Nat}{r:R},getv (agE b ds++List.replicate m none) i=some r→∃d,ds[i]?=some d∧r=(isDc d,d)
  | b,[],m,i,r,h=>by
    unfold getv at h
    rw [show agE b []=[] by cases b<;>rfl,List.nil_append,List.getElem?_replicate] at h
    split at h<;>cases h
  | b,d::ds,m,i,r,h=>by
    cases i with
    | zero =>
      refine⟨d,rfl,?_⟩
      cases b<;>cases d<;>first|(cases h;rfl)|cases h
    | succ i =>
      have:∃b',getv (agE b' ds++List.replicate m none) i=some r:=by
        cases b<;>cases d<;>first|exact⟨false,h⟩|exact⟨true,h⟩
      obtain⟨b',h'⟩:=this
      obtain⟨d',q1,q2⟩:=agE_get h'
      exact⟨d',by simpa using q1,q2⟩
theorem agE_noT:∀{ds:List D}{m i:Nat}{d:D},getv (agE true ds++List.replicate m none) i=some (true,d)→False
  | [],m,i,d,h=>by
    unfold getv at h
    rw [show agE true []=[] from rfl,List.nil_append,List.getElem?_replicate] at h
    split at h<;>cases h
  | x::ds,m,i,d,h=>by
    cases i with
    | zero=>cases x<;>cases h
    | succ i=>exact agE_noT (ds:=ds) (m:=m) (i:=i) (d:=d) (by cases x<;>exact h)
theorem agE_one:∀{ds:List D}{m i j:Nat}{d e:D},getv (agE false ds++List.replicate m none) i=some (true,d)→getv (agE false ds++List.replicate m none) j=some (true,e)→i=j
  | [],m,i,j,d,e,h,h'=>by
    unfold getv at h
    rw [show agE false []=[] from rfl,List.nil_append,List.getElem?_replicate] at h
    split at h<;>cases h
  | x::ds,m,i,j,d,e,h,h'=>by
    cases hx:isDc x with
    | true =>
      cases x with
      | dct m' ks =>
        cases i with
        | zero =>
          cases j with
          | zero=>rfl
          | succ j=>exact absurd h' (λz=>agE_noT (ds:=ds) (m:=m) (i:=j) z)
        | succ i=>exact absurd h (λz=>agE_noT (ds:=ds) (m:=m) (i:=i) z)
      | obj m' ks =>
        cases i with
        | zero =>
          cases j with
          | zero=>rfl
          | succ j=>exact absurd h' (λz=>agE_noT (ds:=ds) (m:=m) (i:=j) z)
        | succ i=>exact absurd h (λz=>agE_noT (ds:=ds) (m:=m) (i:=i) z)
      | _=>cases hx
    | false =>
      have e1:agE false (x::ds)=some (false,x)::agE false ds:=by cases x<;>first|rfl|cases hx
      rw [e1] at h h'
      cases i with
      | zero=>cases h
      | succ i =>
        cases j with
        | zero=>cases h'
        | succ j=>rw [agE_one (ds:=ds) (m:=m) (i:=i) (j:=j) h h']
theorem agE_len:∀(b:Bool) (ds:List D),(agE b ds).length=ds.length
  | b,[]=>by cases b<;>rfl
  | b,d::ds=>by cases b<;>cases d<;>(show (agE _ ds).length+1=_;rw [agE_len];rfl)
theorem start_sr {H:Hp}{F:Fz}{ds:List D}{vs:List V}{N:List Str}{m:Nat}(tb:TB H) (dom:∀a,H a=none→¬F a) (h:RGs K H F ds vs) (hm:m=N.length - vs.length):SR K H H F (agE false ds++List.replicate m none) (L2.start N vs):=by
  have hl:=RGs.length h
  have at_:∀{i:Nat} {v:V},vs[i]?=some v→(L2.start N vs)[i]?=some (some v):=λ{i v} q1=>by
    unfold L2.start
    obtain⟨hi,_⟩:=List.getElem?_eq_some_iff.mp q1
    rw [List.getElem?_append_left (by simpa using hi),List.getElem?_map,q1]
    rfl
  refine⟨by simp [L2.start,hl,hm,agE_len],Same.refl H,dom,λi d e=>?_,λi d e hd=>?_,λi j d e h1 h2 _=>agE_one h1 h2,λi m' ks e=>?_,λi ns' ds' e=>?_,tb⟩
  · obtain⟨d',e1,e2⟩:=agE_get e
    have hd:isDc d'=false:=(Prod.mk.inj e2).1.symm
    have hd2:d=d':=(Prod.mk.inj e2).2
    subst hd2
    obtain⟨v,q1,q2⟩:=RGs.get h e1
    refine⟨v,at_ q1,q2.elim (λz=>z) λz=>z.elim (λ⟨a,ks,z,_⟩=>?_) λ⟨ns',ds',z,_⟩=>?_⟩
    · subst z
      cases hd
    · subst z
      cases hd
  · obtain⟨d',e1,e2⟩:=agE_get e
    have hd1:true=isDc d':=(Prod.mk.inj e2).1
    have hd2:d=d':=(Prod.mk.inj e2).2
    subst hd2
    rw [hd] at hd1
    cases hd1
  · obtain⟨d',e1,e2⟩:=agE_get e
    have hd2:D.dct m' ks=d':=(Prod.mk.inj e2).2
    subst hd2
    obtain⟨v,q1,q2⟩:=RGs.get h e1
    rcases q2 with z|⟨a,ks',z1,z2,z3,z4⟩|⟨ns',ds',z1,z2⟩
    · exact False.elim z
    · cases z1
      subst z2
      exact⟨a,at_ q1,z3,z4,λz=>nomatch z⟩
    · cases z1
  · obtain⟨d',e1,e2⟩:=agE_get e
    have hd2:D.obj ns' ds'=d':=(Prod.mk.inj e2).2
    subst hd2
    obtain⟨v,q1,q2⟩:=RGs.get h e1
    rcases q2 with z|⟨a,ks',z1,z2,z3,z4⟩|⟨ns2,ds2,z1,z2⟩
    · exact False.elim z
    · cases z1
    · cases z1
      exact⟨v,at_ q1,z2⟩
theorem fn_zero {a:Addr}{fdt:FuncData}{ps:List Str}{i:Nat}:FnOk P w K mg base CX0 2 a fdt ps (spD K ps.length (callN tab 0 i)):=
  ⟨λ_ _ _ _ h=>h.1,λA outer s H args us vs Q E _ _ _ _ h=>by obtain⟨_,_,F,ds,r,_,_,z,_⟩:=h;cases z⟩
theorem init_fn {fi:Addr}{fdi:FuncData}{sti:Stmt}{psi:List Str}{qi:Str}{ns:List Str}(hbl:∀x∈bltNames,mg x=none) (Fn:FunD K "__init__" qi sti fi fdi) (Sc:FnScope (namesOf (defScope sti)) psi (defScope sti)) (hi:initB (defScope sti) (namesOf (defScope sti)) 0 ns (defBody sti)=true) (hl:psi.length=ns.length+1) (hz:ns.length<1000) :
    FnOk P w K mg base CX0 1 fi fdi psi (spI K ns):=by
  refine Fn.ok (k:=0) Sc (λvs H Q E h=>?_) (λcdv A outer s H vs Q E hr h=>?_)
  · obtain⟨x,C,dx,ws,rfl,h1,_⟩:=h
    rw [hl,List.length_cons,h1]
  · obtain⟨x,C,dx,ws,rfl,h1,h2,h3,h4,hq⟩:=h
    have g:XG (λ_ _=>none) ⟨[],[],[],[],[],[],[]⟩ 0 (cxOf CX0 P w K mg base (namesOf (defScope sti)) qi (defScope sti) fi cdv A outer s H E).nox (defScope sti) (namesOf (defScope sti)):=by
      refine⟨rfl,Sc.nd,λy h=>?_,λy h=>?_,λy h=>?_,λy h=>?_,rfl,PassesOwn.never,hr,λy j h=>(nomatch h),λy _ h=>?_,λy i h=>(nomatch h),λu hm=>(nomatch hm),λu hm=>(nomatch hm),λz=>absurd rfl z,λc h=>(nomatch h),λy i h=>(nomatch h)⟩
      · unfold visB at h
        simp only [Bool.or_eq_true,beq_iff_eq] at h
        rcases h with (h|h)|h
        · exact .inl h
        · exact .inr (.inl h)
        · exact .inr (.inr h)
      · simp only [Bool.or_eq_true,beq_iff_eq] at h
        exact⟨h,.inl rfl⟩
      · unfold glB at h
        rw [beq_iff_eq] at h
        exact h
      · unfold capB at h
        simp only [Bool.or_eq_true,beq_iff_eq] at h
        exact h
      · exact hbl y h
    obtain⟨t,pt,qt⟩:=init_body g ns 0 (defBody sti) hi
    refine⟨t,pt,qt _ H x C dx [] ws _ rfl (λi w hw=>?_) h1 h2 h3 h4 (by simpa using hz) hq⟩
    obtain⟨hlt,_⟩:=List.getElem?_eq_some_iff.mp hw
    unfold L2.start
    rw [List.getElem?_append_left (by simp;omega),List.getElem?_map,show 0+1+i=i+1 by omega,List.getElem?_cons_succ,hw]
    rfl
structure SrtB (sc:Scope) (N:List Str) (qual:Str) (Pt:Addr) (body:List Stmt) (b:List S):Prop where
  ex:∃(n:Nat) (e r:Expr) (ce cr:C) (la:Arguments) (p p2 pos2 kpos pos lp rpos:Pos) (y:Str) (sc':Scope) (ks:List Nat),body=[.Return (some (.Call (.Name "sorted" p) [.Call (.Name "range" p2) [r] [] pos2] [⟨some (Str.ofString "key"),.Lambda la e sc' lp,kpos⟩] pos)) rpos]∧b=[.ret (.srtR ce 1 ks [cr])] ∧
    glB sc "sorted"=true∧glB sc "range"=true∧scopeOk sc'=true∧sc'.isCoroutine=false∧sc'.isGenerator=false∧ownN sc'=[y]∧(∀env,defaultsOf la env=([],[])) ∧
    (∀(q:Str) (clos:List (Str×Addr)) (pm:Value) (c:Addr) (ctv uv:Value),bindArgs (PySem.W.kla_fn "<lambda>" q la e sc' clos pm (.ref c) ctv) ⟨[uv],[]⟩=pure [(y,uv)]) ∧
    optAll (capOf sc N) (freeN sc')=some ks∧cE G0 n sc' (ownN sc'++freeN sc') e=some ce∧cE G0 n sc N r=some cr∧(Pt,lp,(qual++".<locals>.")++"<lambda>")∈tbs
noncomputable def SrtIn (K:PySem.W.Frag) (mg:Str→Option Value) (tab:List Fd) (x:Str) (i:Nat):Prop:=False
noncomputable def BodyOk (K:PySem.W.Frag) (mg:Str→Option Value) (G:Gx) (tab:List Fd) (st:Stmt) (b:List S):Prop:=∀(n:Nat) (X:Cx),X.K=K→X.mg=mg→(X.stack=X.env::X.outer∧X.env.frame=some X.env.locals)→X.ex=[]→X.env.scope=defScope st →
  XG (callN tab n) G (n+2) X (defScope st) (namesOf (defScope st))→SndS (callN tab n) X (defBody st) b
structure SpIn (K:PySem.W.Frag) (mg:Str→Option Value) (G:Gx) (tab:List Fd) (x:Str) (i:Nat):Prop where
  ex:∃(a:Addr) (fdt:FuncData) (st:Stmt) (ps:List Str) (fd:Fd),mg x=some (.ref a)∧FunD K x x st a fdt∧Binds K fdt ps []∧FnScope (namesOf (defScope st)) ps (defScope st)∧BodyOk K mg G tab st fd.body∧tab[i]?=some fd∧fd.np=ps.length∧fd.ns=(namesOf (defScope st)).length
theorem body_of (hG:∀x∈bltNames,G.defs.lookup x=none) {st:Stmt}{b:List S}(h:cSs G fuel (defScope st) (namesOf (defScope st)) (mutS fuel (namesOf (defScope st)) (defBody st)) (defBody st)=some b):BodyOk K mg G tab st b:=
  λn X _ _ _ _ _ g=>(all_st (call:=callN tab n) (k:=n+2) hG fuel).s _ _ _ _ _ _ g h
theorem DefIn.sp {x:Str}{i:Nat}(hG:∀x∈bltNames,G.defs.lookup x=none) (d:DefIn K mg G tab fuel x i):SpIn K mg G tab x i:=by
  obtain⟨a,fdt,st,ps,fd,q1,q2,q3,q4,q5,q6,q7,q8⟩:=d.ex
  exact⟨a,fdt,st,ps,fd,q1,q2,q3,q4,body_of hG q5,q6,q7,q8⟩
theorem FunD.okX {CX:CXT}{x qual:Str}{st:Stmt}{f:Addr}{fd:FuncData}{N ps:List Str}{k:Nat}{sp:Sp}(F:FunD K x qual st f fd) (S:FnScope N ps (defScope st)) (len:∀vs H Q E,sp vs H Q E→vs.length=ps.length)
    (body:∀(cdv:Value) (A:Around) (outer:List Env) (s:Shared) (H:Hp) (vs:List V) (Q:VK) (E:XK),Room k (A.deeper (envOfC qual (defScope st) s.heap.objs.size f cdv))→sp vs H Q E →
      ∃t,PSs (cxOf CX P w K mg base N qual (defScope st) f cdv A outer s H E) (defBody st) t∧t { nx:=λ_ H'=>Q .non H',rt:=Q } (start N vs) H):FnOk P w K mg base CX (k+1) f fd ps sp:=by
  obtain⟨oc,od,dV,kV,doc,pm,an,cdv,ct,osl,rfl,lk,hcd⟩:=F.ex
  exact fn_of lk hcd S len λA outer s H vs Q E hr h=>body cdv A outer s H vs Q E hr h
theorem fns (hG:∀x∈bltNames,G.defs.lookup x=none) (hb:∀x∈bltNames,mg x=none) (hc:∀x i,G.cons.lookup x=some i→∃t,mg x=some (.int i t)) (kb:K.In base) (hd:∀x i,G.defs.lookup x=some i→SpIn K mg G tab x i∨SrtIn K mg tab x i) (hu:∀u∈G.ucal,UseIn K mg G tab fuel u) (hmt:∀u∈G.meth,MthIn K mg G tab fuel u.1 u.2.1 u.2.2)
    (hX:tab.length≤XO) (hrs:∀c∈G.rse,∃(C:Addr) (B nid iid:String) (bm:List Value),ExcBaseFacts B nid iid bm∧OwnCls c C bm nid mg base) (hxd:∀x i,G.xdf.lookup x=some i→SpIn K mg G tab x i):∀(n:Nat) (x qn:Str) (i:Nat) (a:Addr) (fdt:FuncData) (st:Stmt) (ps:List Str) (fd:Fd),FunD K x qn st a fdt →
    FnScope (namesOf (defScope st)) ps (defScope st)→BodyOk K mg G tab st fd.body→tab[i]?=some fd→fd.np=ps.length→fd.ns=(namesOf (defScope st)).length →
    FnOk P w K mg base CX0 (n+2) a fdt ps (spD K ps.length (callN tab n i))∧FnOk P w K mg base (CXr P w) (n+2) a fdt ps (spX K mg ps.length (callN tab n (i+XO)))
  | 0,x,qn,i,a,fdt,st,ps,fd,_,_,_,_,_,_=>⟨fn_zero,⟨λ_ _ _ _ h=>h.1,λA outer s H args us vs Q E _ _ _ _ h=>by obtain⟨_,_,F,ds,r,_,_,z,_⟩:=h;cases z⟩⟩
  | n+1,x,qn,i,a,fdt,st,ps,fd,Fn,Sc,hcs,ht,hp,hn=>by
    have gX:∀(CX:CXT) (cdv:Value) (A:Around) (outer:List Env) (s:Shared) (H:Hp) (E:XK),Room (n+2) (A.deeper (envOfC qn (defScope st) s.heap.objs.size a cdv))→XG (callN tab n) G (n+2) (cxOf CX P w K mg base (namesOf (defScope st)) qn (defScope st) a cdv A outer s H E) (defScope st) (namesOf (defScope st)):=by
      intro CX cdv A outer s H E hr
      refine⟨rfl,Sc.nd,λy h=>?_,λy h=>?_,λy h=>?_,λy h=>?_,rfl,PassesOwn.leaving,hr,λy j h=>?_,λy _ h=>hb y h,hc,λu hm=>?_,λu hm=>?_,λ_=>Nat.le_add_left 2 n,λc h=>⟨hrs c h⟩,λy j h=>?_⟩
      · unfold visB at h
        simp only [Bool.or_eq_true,beq_iff_eq] at h
        rcases h with (h|h)|h
        · exact .inl h
        · exact .inr (.inl h)
        · exact .inr (.inr h)
      · simp only [Bool.or_eq_true,beq_iff_eq] at h
        exact⟨h,.inl rfl⟩
      · unfold glB at h
        rw [beq_iff_eq] at h
        exact h
      · unfold capB at h
        simp only [Bool.or_eq_true,beq_iff_eq] at h
        exact h
      · rcases hd y j h with hd1|hd1
        · obtain⟨a2,fdt2,st2,ps2,fd2,q1,q2,q3,q4,q5,q6,q7,q8⟩:=hd1.ex
          exact⟨a2,fdt2,ps2,q1,q2.kp,q3,(fns hG hb hc kb hd hu hmt hX hrs hxd n y y j a2 fdt2 st2 ps2 fd2 q2 q4 q5 q6 q7 q8).1,λds r hr=>(callN_len q6 hr).trans q7⟩
        · exact hd1.elim
      · obtain⟨a2,fdt2,st2,ps2,fd2,g2,gV2,q1,q2,q3,q3b,q3c,q4,q5,q6,q7,q8⟩:=(hu u hm).ex
        exact⟨a2,fdt2,ps2,g2,gV2,q1,q2.kp,q3,q3b,q3c,(fns hG hb hc kb hd hu hmt hX hrs hxd n u.f u.f u.i a2 fdt2 st2 ps2 fd2 q2 q4 (body_of hG q5) q6 q7 q8).1,λds r hr=>(callN_len q6 hr).trans q7⟩
      · obtain⟨C,fi,fm,fdi,fdm,sti,stm,psi,psm,qi,qm,fd2,q1,q2,q3,q4,q5,q6,q7,q8,q9,q10,q11,q12,q13,q14,q15,q16,q17,q18,q19,q20⟩:=(hmt u hm).ex
        exact⟨C,fi,fm,fdi,fdm,psi,psm,q1,q2,q3,q4,q6,init_fn hb q5 q7 q8 q9 q20,q10,q12,(fns hG hb hc kb hd hu hmt hX hrs hxd n u.2.1 qm u.2.2 fm fdm stm psm fd2 q11 q13 (body_of hG q14) q15 q16 q17).1,λds r hr=>(callN_len q15 hr).trans q16,q18,q19⟩
      · obtain⟨a2,fdt2,st2,ps2,fd2,q1,q2,q3,q4,q5,q6,q7,q8⟩:=(hxd y j h).ex
        exact⟨a2,fdt2,ps2,q1,q2.kp,q3,(fns hG hb hc kb hd hu hmt hX hrs hxd n y y j a2 fdt2 st2 ps2 fd2 q2 q4 q5 q6 q7 q8).2,λds r hr=>(callX_len hX q6 hr).trans q7⟩
    refine⟨Fn.ok Sc (λvs H Q E h=>h.1) (λcdv A outer s H vs Q E hr h=>?_),Fn.okX Sc (λvs H Q E h=>h.1) (λcdv A outer s H vs Q E hr h=>?_)⟩
    · obtain⟨hvl,htb,F,ds,r,dom,rds,hcall,hq⟩:=h
      rw [callN_at ht] at hcall
      obtain⟨r0,hcall,hnx⟩:=bind1 (show (runX (callN tab n) fd ds).bind noX=some r from hcall)
      unfold noX at hnx
      split at hnx
      · cases hnx
      · rename_i hx
        cases hnx
        unfold runX at hcall
        split at hcall
        · rename_i hal
          obtain⟨o,e1,e2⟩:=bind1 hcall
          obtain⟨t,pt,qt⟩:=hcs n _ rfl rfl ⟨rfl,rfl⟩ rfl rfl (gX CX0 cdv A outer s H E hr).nox
          refine⟨t,pt,qt H F H F _ _ o _ e1 (start_sr htb dom rds (by rw [hp,hn,hvl])) (Gr.refl dom) ?_⟩
          cases o with
          | nx σ' =>
            cases e2
            exact fun τ' H' F' _ g' _=>hq .non H' F' g' rfl
          | rt r' =>
            cases e2
            exact⟨λv H' F' g' rr=>hq v H' F' g' rr,λc e=>by subst e;exact absurd rfl hx⟩
          | bk _=>cases e2
          | ct _=>cases e2
        · cases hcall
    · obtain⟨hvl,htb,F,ds,r,dom,rds,hcall,hq,hqx⟩:=h
      rw [callX_at ht hX] at hcall
      unfold runX at hcall
      split at hcall
      · rename_i hal
        obtain⟨o,e1,e2⟩:=bind1 hcall
        obtain⟨t,pt,qt⟩:=hcs n _ rfl rfl ⟨rfl,rfl⟩ rfl rfl (gX (CXr P w) cdv A outer s H E hr)
        refine⟨t,pt,qt H F H F _ _ o _ e1 (start_sr htb dom rds (by rw [hp,hn,hvl])) (Gr.refl dom) ?_⟩
        cases o with
        | nx σ' =>
          cases e2
          exact fun τ' H' F' _ g' _=>hq .non H' F' g' rfl
        | rt r' =>
          cases e2
          exact⟨λv H' F' g' rr=>hq v H' F' g' rr,λc e H' F' g'=>wish_of λC hC=>hqx c e H' F' g' C hC⟩
        | bk _=>cases e2
        | ct _=>cases e2
      · cases hcall
theorem law_sp {n i:Nat}(h:∀ns:List Int,ns.length≤63→(∀i∈ns,2 * i.natAbs<huge)→callN tab n i [.lst (ns.map .int)]=some (false,.bl true)) (H:Hp) (tb:TB H) (a:Addr) (ns:List Int) (hl:ns.length≤63) (hw:∀i∈ns,2 * i.natAbs<huge) (hS:SqL K H a (ns.map V.int)) (E:XK):spD K 1 (callN tab n i) [.ref a] H (λv H'=>v=.bl true∧TB H') E:=by
  rcases hS with hS|hS
  · refine⟨rfl,tb,λb=>b=a,[.lst (ns.map .int)],(false,.bl true),λb e z=>?_,⟨.ref a,[],rfl,.inl ⟨a,ns.map V.int,rfl,.inl ⟨rfl,hS⟩,RDs.of_ints ns⟩,rfl⟩,h ns hl hw,λv H' F' g rr=>⟨rr,tb.same g.same⟩⟩
    subst z
    rcases hS with q|⟨o,q⟩<;>(rw [e] at q;cases q)
  · exact⟨rfl,tb,λ_=>False,[.lst (ns.map .int)],(false,.bl true),λ_ _ z=>z,⟨.ref a,[],rfl,.inl ⟨a,ns.map V.int,rfl,.inr hS,RDs.of_ints ns⟩,rfl⟩,h ns hl hw,λv H' F' g rr=>⟨rr,tb.same g.same⟩⟩
end
noncomputable def tabH (b:Addr):Option HO:=(tbs.find? λt=>t.1 == b).map λt=>.tab t.2.1 t.2.2
theorem tabH_some {b:Addr}{u:HO}(h:tabH b=some u):∃t∈tbs,t.1=b∧u=.tab t.2.1 t.2.2:=by
  obtain⟨t,e1,e2⟩:=Option.map_eq_some_iff.mp h
  exact⟨t,List.mem_of_find?_eq_some e1,by simpa using List.find?_some e1,e2.symm⟩
theorem law_callT {P:Program}{w:World}{K:PySem.W.Frag}{mg mb:Str→Option Value}{k:Nat}{fa a:Addr}{fd:FuncData}{x:Str}{sp:Sp}{s₁:Shared}{vs:List Value}{ns:List Int}
    (KX:K.In s₁.heap) (hns:s₁.heap.Ns mainGlobals mg) (hb:s₁.heap.Ns builtinsNs mb) (hbb:∀x:Str,x≠"__name__"→mb x=bootBuiltins x) (hlim:s₁.heap.NoLimit) (hg:s₁.gens=#[])
    (ha:s₁.heap.get? a=some { cls:=.type "list",data:=.seq vs.toArray }) (hi:IntsAre vs ns) (hl:ns.length≤sizeLine) (hr:Room k callerA)
    (htb:TB tabH) (hto:∀t∈tbs,s₁.heap.get? t.1=some (PySem.W.tabObj #[])∧isCodeTable s₁.heap t.1∧K.lookup t.1=none)
    (F:∀base:Heap,K.In base→base.Ns mainGlobals mg→FnOk P w K mg base CX0 k fa fd [x] sp) (hbind:∀(s:Shared) (u:Value),BindsTo s fd ⟨[u],[]⟩ [(x,u)])
    (hsp:∀H:Hp,TB H→SqL K H a (ns.map V.int)→sp [.ref a] H (λv H'=>v=.bl true∧TB H') λ_ _ _=>False) :
    codeAny (model P w) callerA (.call (.ref fa) ⟨[.ref a],[]⟩) (λr s'=>r=.ok (.ret (.bool true))∧OldK s₁.heap s'.heap∧s'.os=s₁.os∧AllBare s'.gens) s₁:=by
  have rv:=vals_ints hi
  have nt:tabH a=none:=by
    cases q:tabH a with
    | none=>rfl
    | some u =>
      obtain⟨t,hm,rfl,_⟩:=tabH_some q
      rw [(hto t hm).1] at ha
      cases ha
  let o0:Obj:={ cls:=.type "list",data:=.seq vs.toArray }
  let H:Hp:=λb=>if b=a∧K.lookup a=none then some (.frz o0 (.lst (ns.map V.int))) else tabH b
  have cs:∀b u,H b=some u→(b=a∧K.lookup a=none∧u=.frz o0 (.lst (ns.map V.int)))∨∃t∈tbs,t.1=b∧u=.tab t.2.1 t.2.2:=λb u e=>by
    by_cases z:b=a∧K.lookup a=none
    · have e':=(if_pos z).symm.trans e
      cases e'
      exact .inl ⟨z.1,z.2,rfl⟩
    · exact .inr (tabH_some ((if_neg z).symm.trans e))
  have tb:TB H:=λt hm=>by
    have:¬(t.1=a∧K.lookup a=none):=λz=>by have:=htb t hm;rw [z.1,nt] at this;cases this
    exact (if_neg this).trans (htb t hm)
  have hok:HOk P w H s₁.heap:=λb u e=>by
    rcases cs b u e with ⟨rfl,_,rfl⟩|⟨t,hm,rfl,rfl⟩
    · exact⟨ha,by rw [List.length_map];exact hl,vs,_,rv,ha⟩
    · exact⟨#[],(hto t hm).1,trivial,.inl rfl⟩
  have nsK:∀{b:Addr} {m:Str→Option Value},s₁.heap.Ns b m→(hidT s₁.heap H).Ns b m:=λ{b m} ⟨o,es,ep,e,d,r⟩=>⟨o,es,ep,hidT_get e (by
    cases q:H b with
    | none=>rfl
    | some u =>
      rcases cs b u q with ⟨rfl,_,_⟩|⟨t,hm,rfl,_⟩
      · rw [ha] at e;cases e;cases d
      · rw [(hto t hm).1] at e;cases e;cases d),d,r⟩
  have hKb:K.In (hidT s₁.heap H):=λb o e=>hidT_get (KX b o e) (by
    cases q:H b with
    | none=>rfl
    | some u =>
      rcases cs b u q with ⟨rfl,z,_⟩|⟨t,hm,rfl,_⟩
      · rw [z] at e;cases e
      · rw [(hto t hm).2.2] at e;cases e)
  have hS:SqL K H a (ns.map V.int):=by
    cases hk:K.lookup a with
    | none=>exact .inl (.inr ⟨o0,if_pos ⟨rfl,hk⟩⟩)
    | some o =>
      have e:=KX a o hk
      rw [ha] at e
      cases e
      exact .inr ⟨_,vs.toArray,_,hk,rfl,rfl,rfl,by rw [List.size_toArray,hi.length];exact hl,by simpa using rv⟩
  have hM:Mod K mg (hidT s₁.heap H):=⟨hKb,nsK hns,⟨mb,nsK hb,hbb⟩,let ⟨mc,h1,h2⟩:=hlim;⟨mc,nsK h1,h2⟩⟩
  have e0:Env0 P w K mg (hidT s₁.heap H) callerA [] s₁ H:=⟨rfl,hM,λb o e=>of_hidT e,Nat.le_of_eq (hidT_size _ _),trivial,λb hb=>absurd (show b∈([]:List Addr) from hb) (by simp),hok,.of_eq hg⟩
  refine codeAny_mono ((F _ hKb (nsK hns)).run callerA [] s₁ H ⟨[.ref a],[]⟩ [.ref a] [.ref a] _ _ hr e0 (hbind s₁ (.ref a)) (.cons rfl .nil) (hsp H tb hS)) λr s' h=>?_
  cases r with
  | error e=>exact False.elim h
  | ok fl =>
    cases fl with
    | next=>exact False.elim h
    | brk=>exact False.elim h
    | cont=>exact False.elim h
    | ret u =>
      obtain⟨v,H',os,bare,un,hok',r',rfl,tb'⟩:=h
      obtain rfl:u=Value.bool true:=r'
      have old:∀b o,s₁.heap.get? b=some o→asItWas s₁.heap s'.heap b o∧∃o',s'.heap.get? b=some o':=λb o e=>by
        cases q:H b with
        | none =>
          have:=un.keep b o e q (by intro z;exact absurd (show b∈([]:List Addr) from z) (by simp)) (by simp)
          exact⟨.inl this,_,this⟩
        | some u =>
          rcases cs b u q with ⟨rfl,_,rfl⟩|⟨t,hm,rfl,rfl⟩
          · have z2:=un.frzs b _ _ q
            obtain⟨e1,_⟩:=hok b _ q
            obtain⟨e2,_⟩:=hok' b _ z2
            rw [e] at e1
            cases e1
            exact⟨.inl e2,_,e2⟩
          · obtain⟨e1,e2,_⟩:=hto t hm
            rw [e] at e1
            cases e1
            obtain⟨ps,e3,_⟩:=hok' t.1 _ (tb' t hm)
            exact⟨.inr (.inl ⟨e2,rfl,#[],ps,rfl,by rw [e3];simp⟩),_,e3⟩
      exact⟨rfl,⟨λb o e=>(old b o e).1,λb o e=>(old b o e).2⟩,os,bare⟩
theorem wt_mem:∀(ns:List Int) (i:Int),i∈ns→PySem.W.WData.weight (.int i)+1≤PySem.W.WData.weightAll (ns.map PySem.W.WData.int)
  | [],i,h=>nomatch h
  | n::ns,i,h=>by
    rw [List.map_cons,PySem.W.WData.weightAll]
    rcases List.mem_cons.mp h with rfl|h
    · omega
    · have:=wt_mem ns i h
      omega
theorem lay_wide {ns:List Int}(h:PySem.W.WData.layableAll [.list (ns.map PySem.W.WData.int)]=true) (i:Int) (hi:i∈ns):2 * i.natAbs<huge:=by
  unfold PySem.W.WData.layableAll at h
  rw [List.all_cons,Bool.and_eq_true] at h
  have h1:=h.1
  unfold PySem.W.WData.layable at h1
  rw [Bool.and_eq_true] at h1
  have h2:PySem.W.WData.weight (.list (ns.map PySem.W.WData.int))≤2^20:=of_decide_eq_true h1.2
  rw [PySem.W.WData.weight] at h2
  have h3:=wt_mem ns i hi
  rw [PySem.W.WData.weight] at h3
  by_cases hz:i=0
  · subst hz
    exact Nat.pow_pos (by decide)
  · rw [if_neg (by simpa using hz)] at h3
    have h4:i.natAbs<2^(i.natAbs.log2+1):=Nat.lt_log2_self
    have h5:2 * i.natAbs<2^(i.natAbs.log2+2):=by rw [Nat.pow_succ];omega
    exact Nat.lt_of_lt_of_le h5 (Nat.pow_le_pow_right (by decide) (by omega))
theorem dw_walk {l:PySem.W.OpenLaw}{q:Program}{loose:List Str}{XP:(Str→Option Value)→Heap→Prop}{YP:World→Heap→Prop}{d:DefRec}{K:Params→PySem.W.Frag}{tab:List Fd}{n i:Nat}(hlaw:∀ns:List Int,ns.length≤63→(∀i∈ns,2 * i.natAbs<huge)→callN tab n i [.lst (ns.map .int)]=some (false,.bl true))
    (hn:l.most=some 63) (hdf:d.params.defaults=[]) (hr:Room (n+2) callerA) (hY:∀(w:World) (h:Heap),YP w h→(K w.params).In h) (htb:TB tabH) (hT:∀(w:World) (h:Heap),YP w h→∀t∈tbs,h.get? t.1=some (PySem.W.tabObj #[])) (hC:∀(w:World),∀t∈tbs,(∃c,PySem.W.codeHdIn (K w.params) c t.1=true)∧(K w.params).lookup t.1=none)
    (F:∀(w:World) (mg:Str→Option Value) (fa:Addr) (h:Heap),(K w.params).In h→h.Ns mainGlobals mg→mg d.name=some (.ref fa) →
      ∃fd:FuncData,(∀(s:Shared) (u:Value),BindsTo s fd ⟨[u],[]⟩ [("script",u)])∧∀base:Heap,(K w.params).In base→base.Ns mainGlobals mg→FnOk l.prog w (K w.params) mg base CX0 (n+2) fa fd ["script"] (spD (K w.params) 1 (callN tab n i))) :
    PySem.W.WalkO q loose XP YP l.row.toRowW d [] (λf vs=>PySem.call f vs):=by
  intro w t₀ t₁ mg mb g y fa o pm cd doc v₁ v₂ ho hd hc e1 e2 e3 args vals as e4 lay e5 e6 e7
  obtain rfl:v₁=.none:=PySem.W.Dflts.none e1 hdf
  obtain rfl:v₂=.none:=PySem.W.Dflts.noKw e1
  obtain⟨a,vs,ns,rfl,rfl,s1,s2,s3⟩:=Att.script_of hn e4 e6
  have kx:=hY w _ y
  obtain⟨fd,hb,hF⟩:=F w mg fa _ kx g.T.g e2
  refine PySem.W.enter_call (codeAny_mono (law_callT kx g.T.g g.T.b g.T.builtins g.T.nolimit e3 s1 s2 (Nat.le_trans s3 (by decide)) hr htb (λt hm=>⟨hT w _ y t hm,?_,(hC w t hm).2⟩) hF hb λH tb hS=>law_sp hlaw H tb a ns s3 (lay_wide lay) hS _) λr s' z=>?_)
  · obtain⟨c,hc⟩:=(hC w t hm).1
    obtain⟨o,vs,_,_,_,_,_,_,_,q1,q2,q3,q4,_⟩:=PySem.W.codeHd_of_K kx hc
    exact⟨c,o,vs,q1,q2,q3,q4⟩
  obtain⟨rfl,z2,z3,z4⟩:=z
  exact⟨.inl ⟨.bool true,.bool true,[],rfl,λ_=>rfl,.bool true,Att.post_true l _,λ_=>⟨List.Pairwise.nil,λ_ hm=>(nomatch hm)⟩⟩,z2,z3,z4⟩
end Dw
namespace Dw
open PySem PySem.Spec PySem.W PyProof.Rows L2
theorem one_tb {c0 c:Str}{d0 d:D}(h:List.lookup c [(c0,d0)]=some d):c=c0∧d=d0:=by
  rw [List.lookup_cons] at h
  cases e:c == c0 with
  | true=>rw [e] at h;cases h;exact⟨beq_iff_eq.mp e,rfl⟩
  | false=>rw [e] at h;cases h
section
variable {call:Nat→List D→Option R}{G:Gx}{k:Nat}{X:Cx}{sc:Scope}{N:List Str}{K:Frag}{mg:Str→Option Value}
structure TryAt (K:Frag) (mg:Str→Option Value) (G:Gx) (sc:Scope) (N:List Str) (f c n tn c0:Str) (fi i t:Nat) (Cc C0:Addr):Prop where
  xdf:G.xdf.lookup f=some fi
  gf:glB sc f=true
  pf:plainName f=true
  gc:glB sc c=true
  pc:plainName c=true
  mc:mg c=some (.ref Cc)
  m0:mg c0=some (.ref C0)
  ex:exmOne K (.ref C0) (.ref Cc)=some true
  xc:XCls K C0
  ni:N[i]?=some n
  nt:N[t]?=some tn
  ln:sc.names.lookup n=some .local
  lt:sc.names.lookup tn=some .local
  pn:plainName n=true
  ne:i≠t
  gi:glB sc "isinstance"=true
theorem snd_tryS {m:Nat}(hG:∀x∈bltNames,G.defs.lookup x=none) (g:XG call G k X sc N) (hK:X.K=K) (hmg:X.mg=mg) (hsc:X.env.scope=sc) (hst:X.stack=X.env::X.outer∧X.env.frame=some X.env.locals) (hx0:X.ex=[]) {f c n tn c0:Str}{fi i t:Nat}{Cc C0:Addr}(T:TryAt K mg G sc N f c n tn c0 fi i t Cc C0)
    {e:Expr} {es:List Expr} {cs:List C} {d0:D} {b₀:Stmt} {suite:List Stmt} {p pos epos np hpos tpos:Pos} (hcs:cEs G m sc N (e::es)=some cs) (su:SuOk X (b₀::suite) i t [(c0,d0)]) (hd0:isK d0=true:=by rfl) :
    Snd1 call X (.Try [.Expr (.Call (.Name f p) (e::es) [] pos) epos] [.ExceptHandler (some (.Name c np)) (some n) (b₀::suite) hpos] [] [] tpos) [.tryB i t fi cs [(c0,d0)]]:=by
  subst hK hmg
  exact snd_try (all_ok hG m) g g.nox T.xdf T.gf T.pf hcs T.gc T.pc T.mc (λc' d C h1 h2=>by
      obtain⟨rfl,rfl⟩:=one_tb h1
      rw [T.m0] at h2
      cases h2
      exact T.ex) (λc' d h1=>by obtain⟨rfl,rfl⟩:=one_tb h1;exact hd0) T.ni (by rw [hsc];exact T.ln) T.ne su hst hx0
end
end Dw
set_option exponentiation.threshold 6000
namespace Dw.T
open Dw
noncomputable def f_still_swath:Fd:=⟨1,1,[.ret (.bi .tuple [(.compS (.tup [(.ix (.v 0) (.k (.int 0))),(.ix (.v 0) (.k (.int 1))),(.k (.int 0)),(.k (.int 0))]) 1 [] (.one 0) (.v 0))])]⟩
noncomputable def f_drifting:Fd:=⟨2,2,[.ret (.bi .tuple [(.compZ (.tup [(.ix (.v 0) (.k (.int 0))),(.ix (.v 0) (.k (.int 1))),(.v 1),(.v 1)]) 2 [] (.two 0 1) (.v 0) (.v 1))])]⟩
noncomputable def f_is_number:Fd:=⟨3,3,[.ret (.and (.isi (.v 0) .int) (.and (.not (.isi (.v 0) .bool)) (.chn .le .le (.v 1) (.v 0) (.v 2))))]⟩
noncomputable def f_is_side:Fd:=⟨1,1,[.ite (.or (.not (.isi (.v 0) .tuple)) (.cmp .ne (.bi .len [(.v 0)]) (.k (.int 2)))) [.ret (.k (.bl false))] [],
  .ret (.and (.bi .all [(.compS (.call 2 [(.v 0),(.neg (.k (.int 1000000000000000000000000000000))),(.k (.int 1000000000000000000000000000000))]) 1 [] (.one 0) (.v 0))]) (.cmp .le (.ix (.v 0) (.k (.int 0))) (.ix (.v 0) (.k (.int 1)))))]⟩
noncomputable def f_is_box:Fd:=⟨1,1,[.ret (.and (.isi (.v 0) .tuple) (.and (.cmp .isin (.bi .len [(.v 0)]) (.tup [(.k (.int 2)),(.k (.int 3))])) (.bi .all [(.compS (.call 3 [(.v 0)]) 1 [] (.one 0) (.v 0))])))]⟩
noncomputable def f_are_speeds:Fd:=⟨2,2,[.ite (.or (.not (.isi (.v 0) .tuple)) (.cmp .ne (.bi .len [(.v 0)]) (.v 1))) [.ret (.k (.bl false))] [],
  .ret (.bi .all [(.compS (.call 2 [(.v 0),(.neg (.k (.int 1000000000000000))),(.k (.int 1000000000000000))]) 1 [] (.one 0) (.v 0))])]⟩
noncomputable def f_make_thing:Fd:=⟨5,6,[.ite (.not (.call 2 [(.v 0),(.k (.int 0)),(.k (.int 1000000000000000000))])) [.rse (PySem.Str.ofString "NoThing")] [],
  .ite (.not (.call 4 [(.v 1)])) [.rse (PySem.Str.ofString "NoThing")] [],
  .ite (.and (.isC true (.v 2) .non) (.not (.call 5 [(.v 2),(.bi .len [(.v 1)])]))) [.rse (PySem.Str.ofString "NoThing")] [],
  .ite (.not (.call 2 [(.v 3),(.k (.int 0)),(.k (.int 65535))])) [.rse (PySem.Str.ofString "NoThing")] [],
  .ite (.not (.call 2 [(.v 4),(.neg (.k (.int 1000000000000000000000000000000))),(.k (.int 1000000000000000000000000000000))])) [.rse (PySem.Str.ofString "NoThing")] [],
  .set 5 false (.ifx (.isC false (.v 2) .non) (.call 0 [(.v 1)]) (.call 1 [(.v 1),(.v 2)])),
  .ret (.tup [(.v 0),(.v 5),(.v 3),(.v 4)])]⟩
noncomputable def f_law_stir:Fd:=⟨1,1,[.ret (.bin .mod (.bin .mul (.v 0) (.k (.int 105172331949523456789012345678901234567))) (.k (.int 170141183460469231731687303715884105727)))]⟩
noncomputable def f_law_next:Fd:=⟨1,1,[.ret (.bin .mod (.bin .mul (.v 0) (.k (.int 83492791123456789012345678901234567891))) (.k (.int 170141183460469231731687303715884105727)))]⟩
noncomputable def f_law_parts_by:Fd:=⟨1,7,[.set 1 false (.call 8 [(.call 7 [(.v 0)])]),
  .set 2 false (.bin .add (.k (.int 2)) (.bin .mod (.v 1) (.k (.int 2)))),
  .set 1 false (.bin .fdiv (.v 1) (.k (.int 2))),
  .set 3 true (.lst []),
  .set 4 true (.lst []),
  .forR (.one 5) [(.v 2)] [.set 6 false (.bin .sub (.bin .mod (.v 1) (.k (.int 9))) (.k (.int 4))),.app 3 (.tup [(.v 6),(.bin .add (.v 6) (.bin .mod (.bin .fdiv (.v 1) (.k (.int 9))) (.k (.int 3))))]),.app 4 (.bin .sub (.bin .mod (.bin .fdiv (.v 1) (.k (.int 27))) (.k (.int 9))) (.k (.int 4))),.set 1 false (.bin .fdiv (.v 1) (.k (.int 243)))],
  .ret (.tup [(.bin .mod (.v 1) (.k (.int 9))),(.bi .tuple [(.v 3)]),(.bi .tuple [(.v 4)]),(.bin .mod (.bin .fdiv (.v 1) (.k (.int 9))) (.k (.int 9))),(.bin .sub (.bin .mod (.bin .fdiv (.v 1) (.k (.int 81))) (.k (.int 9))) (.k (.int 4)))])]⟩
noncomputable def f_law_strange:Fd:=⟨1,1,[.ret (.ix (.lst [(.k (.bl true)),(.k .non),(.k (.str (PySem.Str.ofString "7"))),(.tup [(.k (.int 7))])]) (.bin .mod (.v 0) (.k (.int 4))))]⟩
noncomputable def f_law_with:Fd:=⟨3,3,[.ret (.bin .add (.bin .add (.sl (.v 0) none (some (.v 1))) (.tup [(.v 2)])) (.sl (.v 0) (some (.bin .add (.v 1) (.k (.int 1)))) none))]⟩
noncomputable def f_law_side_spoiled:Fd:=⟨4,4,[.ite (.cmp .eq (.v 1) (.k (.int 8))) [.ret (.tup [(.ix (.v 0) (.k (.int 0))),(.bin .sub (.bin .sub (.ix (.v 0) (.k (.int 0))) (.k (.int 1))) (.v 3))])] [],
  .ite (.cmp .eq (.v 1) (.k (.int 9))) [.ret (.tup [(.ix (.v 0) (.k (.int 0))),(.bin .add (.bin .add (.bin .pow (.k (.int 10)) (.k (.int 30))) (.k (.int 1))) (.v 3))])] [],
  .ite (.cmp .eq (.v 1) (.k (.int 10))) [.ret (.tup [(.bin .sub (.bin .sub (.neg (.k (.int 1))) (.v 3)) (.bin .pow (.k (.int 10)) (.k (.int 30)))),(.ix (.v 0) (.k (.int 1)))])] [],
  .ite (.cmp .eq (.v 1) (.k (.int 11))) [.ret (.lst [(.ix (.v 0) (.k (.int 0))),(.ix (.v 0) (.k (.int 1)))])] [],
  .ite (.cmp .eq (.v 1) (.k (.int 12))) [.ret (.ix (.lst [(.tup [(.ix (.v 0) (.k (.int 0)))]),(.tup [(.ix (.v 0) (.k (.int 0))),(.ix (.v 0) (.k (.int 1))),(.ix (.v 0) (.k (.int 1)))]),(.k .non),(.tup [])]) (.bin .mod (.v 2) (.k (.int 4))))] [],
  .ite (.cmp .eq (.bin .mod (.bin .fdiv (.v 2) (.k (.int 4))) (.k (.int 2))) (.k (.int 0))) [.ret (.tup [(.call 10 [(.v 2)]),(.k (.int 9))])] [],
  .ret (.tup [(.neg (.k (.int 9))),(.call 10 [(.v 2)])])]⟩
noncomputable def f_law_spoiled:Fd:=⟨4,9,[.set 4 false (.bin .mod (.bin .fdiv (.v 2) (.k (.int 8))) (.bi .len [(.ix (.v 0) (.k (.int 1)))])),
  .set 5 false (.call 10 [(.v 2)]),
  .ite (.or (.cmp .eq (.v 1) (.k (.int 1))) (.or (.cmp .eq (.v 1) (.k (.int 2))) (.cmp .eq (.v 1) (.k (.int 3))))) [.ret (.call 11 [(.v 0),(.k (.int 0)),(.ix (.lst [(.bin .sub (.neg (.k (.int 1))) (.v 3)),(.bin .add (.bin .add (.bin .pow (.k (.int 10)) (.k (.int 18))) (.k (.int 1))) (.v 3)),(.v 5)]) (.bin .sub (.v 1) (.k (.int 1))))])] [],
  .ite (.cmp .eq (.v 1) (.k (.int 4))) [.ret (.call 11 [(.v 0),(.k (.int 1)),(.bi .list [(.ix (.v 0) (.k (.int 1)))])])] [],
  .ite (.or (.cmp .eq (.v 1) (.k (.int 5))) (.cmp .eq (.v 1) (.k (.int 6)))) [.set 6 false (.ix (.lst [(.k (.int 1)),(.k (.int 4)),(.bin .mul (.k (.int 2)) (.bi .len [(.ix (.v 0) (.k (.int 1)))]))]) (.bin .mul (.bin .sub (.v 1) (.k (.int 5))) (.bin .add (.k (.int 1)) (.bin .mod (.v 2) (.k (.int 2)))))),.set 7 false (.ix (.lst [(.sl (.bin .add (.ix (.v 0) (.k (.int 2))) (.ix (.v 0) (.k (.int 2)))) none (some (.v 6))),(.k .non)]) (.bin .mod (.bin .fdiv (.v 2) (.k (.int 2))) (.k (.int 2)))),.ret (.call 11 [(.call 11 [(.v 0),(.k (.int 1)),(.sl (.bin .add (.ix (.v 0) (.k (.int 1))) (.ix (.v 0) (.k (.int 1)))) none (some (.v 6)))]),(.k (.int 2)),(.v 7)])] [],
  .ite (.cmp .eq (.v 1) (.k (.int 7))) [.ret (.call 11 [(.call 11 [(.v 0),(.k (.int 1)),(.v 5)]),(.k (.int 2)),(.ix (.lst [(.ix (.v 0) (.k (.int 2))),(.k .non)]) (.bin .mod (.bin .fdiv (.v 2) (.k (.int 4))) (.k (.int 2))))])] [],
  .ite (.cmp .le (.v 1) (.k (.int 13))) [.ret (.call 11 [(.v 0),(.k (.int 1)),(.call 11 [(.ix (.v 0) (.k (.int 1))),(.v 4),(.call 12 [(.ix (.ix (.v 0) (.k (.int 1))) (.v 4)),(.v 1),(.v 2),(.v 3)])])])] [],
  .ite (.cmp .eq (.v 1) (.k (.int 14))) [.ret (.call 11 [(.v 0),(.k (.int 2)),(.ix (.lst [(.bi .list [(.ix (.v 0) (.k (.int 2)))]),(.sl (.ix (.v 0) (.k (.int 2))) (some (.k (.int 1))) none),(.bin .add (.ix (.v 0) (.k (.int 2))) (.tup [(.k (.int 0))])),(.k (.int 0))]) (.bin .mod (.v 2) (.k (.int 4))))])] [],
  .ite (.cmp .eq (.v 1) (.k (.int 15))) [.set 8 false (.bin .mul (.bin .add (.bin .add (.bin .pow (.k (.int 10)) (.k (.int 15))) (.k (.int 1))) (.v 3)) (.bin .sub (.k (.int 1)) (.bin .mul (.k (.int 2)) (.bin .mod (.v 2) (.k (.int 2)))))),.ret (.call 11 [(.v 0),(.k (.int 2)),(.call 11 [(.ix (.v 0) (.k (.int 2))),(.v 4),(.v 8)])])] [],
  .ite (.cmp .eq (.v 1) (.k (.int 16))) [.ret (.call 11 [(.v 0),(.k (.int 2)),(.call 11 [(.ix (.v 0) (.k (.int 2))),(.v 4),(.v 5)])])] [],
  .ite (.or (.cmp .eq (.v 1) (.k (.int 17))) (.cmp .eq (.v 1) (.k (.int 18)))) [.ret (.call 11 [(.v 0),(.k (.int 3)),(.ix (.lst [(.bin .sub (.neg (.k (.int 1))) (.v 3)),(.bin .add (.k (.int 65536)) (.v 3))]) (.bin .sub (.v 1) (.k (.int 17))))])] [],
  .ite (.cmp .eq (.v 1) (.k (.int 19))) [.ret (.call 11 [(.v 0),(.k (.int 3)),(.v 5)])] [],
  .ite (.cmp .eq (.v 1) (.k (.int 20))) [.ret (.call 11 [(.v 0),(.k (.int 4)),(.bin .mul (.bin .add (.bin .add (.bin .pow (.k (.int 10)) (.k (.int 30))) (.k (.int 1))) (.v 3)) (.bin .sub (.k (.int 1)) (.bin .mul (.k (.int 2)) (.bin .mod (.v 2) (.k (.int 2))))))])] [],
  .ret (.call 11 [(.v 0),(.k (.int 4)),(.v 5)])]⟩
noncomputable def f_law_other:Fd:=⟨0,0,[]⟩
noncomputable def f_law_refused:Fd:=⟨1,3,[.set 1 false (.k (.str (PySem.Str.ofString "made"))),
  .tryB 2 1 6 [(.ix (.v 0) (.k (.int 0))),(.ix (.v 0) (.k (.int 1))),(.ix (.v 0) (.k (.int 2))),(.ix (.v 0) (.k (.int 3))),(.ix (.v 0) (.k (.int 4)))] [(PySem.Str.ofString "NoThing",.str (PySem.Str.ofString "refused"))],
  .ret (.cmp .eq (.v 1) (.k (.str (PySem.Str.ofString "refused"))))]⟩
noncomputable def f_law:Fd:=⟨1,8,[.forS (.one 1) (.bin .add (.lst [(.k (.int 0))]) (.v 0)) [.set 2 false (.call 9 [(.v 1)]),.set 3 false (.call 8 [(.call 8 [(.call 7 [(.v 1)])])]),.set 4 false (.bin .mod (.v 3) (.k (.int 22))),.set 5 false (.ix (.lst [(.k (.int 0)),(.bin .mod (.v 1) (.k (.int 1000))),(.bin .mod (.v 1) (.bin .pow (.k (.int 10)) (.k (.int 40))))]) (.bin .mod (.bin .fdiv (.v 3) (.k (.int 22))) (.k (.int 3)))),.ite (.and (.cmp .gt (.v 4) (.k (.int 0))) (.not (.call 15 [(.call 13 [(.v 2),(.v 4),(.bin .fdiv (.v 3) (.k (.int 66))),(.v 5)])]))) [.ret (.k (.bl false))] [],.set 6 false (.bi .tuple [(.compZ (.tup [(.ix (.v 0) (.k (.int 0))),(.ix (.v 0) (.k (.int 1))),(.v 1),(.v 1)]) 2 [] (.two 0 1) (.ix (.v 2) (.k (.int 1))) (.ix (.v 2) (.k (.int 2))))]),.set 7 false (.call 6 [(.ix (.v 2) (.k (.int 0))),(.ix (.v 2) (.k (.int 1))),(.ix (.v 2) (.k (.int 2))),(.ix (.v 2) (.k (.int 3))),(.ix (.v 2) (.k (.int 4)))]),.ite (.or (.not (.isi (.v 7) .tuple)) (.cmp .ne (.v 7) (.tup [(.ix (.v 2) (.k (.int 0))),(.v 6),(.ix (.v 2) (.k (.int 3))),(.ix (.v 2) (.k (.int 4)))]))) [.ret (.k (.bl false))] []],
  .ret (.k (.bl true))]⟩
noncomputable def tab:List Fd:=[f_still_swath,f_drifting,f_is_number,f_is_side,f_is_box,f_are_speeds,f_make_thing,f_law_stir,f_law_next,f_law_parts_by,f_law_strange,f_law_with,f_law_side_spoiled,f_law_spoiled,f_law_other,f_law_refused,f_law]
theorem t0:tab[0]?=some f_still_swath:=rfl
theorem t1:tab[1]?=some f_drifting:=rfl
theorem t2:tab[2]?=some f_is_number:=rfl
theorem t3:tab[3]?=some f_is_side:=rfl
theorem t4:tab[4]?=some f_is_box:=rfl
theorem t5:tab[5]?=some f_are_speeds:=rfl
theorem t6:tab[6]?=some f_make_thing:=rfl
theorem t7:tab[7]?=some f_law_stir:=rfl
theorem t8:tab[8]?=some f_law_next:=rfl
theorem t9:tab[9]?=some f_law_parts_by:=rfl
theorem t10:tab[10]?=some f_law_strange:=rfl
theorem t11:tab[11]?=some f_law_with:=rfl
theorem t12:tab[12]?=some f_law_side_spoiled:=rfl
theorem t13:tab[13]?=some f_law_spoiled:=rfl
theorem t15:tab[15]?=some f_law_refused:=rfl
theorem t16:tab[16]?=some f_law:=rfl
end Dw.T
namespace Dw
theorem le_lim {n:Nat}(h:n≤16777216):n≤lim:=h
theorem lim0:(0≤lim)=True:=eq_true (Nat.zero_le _)
theorem lim1:(1≤lim)=True:=eq_true (le_lim (by decide))
theorem lim2:(2≤lim)=True:=eq_true (le_lim (by decide))
theorem lim3:(3≤lim)=True:=eq_true (le_lim (by decide))
theorem lim4:(4≤lim)=True:=eq_true (le_lim (by decide))
theorem lim6:(6≤lim)=True:=eq_true (le_lim (by decide))
noncomputable def binP:=binD
noncomputable def cmpP:=cmpD
noncomputable def biP:=biD
noncomputable def ixP:=ixx
noncomputable def slP:=slx
noncomputable def ixQ:=ixD
noncomputable def cutQ:=cutD
noncomputable def isP:=isD
noncomputable def negP:=negD
noncomputable def tyP:=tyD
noncomputable def rngP:=rngD
noncomputable def seqP:=seqD
noncomputable def tupP:=tupD
noncomputable def setIxP:=setIxD
noncomputable def rvP:=rvD
noncomputable def revP:=revD
noncomputable def joinP:=joinD
noncomputable def bitP:=bitD
noncomputable def appP:=appD
section
variable (a b:Int) (x y z:D) (xs ys:List D)
@[simp] theorem binP_add:binP .add (.int a) (.int b)=some (false,.int (a+b)):=rfl
@[simp] theorem binP_sub:binP .sub (.int a) (.int b)=some (false,.int (a - b)):=rfl
@[simp] theorem binP_mul:binP .mul (.int a) (.int b)=if mulOk a b then some (false,.int (a * b)) else none:=rfl
@[simp] theorem binP_fdiv:binP .fdiv (.int a) (.int b)=if divOk b then some (false,.int (a.fdiv b)) else none:=rfl
@[simp] theorem binP_mod:binP .mod (.int a) (.int b)=if divOk b then some (false,.int (a.fmod b)) else none:=rfl
@[simp] theorem binP_pow:binP .pow (.int a) (.int b)=if powOk a b then some (false,.int (a^b.toNat)) else none:=rfl
@[simp] theorem binP_shl:binP .shl (.int a) (.int b)=if shlOk a b then some (false,.int (a * 2^b.toNat)) else none:=rfl
@[simp] theorem binP_shr:binP .shr (.int a) (.int b)=if 0≤b then some (false,.int (a / 2^b.toNat)) else none:=rfl
@[simp] theorem binP_band:binP .band (.int a) (.int b)=if 0≤a∧0≤b then some (false,.int ((a.toNat &&& b.toNat:Nat):Int)) else none:=rfl
@[simp] theorem binP_bor:binP .bor (.int a) (.int b)=if 0≤a∧0≤b then some (false,.int ((a.toNat ||| b.toNat:Nat):Int)) else none:=rfl
@[simp] theorem binP_bxor:binP .bxor (.int a) (.int b)=if 0≤a∧0≤b then some (false,.int (((a.toNat ||| b.toNat:Nat):Int) - ((a.toNat &&& b.toNat:Nat):Int))) else none:=rfl
@[simp] theorem binP_addL:binP .add (.lst xs) (.lst ys)=if xs.length+ys.length≤lim then some (true,.lst (xs++ys)) else none:=rfl
@[simp] theorem binP_addS (u v:PySem.Str):binP .add (.str u) (.str v)=if u.length+v.length≤lim then some (false,.str (u++v)) else none:=rfl
@[simp] theorem binP_addN:binP .add (.tup []) (.tup ys)=some (false,.tup ys):=rfl
@[simp] theorem binP_addT:binP .add (.tup (x::xs)) (.tup ys)=if xs.length+1+ys.length≤lim then some (false,.tup (x::xs++ys)) else none:=rfl
@[simp] theorem binP_mulL:binP .mul (.lst xs) (.int b)=if xs.length * b.toNat≤lim∧-(2^62)<b∧b<2^62 then some (true,.lst (List.replicate b.toNat xs).flatten) else none:=rfl
@[simp] theorem cmpP_eq:cmpP .eq x y=if shal 20 x||shal 20 y then some (false,.bl (eqD x y)) else none:=rfl
@[simp] theorem cmpP_ne:cmpP .ne x y=if shal 20 x||shal 20 y then some (false,.bl (!eqD x y)) else none:=rfl
@[simp] theorem cmpP_eqI:cmpP .eq (.int a) y=some (false,.bl (eqD (.int a) y)):=rfl
@[simp] theorem cmpP_neI:cmpP .ne (.int a) y=some (false,.bl (!eqD (.int a) y)):=rfl
@[simp] theorem cmpP_eqB (c:Bool):cmpP .eq (.bl c) y=some (false,.bl (eqD (.bl c) y)):=rfl
@[simp] theorem cmpP_neB (c:Bool):cmpP .ne (.bl c) y=some (false,.bl (!eqD (.bl c) y)):=rfl
@[simp] theorem cmpP_lt:cmpP .lt (.int a) (.int b)=some (false,.bl (decide (a<b))):=rfl
@[simp] theorem cmpP_le:cmpP .le (.int a) (.int b)=some (false,.bl (decide (a≤b))):=rfl
@[simp] theorem cmpP_gt:cmpP .gt (.int a) (.int b)=some (false,.bl (decide (b<a))):=rfl
@[simp] theorem cmpP_ge:cmpP .ge (.int a) (.int b)=some (false,.bl (decide (b≤a))):=rfl
theorem if_min (i j:Int):(if j<i then j else i)=min i j:=by omega
theorem if_max (i j:Int):(if i<j then j else i)=max i j:=by omega
theorem if_abs (i:Int):(if i<0 then -i else i)=i.natAbs:=by omega
@[simp] theorem biP_lenT:biP .len [.tup xs]=some (false,.int xs.length):=rfl
@[simp] theorem biP_lenL:biP .len [.lst xs]=some (false,.int xs.length):=rfl
@[simp] theorem biP_abs:biP .abs [.int a]=some (false,.int a.natAbs):=by rw [←if_abs];rfl
@[simp] theorem biP_min:biP .min [.int a,.int b]=some (false,.int (min a b)):=by rw [←if_min];rfl
@[simp] theorem biP_max:biP .max [.int a,.int b]=some (false,.int (max a b)):=by rw [←if_max];rfl
@[simp] theorem biP_max3 (c:Int):biP .max [.int a,.int b,.int c]=some (false,.int (max (max a b) c)):=by rw [←if_max,←if_max];rfl
@[simp] theorem biP_min1:biP .min [.lst xs]=minD xs:=rfl
@[simp] theorem biP_max1:biP .max [.lst xs]=(intsOf xs).bind λis=>(mxL is).map λm=>(false,.int m):=rfl
@[simp] theorem bitP_int:bitP (.int a)=some (false,.int (bitL a)):=rfl
@[simp] theorem biP_sum:biP .sum [.lst xs]=(intsOf xs).map λis=>(false,.int is.sum):=rfl
@[simp] theorem biP_any:biP .any [.lst xs]=(blsOf xs).map λbs=>(false,.bl (bs.any id)):=rfl
@[simp] theorem biP_str:biP .str [.int a]=if a.natAbs<2^240 then some (false,.str (istr a)) else none:=rfl
@[simp] theorem revP_T:revP (.tup xs)=some (false,.tup xs.reverse):=rfl
@[simp] theorem joinP_L (u:PySem.Str):joinP (.str u) (.lst xs)=(strsOf xs).bind λts=>if joinOk u ts then some (false,.str (glueS u ts)) else none:=rfl
@[simp] theorem biP_all:biP .all [.lst xs]=(blsOf xs).map λbs=>(false,.bl (bs.all id)):=rfl
@[simp] theorem biP_tupL:biP .tuple [.lst xs]=some (false,.tup xs):=rfl
@[simp] theorem biP_tupT:biP .tuple [.tup xs]=some (false,.tup xs):=rfl
@[simp] theorem biP_lstL:biP .list [.lst xs]=some (true,.lst xs):=rfl
@[simp] theorem biP_lstT:biP .list [.tup xs]=some (true,.lst xs):=rfl
@[simp] theorem biP_intB (c:Bool):biP .int [.bl c]=some (false,.int (if c then 1 else 0)):=rfl
@[simp] theorem biP_intI:biP .int [.int a]=some (false,.int a):=rfl
@[simp] theorem ixP_L:ixP (.lst xs) (.int a)=(ixQ xs a).map (false,·):=rfl
@[simp] theorem ixP_T:ixP (.tup xs) (.int a)=(ixQ xs a).map (false,·):=rfl
@[simp] theorem ixQ_0:ixQ (x::xs) 0=some x:=by simp [ixQ]
@[simp] theorem ixQ_1:ixQ (x::y::xs) 1=some y:=by
  simp only [ixQ,ixD,ixN,List.length_cons];rw [if_pos (by omega),if_pos (by omega)];rfl
@[simp] theorem ixQ_2:ixQ (x::y::z::xs) 2=some z:=by
  simp only [ixQ,ixD,ixN,List.length_cons];rw [if_pos (by omega),if_pos (by omega)];rfl
@[simp] theorem ixQ_3 (u:D):ixQ (x::y::z::u::xs) 3=some u:=by
  simp only [ixQ,ixD,ixN,List.length_cons];rw [if_pos (by omega),if_pos (by omega)];rfl
theorem ixQ_nat (j:Nat):ixQ xs (j:Int)=xs[j]?:=by
  simp only [ixQ,ixD,ixN];rw [if_pos (by omega)]
  by_cases h:j<xs.length
  · rw [if_pos (by omega)];simp
  · rw [if_neg (by omega)];simp;omega
@[simp] theorem slP_L (l h):slP l h (.lst xs)=some (true,.lst (cutQ xs l h)):=rfl
@[simp] theorem slP_T (l h):slP l h (.tup xs)=some (false,.tup (cutQ xs l h)):=rfl
@[simp] theorem isP_nn (n):isP n .non .non=some (false,.bl (!n)):=rfl
@[simp] theorem isP_tn (n):isP n (.tup xs) .non=some (false,.bl n):=rfl
@[simp] theorem isP_ln (n):isP n (.lst xs) .non=some (false,.bl n):=rfl
@[simp] theorem isP_in (n):isP n (.int a) .non=some (false,.bl n):=rfl
@[simp] theorem isP_bn (n c):isP n (.bl c) .non=some (false,.bl n):=rfl
@[simp] theorem isP_bb (n c d):isP n (.bl c) (.bl d)=some (false,.bl (if c == d then !n else n)):=rfl
@[simp] theorem negP_int:negP (.int a)=some (false,.int (-a)):=rfl
@[simp] theorem tyP_ii:tyP .int (.int a)=true:=rfl
@[simp] theorem tyP_bi:tyP .bool (.int a)=false:=rfl
@[simp] theorem tyP_ib (c):tyP .int (.bl c)=true:=rfl
@[simp] theorem tyP_bb (c):tyP .bool (.bl c)=true:=rfl
@[simp] theorem tyP_tt:tyP .tuple (.tup xs)=true:=rfl
@[simp] theorem tyP_tn:tyP .tuple .non=false:=rfl
@[simp] theorem tyP_ti:tyP .tuple (.int a)=false:=rfl
@[simp] theorem rngP_1:rngP [.int a]=if -(2^62)≤a∧a<2^62 then some ((List.range a.toNat).map λi=>.int (i:Nat)) else none:=rfl
@[simp] theorem rngP_2:rngP [.int a,.int b]=some ((List.range (b - a).toNat).map λi=>.int (a+(i:Nat))):=rfl
@[simp] theorem biP_sorted:biP .sorted [.lst xs]=(intsOf xs).bind λis=>if is.length<64 then some (true,.lst ((srtI is).map .int)) else none:=rfl
theorem rngP_n (n:Nat) (h:n≤10000):rngP [.int n]=some ((List.range n).map λi=>.int (i:Nat)):=by
  rw [rngP_1,if_pos (by omega)];simp
@[simp] theorem tupP_T:tupP (.tup xs)=some xs:=rfl
@[simp] theorem seqP_L:seqP (.lst xs)=some xs:=rfl
@[simp] theorem seqP_T:seqP (.tup xs)=some xs:=rfl
end
section
variable (call:Nat→List D→Option R) (σ:En)
@[simp 5000] theorem vE_v (i):evE call σ (.v i)=noOwn (getv σ i):=rfl
@[simp 5000] theorem vE_k (d):evE call σ (.k d)=some (false,d):=rfl
@[simp 5000] theorem vE_bin (o a b):evE call σ (.bin o a b)=match pk σ a (evE call σ a) with
  | none=>none|some x=>match pk σ b (evE call σ b) with|none=>none|some y=>binP o x y:=by
  rw [evE_bin];cases pk σ a (evE call σ a)<;>first|rfl|(cases pk σ b (evE call σ b)<;>rfl)
@[simp 5000] theorem vE_neg (a):evE call σ (.neg a)=match pk σ a (evE call σ a) with|none=>none|some x=>negP x:=by
  rw [evE_neg];cases pk σ a (evE call σ a)<;>rfl
@[simp 5000] theorem vE_cmp (o a b):evE call σ (.cmp o a b)=match pk σ a (evE call σ a) with
  | none=>none|some x=>match pk σ b (evE call σ b) with|none=>none|some y=>cmpP o x y:=by
  rw [evE_cmp];cases pk σ a (evE call σ a)<;>first|rfl|(cases pk σ b (evE call σ b)<;>rfl)
@[simp 5000] theorem vE_isC (n a d):evE call σ (.isC n a d)=match pk σ a (evE call σ a) with|none=>none|some x=>isP n x d:=by
  rw [evE_isC];cases pk σ a (evE call σ a)<;>rfl
@[simp 5000] theorem vE_and (a b):evE call σ (.and a b)=match evE call σ a with
  | none=>none|some (_,.bl c)=>(if c=true then evE call σ b else some (false,.bl false))|some _=>none:=by
  rw [evE_and];rcases evE call σ a with _|⟨x,d⟩<;>first|rfl|(cases d<;>first|rfl|(rename_i c;cases c<;>rfl))
@[simp 5000] theorem vE_or (a b):evE call σ (.or a b)=match evE call σ a with
  | none=>none|some (_,.bl c)=>(if c=true then some (false,.bl true) else evE call σ b)|some _=>none:=by
  rw [evE_or];rcases evE call σ a with _|⟨x,d⟩<;>first|rfl|(cases d<;>first|rfl|(rename_i c;cases c<;>rfl))
@[simp 5000] theorem vE_not (a):evE call σ (.not a)=match evE call σ a with
  | none=>none|some (_,.bl c)=>some (false,.bl (!c))|some _=>none:=by
  rw [evE_not];rcases evE call σ a with _|⟨x,d⟩<;>first|rfl|(cases d<;>rfl)
@[simp 5000] theorem vE_ix (a b):evE call σ (.ix a b)=match pk σ a (evE call σ a) with
  | none=>none|some x=>match pk σ b (evE call σ b) with|none=>none|some y=>ixP x y:=by
  rw [evE_ix];cases pk σ a (evE call σ a)<;>first|rfl|(cases pk σ b (evE call σ b)<;>rfl)
@[simp 5000] theorem vE_sl (a lo hi):evE call σ (.sl a lo hi)=match pk σ a (evE call σ a) with
  | none=>none|some x=>match evO call σ lo with|none=>none|some l=>match evO call σ hi with|none=>none|some h=>slP l h x:=by
  rw [evE_sl];cases pk σ a (evE call σ a)<;>first|rfl|(cases evO call σ lo<;>first|rfl|(cases evO call σ hi<;>rfl))
@[simp 5000] theorem vE_tup (as):evE call σ (.tup as)=match evA call σ as with|none=>none|some xs=>if xs.length≤lim then some (false,.tup xs) else none:=by
  rw [evE_tup];cases evA call σ as<;>rfl
@[simp 5000] theorem vE_lst (as):evE call σ (.lst as)=match evA call σ as with|none=>none|some xs=>if xs.length≤lim then some (true,.lst xs) else none:=by
  rw [evE_lst];cases evA call σ as<;>rfl
@[simp 5000] theorem vE_call (f as):evE call σ (.call f as)=match evG call σ as with|none=>none|some xs=>call f xs:=by
  rw [evE_call];cases evG call σ as<;>rfl
@[simp 5000] theorem vE_inV (n a i):evE call σ (.inV n a i)=match pk σ a (evE call σ a) with|none=>none|some x=>match getv σ i with|none=>none|some y=>inR n x y:=by
  rw [evE_inV];cases pk σ a (evE call σ a)<;>first|rfl|(cases getv σ i<;>rfl)
@[simp 5000] theorem vE_bi (b as):evE call σ (.bi b as)=match evAP call σ as with|none=>none|some xs=>biP b xs:=by
  rw [evE_bi];cases evAP call σ as<;>rfl
@[simp 5000] theorem vE_isi (a t):evE call σ (.isi a t)=match pk σ a (evE call σ a) with|none=>none|some x=>some (false,.bl (tyP t x)):=by
  rw [evE_isi];cases pk σ a (evE call σ a)<;>rfl
@[simp 5000] theorem vE_bitl (a):evE call σ (.bitl a)=match pk σ a (evE call σ a) with|none=>none|some x=>bitP x:=by
  rw [evE_bitl];cases pk σ a (evE call σ a)<;>rfl
@[simp 5000] theorem vE_ifx (c a b):evE call σ (.ifx c a b)=match evE call σ c with
  | none=>none|some (_,.bl t)=>(if t=true then evE call σ a else evE call σ b)|some _=>none:=by
  rw [evE_ifx];rcases evE call σ c with _|⟨x,d⟩<;>first|rfl|(cases d<;>first|rfl|(rename_i c;cases c<;>rfl))
@[simp 5000] theorem vE_chn (o p a b c):evE call σ (.chn o p a b c)=match pk σ a (evE call σ a) with
  | none=>none|some x=>match pk σ b (evE call σ b) with|none=>none|some y=>match cmpP o x y with
    | none=>none|some (_,.bl t)=>(if t=true then (match pk σ c (evE call σ c) with|none=>none|some z=>cmpP p y z) else some (false,.bl false))|some _=>none:=by
  rw [evE_chn]
  cases pk σ a (evE call σ a) with
  | none=>rfl
  | some x =>
    cases pk σ b (evE call σ b) with
    | none=>rfl
    | some y =>
      show (cmpD o x y).bind _=match cmpD o x y with|none=>none|some (_,.bl t)=>_|some _=>none
      rcases cmpD o x y with _|⟨q,d⟩
      · rfl
      · cases d with
        | bl t =>
          cases t with
          | false=>rfl
          | true =>
            show (pk σ c (evE call σ c)).bind _=(if (true:Bool)=true then _ else _)
            rw [if_pos rfl]
            cases pk σ c (evE call σ c)<;>rfl
        | _=>rfl
@[simp 5000] theorem vE_callP (f as ks pl):evE call σ (.callP f as ks pl)=match evA call σ as with
  | none=>none|some xs=>match evA call σ ks with|none=>none|some zs=>match plD xs zs pl with|none=>none|some ds=>call f ds:=by
  rw [evE_callP]
  cases evA call σ as with
  | none=>rfl
  | some xs =>
    cases evA call σ ks with
    | none=>rfl
    | some zs =>
      show (plD xs zs pl).bind _=match plD xs zs pl with|none=>none|some ds=>_
      cases plD xs zs pl<;>rfl
@[simp 5000] theorem vE_rev (a):evE call σ (.rev a)=match pk σ a (evE call σ a) with|none=>none|some x=>revP x:=by
  rw [evE_rev];cases pk σ a (evE call σ a)<;>rfl
@[simp 5000] theorem vE_join (a b):evE call σ (.join a b)=match pk σ a (evE call σ a) with
  | none=>none|some x=>match pk σ b (evE call σ b) with|none=>none|some y=>joinP x y:=by
  rw [evE_join];cases pk σ a (evE call σ a)<;>first|rfl|(cases pk σ b (evE call σ b)<;>rfl)
@[simp 5000] theorem vE_fstr (as):evE call σ (.fstr as)=match evA call σ as with
  | none=>none|some xs=>match strsOf xs with|none=>none|some ts=>match catS PySem.Str.empty ts with|none=>none|some z=>some (false,.str z):=by
  rw [evE_fstr]
  cases evA call σ as with
  | none=>rfl
  | some xs =>
    show (strsOf xs).bind _=match strsOf xs with|none=>none|some ts=>_
    cases strsOf xs with
    | none=>rfl
    | some ts =>
      show (catS PySem.Str.empty ts).map _=match catS PySem.Str.empty ts with|none=>none|some z=>_
      cases catS PySem.Str.empty ts<;>rfl
@[simp 5000] theorem vE_compS (e nl ks tg src):evE call σ (.compS e nl ks tg src)=match evE call σ src with
  | none=>none|some x=>match seqP x.2 with|none=>none|some its=>match evComp call e (capt σ nl ks) tg its with|none=>none|some ys=>some (true,.lst ys):=by
  rw [evE_compS]
  cases evE call σ src with
  | none=>rfl
  | some x => show (seqD x.2).bind _ = match seqD x.2 with | none => none | some its => _
              cases seqD x.2 with
              | none=>rfl
              | some its => show (evComp call e (capt σ nl ks) tg its).bind _ = match evComp call e (capt σ nl ks) tg its with | none => none | some ys => _
                            cases evComp call e (capt σ nl ks) tg its<;>rfl
@[simp 5000] theorem vE_compR (e nl ks tg rs):evE call σ (.compR e nl ks tg rs)=match evAP call σ rs with
  | none=>none|some x=>match rngP x with|none=>none|some its=>if its.length≤lim then (match evComp call e (capt σ nl ks) tg its with|none=>none|some ys=>some (true,.lst ys)) else none:=by
  rw [evE_compR]
  cases evAP call σ rs with
  | none=>rfl
  | some x => show (rngD x).bind _ = match rngD x with | none => none | some its => _
              cases rngD x with
              | none=>rfl
              | some its => show (if its.length ≤ lim then (evComp call e (capt σ nl ks) tg its).bind _ else none) = if its.length ≤ lim then (match evComp call e (capt σ nl ks) tg its with | none => none | some ys => _) else none
                            cases evComp call e (capt σ nl ks) tg its<;>rfl
@[simp 5000] theorem vE_compZ (e nl ks tg a b):evE call σ (.compZ e nl ks tg a b)=match evE call σ a with
  | none=>none|some x=>match evE call σ b with|none=>none|some y=>match seqP x.2 with|none=>none|some xs=>match tupP y.2 with|none=>none|some ys=>match evComp call e (capt σ nl ks) tg (zipD xs ys) with|none=>none|some zs=>some (true,.lst zs):=by
  rw [evE_compZ]
  cases evE call σ a with
  | none=>rfl
  | some x =>
    cases evE call σ b with
    | none=>rfl
    | some y =>
      show (seqD x.2).bind _=match seqD x.2 with|none=>none|some its=>_
      cases seqD x.2 with
      | none=>rfl
      | some xs =>
        show (tupD y.2).bind _=match tupD y.2 with|none=>none|some its=>_
        cases tupD y.2 with
        | none=>rfl
        | some ys =>
          show (evComp call e (capt σ nl ks) tg (zipD xs ys)).bind _=match evComp call e (capt σ nl ks) tg (zipD xs ys) with|none=>none|some ys=>_
          cases evComp call e (capt σ nl ks) tg (zipD xs ys)<;>rfl
@[simp 5000] theorem vE_fld (i j f):evE call σ (.fld i j f)=match getv σ i with|none=>none|some r=>fldR j f r:=by
  rw [evE_fld];cases getv σ i<;>rfl
@[simp 5000] theorem vE_mm (f ns as bs):evE call σ (.mm f ns as bs)=match evA call σ as with|none=>none|some xs=>match evA call σ bs with|none=>none|some ys=>if xs.length=ns.length then call f (.obj ns xs::ys) else none:=by
  rw [evE_mm];cases evA call σ as<;>first|rfl|(cases evA call σ bs<;>rfl)
@[simp 5000] theorem vA_cons (a r):evA call σ (a::r)=match evE call σ a with|none=>none|some x=>match evA call σ r with|none=>none|some xs=>some (x.2::xs):=by
  rw [evA_cons];cases evE call σ a<;>first|rfl|(cases evA call σ r<;>rfl)
theorem inR_int (n:Bool) (k:Int) (m:Bool) (ks:List Int):inR n (.int k) (true,.dct m ks)=some (false,.bl (if n then !(ks.any (· == k)) else ks.any (· == k))):=rfl
@[simp 5000] theorem vG_cons (a r):evG call σ (a::r)=match ag σ a (evE call σ a) with|none=>none|some x=>match evG call σ r with|none=>none|some xs=>some (x::xs):=by
  rw [evG_cons];cases ag σ a (evE call σ a)<;>first|rfl|(cases evG call σ r<;>rfl)
@[simp 5000] theorem vAP_cons (a r):evAP call σ (a::r)=match pk σ a (evE call σ a) with|none=>none|some x=>match evAP call σ r with|none=>none|some xs=>some (x::xs):=by
  rw [evAP_cons];cases pk σ a (evE call σ a)<;>first|rfl|(cases evAP call σ r<;>rfl)
@[simp 5000] theorem vO_some (c):evO call σ (some c)=match pk σ c (evE call σ c) with|none=>none|some x=>oInt x:=by
  rw [evO_some];cases pk σ c (evE call σ c)<;>rfl
variable (rest:List S)
@[simp 5000] theorem vS_nil:evSs call σ []=some (.nx σ):=rfl
@[simp 5000] theorem vS_frz (is):evSs call σ (.frz is::rest)=evSs call (is.foldl frz1 σ) rest:=rfl
@[simp 5000] theorem vS_set (i keep e):evSs call σ (.set i keep e::rest)=match evE call σ e with|none=>none|some r=>evSs call (σ.set i (some (keepR keep r))) rest:=by
  rw [evSs_cons,evS_set];cases evE call σ e<;>rfl
@[simp 5000] theorem vS_setIx (i k e):evSs call σ (.setIx i k e::rest)=match evE call σ e with|none=>none|some x=>match pk σ k (evE call σ k) with|none=>none|some n=>match setIxP σ i n x.2 with|some (.nx σ')=>evSs call σ' rest|some (.rt r)=>some (.rt r)|some (.bk q)=>some (.bk q)|some (.ct q)=>some (.ct q)|none=>none:=by
  rw [evSs_cons,evS_setIx]
  cases evE call σ e with
  | none=>rfl
  | some x =>
    cases pk σ k (evE call σ k) with
    | none=>rfl
    | some n =>
      show (setIxD σ i n x.2).bind _=match setIxD σ i n x.2 with|some (.nx σ')=>_|some (.rt r)=>_|some (.bk q)=>_|some (.ct q)=>_|none=>_
      rcases setIxD σ i n x.2 with _|(_|_|_|_)<;>rfl
@[simp 5000] theorem vS_app (i e):evSs call σ (.app i e::rest)=match evE call σ e with|none=>none|some x=>match appP σ i x.2 with|some (.nx σ')=>evSs call σ' rest|some (.rt r)=>some (.rt r)|some (.bk q)=>some (.bk q)|some (.ct q)=>some (.ct q)|none=>none:=by
  rw [evSs_cons,evS_app]
  cases evE call σ e with
  | none=>rfl
  | some x =>
    show (appD σ i x.2).bind _=match appD σ i x.2 with|some (.nx σ')=>_|some (.rt r)=>_|some (.bk q)=>_|some (.ct q)=>_|none=>_
    rcases appD σ i x.2 with _|(_|_|_|_)<;>rfl
@[simp 5000] theorem vS_ret (e):evSs call σ (.ret e::rest)=match retv σ e (evE call σ e) with|none=>none|some r=>some (.rt r):=by
  rw [evSs_cons,evS_ret];cases retv σ e (evE call σ e)<;>rfl
@[simp 5000] theorem vS_ite (c a b):evSs call σ (.ite c a b::rest)=match evE call σ c with
  | none=>none
  | some (_,.bl t)=>if t=true then (match evSs call σ a with|some (.nx σ')=>evSs call σ' rest|some (.rt r)=>some (.rt r)|some (.bk q)=>some (.bk q)|some (.ct q)=>some (.ct q)|none=>none)
      else (match evSs call σ b with|some (.nx σ')=>evSs call σ' rest|some (.rt r)=>some (.rt r)|some (.bk q)=>some (.bk q)|some (.ct q)=>some (.ct q)|none=>none)
  | some _=>none:=by
  rw [evSs_cons,evS_ite]
  rcases evE call σ c with _|⟨x,d⟩
  · rfl
  · cases d with
    | bl t =>
      cases t with
      | true => show (evSs call σ a).bind _ = match evSs call σ a with | some (.nx σ') => _ | some (.rt r) => _ | some (.bk q) => _ | some (.ct q) => _ | none => _
                rcases evSs call σ a with _|(_|_|_|_)<;>rfl
      | false => show (evSs call σ b).bind _ = match evSs call σ b with | some (.nx σ') => _ | some (.rt r) => _ | some (.bk q) => _ | some (.ct q) => _ | none => _
                 rcases evSs call σ b with _|(_|_|_|_)<;>rfl
    | _=>rfl
noncomputable def aft (o:Option Ou) (k:En→Option Ou):Option Ou:=match o with|some (.nx σ')=>k σ'|some (.rt r)=>some (.rt r)|some (.bk q)=>some (.bk q)|some (.ct q)=>some (.ct q)|none=>none
@[simp] theorem aft_nx (k:En→Option Ou):aft (some (.nx σ)) k=k σ:=rfl
@[simp] theorem aft_rt (r) (k:En→Option Ou):aft (some (.rt r)) k=some (.rt r):=rfl
@[simp 5000] theorem vS_forS (tg src body):evSs call σ (.forS tg src body::rest)=match evE call σ src with|none=>none|some x=>match seqP x.2 with|none=>none|some its=>match evFor call body tg its σ with|some (.nx σ')=>evSs call σ' rest|some (.rt r)=>some (.rt r)|some (.bk q)=>some (.bk q)|some (.ct q)=>some (.ct q)|none=>none:=by
  rw [evSs_cons,evS_forS]
  cases evE call σ src with
  | none=>rfl
  | some x =>
    show ((seqD x.2).bind _).bind _=match seqD x.2 with|none=>none|some its=>_
    cases seqD x.2 with
    | none=>rfl
    | some its =>
      show (evFor call body tg its σ).bind _=match evFor call body tg its σ with|some (.nx σ')=>_|some (.rt r)=>_|some (.bk q)=>_|some (.ct q)=>_|none=>_
      rcases evFor call body tg its σ with _|(_|_|_|_)<;>rfl
@[simp 5000] theorem vS_forR (tg rs body):evSs call σ (.forR tg rs body::rest)=match evAP call σ rs with|none=>none|some x=>match rngP x with|none=>none|some its=>match evFor call body tg its σ with|some (.nx σ')=>evSs call σ' rest|some (.rt r)=>some (.rt r)|some (.bk q)=>some (.bk q)|some (.ct q)=>some (.ct q)|none=>none:=by
  rw [evSs_cons,evS_forR]
  cases evAP call σ rs with
  | none=>rfl
  | some x =>
    show ((rngD x).bind _).bind _=match rngD x with|none=>none|some its=>_
    cases rngD x with
    | none=>rfl
    | some its =>
      show (evFor call body tg its σ).bind _=match evFor call body tg its σ with|some (.nx σ')=>_|some (.rt r)=>_|some (.bk q)=>_|some (.ct q)=>_|none=>_
      rcases evFor call body tg its σ with _|(_|_|_|_)<;>rfl
@[simp 5000] theorem vS_forV (tg rs body):evSs call σ (.forV tg rs body::rest)=match evAP call σ rs with|none=>none|some x=>match rvP x with|none=>none|some its=>match evFor call body tg its σ with|some (.nx σ')=>evSs call σ' rest|some (.rt r)=>some (.rt r)|some (.bk q)=>some (.bk q)|some (.ct q)=>some (.ct q)|none=>none:=by
  rw [evSs_cons,evS_forV]
  cases evAP call σ rs with
  | none=>rfl
  | some x =>
    show ((rvD x).bind _).bind _=match rvD x with|none=>none|some its=>_
    cases rvD x with
    | none=>rfl
    | some its =>
      show (evFor call body tg its σ).bind _=match evFor call body tg its σ with|some (.nx σ')=>_|some (.rt r)=>_|some (.bk q)=>_|some (.ct q)=>_|none=>_
      rcases evFor call body tg its σ with _|(_|_|_|_)<;>rfl
@[simp 5000] theorem vS_brk:evSs call σ (.brk::rest)=some (.bk σ):=rfl
@[simp 5000] theorem vS_cnt:evSs call σ (.cnt::rest)=some (.ct σ):=rfl
@[simp 5000] theorem vS_forZ (tg a b body):evSs call σ (.forZ tg a b body::rest)=match evE call σ a with|none=>none|some x=>match evE call σ b with|none=>none|some y=>match seqP x.2 with|none=>none|some xs=>match tupP y.2 with|none=>none|some ys=>match evFor call body tg (zipD xs ys) σ with|some (.nx σ')=>evSs call σ' rest|some (.rt r)=>some (.rt r)|some (.bk q)=>some (.bk q)|some (.ct q)=>some (.ct q)|none=>none:=by
  rw [evSs_cons,evS_forZ]
  cases evE call σ a with
  | none=>rfl
  | some x =>
    cases evE call σ b with
    | none=>rfl
    | some y =>
      show ((seqD x.2).bind _).bind _=match seqD x.2 with|none=>none|some its=>_
      cases seqD x.2 with
      | none=>rfl
      | some xs =>
        show ((tupD y.2).bind _).bind _=match tupD y.2 with|none=>none|some its=>_
        cases tupD y.2 with
        | none=>rfl
        | some ys =>
          show (evFor call body tg (zipD xs ys) σ).bind _=match evFor call body tg (zipD xs ys) σ with|some (.nx σ')=>_|some (.rt r)=>_|some (.bk q)=>_|some (.ct q)=>_|none=>_
          rcases evFor call body tg (zipD xs ys) σ with _|(_|_|_|_)<;>rfl
theorem appP_own {σ:En}{i:Nat}{xs:List D}{e:D}(h:getv σ i=some (true,.lst xs)) (hl:xs.length<lim):appP σ i e=some (.nx (σ.set i (some (true,.lst (xs++[e]))))):=by
  show appD σ i e=_
  unfold appD;rw [h];simp only;rw [if_pos hl]
section
variable {call:Nat→List D→Option R}{σ:En}{rest:List S}{z:Option Ou}
theorem st_set {i:Nat}{keep:Bool}{e:C}(r:R) (h:evE call σ e=some r) (k:evSs call (σ.set i (some (keepR keep r))) rest=z):evSs call σ (.set i keep e::rest)=z:=by
  rw [vS_set,h];exact k
theorem st_app {i:Nat}{e:C}{xs:List D}(r:R) (h:evE call σ e=some r) (ho:getv σ i=some (true,.lst xs)) (hl:xs.length<lim) (k:evSs call (σ.set i (some (true,.lst (xs++[r.2])))) rest=z):evSs call σ (.app i e::rest)=z:=by
  rw [vS_app,h];show (match appP σ i r.2 with|some (.nx σ')=>evSs call σ' rest|some (.rt r)=>some (.rt r)|some (.bk q)=>some (.bk q)|some (.ct q)=>some (.ct q)|none=>none)=z
  rw [appP_own ho hl];exact k
theorem st_F {c:C}{a b:List S}{x:Bool}{σ':En}(h:evE call σ c=some (x,.bl false)) (ha:evSs call σ b=some (.nx σ')) (k:evSs call σ' rest=z):evSs call σ (.ite c a b::rest)=z:=by
  rw [vS_ite,h];simp only [Bool.false_eq_true,if_false];rw [ha];exact k
theorem st_skip {c:C}{a:List S}{x:Bool}(h:evE call σ c=some (x,.bl false)) (k:evSs call σ rest=z):evSs call σ (.ite c a []::rest)=z:=st_F h rfl k
theorem st_TR {c:C}{a b:List S}{x:Bool}{r:R}(h:evE call σ c=some (x,.bl true)) (ha:evSs call σ a=some (.rt r)) (k:some (.rt r)=z):evSs call σ (.ite c a b::rest)=z:=by
  rw [vS_ite,h];simp only [if_true];rw [ha];exact k
theorem st_forR {tg:Tg}{rs:List C}{body:List S}{ds its:List D}{σ':En}(h:evAP call σ rs=some ds) (hr:rngP ds=some its) (hf:evFor call body tg its σ=some (.nx σ')) (k:evSs call σ' rest=z):evSs call σ (.forR tg rs body::rest)=z:=by
  rw [vS_forR,h];simp only;rw [hr];simp only;rw [hf];exact k
theorem st_forS {tg:Tg}{src:C}{body:List S}{r:R}{its:List D}{σ':En}(h:evE call σ src=some r) (hr:seqP r.2=some its) (hf:evFor call body tg its σ=some (.nx σ')) (k:evSs call σ' rest=z):evSs call σ (.forS tg src body::rest)=z:=by
  rw [vS_forS,h];simp only;rw [hr];simp only;rw [hf];exact k
theorem st_ret {e:C}{r:R}(h:retv σ e (evE call σ e)=some r) (k:some (.rt r)=z):evSs call σ (.ret e::rest)=z:=by
  rw [vS_ret,h];exact k
theorem e_compS {e:C}{nl:Nat}{ks:List Nat}{tg:Tg}{src:C}{r:R}{its ys:List D}{σ':En}(h:evE call σ src=some r) (hr:seqP r.2=some its) (hc:capt σ nl ks=σ') (hf:evComp call e σ' tg its=some ys):evE call σ (.compS e nl ks tg src)=some (true,.lst ys):=by
  subst hc
  rw [vE_compS,h];simp only;rw [hr];simp only;rw [hf]
end
end
theorem call_rt {tab:List Fd}{f:Nat}{fd:Fd}{as:List D}{n:Nat}{r:R}{σ:En}(h:tab[f]?=some fd) (hl:as.length=fd.np) (hσ:agE false as++List.replicate (fd.ns - fd.np) none=σ) (hb:evSs (callN tab n) σ fd.body=some (.rt r)) (hx:isX r=false:=by rfl):callN tab (n+1) f as=some r:=by
  subst hσ
  rw [callN_at h,runF,runX,if_pos hl,hb]
  simp [hx]
theorem call_xt {tab:List Fd}{f:Nat}{fd:Fd}{as:List D}{n:Nat}{r:R}{σ:En}(h:tab[f]?=some fd) (ht:tab.length≤XO) (hl:as.length=fd.np) (hσ:agE false as++List.replicate (fd.ns - fd.np) none=σ) (hb:evSs (callN tab n) σ fd.body=some (.rt r)):callN tab (n+1) (f+XO) as=some r:=by
  subst hσ
  rw [callX_at h ht,runX,if_pos hl,hb]
  rfl
end Dw
namespace Dw.T
open Dw
section
variable {call:Nat→List D→Option R}{body:List S}{tg:Tg}
theorem evFor_inv (I:Nat→En→Prop):∀(its:List D) (a:Nat) (σ:En),I a σ →
    (∀(k:Nat) (d:D) (σ:En),its[k]?=some d→I (a+k) σ→∃σ1 σ2,bindT σ tg d=some σ1∧evSs call σ1 body=some (.nx σ2)∧I (a+k+1) σ2) →
    ∃σ',evFor call body tg its σ=some (.nx σ')∧I (a+its.length) σ'
  | [],a,σ,h,_=>⟨σ,rfl,by simpa using h⟩
  | d::r,a,σ,h,st=>by
    obtain⟨σ1,σ2,h1,h2,h3⟩:=st 0 d σ rfl (by simpa using h)
    obtain⟨σ',e,h'⟩:=evFor_inv I r (a+1) σ2 (by simpa using h3) λk d σ hk hi=>by
      have:=st (k+1) d σ (by simpa using hk) (by rw [show a+(k+1)=a+1+k by omega];exact hi)
      rw [show a+(k+1)+1=a+1+k+1 by omega] at this
      exact this
    refine⟨σ',?_,?_⟩
    · rw [evFor_cons,h1];simp [h2,e]
    · rw [show a+(d::r).length=a+1+r.length by simp;omega];exact h'
theorem evFor_rng (I:Nat→En→Prop) (m:Nat) (f:Nat→D) (σ:En) (h:I 0 σ)
    (st:∀(k:Nat) (σ:En),k<m→I k σ→∃σ1 σ2,bindT σ tg (f k)=some σ1∧evSs call σ1 body=some (.nx σ2)∧I (k+1) σ2) :
    ∃σ',evFor call body tg ((List.range m).map f) σ=some (.nx σ')∧I m σ':=by
  obtain⟨σ',e,h'⟩:=evFor_inv (call:=call) (body:=body) (tg:=tg) I ((List.range m).map f) 0 σ h λk d σ hk hi=>by
    rw [List.getElem?_map] at hk
    cases q:(List.range m)[k]? with
    | none=>rw [q] at hk;cases hk
    | some j =>
      rw [q] at hk
      obtain⟨hl,ej⟩:=List.getElem?_eq_some_iff.mp q
      simp at hl ej
      subst ej
      cases hk
      simpa using st k σ hl (by simpa using hi)
  exact⟨σ',e,by simpa using h'⟩
theorem evFor_any {α:Type}(p:α→Bool) (r:R) (enc:α→D) (I:En→Prop):∀(l:List α) (σ:En),I σ →
    (∀x∈l,∀σ,I σ→∃σ1,bindT σ tg (enc x)=some σ1∧((p x=true→evSs call σ1 body=some (.rt r))∧(p x=false→∃σ2,evSs call σ1 body=some (.nx σ2)∧I σ2))) →
    (l.any p=true→evFor call body tg (l.map enc) σ=some (.rt r))∧(l.any p=false→∃σ',evFor call body tg (l.map enc) σ=some (.nx σ')∧I σ')
  | [],σ,h,_=>⟨λz=>by simp at z,λ_=>⟨σ,rfl,h⟩⟩
  | x::l,σ,h,st=>by
    obtain⟨σ1,h1,h2,h3⟩:=st x List.mem_cons_self σ h
    cases hp:p x with
    | true=>exact⟨λ_=>by rw [List.map_cons,evFor_cons,h1];simp [h2 hp],λz=>by simp [hp] at z⟩
    | false =>
      obtain⟨σ2,h4,h5⟩:=h3 hp
      obtain⟨i1,i2⟩:=evFor_any p r enc I l σ2 h5 λy hy=>st y (List.mem_cons_of_mem _ hy)
      constructor
      · intro z
        simp [hp] at z
        rw [List.map_cons,evFor_cons,h1]
        simp [h4]
        exact i1 (by simpa using z)
      · intro z
        simp [hp] at z
        obtain⟨σ',e,h'⟩:=i2 (by simpa using z)
        exact⟨σ',by rw [List.map_cons,evFor_cons,h1];simp [h4,e],h'⟩
end
noncomputable def bx (m:Nat) (f:Nat→D):List D:=(List.range m).map f
@[simp] theorem bx_length (m f):(bx m f).length=m:=by simp [bx]
noncomputable abbrev P2:=Int×Int
noncomputable def side (p:P2):D:=.tup [.int p.1,.int p.2]
section
variable {call:Nat→List D→Option R}{σ:En}
theorem e_cmp {o:COp}{a b:C}{x y:D}{r:Option R}(ha:pk σ a (evE call σ a)=some x) (hb:pk σ b (evE call σ b)=some y) (h:cmpP o x y=r):evE call σ (.cmp o a b)=r:=by
  rw [vE_cmp,ha];simp only;rw [hb];exact h
theorem e_bi1 {o:BI}{a:C}{x:D}{r:Option R}(ha:pk σ a (evE call σ a)=some x) (h:biP o [x]=r):evE call σ (.bi o [a])=r:=by
  rw [vE_bi,vAP_cons,ha];exact h
theorem pk_compS {e nl ks tg rs}{r:R}(h:evE call σ (.compS e nl ks tg rs)=some r):pk σ (.compS e nl ks tg rs) (evE call σ (.compS e nl ks tg rs))=some r.2:=by rw [h];rfl
theorem pk_bi {o as}{r:R}(h:evE call σ (.bi o as)=some r):pk σ (.bi o as) (evE call σ (.bi o as))=some r.2:=by rw [h];rfl
theorem pk_ix {a b}{r:R}(h:evE call σ (.ix a b)=some r):pk σ (.ix a b) (evE call σ (.ix a b))=some r.2:=by rw [h];rfl
theorem pk_tup {a}{r:R}(h:evE call σ (.tup a)=some r):pk σ (.tup a) (evE call σ (.tup a))=some r.2:=by rw [h];rfl
theorem e_ix {a b:C}{x y:D}{r:Option R}(ha:pk σ a (evE call σ a)=some x) (hb:pk σ b (evE call σ b)=some y) (h:ixP x y=r):evE call σ (.ix a b)=r:=by
  rw [vE_ix,ha];simp only;rw [hb];exact h
theorem e_isC {n:Bool}{a:C}{x d:D}{r:Option R}(ha:pk σ a (evE call σ a)=some x) (h:isP n x d=r):evE call σ (.isC n a d)=r:=by
  rw [vE_isC,ha];exact h
theorem e_andF {a b:C}{x:Bool}(ha:evE call σ a=some (x,.bl false)):evE call σ (.and a b)=some (false,.bl false):=by
  rw [vE_and,ha];rfl
theorem e_andT {a b:C}{x:Bool}{r:Option R}(ha:evE call σ a=some (x,.bl true)) (hb:evE call σ b=r):evE call σ (.and a b)=r:=by
  rw [vE_and,ha];exact hb
theorem e_and {a b:C}{x y:Bool}{p q:Bool}(ha:evE call σ a=some (x,.bl p)) (hb:evE call σ b=some (false,.bl q)):evE call σ (.and a b)=some (false,.bl (p&&q)):=by
  cases p with
  | true=>exact e_andT ha hb
  | false=>exact e_andF ha
theorem e_compZ {e:C}{nl:Nat}{ks:List Nat}{tg:Tg}{a b:C}{x y:R}{xs ys zs:List D}{σ':En}(ha:evE call σ a=some x) (hb:evE call σ b=some y) (hx:seqP x.2=some xs) (hy:tupP y.2=some ys) (hc:capt σ nl ks=σ') (hf:evComp call e σ' tg (zipD xs ys)=some zs):evE call σ (.compZ e nl ks tg a b)=some (true,.lst zs):=by
  subst hc
  rw [vE_compZ,ha];simp only;rw [hb];simp only;rw [hx];simp only;rw [hy];simp only;rw [hf]
end
section
variable {call:Nat→List D→Option R}{σ:En}{rest:List S}{z:Option Ou}
theorem rng_le {m:Nat}(hs:m≤10000):rngP [.int (m:Int)]=some ((List.range m).map λi=>.int (i:Nat)):=rngP_n m hs
end
section
variable {call:Nat→List D→Option R}{σ:En}
theorem evFor_all {α:Type}{tg:Tg}{body:List S}(enc:α→D) (I:En→Prop) (l:List α) (σ:En) (h:I σ)
    (st:∀x∈l,∀σ,I σ→∃σ1 σ2,bindT σ tg (enc x)=some σ1∧evSs call σ1 body=some (.nx σ2)∧I σ2) :
    ∃σ',evFor call body tg (l.map enc) σ=some (.nx σ')∧I σ':=
  (evFor_any (call:=call) (tg:=tg) (body:=body) (λ_=>false) (false,.non) enc I l σ h λx hx σ hσ=>by
    obtain⟨σ1,σ2,a,b,c⟩:=st x hx σ hσ
    exact⟨σ1,a,⟨λz=>Bool.noConfusion z,λ_=>⟨σ2,b,c⟩⟩⟩).2 (by simp)
end
end Dw.T
namespace Dw.T
open Dw
noncomputable def ntS:PySem.Str:=PySem.Str.ofString "NoThing"
noncomputable def pl:D→Bool
  | .dct _ _=>false
  | .obj _ _=>false
  | .exc _=>false
  | _=>true
theorem ag_pl {d:D}(h:pl d=true) (ds:List D):agE false (d::ds)=some (false,d)::agE false ds:=by
  cases d<;>first|rfl|cases h
noncomputable def B30:Int:=1000000000000000000000000000000
noncomputable def B15:Int:=1000000000000000
noncomputable def B18:Int:=1000000000000000000
noncomputable def num (d:D) (lo hi:Int):Bool:=match d with
  | .int i=>decide (lo≤i)&&decide (i≤hi)
  | _=>false
noncomputable def sid (d:D):Bool:=match d with
  | .tup [.int x,.int y]=>(num (.int x) (-B30) B30&&num (.int y) (-B30) B30)&&decide (x≤y)
  | _=>false
noncomputable def box (d:D):Bool:=match d with
  | .tup xs=>(xs.length == 2||xs.length == 3)&&xs.all sid
  | _=>false
noncomputable def spd (d:D) (n:Nat):Bool:=match d with
  | .tup xs=>xs.length == n&&xs.all λx=>num x (-B15) B15
  | _=>false
noncomputable def lenD:D→Nat
  | .tup xs=>xs.length
  | _=>0
section
variable {call:Nat→List D→Option R}{σ:En}
theorem e_call1 {f:Nat}{a:C}{d:D}{r:Option R}(h:ag σ a (evE call σ a)=some d) (hc:call f [d]=r):evE call σ (.call f [a])=r:=by
  rw [evE_call,evG_cons,h,Option.bind_some,evG_nil,Option.bind_some,Option.bind_some]
  exact hc
theorem e_call2 {f:Nat}{a b:C}{x y:D}{r:Option R}(ha:ag σ a (evE call σ a)=some x) (hb:ag σ b (evE call σ b)=some y) (hc:call f [x,y]=r):evE call σ (.call f [a,b])=r:=by
  rw [evE_call,evG_cons,ha,Option.bind_some,evG_cons,hb,Option.bind_some,evG_nil,Option.bind_some,Option.bind_some,Option.bind_some]
  exact hc
theorem e_call3 {f:Nat}{a b c:C}{x y w:D}{r:Option R}(ha:ag σ a (evE call σ a)=some x) (hb:ag σ b (evE call σ b)=some y) (hw:ag σ c (evE call σ c)=some w) (hc:call f [x,y,w]=r):evE call σ (.call f [a,b,c])=r:=by
  rw [evE_call,evG_cons,ha,Option.bind_some,evG_cons,hb,Option.bind_some,evG_cons,hw,Option.bind_some,evG_nil,Option.bind_some,Option.bind_some,Option.bind_some,Option.bind_some]
  exact hc
theorem e_or {a b:C}{x y:Bool}{p q:Bool}(ha:evE call σ a=some (x,.bl p)) (hb:evE call σ b=some (false,.bl q)):evE call σ (.or a b)=some (false,.bl (p||q)):=by
  rw [vE_or,ha]
  cases p with
  | true=>rfl
  | false=>exact hb
theorem e_not {a:C}{x b:Bool}(h:evE call σ a=some (x,.bl b)):evE call σ (.not a)=some (false,.bl (!b)):=by
  rw [vE_not,h]
theorem t_num (d:D) (lo hi:Int) (h:pl d=true):evSs call [some (false,d),some (false,.int lo),some (false,.int hi)] f_is_number.body=some (.rt (false,.bl (num d lo hi))):=by
  refine st_ret (r:=(false,.bl (num d lo hi))) ?_ rfl
  cases d with
  | int i =>
    by_cases h1:lo≤i
    · have h1':decide (lo≤i)=true:=decide_eq_true h1
      simp only [vS_nil,vS_frz,vS_set,vS_setIx,vS_app,vS_ret,vS_ite,vS_forS,vS_forR,vS_forV,vS_brk,vS_cnt,vS_forZ,vE_v,vE_k,vE_bin,vE_neg,vE_cmp,vE_isC,vE_and,vE_or,vE_not,vE_ix,vE_sl,vE_tup,vE_lst,vE_call,vE_bi,vE_isi,vE_bitl,vE_ifx,vE_chn,vE_callP,vE_rev,vE_join,vE_fstr,vE_compS,vE_compR,vE_compZ,vA_cons,evA_nil,vAP_cons,evAP_nil,evO_none,vO_some,noOwn,getv,pk,retv,keepR,capt,Bool.false_and,Bool.true_and,Bool.and_true,Bool.and_false,Bool.or_true,Bool.true_or,Bool.or_false,Bool.false_or,Bool.not_true,Bool.not_false,List.map_cons,List.map_nil,List.set_cons_zero,List.set_cons_succ,List.getElem?_cons_zero,List.getElem?_cons_succ,Option.join_some,Option.map_some,binP_add,binP_sub,binP_mul,binP_fdiv,binP_mod,binP_pow,binP_shl,binP_shr,binP_band,binP_bor,binP_bxor,binP_addN,binP_addT,cmpP_eqI,cmpP_neI,cmpP_eqB,cmpP_neB,cmpP_lt,cmpP_le,cmpP_gt,cmpP_ge,biP_lenT,biP_lenL,biP_abs,biP_min,biP_max,biP_max3,bitP_int,biP_any,revP_T,slP_T,biP_sum,biP_all,biP_tupL,biP_tupT,biP_lstL,biP_lstT,biP_intB,biP_intI,ixP_L,ixP_T,ixQ_0,ixQ_1,ixQ_2,ixQ_3,slP_L,isP_nn,isP_tn,isP_ln,isP_in,isP_bn,isP_bb,negP_int,tyP_ii,tyP_bi,tyP_ib,tyP_bb,tyP_tt,tyP_tn,tyP_ti,oInt,seqP_L,seqP_T,tupP_T,List.length_cons,List.length_nil,List.nil_append,List.cons_append,List.replicate_succ,List.replicate_zero,Nat.reduceSub,Nat.reduceAdd,Nat.reduceLeDiff,Nat.reduceMul,lim0,lim1,lim2,lim3,lim4,lim6,reduceCtorEq,↓reduceIte,if_true,if_false,ite_true,ite_false,List.foldl_cons,List.foldl_nil,frz1,vG_cons,evG_nil,ag,agR,pkR,rtR,Option.bind_some,vE_inV,inR_int,num,h1',Bool.true_and]
    · have h1':decide (lo≤i)=false:=decide_eq_false h1
      simp only [vS_nil,vS_frz,vS_set,vS_setIx,vS_app,vS_ret,vS_ite,vS_forS,vS_forR,vS_forV,vS_brk,vS_cnt,vS_forZ,vE_v,vE_k,vE_bin,vE_neg,vE_cmp,vE_isC,vE_and,vE_or,vE_not,vE_ix,vE_sl,vE_tup,vE_lst,vE_call,vE_bi,vE_isi,vE_bitl,vE_ifx,vE_chn,vE_callP,vE_rev,vE_join,vE_fstr,vE_compS,vE_compR,vE_compZ,vA_cons,evA_nil,vAP_cons,evAP_nil,evO_none,vO_some,noOwn,getv,pk,retv,keepR,capt,Bool.false_and,Bool.true_and,Bool.and_true,Bool.and_false,Bool.or_true,Bool.true_or,Bool.or_false,Bool.false_or,Bool.not_true,Bool.not_false,List.map_cons,List.map_nil,List.set_cons_zero,List.set_cons_succ,List.getElem?_cons_zero,List.getElem?_cons_succ,Option.join_some,Option.map_some,binP_add,binP_sub,binP_mul,binP_fdiv,binP_mod,binP_pow,binP_shl,binP_shr,binP_band,binP_bor,binP_bxor,binP_addN,binP_addT,cmpP_eqI,cmpP_neI,cmpP_eqB,cmpP_neB,cmpP_lt,cmpP_le,cmpP_gt,cmpP_ge,biP_lenT,biP_lenL,biP_abs,biP_min,biP_max,biP_max3,bitP_int,biP_any,revP_T,slP_T,biP_sum,biP_all,biP_tupL,biP_tupT,biP_lstL,biP_lstT,biP_intB,biP_intI,ixP_L,ixP_T,ixQ_0,ixQ_1,ixQ_2,ixQ_3,slP_L,isP_nn,isP_tn,isP_ln,isP_in,isP_bn,isP_bb,negP_int,tyP_ii,tyP_bi,tyP_ib,tyP_bb,tyP_tt,tyP_tn,tyP_ti,oInt,seqP_L,seqP_T,tupP_T,List.length_cons,List.length_nil,List.nil_append,List.cons_append,List.replicate_succ,List.replicate_zero,Nat.reduceSub,Nat.reduceAdd,Nat.reduceLeDiff,Nat.reduceMul,lim0,lim1,lim2,lim3,lim4,lim6,reduceCtorEq,↓reduceIte,if_true,if_false,ite_true,ite_false,List.foldl_cons,List.foldl_nil,frz1,vG_cons,evG_nil,ag,agR,pkR,rtR,Option.bind_some,vE_inV,inR_int,num,h1',Bool.false_and]
  | dct _ _=>cases h
  | obj _ _=>cases h
  | exc _=>cases h
  | _=>rfl
end
theorem c_num (n:Nat) (d:D) (lo hi:Int) (h:pl d=true):callN tab (n+1) 2 [d,.int lo,.int hi]=some (false,.bl (num d lo hi)):=
  call_rt t2 rfl (by rw [ag_pl h];rfl) (t_num d lo hi h)
end Dw.T
namespace Dw.T
open Dw
section
variable {call:Nat→List D→Option R}{σ:En}
theorem all_bl {α:Type}(f:α→Bool) (l:List α):biP .all [.lst (l.map λx=>.bl (f x))]=some (false,.bl (l.all f)):=by
  rw [biP_all,blsOf_map]
  show some (false,D.bl ((l.map f).all id))=_
  rw [List.all_map]
  rfl
theorem ag_v {d:D}{i:Nat}(hi:getv σ i=some (false,d)):ag σ (.v i) (evE call σ (.v i))=some d:=by
  show (getv σ i).bind agR=_
  rw [hi]
  rfl
theorem e_all {e:C}{xs:List D}{f:D→Bool}(hv:evE call σ (.v 0)=some (false,.tup xs)) (h:∀x∈xs,evE call [some (false,x)] e=some (false,.bl (f x))):evE call σ (.bi .all [.compS e 1 [] (.one 0) (.v 0)])=some (false,.bl (xs.all f)):=by
  have hm:=evComp_map call [none] (e:=e) (tg:=.one 0) (λx:D=>x) (λx=>.bl (f x)) xs λx hx=>⟨[some (false,x)],false,rfl,h x hx⟩
  rw [List.map_id'] at hm
  have hc:=e_compS (call:=call) (σ:=σ) (e:=e) (nl:=1) (ks:=[]) (tg:=.one 0) (src:=.v 0) (r:=(false,.tup xs)) hv rfl rfl hm
  exact e_bi1 (pk_compS hc) (all_bl f xs)
noncomputable def pls:D→Bool
  | .tup xs=>xs.all pl
  | d=>pl d
theorem sid_no {a b:D}(h:(num a (-B30) B30&&num b (-B30) B30)=false):sid (.tup [a,b])=false:=by
  cases a<;>cases b<;>first|rfl|(rename_i x y;show ((num (.int x) (-B30) B30&&num (.int y) (-B30) B30)&&decide (x≤y))=false;rw [h];rfl)
theorem sid_yes {a b:D}(h:(num a (-B30) B30&&num b (-B30) B30)=true):∃x y:Int,a=.int x∧b=.int y∧sid (.tup [a,b])=decide (x≤y):=by
  cases a<;>cases b<;>first|cases h|skip
  all_goals first
    | (rename_i x y;exact⟨x,y,rfl,rfl,by show ((num (.int x) (-B30) B30&&num (.int y) (-B30) B30)&&decide (x≤y))=_;rw [h];rfl⟩)
    | (simp [num] at h)
theorem t_side (N:∀(d:D) (lo hi:Int),pl d=true→call 2 [d,.int lo,.int hi]=some (false,.bl (num d lo hi))) (d:D) (h:pl d=true) (hs:pls d=true):evSs call [some (false,d)] f_is_side.body=some (.rt (false,.bl (sid d))):=by
  have no:tyP .tuple d=false→sid d=false→evSs call [some (false,d)] f_is_side.body=some (.rt (false,.bl (sid d))):=λh1 h2=>by
    rw [h2]
    refine st_TR (x:=false) (r:=(false,.bl false)) ?_ (st_ret (r:=(false,.bl false)) rfl rfl) rfl
    cases d<;>first|rfl|cases h1
  cases d with
  | tup xs =>
    have e2:evE call [some (false,.tup xs)] (.or (.not (.isi (.v 0) .tuple)) (.cmp .ne (.bi .len [(.v 0)]) (.k (.int 2))))=some (false,.bl (!(((xs.length:Nat):Int) == 2))):=
      e_or (x:=false) (y:=false) (p:=false) rfl (e_cmp (x:=.int ((xs.length:Nat):Int)) rfl rfl rfl)
    by_cases hl:xs.length=2
    · obtain⟨a,b,rfl⟩:∃a b,xs=[a,b]:=by
        match xs,hl with
        | [a,b],_=>exact⟨a,b,rfl⟩
      have hp:∀x∈[a,b],pl x=true:=by
        intro x hx
        exact List.all_eq_true.mp (show [a,b].all pl=true from hs) x hx
      refine st_skip (x:=false) e2 ?_
      have ea:=e_all (call:=call) (σ:=[some (false,.tup [a,b])]) (e:=(.call 2 [(.v 0),(.neg (.k (.int 1000000000000000000000000000000))),(.k (.int 1000000000000000000000000000000))])) (f:=λx=>num x (-B30) B30) rfl λx hx=>e_call3 (ag_v rfl) rfl rfl (N x (-B30) B30 (hp x hx))
      rw [show [a,b].all (λx=>num x (-B30) B30)=(num a (-B30) B30&&num b (-B30) B30) by simp] at ea
      cases hn:(num a (-B30) B30&&num b (-B30) B30) with
      | false =>
        rw [hn] at ea
        rw [sid_no hn]
        exact st_ret (r:=(false,.bl false)) (e_andF ea) rfl
      | true =>
        rw [hn] at ea
        obtain⟨x,y,rfl,rfl,e⟩:=sid_yes hn
        rw [e]
        exact st_ret (r:=(false,.bl (decide (x≤y)))) (e_andT ea (e_cmp (pk_ix (e_ix rfl rfl rfl)) (pk_ix (e_ix rfl rfl rfl)) rfl)) rfl
    · have hf:(((xs.length:Nat):Int) == 2)=false:=by rw [beq_eq_false_iff_ne];omega
      rw [hf] at e2
      have hsid:sid (.tup xs)=false:=by
        match xs,hl with
        | [],_=>rfl
        | [a],_=>cases a<;>rfl
        | a::b::c::r,_=>cases a<;>cases b<;>rfl
        | [a,b],hl=>exact absurd rfl hl
      rw [hsid]
      exact st_TR (x:=false) (r:=(false,.bl false)) e2 (st_ret (r:=(false,.bl false)) rfl rfl) rfl
  | dct _ _=>cases h
  | obj _ _=>cases h
  | exc _=>cases h
  | _=>exact no rfl rfl
end
end Dw.T
namespace Dw.T
open Dw
noncomputable def pb:D→Bool
  | .tup xs=>xs.all λx=>pl x&&pls x
  | d=>pl d
section
variable {call:Nat→List D→Option R}{σ:En}
theorem in23 (n:Nat):cmpP .isin (.int (n:Int)) (.tup [.int 2,.int 3])=some (false,.bl (n == 2||n == 3)):=by
  have h:∀k:Nat,(((n:Int)) == ((k:Nat):Int))=(n == k):=λk=>by
    rw [Bool.eq_iff_iff,beq_iff_eq,beq_iff_eq];omega
  have h2:=h 2
  have h3:=h 3
  show some (false,D.bl _)=_
  simp only [Option.some.injEq,Prod.mk.injEq,true_and,D.bl.injEq]
  rw [←h2,←h3]
  simp [eqD]
  rw [BEq.comm (a:=(2:Int)),BEq.comm (a:=(3:Int))]
theorem t_box (N:∀d:D,pl d=true→pls d=true→call 3 [d]=some (false,.bl (sid d))) (d:D) (h:pl d=true) (hs:pb d=true):evSs call [some (false,d)] f_is_box.body=some (.rt (false,.bl (box d))):=by
  cases d with
  | tup xs =>
    have hp:∀x∈xs,pl x=true∧pls x=true:=λx hx=>by
      have:=List.all_eq_true.mp (show xs.all (λx=>pl x&&pls x)=true from hs) x hx
      simpa using this
    have ea:=e_all (call:=call) (σ:=[some (false,.tup xs)]) (e:=(.call 3 [(.v 0)])) (f:=sid) rfl λx hx=>e_call1 (ag_v rfl) (N x (hp x hx).1 (hp x hx).2)
    exact st_ret (r:=(false,.bl (box (.tup xs)))) (e_andT (x:=false) rfl (e_and (x:=false) (y:=false) (e_cmp (x:=.int ((xs.length:Nat):Int)) rfl rfl (in23 xs.length)) ea)) rfl
  | dct _ _=>cases h
  | obj _ _=>cases h
  | exc _=>cases h
  | _=>exact st_ret (r:=(false,.bl false)) rfl rfl
theorem t_spd (N:∀(d:D) (lo hi:Int),pl d=true→call 2 [d,.int lo,.int hi]=some (false,.bl (num d lo hi))) (d:D) (n:Nat) (h:pl d=true) (hs:pls d=true):evSs call [some (false,d),some (false,.int (n:Int))] f_are_speeds.body=some (.rt (false,.bl (spd d n))):=by
  cases d with
  | tup xs =>
    have hp:∀x∈xs,pl x=true:=List.all_eq_true.mp (show xs.all pl=true from hs)
    have e2:evE call [some (false,.tup xs),some (false,.int (n:Int))] (.or (.not (.isi (.v 0) .tuple)) (.cmp .ne (.bi .len [(.v 0)]) (.v 1)))=some (false,.bl (!(((xs.length:Nat):Int) == (n:Int)))):=
      e_or (x:=false) (y:=false) (p:=false) rfl (e_cmp (x:=.int ((xs.length:Nat):Int)) rfl rfl rfl)
    have el:(((xs.length:Nat):Int) == (n:Int))=(xs.length == n):=by rw [Bool.eq_iff_iff,beq_iff_eq,beq_iff_eq];omega
    rw [el] at e2
    have ea:=e_all (call:=call) (σ:=[some (false,.tup xs),some (false,.int (n:Int))]) (e:=(.call 2 [(.v 0),(.neg (.k (.int 1000000000000000))),(.k (.int 1000000000000000))])) (f:=λx=>num x (-B15) B15) rfl λx hx=>e_call3 (ag_v rfl) rfl rfl (N x (-B15) B15 (hp x hx))
    show _=some (Ou.rt (false,D.bl (xs.length == n&&xs.all λx=>num x (-B15) B15)))
    cases hl:xs.length == n with
    | true =>
      rw [hl] at e2
      exact st_skip (x:=false) e2 (st_ret (r:=(false,.bl (xs.all λx=>num x (-B15) B15))) ea rfl)
    | false =>
      rw [hl] at e2
      exact st_TR (x:=false) (r:=(false,.bl false)) e2 (st_ret (r:=(false,.bl false)) rfl rfl) rfl
  | dct _ _=>cases h
  | obj _ _=>cases h
  | exc _=>cases h
  | _=>exact st_TR (x:=false) (r:=(false,.bl false)) rfl (st_ret (r:=(false,.bl false)) rfl rfl) rfl
noncomputable def bad (a b s m w:D):Bool:=!num a 0 B18||(!box b||((!eqD s .non&&!spd s (lenD b))||(!num m 0 65535||!num w (-B30) B30)))
theorem isn (s:D) (h:pl s=true):isP true s .non=some (false,.bl (!eqD s .non)):=by
  cases s<;>first|rfl|cases h
theorem t_mk (a b s m w:D) (ha:pl a=true) (hb:pl b=true) (hs:pl s=true) (hm:pl m=true) (hw:pl w=true) (N:∀(d:D) (lo hi:Int),pl d=true→call 2 [d,.int lo,.int hi]=some (false,.bl (num d lo hi))) (C4:call 4 [b]=some (false,.bl (box b))) (C5:∀n:Nat,call 5 [s,.int (n:Int)]=some (false,.bl (spd s n)))
    (hbad:bad a b s m w=true):evSs call [some (false,a),some (false,b),some (false,s),some (false,m),some (false,w),none] f_make_thing.body=some (.rt (false,.exc ntS)):=by
  have e1:=e_not (e_call3 (call:=call) (σ:=[some (false,a),some (false,b),some (false,s),some (false,m),some (false,w),none]) (a:=.v 0) (b:=.k (.int 0)) (c:=.k (.int 1000000000000000000)) (ag_v rfl) rfl rfl (N a 0 B18 ha))
  have e2:=e_not (e_call1 (call:=call) (σ:=[some (false,a),some (false,b),some (false,s),some (false,m),some (false,w),none]) (a:=.v 1) (ag_v rfl) C4)
  have e4:=e_not (e_call3 (call:=call) (σ:=[some (false,a),some (false,b),some (false,s),some (false,m),some (false,w),none]) (a:=.v 3) (b:=.k (.int 0)) (c:=.k (.int 65535)) (ag_v rfl) rfl rfl (N m 0 65535 hm))
  have e5:=e_not (e_call3 (call:=call) (σ:=[some (false,a),some (false,b),some (false,s),some (false,m),some (false,w),none]) (a:=.v 4) (b:=.neg (.k (.int 1000000000000000000000000000000))) (c:=.k (.int 1000000000000000000000000000000)) (ag_v rfl) rfl rfl (N w (-B30) B30 hw))
  unfold bad at hbad
  have stop:∀{c:C} {rest:List S},evE call [some (false,a),some (false,b),some (false,s),some (false,m),some (false,w),none] c=some (false,.bl true)→evSs call [some (false,a),some (false,b),some (false,s),some (false,m),some (false,w),none] (.ite c [.rse ntS] []::rest)=some (.rt (false,.exc ntS)):=λhc=>st_TR (x:=false) (r:=(false,.exc ntS)) hc rfl rfl
  cases h1:num a 0 B18 with
  | false=>rw [h1] at e1;exact stop e1
  | true =>
    rw [h1] at e1 hbad
    refine st_skip (x:=false) e1 ?_
    cases h2:box b with
    | false=>rw [h2] at e2;exact stop e2
    | true =>
      rw [h2] at e2 hbad
      refine st_skip (x:=false) e2 ?_
      have hbt:∃xs,b=.tup xs:=by
        cases b with
        | tup xs=>exact⟨xs,rfl⟩
        | _=>cases h2
      obtain⟨xs,rfl⟩:=hbt
      have e3:evE call [some (false,a),some (false,.tup xs),some (false,s),some (false,m),some (false,w),none] (.and (.isC true (.v 2) .non) (.not (.call 5 [(.v 2),(.bi .len [(.v 1)])])))=some (false,.bl (!eqD s .non&&!spd s xs.length)):=
        e_and (x:=false) (y:=false) (e_isC (x:=s) rfl (isn s hs)) (e_not (x:=false) (e_call2 (y:=.int ((xs.length:Nat):Int)) (ag_v rfl) rfl (C5 xs.length)))
      cases h3:(!eqD s .non&&!spd s xs.length) with
      | true=>rw [h3] at e3;exact stop e3
      | false =>
        have hbad:((!eqD s .non&&!spd s xs.length)||(!num m 0 65535||!num w (-B30) B30))=true:=hbad
        rw [h3] at e3 hbad
        refine st_skip (x:=false) e3 ?_
        cases h4:num m 0 65535 with
        | false=>rw [h4] at e4;exact stop e4
        | true =>
          rw [h4] at e4 hbad
          refine st_skip (x:=false) e4 ?_
          cases h5:num w (-B30) B30 with
          | false=>rw [h5] at e5;exact stop e5
          | true=>rw [h5] at hbad;cases hbad
end
theorem c_side (n:Nat) (d:D) (h:pl d=true) (hs:pls d=true):callN tab (n+2) 3 [d]=some (false,.bl (sid d)):=call_rt t3 rfl (by rw [ag_pl h];rfl) (t_side (c_num n) d h hs)
theorem c_box (n:Nat) (d:D) (h:pl d=true) (hs:pb d=true):callN tab (n+3) 4 [d]=some (false,.bl (box d)):=call_rt t4 rfl (by rw [ag_pl h];rfl) (t_box (c_side n) d h hs)
theorem c_spd (n:Nat) (d:D) (k:Nat) (h:pl d=true) (hs:pls d=true):callN tab (n+2) 5 [d,.int (k:Int)]=some (false,.bl (spd d k)):=call_rt t5 rfl (by rw [ag_pl h];rfl) (t_spd (c_num n) d k h hs)
theorem c_mk (n:Nat) (a b s m w:D) (ha:pl a=true) (hb:pl b=true) (hb':pb b=true) (hs:pl s=true) (hs':pls s=true) (hm:pl m=true) (hw:pl w=true) (hbad:bad a b s m w=true):callN tab (n+4) (6+XO) [a,b,s,m,w]=some (false,.exc ntS):=
  call_xt t6 (by decide) rfl (by rw [ag_pl ha,ag_pl hb,ag_pl hs,ag_pl hm,ag_pl hw];rfl) (t_mk a b s m w ha hb hs hm hw (c_num (n+2)) (c_box n b hb hb') (λk=>c_spd (n+1) s k hs hs') hbad)
end Dw.T
namespace Dw.T
open Dw
theorem cut_hi (xs:List D) (h:Nat):cutQ xs none (some (h:Int))=xs.take h:=by
  show (xs.drop 0).take ((if (h:Int)<0 then ((h:Int)+xs.length).toNat else min (h:Int).toNat xs.length) - 0)=_
  rw [if_neg (by omega),List.drop_zero,Int.toNat_natCast,Nat.sub_zero]
  by_cases hl:h≤xs.length
  · rw [Nat.min_eq_left hl]
  · rw [Nat.min_eq_right (by omega),List.take_of_length_le (by omega),List.take_of_length_le (by omega)]
theorem cut_lo (xs:List D) (h:Nat):cutQ xs (some (h:Int)) none=xs.drop h:=by
  show (xs.drop (if (h:Int)<0 then ((h:Int)+xs.length).toNat else min (h:Int).toNat xs.length)).take (xs.length - (if (h:Int)<0 then ((h:Int)+xs.length).toNat else min (h:Int).toNat xs.length))=_
  rw [if_neg (by omega),Int.toNat_natCast]
  by_cases hl:h≤xs.length
  · rw [Nat.min_eq_left hl,List.take_of_length_le (by simp)]
  · rw [Nat.min_eq_right (by omega),Nat.sub_self,List.take_zero,List.drop_of_length_le (by omega)]
theorem tup_add (a b:List D) (h:a.length+b.length≤100000):binP .add (.tup a) (.tup b)=some (false,.tup (a++b)):=by
  cases a with
  | nil=>rfl
  | cons x r=>rw [binP_addT,if_pos (le_lim (by rw [List.length_cons] at h;omega))]
section
variable {call:Nat→List D→Option R}
theorem e_bin {σ:En}{o:BOp}{a b:C}{x y:D}{r:Option R}(ha:pk σ a (evE call σ a)=some x) (hb:pk σ b (evE call σ b)=some y) (h:binP o x y=r):evE call σ (.bin o a b)=r:=by
  rw [vE_bin,ha];simp only;rw [hb];exact h
theorem e_slT {σ:En}{a:C}{lo hi:Option C}{xs:List D}{l h:Option Int}(ha:pk σ a (evE call σ a)=some (.tup xs)) (hl:evO call σ lo=some l) (hh:evO call σ hi=some h):evE call σ (.sl a lo hi)=some (false,.tup (cutQ xs l h)):=by
  rw [vE_sl,ha];simp only;rw [hl];simp only;rw [hh];rfl
theorem e_o {σ:En}{c:C}{i:Int}(h:pk σ c (evE call σ c)=some (.int i)):evO call σ (some c)=some (some i):=by rw [vO_some,h];rfl
theorem pk_bin {σ:En} {o a b}{r:R}(h:evE call σ (.bin o a b)=some r):pk σ (.bin o a b) (evE call σ (.bin o a b))=some r.2:=by rw [h];rfl
theorem pk_sl {σ:En} {a b c}{r:R}(h:evE call σ (.sl a b c)=some r):pk σ (.sl a b c) (evE call σ (.sl a b c))=some r.2:=by rw [h];rfl
theorem e_tup1 {σ:En}{a:C}{x:R}(ha:evE call σ a=some x):evE call σ (.tup [a])=some (false,.tup [x.2]):=by
  have l1:1≤lim:=le_lim (by decide)
  rw [evE_tup,evA_cons,ha,Option.bind_some,evA_nil,Option.bind_some,Option.bind_some]
  exact if_pos l1
theorem e_put {σ:En}{a i c:C}{xs:List D}{j:Nat}{d:D}(hc:evE call σ c=some (false,d)) (hj:j<xs.length) (hl:xs.length≤10000) (hva:pk σ a (evE call σ a)=some (.tup xs)) (hvi:pk σ i (evE call σ i)=some (.int (j:Int))) :
    evE call σ (.bin .add (.bin .add (.sl a none (some i)) (.tup [c])) (.sl a (some (.bin .add i (.k (.int 1)))) none))=some (false,.tup (xs.set j d)):=by
  have l1:1≤lim:=le_lim (by decide)
  have h1:=cut_hi xs j
  have h2:=cut_lo xs (j+1)
  have e1:(j:Int)+1=((j+1:Nat):Int):=by omega
  have t1:=tup_add (xs.take j) [d] (by rw [List.length_take,List.length_singleton];omega)
  have t2:=tup_add (xs.take j++[d]) (xs.drop (j+1)) (by rw [List.length_append,List.length_take,List.length_singleton,List.length_drop];omega)
  have e2:xs.set j d=xs.take j++[d]++xs.drop (j+1):=by
    rw [List.set_eq_take_append_cons_drop,if_pos hj,List.append_assoc]
    rfl
  have s1:=e_slT (call:=call) (lo:=none) (hi:=some i) hva rfl (e_o hvi)
  rw [h1] at s1
  have a1:evE call σ (.bin .add i (.k (.int 1)))=some (false,.int ((j+1:Nat):Int)):=by
    rw [←e1]
    exact e_bin hvi rfl rfl
  have s2:=e_slT (call:=call) (lo:=some (.bin .add i (.k (.int 1)))) (hi:=none) hva (e_o (pk_bin a1)) rfl
  rw [h2] at s2
  rw [e2]
  exact e_bin (pk_bin (e_bin (pk_sl s1) (pk_tup (e_tup1 hc)) t1)) (pk_sl s2) t2
theorem t_with (xs:List D) (k:Nat) (d:D) (hk:k<xs.length) (hl:xs.length≤10000) (hd:pl d=true):evSs call [some (false,.tup xs),some (false,.int (k:Int)),some (false,d)] f_law_with.body=some (.rt (false,.tup (xs.set k d))):=
  st_ret (r:=(false,.tup (xs.set k d))) (e_put (call:=call) (a:=.v 0) (i:=.v 1) (c:=.v 2) (j:=k) (by cases d<;>first|rfl|cases hd) hk hl rfl rfl) rfl
noncomputable def strD (p:Int):D:=if p.fmod 4=0 then .bl true else if p.fmod 4=1 then .non else if p.fmod 4=2 then .str (PySem.Str.ofString "7") else .tup [.int 7]
theorem fm4 (p:Int):p.fmod 4=0∨p.fmod 4=1∨p.fmod 4=2∨p.fmod 4=3:=by
  rw [Int.fmod_eq_emod_of_nonneg _ (by decide)]
  omega
theorem t_strange (p:Int):evSs call [some (false,.int p)] f_law_strange.body=some (.rt (false,strD p)):=by
  have d4:divOk 4=true:=by decide
  have l4:4≤lim:=le_lim (by decide)
  have l1:1≤lim:=le_lim (by decide)
  refine st_ret (r:=(false,strD p)) ?_ rfl
  unfold strD
  rcases fm4 p with h|h|h|h
  · simp only [vS_nil,vS_frz,vS_set,vS_setIx,vS_app,vS_ret,vS_ite,vS_forS,vS_forR,vS_forV,vS_brk,vS_cnt,vS_forZ,vE_v,vE_k,vE_bin,vE_neg,vE_cmp,vE_isC,vE_and,vE_or,vE_not,vE_ix,vE_sl,vE_tup,vE_lst,vE_call,vE_bi,vE_isi,vE_bitl,vE_ifx,vE_chn,vE_callP,vE_rev,vE_join,vE_fstr,vE_compS,vE_compR,vE_compZ,vA_cons,evA_nil,vAP_cons,evAP_nil,evO_none,vO_some,noOwn,getv,pk,retv,keepR,capt,Bool.false_and,Bool.true_and,Bool.and_true,Bool.and_false,Bool.or_true,Bool.true_or,Bool.or_false,Bool.false_or,Bool.not_true,Bool.not_false,List.map_cons,List.map_nil,List.set_cons_zero,List.set_cons_succ,List.getElem?_cons_zero,List.getElem?_cons_succ,Option.join_some,Option.map_some,binP_add,binP_sub,binP_mul,binP_fdiv,binP_mod,binP_pow,binP_shl,binP_shr,binP_band,binP_bor,binP_bxor,binP_addN,binP_addT,cmpP_eqI,cmpP_neI,cmpP_eqB,cmpP_neB,cmpP_lt,cmpP_le,cmpP_gt,cmpP_ge,biP_lenT,biP_lenL,biP_abs,biP_min,biP_max,biP_max3,bitP_int,biP_any,revP_T,slP_T,biP_sum,biP_all,biP_tupL,biP_tupT,biP_lstL,biP_lstT,biP_intB,biP_intI,ixP_L,ixP_T,ixQ_0,ixQ_1,ixQ_2,ixQ_3,slP_L,isP_nn,isP_tn,isP_ln,isP_in,isP_bn,isP_bb,negP_int,tyP_ii,tyP_bi,tyP_ib,tyP_bb,tyP_tt,tyP_tn,tyP_ti,oInt,seqP_L,seqP_T,tupP_T,List.length_cons,List.length_nil,List.nil_append,List.cons_append,List.replicate_succ,List.replicate_zero,Nat.reduceSub,Nat.reduceAdd,Nat.reduceLeDiff,Nat.reduceMul,lim0,lim1,lim2,lim3,lim4,lim6,reduceCtorEq,↓reduceIte,if_true,if_false,ite_true,ite_false,List.foldl_cons,List.foldl_nil,frz1,vG_cons,evG_nil,ag,agR,pkR,rtR,Option.bind_some,vE_inV,inR_int,d4,l4,l1,h];try rfl
  · simp only [vS_nil,vS_frz,vS_set,vS_setIx,vS_app,vS_ret,vS_ite,vS_forS,vS_forR,vS_forV,vS_brk,vS_cnt,vS_forZ,vE_v,vE_k,vE_bin,vE_neg,vE_cmp,vE_isC,vE_and,vE_or,vE_not,vE_ix,vE_sl,vE_tup,vE_lst,vE_call,vE_bi,vE_isi,vE_bitl,vE_ifx,vE_chn,vE_callP,vE_rev,vE_join,vE_fstr,vE_compS,vE_compR,vE_compZ,vA_cons,evA_nil,vAP_cons,evAP_nil,evO_none,vO_some,noOwn,getv,pk,retv,keepR,capt,Bool.false_and,Bool.true_and,Bool.and_true,Bool.and_false,Bool.or_true,Bool.true_or,Bool.or_false,Bool.false_or,Bool.not_true,Bool.not_false,List.map_cons,List.map_nil,List.set_cons_zero,List.set_cons_succ,List.getElem?_cons_zero,List.getElem?_cons_succ,Option.join_some,Option.map_some,binP_add,binP_sub,binP_mul,binP_fdiv,binP_mod,binP_pow,binP_shl,binP_shr,binP_band,binP_bor,binP_bxor,binP_addN,binP_addT,cmpP_eqI,cmpP_neI,cmpP_eqB,cmpP_neB,cmpP_lt,cmpP_le,cmpP_gt,cmpP_ge,biP_lenT,biP_lenL,biP_abs,biP_min,biP_max,biP_max3,bitP_int,biP_any,revP_T,slP_T,biP_sum,biP_all,biP_tupL,biP_tupT,biP_lstL,biP_lstT,biP_intB,biP_intI,ixP_L,ixP_T,ixQ_0,ixQ_1,ixQ_2,ixQ_3,slP_L,isP_nn,isP_tn,isP_ln,isP_in,isP_bn,isP_bb,negP_int,tyP_ii,tyP_bi,tyP_ib,tyP_bb,tyP_tt,tyP_tn,tyP_ti,oInt,seqP_L,seqP_T,tupP_T,List.length_cons,List.length_nil,List.nil_append,List.cons_append,List.replicate_succ,List.replicate_zero,Nat.reduceSub,Nat.reduceAdd,Nat.reduceLeDiff,Nat.reduceMul,lim0,lim1,lim2,lim3,lim4,lim6,reduceCtorEq,↓reduceIte,if_true,if_false,ite_true,ite_false,List.foldl_cons,List.foldl_nil,frz1,vG_cons,evG_nil,ag,agR,pkR,rtR,Option.bind_some,vE_inV,inR_int,d4,l4,l1,h];try rfl
  · simp only [vS_nil,vS_frz,vS_set,vS_setIx,vS_app,vS_ret,vS_ite,vS_forS,vS_forR,vS_forV,vS_brk,vS_cnt,vS_forZ,vE_v,vE_k,vE_bin,vE_neg,vE_cmp,vE_isC,vE_and,vE_or,vE_not,vE_ix,vE_sl,vE_tup,vE_lst,vE_call,vE_bi,vE_isi,vE_bitl,vE_ifx,vE_chn,vE_callP,vE_rev,vE_join,vE_fstr,vE_compS,vE_compR,vE_compZ,vA_cons,evA_nil,vAP_cons,evAP_nil,evO_none,vO_some,noOwn,getv,pk,retv,keepR,capt,Bool.false_and,Bool.true_and,Bool.and_true,Bool.and_false,Bool.or_true,Bool.true_or,Bool.or_false,Bool.false_or,Bool.not_true,Bool.not_false,List.map_cons,List.map_nil,List.set_cons_zero,List.set_cons_succ,List.getElem?_cons_zero,List.getElem?_cons_succ,Option.join_some,Option.map_some,binP_add,binP_sub,binP_mul,binP_fdiv,binP_mod,binP_pow,binP_shl,binP_shr,binP_band,binP_bor,binP_bxor,binP_addN,binP_addT,cmpP_eqI,cmpP_neI,cmpP_eqB,cmpP_neB,cmpP_lt,cmpP_le,cmpP_gt,cmpP_ge,biP_lenT,biP_lenL,biP_abs,biP_min,biP_max,biP_max3,bitP_int,biP_any,revP_T,slP_T,biP_sum,biP_all,biP_tupL,biP_tupT,biP_lstL,biP_lstT,biP_intB,biP_intI,ixP_L,ixP_T,ixQ_0,ixQ_1,ixQ_2,ixQ_3,slP_L,isP_nn,isP_tn,isP_ln,isP_in,isP_bn,isP_bb,negP_int,tyP_ii,tyP_bi,tyP_ib,tyP_bb,tyP_tt,tyP_tn,tyP_ti,oInt,seqP_L,seqP_T,tupP_T,List.length_cons,List.length_nil,List.nil_append,List.cons_append,List.replicate_succ,List.replicate_zero,Nat.reduceSub,Nat.reduceAdd,Nat.reduceLeDiff,Nat.reduceMul,lim0,lim1,lim2,lim3,lim4,lim6,reduceCtorEq,↓reduceIte,if_true,if_false,ite_true,ite_false,List.foldl_cons,List.foldl_nil,frz1,vG_cons,evG_nil,ag,agR,pkR,rtR,Option.bind_some,vE_inV,inR_int,d4,l4,l1,h];try rfl
  · simp only [vS_nil,vS_frz,vS_set,vS_setIx,vS_app,vS_ret,vS_ite,vS_forS,vS_forR,vS_forV,vS_brk,vS_cnt,vS_forZ,vE_v,vE_k,vE_bin,vE_neg,vE_cmp,vE_isC,vE_and,vE_or,vE_not,vE_ix,vE_sl,vE_tup,vE_lst,vE_call,vE_bi,vE_isi,vE_bitl,vE_ifx,vE_chn,vE_callP,vE_rev,vE_join,vE_fstr,vE_compS,vE_compR,vE_compZ,vA_cons,evA_nil,vAP_cons,evAP_nil,evO_none,vO_some,noOwn,getv,pk,retv,keepR,capt,Bool.false_and,Bool.true_and,Bool.and_true,Bool.and_false,Bool.or_true,Bool.true_or,Bool.or_false,Bool.false_or,Bool.not_true,Bool.not_false,List.map_cons,List.map_nil,List.set_cons_zero,List.set_cons_succ,List.getElem?_cons_zero,List.getElem?_cons_succ,Option.join_some,Option.map_some,binP_add,binP_sub,binP_mul,binP_fdiv,binP_mod,binP_pow,binP_shl,binP_shr,binP_band,binP_bor,binP_bxor,binP_addN,binP_addT,cmpP_eqI,cmpP_neI,cmpP_eqB,cmpP_neB,cmpP_lt,cmpP_le,cmpP_gt,cmpP_ge,biP_lenT,biP_lenL,biP_abs,biP_min,biP_max,biP_max3,bitP_int,biP_any,revP_T,slP_T,biP_sum,biP_all,biP_tupL,biP_tupT,biP_lstL,biP_lstT,biP_intB,biP_intI,ixP_L,ixP_T,ixQ_0,ixQ_1,ixQ_2,ixQ_3,slP_L,isP_nn,isP_tn,isP_ln,isP_in,isP_bn,isP_bb,negP_int,tyP_ii,tyP_bi,tyP_ib,tyP_bb,tyP_tt,tyP_tn,tyP_ti,oInt,seqP_L,seqP_T,tupP_T,List.length_cons,List.length_nil,List.nil_append,List.cons_append,List.replicate_succ,List.replicate_zero,Nat.reduceSub,Nat.reduceAdd,Nat.reduceLeDiff,Nat.reduceMul,lim0,lim1,lim2,lim3,lim4,lim6,reduceCtorEq,↓reduceIte,if_true,if_false,ite_true,ite_false,List.foldl_cons,List.foldl_nil,frz1,vG_cons,evG_nil,ag,agR,pkR,rtR,Option.bind_some,vE_inV,inR_int,d4,l4,l1,h];try rfl
end
theorem str_cases (p:Int):strD p=.bl true∨strD p=.non∨strD p=.str (PySem.Str.ofString "7")∨strD p=.tup [.int 7]:=by
  unfold strD
  split
  · exact .inl rfl
  split
  · exact .inr (.inl rfl)
  split
  · exact .inr (.inr (.inl rfl))
  · exact .inr (.inr (.inr rfl))
theorem str_pl (p:Int):pl (strD p)=true∧pls (strD p)=true∧pb (strD p)=true:=by
  rcases str_cases p with h|h|h|h<;>rw [h]<;>exact⟨rfl,rfl,rfl⟩
theorem str_num (p lo hi:Int):num (strD p) lo hi=false:=by
  rcases str_cases p with h|h|h|h<;>rw [h]<;>rfl
theorem str_box (p:Int):box (strD p)=false:=by
  rcases str_cases p with h|h|h|h<;>rw [h]<;>rfl
theorem c_with (n:Nat) (xs:List D) (k:Nat) (d:D) (hk:k<xs.length) (hl:xs.length≤10000) (hd:pl d=true):callN tab (n+1) 11 [.tup xs,.int (k:Int),d]=some (false,.tup (xs.set k d)):=
  call_rt t11 rfl (by rw [ag_pl rfl,ag_pl rfl,ag_pl hd];rfl) (t_with xs k d hk hl hd)
theorem c_strange (n:Nat) (p:Int):callN tab (n+1) 10 [.int p]=some (false,strD p):=call_rt t10 rfl rfl (t_strange p) (by rcases str_cases p with h|h|h|h<;>rw [h]<;>rfl)
end Dw.T
namespace Dw.T
open Dw
noncomputable def sdD (p:Int×Int):D:=.tup [.int p.1,.int p.2]
noncomputable def paD (h:Int) (S:List (Int×Int)) (V:List Int) (k w:Int):D:=.tup [.int h,.tup (S.map sdD),.tup (V.map .int),.int k,.int w]
structure Bd5 (a b s m w:D):Prop where
  ha:pl a=true
  hb:pl b=true
  hb':pb b=true
  hs:pl s=true
  hs':pls s=true
  hm:pl m=true
  hw:pl w=true
  no:bad a b s m w=true
theorem bad_a {a b s m w:D}(h:num a 0 B18=false):bad a b s m w=true:=by unfold bad;rw [h];rfl
theorem bad_b {a b s m w:D}(h:box b=false):bad a b s m w=true:=by unfold bad;rw [h];simp
theorem bad_s {a b s m w:D}(h1:eqD s .non=false) (h2:spd s (lenD b)=false):bad a b s m w=true:=by unfold bad;rw [h1,h2];simp
theorem bad_m {a b s m w:D}(h:num m 0 65535=false):bad a b s m w=true:=by unfold bad;rw [h];simp
theorem bad_w {a b s m w:D}(h:num w (-B30) B30=false):bad a b s m w=true:=by unfold bad;rw [h];simp
theorem num_lo {i lo hi:Int}(h:i<lo):num (.int i) lo hi=false:=by unfold num;simp only;rw [decide_eq_false (by omega)];rfl
theorem num_hi {i lo hi:Int}(h:hi<i):num (.int i) lo hi=false:=by unfold num;simp only;rw [decide_eq_false (show ¬i≤hi by omega),Bool.and_false]
theorem pb_S (S:List (Int×Int)):pb (.tup (S.map sdD))=true:=by
  show (S.map sdD).all _=true
  rw [List.all_map]
  exact List.all_eq_true.mpr λx _=>rfl
theorem pls_V (V:List Int):pls (.tup (V.map .int))=true:=by
  show (V.map D.int).all pl=true
  rw [List.all_map]
  exact List.all_eq_true.mpr λx _=>rfl
section
variable {call:Nat→List D→Option R}
theorem w_a (h:Int) (S:List (Int×Int)) (V:List Int) (k w:Int) (place far:Int) (hf:0≤far) (at_:Nat) (sp:D) (hsp:pl sp=true) (hsn:∀lo hi,num sp lo hi=false) (C11:∀(xs:List D) (j:Nat) (d:D),j<xs.length→xs.length≤10000→pl d=true→call 11 [.tup xs,.int (j:Int),d]=some (false,.tup (xs.set j d))) (way:Int) (hw:way=1∨way=2∨way=3) (o6 o7 o8:Option R) :
    ∃a b s m w',evSs call [some (false,paD h S V k w),some (false,.int way),some (false,.int place),some (false,.int far),some (false,.int (at_:Int)),some (false,sp),o6,o7,o8] [.ite (.or (.cmp .eq (.v 1) (.k (.int 1))) (.or (.cmp .eq (.v 1) (.k (.int 2))) (.cmp .eq (.v 1) (.k (.int 3))))) [.ret (.call 11 [(.v 0),(.k (.int 0)),(.ix (.lst [(.bin .sub (.neg (.k (.int 1))) (.v 3)),(.bin .add (.bin .add (.bin .pow (.k (.int 10)) (.k (.int 18))) (.k (.int 1))) (.v 3)),(.v 5)]) (.bin .sub (.v 1) (.k (.int 1))))])] [],.ite (.cmp .eq (.v 1) (.k (.int 4))) [.ret (.call 11 [(.v 0),(.k (.int 1)),(.bi .list [(.ix (.v 0) (.k (.int 1)))])])] [],.ite (.or (.cmp .eq (.v 1) (.k (.int 5))) (.cmp .eq (.v 1) (.k (.int 6)))) [.set 6 false (.ix (.lst [(.k (.int 1)),(.k (.int 4)),(.bin .mul (.k (.int 2)) (.bi .len [(.ix (.v 0) (.k (.int 1)))]))]) (.bin .mul (.bin .sub (.v 1) (.k (.int 5))) (.bin .add (.k (.int 1)) (.bin .mod (.v 2) (.k (.int 2)))))),.set 7 false (.ix (.lst [(.sl (.bin .add (.ix (.v 0) (.k (.int 2))) (.ix (.v 0) (.k (.int 2)))) none (some (.v 6))),(.k .non)]) (.bin .mod (.bin .fdiv (.v 2) (.k (.int 2))) (.k (.int 2)))),.ret (.call 11 [(.call 11 [(.v 0),(.k (.int 1)),(.sl (.bin .add (.ix (.v 0) (.k (.int 1))) (.ix (.v 0) (.k (.int 1)))) none (some (.v 6)))]),(.k (.int 2)),(.v 7)])] [],.ite (.cmp .eq (.v 1) (.k (.int 7))) [.ret (.call 11 [(.call 11 [(.v 0),(.k (.int 1)),(.v 5)]),(.k (.int 2)),(.ix (.lst [(.ix (.v 0) (.k (.int 2))),(.k .non)]) (.bin .mod (.bin .fdiv (.v 2) (.k (.int 4))) (.k (.int 2))))])] [],.ite (.cmp .le (.v 1) (.k (.int 13))) [.ret (.call 11 [(.v 0),(.k (.int 1)),(.call 11 [(.ix (.v 0) (.k (.int 1))),(.v 4),(.call 12 [(.ix (.ix (.v 0) (.k (.int 1))) (.v 4)),(.v 1),(.v 2),(.v 3)])])])] [],.ite (.cmp .eq (.v 1) (.k (.int 14))) [.ret (.call 11 [(.v 0),(.k (.int 2)),(.ix (.lst [(.bi .list [(.ix (.v 0) (.k (.int 2)))]),(.sl (.ix (.v 0) (.k (.int 2))) (some (.k (.int 1))) none),(.bin .add (.ix (.v 0) (.k (.int 2))) (.tup [(.k (.int 0))])),(.k (.int 0))]) (.bin .mod (.v 2) (.k (.int 4))))])] [],.ite (.cmp .eq (.v 1) (.k (.int 15))) [.set 8 false (.bin .mul (.bin .add (.bin .add (.bin .pow (.k (.int 10)) (.k (.int 15))) (.k (.int 1))) (.v 3)) (.bin .sub (.k (.int 1)) (.bin .mul (.k (.int 2)) (.bin .mod (.v 2) (.k (.int 2)))))),.ret (.call 11 [(.v 0),(.k (.int 2)),(.call 11 [(.ix (.v 0) (.k (.int 2))),(.v 4),(.v 8)])])] [],.ite (.cmp .eq (.v 1) (.k (.int 16))) [.ret (.call 11 [(.v 0),(.k (.int 2)),(.call 11 [(.ix (.v 0) (.k (.int 2))),(.v 4),(.v 5)])])] [],.ite (.or (.cmp .eq (.v 1) (.k (.int 17))) (.cmp .eq (.v 1) (.k (.int 18)))) [.ret (.call 11 [(.v 0),(.k (.int 3)),(.ix (.lst [(.bin .sub (.neg (.k (.int 1))) (.v 3)),(.bin .add (.k (.int 65536)) (.v 3))]) (.bin .sub (.v 1) (.k (.int 17))))])] [],.ite (.cmp .eq (.v 1) (.k (.int 19))) [.ret (.call 11 [(.v 0),(.k (.int 3)),(.v 5)])] [],.ite (.cmp .eq (.v 1) (.k (.int 20))) [.ret (.call 11 [(.v 0),(.k (.int 4)),(.bin .mul (.bin .add (.bin .add (.bin .pow (.k (.int 10)) (.k (.int 30))) (.k (.int 1))) (.v 3)) (.bin .sub (.k (.int 1)) (.bin .mul (.k (.int 2)) (.bin .mod (.v 2) (.k (.int 2))))))])] [],.ret (.call 11 [(.v 0),(.k (.int 4)),(.v 5)])]=some (.rt (false,.tup [a,b,s,m,w']))∧Bd5 a b s m w':=by
  have l3:3≤lim:=le_lim (by decide)
  have fin:∀x:D,pl x=true→num x 0 B18=false→evE call [some (false,paD h S V k w),some (false,.int way),some (false,.int place),some (false,.int far),some (false,.int (at_:Int)),some (false,sp),o6,o7,o8] (.ix (.lst [(.bin .sub (.neg (.k (.int 1))) (.v 3)),(.bin .add (.bin .add (.bin .pow (.k (.int 10)) (.k (.int 18))) (.k (.int 1))) (.v 3)),(.v 5)]) (.bin .sub (.v 1) (.k (.int 1))))=some (false,x) →
      evSs call [some (false,paD h S V k w),some (false,.int way),some (false,.int place),some (false,.int far),some (false,.int (at_:Int)),some (false,sp),o6,o7,o8] [.ite (.or (.cmp .eq (.v 1) (.k (.int 1))) (.or (.cmp .eq (.v 1) (.k (.int 2))) (.cmp .eq (.v 1) (.k (.int 3))))) [.ret (.call 11 [(.v 0),(.k (.int 0)),(.ix (.lst [(.bin .sub (.neg (.k (.int 1))) (.v 3)),(.bin .add (.bin .add (.bin .pow (.k (.int 10)) (.k (.int 18))) (.k (.int 1))) (.v 3)),(.v 5)]) (.bin .sub (.v 1) (.k (.int 1))))])] [],.ite (.cmp .eq (.v 1) (.k (.int 4))) [.ret (.call 11 [(.v 0),(.k (.int 1)),(.bi .list [(.ix (.v 0) (.k (.int 1)))])])] [],.ite (.or (.cmp .eq (.v 1) (.k (.int 5))) (.cmp .eq (.v 1) (.k (.int 6)))) [.set 6 false (.ix (.lst [(.k (.int 1)),(.k (.int 4)),(.bin .mul (.k (.int 2)) (.bi .len [(.ix (.v 0) (.k (.int 1)))]))]) (.bin .mul (.bin .sub (.v 1) (.k (.int 5))) (.bin .add (.k (.int 1)) (.bin .mod (.v 2) (.k (.int 2)))))),.set 7 false (.ix (.lst [(.sl (.bin .add (.ix (.v 0) (.k (.int 2))) (.ix (.v 0) (.k (.int 2)))) none (some (.v 6))),(.k .non)]) (.bin .mod (.bin .fdiv (.v 2) (.k (.int 2))) (.k (.int 2)))),.ret (.call 11 [(.call 11 [(.v 0),(.k (.int 1)),(.sl (.bin .add (.ix (.v 0) (.k (.int 1))) (.ix (.v 0) (.k (.int 1)))) none (some (.v 6)))]),(.k (.int 2)),(.v 7)])] [],.ite (.cmp .eq (.v 1) (.k (.int 7))) [.ret (.call 11 [(.call 11 [(.v 0),(.k (.int 1)),(.v 5)]),(.k (.int 2)),(.ix (.lst [(.ix (.v 0) (.k (.int 2))),(.k .non)]) (.bin .mod (.bin .fdiv (.v 2) (.k (.int 4))) (.k (.int 2))))])] [],.ite (.cmp .le (.v 1) (.k (.int 13))) [.ret (.call 11 [(.v 0),(.k (.int 1)),(.call 11 [(.ix (.v 0) (.k (.int 1))),(.v 4),(.call 12 [(.ix (.ix (.v 0) (.k (.int 1))) (.v 4)),(.v 1),(.v 2),(.v 3)])])])] [],.ite (.cmp .eq (.v 1) (.k (.int 14))) [.ret (.call 11 [(.v 0),(.k (.int 2)),(.ix (.lst [(.bi .list [(.ix (.v 0) (.k (.int 2)))]),(.sl (.ix (.v 0) (.k (.int 2))) (some (.k (.int 1))) none),(.bin .add (.ix (.v 0) (.k (.int 2))) (.tup [(.k (.int 0))])),(.k (.int 0))]) (.bin .mod (.v 2) (.k (.int 4))))])] [],.ite (.cmp .eq (.v 1) (.k (.int 15))) [.set 8 false (.bin .mul (.bin .add (.bin .add (.bin .pow (.k (.int 10)) (.k (.int 15))) (.k (.int 1))) (.v 3)) (.bin .sub (.k (.int 1)) (.bin .mul (.k (.int 2)) (.bin .mod (.v 2) (.k (.int 2)))))),.ret (.call 11 [(.v 0),(.k (.int 2)),(.call 11 [(.ix (.v 0) (.k (.int 2))),(.v 4),(.v 8)])])] [],.ite (.cmp .eq (.v 1) (.k (.int 16))) [.ret (.call 11 [(.v 0),(.k (.int 2)),(.call 11 [(.ix (.v 0) (.k (.int 2))),(.v 4),(.v 5)])])] [],.ite (.or (.cmp .eq (.v 1) (.k (.int 17))) (.cmp .eq (.v 1) (.k (.int 18)))) [.ret (.call 11 [(.v 0),(.k (.int 3)),(.ix (.lst [(.bin .sub (.neg (.k (.int 1))) (.v 3)),(.bin .add (.k (.int 65536)) (.v 3))]) (.bin .sub (.v 1) (.k (.int 17))))])] [],.ite (.cmp .eq (.v 1) (.k (.int 19))) [.ret (.call 11 [(.v 0),(.k (.int 3)),(.v 5)])] [],.ite (.cmp .eq (.v 1) (.k (.int 20))) [.ret (.call 11 [(.v 0),(.k (.int 4)),(.bin .mul (.bin .add (.bin .add (.bin .pow (.k (.int 10)) (.k (.int 30))) (.k (.int 1))) (.v 3)) (.bin .sub (.k (.int 1)) (.bin .mul (.k (.int 2)) (.bin .mod (.v 2) (.k (.int 2))))))])] [],.ret (.call 11 [(.v 0),(.k (.int 4)),(.v 5)])]=some (.rt (false,.tup [x,.tup (S.map sdD),.tup (V.map .int),.int k,.int w]))∧Bd5 x (.tup (S.map sdD)) (.tup (V.map .int)) (.int k) (.int w):=λx hx hn he=>by
    refine⟨st_TR (x:=false) (r:=(false,.tup [x,.tup (S.map sdD),.tup (V.map .int),.int k,.int w])) ?_ (st_ret (r:=(false,.tup [x,.tup (S.map sdD),.tup (V.map .int),.int k,.int w])) (e_call3 (y:=.int ((0:Nat):Int)) rfl rfl (by rw [he];rfl) (C11 _ 0 x (by show 0<5;decide) (by show 5≤10000;decide) hx)) rfl) rfl,hx,rfl,pb_S S,rfl,pls_V V,rfl,rfl,bad_a hn⟩
    rcases hw with rfl|rfl|rfl<;>rfl
  rcases hw with rfl|rfl|rfl
  · exact⟨_,_,_,_,_,fin (.int (-1 - far)) rfl (num_lo (by omega)) (by simp only [vS_nil,vS_frz,vS_set,vS_setIx,vS_app,vS_ret,vS_ite,vS_forS,vS_forR,vS_forV,vS_brk,vS_cnt,vS_forZ,vE_v,vE_k,vE_bin,vE_neg,vE_cmp,vE_isC,vE_and,vE_or,vE_not,vE_ix,vE_sl,vE_tup,vE_lst,vE_call,vE_bi,vE_isi,vE_bitl,vE_ifx,vE_chn,vE_callP,vE_rev,vE_join,vE_fstr,vE_compS,vE_compR,vE_compZ,vA_cons,evA_nil,vAP_cons,evAP_nil,evO_none,vO_some,noOwn,getv,pk,retv,keepR,capt,Bool.false_and,Bool.true_and,Bool.and_true,Bool.and_false,Bool.or_true,Bool.true_or,Bool.or_false,Bool.false_or,Bool.not_true,Bool.not_false,List.map_cons,List.map_nil,List.set_cons_zero,List.set_cons_succ,List.getElem?_cons_zero,List.getElem?_cons_succ,Option.join_some,Option.map_some,binP_add,binP_sub,binP_mul,binP_fdiv,binP_mod,binP_pow,binP_shl,binP_shr,binP_band,binP_bor,binP_bxor,binP_addN,binP_addT,cmpP_eqI,cmpP_neI,cmpP_eqB,cmpP_neB,cmpP_lt,cmpP_le,cmpP_gt,cmpP_ge,biP_lenT,biP_lenL,biP_abs,biP_min,biP_max,biP_max3,bitP_int,biP_any,revP_T,slP_T,biP_sum,biP_all,biP_tupL,biP_tupT,biP_lstL,biP_lstT,biP_intB,biP_intI,ixP_L,ixP_T,ixQ_0,ixQ_1,ixQ_2,ixQ_3,slP_L,isP_nn,isP_tn,isP_ln,isP_in,isP_bn,isP_bb,negP_int,tyP_ii,tyP_bi,tyP_ib,tyP_bb,tyP_tt,tyP_tn,tyP_ti,oInt,seqP_L,seqP_T,tupP_T,List.length_cons,List.length_nil,List.nil_append,List.cons_append,List.replicate_succ,List.replicate_zero,Nat.reduceSub,Nat.reduceAdd,Nat.reduceLeDiff,Nat.reduceMul,lim0,lim1,lim2,lim3,lim4,lim6,reduceCtorEq,↓reduceIte,if_true,if_false,ite_true,ite_false,List.foldl_cons,List.foldl_nil,frz1,vG_cons,evG_nil,ag,agR,pkR,rtR,Option.bind_some,vE_inV,inR_int,l3];try rfl)⟩
  · exact⟨_,_,_,_,_,fin (.int (1000000000000000000+1+far)) rfl (num_hi (by unfold B18;omega)) (by simp only [vS_nil,vS_frz,vS_set,vS_setIx,vS_app,vS_ret,vS_ite,vS_forS,vS_forR,vS_forV,vS_brk,vS_cnt,vS_forZ,vE_v,vE_k,vE_bin,vE_neg,vE_cmp,vE_isC,vE_and,vE_or,vE_not,vE_ix,vE_sl,vE_tup,vE_lst,vE_call,vE_bi,vE_isi,vE_bitl,vE_ifx,vE_chn,vE_callP,vE_rev,vE_join,vE_fstr,vE_compS,vE_compR,vE_compZ,vA_cons,evA_nil,vAP_cons,evAP_nil,evO_none,vO_some,noOwn,getv,pk,retv,keepR,capt,Bool.false_and,Bool.true_and,Bool.and_true,Bool.and_false,Bool.or_true,Bool.true_or,Bool.or_false,Bool.false_or,Bool.not_true,Bool.not_false,List.map_cons,List.map_nil,List.set_cons_zero,List.set_cons_succ,List.getElem?_cons_zero,List.getElem?_cons_succ,Option.join_some,Option.map_some,binP_add,binP_sub,binP_mul,binP_fdiv,binP_mod,binP_pow,binP_shl,binP_shr,binP_band,binP_bor,binP_bxor,binP_addN,binP_addT,cmpP_eqI,cmpP_neI,cmpP_eqB,cmpP_neB,cmpP_lt,cmpP_le,cmpP_gt,cmpP_ge,biP_lenT,biP_lenL,biP_abs,biP_min,biP_max,biP_max3,bitP_int,biP_any,revP_T,slP_T,biP_sum,biP_all,biP_tupL,biP_tupT,biP_lstL,biP_lstT,biP_intB,biP_intI,ixP_L,ixP_T,ixQ_0,ixQ_1,ixQ_2,ixQ_3,slP_L,isP_nn,isP_tn,isP_ln,isP_in,isP_bn,isP_bb,negP_int,tyP_ii,tyP_bi,tyP_ib,tyP_bb,tyP_tt,tyP_tn,tyP_ti,oInt,seqP_L,seqP_T,tupP_T,List.length_cons,List.length_nil,List.nil_append,List.cons_append,List.replicate_succ,List.replicate_zero,Nat.reduceSub,Nat.reduceAdd,Nat.reduceLeDiff,Nat.reduceMul,lim0,lim1,lim2,lim3,lim4,lim6,reduceCtorEq,↓reduceIte,if_true,if_false,ite_true,ite_false,List.foldl_cons,List.foldl_nil,frz1,vG_cons,evG_nil,ag,agR,pkR,rtR,Option.bind_some,vE_inV,inR_int,l3];try rfl)⟩
  · exact⟨_,_,_,_,_,fin sp hsp (hsn _ _) (by simp only [vS_nil,vS_frz,vS_set,vS_setIx,vS_app,vS_ret,vS_ite,vS_forS,vS_forR,vS_forV,vS_brk,vS_cnt,vS_forZ,vE_v,vE_k,vE_bin,vE_neg,vE_cmp,vE_isC,vE_and,vE_or,vE_not,vE_ix,vE_sl,vE_tup,vE_lst,vE_call,vE_bi,vE_isi,vE_bitl,vE_ifx,vE_chn,vE_callP,vE_rev,vE_join,vE_fstr,vE_compS,vE_compR,vE_compZ,vA_cons,evA_nil,vAP_cons,evAP_nil,evO_none,vO_some,noOwn,getv,pk,retv,keepR,capt,Bool.false_and,Bool.true_and,Bool.and_true,Bool.and_false,Bool.or_true,Bool.true_or,Bool.or_false,Bool.false_or,Bool.not_true,Bool.not_false,List.map_cons,List.map_nil,List.set_cons_zero,List.set_cons_succ,List.getElem?_cons_zero,List.getElem?_cons_succ,Option.join_some,Option.map_some,binP_add,binP_sub,binP_mul,binP_fdiv,binP_mod,binP_pow,binP_shl,binP_shr,binP_band,binP_bor,binP_bxor,binP_addN,binP_addT,cmpP_eqI,cmpP_neI,cmpP_eqB,cmpP_neB,cmpP_lt,cmpP_le,cmpP_gt,cmpP_ge,biP_lenT,biP_lenL,biP_abs,biP_min,biP_max,biP_max3,bitP_int,biP_any,revP_T,slP_T,biP_sum,biP_all,biP_tupL,biP_tupT,biP_lstL,biP_lstT,biP_intB,biP_intI,ixP_L,ixP_T,ixQ_0,ixQ_1,ixQ_2,ixQ_3,slP_L,isP_nn,isP_tn,isP_ln,isP_in,isP_bn,isP_bb,negP_int,tyP_ii,tyP_bi,tyP_ib,tyP_bb,tyP_tt,tyP_tn,tyP_ti,oInt,seqP_L,seqP_T,tupP_T,List.length_cons,List.length_nil,List.nil_append,List.cons_append,List.replicate_succ,List.replicate_zero,Nat.reduceSub,Nat.reduceAdd,Nat.reduceLeDiff,Nat.reduceMul,lim0,lim1,lim2,lim3,lim4,lim6,reduceCtorEq,↓reduceIte,if_true,if_false,ite_true,ite_false,List.foldl_cons,List.foldl_nil,frz1,vG_cons,evG_nil,ag,agR,pkR,rtR,Option.bind_some,vE_inV,inR_int,l3];try rfl)⟩
end
end Dw.T
namespace Dw.T
open Dw
theorem mulL (a b:Int) (h:a.natAbs<2^64):mulOk a b=true:=decide_eq_true (.inr (.inl h))
theorem mulR (a b:Int) (h:b.natAbs<2^64):mulOk a b=true:=decide_eq_true (.inr (.inr (.inl h)))
theorem ag_call {call:Nat→List D→Option R}{σ:En} {a b}{r:R}(h:evE call σ (.call a b)=some r):ag σ (.call a b) (evE call σ (.call a b))=some r.2:=by rw [h];rfl
theorem pw30:binP .pow (.int 10) (.int 30)=some (false,.int 1000000000000000000000000000000):=rfl
theorem pw15:binP .pow (.int 10) (.int 15)=some (false,.int 1000000000000000):=rfl
theorem pk_b {call:Nat→List D→Option R}{σ:En} {o a b}{x:D}(h:evE call σ (.bin o a b)=some (false,x)):pk σ (.bin o a b) (evE call σ (.bin o a b))=some x:=by rw [h];rfl
theorem box_set {S:List (Int×Int)}{j:Nat}{d:D}(hj:j<S.length) (h:sid d=false):box (.tup ((S.map sdD).set j d))=false:=by
  show (_&&((S.map sdD).set j d).all sid)=false
  have:((S.map sdD).set j d).all sid=false:=by
    rw [List.all_eq_false]
    exact⟨d,List.mem_set (by rw [List.length_map];exact hj) d,by rw [h];decide⟩
  rw [this,Bool.and_false]
theorem spd_set {V:List Int}{j n:Nat}{d:D}(hj:j<V.length) (h:num d (-B15) B15=false):spd (.tup ((V.map D.int).set j d)) n=false:=by
  show (_&&((V.map D.int).set j d).all _)=false
  have:((V.map D.int).set j d).all (λx=>num x (-B15) B15)=false:=by
    rw [List.all_eq_false]
    exact⟨d,List.mem_set (by rw [List.length_map];exact hj) d,by rw [h];decide⟩
  rw [this,Bool.and_false]
theorem all_set {α:Type}{p:α→Bool}{l:List α}{j:Nat}{d:α}(h:l.all p=true) (hd:p d=true):(l.set j d).all p=true:=by
  rw [List.all_eq_true] at h ⊢
  intro x hx
  rcases List.mem_or_eq_of_mem_set hx with q|rfl
  · exact h x q
  · exact hd
section
variable {call:Nat→List D→Option R}
variable (h:Int) (S:List (Int×Int)) (V:List Int) (k w:Int) (place far:Int) (hf:0≤far) (at_:Nat) (hS:S.length=2∨S.length=3) (hV:V.length=S.length) (hat:at_<S.length) (sp:D) (hsp:pl sp=true) (hspb:pb sp=true) (hsn:∀lo hi,num sp lo hi=false) (hsb:box sp=false) (C11:∀(xs:List D) (j:Nat) (d:D),j<xs.length→xs.length≤10000→pl d=true→call 11 [.tup xs,.int (j:Int),d]=some (false,.tup (xs.set j d))) (o6 o7 o8:Option R)
include hf hS hV hat hsp hspb hsn hsb C11
theorem w_4:∃a b s m w',evSs call [some (false,paD h S V k w),some (false,.int 4),some (false,.int place),some (false,.int far),some (false,.int (at_:Int)),some (false,sp),o6,o7,o8] [.ite (.cmp .eq (.v 1) (.k (.int 4))) [.ret (.call 11 [(.v 0),(.k (.int 1)),(.bi .list [(.ix (.v 0) (.k (.int 1)))])])] [],.ite (.or (.cmp .eq (.v 1) (.k (.int 5))) (.cmp .eq (.v 1) (.k (.int 6)))) [.set 6 false (.ix (.lst [(.k (.int 1)),(.k (.int 4)),(.bin .mul (.k (.int 2)) (.bi .len [(.ix (.v 0) (.k (.int 1)))]))]) (.bin .mul (.bin .sub (.v 1) (.k (.int 5))) (.bin .add (.k (.int 1)) (.bin .mod (.v 2) (.k (.int 2)))))),.set 7 false (.ix (.lst [(.sl (.bin .add (.ix (.v 0) (.k (.int 2))) (.ix (.v 0) (.k (.int 2)))) none (some (.v 6))),(.k .non)]) (.bin .mod (.bin .fdiv (.v 2) (.k (.int 2))) (.k (.int 2)))),.ret (.call 11 [(.call 11 [(.v 0),(.k (.int 1)),(.sl (.bin .add (.ix (.v 0) (.k (.int 1))) (.ix (.v 0) (.k (.int 1)))) none (some (.v 6)))]),(.k (.int 2)),(.v 7)])] [],.ite (.cmp .eq (.v 1) (.k (.int 7))) [.ret (.call 11 [(.call 11 [(.v 0),(.k (.int 1)),(.v 5)]),(.k (.int 2)),(.ix (.lst [(.ix (.v 0) (.k (.int 2))),(.k .non)]) (.bin .mod (.bin .fdiv (.v 2) (.k (.int 4))) (.k (.int 2))))])] [],.ite (.cmp .le (.v 1) (.k (.int 13))) [.ret (.call 11 [(.v 0),(.k (.int 1)),(.call 11 [(.ix (.v 0) (.k (.int 1))),(.v 4),(.call 12 [(.ix (.ix (.v 0) (.k (.int 1))) (.v 4)),(.v 1),(.v 2),(.v 3)])])])] [],.ite (.cmp .eq (.v 1) (.k (.int 14))) [.ret (.call 11 [(.v 0),(.k (.int 2)),(.ix (.lst [(.bi .list [(.ix (.v 0) (.k (.int 2)))]),(.sl (.ix (.v 0) (.k (.int 2))) (some (.k (.int 1))) none),(.bin .add (.ix (.v 0) (.k (.int 2))) (.tup [(.k (.int 0))])),(.k (.int 0))]) (.bin .mod (.v 2) (.k (.int 4))))])] [],.ite (.cmp .eq (.v 1) (.k (.int 15))) [.set 8 false (.bin .mul (.bin .add (.bin .add (.bin .pow (.k (.int 10)) (.k (.int 15))) (.k (.int 1))) (.v 3)) (.bin .sub (.k (.int 1)) (.bin .mul (.k (.int 2)) (.bin .mod (.v 2) (.k (.int 2)))))),.ret (.call 11 [(.v 0),(.k (.int 2)),(.call 11 [(.ix (.v 0) (.k (.int 2))),(.v 4),(.v 8)])])] [],.ite (.cmp .eq (.v 1) (.k (.int 16))) [.ret (.call 11 [(.v 0),(.k (.int 2)),(.call 11 [(.ix (.v 0) (.k (.int 2))),(.v 4),(.v 5)])])] [],.ite (.or (.cmp .eq (.v 1) (.k (.int 17))) (.cmp .eq (.v 1) (.k (.int 18)))) [.ret (.call 11 [(.v 0),(.k (.int 3)),(.ix (.lst [(.bin .sub (.neg (.k (.int 1))) (.v 3)),(.bin .add (.k (.int 65536)) (.v 3))]) (.bin .sub (.v 1) (.k (.int 17))))])] [],.ite (.cmp .eq (.v 1) (.k (.int 19))) [.ret (.call 11 [(.v 0),(.k (.int 3)),(.v 5)])] [],.ite (.cmp .eq (.v 1) (.k (.int 20))) [.ret (.call 11 [(.v 0),(.k (.int 4)),(.bin .mul (.bin .add (.bin .add (.bin .pow (.k (.int 10)) (.k (.int 30))) (.k (.int 1))) (.v 3)) (.bin .sub (.k (.int 1)) (.bin .mul (.k (.int 2)) (.bin .mod (.v 2) (.k (.int 2))))))])] [],.ret (.call 11 [(.v 0),(.k (.int 4)),(.v 5)])]=some (.rt (false,.tup [a,b,s,m,w']))∧Bd5 a b s m w':=by
  have e:evE call [some (false,paD h S V k w),some (false,.int 4),some (false,.int place),some (false,.int far),some (false,.int (at_:Int)),some (false,sp),o6,o7,o8] (.bi .list [(.ix (.v 0) (.k (.int 1)))])=some (true,.lst (S.map sdD)):=e_bi1 (x:=.tup (S.map sdD)) rfl rfl
  refine⟨_,_,_,_,_,st_TR (x:=false) (r:=(false,.tup [.int h,.lst (S.map sdD),.tup (V.map D.int),.int k,.int w])) rfl (st_ret (r:=(false,.tup [.int h,.lst (S.map sdD),.tup (V.map D.int),.int k,.int w])) (e_call3 (y:=.int ((1:Nat):Int)) rfl rfl (by rw [e];rfl) (C11 _ 1 (.lst (S.map sdD)) (by show 1<5;decide) (by show 5≤10000;decide) rfl)) rfl) rfl,rfl,rfl,rfl,rfl,pls_V V,rfl,rfl,bad_b rfl⟩
theorem w_17:∃a b s m w',evSs call [some (false,paD h S V k w),some (false,.int 17),some (false,.int place),some (false,.int far),some (false,.int (at_:Int)),some (false,sp),o6,o7,o8] [.ite (.or (.cmp .eq (.v 1) (.k (.int 17))) (.cmp .eq (.v 1) (.k (.int 18)))) [.ret (.call 11 [(.v 0),(.k (.int 3)),(.ix (.lst [(.bin .sub (.neg (.k (.int 1))) (.v 3)),(.bin .add (.k (.int 65536)) (.v 3))]) (.bin .sub (.v 1) (.k (.int 17))))])] [],.ite (.cmp .eq (.v 1) (.k (.int 19))) [.ret (.call 11 [(.v 0),(.k (.int 3)),(.v 5)])] [],.ite (.cmp .eq (.v 1) (.k (.int 20))) [.ret (.call 11 [(.v 0),(.k (.int 4)),(.bin .mul (.bin .add (.bin .add (.bin .pow (.k (.int 10)) (.k (.int 30))) (.k (.int 1))) (.v 3)) (.bin .sub (.k (.int 1)) (.bin .mul (.k (.int 2)) (.bin .mod (.v 2) (.k (.int 2))))))])] [],.ret (.call 11 [(.v 0),(.k (.int 4)),(.v 5)])]=some (.rt (false,.tup [a,b,s,m,w']))∧Bd5 a b s m w':=by
  have l2:2≤lim:=le_lim (by decide)
  exact⟨_,_,_,_,_,st_TR (x:=false) (r:=(false,.tup [.int h,.tup (S.map sdD),.tup (V.map D.int),.int (-1 - far),.int w])) rfl (st_ret (r:=(false,.tup [.int h,.tup (S.map sdD),.tup (V.map D.int),.int (-1 - far),.int w])) (e_call3 (y:=.int ((3:Nat):Int)) rfl rfl (by simp only [vS_nil,vS_frz,vS_set,vS_setIx,vS_app,vS_ret,vS_ite,vS_forS,vS_forR,vS_forV,vS_brk,vS_cnt,vS_forZ,vE_v,vE_k,vE_bin,vE_neg,vE_cmp,vE_isC,vE_and,vE_or,vE_not,vE_ix,vE_sl,vE_tup,vE_lst,vE_call,vE_bi,vE_isi,vE_bitl,vE_ifx,vE_chn,vE_callP,vE_rev,vE_join,vE_fstr,vE_compS,vE_compR,vE_compZ,vA_cons,evA_nil,vAP_cons,evAP_nil,evO_none,vO_some,noOwn,getv,pk,retv,keepR,capt,Bool.false_and,Bool.true_and,Bool.and_true,Bool.and_false,Bool.or_true,Bool.true_or,Bool.or_false,Bool.false_or,Bool.not_true,Bool.not_false,List.map_cons,List.map_nil,List.set_cons_zero,List.set_cons_succ,List.getElem?_cons_zero,List.getElem?_cons_succ,Option.join_some,Option.map_some,binP_add,binP_sub,binP_mul,binP_fdiv,binP_mod,binP_pow,binP_shl,binP_shr,binP_band,binP_bor,binP_bxor,binP_addN,binP_addT,cmpP_eqI,cmpP_neI,cmpP_eqB,cmpP_neB,cmpP_lt,cmpP_le,cmpP_gt,cmpP_ge,biP_lenT,biP_lenL,biP_abs,biP_min,biP_max,biP_max3,bitP_int,biP_any,revP_T,slP_T,biP_sum,biP_all,biP_tupL,biP_tupT,biP_lstL,biP_lstT,biP_intB,biP_intI,ixP_L,ixP_T,ixQ_0,ixQ_1,ixQ_2,ixQ_3,slP_L,isP_nn,isP_tn,isP_ln,isP_in,isP_bn,isP_bb,negP_int,tyP_ii,tyP_bi,tyP_ib,tyP_bb,tyP_tt,tyP_tn,tyP_ti,oInt,seqP_L,seqP_T,tupP_T,List.length_cons,List.length_nil,List.nil_append,List.cons_append,List.replicate_succ,List.replicate_zero,Nat.reduceSub,Nat.reduceAdd,Nat.reduceLeDiff,Nat.reduceMul,lim0,lim1,lim2,lim3,lim4,lim6,reduceCtorEq,↓reduceIte,if_true,if_false,ite_true,ite_false,List.foldl_cons,List.foldl_nil,frz1,vG_cons,evG_nil,ag,agR,pkR,rtR,Option.bind_some,vE_inV,inR_int,l2];try rfl) (C11 _ 3 (.int (-1 - far)) (by show 3<5;decide) (by show 5≤10000;decide) rfl)) rfl) rfl,rfl,rfl,pb_S S,rfl,pls_V V,rfl,rfl,bad_m (num_lo (by omega))⟩
theorem w_18:∃a b s m w',evSs call [some (false,paD h S V k w),some (false,.int 18),some (false,.int place),some (false,.int far),some (false,.int (at_:Int)),some (false,sp),o6,o7,o8] [.ite (.or (.cmp .eq (.v 1) (.k (.int 17))) (.cmp .eq (.v 1) (.k (.int 18)))) [.ret (.call 11 [(.v 0),(.k (.int 3)),(.ix (.lst [(.bin .sub (.neg (.k (.int 1))) (.v 3)),(.bin .add (.k (.int 65536)) (.v 3))]) (.bin .sub (.v 1) (.k (.int 17))))])] [],.ite (.cmp .eq (.v 1) (.k (.int 19))) [.ret (.call 11 [(.v 0),(.k (.int 3)),(.v 5)])] [],.ite (.cmp .eq (.v 1) (.k (.int 20))) [.ret (.call 11 [(.v 0),(.k (.int 4)),(.bin .mul (.bin .add (.bin .add (.bin .pow (.k (.int 10)) (.k (.int 30))) (.k (.int 1))) (.v 3)) (.bin .sub (.k (.int 1)) (.bin .mul (.k (.int 2)) (.bin .mod (.v 2) (.k (.int 2))))))])] [],.ret (.call 11 [(.v 0),(.k (.int 4)),(.v 5)])]=some (.rt (false,.tup [a,b,s,m,w']))∧Bd5 a b s m w':=by
  have l2:2≤lim:=le_lim (by decide)
  exact⟨_,_,_,_,_,st_TR (x:=false) (r:=(false,.tup [.int h,.tup (S.map sdD),.tup (V.map D.int),.int (65536+far),.int w])) rfl (st_ret (r:=(false,.tup [.int h,.tup (S.map sdD),.tup (V.map D.int),.int (65536+far),.int w])) (e_call3 (y:=.int ((3:Nat):Int)) rfl rfl (by simp only [vS_nil,vS_frz,vS_set,vS_setIx,vS_app,vS_ret,vS_ite,vS_forS,vS_forR,vS_forV,vS_brk,vS_cnt,vS_forZ,vE_v,vE_k,vE_bin,vE_neg,vE_cmp,vE_isC,vE_and,vE_or,vE_not,vE_ix,vE_sl,vE_tup,vE_lst,vE_call,vE_bi,vE_isi,vE_bitl,vE_ifx,vE_chn,vE_callP,vE_rev,vE_join,vE_fstr,vE_compS,vE_compR,vE_compZ,vA_cons,evA_nil,vAP_cons,evAP_nil,evO_none,vO_some,noOwn,getv,pk,retv,keepR,capt,Bool.false_and,Bool.true_and,Bool.and_true,Bool.and_false,Bool.or_true,Bool.true_or,Bool.or_false,Bool.false_or,Bool.not_true,Bool.not_false,List.map_cons,List.map_nil,List.set_cons_zero,List.set_cons_succ,List.getElem?_cons_zero,List.getElem?_cons_succ,Option.join_some,Option.map_some,binP_add,binP_sub,binP_mul,binP_fdiv,binP_mod,binP_pow,binP_shl,binP_shr,binP_band,binP_bor,binP_bxor,binP_addN,binP_addT,cmpP_eqI,cmpP_neI,cmpP_eqB,cmpP_neB,cmpP_lt,cmpP_le,cmpP_gt,cmpP_ge,biP_lenT,biP_lenL,biP_abs,biP_min,biP_max,biP_max3,bitP_int,biP_any,revP_T,slP_T,biP_sum,biP_all,biP_tupL,biP_tupT,biP_lstL,biP_lstT,biP_intB,biP_intI,ixP_L,ixP_T,ixQ_0,ixQ_1,ixQ_2,ixQ_3,slP_L,isP_nn,isP_tn,isP_ln,isP_in,isP_bn,isP_bb,negP_int,tyP_ii,tyP_bi,tyP_ib,tyP_bb,tyP_tt,tyP_tn,tyP_ti,oInt,seqP_L,seqP_T,tupP_T,List.length_cons,List.length_nil,List.nil_append,List.cons_append,List.replicate_succ,List.replicate_zero,Nat.reduceSub,Nat.reduceAdd,Nat.reduceLeDiff,Nat.reduceMul,lim0,lim1,lim2,lim3,lim4,lim6,reduceCtorEq,↓reduceIte,if_true,if_false,ite_true,ite_false,List.foldl_cons,List.foldl_nil,frz1,vG_cons,evG_nil,ag,agR,pkR,rtR,Option.bind_some,vE_inV,inR_int,l2];try rfl) (C11 _ 3 (.int (65536+far)) (by show 3<5;decide) (by show 5≤10000;decide) rfl)) rfl) rfl,rfl,rfl,pb_S S,rfl,pls_V V,rfl,rfl,bad_m (num_hi (by omega))⟩
theorem w_19:∃a b s m w',evSs call [some (false,paD h S V k w),some (false,.int 19),some (false,.int place),some (false,.int far),some (false,.int (at_:Int)),some (false,sp),o6,o7,o8] [.ite (.cmp .eq (.v 1) (.k (.int 19))) [.ret (.call 11 [(.v 0),(.k (.int 3)),(.v 5)])] [],.ite (.cmp .eq (.v 1) (.k (.int 20))) [.ret (.call 11 [(.v 0),(.k (.int 4)),(.bin .mul (.bin .add (.bin .add (.bin .pow (.k (.int 10)) (.k (.int 30))) (.k (.int 1))) (.v 3)) (.bin .sub (.k (.int 1)) (.bin .mul (.k (.int 2)) (.bin .mod (.v 2) (.k (.int 2))))))])] [],.ret (.call 11 [(.v 0),(.k (.int 4)),(.v 5)])]=some (.rt (false,.tup [a,b,s,m,w']))∧Bd5 a b s m w':=by
  have l2:2≤lim:=le_lim (by decide)
  exact⟨_,_,_,_,_,st_TR (x:=false) (r:=(false,.tup [.int h,.tup (S.map sdD),.tup (V.map D.int),sp,.int w])) rfl (st_ret (r:=(false,.tup [.int h,.tup (S.map sdD),.tup (V.map D.int),sp,.int w])) (e_call3 (y:=.int ((3:Nat):Int)) rfl rfl (rfl) (C11 _ 3 (sp) (by show 3<5;decide) (by show 5≤10000;decide) hsp)) rfl) rfl,rfl,rfl,pb_S S,rfl,pls_V V,hsp,rfl,bad_m (hsn _ _)⟩
theorem w_21:∃a b s m w',evSs call [some (false,paD h S V k w),some (false,.int 21),some (false,.int place),some (false,.int far),some (false,.int (at_:Int)),some (false,sp),o6,o7,o8] [.ret (.call 11 [(.v 0),(.k (.int 4)),(.v 5)])]=some (.rt (false,.tup [a,b,s,m,w']))∧Bd5 a b s m w':=by
  have l2:2≤lim:=le_lim (by decide)
  exact⟨_,_,_,_,_,(st_ret (r:=(false,.tup [.int h,.tup (S.map sdD),.tup (V.map D.int),.int k,sp])) (e_call3 (y:=.int ((4:Nat):Int)) rfl rfl (rfl) (C11 _ 4 (sp) (by show 4<5;decide) (by show 5≤10000;decide) hsp)) rfl),rfl,rfl,pb_S S,rfl,pls_V V,rfl,hsp,bad_w (hsn _ _)⟩
theorem w_20a (hr:place.fmod 2=0):∃a b s m w',evSs call [some (false,paD h S V k w),some (false,.int 20),some (false,.int place),some (false,.int far),some (false,.int (at_:Int)),some (false,sp),o6,o7,o8] [.ite (.cmp .eq (.v 1) (.k (.int 20))) [.ret (.call 11 [(.v 0),(.k (.int 4)),(.bin .mul (.bin .add (.bin .add (.bin .pow (.k (.int 10)) (.k (.int 30))) (.k (.int 1))) (.v 3)) (.bin .sub (.k (.int 1)) (.bin .mul (.k (.int 2)) (.bin .mod (.v 2) (.k (.int 2))))))])] [],.ret (.call 11 [(.v 0),(.k (.int 4)),(.v 5)])]=some (.rt (false,.tup [a,b,s,m,w']))∧Bd5 a b s m w':=by
  have d2:divOk 2=true:=by decide
  have m1:=mulR (1000000000000000000000000000000+1+far) (1) (by decide)
  have e:evE call [some (false,paD h S V k w),some (false,.int 20),some (false,.int place),some (false,.int far),some (false,.int (at_:Int)),some (false,sp),o6,o7,o8] (.bin .mul (.bin .add (.bin .add (.bin .pow (.k (.int 10)) (.k (.int 30))) (.k (.int 1))) (.v 3)) (.bin .sub (.k (.int 1)) (.bin .mul (.k (.int 2)) (.bin .mod (.v 2) (.k (.int 2))))))=some (false,.int ((1000000000000000000000000000000+1+far) * (1))):=by
    have m2:=mulL 2 (0) (by decide)
    exact e_bin (x:=.int (1000000000000000000000000000000+1+far)) (y:=.int (1)) (pk_b (e_bin (pk_b (e_bin (x:=.int 1000000000000000000000000000000) (pk_b (e_bin rfl rfl pw30)) rfl rfl)) rfl rfl)) (pk_b (x:=.int (1)) (e_bin (x:=.int 1) (y:=.int (2 * (0))) rfl (pk_b (e_bin (y:=.int (0)) rfl (pk_b (e_bin (x:=.int place) rfl rfl (by rw [binP_mod,if_pos d2,hr]))) (by rw [binP_mul,if_pos m2]))) rfl)) (by rw [binP_mul,if_pos m1])
  exact⟨_,_,_,_,_,st_TR (x:=false) (r:=(false,.tup [.int h,.tup (S.map sdD),.tup (V.map D.int),.int k,.int ((1000000000000000000000000000000+1+far) * (1))])) rfl (st_ret (r:=(false,.tup [.int h,.tup (S.map sdD),.tup (V.map D.int),.int k,.int ((1000000000000000000000000000000+1+far) * (1))])) (e_call3 (y:=.int ((4:Nat):Int)) rfl rfl (by rw [e];rfl) (C11 _ 4 (.int ((1000000000000000000000000000000+1+far) * (1))) (by show 4<5;decide) (by show 5≤10000;decide) rfl)) rfl) rfl,rfl,rfl,pb_S S,rfl,pls_V V,rfl,rfl,bad_w (num_hi (by unfold B30;omega))⟩
theorem w_20b (hr:place.fmod 2=1):∃a b s m w',evSs call [some (false,paD h S V k w),some (false,.int 20),some (false,.int place),some (false,.int far),some (false,.int (at_:Int)),some (false,sp),o6,o7,o8] [.ite (.cmp .eq (.v 1) (.k (.int 20))) [.ret (.call 11 [(.v 0),(.k (.int 4)),(.bin .mul (.bin .add (.bin .add (.bin .pow (.k (.int 10)) (.k (.int 30))) (.k (.int 1))) (.v 3)) (.bin .sub (.k (.int 1)) (.bin .mul (.k (.int 2)) (.bin .mod (.v 2) (.k (.int 2))))))])] [],.ret (.call 11 [(.v 0),(.k (.int 4)),(.v 5)])]=some (.rt (false,.tup [a,b,s,m,w']))∧Bd5 a b s m w':=by
  have d2:divOk 2=true:=by decide
  have m1:=mulR (1000000000000000000000000000000+1+far) (-1) (by decide)
  have e:evE call [some (false,paD h S V k w),some (false,.int 20),some (false,.int place),some (false,.int far),some (false,.int (at_:Int)),some (false,sp),o6,o7,o8] (.bin .mul (.bin .add (.bin .add (.bin .pow (.k (.int 10)) (.k (.int 30))) (.k (.int 1))) (.v 3)) (.bin .sub (.k (.int 1)) (.bin .mul (.k (.int 2)) (.bin .mod (.v 2) (.k (.int 2))))))=some (false,.int ((1000000000000000000000000000000+1+far) * (-1))):=by
    have m2:=mulL 2 (1) (by decide)
    exact e_bin (x:=.int (1000000000000000000000000000000+1+far)) (y:=.int (-1)) (pk_b (e_bin (pk_b (e_bin (x:=.int 1000000000000000000000000000000) (pk_b (e_bin rfl rfl pw30)) rfl rfl)) rfl rfl)) (pk_b (x:=.int (-1)) (e_bin (x:=.int 1) (y:=.int (2 * (1))) rfl (pk_b (e_bin (y:=.int (1)) rfl (pk_b (e_bin (x:=.int place) rfl rfl (by rw [binP_mod,if_pos d2,hr]))) (by rw [binP_mul,if_pos m2]))) rfl)) (by rw [binP_mul,if_pos m1])
  exact⟨_,_,_,_,_,st_TR (x:=false) (r:=(false,.tup [.int h,.tup (S.map sdD),.tup (V.map D.int),.int k,.int ((1000000000000000000000000000000+1+far) * (-1))])) rfl (st_ret (r:=(false,.tup [.int h,.tup (S.map sdD),.tup (V.map D.int),.int k,.int ((1000000000000000000000000000000+1+far) * (-1))])) (e_call3 (y:=.int ((4:Nat):Int)) rfl rfl (by rw [e];rfl) (C11 _ 4 (.int ((1000000000000000000000000000000+1+far) * (-1))) (by show 4<5;decide) (by show 5≤10000;decide) rfl)) rfl) rfl,rfl,rfl,pb_S S,rfl,pls_V V,rfl,rfl,bad_w (num_lo (by unfold B30;omega))⟩
theorem w_16:∃a b s m w',evSs call [some (false,paD h S V k w),some (false,.int 16),some (false,.int place),some (false,.int far),some (false,.int (at_:Int)),some (false,sp),o6,o7,o8] [.ite (.cmp .eq (.v 1) (.k (.int 16))) [.ret (.call 11 [(.v 0),(.k (.int 2)),(.call 11 [(.ix (.v 0) (.k (.int 2))),(.v 4),(.v 5)])])] [],.ite (.or (.cmp .eq (.v 1) (.k (.int 17))) (.cmp .eq (.v 1) (.k (.int 18)))) [.ret (.call 11 [(.v 0),(.k (.int 3)),(.ix (.lst [(.bin .sub (.neg (.k (.int 1))) (.v 3)),(.bin .add (.k (.int 65536)) (.v 3))]) (.bin .sub (.v 1) (.k (.int 17))))])] [],.ite (.cmp .eq (.v 1) (.k (.int 19))) [.ret (.call 11 [(.v 0),(.k (.int 3)),(.v 5)])] [],.ite (.cmp .eq (.v 1) (.k (.int 20))) [.ret (.call 11 [(.v 0),(.k (.int 4)),(.bin .mul (.bin .add (.bin .add (.bin .pow (.k (.int 10)) (.k (.int 30))) (.k (.int 1))) (.v 3)) (.bin .sub (.k (.int 1)) (.bin .mul (.k (.int 2)) (.bin .mod (.v 2) (.k (.int 2))))))])] [],.ret (.call 11 [(.v 0),(.k (.int 4)),(.v 5)])]=some (.rt (false,.tup [a,b,s,m,w']))∧Bd5 a b s m w':=by
  have e:=(e_call3 (call:=call) (σ:=[some (false,paD h S V k w),some (false,.int 16),some (false,.int place),some (false,.int far),some (false,.int (at_:Int)),some (false,sp),o6,o7,o8]) (f:=11) (a:=.ix (.v 0) (.k (.int 2))) (b:=.v 4) (c:=.v 5) (x:=.tup (V.map D.int)) (y:=.int (at_:Int)) rfl rfl rfl (C11 (V.map D.int) at_ sp (by rw [List.length_map];omega) (by rw [List.length_map];omega) hsp))
  exact⟨_,_,_,_,_,st_TR (x:=false) (r:=(false,.tup [.int h,.tup (S.map sdD),.tup ((V.map D.int).set at_ sp),.int k,.int w])) rfl (st_ret (r:=(false,.tup [.int h,.tup (S.map sdD),.tup ((V.map D.int).set at_ sp),.int k,.int w])) (e_call3 (y:=.int ((2:Nat):Int)) rfl rfl (ag_call e) (C11 _ 2 (.tup ((V.map D.int).set at_ sp)) (by show 2<5;decide) (by show 5≤10000;decide) rfl)) rfl) rfl,rfl,rfl,pb_S S,rfl,all_set (pls_V V) hsp,rfl,rfl,bad_s rfl (spd_set (by omega) (hsn _ _))⟩
theorem w_15a (hr:place.fmod 2=0):∃a b s m w',evSs call [some (false,paD h S V k w),some (false,.int 15),some (false,.int place),some (false,.int far),some (false,.int (at_:Int)),some (false,sp),o6,o7,o8] [.ite (.cmp .eq (.v 1) (.k (.int 15))) [.set 8 false (.bin .mul (.bin .add (.bin .add (.bin .pow (.k (.int 10)) (.k (.int 15))) (.k (.int 1))) (.v 3)) (.bin .sub (.k (.int 1)) (.bin .mul (.k (.int 2)) (.bin .mod (.v 2) (.k (.int 2)))))),.ret (.call 11 [(.v 0),(.k (.int 2)),(.call 11 [(.ix (.v 0) (.k (.int 2))),(.v 4),(.v 8)])])] [],.ite (.cmp .eq (.v 1) (.k (.int 16))) [.ret (.call 11 [(.v 0),(.k (.int 2)),(.call 11 [(.ix (.v 0) (.k (.int 2))),(.v 4),(.v 5)])])] [],.ite (.or (.cmp .eq (.v 1) (.k (.int 17))) (.cmp .eq (.v 1) (.k (.int 18)))) [.ret (.call 11 [(.v 0),(.k (.int 3)),(.ix (.lst [(.bin .sub (.neg (.k (.int 1))) (.v 3)),(.bin .add (.k (.int 65536)) (.v 3))]) (.bin .sub (.v 1) (.k (.int 17))))])] [],.ite (.cmp .eq (.v 1) (.k (.int 19))) [.ret (.call 11 [(.v 0),(.k (.int 3)),(.v 5)])] [],.ite (.cmp .eq (.v 1) (.k (.int 20))) [.ret (.call 11 [(.v 0),(.k (.int 4)),(.bin .mul (.bin .add (.bin .add (.bin .pow (.k (.int 10)) (.k (.int 30))) (.k (.int 1))) (.v 3)) (.bin .sub (.k (.int 1)) (.bin .mul (.k (.int 2)) (.bin .mod (.v 2) (.k (.int 2))))))])] [],.ret (.call 11 [(.v 0),(.k (.int 4)),(.v 5)])]=some (.rt (false,.tup [a,b,s,m,w']))∧Bd5 a b s m w':=by
  have d2:divOk 2=true:=by decide
  have m1:=mulR (1000000000000000+1+far) (1) (by decide)
  have e:evE call [some (false,paD h S V k w),some (false,.int 15),some (false,.int place),some (false,.int far),some (false,.int (at_:Int)),some (false,sp),o6,o7,o8] (.bin .mul (.bin .add (.bin .add (.bin .pow (.k (.int 10)) (.k (.int 15))) (.k (.int 1))) (.v 3)) (.bin .sub (.k (.int 1)) (.bin .mul (.k (.int 2)) (.bin .mod (.v 2) (.k (.int 2))))))=some (false,.int ((1000000000000000+1+far) * (1))):=by
    have m2:=mulL 2 (0) (by decide)
    exact e_bin (x:=.int (1000000000000000+1+far)) (y:=.int (1)) (pk_b (e_bin (pk_b (e_bin (x:=.int 1000000000000000) (pk_b (e_bin rfl rfl pw15)) rfl rfl)) rfl rfl)) (pk_b (x:=.int (1)) (e_bin (x:=.int 1) (y:=.int (2 * (0))) rfl (pk_b (e_bin (y:=.int (0)) rfl (pk_b (e_bin (x:=.int place) rfl rfl (by rw [binP_mod,if_pos d2,hr]))) (by rw [binP_mul,if_pos m2]))) rfl)) (by rw [binP_mul,if_pos m1])
  have e2:=e_call3 (call:=call) (σ:=[some (false,paD h S V k w),some (false,.int 15),some (false,.int place),some (false,.int far),some (false,.int (at_:Int)),some (false,sp),o6,o7,some (false,.int ((1000000000000000+1+far) * (1)))]) (f:=11) (a:=.ix (.v 0) (.k (.int 2))) (b:=.v 4) (c:=.v 8) (x:=.tup (V.map D.int)) (y:=.int (at_:Int)) rfl rfl rfl (C11 (V.map D.int) at_ (.int ((1000000000000000+1+far) * (1))) (by rw [List.length_map];omega) (by rw [List.length_map];omega) rfl)
  exact⟨_,_,_,_,_,st_TR (x:=false) (r:=(false,.tup [.int h,.tup (S.map sdD),.tup ((V.map D.int).set at_ (.int ((1000000000000000+1+far) * (1)))),.int k,.int w])) rfl (st_set _ e (st_ret (r:=(false,.tup [.int h,.tup (S.map sdD),.tup ((V.map D.int).set at_ (.int ((1000000000000000+1+far) * (1)))),.int k,.int w])) (e_call3 (y:=.int ((2:Nat):Int)) rfl rfl (ag_call e2) (C11 _ 2 (.tup ((V.map D.int).set at_ (.int ((1000000000000000+1+far) * (1))))) (by show 2<5;decide) (by show 5≤10000;decide) rfl)) rfl)) rfl,rfl,rfl,pb_S S,rfl,all_set (pls_V V) rfl,rfl,rfl,bad_s rfl (spd_set (by omega) (num_hi (by unfold B15;omega)))⟩
theorem w_15b (hr:place.fmod 2=1):∃a b s m w',evSs call [some (false,paD h S V k w),some (false,.int 15),some (false,.int place),some (false,.int far),some (false,.int (at_:Int)),some (false,sp),o6,o7,o8] [.ite (.cmp .eq (.v 1) (.k (.int 15))) [.set 8 false (.bin .mul (.bin .add (.bin .add (.bin .pow (.k (.int 10)) (.k (.int 15))) (.k (.int 1))) (.v 3)) (.bin .sub (.k (.int 1)) (.bin .mul (.k (.int 2)) (.bin .mod (.v 2) (.k (.int 2)))))),.ret (.call 11 [(.v 0),(.k (.int 2)),(.call 11 [(.ix (.v 0) (.k (.int 2))),(.v 4),(.v 8)])])] [],.ite (.cmp .eq (.v 1) (.k (.int 16))) [.ret (.call 11 [(.v 0),(.k (.int 2)),(.call 11 [(.ix (.v 0) (.k (.int 2))),(.v 4),(.v 5)])])] [],.ite (.or (.cmp .eq (.v 1) (.k (.int 17))) (.cmp .eq (.v 1) (.k (.int 18)))) [.ret (.call 11 [(.v 0),(.k (.int 3)),(.ix (.lst [(.bin .sub (.neg (.k (.int 1))) (.v 3)),(.bin .add (.k (.int 65536)) (.v 3))]) (.bin .sub (.v 1) (.k (.int 17))))])] [],.ite (.cmp .eq (.v 1) (.k (.int 19))) [.ret (.call 11 [(.v 0),(.k (.int 3)),(.v 5)])] [],.ite (.cmp .eq (.v 1) (.k (.int 20))) [.ret (.call 11 [(.v 0),(.k (.int 4)),(.bin .mul (.bin .add (.bin .add (.bin .pow (.k (.int 10)) (.k (.int 30))) (.k (.int 1))) (.v 3)) (.bin .sub (.k (.int 1)) (.bin .mul (.k (.int 2)) (.bin .mod (.v 2) (.k (.int 2))))))])] [],.ret (.call 11 [(.v 0),(.k (.int 4)),(.v 5)])]=some (.rt (false,.tup [a,b,s,m,w']))∧Bd5 a b s m w':=by
  have d2:divOk 2=true:=by decide
  have m1:=mulR (1000000000000000+1+far) (-1) (by decide)
  have e:evE call [some (false,paD h S V k w),some (false,.int 15),some (false,.int place),some (false,.int far),some (false,.int (at_:Int)),some (false,sp),o6,o7,o8] (.bin .mul (.bin .add (.bin .add (.bin .pow (.k (.int 10)) (.k (.int 15))) (.k (.int 1))) (.v 3)) (.bin .sub (.k (.int 1)) (.bin .mul (.k (.int 2)) (.bin .mod (.v 2) (.k (.int 2))))))=some (false,.int ((1000000000000000+1+far) * (-1))):=by
    have m2:=mulL 2 (1) (by decide)
    exact e_bin (x:=.int (1000000000000000+1+far)) (y:=.int (-1)) (pk_b (e_bin (pk_b (e_bin (x:=.int 1000000000000000) (pk_b (e_bin rfl rfl pw15)) rfl rfl)) rfl rfl)) (pk_b (x:=.int (-1)) (e_bin (x:=.int 1) (y:=.int (2 * (1))) rfl (pk_b (e_bin (y:=.int (1)) rfl (pk_b (e_bin (x:=.int place) rfl rfl (by rw [binP_mod,if_pos d2,hr]))) (by rw [binP_mul,if_pos m2]))) rfl)) (by rw [binP_mul,if_pos m1])
  have e2:=e_call3 (call:=call) (σ:=[some (false,paD h S V k w),some (false,.int 15),some (false,.int place),some (false,.int far),some (false,.int (at_:Int)),some (false,sp),o6,o7,some (false,.int ((1000000000000000+1+far) * (-1)))]) (f:=11) (a:=.ix (.v 0) (.k (.int 2))) (b:=.v 4) (c:=.v 8) (x:=.tup (V.map D.int)) (y:=.int (at_:Int)) rfl rfl rfl (C11 (V.map D.int) at_ (.int ((1000000000000000+1+far) * (-1))) (by rw [List.length_map];omega) (by rw [List.length_map];omega) rfl)
  exact⟨_,_,_,_,_,st_TR (x:=false) (r:=(false,.tup [.int h,.tup (S.map sdD),.tup ((V.map D.int).set at_ (.int ((1000000000000000+1+far) * (-1)))),.int k,.int w])) rfl (st_set _ e (st_ret (r:=(false,.tup [.int h,.tup (S.map sdD),.tup ((V.map D.int).set at_ (.int ((1000000000000000+1+far) * (-1)))),.int k,.int w])) (e_call3 (y:=.int ((2:Nat):Int)) rfl rfl (ag_call e2) (C11 _ 2 (.tup ((V.map D.int).set at_ (.int ((1000000000000000+1+far) * (-1))))) (by show 2<5;decide) (by show 5≤10000;decide) rfl)) rfl)) rfl,rfl,rfl,pb_S S,rfl,all_set (pls_V V) rfl,rfl,rfl,bad_s rfl (spd_set (by omega) (num_lo (by unfold B15;omega)))⟩
end
end Dw.T
namespace Dw.T
open Dw
theorem box_len {xs:List D}(h:xs.length≠2∧xs.length≠3):box (.tup xs)=false:=by
  show ((xs.length == 2||xs.length == 3)&&xs.all sid)=false
  rw [beq_eq_false_iff_ne.mpr h.1,beq_eq_false_iff_ne.mpr h.2]
  rfl
theorem pb_take (S:List (Int×Int)) (M:Nat):pb (.tup ((S.map sdD++S.map sdD).take M))=true:=by
  show ((S.map sdD++S.map sdD).take M).all _=true
  rw [List.all_eq_true]
  intro x hx
  have hx:=List.mem_of_mem_take hx
  rw [List.mem_append,or_self] at hx
  obtain⟨p,_,rfl⟩:=List.mem_map.mp hx
  rfl
theorem pls_take (V:List Int) (M:Nat):pls (.tup ((V.map D.int++V.map D.int).take M))=true:=by
  show ((V.map D.int++V.map D.int).take M).all pl=true
  rw [List.all_eq_true]
  intro x hx
  have hx:=List.mem_of_mem_take hx
  rw [List.mem_append,or_self] at hx
  obtain⟨p,_,rfl⟩:=List.mem_map.mp hx
  rfl
theorem fm2 (p:Int):p.fmod 2=0∨p.fmod 2=1:=by
  rw [Int.fmod_eq_emod_of_nonneg _ (by decide)]
  omega
section
variable {call:Nat→List D→Option R}{σ:En}
theorem e_lst2 {a b:C}{x y:R}(ha:evE call σ a=some x) (hb:evE call σ b=some y):evE call σ (.lst [a,b])=some (true,.lst [x.2,y.2]):=by
  rw [evE_lst,evA_cons,ha,Option.bind_some,evA_cons,hb,Option.bind_some,evA_nil,Option.bind_some,Option.bind_some,Option.bind_some]
  exact if_pos (le_lim (by simp))
theorem e_lst3 {a b c:C}{x y z:R}(ha:evE call σ a=some x) (hb:evE call σ b=some y) (hc:evE call σ c=some z):evE call σ (.lst [a,b,c])=some (true,.lst [x.2,y.2,z.2]):=by
  rw [evE_lst,evA_cons,ha,Option.bind_some,evA_cons,hb,Option.bind_some,evA_cons,hc,Option.bind_some,evA_nil,Option.bind_some,Option.bind_some,Option.bind_some,Option.bind_some]
  exact if_pos (le_lim (by simp))
theorem e_lst4 {a b c d:C}{x y z u:R}(ha:evE call σ a=some x) (hb:evE call σ b=some y) (hc:evE call σ c=some z) (hd:evE call σ d=some u):evE call σ (.lst [a,b,c,d])=some (true,.lst [x.2,y.2,z.2,u.2]):=by
  rw [evE_lst,evA_cons,ha,Option.bind_some,evA_cons,hb,Option.bind_some,evA_cons,hc,Option.bind_some,evA_cons,hd,Option.bind_some,evA_nil,Option.bind_some,Option.bind_some,Option.bind_some,Option.bind_some,Option.bind_some]
  exact if_pos (le_lim (by simp))
theorem pk_lst {a}{r:R}(h:evE call σ (.lst a)=some r):pk σ (.lst a) (evE call σ (.lst a))=some r.2:=by rw [h];rfl
theorem e_mod {a:C}{p:Int}{m r:Int}(ha:pk σ a (evE call σ a)=some (.int p)) (hd:divOk m=true) (hr:p.fmod m=r):evE call σ (.bin .mod a (.k (.int m)))=some (false,.int r):=e_bin ha rfl (by rw [binP_mod,if_pos hd,hr])
theorem e_div {a:C}{p:Int}{m:Int}(ha:pk σ a (evE call σ a)=some (.int p)) (hd:divOk m=true):evE call σ (.bin .fdiv a (.k (.int m)))=some (false,.int (p.fdiv m)):=e_bin ha rfl (by rw [binP_fdiv,if_pos hd])
end
section
variable {call:Nat→List D→Option R}
variable (h:Int) (S:List (Int×Int)) (V:List Int) (k w:Int) (place far:Int) (hf:0≤far) (at_:Nat) (hS:S.length=2∨S.length=3) (hV:V.length=S.length) (hat:at_<S.length) (sp:D) (hsp:pl sp=true) (hspb:pb sp=true) (hsn:∀lo hi,num sp lo hi=false) (hsb:box sp=false) (C11:∀(xs:List D) (j:Nat) (d:D),j<xs.length→xs.length≤10000→pl d=true→call 11 [.tup xs,.int (j:Int),d]=some (false,.tup (xs.set j d))) (o6 o7 o8:Option R)
include hf hS hV hat hsp hspb hsn hsb C11
theorem w_14:∃a b s m w',evSs call [some (false,paD h S V k w),some (false,.int 14),some (false,.int place),some (false,.int far),some (false,.int (at_:Int)),some (false,sp),o6,o7,o8] [.ite (.cmp .eq (.v 1) (.k (.int 14))) [.ret (.call 11 [(.v 0),(.k (.int 2)),(.ix (.lst [(.bi .list [(.ix (.v 0) (.k (.int 2)))]),(.sl (.ix (.v 0) (.k (.int 2))) (some (.k (.int 1))) none),(.bin .add (.ix (.v 0) (.k (.int 2))) (.tup [(.k (.int 0))])),(.k (.int 0))]) (.bin .mod (.v 2) (.k (.int 4))))])] [],.ite (.cmp .eq (.v 1) (.k (.int 15))) [.set 8 false (.bin .mul (.bin .add (.bin .add (.bin .pow (.k (.int 10)) (.k (.int 15))) (.k (.int 1))) (.v 3)) (.bin .sub (.k (.int 1)) (.bin .mul (.k (.int 2)) (.bin .mod (.v 2) (.k (.int 2)))))),.ret (.call 11 [(.v 0),(.k (.int 2)),(.call 11 [(.ix (.v 0) (.k (.int 2))),(.v 4),(.v 8)])])] [],.ite (.cmp .eq (.v 1) (.k (.int 16))) [.ret (.call 11 [(.v 0),(.k (.int 2)),(.call 11 [(.ix (.v 0) (.k (.int 2))),(.v 4),(.v 5)])])] [],.ite (.or (.cmp .eq (.v 1) (.k (.int 17))) (.cmp .eq (.v 1) (.k (.int 18)))) [.ret (.call 11 [(.v 0),(.k (.int 3)),(.ix (.lst [(.bin .sub (.neg (.k (.int 1))) (.v 3)),(.bin .add (.k (.int 65536)) (.v 3))]) (.bin .sub (.v 1) (.k (.int 17))))])] [],.ite (.cmp .eq (.v 1) (.k (.int 19))) [.ret (.call 11 [(.v 0),(.k (.int 3)),(.v 5)])] [],.ite (.cmp .eq (.v 1) (.k (.int 20))) [.ret (.call 11 [(.v 0),(.k (.int 4)),(.bin .mul (.bin .add (.bin .add (.bin .pow (.k (.int 10)) (.k (.int 30))) (.k (.int 1))) (.v 3)) (.bin .sub (.k (.int 1)) (.bin .mul (.k (.int 2)) (.bin .mod (.v 2) (.k (.int 2))))))])] [],.ret (.call 11 [(.v 0),(.k (.int 4)),(.v 5)])]=some (.rt (false,.tup [a,b,s,m,w']))∧Bd5 a b s m w':=by
  have e1:evE call [some (false,paD h S V k w),some (false,.int 14),some (false,.int place),some (false,.int far),some (false,.int (at_:Int)),some (false,sp),o6,o7,o8] (.bi .list [(.ix (.v 0) (.k (.int 2)))])=some (true,.lst (V.map D.int)):=e_bi1 (x:=.tup (V.map D.int)) rfl rfl
  have e2:=e_slT (call:=call) (σ:=[some (false,paD h S V k w),some (false,.int 14),some (false,.int place),some (false,.int far),some (false,.int (at_:Int)),some (false,sp),o6,o7,o8]) (a:=.ix (.v 0) (.k (.int 2))) (lo:=some (.k (.int 1))) (hi:=none) (xs:=(V.map D.int)) rfl (e_o rfl) rfl
  rw [show cutQ (V.map D.int) (some 1) none=(V.map D.int).drop 1 from cut_lo _ 1] at e2
  have e3:evE call [some (false,paD h S V k w),some (false,.int 14),some (false,.int place),some (false,.int far),some (false,.int (at_:Int)),some (false,sp),o6,o7,o8] (.bin .add (.ix (.v 0) (.k (.int 2))) (.tup [(.k (.int 0))]))=some (false,.tup ((V.map D.int)++[.int 0])):=e_bin (x:=.tup (V.map D.int)) (y:=.tup [.int 0]) rfl (pk_tup (r:=(false,.tup [.int 0])) (e_tup1 (x:=(false,.int 0)) rfl)) (tup_add _ _ (by rw [List.length_map];show _+1≤_;omega))
  have e4:=e_lst4 (call:=call) (d:=.k (.int 0)) e1 e2 e3 rfl
  have fin:∀d:D,pl d=true→pls d=true→eqD d .non=false→spd d S.length=false→evE call [some (false,paD h S V k w),some (false,.int 14),some (false,.int place),some (false,.int far),some (false,.int (at_:Int)),some (false,sp),o6,o7,o8] (.ix (.lst [(.bi .list [(.ix (.v 0) (.k (.int 2)))]),(.sl (.ix (.v 0) (.k (.int 2))) (some (.k (.int 1))) none),(.bin .add (.ix (.v 0) (.k (.int 2))) (.tup [(.k (.int 0))])),(.k (.int 0))]) (.bin .mod (.v 2) (.k (.int 4))))=some (false,d)→∃a b s m w',evSs call [some (false,paD h S V k w),some (false,.int 14),some (false,.int place),some (false,.int far),some (false,.int (at_:Int)),some (false,sp),o6,o7,o8] [.ite (.cmp .eq (.v 1) (.k (.int 14))) [.ret (.call 11 [(.v 0),(.k (.int 2)),(.ix (.lst [(.bi .list [(.ix (.v 0) (.k (.int 2)))]),(.sl (.ix (.v 0) (.k (.int 2))) (some (.k (.int 1))) none),(.bin .add (.ix (.v 0) (.k (.int 2))) (.tup [(.k (.int 0))])),(.k (.int 0))]) (.bin .mod (.v 2) (.k (.int 4))))])] [],.ite (.cmp .eq (.v 1) (.k (.int 15))) [.set 8 false (.bin .mul (.bin .add (.bin .add (.bin .pow (.k (.int 10)) (.k (.int 15))) (.k (.int 1))) (.v 3)) (.bin .sub (.k (.int 1)) (.bin .mul (.k (.int 2)) (.bin .mod (.v 2) (.k (.int 2)))))),.ret (.call 11 [(.v 0),(.k (.int 2)),(.call 11 [(.ix (.v 0) (.k (.int 2))),(.v 4),(.v 8)])])] [],.ite (.cmp .eq (.v 1) (.k (.int 16))) [.ret (.call 11 [(.v 0),(.k (.int 2)),(.call 11 [(.ix (.v 0) (.k (.int 2))),(.v 4),(.v 5)])])] [],.ite (.or (.cmp .eq (.v 1) (.k (.int 17))) (.cmp .eq (.v 1) (.k (.int 18)))) [.ret (.call 11 [(.v 0),(.k (.int 3)),(.ix (.lst [(.bin .sub (.neg (.k (.int 1))) (.v 3)),(.bin .add (.k (.int 65536)) (.v 3))]) (.bin .sub (.v 1) (.k (.int 17))))])] [],.ite (.cmp .eq (.v 1) (.k (.int 19))) [.ret (.call 11 [(.v 0),(.k (.int 3)),(.v 5)])] [],.ite (.cmp .eq (.v 1) (.k (.int 20))) [.ret (.call 11 [(.v 0),(.k (.int 4)),(.bin .mul (.bin .add (.bin .add (.bin .pow (.k (.int 10)) (.k (.int 30))) (.k (.int 1))) (.v 3)) (.bin .sub (.k (.int 1)) (.bin .mul (.k (.int 2)) (.bin .mod (.v 2) (.k (.int 2))))))])] [],.ret (.call 11 [(.v 0),(.k (.int 4)),(.v 5)])]=some (.rt (false,.tup [a,b,s,m,w']))∧Bd5 a b s m w':=λd h1 h2 h3 h4 he=>⟨_,_,_,_,_,st_TR (x:=false) (r:=(false,.tup [.int h,.tup (S.map sdD),d,.int k,.int w])) rfl (st_ret (r:=(false,.tup [.int h,.tup (S.map sdD),d,.int k,.int w])) (e_call3 (y:=.int ((2:Nat):Int)) rfl rfl (by rw [he];rfl) (C11 _ 2 d (by show 2<5;decide) (by show 5≤10000;decide) h1)) rfl) rfl,rfl,rfl,pb_S S,h1,h2,rfl,rfl,bad_s h3 (by rw [show lenD (.tup (S.map sdD))=S.length from List.length_map _];exact h4)⟩
  have d4:divOk 4=true:=by decide
  rcases fm4 place with hr|hr|hr|hr
  · exact fin (.lst (V.map D.int)) rfl rfl rfl rfl (e_ix (pk_lst e4) (pk_bin (e_mod rfl d4 hr)) rfl)
  · exact fin (.tup ((V.map D.int).drop 1)) rfl (List.all_eq_true.mpr λx hx=>List.all_eq_true.mp (pls_V V) x (List.mem_of_mem_drop hx)) rfl (by show (_ == _&&_)=false;rw [show ((V.map D.int).drop 1).length=V.length - 1 by simp,beq_eq_false_iff_ne.mpr (by omega)];rfl) (e_ix (pk_lst e4) (pk_bin (e_mod rfl d4 hr)) rfl)
  · exact fin (.tup ((V.map D.int)++[.int 0])) rfl (by show ((V.map D.int)++[D.int 0]).all pl=true;rw [List.all_append,show (V.map D.int).all pl=true from pls_V V];rfl) rfl (by show (_ == _&&_)=false;rw [show ((V.map D.int)++[D.int 0]).length=V.length+1 by simp,beq_eq_false_iff_ne.mpr (by omega)];rfl) (e_ix (pk_lst e4) (pk_bin (e_mod rfl d4 hr)) rfl)
  · exact fin (.int 0) rfl rfl rfl rfl (e_ix (pk_lst e4) (pk_bin (e_mod rfl d4 hr)) rfl)
theorem w_7:∃a b s m w',evSs call [some (false,paD h S V k w),some (false,.int 7),some (false,.int place),some (false,.int far),some (false,.int (at_:Int)),some (false,sp),o6,o7,o8] [.ite (.cmp .eq (.v 1) (.k (.int 7))) [.ret (.call 11 [(.call 11 [(.v 0),(.k (.int 1)),(.v 5)]),(.k (.int 2)),(.ix (.lst [(.ix (.v 0) (.k (.int 2))),(.k .non)]) (.bin .mod (.bin .fdiv (.v 2) (.k (.int 4))) (.k (.int 2))))])] [],.ite (.cmp .le (.v 1) (.k (.int 13))) [.ret (.call 11 [(.v 0),(.k (.int 1)),(.call 11 [(.ix (.v 0) (.k (.int 1))),(.v 4),(.call 12 [(.ix (.ix (.v 0) (.k (.int 1))) (.v 4)),(.v 1),(.v 2),(.v 3)])])])] [],.ite (.cmp .eq (.v 1) (.k (.int 14))) [.ret (.call 11 [(.v 0),(.k (.int 2)),(.ix (.lst [(.bi .list [(.ix (.v 0) (.k (.int 2)))]),(.sl (.ix (.v 0) (.k (.int 2))) (some (.k (.int 1))) none),(.bin .add (.ix (.v 0) (.k (.int 2))) (.tup [(.k (.int 0))])),(.k (.int 0))]) (.bin .mod (.v 2) (.k (.int 4))))])] [],.ite (.cmp .eq (.v 1) (.k (.int 15))) [.set 8 false (.bin .mul (.bin .add (.bin .add (.bin .pow (.k (.int 10)) (.k (.int 15))) (.k (.int 1))) (.v 3)) (.bin .sub (.k (.int 1)) (.bin .mul (.k (.int 2)) (.bin .mod (.v 2) (.k (.int 2)))))),.ret (.call 11 [(.v 0),(.k (.int 2)),(.call 11 [(.ix (.v 0) (.k (.int 2))),(.v 4),(.v 8)])])] [],.ite (.cmp .eq (.v 1) (.k (.int 16))) [.ret (.call 11 [(.v 0),(.k (.int 2)),(.call 11 [(.ix (.v 0) (.k (.int 2))),(.v 4),(.v 5)])])] [],.ite (.or (.cmp .eq (.v 1) (.k (.int 17))) (.cmp .eq (.v 1) (.k (.int 18)))) [.ret (.call 11 [(.v 0),(.k (.int 3)),(.ix (.lst [(.bin .sub (.neg (.k (.int 1))) (.v 3)),(.bin .add (.k (.int 65536)) (.v 3))]) (.bin .sub (.v 1) (.k (.int 17))))])] [],.ite (.cmp .eq (.v 1) (.k (.int 19))) [.ret (.call 11 [(.v 0),(.k (.int 3)),(.v 5)])] [],.ite (.cmp .eq (.v 1) (.k (.int 20))) [.ret (.call 11 [(.v 0),(.k (.int 4)),(.bin .mul (.bin .add (.bin .add (.bin .pow (.k (.int 10)) (.k (.int 30))) (.k (.int 1))) (.v 3)) (.bin .sub (.k (.int 1)) (.bin .mul (.k (.int 2)) (.bin .mod (.v 2) (.k (.int 2))))))])] [],.ret (.call 11 [(.v 0),(.k (.int 4)),(.v 5)])]=some (.rt (false,.tup [a,b,s,m,w']))∧Bd5 a b s m w':=by
  have e1:=e_call3 (call:=call) (σ:=[some (false,paD h S V k w),some (false,.int 7),some (false,.int place),some (false,.int far),some (false,.int (at_:Int)),some (false,sp),o6,o7,o8]) (f:=11) (a:=.v 0) (b:=.k (.int 1)) (c:=.v 5) (y:=.int ((1:Nat):Int)) rfl rfl rfl (C11 [.int h,.tup (S.map sdD),.tup (V.map D.int),.int k,.int w] 1 sp (by show 1<5;decide) (by show 5≤10000;decide) hsp)
  have e2:=e_lst2 (call:=call) (σ:=[some (false,paD h S V k w),some (false,.int 7),some (false,.int place),some (false,.int far),some (false,.int (at_:Int)),some (false,sp),o6,o7,o8]) (a:=.ix (.v 0) (.k (.int 2))) (b:=.k .non) (x:=(false,.tup (V.map D.int))) rfl rfl
  have fin:∀d:D,pl d=true→pls d=true→evE call [some (false,paD h S V k w),some (false,.int 7),some (false,.int place),some (false,.int far),some (false,.int (at_:Int)),some (false,sp),o6,o7,o8] (.ix (.lst [(.ix (.v 0) (.k (.int 2))),(.k .non)]) (.bin .mod (.bin .fdiv (.v 2) (.k (.int 4))) (.k (.int 2))))=some (false,d)→∃a b s m w',evSs call [some (false,paD h S V k w),some (false,.int 7),some (false,.int place),some (false,.int far),some (false,.int (at_:Int)),some (false,sp),o6,o7,o8] [.ite (.cmp .eq (.v 1) (.k (.int 7))) [.ret (.call 11 [(.call 11 [(.v 0),(.k (.int 1)),(.v 5)]),(.k (.int 2)),(.ix (.lst [(.ix (.v 0) (.k (.int 2))),(.k .non)]) (.bin .mod (.bin .fdiv (.v 2) (.k (.int 4))) (.k (.int 2))))])] [],.ite (.cmp .le (.v 1) (.k (.int 13))) [.ret (.call 11 [(.v 0),(.k (.int 1)),(.call 11 [(.ix (.v 0) (.k (.int 1))),(.v 4),(.call 12 [(.ix (.ix (.v 0) (.k (.int 1))) (.v 4)),(.v 1),(.v 2),(.v 3)])])])] [],.ite (.cmp .eq (.v 1) (.k (.int 14))) [.ret (.call 11 [(.v 0),(.k (.int 2)),(.ix (.lst [(.bi .list [(.ix (.v 0) (.k (.int 2)))]),(.sl (.ix (.v 0) (.k (.int 2))) (some (.k (.int 1))) none),(.bin .add (.ix (.v 0) (.k (.int 2))) (.tup [(.k (.int 0))])),(.k (.int 0))]) (.bin .mod (.v 2) (.k (.int 4))))])] [],.ite (.cmp .eq (.v 1) (.k (.int 15))) [.set 8 false (.bin .mul (.bin .add (.bin .add (.bin .pow (.k (.int 10)) (.k (.int 15))) (.k (.int 1))) (.v 3)) (.bin .sub (.k (.int 1)) (.bin .mul (.k (.int 2)) (.bin .mod (.v 2) (.k (.int 2)))))),.ret (.call 11 [(.v 0),(.k (.int 2)),(.call 11 [(.ix (.v 0) (.k (.int 2))),(.v 4),(.v 8)])])] [],.ite (.cmp .eq (.v 1) (.k (.int 16))) [.ret (.call 11 [(.v 0),(.k (.int 2)),(.call 11 [(.ix (.v 0) (.k (.int 2))),(.v 4),(.v 5)])])] [],.ite (.or (.cmp .eq (.v 1) (.k (.int 17))) (.cmp .eq (.v 1) (.k (.int 18)))) [.ret (.call 11 [(.v 0),(.k (.int 3)),(.ix (.lst [(.bin .sub (.neg (.k (.int 1))) (.v 3)),(.bin .add (.k (.int 65536)) (.v 3))]) (.bin .sub (.v 1) (.k (.int 17))))])] [],.ite (.cmp .eq (.v 1) (.k (.int 19))) [.ret (.call 11 [(.v 0),(.k (.int 3)),(.v 5)])] [],.ite (.cmp .eq (.v 1) (.k (.int 20))) [.ret (.call 11 [(.v 0),(.k (.int 4)),(.bin .mul (.bin .add (.bin .add (.bin .pow (.k (.int 10)) (.k (.int 30))) (.k (.int 1))) (.v 3)) (.bin .sub (.k (.int 1)) (.bin .mul (.k (.int 2)) (.bin .mod (.v 2) (.k (.int 2))))))])] [],.ret (.call 11 [(.v 0),(.k (.int 4)),(.v 5)])]=some (.rt (false,.tup [a,b,s,m,w']))∧Bd5 a b s m w':=λd h1 h2 he=>⟨_,_,_,_,_,st_TR (x:=false) (r:=(false,.tup [.int h,sp,d,.int k,.int w])) rfl (st_ret (r:=(false,.tup [.int h,sp,d,.int k,.int w])) (e_call3 (y:=.int ((2:Nat):Int)) (ag_call e1) rfl (by rw [he];rfl) (C11 [.int h,sp,.tup (V.map D.int),.int k,.int w] 2 d (by show 2<5;decide) (by show 5≤10000;decide) h1)) rfl) rfl,rfl,hsp,hspb,h1,h2,rfl,rfl,bad_b hsb⟩
  have d4:divOk 4=true:=by decide
  have d2:divOk 2=true:=by decide
  rcases fm2 (place.fdiv 4) with hr|hr
  · exact fin (.tup (V.map D.int)) rfl (pls_V V) (e_ix (pk_lst e2) (pk_bin (e_mod (pk_bin (e_div rfl d4)) d2 hr)) rfl)
  · exact fin .non rfl rfl (e_ix (pk_lst e2) (pk_bin (e_mod (pk_bin (e_div rfl d4)) d2 hr)) rfl)
end
end Dw.T
namespace Dw.T
open Dw
theorem e_tup2 {call:Nat→List D→Option R}{σ:En}{a b:C}{x y:R}(ha:evE call σ a=some x) (hb:evE call σ b=some y):evE call σ (.tup [a,b])=some (false,.tup [x.2,y.2]):=by
  rw [evE_tup,evA_cons,ha,Option.bind_some,evA_cons,hb,Option.bind_some,evA_nil,Option.bind_some,Option.bind_some,Option.bind_some]
  exact if_pos (le_lim (by simp))
theorem e_call4 {call:Nat→List D→Option R}{σ:En}{f:Nat}{a b c d:C}{x y w v:D}{r:Option R}(ha:ag σ a (evE call σ a)=some x) (hb:ag σ b (evE call σ b)=some y) (hw:ag σ c (evE call σ c)=some w) (hv:ag σ d (evE call σ d)=some v) (hc:call f [x,y,w,v]=r):evE call σ (.call f [a,b,c,d])=r:=by
  rw [evE_call,evG_cons,ha,Option.bind_some,evG_cons,hb,Option.bind_some,evG_cons,hw,Option.bind_some,evG_cons,hv,Option.bind_some,evG_nil,Option.bind_some,Option.bind_some,Option.bind_some,Option.bind_some,Option.bind_some]
  exact hc
theorem sd0 (p:Int×Int):ixP (sdD p) (.int 0)=some (false,.int p.1):=rfl
theorem sd1 (p:Int×Int):ixP (sdD p) (.int 1)=some (false,.int p.2):=rfl
section
variable {call:Nat→List D→Option R}
theorem t_ss (p:Int×Int) (place far:Int) (hf:0≤far) (sp:D) (hsp:pl sp=true) (hsn:∀lo hi,num sp lo hi=false) (C10:call 10 [.int place]=some (false,sp)) (way:Int) (hw:way=8∨way=9∨way=10∨way=11∨way=12∨way=13) :
    ∃fl d,evSs call [some (false,sdD p),some (false,.int way),some (false,.int place),some (false,.int far)] f_law_side_spoiled.body=some (.rt (fl,d))∧pl d=true∧pls d=true∧sid d=false:=by
  have l1:1≤lim:=le_lim (by decide)
  have l2:2≤lim:=le_lim (by decide)
  have l3:3≤lim:=le_lim (by decide)
  have l4:4≤lim:=le_lim (by decide)
  have d4:divOk 4=true:=by decide
  have d2:divOk 2=true:=by decide
  rcases hw with rfl|rfl|rfl|rfl|rfl|rfl
  · refine⟨false,.tup [.int p.1,.int (p.1 - 1 - far)],st_TR (x:=false) (r:=(false,.tup [.int p.1,.int (p.1 - 1 - far)])) rfl (st_ret (r:=(false,.tup [.int p.1,.int (p.1 - 1 - far)])) (by simp only [vS_nil,vS_frz,vS_set,vS_setIx,vS_app,vS_ret,vS_ite,vS_forS,vS_forR,vS_forV,vS_brk,vS_cnt,vS_forZ,vE_v,vE_k,vE_bin,vE_neg,vE_cmp,vE_isC,vE_and,vE_or,vE_not,vE_ix,vE_sl,vE_tup,vE_lst,vE_call,vE_bi,vE_isi,vE_bitl,vE_ifx,vE_chn,vE_callP,vE_rev,vE_join,vE_fstr,vE_compS,vE_compR,vE_compZ,vA_cons,evA_nil,vAP_cons,evAP_nil,evO_none,vO_some,noOwn,getv,pk,retv,keepR,capt,Bool.false_and,Bool.true_and,Bool.and_true,Bool.and_false,Bool.or_true,Bool.true_or,Bool.or_false,Bool.false_or,Bool.not_true,Bool.not_false,List.map_cons,List.map_nil,List.set_cons_zero,List.set_cons_succ,List.getElem?_cons_zero,List.getElem?_cons_succ,Option.join_some,Option.map_some,binP_add,binP_sub,binP_mul,binP_fdiv,binP_mod,binP_pow,binP_shl,binP_shr,binP_band,binP_bor,binP_bxor,binP_addN,binP_addT,cmpP_eqI,cmpP_neI,cmpP_eqB,cmpP_neB,cmpP_lt,cmpP_le,cmpP_gt,cmpP_ge,biP_lenT,biP_lenL,biP_abs,biP_min,biP_max,biP_max3,bitP_int,biP_any,revP_T,slP_T,biP_sum,biP_all,biP_tupL,biP_tupT,biP_lstL,biP_lstT,biP_intB,biP_intI,ixP_L,ixP_T,ixQ_0,ixQ_1,ixQ_2,ixQ_3,slP_L,isP_nn,isP_tn,isP_ln,isP_in,isP_bn,isP_bb,negP_int,tyP_ii,tyP_bi,tyP_ib,tyP_bb,tyP_tt,tyP_tn,tyP_ti,oInt,seqP_L,seqP_T,tupP_T,List.length_cons,List.length_nil,List.nil_append,List.cons_append,List.replicate_succ,List.replicate_zero,Nat.reduceSub,Nat.reduceAdd,Nat.reduceLeDiff,Nat.reduceMul,lim0,lim1,lim2,lim3,lim4,lim6,reduceCtorEq,↓reduceIte,if_true,if_false,ite_true,ite_false,List.foldl_cons,List.foldl_nil,frz1,vG_cons,evG_nil,ag,agR,pkR,rtR,Option.bind_some,vE_inV,inR_int,sd0,l2]) rfl) rfl,rfl,rfl,?_⟩
    show (_&&decide (p.1≤p.1 - 1 - far))=false
    rw [decide_eq_false (by omega),Bool.and_false]
  · refine⟨false,.tup [.int p.1,.int (1000000000000000000000000000000+1+far)],st_skip (x:=false) rfl (st_TR (x:=false) (r:=(false,.tup [.int p.1,.int (1000000000000000000000000000000+1+far)])) rfl (st_ret (r:=(false,.tup [.int p.1,.int (1000000000000000000000000000000+1+far)])) (by simp only [vS_nil,vS_frz,vS_set,vS_setIx,vS_app,vS_ret,vS_ite,vS_forS,vS_forR,vS_forV,vS_brk,vS_cnt,vS_forZ,vE_v,vE_k,vE_bin,vE_neg,vE_cmp,vE_isC,vE_and,vE_or,vE_not,vE_ix,vE_sl,vE_tup,vE_lst,vE_call,vE_bi,vE_isi,vE_bitl,vE_ifx,vE_chn,vE_callP,vE_rev,vE_join,vE_fstr,vE_compS,vE_compR,vE_compZ,vA_cons,evA_nil,vAP_cons,evAP_nil,evO_none,vO_some,noOwn,getv,pk,retv,keepR,capt,Bool.false_and,Bool.true_and,Bool.and_true,Bool.and_false,Bool.or_true,Bool.true_or,Bool.or_false,Bool.false_or,Bool.not_true,Bool.not_false,List.map_cons,List.map_nil,List.set_cons_zero,List.set_cons_succ,List.getElem?_cons_zero,List.getElem?_cons_succ,Option.join_some,Option.map_some,binP_add,binP_sub,binP_mul,binP_fdiv,binP_mod,binP_pow,binP_shl,binP_shr,binP_band,binP_bor,binP_bxor,binP_addN,binP_addT,cmpP_eqI,cmpP_neI,cmpP_eqB,cmpP_neB,cmpP_lt,cmpP_le,cmpP_gt,cmpP_ge,biP_lenT,biP_lenL,biP_abs,biP_min,biP_max,biP_max3,bitP_int,biP_any,revP_T,slP_T,biP_sum,biP_all,biP_tupL,biP_tupT,biP_lstL,biP_lstT,biP_intB,biP_intI,ixP_L,ixP_T,ixQ_0,ixQ_1,ixQ_2,ixQ_3,slP_L,isP_nn,isP_tn,isP_ln,isP_in,isP_bn,isP_bb,negP_int,tyP_ii,tyP_bi,tyP_ib,tyP_bb,tyP_tt,tyP_tn,tyP_ti,oInt,seqP_L,seqP_T,tupP_T,List.length_cons,List.length_nil,List.nil_append,List.cons_append,List.replicate_succ,List.replicate_zero,Nat.reduceSub,Nat.reduceAdd,Nat.reduceLeDiff,Nat.reduceMul,lim0,lim1,lim2,lim3,lim4,lim6,reduceCtorEq,↓reduceIte,if_true,if_false,ite_true,ite_false,List.foldl_cons,List.foldl_nil,frz1,vG_cons,evG_nil,ag,agR,pkR,rtR,Option.bind_some,vE_inV,inR_int,sd0,l2];try rfl) rfl) rfl),rfl,rfl,?_⟩
    refine sid_no ?_
    rw [num_hi (show B30<1000000000000000000000000000000+1+far by unfold B30;omega),Bool.and_false]
  · refine⟨false,.tup [.int (-1 - far - 1000000000000000000000000000000),.int p.2],st_skip (x:=false) rfl (st_skip (x:=false) rfl (st_TR (x:=false) (r:=(false,.tup [.int (-1 - far - 1000000000000000000000000000000),.int p.2])) rfl (st_ret (r:=(false,.tup [.int (-1 - far - 1000000000000000000000000000000),.int p.2])) (by simp only [vS_nil,vS_frz,vS_set,vS_setIx,vS_app,vS_ret,vS_ite,vS_forS,vS_forR,vS_forV,vS_brk,vS_cnt,vS_forZ,vE_v,vE_k,vE_bin,vE_neg,vE_cmp,vE_isC,vE_and,vE_or,vE_not,vE_ix,vE_sl,vE_tup,vE_lst,vE_call,vE_bi,vE_isi,vE_bitl,vE_ifx,vE_chn,vE_callP,vE_rev,vE_join,vE_fstr,vE_compS,vE_compR,vE_compZ,vA_cons,evA_nil,vAP_cons,evAP_nil,evO_none,vO_some,noOwn,getv,pk,retv,keepR,capt,Bool.false_and,Bool.true_and,Bool.and_true,Bool.and_false,Bool.or_true,Bool.true_or,Bool.or_false,Bool.false_or,Bool.not_true,Bool.not_false,List.map_cons,List.map_nil,List.set_cons_zero,List.set_cons_succ,List.getElem?_cons_zero,List.getElem?_cons_succ,Option.join_some,Option.map_some,binP_add,binP_sub,binP_mul,binP_fdiv,binP_mod,binP_pow,binP_shl,binP_shr,binP_band,binP_bor,binP_bxor,binP_addN,binP_addT,cmpP_eqI,cmpP_neI,cmpP_eqB,cmpP_neB,cmpP_lt,cmpP_le,cmpP_gt,cmpP_ge,biP_lenT,biP_lenL,biP_abs,biP_min,biP_max,biP_max3,bitP_int,biP_any,revP_T,slP_T,biP_sum,biP_all,biP_tupL,biP_tupT,biP_lstL,biP_lstT,biP_intB,biP_intI,ixP_L,ixP_T,ixQ_0,ixQ_1,ixQ_2,ixQ_3,slP_L,isP_nn,isP_tn,isP_ln,isP_in,isP_bn,isP_bb,negP_int,tyP_ii,tyP_bi,tyP_ib,tyP_bb,tyP_tt,tyP_tn,tyP_ti,oInt,seqP_L,seqP_T,tupP_T,List.length_cons,List.length_nil,List.nil_append,List.cons_append,List.replicate_succ,List.replicate_zero,Nat.reduceSub,Nat.reduceAdd,Nat.reduceLeDiff,Nat.reduceMul,lim0,lim1,lim2,lim3,lim4,lim6,reduceCtorEq,↓reduceIte,if_true,if_false,ite_true,ite_false,List.foldl_cons,List.foldl_nil,frz1,vG_cons,evG_nil,ag,agR,pkR,rtR,Option.bind_some,vE_inV,inR_int,sd1,l2];try rfl) rfl) rfl)),rfl,rfl,?_⟩
    refine sid_no ?_
    rw [num_lo (show -1 - far - 1000000000000000000000000000000 < -B30 by unfold B30;omega),Bool.false_and]
  · exact⟨true,.lst [.int p.1,.int p.2],st_skip (x:=false) rfl (st_skip (x:=false) rfl (st_skip (x:=false) rfl (st_TR (x:=false) (r:=(true,.lst [.int p.1,.int p.2])) rfl (st_ret (r:=(true,.lst [.int p.1,.int p.2])) (by simp only [vS_nil,vS_frz,vS_set,vS_setIx,vS_app,vS_ret,vS_ite,vS_forS,vS_forR,vS_forV,vS_brk,vS_cnt,vS_forZ,vE_v,vE_k,vE_bin,vE_neg,vE_cmp,vE_isC,vE_and,vE_or,vE_not,vE_ix,vE_sl,vE_tup,vE_lst,vE_call,vE_bi,vE_isi,vE_bitl,vE_ifx,vE_chn,vE_callP,vE_rev,vE_join,vE_fstr,vE_compS,vE_compR,vE_compZ,vA_cons,evA_nil,vAP_cons,evAP_nil,evO_none,vO_some,noOwn,getv,pk,retv,keepR,capt,Bool.false_and,Bool.true_and,Bool.and_true,Bool.and_false,Bool.or_true,Bool.true_or,Bool.or_false,Bool.false_or,Bool.not_true,Bool.not_false,List.map_cons,List.map_nil,List.set_cons_zero,List.set_cons_succ,List.getElem?_cons_zero,List.getElem?_cons_succ,Option.join_some,Option.map_some,binP_add,binP_sub,binP_mul,binP_fdiv,binP_mod,binP_pow,binP_shl,binP_shr,binP_band,binP_bor,binP_bxor,binP_addN,binP_addT,cmpP_eqI,cmpP_neI,cmpP_eqB,cmpP_neB,cmpP_lt,cmpP_le,cmpP_gt,cmpP_ge,biP_lenT,biP_lenL,biP_abs,biP_min,biP_max,biP_max3,bitP_int,biP_any,revP_T,slP_T,biP_sum,biP_all,biP_tupL,biP_tupT,biP_lstL,biP_lstT,biP_intB,biP_intI,ixP_L,ixP_T,ixQ_0,ixQ_1,ixQ_2,ixQ_3,slP_L,isP_nn,isP_tn,isP_ln,isP_in,isP_bn,isP_bb,negP_int,tyP_ii,tyP_bi,tyP_ib,tyP_bb,tyP_tt,tyP_tn,tyP_ti,oInt,seqP_L,seqP_T,tupP_T,List.length_cons,List.length_nil,List.nil_append,List.cons_append,List.replicate_succ,List.replicate_zero,Nat.reduceSub,Nat.reduceAdd,Nat.reduceLeDiff,Nat.reduceMul,lim0,lim1,lim2,lim3,lim4,lim6,reduceCtorEq,↓reduceIte,if_true,if_false,ite_true,ite_false,List.foldl_cons,List.foldl_nil,frz1,vG_cons,evG_nil,ag,agR,pkR,rtR,Option.bind_some,vE_inV,inR_int,sd0,sd1,l2]) rfl) rfl))),rfl,rfl,rfl⟩
  · have e4:=e_lst4 (call:=call) (σ:=[some (false,sdD p),some (false,.int 12),some (false,.int place),some (false,.int far)]) (a:=.tup [(.ix (.v 0) (.k (.int 0)))]) (b:=.tup [(.ix (.v 0) (.k (.int 0))),(.ix (.v 0) (.k (.int 1))),(.ix (.v 0) (.k (.int 1)))]) (c:=.k .non) (d:=.tup []) (x:=(false,.tup [.int p.1])) (y:=(false,.tup [.int p.1,.int p.2,.int p.2])) (u:=(false,.tup [])) (by simp only [vS_nil,vS_frz,vS_set,vS_setIx,vS_app,vS_ret,vS_ite,vS_forS,vS_forR,vS_forV,vS_brk,vS_cnt,vS_forZ,vE_v,vE_k,vE_bin,vE_neg,vE_cmp,vE_isC,vE_and,vE_or,vE_not,vE_ix,vE_sl,vE_tup,vE_lst,vE_call,vE_bi,vE_isi,vE_bitl,vE_ifx,vE_chn,vE_callP,vE_rev,vE_join,vE_fstr,vE_compS,vE_compR,vE_compZ,vA_cons,evA_nil,vAP_cons,evAP_nil,evO_none,vO_some,noOwn,getv,pk,retv,keepR,capt,Bool.false_and,Bool.true_and,Bool.and_true,Bool.and_false,Bool.or_true,Bool.true_or,Bool.or_false,Bool.false_or,Bool.not_true,Bool.not_false,List.map_cons,List.map_nil,List.set_cons_zero,List.set_cons_succ,List.getElem?_cons_zero,List.getElem?_cons_succ,Option.join_some,Option.map_some,binP_add,binP_sub,binP_mul,binP_fdiv,binP_mod,binP_pow,binP_shl,binP_shr,binP_band,binP_bor,binP_bxor,binP_addN,binP_addT,cmpP_eqI,cmpP_neI,cmpP_eqB,cmpP_neB,cmpP_lt,cmpP_le,cmpP_gt,cmpP_ge,biP_lenT,biP_lenL,biP_abs,biP_min,biP_max,biP_max3,bitP_int,biP_any,revP_T,slP_T,biP_sum,biP_all,biP_tupL,biP_tupT,biP_lstL,biP_lstT,biP_intB,biP_intI,ixP_L,ixP_T,ixQ_0,ixQ_1,ixQ_2,ixQ_3,slP_L,isP_nn,isP_tn,isP_ln,isP_in,isP_bn,isP_bb,negP_int,tyP_ii,tyP_bi,tyP_ib,tyP_bb,tyP_tt,tyP_tn,tyP_ti,oInt,seqP_L,seqP_T,tupP_T,List.length_cons,List.length_nil,List.nil_append,List.cons_append,List.replicate_succ,List.replicate_zero,Nat.reduceSub,Nat.reduceAdd,Nat.reduceLeDiff,Nat.reduceMul,lim0,lim1,lim2,lim3,lim4,lim6,reduceCtorEq,↓reduceIte,if_true,if_false,ite_true,ite_false,List.foldl_cons,List.foldl_nil,frz1,vG_cons,evG_nil,ag,agR,pkR,rtR,Option.bind_some,vE_inV,inR_int,sd0,l1]) (by simp only [vS_nil,vS_frz,vS_set,vS_setIx,vS_app,vS_ret,vS_ite,vS_forS,vS_forR,vS_forV,vS_brk,vS_cnt,vS_forZ,vE_v,vE_k,vE_bin,vE_neg,vE_cmp,vE_isC,vE_and,vE_or,vE_not,vE_ix,vE_sl,vE_tup,vE_lst,vE_call,vE_bi,vE_isi,vE_bitl,vE_ifx,vE_chn,vE_callP,vE_rev,vE_join,vE_fstr,vE_compS,vE_compR,vE_compZ,vA_cons,evA_nil,vAP_cons,evAP_nil,evO_none,vO_some,noOwn,getv,pk,retv,keepR,capt,Bool.false_and,Bool.true_and,Bool.and_true,Bool.and_false,Bool.or_true,Bool.true_or,Bool.or_false,Bool.false_or,Bool.not_true,Bool.not_false,List.map_cons,List.map_nil,List.set_cons_zero,List.set_cons_succ,List.getElem?_cons_zero,List.getElem?_cons_succ,Option.join_some,Option.map_some,binP_add,binP_sub,binP_mul,binP_fdiv,binP_mod,binP_pow,binP_shl,binP_shr,binP_band,binP_bor,binP_bxor,binP_addN,binP_addT,cmpP_eqI,cmpP_neI,cmpP_eqB,cmpP_neB,cmpP_lt,cmpP_le,cmpP_gt,cmpP_ge,biP_lenT,biP_lenL,biP_abs,biP_min,biP_max,biP_max3,bitP_int,biP_any,revP_T,slP_T,biP_sum,biP_all,biP_tupL,biP_tupT,biP_lstL,biP_lstT,biP_intB,biP_intI,ixP_L,ixP_T,ixQ_0,ixQ_1,ixQ_2,ixQ_3,slP_L,isP_nn,isP_tn,isP_ln,isP_in,isP_bn,isP_bb,negP_int,tyP_ii,tyP_bi,tyP_ib,tyP_bb,tyP_tt,tyP_tn,tyP_ti,oInt,seqP_L,seqP_T,tupP_T,List.length_cons,List.length_nil,List.nil_append,List.cons_append,List.replicate_succ,List.replicate_zero,Nat.reduceSub,Nat.reduceAdd,Nat.reduceLeDiff,Nat.reduceMul,lim0,lim1,lim2,lim3,lim4,lim6,reduceCtorEq,↓reduceIte,if_true,if_false,ite_true,ite_false,List.foldl_cons,List.foldl_nil,frz1,vG_cons,evG_nil,ag,agR,pkR,rtR,Option.bind_some,vE_inV,inR_int,sd0,sd1,l3]) rfl (by simp only [vS_nil,vS_frz,vS_set,vS_setIx,vS_app,vS_ret,vS_ite,vS_forS,vS_forR,vS_forV,vS_brk,vS_cnt,vS_forZ,vE_v,vE_k,vE_bin,vE_neg,vE_cmp,vE_isC,vE_and,vE_or,vE_not,vE_ix,vE_sl,vE_tup,vE_lst,vE_call,vE_bi,vE_isi,vE_bitl,vE_ifx,vE_chn,vE_callP,vE_rev,vE_join,vE_fstr,vE_compS,vE_compR,vE_compZ,vA_cons,evA_nil,vAP_cons,evAP_nil,evO_none,vO_some,noOwn,getv,pk,retv,keepR,capt,Bool.false_and,Bool.true_and,Bool.and_true,Bool.and_false,Bool.or_true,Bool.true_or,Bool.or_false,Bool.false_or,Bool.not_true,Bool.not_false,List.map_cons,List.map_nil,List.set_cons_zero,List.set_cons_succ,List.getElem?_cons_zero,List.getElem?_cons_succ,Option.join_some,Option.map_some,binP_add,binP_sub,binP_mul,binP_fdiv,binP_mod,binP_pow,binP_shl,binP_shr,binP_band,binP_bor,binP_bxor,binP_addN,binP_addT,cmpP_eqI,cmpP_neI,cmpP_eqB,cmpP_neB,cmpP_lt,cmpP_le,cmpP_gt,cmpP_ge,biP_lenT,biP_lenL,biP_abs,biP_min,biP_max,biP_max3,bitP_int,biP_any,revP_T,slP_T,biP_sum,biP_all,biP_tupL,biP_tupT,biP_lstL,biP_lstT,biP_intB,biP_intI,ixP_L,ixP_T,ixQ_0,ixQ_1,ixQ_2,ixQ_3,slP_L,isP_nn,isP_tn,isP_ln,isP_in,isP_bn,isP_bb,negP_int,tyP_ii,tyP_bi,tyP_ib,tyP_bb,tyP_tt,tyP_tn,tyP_ti,oInt,seqP_L,seqP_T,tupP_T,List.length_cons,List.length_nil,List.nil_append,List.cons_append,List.replicate_succ,List.replicate_zero,Nat.reduceSub,Nat.reduceAdd,Nat.reduceLeDiff,Nat.reduceMul,lim0,lim1,lim2,lim3,lim4,lim6,reduceCtorEq,↓reduceIte,if_true,if_false,ite_true,ite_false,List.foldl_cons,List.foldl_nil,frz1,vG_cons,evG_nil,ag,agR,pkR,rtR,Option.bind_some,vE_inV,inR_int])
    have fin:∀d:D,pl d=true→pls d=true→sid d=false→evE call [some (false,sdD p),some (false,.int 12),some (false,.int place),some (false,.int far)] (.ix (.lst [(.tup [(.ix (.v 0) (.k (.int 0)))]),(.tup [(.ix (.v 0) (.k (.int 0))),(.ix (.v 0) (.k (.int 1))),(.ix (.v 0) (.k (.int 1)))]),(.k .non),(.tup [])]) (.bin .mod (.v 2) (.k (.int 4))))=some (false,d)→∃fl d,evSs call [some (false,sdD p),some (false,.int 12),some (false,.int place),some (false,.int far)] f_law_side_spoiled.body=some (.rt (fl,d))∧pl d=true∧pls d=true∧sid d=false:=λd h1 h2 h3 he =>
      ⟨false,d,st_skip (x:=false) rfl (st_skip (x:=false) rfl (st_skip (x:=false) rfl (st_skip (x:=false) rfl (st_TR (x:=false) (r:=(false,d)) rfl (st_ret (r:=(false,d)) he rfl) rfl)))),h1,h2,h3⟩
    rcases fm4 place with hr|hr|hr|hr
    · exact fin (.tup [.int p.1]) rfl rfl rfl (e_ix (pk_lst e4) (pk_bin (e_mod rfl d4 hr)) rfl)
    · exact fin (.tup [.int p.1,.int p.2,.int p.2]) rfl rfl rfl (e_ix (pk_lst e4) (pk_bin (e_mod rfl d4 hr)) rfl)
    · exact fin .non rfl rfl rfl (e_ix (pk_lst e4) (pk_bin (e_mod rfl d4 hr)) rfl)
    · exact fin (.tup []) rfl rfl rfl (e_ix (pk_lst e4) (pk_bin (e_mod rfl d4 hr)) rfl)
  · have e5:evE call [some (false,sdD p),some (false,.int 13),some (false,.int place),some (false,.int far)] (.call 10 [(.v 2)])=some (false,sp):=e_call1 rfl C10
    have t1:evE call [some (false,sdD p),some (false,.int 13),some (false,.int place),some (false,.int far)] (.tup [(.call 10 [(.v 2)]),(.k (.int 9))])=some (false,.tup [sp,.int 9]):=e_tup2 (x:=(false,sp)) (y:=(false,.int 9)) e5 rfl
    have t2:evE call [some (false,sdD p),some (false,.int 13),some (false,.int place),some (false,.int far)] (.tup [(.neg (.k (.int 9))),(.call 10 [(.v 2)])])=some (false,.tup [.int (-9),sp]):=e_tup2 (x:=(false,.int (-9))) (y:=(false,sp)) rfl e5
    rcases fm2 (place.fdiv 4) with hr|hr
    · refine⟨false,.tup [sp,.int 9],st_skip (x:=false) rfl (st_skip (x:=false) rfl (st_skip (x:=false) rfl (st_skip (x:=false) rfl (st_skip (x:=false) rfl (st_TR (x:=false) (r:=(false,.tup [sp,.int 9])) (e_cmp (x:=.int 0) (y:=.int 0) (pk_bin (e_mod (pk_bin (e_div rfl d4)) d2 hr)) rfl rfl) (st_ret (r:=(false,.tup [sp,.int 9])) t1 rfl) rfl))))),rfl,?_,sid_no ?_⟩
      · show [sp,D.int 9].all pl=true
        rw [List.all_cons,List.all_cons,hsp];rfl
      · rw [hsn,Bool.false_and]
    · refine⟨false,.tup [.int (-9),sp],st_skip (x:=false) rfl (st_skip (x:=false) rfl (st_skip (x:=false) rfl (st_skip (x:=false) rfl (st_skip (x:=false) rfl (st_skip (x:=false) (e_cmp (x:=.int 1) (y:=.int 0) (pk_bin (e_mod (pk_bin (e_div rfl d4)) d2 hr)) rfl rfl) (st_ret (r:=(false,.tup [.int (-9),sp])) t2 rfl)))))),rfl,?_,sid_no ?_⟩
      · show [D.int (-9),sp].all pl=true
        rw [List.all_cons,List.all_cons,hsp];rfl
      · rw [hsn,Bool.and_false]
end
section
variable {call:Nat→List D→Option R}
variable (h:Int) (S:List (Int×Int)) (V:List Int) (k w:Int) (place far:Int) (hf:0≤far) (at_:Nat) (hS:S.length=2∨S.length=3) (hV:V.length=S.length) (hat:at_<S.length) (sp:D) (hsp:pl sp=true) (hspb:pb sp=true) (hsn:∀lo hi,num sp lo hi=false) (hsb:box sp=false) (C11:∀(xs:List D) (j:Nat) (d:D),j<xs.length→xs.length≤10000→pl d=true→call 11 [.tup xs,.int (j:Int),d]=some (false,.tup (xs.set j d))) (o6 o7 o8:Option R)
include hf hS hV hat hsp hspb hsn hsb C11
theorem w_8 (way:Int) (hw:way=8∨way=9∨way=10∨way=11∨way=12∨way=13) (C12:∀p:Int×Int,∃fl d,call 12 [sdD p,.int way,.int place,.int far]=some (fl,d)∧pl d=true∧pls d=true∧sid d=false):∃a b s m w',evSs call [some (false,paD h S V k w),some (false,.int way),some (false,.int place),some (false,.int far),some (false,.int (at_:Int)),some (false,sp),o6,o7,o8] [.ite (.cmp .le (.v 1) (.k (.int 13))) [.ret (.call 11 [(.v 0),(.k (.int 1)),(.call 11 [(.ix (.v 0) (.k (.int 1))),(.v 4),(.call 12 [(.ix (.ix (.v 0) (.k (.int 1))) (.v 4)),(.v 1),(.v 2),(.v 3)])])])] [],.ite (.cmp .eq (.v 1) (.k (.int 14))) [.ret (.call 11 [(.v 0),(.k (.int 2)),(.ix (.lst [(.bi .list [(.ix (.v 0) (.k (.int 2)))]),(.sl (.ix (.v 0) (.k (.int 2))) (some (.k (.int 1))) none),(.bin .add (.ix (.v 0) (.k (.int 2))) (.tup [(.k (.int 0))])),(.k (.int 0))]) (.bin .mod (.v 2) (.k (.int 4))))])] [],.ite (.cmp .eq (.v 1) (.k (.int 15))) [.set 8 false (.bin .mul (.bin .add (.bin .add (.bin .pow (.k (.int 10)) (.k (.int 15))) (.k (.int 1))) (.v 3)) (.bin .sub (.k (.int 1)) (.bin .mul (.k (.int 2)) (.bin .mod (.v 2) (.k (.int 2)))))),.ret (.call 11 [(.v 0),(.k (.int 2)),(.call 11 [(.ix (.v 0) (.k (.int 2))),(.v 4),(.v 8)])])] [],.ite (.cmp .eq (.v 1) (.k (.int 16))) [.ret (.call 11 [(.v 0),(.k (.int 2)),(.call 11 [(.ix (.v 0) (.k (.int 2))),(.v 4),(.v 5)])])] [],.ite (.or (.cmp .eq (.v 1) (.k (.int 17))) (.cmp .eq (.v 1) (.k (.int 18)))) [.ret (.call 11 [(.v 0),(.k (.int 3)),(.ix (.lst [(.bin .sub (.neg (.k (.int 1))) (.v 3)),(.bin .add (.k (.int 65536)) (.v 3))]) (.bin .sub (.v 1) (.k (.int 17))))])] [],.ite (.cmp .eq (.v 1) (.k (.int 19))) [.ret (.call 11 [(.v 0),(.k (.int 3)),(.v 5)])] [],.ite (.cmp .eq (.v 1) (.k (.int 20))) [.ret (.call 11 [(.v 0),(.k (.int 4)),(.bin .mul (.bin .add (.bin .add (.bin .pow (.k (.int 10)) (.k (.int 30))) (.k (.int 1))) (.v 3)) (.bin .sub (.k (.int 1)) (.bin .mul (.k (.int 2)) (.bin .mod (.v 2) (.k (.int 2))))))])] [],.ret (.call 11 [(.v 0),(.k (.int 4)),(.v 5)])]=some (.rt (false,.tup [a,b,s,m,w']))∧Bd5 a b s m w':=by
  obtain⟨p,hp⟩:∃p,S[at_]?=some p:=⟨S[at_],List.getElem?_eq_getElem hat⟩
  obtain⟨fl,d,q1,q2,q3,q4⟩:=C12 p
  have hx:ixP (.tup (S.map sdD)) (.int (at_:Int))=some (false,sdD p):=by
    rw [ixP_T,ixQ_nat,List.getElem?_map,hp]
    rfl
  have e1:=e_ix (call:=call) (σ:=[some (false,paD h S V k w),some (false,.int way),some (false,.int place),some (false,.int far),some (false,.int (at_:Int)),some (false,sp),o6,o7,o8]) (a:=.ix (.v 0) (.k (.int 1))) (b:=.v 4) (x:=.tup (S.map sdD)) rfl rfl hx
  have e2:=e_call4 (call:=call) (σ:=[some (false,paD h S V k w),some (false,.int way),some (false,.int place),some (false,.int far),some (false,.int (at_:Int)),some (false,sp),o6,o7,o8]) (f:=12) (a:=.ix (.ix (.v 0) (.k (.int 1))) (.v 4)) (b:=.v 1) (c:=.v 2) (d:=.v 3) (by rw [e1];rfl) rfl rfl rfl q1
  have e3:=e_call3 (call:=call) (σ:=[some (false,paD h S V k w),some (false,.int way),some (false,.int place),some (false,.int far),some (false,.int (at_:Int)),some (false,sp),o6,o7,o8]) (f:=11) (a:=.ix (.v 0) (.k (.int 1))) (b:=.v 4) (x:=.tup (S.map sdD)) (y:=.int (at_:Int)) rfl rfl (ag_call e2) (C11 (S.map sdD) at_ d (by rw [List.length_map];exact hat) (by rw [List.length_map];omega) q2)
  refine⟨_,_,_,_,_,st_TR (x:=false) (r:=(false,.tup [.int h,.tup ((S.map sdD).set at_ d),.tup (V.map D.int),.int k,.int w])) ?_ (st_ret (r:=(false,.tup [.int h,.tup ((S.map sdD).set at_ d),.tup (V.map D.int),.int k,.int w])) (e_call3 (y:=.int ((1:Nat):Int)) rfl rfl (ag_call e3) (C11 _ 1 (.tup ((S.map sdD).set at_ d)) (by show 1<5;decide) (by show 5≤10000;decide) rfl)) rfl) rfl,rfl,rfl,all_set (pb_S S) (by rw [q2,q3];rfl),rfl,pls_V V,rfl,rfl,bad_b (box_set hat q4)⟩
  rcases hw with rfl|rfl|rfl|rfl|rfl|rfl<;>rfl
end
end Dw.T
namespace Dw.T
open Dw
section
variable {call:Nat→List D→Option R}
variable (h:Int) (S:List (Int×Int)) (V:List Int) (k w:Int) (place far:Int) (hf:0≤far) (at_:Nat) (hS:S.length=2∨S.length=3) (hV:V.length=S.length) (hat:at_<S.length) (sp:D) (hsp:pl sp=true) (hspb:pb sp=true) (hsn:∀lo hi,num sp lo hi=false) (hsb:box sp=false) (C11:∀(xs:List D) (j:Nat) (d:D),j<xs.length→xs.length≤10000→pl d=true→call 11 [.tup xs,.int (j:Int),d]=some (false,.tup (xs.set j d))) (o6 o7 o8:Option R)
include hf hS hV hat hsp hspb hsn hsb C11
theorem w_56 (way:Int) (hw:way=5∨way=6) (M:Nat) (hM:evE call [some (false,paD h S V k w),some (false,.int way),some (false,.int place),some (false,.int far),some (false,.int (at_:Int)),some (false,sp),o6,o7,o8] (.ix (.lst [(.k (.int 1)),(.k (.int 4)),(.bin .mul (.k (.int 2)) (.bi .len [(.ix (.v 0) (.k (.int 1)))]))]) (.bin .mul (.bin .sub (.v 1) (.k (.int 5))) (.bin .add (.k (.int 1)) (.bin .mod (.v 2) (.k (.int 2))))))=some (false,.int (M:Int))) (hl:(((S.map sdD)++(S.map sdD)).take M).length≠2∧(((S.map sdD)++(S.map sdD)).take M).length≠3):∃a b s m w',evSs call [some (false,paD h S V k w),some (false,.int way),some (false,.int place),some (false,.int far),some (false,.int (at_:Int)),some (false,sp),o6,o7,o8] [.ite (.or (.cmp .eq (.v 1) (.k (.int 5))) (.cmp .eq (.v 1) (.k (.int 6)))) [.set 6 false (.ix (.lst [(.k (.int 1)),(.k (.int 4)),(.bin .mul (.k (.int 2)) (.bi .len [(.ix (.v 0) (.k (.int 1)))]))]) (.bin .mul (.bin .sub (.v 1) (.k (.int 5))) (.bin .add (.k (.int 1)) (.bin .mod (.v 2) (.k (.int 2)))))),.set 7 false (.ix (.lst [(.sl (.bin .add (.ix (.v 0) (.k (.int 2))) (.ix (.v 0) (.k (.int 2)))) none (some (.v 6))),(.k .non)]) (.bin .mod (.bin .fdiv (.v 2) (.k (.int 2))) (.k (.int 2)))),.ret (.call 11 [(.call 11 [(.v 0),(.k (.int 1)),(.sl (.bin .add (.ix (.v 0) (.k (.int 1))) (.ix (.v 0) (.k (.int 1)))) none (some (.v 6)))]),(.k (.int 2)),(.v 7)])] [],.ite (.cmp .eq (.v 1) (.k (.int 7))) [.ret (.call 11 [(.call 11 [(.v 0),(.k (.int 1)),(.v 5)]),(.k (.int 2)),(.ix (.lst [(.ix (.v 0) (.k (.int 2))),(.k .non)]) (.bin .mod (.bin .fdiv (.v 2) (.k (.int 4))) (.k (.int 2))))])] [],.ite (.cmp .le (.v 1) (.k (.int 13))) [.ret (.call 11 [(.v 0),(.k (.int 1)),(.call 11 [(.ix (.v 0) (.k (.int 1))),(.v 4),(.call 12 [(.ix (.ix (.v 0) (.k (.int 1))) (.v 4)),(.v 1),(.v 2),(.v 3)])])])] [],.ite (.cmp .eq (.v 1) (.k (.int 14))) [.ret (.call 11 [(.v 0),(.k (.int 2)),(.ix (.lst [(.bi .list [(.ix (.v 0) (.k (.int 2)))]),(.sl (.ix (.v 0) (.k (.int 2))) (some (.k (.int 1))) none),(.bin .add (.ix (.v 0) (.k (.int 2))) (.tup [(.k (.int 0))])),(.k (.int 0))]) (.bin .mod (.v 2) (.k (.int 4))))])] [],.ite (.cmp .eq (.v 1) (.k (.int 15))) [.set 8 false (.bin .mul (.bin .add (.bin .add (.bin .pow (.k (.int 10)) (.k (.int 15))) (.k (.int 1))) (.v 3)) (.bin .sub (.k (.int 1)) (.bin .mul (.k (.int 2)) (.bin .mod (.v 2) (.k (.int 2)))))),.ret (.call 11 [(.v 0),(.k (.int 2)),(.call 11 [(.ix (.v 0) (.k (.int 2))),(.v 4),(.v 8)])])] [],.ite (.cmp .eq (.v 1) (.k (.int 16))) [.ret (.call 11 [(.v 0),(.k (.int 2)),(.call 11 [(.ix (.v 0) (.k (.int 2))),(.v 4),(.v 5)])])] [],.ite (.or (.cmp .eq (.v 1) (.k (.int 17))) (.cmp .eq (.v 1) (.k (.int 18)))) [.ret (.call 11 [(.v 0),(.k (.int 3)),(.ix (.lst [(.bin .sub (.neg (.k (.int 1))) (.v 3)),(.bin .add (.k (.int 65536)) (.v 3))]) (.bin .sub (.v 1) (.k (.int 17))))])] [],.ite (.cmp .eq (.v 1) (.k (.int 19))) [.ret (.call 11 [(.v 0),(.k (.int 3)),(.v 5)])] [],.ite (.cmp .eq (.v 1) (.k (.int 20))) [.ret (.call 11 [(.v 0),(.k (.int 4)),(.bin .mul (.bin .add (.bin .add (.bin .pow (.k (.int 10)) (.k (.int 30))) (.k (.int 1))) (.v 3)) (.bin .sub (.k (.int 1)) (.bin .mul (.k (.int 2)) (.bin .mod (.v 2) (.k (.int 2))))))])] [],.ret (.call 11 [(.v 0),(.k (.int 4)),(.v 5)])]=some (.rt (false,.tup [a,b,s,m,w']))∧Bd5 a b s m w':=by
  have d2:divOk 2=true:=by decide
  have a1:evE call [some (false,paD h S V k w),some (false,.int way),some (false,.int place),some (false,.int far),some (false,.int (at_:Int)),some (false,sp),some (false,.int (M:Int)),o7,o8] (.bin .add (.ix (.v 0) (.k (.int 2))) (.ix (.v 0) (.k (.int 2))))=some (false,.tup ((V.map D.int)++(V.map D.int))):=e_bin (x:=.tup (V.map D.int)) (y:=.tup (V.map D.int)) rfl rfl (tup_add _ _ (by rw [List.length_map];omega))
  have a2:=e_slT (call:=call) (σ:=[some (false,paD h S V k w),some (false,.int way),some (false,.int place),some (false,.int far),some (false,.int (at_:Int)),some (false,sp),some (false,.int (M:Int)),o7,o8]) (lo:=none) (hi:=some (.v 6)) (h:=some (M:Int)) (pk_b a1) rfl (e_o rfl)
  rw [cut_hi] at a2
  have a3:=e_lst2 (call:=call) (b:=.k .non) (y:=(false,.non)) a2 rfl
  have hP:∃d:D,pl d=true∧pls d=true∧evE call [some (false,paD h S V k w),some (false,.int way),some (false,.int place),some (false,.int far),some (false,.int (at_:Int)),some (false,sp),some (false,.int (M:Int)),o7,o8] (.ix (.lst [(.sl (.bin .add (.ix (.v 0) (.k (.int 2))) (.ix (.v 0) (.k (.int 2)))) none (some (.v 6))),(.k .non)]) (.bin .mod (.bin .fdiv (.v 2) (.k (.int 2))) (.k (.int 2))))=some (false,d):=by
    rcases fm2 (place.fdiv 2) with hr|hr
    · exact⟨.tup (((V.map D.int)++(V.map D.int)).take M),rfl,pls_take V M,e_ix (pk_lst a3) (pk_bin (e_mod (pk_bin (e_div rfl d2)) d2 hr)) rfl⟩
    · exact⟨.non,rfl,rfl,e_ix (pk_lst a3) (pk_bin (e_mod (pk_bin (e_div rfl d2)) d2 hr)) rfl⟩
  obtain⟨d,h1,h2,he⟩:=hP
  have b1:evE call [some (false,paD h S V k w),some (false,.int way),some (false,.int place),some (false,.int far),some (false,.int (at_:Int)),some (false,sp),some (false,.int (M:Int)),some (false,d),o8] (.bin .add (.ix (.v 0) (.k (.int 1))) (.ix (.v 0) (.k (.int 1))))=some (false,.tup ((S.map sdD)++(S.map sdD))):=e_bin (x:=.tup (S.map sdD)) (y:=.tup (S.map sdD)) rfl rfl (tup_add _ _ (by rw [List.length_map];omega))
  have b2:=e_slT (call:=call) (σ:=[some (false,paD h S V k w),some (false,.int way),some (false,.int place),some (false,.int far),some (false,.int (at_:Int)),some (false,sp),some (false,.int (M:Int)),some (false,d),o8]) (lo:=none) (hi:=some (.v 6)) (h:=some (M:Int)) (pk_b b1) rfl (e_o rfl)
  rw [cut_hi] at b2
  have b3:=e_call3 (call:=call) (σ:=[some (false,paD h S V k w),some (false,.int way),some (false,.int place),some (false,.int far),some (false,.int (at_:Int)),some (false,sp),some (false,.int (M:Int)),some (false,d),o8]) (f:=11) (a:=.v 0) (b:=.k (.int 1)) (y:=.int ((1:Nat):Int)) rfl rfl (by rw [b2];rfl) (C11 [.int h,.tup (S.map sdD),.tup (V.map D.int),.int k,.int w] 1 (.tup (((S.map sdD)++(S.map sdD)).take M)) (by show 1<5;decide) (by show 5≤10000;decide) rfl)
  refine⟨_,_,_,_,_,st_TR (x:=false) (r:=(false,.tup [.int h,.tup (((S.map sdD)++(S.map sdD)).take M),d,.int k,.int w])) ?_ (st_set _ hM (st_set _ he (st_ret (r:=(false,.tup [.int h,.tup (((S.map sdD)++(S.map sdD)).take M),d,.int k,.int w])) (e_call3 (y:=.int ((2:Nat):Int)) (ag_call b3) rfl rfl (C11 [.int h,.tup (((S.map sdD)++(S.map sdD)).take M),.tup (V.map D.int),.int k,.int w] 2 d (by show 2<5;decide) (by show 5≤10000;decide) h1)) rfl))) rfl,rfl,rfl,pb_take S M,h1,h2,rfl,rfl,bad_b (box_len hl)⟩
  rcases hw with rfl|rfl<;>rfl
theorem w_5 (way:Int) (hw:way=5∨way=6):∃a b s m w',evSs call [some (false,paD h S V k w),some (false,.int way),some (false,.int place),some (false,.int far),some (false,.int (at_:Int)),some (false,sp),o6,o7,o8] [.ite (.or (.cmp .eq (.v 1) (.k (.int 5))) (.cmp .eq (.v 1) (.k (.int 6)))) [.set 6 false (.ix (.lst [(.k (.int 1)),(.k (.int 4)),(.bin .mul (.k (.int 2)) (.bi .len [(.ix (.v 0) (.k (.int 1)))]))]) (.bin .mul (.bin .sub (.v 1) (.k (.int 5))) (.bin .add (.k (.int 1)) (.bin .mod (.v 2) (.k (.int 2)))))),.set 7 false (.ix (.lst [(.sl (.bin .add (.ix (.v 0) (.k (.int 2))) (.ix (.v 0) (.k (.int 2)))) none (some (.v 6))),(.k .non)]) (.bin .mod (.bin .fdiv (.v 2) (.k (.int 2))) (.k (.int 2)))),.ret (.call 11 [(.call 11 [(.v 0),(.k (.int 1)),(.sl (.bin .add (.ix (.v 0) (.k (.int 1))) (.ix (.v 0) (.k (.int 1)))) none (some (.v 6)))]),(.k (.int 2)),(.v 7)])] [],.ite (.cmp .eq (.v 1) (.k (.int 7))) [.ret (.call 11 [(.call 11 [(.v 0),(.k (.int 1)),(.v 5)]),(.k (.int 2)),(.ix (.lst [(.ix (.v 0) (.k (.int 2))),(.k .non)]) (.bin .mod (.bin .fdiv (.v 2) (.k (.int 4))) (.k (.int 2))))])] [],.ite (.cmp .le (.v 1) (.k (.int 13))) [.ret (.call 11 [(.v 0),(.k (.int 1)),(.call 11 [(.ix (.v 0) (.k (.int 1))),(.v 4),(.call 12 [(.ix (.ix (.v 0) (.k (.int 1))) (.v 4)),(.v 1),(.v 2),(.v 3)])])])] [],.ite (.cmp .eq (.v 1) (.k (.int 14))) [.ret (.call 11 [(.v 0),(.k (.int 2)),(.ix (.lst [(.bi .list [(.ix (.v 0) (.k (.int 2)))]),(.sl (.ix (.v 0) (.k (.int 2))) (some (.k (.int 1))) none),(.bin .add (.ix (.v 0) (.k (.int 2))) (.tup [(.k (.int 0))])),(.k (.int 0))]) (.bin .mod (.v 2) (.k (.int 4))))])] [],.ite (.cmp .eq (.v 1) (.k (.int 15))) [.set 8 false (.bin .mul (.bin .add (.bin .add (.bin .pow (.k (.int 10)) (.k (.int 15))) (.k (.int 1))) (.v 3)) (.bin .sub (.k (.int 1)) (.bin .mul (.k (.int 2)) (.bin .mod (.v 2) (.k (.int 2)))))),.ret (.call 11 [(.v 0),(.k (.int 2)),(.call 11 [(.ix (.v 0) (.k (.int 2))),(.v 4),(.v 8)])])] [],.ite (.cmp .eq (.v 1) (.k (.int 16))) [.ret (.call 11 [(.v 0),(.k (.int 2)),(.call 11 [(.ix (.v 0) (.k (.int 2))),(.v 4),(.v 5)])])] [],.ite (.or (.cmp .eq (.v 1) (.k (.int 17))) (.cmp .eq (.v 1) (.k (.int 18)))) [.ret (.call 11 [(.v 0),(.k (.int 3)),(.ix (.lst [(.bin .sub (.neg (.k (.int 1))) (.v 3)),(.bin .add (.k (.int 65536)) (.v 3))]) (.bin .sub (.v 1) (.k (.int 17))))])] [],.ite (.cmp .eq (.v 1) (.k (.int 19))) [.ret (.call 11 [(.v 0),(.k (.int 3)),(.v 5)])] [],.ite (.cmp .eq (.v 1) (.k (.int 20))) [.ret (.call 11 [(.v 0),(.k (.int 4)),(.bin .mul (.bin .add (.bin .add (.bin .pow (.k (.int 10)) (.k (.int 30))) (.k (.int 1))) (.v 3)) (.bin .sub (.k (.int 1)) (.bin .mul (.k (.int 2)) (.bin .mod (.v 2) (.k (.int 2))))))])] [],.ret (.call 11 [(.v 0),(.k (.int 4)),(.v 5)])]=some (.rt (false,.tup [a,b,s,m,w']))∧Bd5 a b s m w':=by
  have d2:divOk 2=true:=by decide
  have eM:evE call [some (false,paD h S V k w),some (false,.int way),some (false,.int place),some (false,.int far),some (false,.int (at_:Int)),some (false,sp),o6,o7,o8] (.bin .mul (.k (.int 2)) (.bi .len [(.ix (.v 0) (.k (.int 1)))]))=some (false,.int ((2 * S.length:Nat):Int)):=e_bin (x:=.int 2) (y:=.int ((S.length:Nat):Int)) rfl (pk_bi (r:=(false,.int ((S.length:Nat):Int))) (e_bi1 (x:=.tup (S.map sdD)) rfl (by show some (false,D.int (((S.map sdD).length:Nat):Int))=_;rw [List.length_map]))) (by rw [binP_mul,if_pos (mulL 2 _ (by decide))];show some (false,D.int (2 * (S.length:Int)))=some (false,D.int ((2 * S.length:Nat):Int));rw [Int.natCast_mul];rfl)
  have e3:=e_lst3 (call:=call) (a:=.k (.int 1)) (b:=.k (.int 4)) (x:=(false,.int 1)) (y:=(false,.int 4)) rfl rfl eM
  have ix:∀(r q j:Int),place.fmod 2=r→way - 5=q→q * (1+r)=j→q.natAbs<2^64→evE call [some (false,paD h S V k w),some (false,.int way),some (false,.int place),some (false,.int far),some (false,.int (at_:Int)),some (false,sp),o6,o7,o8] (.bin .mul (.bin .sub (.v 1) (.k (.int 5))) (.bin .add (.k (.int 1)) (.bin .mod (.v 2) (.k (.int 2)))))=some (false,.int j):=λr q j h1 h2 h3 h4=>e_bin (x:=.int q) (y:=.int (1+r)) (pk_b (e_bin rfl rfl (by show some (false,D.int (way - 5))=_;rw [h2]))) (pk_b (e_bin (x:=.int 1) (y:=.int r) rfl (pk_b (e_mod rfl d2 h1)) rfl)) (by rw [binP_mul,if_pos (mulL _ _ h4),h3])
  have hP:(S.map sdD).length=S.length:=List.length_map _
  rcases fm2 place with hr|hr
  · rcases hw with rfl|rfl
    · exact w_56 h S V k w place far hf at_ hS hV hat sp hsp hspb hsn hsb C11 o6 o7 o8 5 (.inl rfl) 1 (e_ix (pk_lst e3) (pk_b (ix 0 0 0 hr rfl rfl (by decide))) rfl) (by rw [List.length_take,List.length_append,hP];omega)
    · exact w_56 h S V k w place far hf at_ hS hV hat sp hsp hspb hsn hsb C11 o6 o7 o8 6 (.inr rfl) 4 (e_ix (pk_lst e3) (pk_b (ix 0 1 1 hr rfl rfl (by decide))) rfl) (by rw [List.length_take,List.length_append,hP];omega)
  · rcases hw with rfl|rfl
    · exact w_56 h S V k w place far hf at_ hS hV hat sp hsp hspb hsn hsb C11 o6 o7 o8 5 (.inl rfl) 1 (e_ix (pk_lst e3) (pk_b (ix 1 0 0 hr rfl rfl (by decide))) rfl) (by rw [List.length_take,List.length_append,hP];omega)
    · exact w_56 h S V k w place far hf at_ hS hV hat sp hsp hspb hsn hsb C11 o6 o7 o8 6 (.inr rfl) (2 * S.length) (e_ix (pk_lst e3) (pk_b (ix 1 1 2 hr rfl rfl (by decide))) rfl) (by rw [List.length_take,List.length_append,hP];omega)
theorem w_all (way:Int) (hw:1≤way∧way≤21) (C12:∀(p:Int×Int),(way=8∨way=9∨way=10∨way=11∨way=12∨way=13)→∃fl d,call 12 [sdD p,.int way,.int place,.int far]=some (fl,d)∧pl d=true∧pls d=true∧sid d=false):∃a b s m w',evSs call [some (false,paD h S V k w),some (false,.int way),some (false,.int place),some (false,.int far),some (false,.int (at_:Int)),some (false,sp),o6,o7,o8] [.ite (.or (.cmp .eq (.v 1) (.k (.int 1))) (.or (.cmp .eq (.v 1) (.k (.int 2))) (.cmp .eq (.v 1) (.k (.int 3))))) [.ret (.call 11 [(.v 0),(.k (.int 0)),(.ix (.lst [(.bin .sub (.neg (.k (.int 1))) (.v 3)),(.bin .add (.bin .add (.bin .pow (.k (.int 10)) (.k (.int 18))) (.k (.int 1))) (.v 3)),(.v 5)]) (.bin .sub (.v 1) (.k (.int 1))))])] [],.ite (.cmp .eq (.v 1) (.k (.int 4))) [.ret (.call 11 [(.v 0),(.k (.int 1)),(.bi .list [(.ix (.v 0) (.k (.int 1)))])])] [],.ite (.or (.cmp .eq (.v 1) (.k (.int 5))) (.cmp .eq (.v 1) (.k (.int 6)))) [.set 6 false (.ix (.lst [(.k (.int 1)),(.k (.int 4)),(.bin .mul (.k (.int 2)) (.bi .len [(.ix (.v 0) (.k (.int 1)))]))]) (.bin .mul (.bin .sub (.v 1) (.k (.int 5))) (.bin .add (.k (.int 1)) (.bin .mod (.v 2) (.k (.int 2)))))),.set 7 false (.ix (.lst [(.sl (.bin .add (.ix (.v 0) (.k (.int 2))) (.ix (.v 0) (.k (.int 2)))) none (some (.v 6))),(.k .non)]) (.bin .mod (.bin .fdiv (.v 2) (.k (.int 2))) (.k (.int 2)))),.ret (.call 11 [(.call 11 [(.v 0),(.k (.int 1)),(.sl (.bin .add (.ix (.v 0) (.k (.int 1))) (.ix (.v 0) (.k (.int 1)))) none (some (.v 6)))]),(.k (.int 2)),(.v 7)])] [],.ite (.cmp .eq (.v 1) (.k (.int 7))) [.ret (.call 11 [(.call 11 [(.v 0),(.k (.int 1)),(.v 5)]),(.k (.int 2)),(.ix (.lst [(.ix (.v 0) (.k (.int 2))),(.k .non)]) (.bin .mod (.bin .fdiv (.v 2) (.k (.int 4))) (.k (.int 2))))])] [],.ite (.cmp .le (.v 1) (.k (.int 13))) [.ret (.call 11 [(.v 0),(.k (.int 1)),(.call 11 [(.ix (.v 0) (.k (.int 1))),(.v 4),(.call 12 [(.ix (.ix (.v 0) (.k (.int 1))) (.v 4)),(.v 1),(.v 2),(.v 3)])])])] [],.ite (.cmp .eq (.v 1) (.k (.int 14))) [.ret (.call 11 [(.v 0),(.k (.int 2)),(.ix (.lst [(.bi .list [(.ix (.v 0) (.k (.int 2)))]),(.sl (.ix (.v 0) (.k (.int 2))) (some (.k (.int 1))) none),(.bin .add (.ix (.v 0) (.k (.int 2))) (.tup [(.k (.int 0))])),(.k (.int 0))]) (.bin .mod (.v 2) (.k (.int 4))))])] [],.ite (.cmp .eq (.v 1) (.k (.int 15))) [.set 8 false (.bin .mul (.bin .add (.bin .add (.bin .pow (.k (.int 10)) (.k (.int 15))) (.k (.int 1))) (.v 3)) (.bin .sub (.k (.int 1)) (.bin .mul (.k (.int 2)) (.bin .mod (.v 2) (.k (.int 2)))))),.ret (.call 11 [(.v 0),(.k (.int 2)),(.call 11 [(.ix (.v 0) (.k (.int 2))),(.v 4),(.v 8)])])] [],.ite (.cmp .eq (.v 1) (.k (.int 16))) [.ret (.call 11 [(.v 0),(.k (.int 2)),(.call 11 [(.ix (.v 0) (.k (.int 2))),(.v 4),(.v 5)])])] [],.ite (.or (.cmp .eq (.v 1) (.k (.int 17))) (.cmp .eq (.v 1) (.k (.int 18)))) [.ret (.call 11 [(.v 0),(.k (.int 3)),(.ix (.lst [(.bin .sub (.neg (.k (.int 1))) (.v 3)),(.bin .add (.k (.int 65536)) (.v 3))]) (.bin .sub (.v 1) (.k (.int 17))))])] [],.ite (.cmp .eq (.v 1) (.k (.int 19))) [.ret (.call 11 [(.v 0),(.k (.int 3)),(.v 5)])] [],.ite (.cmp .eq (.v 1) (.k (.int 20))) [.ret (.call 11 [(.v 0),(.k (.int 4)),(.bin .mul (.bin .add (.bin .add (.bin .pow (.k (.int 10)) (.k (.int 30))) (.k (.int 1))) (.v 3)) (.bin .sub (.k (.int 1)) (.bin .mul (.k (.int 2)) (.bin .mod (.v 2) (.k (.int 2))))))])] [],.ret (.call 11 [(.v 0),(.k (.int 4)),(.v 5)])]=some (.rt (false,.tup [a,b,s,m,w']))∧Bd5 a b s m w':=by
  have sk:∀{c:C} {a rest:List Dw.S} {z:Option Ou},evE call [some (false,paD h S V k w),some (false,.int way),some (false,.int place),some (false,.int far),some (false,.int (at_:Int)),some (false,sp),o6,o7,o8] c=some (false,.bl false)→evSs call [some (false,paD h S V k w),some (false,.int way),some (false,.int place),some (false,.int far),some (false,.int (at_:Int)),some (false,sp),o6,o7,o8] rest=z→evSs call [some (false,paD h S V k w),some (false,.int way),some (false,.int place),some (false,.int far),some (false,.int (at_:Int)),some (false,sp),o6,o7,o8] (.ite c a []::rest)=z:=λh1 h2=>st_skip (x:=false) h1 h2
  have hc:(way=1∨way=2∨way=3)∨way=4∨(way=5∨way=6)∨way=7∨(way=8∨way=9∨way=10∨way=11∨way=12∨way=13)∨way=14∨way=15∨way=16∨way=17∨way=18∨way=19∨way=20∨way=21:=by omega
  rcases hc with h1|rfl|h5|rfl|h8|rfl|rfl|rfl|rfl|rfl|rfl|rfl|rfl
  · exact w_a h S V k w place far hf at_ sp hsp hsn C11 way h1 o6 o7 o8
  · obtain⟨a,b,s,m,w',q1,q2⟩:=w_4 h S V k w place far hf at_ hS hV hat sp hsp hspb hsn hsb C11 o6 o7 o8
    exact⟨a,b,s,m,w',sk rfl (q1),q2⟩
  · obtain⟨a,b,s,m,w',q1,q2⟩:=w_5 h S V k w place far hf at_ hS hV hat sp hsp hspb hsn hsb C11 o6 o7 o8 way h5
    refine⟨a,b,s,m,w',sk ?_ (sk ?_ q1),q2⟩<;>rcases h5 with rfl|rfl<;>rfl
  · obtain⟨a,b,s,m,w',q1,q2⟩:=w_7 h S V k w place far hf at_ hS hV hat sp hsp hspb hsn hsb C11 o6 o7 o8
    exact⟨a,b,s,m,w',sk rfl (sk rfl (sk rfl (q1))),q2⟩
  · obtain⟨a,b,s,m,w',q1,q2⟩:=w_8 h S V k w place far hf at_ hS hV hat sp hsp hspb hsn hsb C11 o6 o7 o8 way h8 λp=>C12 p h8
    refine⟨a,b,s,m,w',sk ?_ (sk ?_ (sk ?_ (sk ?_ q1))),q2⟩<;>rcases h8 with rfl|rfl|rfl|rfl|rfl|rfl<;>rfl
  · obtain⟨a,b,s,m,w',q1,q2⟩:=w_14 h S V k w place far hf at_ hS hV hat sp hsp hspb hsn hsb C11 o6 o7 o8
    exact⟨a,b,s,m,w',sk rfl (sk rfl (sk rfl (sk rfl (sk rfl (q1))))),q2⟩
  · obtain⟨a,b,s,m,w',q1,q2⟩:∃a b s m w',evSs call [some (false,paD h S V k w),some (false,.int 15),some (false,.int place),some (false,.int far),some (false,.int (at_:Int)),some (false,sp),o6,o7,o8] [.ite (.cmp .eq (.v 1) (.k (.int 15))) [.set 8 false (.bin .mul (.bin .add (.bin .add (.bin .pow (.k (.int 10)) (.k (.int 15))) (.k (.int 1))) (.v 3)) (.bin .sub (.k (.int 1)) (.bin .mul (.k (.int 2)) (.bin .mod (.v 2) (.k (.int 2)))))),.ret (.call 11 [(.v 0),(.k (.int 2)),(.call 11 [(.ix (.v 0) (.k (.int 2))),(.v 4),(.v 8)])])] [],.ite (.cmp .eq (.v 1) (.k (.int 16))) [.ret (.call 11 [(.v 0),(.k (.int 2)),(.call 11 [(.ix (.v 0) (.k (.int 2))),(.v 4),(.v 5)])])] [],.ite (.or (.cmp .eq (.v 1) (.k (.int 17))) (.cmp .eq (.v 1) (.k (.int 18)))) [.ret (.call 11 [(.v 0),(.k (.int 3)),(.ix (.lst [(.bin .sub (.neg (.k (.int 1))) (.v 3)),(.bin .add (.k (.int 65536)) (.v 3))]) (.bin .sub (.v 1) (.k (.int 17))))])] [],.ite (.cmp .eq (.v 1) (.k (.int 19))) [.ret (.call 11 [(.v 0),(.k (.int 3)),(.v 5)])] [],.ite (.cmp .eq (.v 1) (.k (.int 20))) [.ret (.call 11 [(.v 0),(.k (.int 4)),(.bin .mul (.bin .add (.bin .add (.bin .pow (.k (.int 10)) (.k (.int 30))) (.k (.int 1))) (.v 3)) (.bin .sub (.k (.int 1)) (.bin .mul (.k (.int 2)) (.bin .mod (.v 2) (.k (.int 2))))))])] [],.ret (.call 11 [(.v 0),(.k (.int 4)),(.v 5)])]=some (.rt (false,.tup [a,b,s,m,w']))∧Bd5 a b s m w':=by
      rcases fm2 place with hr|hr
      · exact w_15a h S V k w place far hf at_ hS hV hat sp hsp hspb hsn hsb C11 o6 o7 o8 hr
      · exact w_15b h S V k w place far hf at_ hS hV hat sp hsp hspb hsn hsb C11 o6 o7 o8 hr
    exact⟨a,b,s,m,w',sk rfl (sk rfl (sk rfl (sk rfl (sk rfl (sk rfl (q1)))))),q2⟩
  · obtain⟨a,b,s,m,w',q1,q2⟩:=w_16 h S V k w place far hf at_ hS hV hat sp hsp hspb hsn hsb C11 o6 o7 o8
    exact⟨a,b,s,m,w',sk rfl (sk rfl (sk rfl (sk rfl (sk rfl (sk rfl (sk rfl (q1))))))),q2⟩
  · obtain⟨a,b,s,m,w',q1,q2⟩:=w_17 h S V k w place far hf at_ hS hV hat sp hsp hspb hsn hsb C11 o6 o7 o8
    exact⟨a,b,s,m,w',sk rfl (sk rfl (sk rfl (sk rfl (sk rfl (sk rfl (sk rfl (sk rfl (q1)))))))),q2⟩
  · obtain⟨a,b,s,m,w',q1,q2⟩:=w_18 h S V k w place far hf at_ hS hV hat sp hsp hspb hsn hsb C11 o6 o7 o8
    exact⟨a,b,s,m,w',sk rfl (sk rfl (sk rfl (sk rfl (sk rfl (sk rfl (sk rfl (sk rfl (q1)))))))),q2⟩
  · obtain⟨a,b,s,m,w',q1,q2⟩:=w_19 h S V k w place far hf at_ hS hV hat sp hsp hspb hsn hsb C11 o6 o7 o8
    exact⟨a,b,s,m,w',sk rfl (sk rfl (sk rfl (sk rfl (sk rfl (sk rfl (sk rfl (sk rfl (sk rfl (q1))))))))),q2⟩
  · obtain⟨a,b,s,m,w',q1,q2⟩:∃a b s m w',evSs call [some (false,paD h S V k w),some (false,.int 20),some (false,.int place),some (false,.int far),some (false,.int (at_:Int)),some (false,sp),o6,o7,o8] [.ite (.cmp .eq (.v 1) (.k (.int 20))) [.ret (.call 11 [(.v 0),(.k (.int 4)),(.bin .mul (.bin .add (.bin .add (.bin .pow (.k (.int 10)) (.k (.int 30))) (.k (.int 1))) (.v 3)) (.bin .sub (.k (.int 1)) (.bin .mul (.k (.int 2)) (.bin .mod (.v 2) (.k (.int 2))))))])] [],.ret (.call 11 [(.v 0),(.k (.int 4)),(.v 5)])]=some (.rt (false,.tup [a,b,s,m,w']))∧Bd5 a b s m w':=by
      rcases fm2 place with hr|hr
      · exact w_20a h S V k w place far hf at_ hS hV hat sp hsp hspb hsn hsb C11 o6 o7 o8 hr
      · exact w_20b h S V k w place far hf at_ hS hV hat sp hsp hspb hsn hsb C11 o6 o7 o8 hr
    exact⟨a,b,s,m,w',sk rfl (sk rfl (sk rfl (sk rfl (sk rfl (sk rfl (sk rfl (sk rfl (sk rfl (sk rfl (q1)))))))))),q2⟩
  · obtain⟨a,b,s,m,w',q1,q2⟩:=w_21 h S V k w place far hf at_ hS hV hat sp hsp hspb hsn hsb C11 o6 o7 o8
    exact⟨a,b,s,m,w',sk rfl (sk rfl (sk rfl (sk rfl (sk rfl (sk rfl (sk rfl (sk rfl (sk rfl (sk rfl (sk rfl (q1))))))))))),q2⟩
end
end Dw.T
namespace Dw.T
open Dw
theorem lt_hugeS {n:Nat}(h:n<2^200):n<huge:=Nat.lt_of_lt_of_le h (Nat.pow_le_pow_right (by decide) (by decide))
theorem mulM (a b:Int) (h:a.natAbs<2^240) (h':b.natAbs<2^240):mulOk a b=true:=decide_eq_true (.inl ⟨h,h'⟩)
theorem mulH (a b:Int) (h:a.natAbs<huge) (h':b.natAbs<huge):mulOk a b=true:=decide_eq_true (.inr (.inr (.inr ⟨h,h'⟩)))
theorem fm_bd (a m:Int) (h:0<m):0≤a.fmod m∧a.fmod m<m:=by
  rw [Int.fmod_eq_emod_of_nonneg _ (by omega:0≤m)]
  exact⟨Int.emod_nonneg _ (by omega),Int.emod_lt_of_pos _ h⟩
noncomputable def prm:Int:=170141183460469231731687303715884105727
noncomputable def stirZ (c:Int):Int:=(c * 105172331949523456789012345678901234567).fmod prm
noncomputable def nextZ (c:Int):Int:=(c * 83492791123456789012345678901234567891).fmod prm
theorem stir_bd (c:Int):0≤stirZ c∧stirZ c<prm:=fm_bd _ _ (by decide)
theorem next_bd (c:Int):0≤nextZ c∧nextZ c<prm:=fm_bd _ _ (by decide)
structure Gd (h:Int) (S:List (Int×Int)) (V:List Int) (k w:Int):Prop where
  l:S.length=2∨S.length=3
  e:V.length=S.length
  hh:0≤h∧h≤8
  hS:∀p∈S,-4≤p.1∧p.1≤p.2∧p.2≤6
  hV:∀v∈V,-4≤v∧v≤4
  hk:0≤k∧k≤8
  hw:-4≤w∧w≤4
section
variable {call:Nat→List D→Option R}
theorem t_stir (c:Int) (hc:2 * c.natAbs<huge):evSs call [some (false,.int c)] f_law_stir.body=some (.rt (false,.int (stirZ c))):=by
  have m1:=mulH c 105172331949523456789012345678901234567 (by omega) (lt_hugeS (by decide))
  have d1:divOk 170141183460469231731687303715884105727=true:=by decide
  exact st_ret (r:=(false,.int (stirZ c))) (by simp only [vS_nil,vS_frz,vS_set,vS_setIx,vS_app,vS_ret,vS_ite,vS_forS,vS_forR,vS_forV,vS_brk,vS_cnt,vS_forZ,vE_v,vE_k,vE_bin,vE_neg,vE_cmp,vE_isC,vE_and,vE_or,vE_not,vE_ix,vE_sl,vE_tup,vE_lst,vE_call,vE_bi,vE_isi,vE_bitl,vE_ifx,vE_chn,vE_callP,vE_rev,vE_join,vE_fstr,vE_compS,vE_compR,vE_compZ,vA_cons,evA_nil,vAP_cons,evAP_nil,evO_none,vO_some,noOwn,getv,pk,retv,keepR,capt,Bool.false_and,Bool.true_and,Bool.and_true,Bool.and_false,Bool.or_true,Bool.true_or,Bool.or_false,Bool.false_or,Bool.not_true,Bool.not_false,List.map_cons,List.map_nil,List.set_cons_zero,List.set_cons_succ,List.getElem?_cons_zero,List.getElem?_cons_succ,Option.join_some,Option.map_some,binP_add,binP_sub,binP_mul,binP_fdiv,binP_mod,binP_pow,binP_shl,binP_shr,binP_band,binP_bor,binP_bxor,binP_addN,binP_addT,cmpP_eqI,cmpP_neI,cmpP_eqB,cmpP_neB,cmpP_lt,cmpP_le,cmpP_gt,cmpP_ge,biP_lenT,biP_lenL,biP_abs,biP_min,biP_max,biP_max3,bitP_int,biP_any,revP_T,slP_T,biP_sum,biP_all,biP_tupL,biP_tupT,biP_lstL,biP_lstT,biP_intB,biP_intI,ixP_L,ixP_T,ixQ_0,ixQ_1,ixQ_2,ixQ_3,slP_L,isP_nn,isP_tn,isP_ln,isP_in,isP_bn,isP_bb,negP_int,tyP_ii,tyP_bi,tyP_ib,tyP_bb,tyP_tt,tyP_tn,tyP_ti,oInt,seqP_L,seqP_T,tupP_T,List.length_cons,List.length_nil,List.nil_append,List.cons_append,List.replicate_succ,List.replicate_zero,Nat.reduceSub,Nat.reduceAdd,Nat.reduceLeDiff,Nat.reduceMul,lim0,lim1,lim2,lim3,lim4,lim6,reduceCtorEq,↓reduceIte,if_true,if_false,ite_true,ite_false,List.foldl_cons,List.foldl_nil,frz1,vG_cons,evG_nil,ag,agR,pkR,rtR,Option.bind_some,vE_inV,inR_int,m1,d1];rfl) rfl
theorem t_next (c:Int) (hc:0≤c∧c<prm):evSs call [some (false,.int c)] f_law_next.body=some (.rt (false,.int (nextZ c))):=by
  unfold prm at hc
  have m1:=mulM c 83492791123456789012345678901234567891 (by omega) (by decide)
  have d1:divOk 170141183460469231731687303715884105727=true:=by decide
  exact st_ret (r:=(false,.int (nextZ c))) (by simp only [vS_nil,vS_frz,vS_set,vS_setIx,vS_app,vS_ret,vS_ite,vS_forS,vS_forR,vS_forV,vS_brk,vS_cnt,vS_forZ,vE_v,vE_k,vE_bin,vE_neg,vE_cmp,vE_isC,vE_and,vE_or,vE_not,vE_ix,vE_sl,vE_tup,vE_lst,vE_call,vE_bi,vE_isi,vE_bitl,vE_ifx,vE_chn,vE_callP,vE_rev,vE_join,vE_fstr,vE_compS,vE_compR,vE_compZ,vA_cons,evA_nil,vAP_cons,evAP_nil,evO_none,vO_some,noOwn,getv,pk,retv,keepR,capt,Bool.false_and,Bool.true_and,Bool.and_true,Bool.and_false,Bool.or_true,Bool.true_or,Bool.or_false,Bool.false_or,Bool.not_true,Bool.not_false,List.map_cons,List.map_nil,List.set_cons_zero,List.set_cons_succ,List.getElem?_cons_zero,List.getElem?_cons_succ,Option.join_some,Option.map_some,binP_add,binP_sub,binP_mul,binP_fdiv,binP_mod,binP_pow,binP_shl,binP_shr,binP_band,binP_bor,binP_bxor,binP_addN,binP_addT,cmpP_eqI,cmpP_neI,cmpP_eqB,cmpP_neB,cmpP_lt,cmpP_le,cmpP_gt,cmpP_ge,biP_lenT,biP_lenL,biP_abs,biP_min,biP_max,biP_max3,bitP_int,biP_any,revP_T,slP_T,biP_sum,biP_all,biP_tupL,biP_tupT,biP_lstL,biP_lstT,biP_intB,biP_intI,ixP_L,ixP_T,ixQ_0,ixQ_1,ixQ_2,ixQ_3,slP_L,isP_nn,isP_tn,isP_ln,isP_in,isP_bn,isP_bb,negP_int,tyP_ii,tyP_bi,tyP_ib,tyP_bb,tyP_tt,tyP_tn,tyP_ti,oInt,seqP_L,seqP_T,tupP_T,List.length_cons,List.length_nil,List.nil_append,List.cons_append,List.replicate_succ,List.replicate_zero,Nat.reduceSub,Nat.reduceAdd,Nat.reduceLeDiff,Nat.reduceMul,lim0,lim1,lim2,lim3,lim4,lim6,reduceCtorEq,↓reduceIte,if_true,if_false,ite_true,ite_false,List.foldl_cons,List.foldl_nil,frz1,vG_cons,evG_nil,ag,agR,pkR,rtR,Option.bind_some,vE_inV,inR_int,m1,d1];rfl) rfl
theorem t_parts (c:Int) (C7:call 7 [.int c]=some (false,.int (stirZ c))) (C8:call 8 [.int (stirZ c)]=some (false,.int (nextZ (stirZ c)))) :
    ∃h S V k w,Gd h S V k w∧evSs call [some (false,.int c),none,none,none,none,none,none] f_law_parts_by.body=some (.rt (false,paD h S V k w)):=by
  have d2:divOk 2=true:=by decide
  have d9:divOk 9=true:=by decide
  have d3:divOk 3=true:=by decide
  have d27:divOk 27=true:=by decide
  have d81:divOk 81=true:=by decide
  have d243:divOk 243=true:=by decide
  have l2:2≤lim:=le_lim (by decide)
  have l5:5≤lim:=le_lim (by decide)
  obtain⟨m,hm,hm2⟩:∃m:Nat,2+(nextZ (stirZ c)).fmod 2=(m:Int)∧(m=2∨m=3):=by
    have:=fm_bd (nextZ (stirZ c)) 2 (by decide)
    exact⟨(2+(nextZ (stirZ c)).fmod 2).toNat,by omega,by omega⟩
  obtain⟨σ',h',l,S,V,o5,o6,rfl,q1,q2,q3,q4⟩:=evFor_rng (call:=call) (tg:=.one 5) (body:=[.set 6 false (.bin .sub (.bin .mod (.v 1) (.k (.int 9))) (.k (.int 4))),.app 3 (.tup [(.v 6),(.bin .add (.v 6) (.bin .mod (.bin .fdiv (.v 1) (.k (.int 9))) (.k (.int 3))))]),.app 4 (.bin .sub (.bin .mod (.bin .fdiv (.v 1) (.k (.int 27))) (.k (.int 9))) (.k (.int 4))),.set 1 false (.bin .fdiv (.v 1) (.k (.int 243)))]) (λj σ=>∃(l:Int) (S:List (Int×Int)) (V:List Int) (o5 o6:Option R),σ=[some (false,.int c),some (false,.int l),some (false,.int (m:Int)),some (true,.lst (S.map sdD)),some (true,.lst (V.map .int)),o5,o6]∧S.length=j∧V.length=j∧(∀p∈S,-4≤p.1∧p.1≤p.2∧p.2≤6)∧∀v∈V,-4≤v∧v≤4) m (λi=>.int (i:Nat))
    [some (false,.int c),some (false,.int ((nextZ (stirZ c)).fdiv 2)),some (false,.int (m:Int)),some (true,.lst []),some (true,.lst []),none,none] ⟨_,[],[],none,none,rfl,rfl,rfl,λ_ h=>(nomatch h),λ_ h=>(nomatch h)⟩ (by
      rintro j σ hj ⟨l,S,V,o5,o6,rfl,q1,q2,q3,q4⟩
      have b1:=fm_bd l 9 (by decide)
      have b2:=fm_bd (l.fdiv 9) 3 (by decide)
      have b3:=fm_bd (l.fdiv 27) 9 (by decide)
      refine⟨_,_,rfl,?_,l.fdiv 243,S++[(l.fmod 9 - 4,l.fmod 9 - 4+(l.fdiv 9).fmod 3)],V++[(l.fdiv 27).fmod 9 - 4],some (false,.int (j:Nat)),some (false,.int (l.fmod 9 - 4)),rfl,by simp [q1],by simp [q2],λp hp=>?_,λv hv=>?_⟩
      · refine st_set (false,.int (l.fmod 9 - 4)) (by simp only [vS_nil,vS_frz,vS_set,vS_setIx,vS_app,vS_ret,vS_ite,vS_forS,vS_forR,vS_forV,vS_brk,vS_cnt,vS_forZ,vE_v,vE_k,vE_bin,vE_neg,vE_cmp,vE_isC,vE_and,vE_or,vE_not,vE_ix,vE_sl,vE_tup,vE_lst,vE_call,vE_bi,vE_isi,vE_bitl,vE_ifx,vE_chn,vE_callP,vE_rev,vE_join,vE_fstr,vE_compS,vE_compR,vE_compZ,vA_cons,evA_nil,vAP_cons,evAP_nil,evO_none,vO_some,noOwn,getv,pk,retv,keepR,capt,Bool.false_and,Bool.true_and,Bool.and_true,Bool.and_false,Bool.or_true,Bool.true_or,Bool.or_false,Bool.false_or,Bool.not_true,Bool.not_false,List.map_cons,List.map_nil,List.set_cons_zero,List.set_cons_succ,List.getElem?_cons_zero,List.getElem?_cons_succ,Option.join_some,Option.map_some,binP_add,binP_sub,binP_mul,binP_fdiv,binP_mod,binP_pow,binP_shl,binP_shr,binP_band,binP_bor,binP_bxor,binP_addN,binP_addT,cmpP_eqI,cmpP_neI,cmpP_eqB,cmpP_neB,cmpP_lt,cmpP_le,cmpP_gt,cmpP_ge,biP_lenT,biP_lenL,biP_abs,biP_min,biP_max,biP_max3,bitP_int,biP_any,revP_T,slP_T,biP_sum,biP_all,biP_tupL,biP_tupT,biP_lstL,biP_lstT,biP_intB,biP_intI,ixP_L,ixP_T,ixQ_0,ixQ_1,ixQ_2,ixQ_3,slP_L,isP_nn,isP_tn,isP_ln,isP_in,isP_bn,isP_bb,negP_int,tyP_ii,tyP_bi,tyP_ib,tyP_bb,tyP_tt,tyP_tn,tyP_ti,oInt,seqP_L,seqP_T,tupP_T,List.length_cons,List.length_nil,List.nil_append,List.cons_append,List.replicate_succ,List.replicate_zero,Nat.reduceSub,Nat.reduceAdd,Nat.reduceLeDiff,Nat.reduceMul,lim0,lim1,lim2,lim3,lim4,lim6,reduceCtorEq,↓reduceIte,if_true,if_false,ite_true,ite_false,List.foldl_cons,List.foldl_nil,frz1,vG_cons,evG_nil,ag,agR,pkR,rtR,Option.bind_some,vE_inV,inR_int,d9]) ?_
        refine st_app (false,sdD (l.fmod 9 - 4,l.fmod 9 - 4+(l.fdiv 9).fmod 3)) (by simp only [vS_nil,vS_frz,vS_set,vS_setIx,vS_app,vS_ret,vS_ite,vS_forS,vS_forR,vS_forV,vS_brk,vS_cnt,vS_forZ,vE_v,vE_k,vE_bin,vE_neg,vE_cmp,vE_isC,vE_and,vE_or,vE_not,vE_ix,vE_sl,vE_tup,vE_lst,vE_call,vE_bi,vE_isi,vE_bitl,vE_ifx,vE_chn,vE_callP,vE_rev,vE_join,vE_fstr,vE_compS,vE_compR,vE_compZ,vA_cons,evA_nil,vAP_cons,evAP_nil,evO_none,vO_some,noOwn,getv,pk,retv,keepR,capt,Bool.false_and,Bool.true_and,Bool.and_true,Bool.and_false,Bool.or_true,Bool.true_or,Bool.or_false,Bool.false_or,Bool.not_true,Bool.not_false,List.map_cons,List.map_nil,List.set_cons_zero,List.set_cons_succ,List.getElem?_cons_zero,List.getElem?_cons_succ,Option.join_some,Option.map_some,binP_add,binP_sub,binP_mul,binP_fdiv,binP_mod,binP_pow,binP_shl,binP_shr,binP_band,binP_bor,binP_bxor,binP_addN,binP_addT,cmpP_eqI,cmpP_neI,cmpP_eqB,cmpP_neB,cmpP_lt,cmpP_le,cmpP_gt,cmpP_ge,biP_lenT,biP_lenL,biP_abs,biP_min,biP_max,biP_max3,bitP_int,biP_any,revP_T,slP_T,biP_sum,biP_all,biP_tupL,biP_tupT,biP_lstL,biP_lstT,biP_intB,biP_intI,ixP_L,ixP_T,ixQ_0,ixQ_1,ixQ_2,ixQ_3,slP_L,isP_nn,isP_tn,isP_ln,isP_in,isP_bn,isP_bb,negP_int,tyP_ii,tyP_bi,tyP_ib,tyP_bb,tyP_tt,tyP_tn,tyP_ti,oInt,seqP_L,seqP_T,tupP_T,List.length_cons,List.length_nil,List.nil_append,List.cons_append,List.replicate_succ,List.replicate_zero,Nat.reduceSub,Nat.reduceAdd,Nat.reduceLeDiff,Nat.reduceMul,lim0,lim1,lim2,lim3,lim4,lim6,reduceCtorEq,↓reduceIte,if_true,if_false,ite_true,ite_false,List.foldl_cons,List.foldl_nil,frz1,vG_cons,evG_nil,ag,agR,pkR,rtR,Option.bind_some,vE_inV,inR_int,d9,d3,l2];rfl) rfl (Nat.lt_of_lt_of_le (show _<10 by rw [List.length_map];omega) (le_lim (by decide))) ?_
        refine st_app (false,.int ((l.fdiv 27).fmod 9 - 4)) (by simp only [vS_nil,vS_frz,vS_set,vS_setIx,vS_app,vS_ret,vS_ite,vS_forS,vS_forR,vS_forV,vS_brk,vS_cnt,vS_forZ,vE_v,vE_k,vE_bin,vE_neg,vE_cmp,vE_isC,vE_and,vE_or,vE_not,vE_ix,vE_sl,vE_tup,vE_lst,vE_call,vE_bi,vE_isi,vE_bitl,vE_ifx,vE_chn,vE_callP,vE_rev,vE_join,vE_fstr,vE_compS,vE_compR,vE_compZ,vA_cons,evA_nil,vAP_cons,evAP_nil,evO_none,vO_some,noOwn,getv,pk,retv,keepR,capt,Bool.false_and,Bool.true_and,Bool.and_true,Bool.and_false,Bool.or_true,Bool.true_or,Bool.or_false,Bool.false_or,Bool.not_true,Bool.not_false,List.map_cons,List.map_nil,List.set_cons_zero,List.set_cons_succ,List.getElem?_cons_zero,List.getElem?_cons_succ,Option.join_some,Option.map_some,binP_add,binP_sub,binP_mul,binP_fdiv,binP_mod,binP_pow,binP_shl,binP_shr,binP_band,binP_bor,binP_bxor,binP_addN,binP_addT,cmpP_eqI,cmpP_neI,cmpP_eqB,cmpP_neB,cmpP_lt,cmpP_le,cmpP_gt,cmpP_ge,biP_lenT,biP_lenL,biP_abs,biP_min,biP_max,biP_max3,bitP_int,biP_any,revP_T,slP_T,biP_sum,biP_all,biP_tupL,biP_tupT,biP_lstL,biP_lstT,biP_intB,biP_intI,ixP_L,ixP_T,ixQ_0,ixQ_1,ixQ_2,ixQ_3,slP_L,isP_nn,isP_tn,isP_ln,isP_in,isP_bn,isP_bb,negP_int,tyP_ii,tyP_bi,tyP_ib,tyP_bb,tyP_tt,tyP_tn,tyP_ti,oInt,seqP_L,seqP_T,tupP_T,List.length_cons,List.length_nil,List.nil_append,List.cons_append,List.replicate_succ,List.replicate_zero,Nat.reduceSub,Nat.reduceAdd,Nat.reduceLeDiff,Nat.reduceMul,lim0,lim1,lim2,lim3,lim4,lim6,reduceCtorEq,↓reduceIte,if_true,if_false,ite_true,ite_false,List.foldl_cons,List.foldl_nil,frz1,vG_cons,evG_nil,ag,agR,pkR,rtR,Option.bind_some,vE_inV,inR_int,d27,d9]) rfl (Nat.lt_of_lt_of_le (show _<10 by rw [List.length_map];omega) (le_lim (by decide))) ?_
        refine st_set (false,.int (l.fdiv 243)) (by simp only [vS_nil,vS_frz,vS_set,vS_setIx,vS_app,vS_ret,vS_ite,vS_forS,vS_forR,vS_forV,vS_brk,vS_cnt,vS_forZ,vE_v,vE_k,vE_bin,vE_neg,vE_cmp,vE_isC,vE_and,vE_or,vE_not,vE_ix,vE_sl,vE_tup,vE_lst,vE_call,vE_bi,vE_isi,vE_bitl,vE_ifx,vE_chn,vE_callP,vE_rev,vE_join,vE_fstr,vE_compS,vE_compR,vE_compZ,vA_cons,evA_nil,vAP_cons,evAP_nil,evO_none,vO_some,noOwn,getv,pk,retv,keepR,capt,Bool.false_and,Bool.true_and,Bool.and_true,Bool.and_false,Bool.or_true,Bool.true_or,Bool.or_false,Bool.false_or,Bool.not_true,Bool.not_false,List.map_cons,List.map_nil,List.set_cons_zero,List.set_cons_succ,List.getElem?_cons_zero,List.getElem?_cons_succ,Option.join_some,Option.map_some,binP_add,binP_sub,binP_mul,binP_fdiv,binP_mod,binP_pow,binP_shl,binP_shr,binP_band,binP_bor,binP_bxor,binP_addN,binP_addT,cmpP_eqI,cmpP_neI,cmpP_eqB,cmpP_neB,cmpP_lt,cmpP_le,cmpP_gt,cmpP_ge,biP_lenT,biP_lenL,biP_abs,biP_min,biP_max,biP_max3,bitP_int,biP_any,revP_T,slP_T,biP_sum,biP_all,biP_tupL,biP_tupT,biP_lstL,biP_lstT,biP_intB,biP_intI,ixP_L,ixP_T,ixQ_0,ixQ_1,ixQ_2,ixQ_3,slP_L,isP_nn,isP_tn,isP_ln,isP_in,isP_bn,isP_bb,negP_int,tyP_ii,tyP_bi,tyP_ib,tyP_bb,tyP_tt,tyP_tn,tyP_ti,oInt,seqP_L,seqP_T,tupP_T,List.length_cons,List.length_nil,List.nil_append,List.cons_append,List.replicate_succ,List.replicate_zero,Nat.reduceSub,Nat.reduceAdd,Nat.reduceLeDiff,Nat.reduceMul,lim0,lim1,lim2,lim3,lim4,lim6,reduceCtorEq,↓reduceIte,if_true,if_false,ite_true,ite_false,List.foldl_cons,List.foldl_nil,frz1,vG_cons,evG_nil,ag,agR,pkR,rtR,Option.bind_some,vE_inV,inR_int,d243]) ?_
        simp only [List.map_append,List.map_cons,List.map_nil]
        rfl
      · rcases List.mem_append.mp hp with h|h
        · exact q3 p h
        · rw [List.mem_singleton] at h;subst h;exact⟨by show -4≤l.fmod 9 - 4;omega,by show l.fmod 9 - 4≤l.fmod 9 - 4+(l.fdiv 9).fmod 3;omega,by show l.fmod 9 - 4+(l.fdiv 9).fmod 3≤6;omega⟩
      · rcases List.mem_append.mp hv with h|h
        · exact q4 v h
        · rw [List.mem_singleton] at h;subst h;omega)
  have c1:=fm_bd l 9 (by decide)
  have c2:=fm_bd (l.fdiv 9) 9 (by decide)
  have c3:=fm_bd (l.fdiv 81) 9 (by decide)
  refine⟨l.fmod 9,S,V,(l.fdiv 9).fmod 9,(l.fdiv 81).fmod 9 - 4,⟨by omega,by omega,by omega,q3,q4,by omega,by omega⟩,?_⟩
  refine st_set (false,.int (nextZ (stirZ c))) (e_call1 (ag_call (e_call1 rfl C7)) C8) ?_
  refine st_set (false,.int (m:Int)) (by simp only [vS_nil,vS_frz,vS_set,vS_setIx,vS_app,vS_ret,vS_ite,vS_forS,vS_forR,vS_forV,vS_brk,vS_cnt,vS_forZ,vE_v,vE_k,vE_bin,vE_neg,vE_cmp,vE_isC,vE_and,vE_or,vE_not,vE_ix,vE_sl,vE_tup,vE_lst,vE_call,vE_bi,vE_isi,vE_bitl,vE_ifx,vE_chn,vE_callP,vE_rev,vE_join,vE_fstr,vE_compS,vE_compR,vE_compZ,vA_cons,evA_nil,vAP_cons,evAP_nil,evO_none,vO_some,noOwn,getv,pk,retv,keepR,capt,Bool.false_and,Bool.true_and,Bool.and_true,Bool.and_false,Bool.or_true,Bool.true_or,Bool.or_false,Bool.false_or,Bool.not_true,Bool.not_false,List.map_cons,List.map_nil,List.set_cons_zero,List.set_cons_succ,List.getElem?_cons_zero,List.getElem?_cons_succ,Option.join_some,Option.map_some,binP_add,binP_sub,binP_mul,binP_fdiv,binP_mod,binP_pow,binP_shl,binP_shr,binP_band,binP_bor,binP_bxor,binP_addN,binP_addT,cmpP_eqI,cmpP_neI,cmpP_eqB,cmpP_neB,cmpP_lt,cmpP_le,cmpP_gt,cmpP_ge,biP_lenT,biP_lenL,biP_abs,biP_min,biP_max,biP_max3,bitP_int,biP_any,revP_T,slP_T,biP_sum,biP_all,biP_tupL,biP_tupT,biP_lstL,biP_lstT,biP_intB,biP_intI,ixP_L,ixP_T,ixQ_0,ixQ_1,ixQ_2,ixQ_3,slP_L,isP_nn,isP_tn,isP_ln,isP_in,isP_bn,isP_bb,negP_int,tyP_ii,tyP_bi,tyP_ib,tyP_bb,tyP_tt,tyP_tn,tyP_ti,oInt,seqP_L,seqP_T,tupP_T,List.length_cons,List.length_nil,List.nil_append,List.cons_append,List.replicate_succ,List.replicate_zero,Nat.reduceSub,Nat.reduceAdd,Nat.reduceLeDiff,Nat.reduceMul,lim0,lim1,lim2,lim3,lim4,lim6,reduceCtorEq,↓reduceIte,if_true,if_false,ite_true,ite_false,List.foldl_cons,List.foldl_nil,frz1,vG_cons,evG_nil,ag,agR,pkR,rtR,Option.bind_some,vE_inV,inR_int,d2,hm]) ?_
  refine st_set (false,.int ((nextZ (stirZ c)).fdiv 2)) (by simp only [vS_nil,vS_frz,vS_set,vS_setIx,vS_app,vS_ret,vS_ite,vS_forS,vS_forR,vS_forV,vS_brk,vS_cnt,vS_forZ,vE_v,vE_k,vE_bin,vE_neg,vE_cmp,vE_isC,vE_and,vE_or,vE_not,vE_ix,vE_sl,vE_tup,vE_lst,vE_call,vE_bi,vE_isi,vE_bitl,vE_ifx,vE_chn,vE_callP,vE_rev,vE_join,vE_fstr,vE_compS,vE_compR,vE_compZ,vA_cons,evA_nil,vAP_cons,evAP_nil,evO_none,vO_some,noOwn,getv,pk,retv,keepR,capt,Bool.false_and,Bool.true_and,Bool.and_true,Bool.and_false,Bool.or_true,Bool.true_or,Bool.or_false,Bool.false_or,Bool.not_true,Bool.not_false,List.map_cons,List.map_nil,List.set_cons_zero,List.set_cons_succ,List.getElem?_cons_zero,List.getElem?_cons_succ,Option.join_some,Option.map_some,binP_add,binP_sub,binP_mul,binP_fdiv,binP_mod,binP_pow,binP_shl,binP_shr,binP_band,binP_bor,binP_bxor,binP_addN,binP_addT,cmpP_eqI,cmpP_neI,cmpP_eqB,cmpP_neB,cmpP_lt,cmpP_le,cmpP_gt,cmpP_ge,biP_lenT,biP_lenL,biP_abs,biP_min,biP_max,biP_max3,bitP_int,biP_any,revP_T,slP_T,biP_sum,biP_all,biP_tupL,biP_tupT,biP_lstL,biP_lstT,biP_intB,biP_intI,ixP_L,ixP_T,ixQ_0,ixQ_1,ixQ_2,ixQ_3,slP_L,isP_nn,isP_tn,isP_ln,isP_in,isP_bn,isP_bb,negP_int,tyP_ii,tyP_bi,tyP_ib,tyP_bb,tyP_tt,tyP_tn,tyP_ti,oInt,seqP_L,seqP_T,tupP_T,List.length_cons,List.length_nil,List.nil_append,List.cons_append,List.replicate_succ,List.replicate_zero,Nat.reduceSub,Nat.reduceAdd,Nat.reduceLeDiff,Nat.reduceMul,lim0,lim1,lim2,lim3,lim4,lim6,reduceCtorEq,↓reduceIte,if_true,if_false,ite_true,ite_false,List.foldl_cons,List.foldl_nil,frz1,vG_cons,evG_nil,ag,agR,pkR,rtR,Option.bind_some,vE_inV,inR_int,d2]) ?_
  refine st_set (true,.lst []) (by simp only [vS_nil,vS_frz,vS_set,vS_setIx,vS_app,vS_ret,vS_ite,vS_forS,vS_forR,vS_forV,vS_brk,vS_cnt,vS_forZ,vE_v,vE_k,vE_bin,vE_neg,vE_cmp,vE_isC,vE_and,vE_or,vE_not,vE_ix,vE_sl,vE_tup,vE_lst,vE_call,vE_bi,vE_isi,vE_bitl,vE_ifx,vE_chn,vE_callP,vE_rev,vE_join,vE_fstr,vE_compS,vE_compR,vE_compZ,vA_cons,evA_nil,vAP_cons,evAP_nil,evO_none,vO_some,noOwn,getv,pk,retv,keepR,capt,Bool.false_and,Bool.true_and,Bool.and_true,Bool.and_false,Bool.or_true,Bool.true_or,Bool.or_false,Bool.false_or,Bool.not_true,Bool.not_false,List.map_cons,List.map_nil,List.set_cons_zero,List.set_cons_succ,List.getElem?_cons_zero,List.getElem?_cons_succ,Option.join_some,Option.map_some,binP_add,binP_sub,binP_mul,binP_fdiv,binP_mod,binP_pow,binP_shl,binP_shr,binP_band,binP_bor,binP_bxor,binP_addN,binP_addT,cmpP_eqI,cmpP_neI,cmpP_eqB,cmpP_neB,cmpP_lt,cmpP_le,cmpP_gt,cmpP_ge,biP_lenT,biP_lenL,biP_abs,biP_min,biP_max,biP_max3,bitP_int,biP_any,revP_T,slP_T,biP_sum,biP_all,biP_tupL,biP_tupT,biP_lstL,biP_lstT,biP_intB,biP_intI,ixP_L,ixP_T,ixQ_0,ixQ_1,ixQ_2,ixQ_3,slP_L,isP_nn,isP_tn,isP_ln,isP_in,isP_bn,isP_bb,negP_int,tyP_ii,tyP_bi,tyP_ib,tyP_bb,tyP_tt,tyP_tn,tyP_ti,oInt,seqP_L,seqP_T,tupP_T,List.length_cons,List.length_nil,List.nil_append,List.cons_append,List.replicate_succ,List.replicate_zero,Nat.reduceSub,Nat.reduceAdd,Nat.reduceLeDiff,Nat.reduceMul,lim0,lim1,lim2,lim3,lim4,lim6,reduceCtorEq,↓reduceIte,if_true,if_false,ite_true,ite_false,List.foldl_cons,List.foldl_nil,frz1,vG_cons,evG_nil,ag,agR,pkR,rtR,Option.bind_some,vE_inV,inR_int]) ?_
  refine st_set (true,.lst []) (by simp only [vS_nil,vS_frz,vS_set,vS_setIx,vS_app,vS_ret,vS_ite,vS_forS,vS_forR,vS_forV,vS_brk,vS_cnt,vS_forZ,vE_v,vE_k,vE_bin,vE_neg,vE_cmp,vE_isC,vE_and,vE_or,vE_not,vE_ix,vE_sl,vE_tup,vE_lst,vE_call,vE_bi,vE_isi,vE_bitl,vE_ifx,vE_chn,vE_callP,vE_rev,vE_join,vE_fstr,vE_compS,vE_compR,vE_compZ,vA_cons,evA_nil,vAP_cons,evAP_nil,evO_none,vO_some,noOwn,getv,pk,retv,keepR,capt,Bool.false_and,Bool.true_and,Bool.and_true,Bool.and_false,Bool.or_true,Bool.true_or,Bool.or_false,Bool.false_or,Bool.not_true,Bool.not_false,List.map_cons,List.map_nil,List.set_cons_zero,List.set_cons_succ,List.getElem?_cons_zero,List.getElem?_cons_succ,Option.join_some,Option.map_some,binP_add,binP_sub,binP_mul,binP_fdiv,binP_mod,binP_pow,binP_shl,binP_shr,binP_band,binP_bor,binP_bxor,binP_addN,binP_addT,cmpP_eqI,cmpP_neI,cmpP_eqB,cmpP_neB,cmpP_lt,cmpP_le,cmpP_gt,cmpP_ge,biP_lenT,biP_lenL,biP_abs,biP_min,biP_max,biP_max3,bitP_int,biP_any,revP_T,slP_T,biP_sum,biP_all,biP_tupL,biP_tupT,biP_lstL,biP_lstT,biP_intB,biP_intI,ixP_L,ixP_T,ixQ_0,ixQ_1,ixQ_2,ixQ_3,slP_L,isP_nn,isP_tn,isP_ln,isP_in,isP_bn,isP_bb,negP_int,tyP_ii,tyP_bi,tyP_ib,tyP_bb,tyP_tt,tyP_tn,tyP_ti,oInt,seqP_L,seqP_T,tupP_T,List.length_cons,List.length_nil,List.nil_append,List.cons_append,List.replicate_succ,List.replicate_zero,Nat.reduceSub,Nat.reduceAdd,Nat.reduceLeDiff,Nat.reduceMul,lim0,lim1,lim2,lim3,lim4,lim6,reduceCtorEq,↓reduceIte,if_true,if_false,ite_true,ite_false,List.foldl_cons,List.foldl_nil,frz1,vG_cons,evG_nil,ag,agR,pkR,rtR,Option.bind_some,vE_inV,inR_int]) ?_
  refine st_forR (ds:=[.int (m:Int)]) rfl (rng_le (by omega)) h' ?_
  exact st_ret (r:=(false,paD (l.fmod 9) S V ((l.fdiv 9).fmod 9) ((l.fdiv 81).fmod 9 - 4))) (by simp only [vS_nil,vS_frz,vS_set,vS_setIx,vS_app,vS_ret,vS_ite,vS_forS,vS_forR,vS_forV,vS_brk,vS_cnt,vS_forZ,vE_v,vE_k,vE_bin,vE_neg,vE_cmp,vE_isC,vE_and,vE_or,vE_not,vE_ix,vE_sl,vE_tup,vE_lst,vE_call,vE_bi,vE_isi,vE_bitl,vE_ifx,vE_chn,vE_callP,vE_rev,vE_join,vE_fstr,vE_compS,vE_compR,vE_compZ,vA_cons,evA_nil,vAP_cons,evAP_nil,evO_none,vO_some,noOwn,getv,pk,retv,keepR,capt,Bool.false_and,Bool.true_and,Bool.and_true,Bool.and_false,Bool.or_true,Bool.true_or,Bool.or_false,Bool.false_or,Bool.not_true,Bool.not_false,List.map_cons,List.map_nil,List.set_cons_zero,List.set_cons_succ,List.getElem?_cons_zero,List.getElem?_cons_succ,Option.join_some,Option.map_some,binP_add,binP_sub,binP_mul,binP_fdiv,binP_mod,binP_pow,binP_shl,binP_shr,binP_band,binP_bor,binP_bxor,binP_addN,binP_addT,cmpP_eqI,cmpP_neI,cmpP_eqB,cmpP_neB,cmpP_lt,cmpP_le,cmpP_gt,cmpP_ge,biP_lenT,biP_lenL,biP_abs,biP_min,biP_max,biP_max3,bitP_int,biP_any,revP_T,slP_T,biP_sum,biP_all,biP_tupL,biP_tupT,biP_lstL,biP_lstT,biP_intB,biP_intI,ixP_L,ixP_T,ixQ_0,ixQ_1,ixQ_2,ixQ_3,slP_L,isP_nn,isP_tn,isP_ln,isP_in,isP_bn,isP_bb,negP_int,tyP_ii,tyP_bi,tyP_ib,tyP_bb,tyP_tt,tyP_tn,tyP_ti,oInt,seqP_L,seqP_T,tupP_T,List.length_cons,List.length_nil,List.nil_append,List.cons_append,List.replicate_succ,List.replicate_zero,Nat.reduceSub,Nat.reduceAdd,Nat.reduceLeDiff,Nat.reduceMul,lim0,lim1,lim2,lim3,lim4,lim6,reduceCtorEq,↓reduceIte,if_true,if_false,ite_true,ite_false,List.foldl_cons,List.foldl_nil,frz1,vG_cons,evG_nil,ag,agR,pkR,rtR,Option.bind_some,vE_inV,inR_int,d9,d81,l5];rfl) rfl
end
end Dw.T
namespace Dw.T
open Dw
noncomputable def zD (q:(Int×Int)×Int):D:=.tup [.int q.1.1,.int q.1.2,.int q.2,.int q.2]
noncomputable def swD (S:List (Int×Int)) (V:List Int):D:=.tup ((S.zip V).map zD)
theorem zip_SV:∀(S:List (Int×Int)) (V:List Int),zipD (S.map sdD) (V.map .int)=(S.zip V).map λq=>.tup [sdD q.1,.int q.2]
  | [],_=>rfl
  | _::_,[]=>rfl
  | p::S,v::V=>by
    show D.tup [sdD p,.int v]::zipD (S.map sdD) (V.map .int)=_
    rw [zip_SV S V]
    rfl
theorem ne_same2 {d:D}(h:shal 20 d=true) (e:eqD d d=true):cmpP .ne d d=some (false,.bl false):=by
  rw [cmpP_ne,h,e];rfl
section
variable {call:Nat→List D→Option R}{σ:En}
theorem e_zip {a b:C}{S:List (Int×Int)}{V:List Int}{x y:R}(ha:evE call σ a=some x) (hb:evE call σ b=some y) (hx:x.2=.tup (S.map sdD)) (hy:y.2=.tup (V.map .int)):evE call σ (.bi .tuple [.compZ (.tup [(.ix (.v 0) (.k (.int 0))),(.ix (.v 0) (.k (.int 1))),(.v 1),(.v 1)]) 2 [] (.two 0 1) a b])=some (false,swD S V):=by
  have l4:4≤lim:=le_lim (by decide)
  have hc:=e_compZ (call:=call) (σ:=σ) (e:=(.tup [(.ix (.v 0) (.k (.int 0))),(.ix (.v 0) (.k (.int 1))),(.v 1),(.v 1)])) (nl:=2) (ks:=[]) (tg:=.two 0 1) (a:=a) (b:=b) (xs:=S.map sdD) (ys:=V.map .int) (zs:=(S.zip V).map zD) ha hb (by rw [hx];rfl) (by rw [hy];rfl) rfl (by
    rw [zip_SV]
    exact evComp_map call [none,none] (tg:=.two 0 1) (λq:(Int×Int)×Int=>.tup [sdD q.1,.int q.2]) zD (S.zip V) λq _=>⟨_,false,rfl,by simp only [vS_nil,vS_frz,vS_set,vS_setIx,vS_app,vS_ret,vS_ite,vS_forS,vS_forR,vS_forV,vS_brk,vS_cnt,vS_forZ,vE_v,vE_k,vE_bin,vE_neg,vE_cmp,vE_isC,vE_and,vE_or,vE_not,vE_ix,vE_sl,vE_tup,vE_lst,vE_call,vE_bi,vE_isi,vE_bitl,vE_ifx,vE_chn,vE_callP,vE_rev,vE_join,vE_fstr,vE_compS,vE_compR,vE_compZ,vA_cons,evA_nil,vAP_cons,evAP_nil,evO_none,vO_some,noOwn,getv,pk,retv,keepR,capt,Bool.false_and,Bool.true_and,Bool.and_true,Bool.and_false,Bool.or_true,Bool.true_or,Bool.or_false,Bool.false_or,Bool.not_true,Bool.not_false,List.map_cons,List.map_nil,List.set_cons_zero,List.set_cons_succ,List.getElem?_cons_zero,List.getElem?_cons_succ,Option.join_some,Option.map_some,binP_add,binP_sub,binP_mul,binP_fdiv,binP_mod,binP_pow,binP_shl,binP_shr,binP_band,binP_bor,binP_bxor,binP_addN,binP_addT,cmpP_eqI,cmpP_neI,cmpP_eqB,cmpP_neB,cmpP_lt,cmpP_le,cmpP_gt,cmpP_ge,biP_lenT,biP_lenL,biP_abs,biP_min,biP_max,biP_max3,bitP_int,biP_any,revP_T,slP_T,biP_sum,biP_all,biP_tupL,biP_tupT,biP_lstL,biP_lstT,biP_intB,biP_intI,ixP_L,ixP_T,ixQ_0,ixQ_1,ixQ_2,ixQ_3,slP_L,isP_nn,isP_tn,isP_ln,isP_in,isP_bn,isP_bb,negP_int,tyP_ii,tyP_bi,tyP_ib,tyP_bb,tyP_tt,tyP_tn,tyP_ti,oInt,seqP_L,seqP_T,tupP_T,List.length_cons,List.length_nil,List.nil_append,List.cons_append,List.replicate_succ,List.replicate_zero,Nat.reduceSub,Nat.reduceAdd,Nat.reduceLeDiff,Nat.reduceMul,lim0,lim1,lim2,lim3,lim4,lim6,reduceCtorEq,↓reduceIte,if_true,if_false,ite_true,ite_false,List.foldl_cons,List.foldl_nil,frz1,vG_cons,evG_nil,ag,agR,pkR,rtR,Option.bind_some,vE_inV,inR_int,sd0,sd1,l4];rfl⟩)
  refine e_bi1 (x:=.lst ((S.zip V).map zD)) ?_ rfl
  show (evE call _ (.compZ _ _ _ _ _ _)).map (·.2)=_
  rw [hc]
  rfl
theorem t_drift (S:List (Int×Int)) (V:List Int):evSs call [some (false,.tup (S.map sdD)),some (false,.tup (V.map .int))] f_drifting.body=some (.rt (false,swD S V)):=st_ret (r:=(false,swD S V)) (e_zip (x:=(false,.tup (S.map sdD))) (y:=(false,.tup (V.map .int))) rfl rfl rfl rfl) rfl
theorem num_ok {i lo hi:Int}(h1:lo≤i) (h2:i≤hi):num (.int i) lo hi=true:=by
  show (decide (lo≤i)&&decide (i≤hi))=true
  rw [decide_eq_true h1,decide_eq_true h2];rfl
theorem box_ok {h:Int}{S:List (Int×Int)}{V:List Int}{k w:Int}(g:Gd h S V k w):box (.tup (S.map sdD))=true:=by
  show (((S.map sdD).length == 2||(S.map sdD).length == 3)&&(S.map sdD).all sid)=true
  rw [List.length_map,List.all_map,Bool.and_eq_true]
  refine⟨by rcases g.l with h|h<;>rw [h]<;>rfl,List.all_eq_true.mpr λp hp=>?_⟩
  have:=g.hS p hp
  show ((num (.int p.1) (-B30) B30&&num (.int p.2) (-B30) B30)&&decide (p.1≤p.2))=true
  rw [num_ok (by unfold B30;omega) (by unfold B30;omega),num_ok (by unfold B30;omega) (by unfold B30;omega),decide_eq_true this.2.1];rfl
theorem spd_ok {h:Int}{S:List (Int×Int)}{V:List Int}{k w:Int}(g:Gd h S V k w):spd (.tup (V.map .int)) S.length=true:=by
  show ((V.map D.int).length == S.length&&(V.map D.int).all _)=true
  rw [List.length_map,g.e,beq_self_eq_true,List.all_map,Bool.true_and]
  exact List.all_eq_true.mpr λv hv=>by
    have:=g.hV v hv
    exact num_ok (by unfold B15;omega) (by unfold B15;omega)
theorem t_mok {h:Int}{S:List (Int×Int)}{V:List Int}{k w:Int}(g:Gd h S V k w) (N:∀(d:D) (lo hi:Int),pl d=true→call 2 [d,.int lo,.int hi]=some (false,.bl (num d lo hi))) (C4:call 4 [.tup (S.map sdD)]=some (false,.bl true)) (C5:call 5 [.tup (V.map .int),.int ((S.length:Nat):Int)]=some (false,.bl true)) (C1:call 1 [.tup (S.map sdD),.tup (V.map .int)]=some (false,swD S V)) :
    evSs call [some (false,.int h),some (false,.tup (S.map sdD)),some (false,.tup (V.map .int)),some (false,.int k),some (false,.int w),none] f_make_thing.body=some (.rt (false,.tup [.int h,swD S V,.int k,.int w])):=by
  have n1:=N (.int h) 0 B18 rfl
  rw [num_ok g.hh.1 (by have:=g.hh.2;unfold B18;omega)] at n1
  have n2:=N (.int k) 0 65535 rfl
  rw [num_ok g.hk.1 (by have:=g.hk.2;omega)] at n2
  have n3:=N (.int w) (-B30) B30 rfl
  rw [num_ok (by have:=g.hw.1;unfold B30;omega) (by have:=g.hw.2;unfold B30;omega)] at n3
  have l4:4≤lim:=le_lim (by decide)
  refine st_skip (x:=false) (e_not (x:=false) (b:=true) (e_call3 rfl rfl rfl n1)) ?_
  refine st_skip (x:=false) (e_not (x:=false) (b:=true) (e_call1 rfl C4)) ?_
  refine st_skip (x:=false) (e_and (x:=false) (y:=false) (p:=true) (q:=false) rfl (e_not (x:=false) (b:=true) (e_call2 (y:=.int ((S.length:Nat):Int)) rfl (by show some (D.int (((S.map sdD).length:Nat):Int))=_;rw [List.length_map]) C5))) ?_
  refine st_skip (x:=false) (e_not (x:=false) (b:=true) (e_call3 rfl rfl rfl n2)) ?_
  refine st_skip (x:=false) (e_not (x:=false) (b:=true) (e_call3 rfl rfl rfl n3)) ?_
  refine st_set (false,swD S V) (by simp only [vS_nil,vS_frz,vS_set,vS_setIx,vS_app,vS_ret,vS_ite,vS_forS,vS_forR,vS_forV,vS_brk,vS_cnt,vS_forZ,vE_v,vE_k,vE_bin,vE_neg,vE_cmp,vE_isC,vE_and,vE_or,vE_not,vE_ix,vE_sl,vE_tup,vE_lst,vE_call,vE_bi,vE_isi,vE_bitl,vE_ifx,vE_chn,vE_callP,vE_rev,vE_join,vE_fstr,vE_compS,vE_compR,vE_compZ,vA_cons,evA_nil,vAP_cons,evAP_nil,evO_none,vO_some,noOwn,getv,pk,retv,keepR,capt,Bool.false_and,Bool.true_and,Bool.and_true,Bool.and_false,Bool.or_true,Bool.true_or,Bool.or_false,Bool.false_or,Bool.not_true,Bool.not_false,List.map_cons,List.map_nil,List.set_cons_zero,List.set_cons_succ,List.getElem?_cons_zero,List.getElem?_cons_succ,Option.join_some,Option.map_some,binP_add,binP_sub,binP_mul,binP_fdiv,binP_mod,binP_pow,binP_shl,binP_shr,binP_band,binP_bor,binP_bxor,binP_addN,binP_addT,cmpP_eqI,cmpP_neI,cmpP_eqB,cmpP_neB,cmpP_lt,cmpP_le,cmpP_gt,cmpP_ge,biP_lenT,biP_lenL,biP_abs,biP_min,biP_max,biP_max3,bitP_int,biP_any,revP_T,slP_T,biP_sum,biP_all,biP_tupL,biP_tupT,biP_lstL,biP_lstT,biP_intB,biP_intI,ixP_L,ixP_T,ixQ_0,ixQ_1,ixQ_2,ixQ_3,slP_L,isP_nn,isP_tn,isP_ln,isP_in,isP_bn,isP_bb,negP_int,tyP_ii,tyP_bi,tyP_ib,tyP_bb,tyP_tt,tyP_tn,tyP_ti,oInt,seqP_L,seqP_T,tupP_T,List.length_cons,List.length_nil,List.nil_append,List.cons_append,List.replicate_succ,List.replicate_zero,Nat.reduceSub,Nat.reduceAdd,Nat.reduceLeDiff,Nat.reduceMul,lim0,lim1,lim2,lim3,lim4,lim6,reduceCtorEq,↓reduceIte,if_true,if_false,ite_true,ite_false,List.foldl_cons,List.foldl_nil,frz1,vG_cons,evG_nil,ag,agR,pkR,rtR,Option.bind_some,vE_inV,inR_int,C1]) ?_
  exact st_ret (r:=(false,.tup [.int h,swD S V,.int k,.int w])) (by unfold swD;simp only [vS_nil,vS_frz,vS_set,vS_setIx,vS_app,vS_ret,vS_ite,vS_forS,vS_forR,vS_forV,vS_brk,vS_cnt,vS_forZ,vE_v,vE_k,vE_bin,vE_neg,vE_cmp,vE_isC,vE_and,vE_or,vE_not,vE_ix,vE_sl,vE_tup,vE_lst,vE_call,vE_bi,vE_isi,vE_bitl,vE_ifx,vE_chn,vE_callP,vE_rev,vE_join,vE_fstr,vE_compS,vE_compR,vE_compZ,vA_cons,evA_nil,vAP_cons,evAP_nil,evO_none,vO_some,noOwn,getv,pk,retv,keepR,capt,Bool.false_and,Bool.true_and,Bool.and_true,Bool.and_false,Bool.or_true,Bool.true_or,Bool.or_false,Bool.false_or,Bool.not_true,Bool.not_false,List.map_cons,List.map_nil,List.set_cons_zero,List.set_cons_succ,List.getElem?_cons_zero,List.getElem?_cons_succ,Option.join_some,Option.map_some,binP_add,binP_sub,binP_mul,binP_fdiv,binP_mod,binP_pow,binP_shl,binP_shr,binP_band,binP_bor,binP_bxor,binP_addN,binP_addT,cmpP_eqI,cmpP_neI,cmpP_eqB,cmpP_neB,cmpP_lt,cmpP_le,cmpP_gt,cmpP_ge,biP_lenT,biP_lenL,biP_abs,biP_min,biP_max,biP_max3,bitP_int,biP_any,revP_T,slP_T,biP_sum,biP_all,biP_tupL,biP_tupT,biP_lstL,biP_lstT,biP_intB,biP_intI,ixP_L,ixP_T,ixQ_0,ixQ_1,ixQ_2,ixQ_3,slP_L,isP_nn,isP_tn,isP_ln,isP_in,isP_bn,isP_bb,negP_int,tyP_ii,tyP_bi,tyP_ib,tyP_bb,tyP_tt,tyP_tn,tyP_ti,oInt,seqP_L,seqP_T,tupP_T,List.length_cons,List.length_nil,List.nil_append,List.cons_append,List.replicate_succ,List.replicate_zero,Nat.reduceSub,Nat.reduceAdd,Nat.reduceLeDiff,Nat.reduceMul,lim0,lim1,lim2,lim3,lim4,lim6,reduceCtorEq,↓reduceIte,if_true,if_false,ite_true,ite_false,List.foldl_cons,List.foldl_nil,frz1,vG_cons,evG_nil,ag,agR,pkR,rtR,Option.bind_some,vE_inV,inR_int,l4]) rfl
theorem st_try {i t f:Nat}{as:List C}{tb:List (PySem.Str×D)}{xs:List D}{c:PySem.Str}{d:D}{rest:List Dw.S}{z:Option Ou}(hi:(getv σ i).isNone∧i<σ.length) (ha:evG call σ as=some xs) (hc:call (f+XO) xs=some (false,.exc c)) (ht:tb.lookup c=some d) (k:evSs call (σ.set t (some (false,d))) rest=z):evSs call σ (.tryB i t f as tb::rest)=z:=by
  rw [evSs_cons,evS_tryB,if_pos hi,ha,Option.bind_some,hc,Option.bind_some]
  show ((tb.lookup c).map _).bind _=_
  rw [ht]
  exact k
theorem nt_at:List.lookup ntS [(PySem.Str.ofString "NoThing",D.str (PySem.Str.ofString "refused"))]=some (D.str (PySem.Str.ofString "refused")):=by
  show List.lookup ntS [(ntS,D.str (PySem.Str.ofString "refused"))]=_
  rw [List.lookup_cons,beq_self_eq_true]
theorem rf_rf:cmpP .eq (.str (PySem.Str.ofString "refused")) (.str (PySem.Str.ofString "refused"))=some (false,.bl true):=by
  have h:eqD (.str (PySem.Str.ofString "refused")) (.str (PySem.Str.ofString "refused"))=true:=by decide
  show some (false,D.bl (eqD (.str (PySem.Str.ofString "refused")) (.str (PySem.Str.ofString "refused"))))=_
  rw [h]
theorem t_refd (a b s m w:D) (C6:call (6+XO) [a,b,s,m,w]=some (false,.exc ntS)):evSs call [some (false,.tup [a,b,s,m,w]),none,none] f_law_refused.body=some (.rt (false,.bl true)):=by
  refine st_set (false,.str (PySem.Str.ofString "made")) rfl ?_
  refine st_try (xs:=[a,b,s,m,w]) ⟨rfl,by simp⟩ rfl C6 nt_at ?_
  exact st_ret (r:=(false,.bl true)) (e_cmp (x:=.str (PySem.Str.ofString "refused")) (y:=.str (PySem.Str.ofString "refused")) rfl rfl rf_rf) rfl
theorem t_spoil {h:Int}{S:List (Int×Int)}{V:List Int}{k w:Int}(g:Gd h S V k w) (way place far:Int) (hw:1≤way∧way≤21) (hf:0≤far) (C10:call 10 [.int place]=some (false,strD place)) (C11:∀(xs:List D) (j:Nat) (d:D),j<xs.length→xs.length≤10000→pl d=true→call 11 [.tup xs,.int (j:Int),d]=some (false,.tup (xs.set j d)))
    (C12:∀(p:Int×Int),(way=8∨way=9∨way=10∨way=11∨way=12∨way=13)→∃fl d,call 12 [sdD p,.int way,.int place,.int far]=some (fl,d)∧pl d=true∧pls d=true∧sid d=false) :
    ∃a b s m w',evSs call [some (false,paD h S V k w),some (false,.int way),some (false,.int place),some (false,.int far),none,none,none,none,none] f_law_spoiled.body=some (.rt (false,.tup [a,b,s,m,w']))∧Bd5 a b s m w':=by
  have d8:divOk 8=true:=by decide
  have dS:divOk ((S.length:Nat):Int)=true:=by rcases g.l with h|h<;>rw [h]<;>decide
  obtain⟨at_,ha,hat⟩:∃at_:Nat,(place.fdiv 8).fmod ((S.length:Nat):Int)=(at_:Int)∧at_<S.length:=by
    have:=fm_bd (place.fdiv 8) ((S.length:Nat):Int) (by rcases g.l with h|h<;>rw [h]<;>decide)
    exact⟨((place.fdiv 8).fmod ((S.length:Nat):Int)).toNat,by omega,by omega⟩
  obtain⟨a,b,s,m,w',q1,q2⟩:=w_all (call:=call) h S V k w place far hf at_ g.l g.e hat (strD place) (str_pl place).1 (str_pl place).2.2 (str_num place) (str_box place) C11 none none none way hw C12
  refine⟨a,b,s,m,w',?_,q2⟩
  refine st_set (false,.int (at_:Int)) (e_bin (x:=.int (place.fdiv 8)) (y:=.int ((S.length:Nat):Int)) (pk_b (e_div rfl d8)) (pk_bi (r:=(false,.int ((S.length:Nat):Int))) (e_bi1 (x:=.tup (S.map sdD)) rfl (by show some (false,D.int (((S.map sdD).length:Nat):Int))=_;rw [List.length_map]))) (by rw [binP_mod,if_pos dS,ha])) ?_
  exact st_set (false,strD place) (e_call1 rfl C10) q1
end
end Dw.T
namespace Dw.T
open Dw
theorem pl_x {fl:Bool}{d:D}(h:pl d=true):isX (fl,d)=false:=by
  cases fl<;>cases d<;>first|rfl|cases h
theorem c_ss (n:Nat) (p:Int×Int) (way place far:Int) (hf:0≤far) (hw:way=8∨way=9∨way=10∨way=11∨way=12∨way=13):∃fl d,callN tab (n+2) 12 [sdD p,.int way,.int place,.int far]=some (fl,d)∧pl d=true∧pls d=true∧sid d=false:=by
  obtain⟨fl,d,h1,h2,h3,h4⟩:=t_ss (call:=callN tab (n+1)) p place far hf (strD place) (str_pl place).1 (str_num place) (c_strange n place) way hw
  exact⟨fl,d,call_rt t12 rfl rfl h1 (pl_x h2),h2,h3,h4⟩
theorem c_spoil (n:Nat) {h:Int}{S:List (Int×Int)}{V:List Int}{k w:Int}(g:Gd h S V k w) (way place far:Int) (hw:1≤way∧way≤21) (hf:0≤far):∃a b s m w',callN tab (n+3) 13 [paD h S V k w,.int way,.int place,.int far]=some (false,.tup [a,b,s,m,w'])∧Bd5 a b s m w':=by
  obtain⟨a,b,s,m,w',q1,q2⟩:=t_spoil (call:=callN tab (n+2)) g way place far hw hf (c_strange (n+1) place) (λxs j d h1 h2 h3=>c_with (n+1) xs j d h1 h2 h3) λp h8=>c_ss n p way place far hf h8
  exact⟨a,b,s,m,w',call_rt t13 rfl rfl q1,q2⟩
theorem c_refd (n:Nat) {a b s m w:D}(B:Bd5 a b s m w):callN tab (n+5) 15 [.tup [a,b,s,m,w]]=some (false,.bl true):=
  call_rt t15 rfl rfl (t_refd (call:=callN tab (n+4)) a b s m w (c_mk n a b s m w B.ha B.hb B.hb' B.hs B.hs' B.hm B.hw B.no))
theorem c_mok (n:Nat) {h:Int}{S:List (Int×Int)}{V:List Int}{k w:Int}(g:Gd h S V k w):callN tab (n+4) 6 [.int h,.tup (S.map sdD),.tup (V.map .int),.int k,.int w]=some (false,.tup [.int h,swD S V,.int k,.int w]):=by
  have c4:=c_box n (.tup (S.map sdD)) rfl (pb_S S)
  rw [box_ok g] at c4
  have c5:=c_spd (n+1) (.tup (V.map .int)) S.length rfl (pls_V V)
  rw [spd_ok g] at c5
  exact call_rt t6 rfl rfl (t_mok (call:=callN tab (n+3)) g (c_num (n+2)) c4 c5 (call_rt t1 rfl rfl (t_drift S V)))
theorem c_parts (n:Nat) (c:Int) (hc:2 * c.natAbs<huge):∃h S V k w,Gd h S V k w∧callN tab (n+2) 9 [.int c]=some (false,paD h S V k w):=by
  obtain⟨h,S,V,k,w,g,q⟩:=t_parts (call:=callN tab (n+1)) c (call_rt t7 rfl rfl (t_stir c hc)) (call_rt t8 rfl rfl (t_next (stirZ c) (stir_bd c)))
  exact⟨h,S,V,k,w,g,call_rt t9 rfl rfl q⟩
mutual
theorem eq_r:∀d:D,eqD d d=true
  | .non=>by simp
  | .bl _=>by simp
  | .int _=>by simp
  | .str _=>by simp
  | .tup ds=>by simpa using eqs_r ds
  | .lst ds=>by simpa using eqs_r ds
  | .dct _ _=>by simp
  | .obj _ ds=>by simpa using eqs_r ds
  | .exc _=>by simp
theorem eqs_r:∀ds:List D,eqDs ds ds=true
  | []=>by simp
  | d::ds=>by simp [eq_r d,eqs_r ds]
end
theorem ne_th (h:Int) (S:List (Int×Int)) (V:List Int) (k w:Int):cmpP .ne (.tup [.int h,swD S V,.int k,.int w]) (.tup [.int h,swD S V,.int k,.int w])=some (false,.bl false):=by
  refine ne_same2 ?_ (eq_r _)
  show shals 19 [D.int h,swD S V,.int k,.int w]=true
  have:shal 19 (swD S V)=true:=by
    show shals 18 ((S.zip V).map zD)=true
    rw [shals_map,List.all_eq_true]
    exact λq _=>rfl
  rw [shals,shals,shals,shals,shals,this]
  rfl
section
variable {call:Nat→List D→Option R}
theorem t_cell (ns:List Int) (c:Int) (hc:2 * c.natAbs<huge) (C9:∃h S V k w,Gd h S V k w∧call 9 [.int c]=some (false,paD h S V k w)) (C7:call 7 [.int c]=some (false,.int (stirZ c))) (C8:∀x:Int,0≤x∧x<prm→call 8 [.int x]=some (false,.int (nextZ x)))
    (C13:∀{h:Int}{S:List (Int×Int)}{V:List Int}{k w:Int},Gd h S V k w→∀way place far:Int,1≤way∧way≤21→0≤far→∃a b s m w',call 13 [paD h S V k w,.int way,.int place,.int far]=some (false,.tup [a,b,s,m,w'])∧Bd5 a b s m w')
    (C15:∀{a b s m w:D},Bd5 a b s m w→call 15 [.tup [a,b,s,m,w]]=some (false,.bl true))
    (C6:∀{h:Int}{S:List (Int×Int)}{V:List Int}{k w:Int},Gd h S V k w→call 6 [.int h,.tup (S.map sdD),.tup (V.map .int),.int k,.int w]=some (false,.tup [.int h,swD S V,.int k,.int w])) (o2 o3 o4 o5 o6 o7:Option R) :
    ∃p2 p3 p4 p5 p6 p7,evSs call [some (false,.lst (ns.map .int)),some (false,.int c),o2,o3,o4,o5,o6,o7] [.set 2 false (.call 9 [(.v 1)]),.set 3 false (.call 8 [(.call 8 [(.call 7 [(.v 1)])])]),.set 4 false (.bin .mod (.v 3) (.k (.int 22))),.set 5 false (.ix (.lst [(.k (.int 0)),(.bin .mod (.v 1) (.k (.int 1000))),(.bin .mod (.v 1) (.bin .pow (.k (.int 10)) (.k (.int 40))))]) (.bin .mod (.bin .fdiv (.v 3) (.k (.int 22))) (.k (.int 3)))),.ite (.and (.cmp .gt (.v 4) (.k (.int 0))) (.not (.call 15 [(.call 13 [(.v 2),(.v 4),(.bin .fdiv (.v 3) (.k (.int 66))),(.v 5)])]))) [.ret (.k (.bl false))] [],.set 6 false (.bi .tuple [(.compZ (.tup [(.ix (.v 0) (.k (.int 0))),(.ix (.v 0) (.k (.int 1))),(.v 1),(.v 1)]) 2 [] (.two 0 1) (.ix (.v 2) (.k (.int 1))) (.ix (.v 2) (.k (.int 2))))]),.set 7 false (.call 6 [(.ix (.v 2) (.k (.int 0))),(.ix (.v 2) (.k (.int 1))),(.ix (.v 2) (.k (.int 2))),(.ix (.v 2) (.k (.int 3))),(.ix (.v 2) (.k (.int 4)))]),.ite (.or (.not (.isi (.v 7) .tuple)) (.cmp .ne (.v 7) (.tup [(.ix (.v 2) (.k (.int 0))),(.v 6),(.ix (.v 2) (.k (.int 3))),(.ix (.v 2) (.k (.int 4)))]))) [.ret (.k (.bl false))] []]=some (.nx [some (false,.lst (ns.map .int)),some (false,.int c),p2,p3,p4,p5,p6,p7]):=by
  obtain⟨h,S,V,k,w,g,q9⟩:=C9
  have d22:divOk 22=true:=by decide
  have d3:divOk 3=true:=by decide
  have d66:divOk 66=true:=by decide
  have d1000:divOk 1000=true:=by decide
  have d40:divOk 10000000000000000000000000000000000000000=true:=by decide
  have l3:3≤lim:=le_lim (by decide)
  have l4:4≤lim:=le_lim (by decide)
  have b1:=C8 (stirZ c) (stir_bd c)
  have b2:=C8 (nextZ (stirZ c)) (next_bd _)
  generalize hL:nextZ (nextZ (stirZ c))=L at b2
  obtain⟨far,hfar,efar⟩:∃far:Int,0≤far∧∀(x2 x3 x4 x5 x6 x7:Option R),x3=some (false,.int L)→evE call [some (false,.lst (ns.map .int)),some (false,.int c),x2,x3,x4,x5,x6,x7] (.ix (.lst [(.k (.int 0)),(.bin .mod (.v 1) (.k (.int 1000))),(.bin .mod (.v 1) (.bin .pow (.k (.int 10)) (.k (.int 40))))]) (.bin .mod (.bin .fdiv (.v 3) (.k (.int 22))) (.k (.int 3))))=some (false,.int far):=by
    have hx:∀(x2 x3 x4 x5 x6 x7:Option R),evE call [some (false,.lst (ns.map .int)),some (false,.int c),x2,x3,x4,x5,x6,x7] (.lst [(.k (.int 0)),(.bin .mod (.v 1) (.k (.int 1000))),(.bin .mod (.v 1) (.bin .pow (.k (.int 10)) (.k (.int 40))))])=some (true,.lst [.int 0,.int (c.fmod 1000),.int (c.fmod 10000000000000000000000000000000000000000)]):=λx2 x3 x4 x5 x6 x7 =>
      e_lst3 (x:=(false,.int 0)) (y:=(false,.int (c.fmod 1000))) (z:=(false,.int (c.fmod 10000000000000000000000000000000000000000))) rfl (e_mod rfl d1000 rfl) (e_bin (x:=.int c) (y:=.int 10000000000000000000000000000000000000000) rfl (pk_b (e_bin (x:=.int 10) (y:=.int 40) rfl rfl rfl)) (by rw [binP_mod,if_pos d40]))
    have m1:=fm_bd c 1000 (by decide)
    have m2:=fm_bd c 10000000000000000000000000000000000000000 (by decide)
    have m3:=fm_bd (L.fdiv 22) 3 (by decide)
    have hr:(L.fdiv 22).fmod 3=0∨(L.fdiv 22).fmod 3=1∨(L.fdiv 22).fmod 3=2:=by omega
    rcases hr with hr|hr|hr
    · exact⟨0,by omega,λx2 x3 x4 x5 x6 x7 e=>by subst e;exact e_ix (pk_lst (hx _ _ _ _ _ _)) (pk_bin (e_mod (pk_bin (e_div rfl d22)) d3 hr)) rfl⟩
    · exact⟨c.fmod 1000,m1.1,λx2 x3 x4 x5 x6 x7 e=>by subst e;exact e_ix (pk_lst (hx _ _ _ _ _ _)) (pk_bin (e_mod (pk_bin (e_div rfl d22)) d3 hr)) rfl⟩
    · exact⟨_,m2.1,λx2 x3 x4 x5 x6 x7 e=>by subst e;exact e_ix (pk_lst (hx _ _ _ _ _ _)) (pk_bin (e_mod (pk_bin (e_div rfl d22)) d3 hr)) rfl⟩
  have bw:=fm_bd L 22 (by decide)
  refine⟨some (false,paD h S V k w),some (false,.int L),some (false,.int (L.fmod 22)),some (false,.int far),some (false,swD S V),some (false,.tup [.int h,swD S V,.int k,.int w]),?_⟩
  refine st_set (false,paD h S V k w) (e_call1 rfl q9) ?_
  refine st_set (false,.int L) (e_call1 (ag_call (e_call1 (ag_call (e_call1 rfl C7)) b1)) b2) ?_
  refine st_set (false,.int (L.fmod 22)) (e_mod rfl d22 rfl) ?_
  refine st_set (false,.int far) (efar _ _ _ _ _ _ rfl) ?_
  refine st_skip (x:=false) ?_ ?_
  · by_cases h0:L.fmod 22=0
    · refine e_andF (x:=false) (e_cmp (x:=.int (L.fmod 22)) (y:=.int 0) rfl rfl ?_)
      rw [h0]
      rfl
    · obtain⟨a,b,s,m,w',r1,r2⟩:=C13 g (L.fmod 22) (L.fdiv 66) far (by omega) hfar
      refine e_andT (x:=false) (e_cmp (x:=.int (L.fmod 22)) (y:=.int 0) rfl rfl (by rw [cmpP_gt,decide_eq_true (by omega)])) (e_not (x:=false) (b:=true) (e_call1 (ag_call (e_call4 rfl rfl (by rw [e_div (call:=call) (a:=.v 3) (p:=L) rfl d66];rfl) rfl r1)) (C15 r2)))
  refine st_set (false,swD S V) (e_zip (S:=S) (V:=V) (x:=(false,.tup (S.map sdD))) (y:=(false,.tup (V.map .int))) (e_ix rfl rfl rfl) (e_ix rfl rfl rfl) rfl rfl) ?_
  refine st_set (false,.tup [.int h,swD S V,.int k,.int w]) ?_ ?_
  · rw [evE_call]
    exact C6 g
  refine st_skip (x:=false) (e_or (x:=false) (y:=false) (p:=false) (q:=false) rfl (e_cmp (x:=.tup [.int h,swD S V,.int k,.int w]) (y:=.tup [.int h,swD S V,.int k,.int w]) rfl ?_ (ne_th h S V k w))) rfl
  have:evE call [some (false,.lst (ns.map .int)),some (false,.int c),some (false,paD h S V k w),some (false,.int L),some (false,.int (L.fmod 22)),some (false,.int far),some (false,swD S V),some (false,.tup [.int h,swD S V,.int k,.int w])] (.tup [(.ix (.v 2) (.k (.int 0))),(.v 6),(.ix (.v 2) (.k (.int 3))),(.ix (.v 2) (.k (.int 4)))])=some (false,.tup [.int h,swD S V,.int k,.int w]):=if_pos (e:=none) l4
  exact pk_tup this
end
theorem c_law19 (n:Nat) (ns:List Int) (hl:ns.length≤63) (hw:∀i∈ns,2 * i.natAbs<huge):callN tab (n+7) 16 [.lst (ns.map .int)]=some (false,.bl true):=by
  refine call_rt t16 rfl rfl ?_
  obtain⟨σ',h',o1,o2,o3,o4,o5,o6,o7,rfl⟩:=evFor_all (call:=callN tab (n+6)) (tg:=.one 1) (body:=[.set 2 false (.call 9 [(.v 1)]),.set 3 false (.call 8 [(.call 8 [(.call 7 [(.v 1)])])]),.set 4 false (.bin .mod (.v 3) (.k (.int 22))),.set 5 false (.ix (.lst [(.k (.int 0)),(.bin .mod (.v 1) (.k (.int 1000))),(.bin .mod (.v 1) (.bin .pow (.k (.int 10)) (.k (.int 40))))]) (.bin .mod (.bin .fdiv (.v 3) (.k (.int 22))) (.k (.int 3)))),.ite (.and (.cmp .gt (.v 4) (.k (.int 0))) (.not (.call 15 [(.call 13 [(.v 2),(.v 4),(.bin .fdiv (.v 3) (.k (.int 66))),(.v 5)])]))) [.ret (.k (.bl false))] [],.set 6 false (.bi .tuple [(.compZ (.tup [(.ix (.v 0) (.k (.int 0))),(.ix (.v 0) (.k (.int 1))),(.v 1),(.v 1)]) 2 [] (.two 0 1) (.ix (.v 2) (.k (.int 1))) (.ix (.v 2) (.k (.int 2))))]),.set 7 false (.call 6 [(.ix (.v 2) (.k (.int 0))),(.ix (.v 2) (.k (.int 1))),(.ix (.v 2) (.k (.int 2))),(.ix (.v 2) (.k (.int 3))),(.ix (.v 2) (.k (.int 4)))]),.ite (.or (.not (.isi (.v 7) .tuple)) (.cmp .ne (.v 7) (.tup [(.ix (.v 2) (.k (.int 0))),(.v 6),(.ix (.v 2) (.k (.int 3))),(.ix (.v 2) (.k (.int 4)))]))) [.ret (.k (.bl false))] []]) D.int (fun σ=>∃o1 o2 o3 o4 o5 o6 o7,σ=[some (false,.lst (ns.map .int)),o1,o2,o3,o4,o5,o6,o7]) (0::ns) [some (false,.lst (ns.map .int)),none,none,none,none,none,none,none] ⟨_,_,_,_,_,_,_,rfl⟩ (by
    rintro c hc σ ⟨o1,o2,o3,o4,o5,o6,o7,rfl⟩
    have hh:2 * c.natAbs<huge:=by
      rcases List.mem_cons.mp hc with rfl|hc
      · exact lt_hugeS (by decide)
      · exact hw c hc
    obtain⟨p2,p3,p4,p5,p6,p7,e⟩:=t_cell (call:=callN tab (n+6)) ns c hh (c_parts (n+4) c hh) (call_rt t7 rfl rfl (t_stir c hh)) (λx hx=>call_rt t8 rfl rfl (t_next x hx)) (λg way place far h1 h2=>c_spoil (n+3) g way place far h1 h2) (λB=>c_refd (n+1) B) (λg=>c_mok (n+2) g) o2 o3 o4 o5 o6 o7
    exact⟨_,_,rfl,e,_,_,_,_,_,_,_,rfl⟩)
  have e0:evE (callN tab (n+6)) [some (false,.lst (ns.map .int)),none,none,none,none,none,none,none] (.bin .add (.lst [(.k (.int 0))]) (.v 0))=some (true,.lst ((0::ns).map .int)):=by
    have l1:1≤lim:=le_lim (by decide)
    refine e_bin (x:=.lst [.int 0]) (y:=.lst (ns.map .int)) (pk_lst (r:=(true,.lst [.int 0])) (if_pos (e:=none) l1)) rfl ?_
    rw [binP_addL,if_pos (le_lim (by rw [List.length_map];show 1+_≤_;omega))]
    rfl
  refine st_forS (r:=(true,.lst ((0::ns).map .int))) e0 rfl h' ?_
  exact st_ret (r:=(false,.bl true)) rfl rfl
end Dw.T
namespace Dw.K19
open PySem L2 Dw Dw.T PyProof.Rows
open PySem.W (nsIn fnOf codeIn keepIn findIn mg_of mg_none_of Frag)
noncomputable def gx:Gx:=⟨("still_swath",0)::("drifting",1)::("is_number",2)::("is_side",3)::("is_box",4)::("are_speeds",5)::("make_thing",6)::("_law_stir",7)::("_law_next",8)::("_law_parts_by",9)::("_law_strange",10)::("_law_with",11)::("_law_side_spoiled",12)::("_law_spoiled",13)::("_law_refused",15)::("law",16)::[],[("PLACE_BOUND",1000000000000000000000000000000),("SPEED_BOUND",1000000000000000),("HANDLE_BOUND",1000000000000000000),("MARKS_BOUND",65535),("WORTH_BOUND",1000000000000000000000000000000)],[],[],[],["NoThing"],[("make_thing",6)]⟩
theorem gx_free:∀x∈bltNames,gx.defs.lookup x=none:=by decide +kernel
noncomputable abbrev cq (s:Stmt):=cSs gx 60 (defScope s) (namesOf (defScope s)) (mutS 60 (namesOf (defScope s)) (defBody s)) (defBody s)
noncomputable def scB (s:Stmt) (ps:List Str):Bool:=(defScope s).kind == .function&&!(defScope s).isCoroutine&&!(defScope s).isGenerator&&decide (namesOf (defScope s)).Nodup&&decide ((namesOf (defScope s)).take ps.length=ps)&&ps.all (λx=>(defScope s).names.lookup x == some .local||(defScope s).names.lookup x == some .cell)&&(defScope s).names.all λy=>y.2 != .free
theorem sc_of {s:Stmt}{ps:List Str}(h:scB s ps=true):FnScope (namesOf (defScope s)) ps (defScope s):=by
  unfold scB at h
  simp only [Bool.and_eq_true,List.all_eq_true,Bool.or_eq_true,beq_iff_eq,bne_iff_ne,Bool.not_eq_true',decide_eq_true_eq] at h
  obtain⟨⟨⟨⟨⟨⟨h1,h2⟩,h3⟩,h4⟩,h5⟩,h6⟩,h7⟩:=h
  exact⟨h1,h2,h3,h4,h5,h6,h7⟩
theorem us1 {P:List Value→Prop}(h:∀a,P [a]) (us:List Value) (hl:us.length=1):P us:=by
  obtain⟨a,rfl⟩:=List.length_eq_one_iff.mp hl
  exact h a
theorem us2 {P:List Value→Prop}(h:∀a0 a1,P [a0,a1]) (us:List Value) (hl:us.length=2):P us:=by
  cases us with
  | nil=>cases hl
  | cons a r=>exact us1 (P:=λr=>P (a::r)) (h a) r (Nat.succ.inj hl)
theorem us3 {P:List Value→Prop}(h:∀a0 a1 a2,P [a0,a1,a2]) (us:List Value) (hl:us.length=3):P us:=by
  cases us with
  | nil=>cases hl
  | cons a r=>exact us2 (P:=λr=>P (a::r)) (h a) r (Nat.succ.inj hl)
theorem us4 {P:List Value→Prop}(h:∀a0 a1 a2 a3,P [a0,a1,a2,a3]) (us:List Value) (hl:us.length=4):P us:=by
  cases us with
  | nil=>cases hl
  | cons a r=>exact us3 (P:=λr=>P (a::r)) (h a) r (Nat.succ.inj hl)
theorem us5 {P:List Value→Prop}(h:∀a0 a1 a2 a3 a4,P [a0,a1,a2,a3,a4]) (us:List Value) (hl:us.length=5):P us:=by
  cases us with
  | nil=>cases hl
  | cons a r=>exact us4 (P:=λr=>P (a::r)) (h a) r (Nat.succ.inj hl)
theorem bd1 {fd:FuncData}{ps:List Str}(hp:ps.length=1) (h:∀a0,bindArgs fd ⟨[a0],[]⟩=pure (ps.zip [a0])) (us:List Value) (hl:us.length=ps.length):bindArgs fd ⟨us,[]⟩=pure (ps.zip us):=us1 (P:=λus=>bindArgs fd ⟨us,[]⟩=pure (ps.zip us)) h us (hl.trans hp)
theorem bd2 {fd:FuncData}{ps:List Str}(hp:ps.length=2) (h:∀a0 a1,bindArgs fd ⟨[a0,a1],[]⟩=pure (ps.zip [a0,a1])) (us:List Value) (hl:us.length=ps.length):bindArgs fd ⟨us,[]⟩=pure (ps.zip us):=us2 (P:=λus=>bindArgs fd ⟨us,[]⟩=pure (ps.zip us)) h us (hl.trans hp)
theorem bd3 {fd:FuncData}{ps:List Str}(hp:ps.length=3) (h:∀a0 a1 a2,bindArgs fd ⟨[a0,a1,a2],[]⟩=pure (ps.zip [a0,a1,a2])) (us:List Value) (hl:us.length=ps.length):bindArgs fd ⟨us,[]⟩=pure (ps.zip us):=us3 (P:=λus=>bindArgs fd ⟨us,[]⟩=pure (ps.zip us)) h us (hl.trans hp)
theorem bd4 {fd:FuncData}{ps:List Str}(hp:ps.length=4) (h:∀a0 a1 a2 a3,bindArgs fd ⟨[a0,a1,a2,a3],[]⟩=pure (ps.zip [a0,a1,a2,a3])) (us:List Value) (hl:us.length=ps.length):bindArgs fd ⟨us,[]⟩=pure (ps.zip us):=us4 (P:=λus=>bindArgs fd ⟨us,[]⟩=pure (ps.zip us)) h us (hl.trans hp)
theorem bd5 {fd:FuncData}{ps:List Str}(hp:ps.length=5) (h:∀a0 a1 a2 a3 a4,bindArgs fd ⟨[a0,a1,a2,a3,a4],[]⟩=pure (ps.zip [a0,a1,a2,a3,a4])) (us:List Value) (hl:us.length=ps.length):bindArgs fd ⟨us,[]⟩=pure (ps.zip us):=us5 (P:=λus=>bindArgs fd ⟨us,[]⟩=pure (ps.zip us)) h us (hl.trans hp)
theorem fc {α:Type}{p:α→Prop}{a:α}{l:List α}(h:p a) (t:∀x∈l,p x):∀x∈a::l,p x:=List.forall_mem_cons.mpr ⟨h,t⟩
section
variable {K:Frag}{h:Heap}{mg:Str→Option Value}
noncomputable abbrev Bd (x q:Str) (s:Stmt) (ps:List Str):Prop:=∀(kV doc pm:Value) (an:Option Addr) (cdv ct:Value) (us:List Value),us.length=ps.length→bindArgs (fnOf x q (defArgs s) (defBody s) (defScope s) .none kV doc pm an cdv ct) ⟨us,[]⟩=pure (ps.zip us)
theorem mkD (X:K.In h) (G:h.Ns mainGlobals mg) {x:Str}(m:Str) (t:Tok) (i f c:Nat) {g:Nat}(ps:List Str) (fd:Fd) (tt:tab[g]?=some fd) (a:nsIn K mainGlobals x=some (some (.ref f))) (l:K.lookup f=some (fo x x (top i) m t c)) (cc:codeIn K (.ref c) x=true) (k:keepIn K (.ref f)=true) (b:Bd x x (top i) ps) (sc:scB (top i) ps=true) (cs:cq (top i)=some fd.body) (np:fd.np=ps.length) (ns:fd.ns=(namesOf (defScope (top i))).length):DefIn K mg gx tab 60 x g:=
  ⟨⟨f,_,top i,ps,fd,mg_of X G a,fun_toD (fun_mk (st:=top i) l cc k),(fun_mk (st:=top i) l cc k).binds b,sc_of sc,cs,tt,np,ns⟩⟩
theorem mkDd (X:K.In h) (G:h.Ns mainGlobals mg) {x:Str}(m:Str) (t:Tok) (i f c d:Nat) {g:Nat}(ps:List Str) (fd:Fd) (tt:tab[g]?=some fd) (b:∀(s:Shared) (us:List Value),K.In s.heap→(us++[]).length=ps.length→BindsTo s (fnOf x x (defArgs (top i)) (defBody (top i)) (defScope (top i)) (.ref d) .none .none (.str m t) none (.ref c) .none) ⟨us,[]⟩ (ps.zip (us++[]))) (a:nsIn K mainGlobals x=some (some (.ref f))) (l:K.lookup f=some (fod x x (top i) m t c d)) (cc:codeIn K (.ref c) x=true) (k:keepIn K (.ref f)=true) (sc:scB (top i) ps=true) (cs:cq (top i)=some fd.body) (np:fd.np=ps.length) (ns:fd.ns=(namesOf (defScope (top i))).length):DefIn K mg gx tab 60 x g:=
  ⟨⟨f,_,top i,ps,fd,mg_of X G a,⟨⟨_,_,_,_,_,_,_,_,_,_,rfl,l,cc⟩,k⟩,b,sc_of sc,cs,tt,np,ns⟩⟩
theorem mkX (X:K.In h) (G:h.Ns mainGlobals mg) {x:Str}(m:Str) (t:Tok) (i f c:Nat) {g:Nat}(ps:List Str) (fd:Fd) (tt:tab[g]?=some fd) (a:nsIn K mainGlobals x=some (some (.ref f))) (l:K.lookup f=some (fo x x (top i) m t c)) (cc:codeIn K (.ref c) x=true) (k:keepIn K (.ref f)=true) (b:Bd x x (top i) ps) (sc:scB (top i) ps=true) (bo:BodyOk K mg gx tab (top i) fd.body) (np:fd.np=ps.length) (ns:fd.ns=(namesOf (defScope (top i))).length):SpIn K mg gx tab x g:=
  ⟨⟨f,_,top i,ps,fd,mg_of X G a,fun_toD (fun_mk (st:=top i) l cc k),(fun_mk (st:=top i) l cc k).binds b,sc_of sc,bo,tt,np,ns⟩⟩
end
section
variable {h:Heap}{mg:Str→Option Value}{P:Params}(X:(heap P).In h) (G:h.Ns mainGlobals mg)
include X G
theorem xcl:XCls (heap P) 37:=⟨by kernel_rfl,by kernel_rfl,by kernel_rfl,by kernel_rfl,by kernel_rfl,by kernel_rfl⟩
theorem ok_law_refused:BodyOk (heap P) mg gx tab (top 34) f_law_refused.body:=by
  intro n Y hK hmg hst hex hsc g
  have e:defBody (top 34)=[ (.Assign ([(.Name "word" ⟨129,4,129,8⟩)]) (.Constant (.str "made") 0 ⟨129,11,129,17⟩) ⟨129,4,129,17⟩),(.Try ([ (.Expr ((.Call (.Name "make_thing" ⟨131,8,131,18⟩) ([ (.Subscript (.Name "parts" ⟨131,19,131,24⟩) (slice:=(.Constant (.int 0) 0 ⟨131,25,131,26⟩)) ⟨131,19,131,27⟩),(.Subscript (.Name "parts" ⟨131,29,131,34⟩) (slice:=(.Constant (.int 1) 0 ⟨131,35,131,36⟩)) ⟨131,29,131,37⟩),(.Subscript (.Name "parts" ⟨131,39,131,44⟩) (slice:=(.Constant (.int 2) 0 ⟨131,45,131,46⟩)) ⟨131,39,131,47⟩),(.Subscript (.Name "parts" ⟨131,49,131,54⟩) (slice:=(.Constant (.int 3) 0 ⟨131,55,131,56⟩)) ⟨131,49,131,57⟩),(.Subscript (.Name "parts" ⟨131,59,131,64⟩) (slice:=(.Constant (.int 4) 0 ⟨131,65,131,66⟩)) ⟨131,59,131,67⟩)]) [] ⟨131,8,131,68⟩)) ⟨131,8,131,68⟩)]) ([ (.ExceptHandler (some (.Name "NoThing" ⟨132,11,132,18⟩)) (some "e") ([ (.Assign ([(.Name "word" ⟨133,8,133,12⟩)]) (.Constant (.str "refused") 0 ⟨133,15,133,24⟩) ⟨133,8,133,24⟩),(.If ((.BoolOp (.Or) ([ (.UnaryOp .Not ((.Call (.Name "isinstance" ⟨134,15,134,25⟩) ([(.Name "e" ⟨134,26,134,27⟩),(.Name "DriftError" ⟨134,29,134,39⟩)]) [] ⟨134,15,134,40⟩)) ⟨134,11,134,40⟩),(.UnaryOp .Not ((.Call (.Name "isinstance" ⟨134,48,134,58⟩) ([(.Name "e" ⟨134,59,134,60⟩),(.Name "ValueError" ⟨134,62,134,72⟩)]) [] ⟨134,48,134,73⟩)) ⟨134,44,134,73⟩),(.Call (.Name "_law_other" ⟨134,77,134,87⟩) ([(.Name "e" ⟨134,88,134,89⟩)]) [] ⟨134,77,134,90⟩)]) ⟨134,11,134,90⟩)) ([ (.Assign ([(.Name "word" ⟨135,12,135,16⟩)]) (.Constant (.str "under another one") 0 ⟨135,19,135,38⟩) ⟨135,12,135,38⟩)]) [] ⟨134,8,135,38⟩)]) ⟨132,4,135,38⟩)]) [] [] ⟨130,4,135,38⟩),(.Return ((some (.Compare (left:=(.Name "word" ⟨136,11,136,15⟩)) (ops:=[PySem.CmpOp.Eq]) (comparators:=[(.Constant (.str "refused") 0 ⟨136,19,136,28⟩)]) ⟨136,11,136,28⟩))) ⟨136,4,136,28⟩)]:=by kernel_rfl
  have eo:defBody (top 33)=[ (.If ((.BoolOp (.Or) ([ (.Call (.Name "isinstance" ⟨123,7,123,17⟩) ([(.Name "found" ⟨123,18,123,23⟩),(.Name "NoWant" ⟨123,25,123,31⟩)]) [] ⟨123,7,123,32⟩),(.Call (.Name "isinstance" ⟨123,36,123,46⟩) ([(.Name "found" ⟨123,47,123,52⟩),(.Name "NoPath" ⟨123,54,123,60⟩)]) [] ⟨123,36,123,61⟩),(.Call (.Name "isinstance" ⟨123,65,123,75⟩) ([(.Name "found" ⟨123,76,123,81⟩),(.Name "NoHandle" ⟨123,83,123,91⟩)]) [] ⟨123,65,123,92⟩)]) ⟨123,7,123,92⟩)) ([ (.Return ((some (.Constant (.bool true) 0 ⟨124,15,124,19⟩))) ⟨124,8,124,19⟩)]) [] ⟨123,4,124,19⟩),(.If ((.BoolOp (.Or) ([ (.Call (.Name "isinstance" ⟨125,7,125,17⟩) ([(.Name "found" ⟨125,18,125,23⟩),(.Name "NoRoom" ⟨125,25,125,31⟩)]) [] ⟨125,7,125,32⟩),(.Call (.Name "isinstance" ⟨125,36,125,46⟩) ([(.Name "found" ⟨125,47,125,52⟩),(.Name "Twice" ⟨125,54,125,59⟩)]) [] ⟨125,36,125,60⟩),(.Call (.Name "isinstance" ⟨125,64,125,74⟩) ([(.Name "found" ⟨125,75,125,80⟩),(.Name "NoView" ⟨125,82,125,88⟩)]) [] ⟨125,64,125,89⟩)]) ⟨125,7,125,89⟩)) ([ (.Return ((some (.Constant (.bool true) 0 ⟨126,15,126,19⟩))) ⟨126,8,126,19⟩)]) [] ⟨125,4,126,19⟩),(.Return ((some (.BoolOp (.Or) ([ (.Call (.Name "isinstance" ⟨127,11,127,21⟩) ([(.Name "found" ⟨127,22,127,27⟩),(.Name "NoWatch" ⟨127,29,127,36⟩)]) [] ⟨127,11,127,37⟩),(.Call (.Name "isinstance" ⟨127,41,127,51⟩) ([(.Name "found" ⟨127,52,127,57⟩),(.Name "NoText" ⟨127,59,127,65⟩)]) [] ⟨127,41,127,66⟩)]) ⟨127,11,127,66⟩))) ⟨127,4,127,66⟩)]:=by kernel_rfl
  rw [e]
  have T:TryAt (heap P) mg gx (defScope (top 34)) (namesOf (defScope (top 34))) "make_thing" "NoThing" "e" "word" "NoThing" 6 2 1 37 37:=⟨by kernel_rfl,by kernel_rfl,by kernel_rfl,by kernel_rfl,by kernel_rfl,mg_of X G (by kernel_rfl),mg_of X G (by kernel_rfl),by kernel_rfl,xcl X G,by kernel_rfl,by kernel_rfl,by kernel_rfl,by kernel_rfl,by kernel_rfl,by decide,by kernel_rfl⟩
  have So:FnScope ["found"] ["found"] (defScope (top 33)):=by
    have z:=sc_of (s:=top 33) (ps:=[Str.ofString "found"]) (by kernel_rfl)
    rw [show namesOf (defScope (top 33))=([Str.ofString "found"]:List Str) by kernel_rfl] at z
    exact z
  have F:FnH Y.prog Y.w (heap P) mg Y.base 1 231 (fnOf "_law_other" "_law_other" (defArgs (top 33)) (defBody (top 33)) (defScope (top 33)) .none .none .none (.str mC 418) none (.ref 230) .none) ["found"] (spO (heap P) [49,61,73,85,97,109,121,133]):=other_h (oc:=.type "function") (od:=none) (osl:=#[]) (by kernel_rfl) (by kernel_rfl) So eo (by kernel_rfl) (by kernel_rfl) (by kernel_rfl) (mg_none_of X G (by kernel_rfl)) ⟨by kernel_rfl,mg_of X G (by kernel_rfl),by kernel_rfl⟩ ⟨by kernel_rfl,mg_of X G (by kernel_rfl),by kernel_rfl⟩ ⟨by kernel_rfl,mg_of X G (by kernel_rfl),by kernel_rfl⟩ ⟨by kernel_rfl,mg_of X G (by kernel_rfl),by kernel_rfl⟩ ⟨by kernel_rfl,mg_of X G (by kernel_rfl),by kernel_rfl⟩ ⟨by kernel_rfl,mg_of X G (by kernel_rfl),by kernel_rfl⟩ ⟨by kernel_rfl,mg_of X G (by kernel_rfl),by kernel_rfl⟩ ⟨by kernel_rfl,mg_of X G (by kernel_rfl),by kernel_rfl⟩
  have Bo:Binds (heap P) (fnOf "_law_other" "_law_other" (defArgs (top 33)) (defBody (top 33)) (defScope (top 33)) .none .none .none (.str mC 418) none (.ref 230) .none) ["found"] []:=(fun_mk (K:=heap P) (f:=231) (x:="_law_other") (qual:="_law_other") (st:=top 33) (oc:=.type "function") (od:=none) (osl:=#[]) (by kernel_rfl) (by kernel_rfl) (by kernel_rfl)).binds (λ_ _ _ _ _ _=>bd1 rfl λ_=>rfl)
  have kc:∀c∈[49,61,73,85,97,109,121,133],PySem.W.kitOne (heap P) (.ref 37) (.ref c)=some false:=fc (by kernel_rfl) (fc (by kernel_rfl) (fc (by kernel_rfl) (fc (by kernel_rfl) (fc (by kernel_rfl) (fc (by kernel_rfl) (fc (by kernel_rfl) (fc (by kernel_rfl) (λ_ h=>nomatch h))))))))
  have rd:=g.room.dp
  have ru:=g.room.un
  have isi:Str.ofString "isinstance"∈bltNames:=by decide
  exact snd_cons (cx:=[.set 1 false (.k (.str "made"))]) ((all_st gx_free 60).o Y _ _ [] _ _ g (by kernel_rfl)) (snd_cons (cx:=[.tryB 2 1 6 [.ix (.v 0) (.k (.int 0)),.ix (.v 0) (.k (.int 1)),.ix (.v 0) (.k (.int 2)),.ix (.v 0) (.k (.int 3)),.ix (.v 0) (.k (.int 4))] [("NoThing",.str "refused")]]) (snd_tryS (m:=60) (d0:=.str "refused") gx_free g hK hmg hsc hst hex T (by kernel_rfl) (su_orK (X:=Y) (Ca:=24) (Tb:="ValueError") (fa:=231) (kf:=1) (C0:=37) hK hmg (by rw [g.hN];exact g.nd) (by rw [g.hN];exact T.ni) (.inl (by rw [hsc];exact T.ln)) T.pn (by rw [g.hN];exact T.nt) (by rw [hsc];exact T.lt) (by decide) (g.gl _ T.gi) (mg_none_of X G (by kernel_rfl)) (g.gl _ (by kernel_rfl)) (mg_of X G (by kernel_rfl)) (by kernel_rfl) (g.gl _ (by kernel_rfl)) (mg_none_of X G (by kernel_rfl)) (by kernel_rfl) (by decide +kernel) (g.gl _ (by kernel_rfl)) (mg_of X G (by kernel_rfl)) (by kernel_rfl) (by kernel_rfl) Bo F (by omega) (by omega) T.m0 T.xc (by kernel_rfl) (by kernel_rfl) kc)) (snd_cons (cx:=[.ret (.cmp .eq (.v 1) (.k (.str "refused")))]) ((all_st gx_free 60).o Y _ _ [] _ _ g (by kernel_rfl)) snd_nil))
theorem hcn:∀p∈gx.cons,∃t,mg p.1=some (.int p.2 t):=fc ⟨187,mg_of X G (by kernel_rfl)⟩ (fc ⟨189,mg_of X G (by kernel_rfl)⟩ (fc ⟨191,mg_of X G (by kernel_rfl)⟩ (fc ⟨193,mg_of X G (by kernel_rfl)⟩ (fc ⟨195,mg_of X G (by kernel_rfl)⟩ (λ_ h=>nomatch h)))))
theorem hxd:∀p∈gx.xdf,SpIn (heap P) mg gx tab p.1 p.2:=by
  refine fc (DefIn.sp gx_free (mkDd X G mB 375 24 175 174 168 ["handle","box","speeds","marks","worth"] f_make_thing t6 (λs us hK hl=>us5 (P:=λus=>BindsTo s _ ⟨us,[]⟩ (List.zip ["handle","box","speeds","marks","worth"] (us++[]))) (λ_ _ _ _ _=>BindsTo.of_defaults rfl (hK 168 ({ cls:=.type "tuple",data:=.seq #[.none,.int 0 404,.int 0 405] }) (by kernel_rfl)) rfl rfl rfl) us (by simpa using hl)) ?_ ?_ ?_ ?_ ?_ ?_ ?_ ?_)) (λ_ h=>nomatch h)
  all_goals first|kernel_rfl|decide|exact λ_ _ _ _ _ _=>bd1 rfl λ_=>rfl|exact λ_ _ _ _ _ _=>bd2 rfl λ_ _=>rfl|exact λ_ _ _ _ _ _=>bd3 rfl λ_ _ _=>rfl|exact λ_ _ _ _ _ _=>bd4 rfl λ_ _ _ _=>rfl|exact λ_ _ _ _ _ _=>bd5 rfl λ_ _ _ _ _=>rfl
theorem hrs:∀c∈gx.rse,∃(C:Addr) (B nid iid:String) (bm:List Value),ExcBaseFacts B nid iid bm∧OwnCls c C bm nid mg h:=by
  refine fc ⟨37,_,_,_,_,F.excBase_ValueError,mg_of X G ?_,_,_,_,_,_,_,_,_,_,_,_,_,_,_,_,_,_,X 37 (kl "NoThing" 37 36 [.ref 24] (.ref 24::vb) [] 28 217 225) ?_,.of_isNs (PySem.W.isNs_of_in X ?_),PySem.W.nsMap_none_of_in X ?_ ?_,PySem.W.tail_of_in X ?_⟩ (λ_ h=>nomatch h)
  all_goals kernel_rfl
theorem hd:∀p∈gx.defs,SpIn (heap P) mg gx tab p.1 p.2∨SrtIn (heap P) mg tab p.1 p.2:=by
  refine fc (.inl (DefIn.sp gx_free (mkD X G mA 361 17 140 139 ["box"] f_still_swath t0 ?_ ?_ ?_ ?_ ?_ ?_ ?_ ?_ ?_))) (
    fc (.inl (DefIn.sp gx_free (mkD X G mA 361 18 145 144 ["box","speeds"] f_drifting t1 ?_ ?_ ?_ ?_ ?_ ?_ ?_ ?_ ?_))) (
    fc (.inl (DefIn.sp gx_free (mkD X G mB 375 20 152 151 ["value","least","most"] f_is_number t2 ?_ ?_ ?_ ?_ ?_ ?_ ?_ ?_ ?_))) (
    fc (.inl (DefIn.sp gx_free (mkD X G mB 375 21 157 156 ["value"] f_is_side t3 ?_ ?_ ?_ ?_ ?_ ?_ ?_ ?_ ?_))) (
    fc (.inl (DefIn.sp gx_free (mkD X G mB 375 22 162 161 ["value"] f_is_box t4 ?_ ?_ ?_ ?_ ?_ ?_ ?_ ?_ ?_))) (
    fc (.inl (DefIn.sp gx_free (mkD X G mB 375 23 167 166 ["value","sides"] f_are_speeds t5 ?_ ?_ ?_ ?_ ?_ ?_ ?_ ?_ ?_))) (
    fc (.inl (DefIn.sp gx_free (mkDd X G mB 375 24 175 174 168 ["handle","box","speeds","marks","worth"] f_make_thing t6 (λs us hK hl=>us5 (P:=λus=>BindsTo s _ ⟨us,[]⟩ (List.zip ["handle","box","speeds","marks","worth"] (us++[]))) (λ_ _ _ _ _=>BindsTo.of_defaults rfl (hK 168 ({ cls:=.type "tuple",data:=.seq #[.none,.int 0 404,.int 0 405] }) (by kernel_rfl)) rfl rfl rfl) us (by simpa using hl)) ?_ ?_ ?_ ?_ ?_ ?_ ?_ ?_))) (
    fc (.inl (DefIn.sp gx_free (mkD X G mC 418 26 182 181 ["cell"] f_law_stir t7 ?_ ?_ ?_ ?_ ?_ ?_ ?_ ?_ ?_))) (
    fc (.inl (DefIn.sp gx_free (mkD X G mC 418 27 189 188 ["left"] f_law_next t8 ?_ ?_ ?_ ?_ ?_ ?_ ?_ ?_ ?_))) (
    fc (.inl (DefIn.sp gx_free (mkD X G mC 418 28 196 195 ["cell"] f_law_parts_by t9 ?_ ?_ ?_ ?_ ?_ ?_ ?_ ?_ ?_))) (
    fc (.inl (DefIn.sp gx_free (mkD X G mC 418 29 203 202 ["place"] f_law_strange t10 ?_ ?_ ?_ ?_ ?_ ?_ ?_ ?_ ?_))) (
    fc (.inl (DefIn.sp gx_free (mkD X G mC 418 30 210 209 ["row","at","part"] f_law_with t11 ?_ ?_ ?_ ?_ ?_ ?_ ?_ ?_ ?_))) (
    fc (.inl (DefIn.sp gx_free (mkD X G mC 418 31 217 216 ["side","way","place","far"] f_law_side_spoiled t12 ?_ ?_ ?_ ?_ ?_ ?_ ?_ ?_ ?_))) (
    fc (.inl (DefIn.sp gx_free (mkD X G mC 418 32 224 223 ["parts","way","place","far"] f_law_spoiled t13 ?_ ?_ ?_ ?_ ?_ ?_ ?_ ?_ ?_))) (
    fc (.inl (mkX X G mC 418 34 238 237 ["parts"] f_law_refused t15 ?_ ?_ ?_ ?_ ?_ ?_ (ok_law_refused X G) ?_ ?_)) (
    fc (.inl (DefIn.sp gx_free (mkD X G mC 418 35 243 242 ["script"] f_law t16 ?_ ?_ ?_ ?_ ?_ ?_ ?_ ?_ ?_))) (
    λ_ h=>nomatch h))))))))))))))))
  all_goals first|kernel_rfl|decide|exact λ_ _ _ _ _ _=>bd1 rfl λ_=>rfl|exact λ_ _ _ _ _ _=>bd2 rfl λ_ _=>rfl|exact λ_ _ _ _ _ _=>bd3 rfl λ_ _ _=>rfl|exact λ_ _ _ _ _ _=>bd4 rfl λ_ _ _ _=>rfl|exact λ_ _ _ _ _ _=>bd5 rfl λ_ _ _ _ _=>rfl|exact λ_ _ _ _ _ _ _ _ _=>rfl
theorem hb:∀x∈bltNames,mg x=none:=by
  refine fc (mg_none_of X G ?_) (fc (mg_none_of X G ?_) (fc (mg_none_of X G ?_) (fc (mg_none_of X G ?_) (fc (mg_none_of X G ?_) (fc (mg_none_of X G ?_) (fc (mg_none_of X G ?_) (fc (mg_none_of X G ?_) (fc (mg_none_of X G ?_) (fc (mg_none_of X G ?_) (fc (mg_none_of X G ?_) (fc (mg_none_of X G ?_) (fc (mg_none_of X G ?_) (fc (mg_none_of X G ?_) (fc (mg_none_of X G ?_) (fc (mg_none_of X G ?_) (fc (mg_none_of X G ?_) (fc (mg_none_of X G ?_) (λ_ h=>nomatch h))))))))))))))))))
  all_goals kernel_rfl
theorem fin {l:PySem.W.OpenLaw}{w:World}{fa:Addr}(hfa:mg "law"=some (.ref fa)):∃fd:FuncData,(∀(s:Shared) (v:Value),BindsTo s fd ⟨[v],[]⟩ [("script",v)])∧∀base:Heap,(heap P).In base→base.Ns mainGlobals mg→FnOk l.prog w (heap P) mg base CX0 9 fa fd ["script"] (spD (heap P) 1 (callN tab 7 16)):=by
  have e:=hfa.symm.trans (mg_of X G (n:="law") (v:=.ref 243) (by kernel_rfl))
  cases e
  have l0:(heap P).lookup 243=some (fo "law" "law" (top 35) mC 418 242):=by kernel_rfl
  exact⟨_,λs v=>.of_eq rfl,λbase kb gb=>(fns (fuel:=60) gx_free (hb X G) (λx i h=>hcn X G (x,i) (PySem.mem_of_lookup h)) kb (λx i h=>hd X G (x,i) (PySem.mem_of_lookup h)) (λ_ h=>nomatch h) (λ_ h=>nomatch h) (by decide) (hrs kb gb) (λx i h=>hxd X G (x,i) (PySem.mem_of_lookup h)) 7 "law" "law" 16 _ _ (top 35) ["script"] f_law (fun_toD (fun_mk (st:=top 35) l0 (by kernel_rfl) (by kernel_rfl))) (sc_of (by kernel_rfl)) (body_of (fuel:=60) gx_free (by kernel_rfl)) t16 rfl (by kernel_rfl)).1⟩
end
end Dw.K19
open PySem PySem.W PyProof.Rows
set_option maxRecDepth 100000 in
set_option maxHeartbeats 0 in
theorem PySem.Challenge.cw_driftwood_k19_no_thing_holds : PySem.Challenge.rw_driftwood_k19_no_thing.Holds := by
  rw [Dw.K19.lw_eq]
  w_on
  refine holds_law Dw.K19.said λsaid=>?_
  refine holds_open (q:=Dw.K19.q) (loose:=["make_thing"]) (Xt:=λs=>xlAt Dw.K19.q [] s&&recOk (RowW.records Dw.K19.lw.row.toRowW) s) (XP:=XL Dw.K19.q []) (Yf:=Hook.obs Dw.K19.hk) (Ya:=Hook.val Dw.K19.hk) (YP:=Hook.says Dw.K19.hk) (N:=5000) Dw.K19.hl (Hook.of Dw.K19.hk) (Hook.keeps Dw.K19.hk) (λs e=>xl_of s (Bool.and_eq_true_iff.mp e).1) XL.keeps (by rfl) (by rfl) (by rfl) (λs e=>recFacts_of (Bool.and_eq_true_iff.mp e).2) (by rfl) (by assumption) (by kernel_rfl) ⟨rfl,rfl,rfl,rfl,rfl,by kernel_rfl⟩ ?hw ?hc
  case hw=>w_witness2
  exact Dw.dw_walk (l:=Dw.K19.lw) (tab:=Dw.T.tab) (n:=7) (i:=16) (λns h w=>Dw.T.c_law19 0 ns h w) rfl rfl ⟨rfl,by decide,by decide⟩ (λw h Y=>PySem.W.km_in_of Y) (λt hm=>nomatch hm) (λw h Y t hm=>nomatch hm) (λw t hm=>nomatch hm) λw mg fa h KX G hmg=>Dw.K19.fin KX G hmg

