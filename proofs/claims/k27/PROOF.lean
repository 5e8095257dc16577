import PyProof.Rows.All
import Wide.All
import OpenK.AllK
import Wide.FinOn
import Lean
import PyProof.EqAt
import PyProof.EqKinds
import PyProof.TupleCall
import KE.KSortAsk
import KE.KSortKey
import KE.KSortTup
import KE.KLam
import KE.KNestM
import KE.KDictSum
import PyProof.TupleOfSeq
import KE.KTryMore
import KE.KIsAll
import PyProof.ExcAttrAll.ValueError
import PyProof.Rows.Own
import PyProof.NsDelKeeps
import PySem.Challenge.RW_driftwood_k27_paths_and_pages
set_option linter.all false
set_option Elab.async false
set_option maxRecDepth 100000
set_option maxHeartbeats 4000000
namespace L2
open PySem PySem.Spec PyProof.Rows
noncomputable def defArgs (s:Stmt):Arguments:=match s with
  | .FunctionDef _ a _ _ _ _ _ _ _ _=>a
  | _=>{ posonlyargs:=[],args:=[],vararg:=none,kwonlyargs:=[],kw_defaults:=[],kwarg:=none,defaults:=[] }
noncomputable def defBody (s:Stmt):List Stmt:=match s with
  | .FunctionDef _ _ b _ _ _ _ _ _ _=>b
  | _=>[]
noncomputable def defScope (s:Stmt):Scope:=match s with
  | .FunctionDef _ _ _ _ _ _ sc _ _ _=>sc
  | _=>{ kind:=.function,names:=[],isGenerator:=false,isCoroutine:=false }
end L2
namespace Dw.K27
open PySem L2 PyProof.Rows
open PySem.W (nsIn fnOf codeIn keepIn findIn mg_of mg_none_of Frag)
def top (i:Nat):Stmt:=PySem.Challenge.pw_driftwood_k27_paths_and_pages.main.body.getD i (.Pass ⟨0,0,0,0⟩)
noncomputable def mA:Str:="driftwood.pages"
noncomputable def mB:Str:="law_driftwood_k27_paths_and_pages"
noncomputable def en (P:Params) (n:Str) (t:Tok) (v:Value):DictEntry:=⟨PyData.keyHash P n,.str n t,v⟩
noncomputable def er (P:Params) (n:Str) (t:Tok) (a:Nat):DictEntry:=en P n t (.ref a)
noncomputable def dc (es:List DictEntry) (n:Nat):Obj:={ cls:=.type "dict",data:=.dict es.toArray n }
noncomputable def fo (n q:Str) (s:Stmt) (m:Str) (t:Tok) (c:Nat):Obj:={ cls:=.type "function",data:=.func (fnOf n q (defArgs s) (defBody s) (defScope s) .none .none .none (.str m t) none (.ref c) .none) }
noncomputable def co (n q:Str) (t u x:Tok) (a b c d e r f s:Nat) (g h i:Value) (j k:Nat) (y:Tok):Obj:={ cls:=.type "code",data:=.fields #[.str n t,.str q u,.str "/claim/cut.py" x,.int a 0,.int b 0,.int c 0,.int d 0,.int e 0,.ref r,.bool true,.int f 0,.ref s,.none,g,h,i,.int j 0,.int k 0,.str "/claim/cut.py" y] }
noncomputable def ca (n q:Str) (t a b r j:Nat):Obj:=co n q t (t+1) (t+2) a b 0 0 3 r 181 (r+1) (.ref (r+2)) (.ref (r+3)) (.ref (r+4)) j a (j+1)
noncomputable def cn (n q:Str) (t a b r j:Nat):Obj:=co n q t (t+1) (t+2) a b 0 0 3 r 181 (r+1) .none .none (.ref (r+2)) j a (j+1)
noncomputable def vb:List Value:=[.type "ValueError",.type "Exception",.type "BaseException",.type "object"]
noncomputable def kl (n:Str) (C N:Nat) (bs bm sub:List Value) (s:Nat) (t u:Tok):Obj:=excClassObj n n C N bs bm true [] sub false none none (some (.ref s)) none (some (.str n t)) (some (.str n u)) (some (.bool true)) "ValueError.__new__"
noncomputable def heap (P:Params):Frag:=(nat_lit 3,dc (en P "__name__" 165 (.str ("law_driftwood_k27_paths_and_pages") 412)::en P "__doc__" 166 .none::en P "__package__" 167 .none::en P "__loader__" 168 (.builtin "__main__.__loader__#opaque")::en P "__spec__" 169 .none::er P "__annotations__" 170 6::er P "__builtins__" 171 4::en P "__file__" 173 (.str ("/claim/cut.py") 172)::en P "__cached__" 174 .none::er P "DriftError" 206 24::er P "NoThing" 222 37::er P "NoWant" 238 49::er P "NoPath" 254 61::er P "NoHandle" 270 73::er P "NoRoom" 286 85::er P "Twice" 302 97::er P "NoView" 318 109::er P "NoWatch" 334 121::er P "NoText" 350 133::er P "is_leaf" 359 142::er P "page_parts" 366 149::er P "things_in" 375 156::er P "page_at" 385 163::er P "paths_from" 396 170::er P "paths_in" 403 177::er P "page_height" 411 184::er P "_law_cell" 421 191::er P "_law_even" 430 198::er P "_law_whole" 437 205::er P "_law_thing" 457 212::er P "_law_things" 463 217::er P "_law_own" 470 224::er P "_law_frames" 476 229::er P "_law_poured" 482 234::er P "_law_leaves" 488 239::er P "_law_fork" 494 244::er P "_law_tree" 507 251::er P "_law_walk" 519 258::er P "_law_high" 527 265::er P "_law_by_its_name" 537 272::er P "_law_refused" 548 279::er P "_law_beneath" 557 286::er P "_law_path" 566 293::er P "_law_seen" 579 300::er P "law" 592 307::[]) 45) ::
  (nat_lit 23,dc (en P "__module__" 196 (.str ("driftwood.errors") 187)::en P "__firstlineno__" 200 (.int 2 199)::er P "__static_attributes__" 201 22::er P "__weakref__" 203 25::en P "__doc__" 204 .none::[]) 3) ::
  (nat_lit 24,kl "DriftError" 24 23 [.type "ValueError"] vb [.ref 37,.ref 49,.ref 61,.ref 73,.ref 85,.ref 97,.ref 109,.ref 121,.ref 133] 15 189 197) ::
  (nat_lit 36,dc (en P "__module__" 214 (.str ("driftwood.errors") 187)::en P "__firstlineno__" 218 (.int 4 217)::er P "__static_attributes__" 219 35::en P "__doc__" 220 .none::[]) 2) ::
  (nat_lit 37,kl "NoThing" 37 36 [.ref 24] (.ref 24::vb) [] 28 207 215) ::
  (nat_lit 48,dc (en P "__module__" 230 (.str ("driftwood.errors") 187)::en P "__firstlineno__" 234 (.int 6 233)::er P "__static_attributes__" 235 47::en P "__doc__" 236 .none::[]) 2) ::
  (nat_lit 49,kl "NoWant" 49 48 [.ref 24] (.ref 24::vb) [] 40 223 231) ::
  (nat_lit 60,dc (en P "__module__" 246 (.str ("driftwood.errors") 187)::en P "__firstlineno__" 250 (.int 8 249)::er P "__static_attributes__" 251 59::en P "__doc__" 252 .none::[]) 2) ::
  (nat_lit 61,kl "NoPath" 61 60 [.ref 24] (.ref 24::vb) [] 52 239 247) ::
  (nat_lit 72,dc (en P "__module__" 262 (.str ("driftwood.errors") 187)::en P "__firstlineno__" 266 (.int 10 265)::er P "__static_attributes__" 267 71::en P "__doc__" 268 .none::[]) 2) ::
  (nat_lit 73,kl "NoHandle" 73 72 [.ref 24] (.ref 24::vb) [] 64 255 263) ::
  (nat_lit 84,dc (en P "__module__" 278 (.str ("driftwood.errors") 187)::en P "__firstlineno__" 282 (.int 12 281)::er P "__static_attributes__" 283 83::en P "__doc__" 284 .none::[]) 2) ::
  (nat_lit 85,kl "NoRoom" 85 84 [.ref 24] (.ref 24::vb) [] 76 271 279) ::
  (nat_lit 96,dc (en P "__module__" 294 (.str ("driftwood.errors") 187)::en P "__firstlineno__" 298 (.int 14 297)::er P "__static_attributes__" 299 95::en P "__doc__" 300 .none::[]) 2) ::
  (nat_lit 97,kl "Twice" 97 96 [.ref 24] (.ref 24::vb) [] 88 287 295) ::
  (nat_lit 108,dc (en P "__module__" 310 (.str ("driftwood.errors") 187)::en P "__firstlineno__" 314 (.int 16 313)::er P "__static_attributes__" 315 107::en P "__doc__" 316 .none::[]) 2) ::
  (nat_lit 109,kl "NoView" 109 108 [.ref 24] (.ref 24::vb) [] 100 303 311) ::
  (nat_lit 120,dc (en P "__module__" 326 (.str ("driftwood.errors") 187)::en P "__firstlineno__" 330 (.int 18 329)::er P "__static_attributes__" 331 119::en P "__doc__" 332 .none::[]) 2) ::
  (nat_lit 121,kl "NoWatch" 121 120 [.ref 24] (.ref 24::vb) [] 112 319 327) ::
  (nat_lit 132,dc (en P "__module__" 342 (.str ("driftwood.errors") 187)::en P "__firstlineno__" 346 (.int 20 345)::er P "__static_attributes__" 347 131::en P "__doc__" 348 .none::[]) 2) ::
  (nat_lit 133,kl "NoText" 133 132 [.ref 24] (.ref 24::vb) [] 124 335 343) ::
  (nat_lit 141,ca "is_leaf" "is_leaf" 353 23 1 136 357) ::
  (nat_lit 142,fo "is_leaf" "is_leaf" (top 12) mA 351 141) ::
  (nat_lit 148,ca "page_parts" "page_parts" 360 25 1 143 364) ::
  (nat_lit 149,fo "page_parts" "page_parts" (top 13) mA 351 148) ::
  (nat_lit 155,ca "things_in" "things_in" 367 27 1 150 373) ::
  (nat_lit 156,fo "things_in" "things_in" (top 14) mA 351 155) ::
  (nat_lit 162,ca "page_at" "page_at" 376 34 2 157 383) ::
  (nat_lit 163,fo "page_at" "page_at" (top 15) mA 351 162) ::
  (nat_lit 169,ca "paths_from" "paths_from" 386 41 2 164 394) ::
  (nat_lit 170,fo "paths_from" "paths_from" (top 16) mA 351 169) ::
  (nat_lit 176,ca "paths_in" "paths_in" 397 47 1 171 401) ::
  (nat_lit 177,fo "paths_in" "paths_in" (top 17) mA 351 176) ::
  (nat_lit 183,ca "page_height" "page_height" 404 49 1 178 409) ::
  (nat_lit 184,fo "page_height" "page_height" (top 18) mA 351 183) ::
  (nat_lit 190,ca "_law_cell" "_law_cell" 414 56 2 185 419) ::
  (nat_lit 191,fo "_law_cell" "_law_cell" (top 20) mB 412 190) ::
  (nat_lit 197,ca "_law_even" "_law_even" 422 60 2 192 428) ::
  (nat_lit 198,fo "_law_even" "_law_even" (top 21) mB 412 197) ::
  (nat_lit 204,ca "_law_whole" "_law_whole" 431 65 1 199 435) ::
  (nat_lit 205,fo "_law_whole" "_law_whole" (top 22) mB 412 204) ::
  (nat_lit 211,ca "_law_thing" "_law_thing" 438 67 4 206 455) ::
  (nat_lit 212,fo "_law_thing" "_law_thing" (top 23) mB 412 211) ::
  (nat_lit 216,cn "_law_things" "_law_things" 458 90 3 213 461) ::
  (nat_lit 217,fo "_law_things" "_law_things" (top 24) mB 412 216) ::
  (nat_lit 223,ca "_law_own" "_law_own" 464 102 1 218 468) ::
  (nat_lit 224,fo "_law_own" "_law_own" (top 25) mB 412 223) ::
  (nat_lit 228,cn "_law_frames" "_law_frames" 471 104 2 225 474) ::
  (nat_lit 229,fo "_law_frames" "_law_frames" (top 26) mB 412 228) ::
  (nat_lit 233,cn "_law_poured" "_law_poured" 477 117 1 230 480) ::
  (nat_lit 234,fo "_law_poured" "_law_poured" (top 27) mB 412 233) ::
  (nat_lit 238,cn "_law_leaves" "_law_leaves" 483 131 2 235 486) ::
  (nat_lit 239,fo "_law_leaves" "_law_leaves" (top 28) mB 412 238) ::
  (nat_lit 243,cn "_law_fork" "_law_fork" 489 142 1 240 492) ::
  (nat_lit 244,fo "_law_fork" "_law_fork" (top 29) mB 412 243) ::
  (nat_lit 250,ca "_law_tree" "_law_tree" 495 144 2 245 505) ::
  (nat_lit 251,fo "_law_tree" "_law_tree" (top 30) mB 412 250) ::
  (nat_lit 257,ca "_law_walk" "_law_walk" 508 160 1 252 517) ::
  (nat_lit 258,fo "_law_walk" "_law_walk" (top 31) mB 412 257) ::
  (nat_lit 264,ca "_law_high" "_law_high" 520 172 1 259 525) ::
  (nat_lit 265,fo "_law_high" "_law_high" (top 32) mB 412 264) ::
  (nat_lit 271,ca "_law_by_its_name" "_law_by_its_name" 528 178 2 266 535) ::
  (nat_lit 272,fo "_law_by_its_name" "_law_by_its_name" (top 33) mB 412 271) ::
  (nat_lit 278,ca "_law_refused" "_law_refused" 538 185 3 273 546) ::
  (nat_lit 279,fo "_law_refused" "_law_refused" (top 34) mB 412 278) ::
  (nat_lit 285,ca "_law_beneath" "_law_beneath" 549 194 1 280 555) ::
  (nat_lit 286,fo "_law_beneath" "_law_beneath" (top 35) mB 412 285) ::
  (nat_lit 292,ca "_law_path" "_law_path" 558 200 2 287 564) ::
  (nat_lit 293,fo "_law_path" "_law_path" (top 36) mB 412 292) ::
  (nat_lit 299,ca "_law_seen" "_law_seen" 567 207 4 294 577) ::
  (nat_lit 300,fo "_law_seen" "_law_seen" (top 37) mB 412 299) ::
  (nat_lit 306,ca "law" "law" 580 220 1 301 590) ::
  (nat_lit 307,fo "law" "law" (top 38) mB 412 306)::[]
def c0:Stmt:=top 0
def c1:Stmt:=top 1
def c2:Stmt:=top 2
def c3:Stmt:=top 3
def c4:Stmt:=top 4
def c5:Stmt:=top 5
def c6:Stmt:=top 6
def c7:Stmt:=top 7
def c8:Stmt:=top 8
def c9:Stmt:=top 9
def c10:Stmt:=top 10
def c11:Stmt:=top 11
def c12:Stmt:=top 12
def c13:Stmt:=top 13
def c14:Stmt:=top 14
def c15:Stmt:=top 15
def c16:Stmt:=top 16
def c17:Stmt:=top 17
def c18:Stmt:=top 18
def c19:Stmt:=top 19
def c20:Stmt:=top 20
def c21:Stmt:=top 21
def c22:Stmt:=top 22
def c23:Stmt:=top 23
def c24:Stmt:=top 24
def c25:Stmt:=top 25
def c26:Stmt:=top 26
def c27:Stmt:=top 27
def c28:Stmt:=top 28
def c29:Stmt:=top 29
def c30:Stmt:=top 30
def c31:Stmt:=top 31
def c32:Stmt:=top 32
def c33:Stmt:=top 33
def c34:Stmt:=top 34
def c35:Stmt:=top 35
def c36:Stmt:=top 36
def c37:Stmt:=top 37
def c38:Stmt:=top 38
def pw:Program:={ PySem.Challenge.pw_driftwood_k27_paths_and_pages with main:={ PySem.Challenge.pw_driftwood_k27_paths_and_pages.main with body:=c0::c1::c2::c3::c4::c5::c6::c7::c8::c9::c10::c11::c12::c13::c14::c15::c16::c17::c18::c19::c20::c21::c22::c23::c24::c25::c26::c27::c28::c29::c30::c31::c32::c33::c34::c35::c36::c37::c38::[] } }
def lw:PySem.W.OpenLaw:={ PySem.Challenge.rw_driftwood_k27_paths_and_pages with prog:=pw }
theorem lw_eq:PySem.Challenge.rw_driftwood_k27_paths_and_pages=lw:=by kernel_rfl
end Dw.K27
section
open PySem PySem.W PyProof.Rows
namespace Dw.K27
noncomputable def hk:Hook:=kmHook heap (3::23::24::36::37::48::49::60::61::72::73::84::85::96::97::108::109::120::121::132::133::141::142::148::149::155::156::162::163::169::170::176::177::183::184::190::191::197::198::204::205::211::212::216::217::223::224::228::229::233::234::238::239::243::244::250::251::257::258::264::265::271::272::278::279::285::286::292::293::299::300::306::307::[]) (λ_=>by kernel_rfl) ([])
noncomputable def q:Program:={ lw.prog with main:={ lw.prog.main with body:=c1::c2::c3::c4::c5::c6::c7::c8::c9::c10::c12::c13::c14::c15::c16::c17::c18::c20::c21::c22::c23::c24::c25::c26::c27::c28::c29::c30::c31::c32::c33::c34::c35::c36::c37::c38::[] } }
theorem hl:LeftO lw.row.toRowW.prog q [] (λs=>xlAt q [] s&&recOk (RowW.records lw.row.toRowW) s) (Hook.obs hk) (Hook.val hk) 5000:=λw=>by kernel_rfl
theorem said:lw.wellSaid=true:=by kernel_rfl
end Dw.K27
end
namespace Dw
open PySem PySem.W PyProof.Rows
noncomputable def runT {α:Type}(c:Nat→Nat→Bool):KasT α→α
  | .ret a=>a
  | .ask i j k=>runT c (k (c i j))
noncomputable def srtK (is:List Int):List Nat:=if is.length<2 then List.range is.length else (runT (λi j=>decide (is.getD i 0<is.getD j 0)) (kas_sort is.length)).toList
end Dw
namespace Dw
open PySem
inductive D where
  | non|bl (b:Bool)|int (i:Int)|str (x:Str)|tup (ds:List D)|lst (ds:List D)
    | dct (m:Bool) (ks:List Int)
    | obj (ns:List Str) (ds:List D)
    | exc (c:Str)
  deriving Inhabited
inductive BOp where|add|sub|mul|fdiv|mod|pow|shl|shr|band|bor|bxor
  deriving DecidableEq,Inhabited
inductive COp where|eq|ne|lt|le|gt|ge|isin|notin
  deriving DecidableEq,Inhabited
inductive BI where|len|abs|min|max|sum|all|tuple|list|int|any|str|sorted
  deriving DecidableEq,Inhabited
inductive Ty where|int|bool|tuple|list|str
  deriving DecidableEq,Inhabited
inductive Tg where|one (i:Nat)|two (i j:Nat)|many (is:List Nat)
  deriving DecidableEq,Inhabited
inductive Ar where|pos (i:Nat)|kw (i:Nat)|dft (j:Nat) (d:D)
  deriving Inhabited
inductive C where
  | v (i:Nat)
  | k (d:D)
  | bin (o:BOp) (a b:C)
  | neg (a:C)
  | cmp (o:COp) (a b:C)
  | isC (neg:Bool) (a:C) (d:D)
  | inV (neg:Bool) (a:C) (i:Nat)
  | and (a b:C)|or (a b:C)|not (a:C)
  | ix (a b:C)
  | sl (a:C) (lo hi:Option C)
  | tup (as:List C)|lst (as:List C)
  | call (f:Nat) (as:List C)
  | bi (b:BI) (as:List C)
  | isi (a:C) (t:Ty)
  | bitl (a:C)
  | ifx (c a b:C)
  | rev (a:C)
  | join (a b:C)
  | fstr (as:List C)
  | chn (o p:COp) (a b c:C)
  | callP (f:Nat) (as ks:List C) (pl:List Ar)
  | compS (e:C) (nl:Nat) (ks:List Nat) (tg:Tg) (src:C)
  | compR (e:C) (nl:Nat) (ks:List Nat) (tg:Tg) (rs:List C)
  | compZ (e:C) (nl:Nat) (ks:List Nat) (tg:Tg) (a b:C)
  | compE (e:C) (nl:Nat) (ks:List Nat) (tg:Tg) (a:C)
  | compF (e c:C) (nl:Nat) (ks:List Nat) (tg:Tg) (src:C)
  | srtR (e:C) (nl:Nat) (ks:List Nat) (rs:List C)
  | fld (i j:Nat) (f:Str)
  | mm (f:Nat) (ns:List Str) (as bs:List C)
  deriving Inhabited
inductive S where
  | frz (is:List Nat)
  | set (i:Nat) (keep:Bool) (e:C)
  | dnew (i:Nat)
  | aug (i:Nat) (e:C)
  | popE (i:Nat)
  | setIx (i:Nat) (k e:C)
  | app (i:Nat) (e:C)
  | ret (e:C)
  | ite (c:C) (a b:List S)
  | forS (tg:Tg) (src:C) (body:List S)
  | forR (tg:Tg) (rs:List C) (body:List S)
  | forZ (tg:Tg) (a b:C) (body:List S)
  | forE (tg:Tg) (a:C) (body:List S)
  | forV (tg:Tg) (rs:List C) (body:List S)
  | ext (i:Nat) (e:C)
  | asgT (tg:Tg) (e:C)
  | pop (tg:Tg) (i:Nat)
  | whl (c:C) (body:List S)
  | brk
  | cnt
  | stk
  | rse (c:Str)
  | tryB (i t f:Nat) (as:List C) (tb:List (Str×D))
  deriving Inhabited
noncomputable abbrev R:=Bool×D
noncomputable abbrev En:=List (Option R)
mutual
@[simp] noncomputable def eqD:D→D→Bool
  | .non,.non=>true
  | .bl a,.bl b=>a == b
  | .bl a,.int b=>(if a then (1:Int) else 0) == b
  | .int a,.bl b=>a == (if b then (1:Int) else 0)
  | .int a,.int b=>a == b
  | .str a,.str b=>a == b
  | .tup xs,.tup ys=>eqDs xs ys
  | .lst xs,.lst ys=>eqDs xs ys
  | .dct a ks,.dct b js=>a == b&&ks == js
  | .obj a xs,.obj b ys=>a == b&&eqDs xs ys
  | .exc a,.exc b=>a == b
  | _,_=>false
@[simp] noncomputable def eqDs:List D→List D→Bool
  | [],[]=>true
  | x::xs,y::ys=>eqD x y&&eqDs xs ys
  | _,_=>false
end
mutual
@[simp] noncomputable def shal:Nat→D→Bool
  | 0,.tup _=>false
  | 0,.lst _=>false
  | n+1,.tup ds=>shals n ds
  | n+1,.lst ds=>shals n ds
  | _,_=>true
@[simp] noncomputable def shals:Nat→List D→Bool
  | _,[]=>true
  | n,d::ds=>shal n d&&shals n ds
end
theorem shals_map {α:Type}(n:Nat) (f:α→D):∀l:List α,shals n (l.map f)=l.all λx=>shal n (f x)
  | []=>rfl
  | x::r=>by simp [shals_map n f r]
noncomputable def lim:Nat:=2^24
noncomputable def big:Nat:=2^4000
noncomputable def huge:Nat:=2^1048576
noncomputable def mulOk (a b:Int):Bool:=decide ((a.natAbs<2^240∧b.natAbs<2^240)∨a.natAbs<2^64∨b.natAbs<2^64∨(a.natAbs<huge∧b.natAbs<huge))
noncomputable def divOk (b:Int):Bool:=decide (b≠0∧(b.natAbs<2^240∨b.natAbs<big))
noncomputable def shlOk (a b:Int):Bool:=decide (0≤b∧b≤1000∧a.natAbs<2^64)
noncomputable def powOk (a b:Int):Bool:=decide (a.natAbs<2^240∧0≤b∧b≤200)
noncomputable def srtI (is:List Int):List Int:=is.mergeSort (λa b=>decide (a≤b))
noncomputable def istr (i:Int):Str:=Str.ofString (toString i)
noncomputable def glueS (sep:Str) (ts:List Str):Str:=⟨(ts.drop 1).foldl (λacc p=>acc++sep.cps++p.cps) (ts.headD Str.empty).cps⟩
@[simp] noncomputable def strsOf:List D→Option (List Str)
  | []=>some []
  | .str i::r=>(strsOf r).map (i::·)
  | _=>none
noncomputable def joinOk (sep:Str) (ts:List Str):Bool:=decide (ts.toArray.foldl (λn t=>n+t.length+sep.length) 0≤lim∧(glueS sep ts).length≤lim)
@[simp] noncomputable def joinD:D→D→Option R
  | .str sep,.lst xs=>(strsOf xs).bind λts=>if joinOk sep ts then some (false,.str (glueS sep ts)) else none
  | _,_=>none
noncomputable def catS (acc:Str):List Str→Option Str
  | []=>some acc
  | t::r=>if (acc++t).length≤lim then catS (acc++t) r else none
@[simp] noncomputable def revD:D→Option R
  | .tup xs=>some (false,.tup xs.reverse)
  | _=>none
noncomputable def binD:BOp→D→D→Option R
  | .add,.int a,.int b=>some (false,.int (a+b))
  | .sub,.int a,.int b=>some (false,.int (a - b))
  | .mul,.int a,.int b=>if mulOk a b then some (false,.int (a * b)) else none
  | .fdiv,.int a,.int b=>if divOk b then some (false,.int (a.fdiv b)) else none
  | .mod,.int a,.int b=>if divOk b then some (false,.int (a.fmod b)) else none
  | .pow,.int a,.int b=>if powOk a b then some (false,.int (a^b.toNat)) else none
  | .shl,.int a,.int b=>if shlOk a b then some (false,.int (a * 2^b.toNat)) else none
  | .shr,.int a,.int b=>if 0≤b then some (false,.int (a / 2^b.toNat)) else none
  | .band,.int a,.int b=>if 0≤a∧0≤b then some (false,.int ((a.toNat &&& b.toNat:Nat):Int)) else none
  | .bor,.int a,.int b=>if 0≤a∧0≤b then some (false,.int ((a.toNat ||| b.toNat:Nat):Int)) else none
  | .bxor,.int a,.int b=>if 0≤a∧0≤b then some (false,.int (((a.toNat ||| b.toNat:Nat):Int) - ((a.toNat &&& b.toNat:Nat):Int))) else none
  | .add,.lst a,.lst b=>if a.length+b.length≤lim then some (true,.lst (a++b)) else none
  | .add,.str a,.str b=>if a.length+b.length≤lim then some (false,.str (a++b)) else none
  | .add,.tup [],.tup b=>some (false,.tup b)
  | .add,.tup (x::a),.tup b=>if a.length+1+b.length≤lim then some (false,.tup (x::a++b)) else none
  | .mul,.lst a,.int b=>if a.length * b.toNat≤lim∧-(2^62)<b∧b<2^62 then some (true,.lst (List.replicate b.toNat a).flatten) else none
  | _,_,_=>none
@[simp] noncomputable def intsOf:List D→Option (List Int)
  | []=>some []
  | .int i::r=>(intsOf r).map (i::·)
  | _=>none
@[simp] noncomputable def inD (n:Bool):D→D→Option R
  | .int i,.tup ys=>(intsOf ys).map λis=>(false,.bl (if n then !(is.any (· == i)) else is.any (· == i)))
  | _,_=>none
@[simp] noncomputable def cmpD:COp→D→D→Option R
  | .isin,a,b=>inD false a b
  | .notin,a,b=>inD true a b
  | .eq,a,b=>if shal 20 a||shal 20 b then some (false,.bl (eqD a b)) else none
  | .ne,a,b=>if shal 20 a||shal 20 b then some (false,.bl (!eqD a b)) else none
  | .lt,.int a,.int b=>some (false,.bl (decide (a<b)))
  | .le,.int a,.int b=>some (false,.bl (decide (a≤b)))
  | .gt,.int a,.int b=>some (false,.bl (decide (b<a)))
  | .ge,.int a,.int b=>some (false,.bl (decide (b≤a)))
  | _,_,_=>none
@[simp] noncomputable def ixN (n:Nat) (i:Int):Option Nat:=if 0≤i then (if i<n then some i.toNat else none) else if -(n:Int)≤i then some (i+n).toNat else none
@[simp] noncomputable def ixD (xs:List D) (i:Int):Option D:=(ixN xs.length i).bind λj=>xs[j]?
@[simp] noncomputable def cutAt (n d:Nat):Option Int→Nat
  | none=>d
  | some v=>if v<0 then (v+n).toNat else min v.toNat n
@[simp] noncomputable def cutD (xs:List D) (lo hi:Option Int):List D:=(xs.drop (cutAt xs.length 0 lo)).take (cutAt xs.length xs.length hi - cutAt xs.length 0 lo)
@[simp] noncomputable def blsOf:List D→Option (List Bool)
  | []=>some []
  | .bl i::r=>(blsOf r).map (i::·)
  | _=>none
noncomputable def mnL:List Int→Option Int
  | []=>none
  | a::r=>some (r.foldl (λm x=>if x<m then x else m) a)
noncomputable def mxL:List Int→Option Int
  | []=>none
  | a::r=>some (r.foldl (λm x=>if m<x then x else m) a)
noncomputable def minD (xs:List D):Option R:=match intsOf xs with
  | some is=>(mnL is).map λm=>(false,.int m)
  | none=>none
noncomputable def biD:BI→List D→Option R
  | .len,[.tup xs]=>some (false,.int xs.length)
  | .len,[.lst xs]=>some (false,.int xs.length)
  | .abs,[.int i]=>some (false,.int (if i<0 then -i else i))
  | .min,[.int i,.int j]=>some (false,.int (if j<i then j else i))
  | .max,[.int i,.int j]=>some (false,.int (if j > i then j else i))
  | .max,[.int i,.int j,.int k]=>some (false,.int (if k > (if j > i then j else i) then k else (if j > i then j else i)))
  | .min,[.lst xs]=>minD xs
  | .max,[.lst xs]=>(intsOf xs).bind λis=>(mxL is).map λm=>(false,.int m)
  | .sum,[.lst xs]=>(intsOf xs).map λis=>(false,.int is.sum)
  | .all,[.lst xs]=>(blsOf xs).map λbs=>(false,.bl (bs.all id))
  | .sorted,[.lst xs]=>(intsOf xs).bind λis=>if is.length<64 then some (true,.lst ((srtI is).map .int)) else none
  | .sorted,[.tup xs]=>(intsOf xs).bind λis=>if is.length<64 then some (true,.lst ((srtI is).map .int)) else none
  | .any,[.lst xs]=>(blsOf xs).map λbs=>(false,.bl (bs.any id))
  | .str,[.int i]=>if i.natAbs<2^240 then some (false,.str (istr i)) else none
  | .tuple,[.lst xs]=>some (false,.tup xs)
  | .tuple,[.tup xs]=>some (false,.tup xs)
  | .list,[.lst xs]=>some (true,.lst xs)
  | .list,[.tup xs]=>some (true,.lst xs)
  | .int,[.bl b]=>some (false,.int (if b then 1 else 0))
  | .int,[.int i]=>some (false,.int i)
  | _,_=>none
@[simp] noncomputable def tyD:Ty→D→Bool
  | .int,.int _=>true
  | .int,.bl _=>true
  | .bool,.bl _=>true
  | .tuple,.tup _=>true
  | .list,.lst _=>true
  | .str,.str _=>true
  | _,_=>false
@[simp] noncomputable def isD (neg:Bool):D→D→Option R
  | .non,.non=>some (false,.bl (!neg))
  | _,.non=>some (false,.bl neg)
  | .bl a,.bl b=>some (false,.bl (if a == b then !neg else neg))
  | _,.bl _=>some (false,.bl neg)
  | _,_=>none
@[simp] noncomputable def getv (σ:En) (i:Nat):Option R:=(σ[i]?).join
noncomputable def setAll (σ:En):List Nat→List D→Option En
  | [],[]=>some σ
  | i::is,d::ds=>setAll (σ.set i (some (false,d))) is ds
  | _,_=>none
noncomputable def bindT (σ:En):Tg→D→Option En
  | .one i,d=>some (σ.set i (some (false,d)))
  | .two i j,.tup [x,y]=>some ((σ.set i (some (false,x))).set j (some (false,y)))
  | .many is,.tup ds=>setAll σ is ds
  | _,_=>none
noncomputable def rszD (a b c:Int):Int:=if c > 0 then if a<b then (b - a - 1) / c+1 else 0 else if a > b then (a - b - 1) / -c+1 else 0
@[simp] noncomputable def rngD:List D→Option (List D)
  | [.int n]=>if -(2^62)≤n∧n<2^62 then some ((List.range n.toNat).map λi=>.int (i:Nat)) else none
  | [.int a,.int b]=>some ((List.range (b - a).toNat).map λi=>.int (a+(i:Nat)))
  | [.int a,.int b,.int c]=>if -(2^62)≤a∧a<2^62∧-(2^62)≤b∧b<2^62∧c≠0∧c.natAbs<2^30 then some ((List.range (rszD a b c).toNat).map λi=>.int (a+(i:Nat) * c)) else none
  | _=>none
@[simp] noncomputable def rvD:List D→Option (List D)
  | [.int n]=>if -(2^62)≤n∧n<2^62 then some ((List.range n.toNat).map λi=>.int ((n.toNat:Int) - 1 - (i:Nat))) else none
  | _=>none
@[simp] noncomputable def seqD:D→Option (List D)
  | .lst xs=>some xs
  | .tup xs=>some xs
  | _=>none
@[simp] noncomputable def tupD:D→Option (List D)
  | .tup xs=>some xs
  | _=>none
noncomputable def enumD:Nat→List D→List D
  | _,[]=>[]
  | n,x::r=>.tup [.int (n:Nat),x]::enumD (n+1) r
noncomputable def zipD (a b:List D):List D:=List.zipWith (λx y=>.tup [x,y]) a b
noncomputable def compGo (f:En→Option R) (σ:En) (tg:Tg):List D→Option (List D)
  | []=>some []
  | x::r=>(bindT σ tg x).bind fun σ'=>(f σ').bind λy=>(compGo f σ tg r).bind λys=>some (y.2::ys)
noncomputable def fltK (a b:Option (List D)):R→Option (List D)
  | (_,.bl true)=>a
  | (_,.bl false)=>b
  | _=>none
noncomputable def compGoF (c f:En→Option R) (σ:En) (tg:Tg):List D→Option (List D)
  | []=>some []
  | x::r=>(bindT σ tg x).bind fun σ'=>(c σ').bind (fltK ((f σ').bind λy=>(compGoF c f σ tg r).bind λys=>some (y.2::ys)) (compGoF c f σ tg r))
@[simp] noncomputable def capt (σ:En) (nl:Nat) (ks:List Nat):En:=List.replicate nl none++ks.map λj=>getv σ j
@[simp] noncomputable def pkR:R→Option D
  | (false,d)=>some d
  | (true,.lst ds)=>some (.lst ds)
  | _=>none
@[simp] noncomputable def pk (σ:En) (c:C) (r:Option R):Option D:=match c with
  | .v i=>(getv σ i).bind pkR
  | _=>r.map (·.2)
@[simp] noncomputable def agR:R→Option D
  | (false,d)=>some d
  | (true,.dct _ ks)=>some (.dct false ks)
  | _=>none
@[simp] noncomputable def ag (σ:En) (c:C) (r:Option R):Option D:=match c with
  | .v i=>(getv σ i).bind agR
  | _=>r.map (·.2)
@[simp] noncomputable def inR (n:Bool):D→R→Option R
  | .int k,(true,.dct _ ks)=>some (false,.bl (if n then !(ks.any (· == k)) else ks.any (· == k)))
  | .bl b,(true,.lst ds)=>(blsOf ds).map λbs=>(false,.bl (if n then !(bs.any (· == b)) else bs.any (· == b)))
  | x,(false,d)=>inD n x d
  | _,_=>none
noncomputable def fldR (j:Nat) (f:Str):R→Option R
  | (true,.obj ns ds)=>if ns[j]?=some f then (ds[j]?).map (false,·) else none
  | _=>none
@[simp] noncomputable def oInt:D→Option (Option Int)
  | .int i=>some (some i)
  | _=>none
@[simp] noncomputable def negD:D→Option R
  | .int i=>some (false,.int (-i))
  | _=>none
@[simp] noncomputable def ixx:D→D→Option R
  | .lst xs,.int i=>(ixD xs i).map (false,·)
  | .tup xs,.int i=>(ixD xs i).map (false,·)
  | _,_=>none
@[simp] noncomputable def slx (l h:Option Int):D→Option R
  | .lst xs=>some (true,.lst (cutD xs l h))
  | .tup xs=>some (false,.tup (cutD xs l h))
  | _=>none
@[simp] noncomputable def andK (k:Option R):R→Option R
  | (_,.bl true)=>k
  | (_,.bl false)=>some (false,.bl false)
  | _=>none
@[simp] noncomputable def orK (k:Option R):R→Option R
  | (_,.bl true)=>some (false,.bl true)
  | (_,.bl false)=>k
  | _=>none
@[simp] noncomputable def notK:R→Option R
  | (_,.bl c)=>some (false,.bl (!c))
  | _=>none
noncomputable def bitL (i:Int):Int:=if i=0 then 0 else ((i.natAbs.log2+1:Nat):Int)
@[simp] noncomputable def bitD:D→Option R
  | .int i=>some (false,.int (bitL i))
  | _=>none
@[simp] noncomputable def ifK (a b:Option R):R→Option R
  | (_,.bl true)=>a
  | (_,.bl false)=>b
  | _=>none
@[simp] noncomputable def noOwn:Option R→Option R
  | some (false,d)=>some (false,d)
  | _=>none
noncomputable def arD (xs zs:List D):Ar→Option D
  | .pos i=>xs[i]?
  | .kw i=>zs[i]?
  | .dft _ d=>some d
noncomputable def plD (xs zs:List D):List Ar→Option (List D)
  | []=>some []
  | a::r=>(arD xs zs a).bind λx=>(plD xs zs r).bind λys=>some (x::ys)
section
variable (call:Nat→List D→Option R)
mutual
noncomputable def evE (σ:En):C→Option R
  | .v i=>noOwn (getv σ i)
  | .k d=>some (false,d)
  | .bin o a b=>(pk σ a (evE σ a)).bind λx=>(pk σ b (evE σ b)).bind λy=>binD o x y
  | .neg a=>(pk σ a (evE σ a)).bind negD
  | .cmp o a b=>(pk σ a (evE σ a)).bind λx=>(pk σ b (evE σ b)).bind λy=>cmpD o x y
  | .isC n a d=>(pk σ a (evE σ a)).bind λx=>isD n x d
  | .and a b=>(evE σ a).bind (andK (evE σ b))
  | .or a b=>(evE σ a).bind (orK (evE σ b))
  | .not a=>(evE σ a).bind notK
  | .ix a b=>(pk σ a (evE σ a)).bind λx=>(pk σ b (evE σ b)).bind λy=>ixx x y
  | .sl a lo hi=>(pk σ a (evE σ a)).bind λx=>(evO σ lo).bind λl=>(evO σ hi).bind λh=>slx l h x
  | .tup as=>(evA σ as).bind λxs=>if xs.length≤lim then some (false,.tup xs) else none
  | .lst as=>(evA σ as).bind λxs=>if xs.length≤lim then some (true,.lst xs) else none
  | .call f as=>(evG σ as).bind λxs=>call f xs
  | .inV n a i=>(pk σ a (evE σ a)).bind λx=>(getv σ i).bind λy=>inR n x y
  | .bi b as=>(evAP σ as).bind λxs=>biD b xs
  | .isi a t=>(pk σ a (evE σ a)).bind λx=>some (false,.bl (tyD t x))
  | .bitl a=>(pk σ a (evE σ a)).bind bitD
  | .ifx c a b=>(evE σ c).bind (ifK (evE σ a) (evE σ b))
  | .rev a=>(pk σ a (evE σ a)).bind revD
  | .join a b=>(pk σ a (evE σ a)).bind λx=>(pk σ b (evE σ b)).bind λy=>joinD x y
  | .fstr as=>(evA σ as).bind λxs=>(strsOf xs).bind λts=>(catS Str.empty ts).map λz=>(false,.str z)
  | .chn o p a b c=>(pk σ a (evE σ a)).bind λx=>(pk σ b (evE σ b)).bind λy=>(cmpD o x y).bind (andK ((pk σ c (evE σ c)).bind λz=>cmpD p y z))
  | .callP f as ks pl=>(evA σ as).bind λxs=>(evA σ ks).bind λzs=>(plD xs zs pl).bind λds=>call f ds
  | .compS e nl ks tg src=>(evE σ src).bind λx=>(seqD x.2).bind λits=>(compGo (fun σ'=>evE σ' e) (capt σ nl ks) tg its).bind λys=>some (true,.lst ys)
  | .compR e nl ks tg rs=>(evAP σ rs).bind λx=>(rngD x).bind λits=>if its.length≤lim then (compGo (fun σ'=>evE σ' e) (capt σ nl ks) tg its).bind λys=>some (true,.lst ys) else none
  | .compZ e nl ks tg a b=>(evE σ a).bind λx=>(evE σ b).bind λy=>(seqD x.2).bind λxs=>(tupD y.2).bind λys =>
      (compGo (fun σ'=>evE σ' e) (capt σ nl ks) tg (zipD xs ys)).bind λzs=>some (true,.lst zs)
  | .compE e nl ks tg a=>(evE σ a).bind λx=>(seqD x.2).bind λxs=>(compGo (fun σ'=>evE σ' e) (capt σ nl ks) tg (enumD 0 xs)).bind λzs=>some (true,.lst zs)
  | .compF e c nl ks tg src=>(evE σ src).bind λx=>(seqD x.2).bind λits=>(compGoF (fun σ'=>evE σ' c) (fun σ'=>evE σ' e) (capt σ nl ks) tg its).bind λys=>some (true,.lst ys)
  | .srtR e nl ks rs=>(evAP σ rs).bind λx=>(rngD x).bind λits=>(compGo (fun σ'=>evE σ' e) (capt σ nl ks) (.one 0) its).bind λys=>(intsOf ys).bind λis=>if 2≤is.length∧is.length<64 then some (true,.lst ((srtK is).map λk=>its.getD k .non)) else none
  | .fld i j f=>(getv σ i).bind (fldR j f)
  | .mm f ns as bs=>(evA σ as).bind λxs=>(evA σ bs).bind λys=>if xs.length=ns.length then call f (.obj ns xs::ys) else none
termination_by structural c=>c
noncomputable def evA (σ:En):List C→Option (List D)
  | []=>some []
  | a::r=>(evE σ a).bind λx=>(evA σ r).bind λxs=>some (x.2::xs)
termination_by structural c=>c
noncomputable def evAP (σ:En):List C→Option (List D)
  | []=>some []
  | a::r=>(pk σ a (evE σ a)).bind λx=>(evAP σ r).bind λxs=>some (x::xs)
termination_by structural c=>c
noncomputable def evG (σ:En):List C→Option (List D)
  | []=>some []
  | a::r=>(ag σ a (evE σ a)).bind λx=>(evG σ r).bind λxs=>some (x::xs)
termination_by structural c=>c
noncomputable def evO (σ:En):Option C→Option (Option Int)
  | none=>some none
  | some c=>(pk σ c (evE σ c)).bind oInt
termination_by structural c=>c
end
inductive Ou where|nx (σ:En)|rt (r:R)|bk (σ:En)|ct (σ:En)
@[simp] noncomputable def frz1 (σ:En) (i:Nat):En:=match getv σ i with|some (true,.lst ds)=>σ.set i (some (false,.lst ds))|_=>σ
@[simp] noncomputable def keepR (keep:Bool) (r:R):R:=(keep&&r.1,r.2)
noncomputable def forGo (f:En→Option Ou) (tg:Tg):List D→En→Option Ou
  | [],σ=>some (.nx σ)
  | x::r,σ=>(bindT σ tg x).bind fun σ1=>(f σ1).bind λo=>match o with
      | .nx σ2=>forGo f tg r σ2
      | .ct σ2=>forGo f tg r σ2
      | .bk σ2=>some (.nx σ2)
      | .rt v=>some (.rt v)
@[simp] noncomputable def iteK (a b:Option Ou):R→Option Ou
  | (_,.bl true)=>a
  | (_,.bl false)=>b
  | _=>none
@[simp] noncomputable def setIxD (σ:En) (i:Nat) (k e:D):Option Ou:=match getv σ i,k with
  | some (true,.lst xs),.int n=>(ixN xs.length n).bind λj=>some (.nx (σ.set i (some (true,.lst (xs.set j e)))))
  | some (true,.dct true ks),.int n=>match e with
    | .bl true=>if ks.length<lim then some (.nx (σ.set i (some (true,.dct true (if ks.any (· == n) then ks else ks++[n]))))) else none
    | _=>none
  | _,_=>none
@[simp] noncomputable def appD (σ:En) (i:Nat) (e:D):Option Ou:=match getv σ i with
  | some (true,.lst xs)=>if xs.length<lim then some (.nx (σ.set i (some (true,.lst (xs++[e]))))) else none
  | _=>none
@[simp] noncomputable def rtR:R→Option R
  | (false,d)=>some (false,d)
  | (true,.lst ds)=>some (true,.lst ds)
  | _=>none
@[simp] noncomputable def retv (σ:En) (c:C) (r:Option R):Option R:=match c with
  | .v i=>(getv σ i).bind rtR
  | _=>r
@[simp] noncomputable def thenK (k:En→Option Ou):Ou→Option Ou
  | .nx σ=>k σ
  | .rt r=>some (.rt r)
  | .bk σ=>some (.bk σ)
  | .ct σ=>some (.ct σ)
@[simp] noncomputable def loopK (k:En→Option Ou):Ou→Option Ou
  | .nx σ=>k σ
  | .ct σ=>k σ
  | .bk σ=>some (.nx σ)
  | .rt r=>some (.rt r)
@[simp] noncomputable def whlK (σ:En) (k:Option Ou):R→Option Ou
  | (_,.bl true)=>k
  | (_,.bl false)=>some (.nx σ)
  | _=>none
noncomputable def whlGo (c:En→Option R) (b:En→Option Ou):Nat→En→Option Ou
  | 0,_=>none
  | n+1,σ=>(c σ).bind (whlK σ ((b σ).bind (loopK (whlGo c b n))))
@[simp] noncomputable def extD (σ:En) (i:Nat):R→Option Ou
  | (true,.lst ys)=>match getv σ i with
    | some (true,.lst xs)=>if xs.length+ys.length≤lim then some (.nx (σ.set i (some (true,.lst (xs++ys))))) else none
    | _=>none
  | (false,.tup ys)=>match getv σ i with
    | some (true,.lst xs)=>if xs.length+ys.length≤lim then some (.nx (σ.set i (some (true,.lst (xs++ys))))) else none
    | _=>none
  | _=>none
@[simp] noncomputable def asgD (σ:En) (tg:Tg):R→Option Ou
  | (false,d)=>(bindT σ tg d).map .nx
  | _=>none
@[simp] noncomputable def popD (σ:En) (tg:Tg) (i:Nat):Option Ou:=match getv σ i with
  | some (true,.lst xs)=>(xs.getLast?).bind λd=>(bindT (σ.set i (some (true,.lst xs.dropLast))) tg d).map .nx
  | _=>none
@[simp] noncomputable def augD (σ:En) (i:Nat) (y:D):Option Ou:=match getv σ i,y with
  | some (false,.int a),.int b=>some (.nx (σ.set i (some (false,.int (a+b)))))
  | _,_=>none
@[simp] noncomputable def popED (σ:En) (i:Nat):Option Ou:=match getv σ i with
  | some (true,.lst xs)=>(xs.getLast?).bind λ_=>some (.nx (σ.set i (some (true,.lst xs.dropLast))))
  | _=>none
noncomputable def XO:Nat:=1000000
noncomputable def tryK (σ:En) (t:Nat) (tb:List (Str×D)):R→Option Ou
  | (false,.exc c)=>(tb.lookup c).map λd=>.nx (σ.set t (some (false,d)))
  | _=>some (.nx σ)
mutual
noncomputable def evS (σ:En):S→Option Ou
  | .frz is=>some (.nx (is.foldl frz1 σ))
  | .set i keep e=>(evE call σ e).bind λr=>some (.nx (σ.set i (some (keepR keep r))))
  | .aug i e=>(pk σ e (evE call σ e)).bind (augD σ i)
  | .popE i=>popED σ i
  | .dnew i=>some (.nx (σ.set i (some (true,.dct true []))))
  | .setIx i k e=>(evE call σ e).bind λx=>(pk σ k (evE call σ k)).bind λn=>setIxD σ i n x.2
  | .app i e=>(evE call σ e).bind λx=>appD σ i x.2
  | .ret e=>(retv σ e (evE call σ e)).bind λr=>some (.rt r)
  | .ite c a b=>(evE call σ c).bind (iteK (evSs σ a) (evSs σ b))
  | .forS tg src body=>(evE call σ src).bind λx=>(seqD x.2).bind λits=>forGo (fun σ'=>evSs σ' body) tg its σ
  | .forR tg rs body=>(evAP call σ rs).bind λx=>(rngD x).bind λits=>forGo (fun σ'=>evSs σ' body) tg its σ
  | .forV tg rs body=>(evAP call σ rs).bind λx=>(rvD x).bind λits=>forGo (fun σ'=>evSs σ' body) tg its σ
  | .ext i e=>(evE call σ e).bind (extD σ i)
  | .asgT tg e=>(evE call σ e).bind (asgD σ tg)
  | .pop tg i=>popD σ tg i
  | .whl c body=>whlGo (fun σ'=>evE call σ' c) (fun σ'=>evSs σ' body) big σ
  | .brk=>some (.bk σ)
  | .cnt=>some (.ct σ)
  | .stk=>none
  | .rse c=>some (.rt (false,.exc c))
  | .tryB i t f as tb=>if (getv σ i).isNone∧i<σ.length then (evG call σ as).bind λxs=>(call (f+XO) xs).bind (tryK σ t tb) else none
  | .forZ tg a b body=>(evE call σ a).bind λx=>(evE call σ b).bind λy=>(seqD x.2).bind λxs=>(tupD y.2).bind λys=>forGo (fun σ'=>evSs σ' body) tg (zipD xs ys) σ
  | .forE tg a body=>(evE call σ a).bind λx=>(seqD x.2).bind λxs=>forGo (fun σ'=>evSs σ' body) tg (enumD 0 xs) σ
termination_by structural c=>c
noncomputable def evSs (σ:En):List S→Option Ou
  | []=>some (.nx σ)
  | a::r=>(evS σ a).bind (thenK fun σ'=>evSs σ' r)
termination_by structural c=>c
end
end
@[simp] theorem bindT_one (σ:En) (i d):bindT σ (.one i) d=some (σ.set i (some (false,d))):=rfl
@[simp] theorem bindT_two (σ:En) (i j x y):bindT σ (.two i j) (.tup [x,y])=some ((σ.set i (some (false,x))).set j (some (false,y))):=rfl
section
variable (call:Nat→List D→Option R) (σ:En)
noncomputable def evComp (e:C) (σ:En) (tg:Tg) (its:List D):Option (List D):=compGo (fun σ'=>evE call σ' e) σ tg its
noncomputable def evCompF (c e:C) (σ:En) (tg:Tg) (its:List D):Option (List D):=compGoF (fun σ'=>evE call σ' c) (fun σ'=>evE call σ' e) σ tg its
noncomputable def evFor (body:List S) (tg:Tg) (its:List D) (σ:En):Option Ou:=forGo (fun σ'=>evSs call σ' body) tg its σ
@[simp] theorem evE_v (i):evE call σ (.v i)=noOwn (getv σ i):=rfl
@[simp] theorem evE_k (d):evE call σ (.k d)=some (false,d):=rfl
@[simp] theorem evE_bin (o a b):evE call σ (.bin o a b)=(pk σ a (evE call σ a)).bind λx=>(pk σ b (evE call σ b)).bind λy=>binD o x y:=rfl
@[simp] theorem evE_neg (a):evE call σ (.neg a)=(pk σ a (evE call σ a)).bind negD:=rfl
@[simp] theorem evE_cmp (o a b):evE call σ (.cmp o a b)=(pk σ a (evE call σ a)).bind λx=>(pk σ b (evE call σ b)).bind λy=>cmpD o x y:=rfl
@[simp] theorem evE_isC (n a d):evE call σ (.isC n a d)=(pk σ a (evE call σ a)).bind λx=>isD n x d:=rfl
@[simp] theorem evE_and (a b):evE call σ (.and a b)=(evE call σ a).bind (andK (evE call σ b)):=rfl
@[simp] theorem evE_or (a b):evE call σ (.or a b)=(evE call σ a).bind (orK (evE call σ b)):=rfl
@[simp] theorem evE_not (a):evE call σ (.not a)=(evE call σ a).bind notK:=rfl
@[simp] theorem evE_ix (a b):evE call σ (.ix a b)=(pk σ a (evE call σ a)).bind λx=>(pk σ b (evE call σ b)).bind λy=>ixx x y:=rfl
@[simp] theorem evE_sl (a lo hi):evE call σ (.sl a lo hi)=(pk σ a (evE call σ a)).bind λx=>(evO call σ lo).bind λl=>(evO call σ hi).bind λh=>slx l h x:=rfl
@[simp] theorem evE_tup (as):evE call σ (.tup as)=(evA call σ as).bind λxs=>if xs.length≤lim then some (false,.tup xs) else none:=rfl
@[simp] theorem evE_lst (as):evE call σ (.lst as)=(evA call σ as).bind λxs=>if xs.length≤lim then some (true,.lst xs) else none:=rfl
@[simp] theorem evE_call (f as):evE call σ (.call f as)=(evG call σ as).bind λxs=>call f xs:=rfl
@[simp] theorem evE_inV (n a i):evE call σ (.inV n a i)=(pk σ a (evE call σ a)).bind λx=>(getv σ i).bind λy=>inR n x y:=rfl
@[simp] theorem evG_nil:evG call σ []=some []:=rfl
@[simp] theorem evG_cons (a r):evG call σ (a::r)=(ag σ a (evE call σ a)).bind λx=>(evG call σ r).bind λxs=>some (x::xs):=rfl
@[simp] theorem evS_aug (i e):evS call σ (.aug i e)=(pk σ e (evE call σ e)).bind (augD σ i):=rfl
@[simp] theorem evS_popE (i):evS call σ (.popE i)=popED σ i:=rfl
@[simp] theorem evS_dnew (i):evS call σ (.dnew i)=some (.nx (σ.set i (some (true,.dct true [])))):=rfl
@[simp] theorem evE_bi (b as):evE call σ (.bi b as)=(evAP call σ as).bind λxs=>biD b xs:=rfl
@[simp] theorem evE_isi (a t):evE call σ (.isi a t)=(pk σ a (evE call σ a)).bind λx=>some (false,.bl (tyD t x)):=rfl
@[simp] theorem evE_bitl (a):evE call σ (.bitl a)=(pk σ a (evE call σ a)).bind bitD:=rfl
@[simp] theorem evE_ifx (c a b):evE call σ (.ifx c a b)=(evE call σ c).bind (ifK (evE call σ a) (evE call σ b)):=rfl
@[simp] theorem evE_rev (a):evE call σ (.rev a)=(pk σ a (evE call σ a)).bind revD:=rfl
@[simp] theorem evE_join (a b):evE call σ (.join a b)=(pk σ a (evE call σ a)).bind λx=>(pk σ b (evE call σ b)).bind λy=>joinD x y:=rfl
@[simp] theorem evE_fstr (as):evE call σ (.fstr as)=(evA call σ as).bind λxs=>(strsOf xs).bind λts=>(catS Str.empty ts).map λz=>(false,.str z):=rfl
@[simp] theorem evE_chn (o p a b c):evE call σ (.chn o p a b c)=(pk σ a (evE call σ a)).bind λx=>(pk σ b (evE call σ b)).bind λy=>(cmpD o x y).bind (andK ((pk σ c (evE call σ c)).bind λz=>cmpD p y z)):=rfl
@[simp] theorem evE_callP (f as ks pl):evE call σ (.callP f as ks pl)=(evA call σ as).bind λxs=>(evA call σ ks).bind λzs=>(plD xs zs pl).bind λds=>call f ds:=rfl
@[simp] theorem evE_compS (e nl ks tg src):evE call σ (.compS e nl ks tg src)=(evE call σ src).bind λx=>(seqD x.2).bind λits=>(evComp call e (capt σ nl ks) tg its).bind λys=>some (true,.lst ys):=rfl
@[simp] theorem evE_compR (e nl ks tg rs):evE call σ (.compR e nl ks tg rs)=(evAP call σ rs).bind λx=>(rngD x).bind λits=>if its.length≤lim then (evComp call e (capt σ nl ks) tg its).bind λys=>some (true,.lst ys) else none:=rfl
@[simp] theorem evE_compZ (e nl ks tg a b):evE call σ (.compZ e nl ks tg a b)=(evE call σ a).bind λx=>(evE call σ b).bind λy=>(seqD x.2).bind λxs=>(tupD y.2).bind λys =>
      (evComp call e (capt σ nl ks) tg (zipD xs ys)).bind λzs=>some (true,.lst zs):=rfl
@[simp] theorem evE_compE (e nl ks tg a):evE call σ (.compE e nl ks tg a)=(evE call σ a).bind λx=>(seqD x.2).bind λxs=>(evComp call e (capt σ nl ks) tg (enumD 0 xs)).bind λzs=>some (true,.lst zs):=rfl
@[simp] theorem evE_compF (e c nl ks tg src):evE call σ (.compF e c nl ks tg src)=(evE call σ src).bind λx=>(seqD x.2).bind λits=>(evCompF call c e (capt σ nl ks) tg its).bind λys=>some (true,.lst ys):=rfl
@[simp] theorem evE_fld (i j f):evE call σ (.fld i j f)=(getv σ i).bind (fldR j f):=rfl
@[simp] theorem evE_mm (f ns as bs):evE call σ (.mm f ns as bs)=(evA call σ as).bind λxs=>(evA call σ bs).bind λys=>if xs.length=ns.length then call f (.obj ns xs::ys) else none:=rfl
@[simp] theorem evA_nil:evA call σ []=some []:=rfl
@[simp] theorem evA_cons (a r):evA call σ (a::r)=(evE call σ a).bind λx=>(evA call σ r).bind λxs=>some (x.2::xs):=rfl
@[simp] theorem evAP_nil:evAP call σ []=some []:=rfl
@[simp] theorem evAP_cons (a r):evAP call σ (a::r)=(pk σ a (evE call σ a)).bind λx=>(evAP call σ r).bind λxs=>some (x::xs):=rfl
@[simp] theorem evO_none:evO call σ none=some none:=rfl
@[simp] theorem evO_some (c):evO call σ (some c)=(pk σ c (evE call σ c)).bind oInt:=rfl
@[simp] theorem evS_frz (is):evS call σ (.frz is)=some (.nx (is.foldl frz1 σ)):=rfl
@[simp] theorem evS_set (i keep e):evS call σ (.set i keep e)=(evE call σ e).bind λr=>some (.nx (σ.set i (some (keepR keep r)))):=rfl
@[simp] theorem evS_setIx (i k e):evS call σ (.setIx i k e)=(evE call σ e).bind λx=>(pk σ k (evE call σ k)).bind λn=>setIxD σ i n x.2:=rfl
@[simp] theorem evS_app (i e):evS call σ (.app i e)=(evE call σ e).bind λx=>appD σ i x.2:=rfl
@[simp] theorem evS_ret (e):evS call σ (.ret e)=(retv σ e (evE call σ e)).bind λr=>some (.rt r):=rfl
@[simp] theorem evS_ite (c a b):evS call σ (.ite c a b)=(evE call σ c).bind (iteK (evSs call σ a) (evSs call σ b)):=rfl
@[simp] theorem evS_forS (tg src body):evS call σ (.forS tg src body)=(evE call σ src).bind λx=>(seqD x.2).bind λits=>evFor call body tg its σ:=rfl
@[simp] theorem evS_forR (tg rs body):evS call σ (.forR tg rs body)=(evAP call σ rs).bind λx=>(rngD x).bind λits=>evFor call body tg its σ:=rfl
@[simp] theorem evS_forV (tg rs body):evS call σ (.forV tg rs body)=(evAP call σ rs).bind λx=>(rvD x).bind λits=>evFor call body tg its σ:=rfl
@[simp] theorem evS_ext (i e):evS call σ (.ext i e)=(evE call σ e).bind (extD σ i):=rfl
@[simp] theorem evS_asgT (tg e):evS call σ (.asgT tg e)=(evE call σ e).bind (asgD σ tg):=rfl
@[simp] theorem evS_pop (tg i):evS call σ (.pop tg i)=popD σ tg i:=rfl
@[simp] theorem evS_whl (c body):evS call σ (.whl c body)=whlGo (fun σ'=>evE call σ' c) (fun σ'=>evSs call σ' body) big σ:=rfl
@[simp] theorem evS_brk:evS call σ .brk=some (.bk σ):=rfl
@[simp] theorem evS_stk:evS call σ .stk=none:=rfl
@[simp] theorem evS_rse (c):evS call σ (.rse c)=some (.rt (false,.exc c)):=rfl
@[simp] theorem evS_tryB (i t f as tb):evS call σ (.tryB i t f as tb)=if (getv σ i).isNone∧i<σ.length then (evG call σ as).bind λxs=>(call (f+XO) xs).bind (tryK σ t tb) else none:=rfl
@[simp] theorem evS_cnt:evS call σ .cnt=some (.ct σ):=rfl
@[simp] theorem evS_forZ (tg a b body):evS call σ (.forZ tg a b body)=(evE call σ a).bind λx=>(evE call σ b).bind λy=>(seqD x.2).bind λxs=>(tupD y.2).bind λys=>evFor call body tg (zipD xs ys) σ:=rfl
@[simp] theorem evS_forE (tg a body):evS call σ (.forE tg a body)=(evE call σ a).bind λx=>(seqD x.2).bind λxs=>evFor call body tg (enumD 0 xs) σ:=rfl
@[simp] theorem evSs_nil:evSs call σ []=some (.nx σ):=rfl
@[simp] theorem evSs_cons (a r):evSs call σ (a::r)=(evS call σ a).bind (thenK fun σ'=>evSs call σ' r):=rfl
@[simp] theorem evFor_nil (body tg):evFor call body tg [] σ=some (.nx σ):=rfl
theorem evFor_cons (body tg x r):evFor call body tg (x::r) σ=(bindT σ tg x).bind fun σ1=>(evSs call σ1 body).bind λo=>loopK (evFor call body tg r) o:=by
  show (bindT σ tg x).bind _=(bindT σ tg x).bind _
  congr
theorem evComp_cons (e tg x r):evComp call e σ tg (x::r)=(bindT σ tg x).bind fun σ1=>(evE call σ1 e).bind λy=>(evComp call e σ tg r).bind λys=>some (y.2::ys):=rfl
theorem evCompF_cons (c e tg x r):evCompF call c e σ tg (x::r)=(bindT σ tg x).bind fun σ1=>(evE call σ1 c).bind (fltK ((evE call σ1 e).bind λy=>(evCompF call c e σ tg r).bind λys=>some (y.2::ys)) (evCompF call c e σ tg r)):=rfl
@[simp] theorem evCompF_nil (c e tg):evCompF call c e σ tg []=some []:=rfl
@[simp] theorem evComp_nil (e tg):evComp call e σ tg []=some []:=rfl
theorem evComp_map {α:Type}{e:C}{tg:Tg}(enc g:α→D):∀(l:List α),(∀x∈l,∃σ' b,bindT σ tg (enc x)=some σ'∧evE call σ' e=some (b,g x))→evComp call e σ tg (l.map enc)=some (l.map g)
  | [],_=>rfl
  | x::r,h=>by
    obtain⟨σ',b,h1,h2⟩:=h x List.mem_cons_self
    simp [evComp_cons,h1,h2,evComp_map enc g r λy hy=>h y (List.mem_cons_of_mem _ hy)]
end
theorem evCompF_filter {call:Nat→List D→Option R}{σ:En}{α:Type}{c e:C}{tg:Tg}(enc g:α→D) (p:α→Bool):∀(l:List α),(∀x∈l,∃σ',bindT σ tg (enc x)=some σ'∧evE call σ' c=some (false,.bl (p x))∧(p x=true→∃b,evE call σ' e=some (b,g x)))→evCompF call c e σ tg (l.map enc)=some ((l.filter p).map g)
  | [],_=>rfl
  | x::r,h=>by
    obtain⟨σ',h1,h2,h3⟩:=h x List.mem_cons_self
    have ih:=evCompF_filter enc g p r λy hy=>h y (List.mem_cons_of_mem _ hy)
    rw [List.map_cons,evCompF_cons,h1,Option.bind_some,h2,Option.bind_some,ih]
    cases hp:p x with
    | false=>rw [List.filter_cons_of_neg (by simp [hp])];rfl
    | true =>
      obtain⟨b,hb⟩:=h3 hp
      rw [List.filter_cons_of_pos hp]
      show (evE call σ' e).bind _=_
      rw [hb]
      rfl
theorem intsOf_map {α:Type}(f:α→Int):∀l:List α,intsOf (l.map λx=>.int (f x))=some (l.map f)
  | []=>rfl
  | x::r=>by simp [intsOf_map f r]
theorem enumD_get (xs:List D):∀(n i:Nat),(enumD n xs)[i]?=xs[i]?.map λx=>.tup [.int ((n+i:Nat):Int),x]:=by
  induction xs with
  | nil=>intro n i;rfl
  | cons x r ih =>
    intro n i
    cases i with
    | zero=>rfl
    | succ i=>show (enumD (n+1) r)[i]?=_;rw [ih,List.getElem?_cons_succ,show n+1+i=n+(i+1) by omega]
theorem enumD_length (xs:List D):∀n,(enumD n xs).length=xs.length:=by
  induction xs with
  | nil=>intro n;rfl
  | cons x r ih=>intro n;show (enumD (n+1) r).length+1=_;rw [ih];rfl
structure Fd where
  np:Nat
  ns:Nat
  body:List S
@[simp] noncomputable def endR:Ou→Option R
  | .nx _=>some (false,.non)
  | .rt r=>some r
  | _=>none
@[simp] noncomputable def agE:Bool→List D→En
  | _,[]=>[]
  | true,.dct _ _::r=>none::agE true r
  | false,.dct m ks::r=>some (true,.dct m ks)::agE true r
  | true,.obj _ _::r=>none::agE true r
  | false,.obj ns ds::r=>some (true,.obj ns ds)::agE true r
  | b,d::r=>some (false,d)::agE b r
noncomputable def runX (call:Nat→List D→Option R) (fd:Fd) (as:List D):Option R:=
  if as.length=fd.np then (evSs call (agE false as++List.replicate (fd.ns - fd.np) none) fd.body).bind endR else none
noncomputable def isX:R→Bool
  | (false,.exc _)=>true
  | _=>false
@[simp] noncomputable def noX (r:R):Option R:=if isX r then none else some r
noncomputable def runF (call:Nat→List D→Option R) (fd:Fd) (as:List D):Option R:=(runX call fd as).bind noX
noncomputable def callN (tab:List Fd):Nat→Nat→List D→Option R
  | 0,_,_=>none
  | n+1,f,as=>match tab[f]? with|some fd=>runF (callN tab n) fd as|none=>match tab[f - XO]? with|some fd=>runX (callN tab n) fd as|none=>none
theorem callN_at {tab:List Fd}{f:Nat}{fd:Fd}(h:tab[f]?=some fd) (n:Nat) (as:List D):callN tab (n+1) f as=runF (callN tab n) fd as:=by
  rw [callN,h]
theorem callX_at {tab:List Fd}{f:Nat}{fd:Fd}(h:tab[f]?=some fd) (hl:tab.length≤XO) (n:Nat) (as:List D):callN tab (n+1) (f+XO) as=runX (callN tab n) fd as:=by
  rw [callN,List.getElem?_eq_none (by omega),Nat.add_sub_cancel,h]
end Dw
namespace Dw
open PySem
structure Uc where
  f:Str
  i:Nat
  np:Nat
  ks:List Str
  pl:List Ar
structure Gx where
  defs:List (Str×Nat)
  cons:List (Str×Int):=[]
  ucal:List Uc:=[]
  meth:List (Str×Str×Nat):=[]
  flds:List (Str×Nat):=[]
  rse:List Str:=[]
  xdf:List (Str×Nat):=[]
noncomputable def biOf (x:Str) (n:Nat):Option BI:=
  if x=Str.ofString "len" then (if n=1 then some .len else none) else
  if x=Str.ofString "min" then (if n=2∨n=1 then some .min else none) else
  if x=Str.ofString "max" then (if n=2∨n=3∨n=1 then some .max else none) else
  if x=Str.ofString "sum" then (if n=1 then some .sum else none) else
  if x=Str.ofString "tuple" then (if n=1 then some .tuple else none) else
  if x=Str.ofString "list" then (if n=1 then some .list else none) else
  none
noncomputable def tyOf (x:Str):Option Ty:=
  if x=Str.ofString "int" then some .int else
  if x=Str.ofString "bool" then some .bool else
  if x=Str.ofString "tuple" then some .tuple else
  if x=Str.ofString "list" then some .list else
  if x=Str.ofString "str" then some .str else none
noncomputable def bopOf:Operator→Option BOp
  | .Add=>some .add|.Sub=>some .sub|.Mult=>some .mul|.FloorDiv=>some .fdiv|.Mod=>some .mod|.Pow=>some .pow|.LShift=>some .shl|.RShift=>some .shr|.BitAnd=>some .band|.BitOr=>some .bor|.BitXor=>some .bxor|_=>none
noncomputable def copOf:CmpOp→Option COp
  | .Eq=>some .eq|.NotEq=>some .ne|.Lt=>some .lt|.LtE=>some .le|.Gt=>some .gt|.GtE=>some .ge|.In=>some .isin|.NotIn=>some .notin|_=>none
noncomputable def kOf:Const→Option D
  | .int i=>some (.int i)|.bool b=>some (.bl b)|.none=>some .non|.str x=>some (.str x)|_=>none
noncomputable def slotOf (N:List Str) (x:Str):Option Nat:=N.findIdx? (· == x)
noncomputable def visB (sc:Scope) (x:Str):Bool:=sc.names.lookup x == some .local||sc.names.lookup x == some .cell||sc.names.lookup x == some .free
noncomputable def glB (sc:Scope) (x:Str):Bool:=sc.names.lookup x == some .globalImplicit
noncomputable def plainName (x:Str):Bool:=x != Str.ofString "__debug__"&&x != Str.ofString "__classdict__"&&x != Str.ofString "__name__"
noncomputable def varOf (sc:Scope) (N:List Str) (x:Str):Option Nat:=if visB sc x&&plainName x then slotOf N x else none
noncomputable def capB (sc:Scope) (x:Str):Bool:=sc.names.lookup x == some .cell||sc.names.lookup x == some .free
noncomputable def capOf (sc:Scope) (N:List Str) (x:Str):Option Nat:=if capB sc x then varOf sc N x else none
noncomputable def ownN (sc:Scope):List Str:=(sc.names.filter λp=>p.2 == .local&&p.1 != Str.ofString ".0").map (·.1)
noncomputable def freeN (sc:Scope):List Str:=(sc.names.filter λp=>p.2 == .free).map (·.1)
noncomputable def scopeOk (sc:Scope):Bool:=sc.kind == .function&&sc.names.all (λp=>p.2 != .cell)&&decide ((sc.names.map (·.1)).Nodup)&&(ownN sc++freeN sc).all plainName
noncomputable def optAll {α β:Type}(f:α→Option β):List α→Option (List β)
  | []=>some []
  | a::r=>(f a).bind λx=>(optAll f r).bind λxs=>some (x::xs)
noncomputable def nmOf (sc:Scope) (N:List Str):Expr→Option Nat
  | .Name x _=>if sc.names.lookup x == some .local||sc.names.lookup x == some .cell then slotOf N x else none
  | _=>none
noncomputable def tgOf (sc:Scope) (N:List Str):Expr→Option Tg
  | .Name x _=>if sc.names.lookup x == some .local||sc.names.lookup x == some .cell then (slotOf N x).map .one else none
  | .Tuple [.Name x _,.Name y _] _ _=>if (sc.names.lookup x == some .local||sc.names.lookup x == some .cell)&&(sc.names.lookup y == some .local||sc.names.lookup y == some .cell)&&x != y then
      (slotOf N x).bind λi=>(slotOf N y).bind λj=>some (.two i j) else none
  | _=>none
noncomputable def tgM (sc:Scope) (N:List Str) (e:Expr):Option Tg:=match tgOf sc N e with
  | some t=>some t
  | none=>match e with
    | .Tuple es _ _=>(optAll (nmOf sc N) es).map .many
    | _=>none
inductive Sr where|seq (e:Expr)|rng (es:List Expr)|zip (a b:Expr)|rev (es:List Expr)|enm (a:Expr)
noncomputable def srOf (sc:Scope):Expr→Sr
  | .Call (.Name f p) as [] pos =>
    if glB sc f&&f == Str.ofString "range"&&(as.length == 1||as.length == 2||as.length == 3) then .rng as else
    if glB sc f&&f == Str.ofString "zip" then (match as with|[a,b]=>.zip a b|_=>.seq (.Call (.Name f p) as [] pos)) else
    if glB sc f&&f == Str.ofString "reversed" then (match as with
      | [.Call (.Name h _) [a] [] _]=>if glB sc h&&h == Str.ofString "range" then .rev [a] else .seq (.Call (.Name f p) as [] pos)
      | _=>.seq (.Call (.Name f p) as [] pos)) else
    if glB sc f&&f == Str.ofString "enumerate" then (match as with|[a]=>.enm a|_=>.seq (.Call (.Name f p) as [] pos)) else .seq (.Call (.Name f p) as [] pos)
  | e=>.seq e
noncomputable def isTwo:Tg→Bool
  | .two _ _=>true
  | _=>false
noncomputable def mkCmp (o:COp) (x y:C) (b:Expr):C:=match o,b,y with
  | .isin,.Name _ _,.v i=>.inV false x i
  | .notin,.Name _ _,.v i=>.inV true x i
  | _,_,_=>.cmp o x y
noncomputable def isD0:Expr→Bool
  | .Dict [] [] _=>true
  | _=>false
variable (G:Gx)
noncomputable def cGl (sc:Scope) (x:Str):Option C:=if glB sc x&&plainName x then (G.cons.lookup x).map λi=>.k (.int i) else none
mutual
noncomputable def cE:Nat→Scope→List Str→Expr→Option C
  | 0,_,_,_=>none
  | n+1,sc,N,e=>match e with
    | .Name x _=>match varOf sc N x with|some i=>some (.v i)|none=>cGl G sc x
    | .Constant c _ _=>(kOf c).map .k
    | .BinOp a op b _=>(bopOf op).bind λo=>(cE n sc N a).bind λx=>(cE n sc N b).bind λy=>some (.bin o x y)
    | .UnaryOp .USub a _=>(cE n sc N a).map .neg
    | .UnaryOp .Not a _=>(cE n sc N a).map .not
    | .BoolOp .And es _=>if 2≤es.length then cAnd n sc N es else none
    | .BoolOp .Or es _=>if 2≤es.length then cOr n sc N es else none
    | .Compare a [.Is] [.Constant c _ _] _=>(kOf c).bind λd=>(cE n sc N a).bind λx=>some (.isC false x d)
    | .Compare a [.IsNot] [.Constant c _ _] _=>(kOf c).bind λd=>(cE n sc N a).bind λx=>some (.isC true x d)
    | .Compare a [op] [b] _=>(copOf op).bind λo=>(cE n sc N a).bind λx=>(cE n sc N b).bind λy=>some (mkCmp o x y b)
    | .Subscript a (.Slice lo hi none _) _=>(cE n sc N a).bind λx=>(cO n sc N lo).bind λl=>(cO n sc N hi).bind λh=>some (.sl x l h)
    | .Subscript a b _=>(cE n sc N a).bind λx=>(cE n sc N b).bind λy=>some (.ix x y)
    | .Tuple es _ _=>(cEs n sc N es).map .tup
    | .List es _=>(cEs n sc N es).map .lst
    | .Call (.Name f _) as [] _=>if glB sc f&&plainName f then cCall n sc N f as else none
    | .ListComp e [⟨tg,it,[],0⟩] sc' _ =>
      if scopeOk sc' then
        (tgOf sc' (ownN sc'++freeN sc') tg).bind λt=>(optAll (capOf sc N) (freeN sc')).bind λks=>(cE n sc' (ownN sc'++freeN sc') e).bind λc =>
          match srOf sc it with
          | .seq s=>(cE n sc N s).bind λx=>some (.compS c (ownN sc').length ks t x)
          | .rng rs=>(cEs n sc N rs).bind λxs=>some (.compR c (ownN sc').length ks t xs)
          | .zip _ _=>none
          | .rev _=>none
          | .enm _=>none
      else none
    | e=>cX n sc N e
noncomputable def cX:Nat→Scope→List Str→Expr→Option C
  | 0,_,_,_=>none
  | n+1,sc,N,e=>match e with
    | .ListComp e [⟨tg,it,[cd],0⟩] sc' _ =>
      if scopeOk sc' then
        (tgOf sc' (ownN sc'++freeN sc') tg).bind λt=>(optAll (capOf sc N) (freeN sc')).bind λks=>(cE n sc' (ownN sc'++freeN sc') e).bind λc=>(cE n sc' (ownN sc'++freeN sc') cd).bind λcc =>
          match srOf sc it with
          | .seq s=>(cE n sc N s).bind λx=>some (.compF c cc (ownN sc').length ks t x)
          | _=>none
      else none
    | _=>none
noncomputable def cCall:Nat→Scope→List Str→Str→List Expr→Option C
  | 0,_,_,_,_=>none
  | n+1,sc,N,f,as=>match G.defs.lookup f with
    | some i=>if as.isEmpty then none else (cEs n sc N as).map (.call i)
    | none=>match f == Str.ofString "isinstance",as with
      | true,[a,.Name t _]=>if glB sc t&&(G.defs.lookup t).isNone then (tyOf t).bind λty=>(cE n sc N a).bind λx=>some (.isi x ty) else none
      | false,as=>(biOf f as.length).bind λb=>(cEs n sc N as).map (.bi b)
      | _,_=>none
noncomputable def cEs:Nat→Scope→List Str→List Expr→Option (List C)
  | 0,_,_,_=>none
  | n+1,sc,N,es=>match es with
    | []=>some []
    | a::r=>(cE n sc N a).bind λx=>(cEs n sc N r).bind λxs=>some (x::xs)
noncomputable def cO:Nat→Scope→List Str→Option Expr→Option (Option C)
  | 0,_,_,_=>none
  | n+1,sc,N,o=>match o with
    | none=>some none
    | some e=>(cE n sc N e).map some
noncomputable def cJ:Nat→Scope→List Str→List Expr→Option (List C)
  | 0,_,_,_=>none
  | n+1,sc,N,es=>match es with
    | []=>some []
    | .Constant (.str x) _ _::r=>(cJ n sc N r).map λxs=>.k (.str x)::xs
    | .FormattedValue e (-1) none _::r=>(cE n sc N e).bind λx=>(cJ n sc N r).bind λxs=>some (.bi .str [x]::xs)
    | _=>none
noncomputable def cAnd:Nat→Scope→List Str→List Expr→Option C
  | 0,_,_,_=>none
  | n+1,sc,N,es=>match es with
    | [a]=>cE n sc N a
    | a::b::r=>(cE n sc N a).bind λx=>(cAnd n sc N (b::r)).bind λy=>some (.and x y)
    | []=>none
noncomputable def cOr:Nat→Scope→List Str→List Expr→Option C
  | 0,_,_,_=>none
  | n+1,sc,N,es=>match es with
    | [a]=>cE n sc N a
    | a::b::r=>(cE n sc N a).bind λx=>(cOr n sc N (b::r)).bind λy=>some (.or x y)
    | []=>none
end
noncomputable def mutS:Nat→List Str→List Stmt→List Nat
  | 0,_,_=>[]
  | _+1,_,[]=>[]
  | n+1,N,st::r=>(match st with
    | .Assign [.Subscript (.Name x _) _ _] _ _=>(slotOf N x).toList
    | .Expr (.Call (.Attribute (.Name x _) m _) _ _ _) _=>if m == Str.ofString "append"||m == Str.ofString "extend"||m == Str.ofString "pop" then (slotOf N x).toList else []
    | .Assign _ (.Call (.Attribute (.Name x _) m _) _ _ _) _=>if m == Str.ofString "pop" then (slotOf N x).toList else []
    | .If _ a b _=>mutS n N a++mutS n N b
    | .For _ _ b _ _=>mutS n N b
    | .While _ b _ _=>mutS n N b
    | _=>[])++mutS n N r
noncomputable def alK (c:C) (r:List Nat):List Nat:=match c with
  | .v _=>[]
  | _=>r
mutual
noncomputable def alC:C→List Nat
  | .v i=>[i]
  | .k _=>[]
  | .bin _ a b=>alK a (alC a)++alK b (alC b)
  | .neg a=>alK a (alC a)
  | .cmp _ a b=>alK a (alC a)++alK b (alC b)
  | .isC _ a _=>alK a (alC a)
  | .inV _ a _=>alK a (alC a)
  | .and a b=>alC a++alC b
  | .or a b=>alC a++alC b
  | .not a=>alC a
  | .ix a b=>alK a (alC a)++alK b (alC b)
  | .sl a _ _=>alK a (alC a)
  | .tup as=>alCs as
  | .lst as=>alCs as
  | .call _ as=>alCs as
  | .bi _ as=>alPs as
  | .isi a _=>alK a (alC a)
  | .bitl a=>alK a (alC a)
  | .ifx c a b=>alC c++alC a++alC b
  | .rev a=>alK a (alC a)
  | .join a b=>alK a (alC a)++alK b (alC b)
  | .fstr as=>alCs as
  | .callP _ as ks _=>alCs as++alCs ks
  | .chn _ _ a b c=>alK a (alC a)++alK b (alC b)++alK c (alC c)
  | .compS e nl ks _ s=>alC s++(alC e).filterMap λj=>if nl≤j then ks[j - nl]? else none
  | .compR e nl ks _ rs=>alPs rs++(alC e).filterMap λj=>if nl≤j then ks[j - nl]? else none
  | .compZ e nl ks _ a b=>alC a++alC b++(alC e).filterMap λj=>if nl≤j then ks[j - nl]? else none
  | .compE e nl ks _ a=>alC a++(alC e).filterMap λj=>if nl≤j then ks[j - nl]? else none
  | .compF e c nl ks _ a=>alC a++(alC e++alC c).filterMap λj=>if nl≤j then ks[j - nl]? else none
  | .srtR e nl ks rs=>alPs rs++(alC e).filterMap λj=>if nl≤j then ks[j - nl]? else none
  | .fld _ _ _=>[]
  | .mm _ _ as bs=>alCs as++alCs bs
termination_by structural c=>c
noncomputable def alCs:List C→List Nat
  | []=>[]
  | a::r=>alC a++alCs r
termination_by structural c=>c
noncomputable def alPs:List C→List Nat
  | []=>[]
  | a::r=>alK a (alC a)++alPs r
termination_by structural c=>c
end
noncomputable def withF (mt:List Nat) (is:List Nat) (s:S):List S:=match is.filter (mt.contains ·) with
  | []=>[s]
  | js=>[.frz js,s]
mutual
noncomputable def cS:Nat→Scope→List Str→List Nat→Stmt→Option (List S)
  | 0,_,_,_,_=>none
  | n+1,sc,N,mt,st=>match st with
    | .Assign [.Name x _] e _=>if sc.names.lookup x == some .local||sc.names.lookup x == some .cell then (slotOf N x).bind λi=>if isD0 e then some [.dnew i] else (cE G n sc N e).bind λc=>some (withF mt (alC c) (.set i (mt.contains i) c)) else none
    | .Assign [.Subscript (.Name x _) k _] e _=>(varOf sc N x).bind λi=>(cE G n sc N k).bind λck=>(cE G n sc N e).bind λc=>some (withF mt (alC c) (.setIx i ck c))
    | .Expr (.Call (.Attribute (.Name x _) m p2) [e] [] p3) _=>if m == Str.ofString "append"&&p2.endLine == p3.line then (varOf sc N x).bind λi=>(cE G n sc N e).bind λc=>some (withF mt (alC c) (.app i c)) else
      if m == Str.ofString "extend"&&p2.endLine == p3.line then (varOf sc N x).bind λi=>(cE G n sc N e).bind λc=>some (withF mt (alC c) (.ext i c)) else none
    | .While t body [] _=>(cE G n sc N t).bind λc=>(cSs n sc N mt body).bind λb=>some (withF mt (alC c) (.whl c b))
    | .AugAssign (.Name x _) .Add e _=>if sc.names.lookup x == some .local||sc.names.lookup x == some .cell then (slotOf N x).bind λi=>(cE G n sc N e).bind λc=>some (withF mt (alK c (alC c)) (.aug i c)) else none
    | .Expr (.Call (.Attribute (.Name x _) m p2) [] [] p3) _=>if m == Str.ofString "pop"&&p2.endLine == p3.line then (varOf sc N x).bind λi=>some [.popE i] else none
    | .Raise (some (.Call (.Name c _) [.Constant (.str _) _ _] [] _)) none _=>if G.rse.contains c&&glB sc c&&plainName c then some [.rse c] else some [.stk]
    | .Raise _ _ _=>some [.stk]
    | .Return (some e) _=>(cE G n sc N e).bind λc=>some (withF mt (alK c (alC c)) (.ret c))
    | .If t a b _=>(cE G n sc N t).bind λc=>(cSs n sc N mt a).bind λx=>(cSs n sc N mt b).bind λy=>some (withF mt (alC c) (.ite c x y))
    | .For tg it body [] _=>(tgM sc N tg).bind λt=>(cSs n sc N mt body).bind λb=>match srOf sc it with
      | .seq s=>(cE G n sc N s).bind λx=>some (withF mt (alC x) (.forS t x b))
      | .rng rs=>(cEs G n sc N rs).bind λxs=>some (withF mt (alPs xs) (.forR t xs b))
      | .zip _ _=>none
      | .rev rs=>(cEs G n sc N rs).bind λxs=>some (withF mt (alPs xs) (.forV t xs b))
      | .enm a=>if isTwo t then (cE G n sc N a).bind λx=>some (withF mt (alC x) (.forE t x b)) else none
    | _=>none
noncomputable def cSs:Nat→Scope→List Str→List Nat→List Stmt→Option (List S)
  | 0,_,_,_,_=>none
  | n+1,sc,N,mt,st=>match st with
    | []=>some []
    | a::r=>(cS n sc N mt a).bind λx=>(cSs n sc N mt r).bind λy=>some (x++y)
end
noncomputable def namesOf (sc:Scope):List Str:=(sc.names.filter λp=>p.2 == .local||p.2 == .cell).map (·.1)
end Dw
namespace L2
open PySem PySem.Spec PyProof.Rows
noncomputable abbrev Key:=Sum Int Str
noncomputable def keyIs:Key→Value→Bool
  | .inl k,v=>Value.isInt k v
  | .inr x,v=>Value.isStrOf x v
noncomputable def keyH (w:World):Key→Int
  | .inl k=>hashInt k
  | .inr x=>hashStr w x
theorem keyIs_shape:∀{k:Key}{v:Value},keyIs k v=true→(∃i t,k=Sum.inl i∧v=Value.int i t)∨(∃x t,k=Sum.inr x∧v=Value.str x t)
  | .inl i,v,h=>by
    obtain⟨t,e⟩:=Value.isInt_shape (k:=i) (v:=v) h
    exact .inl ⟨i,t,rfl,e⟩
  | .inr x,v,h=>by
    obtain⟨t,e⟩:=Value.isStrOf_shape (x:=x) (v:=v) h
    exact .inr ⟨x,t,rfl,e⟩
theorem keyIs_int (i:Int) (t:Tok):keyIs (.inl i) (.int i t)=true:=by simp [keyIs,Value.isInt]
theorem keyIs_str (x:Str) (t:Tok):keyIs (.inr x) (.str x t)=true:=by simp [keyIs,Value.isStrOf]
theorem key_ll (a b:Int):decide ((Sum.inl a:Key)=Sum.inl b)=(a == b):=by
  by_cases e:a=b
  · subst e;simp
  · have h:¬(Sum.inl a:Key)=Sum.inl b:=λq=>e (Sum.inl.inj q)
    rw [decide_eq_false h]
    exact (beq_eq_false_iff_ne.mpr e).symm
theorem key_rr (a b:Str):decide ((Sum.inr a:Key)=Sum.inr b)=decide (a=b):=by
  by_cases e:a=b
  · subst e;simp
  · have h:¬(Sum.inr a:Key)=Sum.inr b:=λq=>e (Sum.inr.inj q)
    rw [decide_eq_false h,decide_eq_false e]
theorem key_lr (a:Int) (b:Str):decide ((Sum.inl a:Key)=Sum.inr b)=false:=decide_eq_false (λq=>nomatch q)
theorem key_rl (a:Str) (b:Int):decide ((Sum.inr a:Key)=Sum.inl b)=false:=decide_eq_false (λq=>nomatch q)
noncomputable def mixKind (prog:Program) (w:World):PySem.KeyKind prog w Key where
  is:=keyIs
  hash:=keyH w
  inj:=λv a b ha hb=>by
    rcases keyIs_shape ha with ⟨i,t,rfl,rfl⟩|⟨x,t,rfl,rfl⟩
    · rcases keyIs_shape hb with ⟨j,u,rfl,e⟩|⟨y,u,rfl,e⟩
      · injection e with e1 _;rw [e1]
      · exact nomatch e
    · rcases keyIs_shape hb with ⟨j,u,rfl,e⟩|⟨y,u,rfl,e⟩
      · exact nomatch e
      · injection e with e1 _;rw [e1]
  byValue:=λk v h=>by
    rcases keyIs_shape h with ⟨i,t,rfl,rfl⟩|⟨x,t,rfl,rfl⟩<;>rfl
  pyHash:=λhv h=>by
    rcases keyIs_shape hv with ⟨i,t,rfl,rfl⟩|⟨x,t,rfl,rfl⟩
    · exact wpAny_pyHash_int h
    · exact wpAny_pyHash_str h
  eqBool:=λhu hv h=>by
    rcases keyIs_shape hu with ⟨i,t,rfl,rfl⟩|⟨x,t,rfl,rfl⟩
    · rcases keyIs_shape hv with ⟨j,u,rfl,rfl⟩|⟨y,u,rfl,rfl⟩
      · rw [key_ll] at h;exact wpAny_eqBool_int h
      · rw [key_lr] at h;exact SeqAt.EqAt.int_str i t y u _ _ _ _ h
    · rcases keyIs_shape hv with ⟨j,u,rfl,rfl⟩|⟨y,u,rfl,rfl⟩
      · rw [key_rl] at h;exact SeqAt.EqAt.str_int x t j u _ _ _ _ h
      · rw [key_rr] at h;exact wpAny_eqBool_str h
  «strs»:=λk x t v h=>by
    rcases keyIs_shape h with ⟨i,u,rfl,e⟩|⟨y,u,rfl,e⟩
    · exact nomatch e
    · injection e with e1 _
      subst e1
      cases v<;>rfl
theorem mixKind_int (prog:Program) (w:World) (i:Int) (t:Tok):(mixKind prog w).is (.inl i) (.int i t)=true:=keyIs_int i t
theorem mixKind_str (prog:Program) (w:World) (x:Str) (t:Tok):(mixKind prog w).is (.inr x) (.str x t)=true:=keyIs_str x t
end L2
namespace L2
open PySem PySem.Spec PyProof.Rows
inductive V where
  | non|bl (b:Bool)|int (i:Int)|str (x:Str)|byt (b:Array UInt8)|flt (b:UInt64)|ref (a:Addr)|ty (n:String)
  deriving DecidableEq
noncomputable def RelV:V→Value→Prop
  | .non,u=>u=Value.none
  | .bl b,u=>u=Value.bool b
  | .int i,u=>∃t,u=Value.int i t
  | .str x,u=>∃t,u=Value.str x t
  | .byt b,u=>∃t,u=Value.bytes b t
  | .flt b,u=>∃t,u=Value.float b t
  | .ref a,u=>u=Value.ref a
  | .ty n,u=>u=Value.type n
noncomputable abbrev Vals:List V→List Value→Prop:=Paired RelV
theorem Vals.length {xs:List V}{us:List Value}(r:Vals xs us):xs.length=us.length:=Paired.length r
theorem Vals.get:∀{xs:List V}{us:List Value}{i:Nat}{x:V},Vals xs us→xs[i]?=some x→∃u,us[i]?=some u∧RelV x u
  | _,_,_,_,.nil,e=>by simp at e
  | _,_,0,_,.cons r _,e=>by simp at e;subst e;exact⟨_,rfl,r⟩
  | _,_,i+1,x,.cons _ t,e=>by
    obtain⟨u,h1,h2⟩:=Vals.get (i:=i) (x:=x) t (by simpa using e)
    exact⟨u,by simpa using h1,h2⟩
theorem Vals.set {x:V}{u:Value}(r:RelV x u):∀{xs:List V}{us:List Value}(i:Nat),Vals xs us→Vals (xs.set i x) (us.set i u)
  | _,_,_,.nil=>.nil
  | _,_,0,.cons _ t=>.cons r t
  | _,_,i+1,.cons q t=>.cons q (Vals.set r i t)
theorem Vals.append:∀{xs ys:List V}{us ws:List Value},Vals xs us→Vals ys ws→Vals (xs++ys) (us++ws)
  | _,_,_,_,.nil,s=>s
  | _,_,_,_,.cons r t,s=>.cons r (Vals.append t s)
theorem Vals.take:∀{xs:List V}{us:List Value}(n:Nat),Vals xs us→Vals (xs.take n) (us.take n)
  | _,_,0,_=>.nil
  | _,_,_+1,.nil=>.nil
  | _,_,n+1,.cons r t=>.cons r (Vals.take n t)
theorem Vals.drop:∀{xs:List V}{us:List Value}(n:Nat),Vals xs us→Vals (xs.drop n) (us.drop n)
  | _,_,0,r=>r
  | _,_,_+1,.nil=>.nil
  | _,_,n+1,.cons _ t=>Vals.drop n t
noncomputable def RelO:Option V→Option Value→Prop
  | some v,some u=>RelV v u
  | none,none=>True
  | _,_=>False
noncomputable def KV {κ:Type}:List (κ×V)→List (κ×Value)→Prop:=Paired λ(p:κ×V) (q:κ×Value)=>p.1=q.1∧RelV p.2 q.2
noncomputable def kV:Key→V
  | .inl i=>.int i
  | .inr x=>.str x
inductive HO where
    | lst (xs:List V)
    | tup (xs:List V)
    | dK (kvs:List (Key×V))|dT (kvs:List (List Key×V))
    | set (S:Int→Bool) (n:Nat)
    | ins (C dx:Addr) (fs:List (Str×V))
    | own (x:Addr)
    | xd (fs:List (Str×V))
    | met (f x:Addr)
    | rng (lo hi:Int)
    | frz (o:Obj) (u:HO)
    | tbl (ps:Array Value)
  | tab (pos:Pos) (q:Str)
    | ext (φ:Heap→Prop)
noncomputable abbrev Hp:=Addr→Option HO
noncomputable def upd (H:Hp) (a:Addr) (o:HO):Hp:=λb=>if b=a then some o else H b
theorem upd_same {H:Hp}{a:Addr}{o:HO}:upd H a o a=some o:=by unfold upd;rw [if_pos rfl]
theorem upd_ne {H:Hp}{a b:Addr}{o:HO}(h:b≠a):upd H a o b=H b:=by unfold upd;rw [if_neg h]
theorem upd_upd {H:Hp}{a:Addr}{o u:HO}:upd (upd H a o) a u=upd H a u:=by
  funext b;unfold upd;split<;>rfl
theorem ne_of {H:Hp}{a b:Addr}{o u:HO}(h:H a=some o) (h':H b=some u) (d:o≠u):a≠b:=by
  intro e;subst e;rw [h] at h';exact d (Option.some.inj h')
theorem ne_of_none {H:Hp}{a b:Addr}{o:HO}(h:H a=some o) (h':H b=none):a≠b:=by
  intro e;subst e;rw [h] at h';cases h'
section
variable (P:Program) (w:World)
noncomputable def ObjOk (H:Hp) (h:Heap) (a:Addr):HO→Prop
  | .lst xs=>xs.length≤sizeLine∧∃(its:List Value) (n:Nat),Vals xs its∧h.get? a=some { cls:=.type "list",data:=.seq its.toArray n }
  | .tup xs=>xs.length≤sizeLine∧∃its:List Value,Vals xs its∧IsTup h a its.toArray
  | .dK kvs=>kvs.length≤sizeLine∧(a == sysModules)=false∧∃vs,KV kvs vs∧h.DictOf (mixKind P w) a vs
  | .dT kvs=>kvs.length≤sizeLine∧(a == sysModules)=false∧∃xs:List (List Key×Addr×Value),
      Paired (λ(p:List Key×V) (q:List Key×Addr×Value)=>p.1=q.1∧H q.2.1=some (.tup (p.1.map kV))∧RelV p.2 q.2.2) kvs xs ∧
      ∃o es ep,h.get? a=some o∧o.ExactDict∧o.data=.dict es ep∧es.toList=xs.map (entryOfKey (tupleKind (mixKind P w)))∧(xs.map (·.1)).Nodup
  | .set S n=>h.SetOf (intKind P w) a S n
  | .ins C dx fs=>H dx=some (.own a)∧fs.length≤1000∧dx≠a∧h.get? a=some (PySem.W.instObj C dx) ∧
      ∃mA,h.Ns1 dx mA∧(∀f,RelO (fs.lookup f) (mA f))∧PySem.Within mA (fs.map (·.1))
  | .own _=>∃o,h.get? a=some o
  | .xd fs=>∃mA,h.Ns1 a mA∧∀f,RelO (fs.lookup f) (mA f)
  | .rng lo hi=>∃t u v,h.get? a=some { cls:=.type "range",data:=.fields #[.int lo t,.int hi u,.int 1 v] }
  | .frz o u=>h.get? a=some o∧ObjOk H h a u
  | .tbl ps=>h.get? a=some { cls:=.none,data:=.fields ps }
  | .met f x=>h.get? a=some (PySem.W.methodObj (.ref f) (.ref x))
  | .tab pos q=>∃ps:Array Value,h.get? a=some { cls:=.none,data:=.fields ps }∧PySem.TriplesOk ps.toList∧(PySem.codeAmong pos ps.toList=none ∨
      ∃(c:Addr) (oc:Obj) (u:HO) (vs:Array Value) (t:Tok),PySem.codeAmong pos ps.toList=some (.ref c)∧H c=some (.frz oc u)∧oc.data=.fields vs∧vs[1]?=some (.str q t))
  | .ext φ=>φ h∧(∃o,h.get? a=some o)∧∀h1 h2:Heap,φ h1→(∀o,h1.get? a=some o→h2.get? a=some o)→φ h2
noncomputable def HOk (H:Hp) (h:Heap):Prop:=∀a o,H a=some o→ObjOk P w H h a o
end
section
variable {P:Program}{w:World}{H H':Hp}{h h':Heap}{a:Addr}{o:HO}
theorem ObjOk.lt (x:ObjOk P w H h a o):a<h.objs.size:=by
  cases o with
  | lst xs=>obtain⟨_,_,_,_,e⟩:=x;exact Heap.lt_size e
  | tup xs=>obtain⟨_,_,_,p⟩:=x;exact p.lt
  | dK kvs=>obtain⟨_,_,_,_,o,_,_,e,_⟩:=x;exact Heap.lt_size e
  | dT kvs=>obtain⟨_,_,_,_,o,_,_,e,_⟩:=x;exact Heap.lt_size e
  | set S n=>obtain⟨o,_,_,_,e,_⟩:=x;exact Heap.lt_size e
  | ins C dx fs=>obtain⟨_,_,_,e,_⟩:=x;exact Heap.lt_size e
  | own y=>obtain⟨_,e⟩:=x;exact Heap.lt_size e
  | xd fs=>obtain⟨_,⟨_,_,_,e,_⟩,_⟩:=x;exact Heap.lt_size e
  | rng lo hi=>obtain⟨_,_,_,e⟩:=x;exact Heap.lt_size e
  | frz ob u=>obtain⟨e,_⟩:=x;exact Heap.lt_size e
  | tbl ps=>exact Heap.lt_size (show h.get? a=some _ from x)
  | met f y=>exact Heap.lt_size (show h.get? a=some _ from x)
  | tab pos q=>obtain⟨_,e,_⟩:=x;exact Heap.lt_size e
  | ext φ=>obtain⟨_,⟨_,e⟩,_⟩:=x;exact Heap.lt_size e
theorem Paired.mapP {α β:Type}{F G:α→β→Prop}:∀{l₁:List α}{l₂:List β},Paired F l₁ l₂→(∀a b,F a b→G a b)→Paired G l₁ l₂
  | _,_,.nil,_=>.nil
  | _,_,.cons r t,f=>.cons (f _ _ r) (Paired.mapP t f)
theorem ObjOk.stay (x:ObjOk P w H h a o) (k:∀b u,(b=a∨H b=some (.own a))→h.get? b=some u→h'.get? b=some u)
    (ho:∀b,H b=some (.own a)→H' b=some (.own a)) (ht:∀b xs,H b=some (.tup xs)→H' b=some (.tup xs)) (hf:∀b ob u,H b=some (.frz ob u)→H' b=some (.frz ob u)):ObjOk P w H' h' a o:=by
  induction o with
  | lst xs=>obtain⟨z,its,n,r,e⟩:=x;exact⟨z,its,n,r,k _ _ (.inl rfl) e⟩
  | tup xs=>obtain⟨z,its,r,ob,e,c⟩:=x;exact⟨z,its,r,ob,k _ _ (.inl rfl) e,c⟩
  | dK kvs=>obtain⟨z,y,vs,r,ob,es,ep,e,c⟩:=x;exact⟨z,y,vs,r,ob,es,ep,k _ _ (.inl rfl) e,c⟩
  | dT kvs =>
    obtain⟨z,y,xs,r,ob,es,ep,e,c⟩:=x
    exact⟨z,y,xs,Paired.mapP r λp q z=>⟨z.1,ht _ _ z.2.1,z.2.2⟩,ob,es,ep,k _ _ (.inl rfl) e,c⟩
  | set S n=>obtain⟨ob,es,ep,t,e,c⟩:=x;exact⟨ob,es,ep,t,k _ _ (.inl rfl) e,c⟩
  | ins C dx fs =>
    obtain⟨d,z,ne,e,mA,⟨od,es,ep,e2,c⟩,r⟩:=x
    exact⟨ho _ d,z,ne,k _ _ (.inl rfl) e,mA,⟨od,es,ep,k _ _ (.inr d) e2,c⟩,r⟩
  | own y=>obtain⟨ob,e⟩:=x;exact⟨ob,k _ _ (.inl rfl) e⟩
  | xd fs=>obtain⟨mA,⟨od,es,ep,e,c⟩,r⟩:=x;exact⟨mA,⟨od,es,ep,k _ _ (.inl rfl) e,c⟩,r⟩
  | rng lo hi=>obtain⟨t,u,v,e⟩:=x;exact⟨t,u,v,k _ _ (.inl rfl) e⟩
  | frz ob u ih=>obtain⟨e,q⟩:=x;exact⟨k _ _ (.inl rfl) e,ih q⟩
  | tbl ps =>
    have e:h.get? a=some { cls:=.none,data:=.fields ps }:=x
    show h'.get? a=some { cls:=.none,data:=.fields ps }
    exact k a _ (.inl rfl) e
  | met f y =>
    have e:h.get? a=some (PySem.W.methodObj (.ref f) (.ref y)):=x
    show h'.get? a=some (PySem.W.methodObj (.ref f) (.ref y))
    exact k a _ (.inl rfl) e
  | tab pos q =>
    obtain⟨ps,e,ok,r⟩:=x
    refine⟨ps,k _ _ (.inl rfl) e,ok,r.imp id ?_⟩
    rintro⟨c,oc,u,vs,t,e1,e2,e4,e5⟩
    exact⟨c,oc,u,vs,t,e1,hf _ _ _ e2,e4,e5⟩
  | ext φ=>obtain⟨p,⟨o,e⟩,st⟩:=x;exact⟨st _ _ p λo q=>k _ _ (.inl rfl) q,⟨o,k _ _ (.inl rfl) e⟩,st⟩
theorem HOk.lt (x:HOk P w H h) (e:H a=some o):a<h.objs.size:=(x a o e).lt
theorem HOk.fresh (x:HOk P w H h) (e:h.objs.size≤a):H a=none:=by
  cases q:H a with
  | none=>rfl
  | some u=>exact absurd (Nat.lt_of_lt_of_le (x.lt q) e) (Nat.lt_irrefl _)
theorem HOk.kept (x:HOk P w H h) (k:∀b u,h.get? b=some u→h'.get? b=some u):HOk P w H h':=λa o e =>
  (x a o e).stay (λb u _ q=>k b u q) (λ_ q=>q) (λ_ _ q=>q) λ_ _ _ q=>q
theorem HOk.laid (x:HOk P w H h) (k:∀b u,h.get? b=some u→h'.get? b=some u) (hp:h.objs.size≤a) (new:ObjOk P w (upd H a o) h' a o):HOk P w (upd H a o) h':=λb u e=>by
  have hn:=x.fresh hp
  by_cases hb:b=a
  · subst hb;rw [upd_same] at e;cases e;exact new
  · rw [upd_ne hb] at e
    exact (x b u e).stay (λc v _ q=>k c v q) (λc q=>by rw [upd_ne (ne_of_none q hn)];exact q) (λc xs q=>by rw [upd_ne (ne_of_none q hn)];exact q) λc ob u q=>by rw [upd_ne (ne_of_none q hn)];exact q
end
noncomputable def Rd (H:Hp) (a:Addr) (u:HO):Prop:=H a=some u∨∃o,H a=some (.frz o u)
theorem Rd.of {H:Hp}{a:Addr}{u:HO}(h:H a=some u):Rd H a u:=.inl h
theorem Rd.ok {P:Program}{w:World}{H:Hp}{h:Heap}{a:Addr}{u:HO}(r:Rd H a u) (x:HOk P w H h):ObjOk P w H h a u:=by
  rcases r with r|⟨o,r⟩
  · exact x a u r
  · obtain⟨_,q⟩:=x a _ r
    exact q
noncomputable def Mut:Option HO→Prop
  | some (.lst _)=>True
  | some (.dK _)=>True
  | some (.dT _)=>True
  | some (.set _ _)=>True
  | some (.ins _ _ _)=>True
  | some (.ext _)=>True
  | _=>False
section
variable {P:Program}{w:World}{H:Hp}{h h':Heap}{x e:Addr}{o':HO}
theorem HOk.write (ok:HOk P w H h) (mu:Mut (H x)) (he:e=x∨H e=some (.own x)) (k:∀b u,b≠e→h.get? b=some u→h'.get? b=some u) (heo:∃u,h'.get? e=some u)
    (new:ObjOk P w (upd H x o') h' x o'):HOk P w (upd H x o') h':=λb u q=>by
  have nown:∀c y,H c=some (.own y)→c≠x:=λc y r z=>by subst z;rw [r] at mu;exact mu
  have ntup:∀c xs,H c=some (.tup xs)→c≠x:=λc xs r z=>by subst z;rw [r] at mu;exact mu
  by_cases hb:b=x
  · subst hb;rw [upd_same] at q;cases q;exact new
  · rw [upd_ne hb] at q
    by_cases hbe:b=e
    · have q':H b=some (.own x):=by
        rcases he with z|z
        · exact absurd (hbe.trans z) hb
        · rw [hbe];exact z
      rw [q] at q';cases q'
      obtain⟨v,hv⟩:=heo
      exact⟨v,by rw [hbe];exact hv⟩
    · refine (ok b u q).stay (λc v hc r=>k c v ?_ r) (λc r=>by rw [upd_ne (nown c b r)];exact r) (λc xs r=>by rw [upd_ne (ntup c xs r)];exact r) λc ob u r=>by rw [upd_ne (λz=>by subst z;rw [r] at mu;exact mu)];exact r
      rcases hc with rfl|hc
      · exact hbe
      · rintro rfl
        rcases he with z|z
        · exact nown c b hc z
        · rw [hc] at z;cases z;exact hb rfl
end
structure Un (fs ex:List Addr) (H H':Hp) (h h':Heap):Prop where
  keep:∀b o,h.get? b=some o→H b=none→b∉fs→b∉ex→h'.get? b=some o
  slot:∀b o,h.get? b=some o→H b=none→b∈fs→b∉ex→∃sl,h'.get? b=some { o with slots:=sl }
  free:∀b o,h.get? b=some o→H b=none→b∉ex→H' b=none
  there:∀b o,h.get? b=some o→b∉ex→∃o',h'.get? b=some o'
  tups:∀b xs,H b=some (.tup xs)→H' b=some (.tup xs)
  frzs:∀b o u,H b=some (.frz o u)→H' b=some (.frz o u)
  tbls:∀b ps,H b=some (.tbl ps)→∃more,H' b=some (.tbl (ps++more))
section
variable {fs fs' ex ex':List Addr}{H H1 H2:Hp}{h h1 h2 h':Heap}{a x e:Addr}{o:HO}
theorem Un.any (u:Un fs ex H H1 h h1) {b:Addr}{ob:Obj}(q:h.get? b=some ob) (n:H b=none) (hx:b∉ex):∃sl,h1.get? b=some { ob with slots:=sl }:=by
  by_cases hb:b∈fs
  · exact u.slot b ob q n hb hx
  · exact⟨ob.slots,u.keep b ob q n hb hx⟩
theorem Un.trans (a:Un fs ex H H1 h h1) (b:Un fs ex H1 H2 h1 h2):Un fs ex H H2 h h2 where
  keep:=λc ob q n hc hx=>b.keep c ob (a.keep c ob q n hc hx) (a.free c ob q n hx) hc hx
  slot:=λc ob q n hc hx=>by
    obtain⟨sl,e1⟩:=a.slot c ob q n hc hx
    obtain⟨sl',e2⟩:=b.slot c _ e1 (a.free c ob q n hx) hc hx
    exact⟨sl',e2⟩
  free:=λc ob q n hx=>by
    obtain⟨o',e1⟩:=a.there c ob q hx
    exact b.free c o' e1 (a.free c ob q n hx) hx
  there:=λc ob q hx=>by
    obtain⟨o',e1⟩:=a.there c ob q hx
    exact b.there c o' e1 hx
  tups:=λc xs q=>b.tups c xs (a.tups c xs q)
  frzs:=λc ob xs q=>b.frzs c ob xs (a.frzs c ob xs q)
  tbls:=λc ps q=>by
    obtain⟨m1,e1⟩:=a.tbls c ps q
    obtain⟨m2,e2⟩:=b.tbls c _ e1
    exact⟨m1++m2,by rw [e2,Array.append_assoc]⟩
theorem Un.kept (k:∀b u,h.get? b=some u→h'.get? b=some u):Un fs ex H H h h':=
  ⟨λb ob q _ _ _=>k b ob q,λb ob q _ _ _=>⟨ob.slots,k b ob q⟩,λ_ _ _ n _=>n,λb ob q _=>⟨ob,k b ob q⟩,λ_ _ q=>q,λ_ _ _ q=>q,λ_ ps q=>⟨#[],by rw [q];simp⟩⟩
theorem Un.refl:Un fs ex H H h h:=Un.kept λ_ _ q=>q
theorem Un.laid (k:∀b u,h.get? b=some u→h'.get? b=some u) (hp:h.objs.size≤a) (hn:H a=none):Un fs ex H (upd H a o) h h' where
  keep:=λb u q _ _ _=>k b u q
  slot:=λb u q _ _ _=>⟨u.slots,k b u q⟩
  free:=λb u q n _=>by rw [upd_ne (Nat.ne_of_lt (Nat.lt_of_lt_of_le (Heap.lt_size q) hp))];exact n
  there:=λb u q _=>⟨u,k b u q⟩
  tups:=λb xs q=>by rw [upd_ne (ne_of_none q hn)];exact q
  frzs:=λb u xs q=>by rw [upd_ne (ne_of_none q hn)];exact q
  tbls:=λb ps q=>⟨#[],by rw [upd_ne (ne_of_none q hn),q];simp⟩
theorem Un.write (mu:Mut (H x)) (he:e=x∨H e=some (.own x)) (k:∀b u,b≠e→h.get? b=some u→h'.get? b=some u) (heo:∃u,h'.get? e=some u):Un fs ex H (upd H x o) h h':=by
  have hx:∀b,H b=none→b≠x:=λb n z=>by subst z;rw [n] at mu;exact mu
  have hb:∀b,H b=none→b≠e:=λb n z=>by
    subst z
    rcases he with r|r
    · exact hx b n r
    · rw [n] at r;cases r
  have hm:∀b u,H b=some u→¬Mut (some u)→b≠x:=λb u q nm z=>by subst z;rw [q] at mu;exact nm mu
  refine⟨λb u q n _ _=>k b u (hb b n) q,λb u q n _ _=>⟨u.slots,k b u (hb b n) q⟩,λb u q n _=>by rw [upd_ne (hx b n)];exact n,λb u q _=>?_,
    λb xs q=>by rw [upd_ne (hm b _ q λz=>z)];exact q,λb u xs q=>by rw [upd_ne (hm b _ q λz=>z)];exact q,λb ps q=>⟨#[],by rw [upd_ne (hm b _ q λz=>z),q];simp⟩⟩
  by_cases hbe:b=e
  · subst hbe;exact heo
  · exact⟨u,k b u hbe q⟩
theorem Un.mono (u:Un fs ex H H1 h h1) (hs:∀b∈fs,b∈fs') (hx:∀b∈ex,b∈ex'):Un fs' ex' H H1 h h1:=
  ⟨λb ob q n hb he=>u.keep b ob q n (λz=>hb (hs b z)) λz=>he (hx b z),λ_ _ q n _ he=>u.any q n λz=>he (hx _ z),λb ob q n he=>u.free b ob q n λz=>he (hx b z),λb ob q he=>u.there b ob q λz=>he (hx b z),u.tups,u.frzs,u.tbls⟩
end
noncomputable def trk (h:Heap) (H:Hp):List Addr:=(List.range h.objs.size).filter λa=>(H a).isSome
noncomputable def hidT (h:Heap) (H:Hp):Heap:=PySem.W.hideAll h (trk h H)
theorem hidT_size (h:Heap) (H:Hp):(hidT h H).objs.size=h.objs.size:=PySem.W.hideAll_size _ _
theorem hidT_get {h:Heap}{H:Hp}{b:Addr}{o:Obj}(e:h.get? b=some o) (n:H b=none):(hidT h H).get? b=some o:=
  PySem.W.hideAll_get _ e λhm=>by
    have q:(H b).isSome=true:=(List.mem_filter.mp hm).2
    rw [n] at q;simp at q
theorem of_hidT {h:Heap}{H:Hp}{b:Addr}{o:Obj}(e:(hidT h H).get? b=some o):h.get? b=some o∧H b=none:=by
  have e':h.get? b=some o:=PySem.W.of_hideAll (trk h H) e
  refine⟨e',?_⟩
  cases q:H b with
  | none=>rfl
  | some x =>
    have hm:b∈trk h H:=List.mem_filter.mpr ⟨List.mem_range.mpr (Heap.lt_size e'),by simp [q]⟩
    have z:(hidT h H).get? b=none:=PySem.W.hideAll_none (trk h H) hm
    rw [z] at e;cases e
noncomputable def allNews (g h:Heap) (L:Addr):List (Addr×Obj):=(List.range h.objs.size).filterMap λa=>if a=L∨(g.get? a).isSome=true then none else (h.get? a).map λo=>(a,o)
noncomputable def rest (g h:Heap) (L d:Addr):List (Addr×Obj):=(allNews g h L).filter λp=>decide (p.1≠d)
end L2
namespace L2
open PySem PySem.Spec PyProof.Rows
structure Mod (K:PySem.W.Frag) (mg:Str→Option Value) (base:Heap):Prop where
  kin:K.In base
  glob:base.Ns mainGlobals mg
  blt:∃mb,base.Ns builtinsNs mb∧∀x:Str,x≠"__name__"→mb x=bootBuiltins x
  nolimit:base.NoLimit
structure Cx where
  prog:Program
  w:World
  K:PySem.W.Frag
  mg:Str→Option Value
  base:Heap
  A:Around
  N:List Str
  s₀:Shared
  H₀:Hp
  env:Env
  outer:List Env
  stack:List Env
  ex:List Addr
  fn:Str→Bool
  calm:Bool
  pn:List (Addr×Obj)
  xe:Value→Shared→Prop
noncomputable def frs (l:List Env):List Addr:=l.filterMap (·.frame)
noncomputable abbrev Cx.fs (X:Cx):List Addr:=frs X.outer
noncomputable def Vis (sc:Scope) (x:Str):Prop:=sc.names.lookup x=some .local∨sc.names.lookup x=some .cell∨sc.names.lookup x=some .free
noncomputable def Loc (sc:Scope) (x:Str):Prop:=sc.names.lookup x=some .local∨sc.names.lookup x=some .cell
noncomputable def Look (env:Env) (h:Heap) (m:Str→Option Value) (x:Str) (u:Value):Prop:=
  (env.kindOf x=some .local∧m x=some u)∨((env.kindOf x=some .cell∨env.kindOf x=some .free)∧∃c,env.cells.lookup x=some c∧h.IsCell c (some u))
structure Cx.Ok (X:Cx):Prop where
  mod:Mod X.K X.mg X.base
  kind:X.env.scope.kind=.function
  glob:X.env.globals=mainGlobals
  blt:X.env.builtins=builtinsNs
  above:X.s₀.heap.objs.size≤X.env.locals
  inj:∀x y c,X.env.cells.lookup x=some c→X.env.cells.lookup y=some c→x=y
  has:∀x,(X.env.kindOf x=some .cell∨X.env.kindOf x=some .free)→∃c,X.env.cells.lookup x=some c
  cab:∀x c,X.fn x=true→X.env.cells.lookup x=some c→X.s₀.heap.objs.size≤c
  hd:X.calm=true→X.A.handled=none
  frames:X.A.frames=some X.stack
  stk:X.stack=X.outer∨(X.stack=X.env::X.outer∧X.env.frame=some X.env.locals)
  exf:∀b∈X.ex,b≠X.env.locals∧∀x c,X.env.cells.lookup x=some c→c≠b
  bs:∀b o,X.base.get? b=some o→X.s₀.heap.get? b=some o∧X.H₀ b=none
  bsz:X.base.objs.size≤X.s₀.heap.objs.size
  noex:∀b o,X.base.get? b=some o→b∉X.ex
  exfs:∀b∈X.ex,b∉X.fs
  funs:X.s₀.heap.FunFrames X.base X.outer
  frf:∀b∈X.fs,X.H₀ b=none
structure Inv (X:Cx) (pins:List (Addr×Obj)) (σ:List (Option V)) (H:Hp) (s:Shared):Prop where
  ok:X.Ok
  os:s.os=X.s₀.os
  bare:AllBare s.gens
  base:Un X.fs X.ex X.H₀ H X.s₀.heap s.heap
  loc:∃m,s.heap.Ns X.env.locals m∧∀(i:Nat) (x:Str) (v:V),X.N[i]?=some x→σ[i]?=some (some v)→Vis X.env.scope x→∃u,RelV v u∧Look X.env s.heap m x u
  cell:∀x c,X.env.cells.lookup x=some c→∃v,s.heap.IsCell c v
  free:H X.env.locals=none
  freeC:∀x c,X.env.cells.lookup x=some c→H c=none
  pin:∀p∈X.pn++pins,s.heap.get? p.1=some p.2∧H p.1=none∧p.1≠X.env.locals∧p.1∉X.fs∧∀v,p.2.data≠.cell v
  hok:HOk X.prog X.w H s.heap
  len:σ.length=X.N.length
section
variable {X:Cx}{pins:List (Addr×Obj)}{σ:List (Option V)}{H H':Hp}{s:Shared}{h':Heap}
theorem Cx.Ok.nofr (ok:X.Ok) {b:Addr}{o:Obj}(e:X.base.get? b=some o):b∉X.fs:=λhb=>by
  have:=(ok.funs.mem hb).1
  rw [e] at this;cases this
theorem Inv.bs (I:Inv X pins σ H s):∀b o,X.base.get? b=some o→s.heap.get? b=some o∧H b=none:=λb o e =>
  ⟨I.base.keep b o (I.ok.bs b o e).1 (I.ok.bs b o e).2 (I.ok.nofr e) (I.ok.noex b o e),I.base.free b o (I.ok.bs b o e).1 (I.ok.bs b o e).2 (I.ok.noex b o e)⟩
theorem Inv.bk (I:Inv X pins σ H s):∀b o,X.base.get? b=some o→s.heap.get? b=some o:=λb o e=>(I.bs b o e).1
theorem Inv.mod (I:Inv X pins σ H s):Mod X.K X.mg X.base:=I.ok.mod
theorem Inv.kIn (I:Inv X pins σ H s):X.K.In s.heap:=I.ok.mod.kin.keeps I.bk
theorem Inv.nolimit (I:Inv X pins σ H s):s.heap.NoLimit:=I.ok.mod.nolimit.keeps I.bk
theorem Inv.fr (I:Inv X pins σ H s):∃m,Fr X.base X.env.locals s.heap m:=
  let ⟨m,hn,_⟩:=I.loc
  ⟨m,hn,I.bk,Nat.le_trans I.ok.bsz I.ok.above⟩
theorem Inv.lt (I:Inv X pins σ H s):X.env.locals<s.heap.objs.size:=let ⟨_,hn,_⟩:=I.loc;hn.lt
theorem Inv.sz (I:Inv X pins σ H s):X.s₀.heap.objs.size≤s.heap.objs.size:=Nat.le_trans I.ok.above (Nat.le_of_lt I.lt)
theorem Inv.nofs (I:Inv X pins σ H s) {a:Addr}(h:s.heap.objs.size≤a):a∉X.fs:=λhb=>by
  obtain⟨_,o,ho,_⟩:=I.ok.funs.mem hb
  exact absurd (Nat.lt_of_lt_of_le (Heap.lt_size ho) (Nat.le_trans I.sz h)) (Nat.lt_irrefl _)
theorem Inv.cne (I:Inv X pins σ H s):∀x c,X.env.cells.lookup x=some c→c≠X.env.locals:=λx c e z=>by
  obtain⟨v,o,ho,hd⟩:=I.cell x c e
  obtain⟨m,⟨o',es,ep,ho',hd',_⟩,_⟩:=I.loc
  rw [z,ho'] at ho;cases ho;rw [hd'] at hd;cases hd
theorem Inv.funs (I:Inv X pins σ H s):s.heap.FunFrames X.base X.outer:=by
  have all:∀(l:List Env),(∀b∈frs l,b∈X.fs)→X.s₀.heap.FunFrames X.base l→s.heap.FunFrames X.base l:=by
    intro l
    induction l with
    | nil=>intro _ _;trivial
    | cons env r ih =>
      intro hs hl
      obtain⟨hk,⟨L,o,hf,hn,ho,hd⟩,hr⟩:=hl
      have hL:L∈X.fs:=hs L (by unfold frs;rw [List.filterMap_cons,hf];exact List.mem_cons_self)
      obtain⟨sl,e⟩:=I.base.slot L o ho (I.ok.frf L hL) hL λz=>I.ok.exfs L z hL
      exact⟨hk,⟨L,_,hf,hn,e,hd⟩,ih (λb hb=>hs b (by unfold frs;rw [List.filterMap_cons,hf];exact List.mem_cons_of_mem _ hb)) hr⟩
  exact all X.outer (λ_ hb=>hb) I.ok.funs
theorem Inv.stack (I:Inv X pins σ H s):s.heap.FunFrames X.base X.stack:=by
  rcases I.ok.stk with e|⟨e,hf⟩
  · rw [e];exact I.funs
  · rw [e]
    obtain⟨m,hn,_⟩:=I.loc
    refine .cons (by rw [I.ok.kind];decide) hf hn ?_ I.funs
    exact Heap.get?_none_of_le (Nat.le_trans I.ok.bsz I.ok.above)
theorem Inv.stkSub (I:Inv X pins σ H s):∀b∈frs X.stack,b∈X.env.locals::X.fs:=λb hb=>by
  rcases I.ok.stk with e|⟨e,hf⟩
  · rw [e] at hb;exact List.mem_cons_of_mem _ hb
  · rw [e] at hb
    unfold frs at hb
    rw [List.filterMap_cons,hf] at hb
    exact hb
theorem Inv.stkFree (I:Inv X pins σ H s):∀b∈frs X.stack,H b=none:=λb hb=>by
  rcases List.mem_cons.mp (I.stkSub b hb) with e|hb
  · rw [e];exact I.free
  · obtain⟨_,o,ho,_⟩:=I.ok.funs.mem hb
    exact I.base.free b o ho (I.ok.frf b hb) λz=>I.ok.exfs b z hb
theorem Inv.step {g':Array GenState}{t':Nat}{d':Drawn}{ch:List Addr}(I:Inv X pins σ H s)
    (hch:∀b∈ch,(b∈X.ex∨X.s₀.heap.objs.size≤b)∧b≠X.env.locals∧(∀x c,X.env.cells.lookup x=some c→c≠b)∧∀p∈X.pn++pins,p.1≠b)
    (keep:∀b o,b≠X.env.locals→b∉X.fs→b∉ch→s.heap.get? b=some o→H b=none→h'.get? b=some o)
    (slot:∀b o,b≠X.env.locals→b∈X.fs→b∉ch→s.heap.get? b=some o→H b=none→∃sl,h'.get? b=some { o with slots:=sl }) (free:∀b o,b∉ch→s.heap.get? b=some o→H b=none→H' b=none)
    (there:∀b o,b∉ch→s.heap.get? b=some o→∃o',h'.get? b=some o')
    (tups:∀b xs,H b=some (.tup xs)→H' b=some (.tup xs)) (frzs:∀b o u,H b=some (.frz o u)→H' b=some (.frz o u)) (tbls:∀b ps,H b=some (.tbl ps)→∃more,H' b=some (.tbl (ps++more)))
    (ns:∀m,s.heap.Ns X.env.locals m→h'.Ns X.env.locals m) (hok:HOk X.prog X.w H' h') (hg:AllBare g') :
    Inv X pins σ H' { s with heap:=h',gens:=g',drawn:=d',toks:=t' }:=by
  have neL:∀b o,X.s₀.heap.get? b=some o→b≠X.env.locals:=λb o e=>Nat.ne_of_lt (Nat.lt_of_lt_of_le (Heap.lt_size e) I.ok.above)
  have neC:∀b o,X.s₀.heap.get? b=some o→b∉X.ex→b∉ch:=λb o e hx hb=>by
    rcases (hch b hb).1 with z|z
    · exact hx z
    · exact absurd (Nat.lt_of_lt_of_le (Heap.lt_size e) z) (Nat.lt_irrefl _)
  have cellK:∀x c,X.env.cells.lookup x=some c→∀v,s.heap.IsCell c v→h'.IsCell c v:=λx c e v ⟨o,ho,hd⟩=>by
    have nch:c∉ch:=λz=>(hch c z).2.2.1 x c e rfl
    by_cases hc:c∈X.fs
    · obtain⟨sl,q⟩:=slot c o (I.cne x c e) hc nch ho (I.freeC x c e)
      exact⟨_,q,hd⟩
    · exact⟨o,keep c o (I.cne x c e) hc nch ho (I.freeC x c e),hd⟩
  refine⟨I.ok,I.os,hg,⟨λb o e n hb hx=>?_,λb o e n hb hx=>?_,λb o e n hx=>?_,λb o e hx=>?_,λb xs e=>tups b xs (I.base.tups b xs e),λb o xs e=>frzs b o xs (I.base.frzs b o xs e),λb ps e=>?_⟩,?_,λx c e=>?_,?_,λx c e=>?_,λp hp=>?_,hok,I.len⟩
  · exact keep b o (neL b o e) hb (neC b o e hx) (I.base.keep b o e n hb hx) (I.base.free b o e n hx)
  · obtain⟨sl,e1⟩:=I.base.slot b o e n hb hx
    obtain⟨sl',e2⟩:=slot b _ (neL b o e) hb (neC b o e hx) e1 (I.base.free b o e n hx)
    exact⟨sl',e2⟩
  · obtain⟨o',e1⟩:=I.base.there b o e hx
    exact free b o' (neC b o e hx) e1 (I.base.free b o e n hx)
  · obtain⟨o',e1⟩:=I.base.there b o e hx
    exact there b o' (neC b o e hx) e1
  · obtain⟨m1,e1⟩:=I.base.tbls b ps e
    obtain⟨m2,e2⟩:=tbls b _ e1
    exact⟨m1++m2,by rw [e2,Array.append_assoc]⟩
  · obtain⟨m,hn,hl⟩:=I.loc
    refine⟨m,ns m hn,λi x v e1 e2 e3=>?_⟩
    obtain⟨u,r,l⟩:=hl i x v e1 e2 e3
    refine⟨u,r,?_⟩
    rcases l with l|⟨k,c,e,z⟩
    · exact .inl l
    · exact .inr ⟨k,c,e,cellK x c e _ z⟩
  · obtain⟨v,z⟩:=I.cell x c e
    exact⟨v,cellK x c e v z⟩
  · obtain⟨m,⟨o,_,_,ho,_⟩,_⟩:=I.loc
    exact free _ o (λz=>(hch _ z).2.1 rfl) ho I.free
  · obtain⟨v,o,ho,hd⟩:=I.cell x c e
    exact free c o (λz=>(hch c z).2.2.1 x c e rfl) ho (I.freeC x c e)
  · obtain⟨e,n,ne,nf,d⟩:=I.pin p hp
    have nch:p.1∉ch:=λz=>(hch p.1 z).2.2.2 p hp rfl
    exact⟨keep p.1 p.2 ne nf nch e n,free p.1 p.2 nch e n,ne,nf,d⟩
theorem Inv.un {t':Nat}(I:Inv X pins σ H s) (u:Un X.fs [] H H' s.heap h') (hok:HOk X.prog X.w H' h'):Inv X pins σ H' { s with heap:=h',toks:=t' }:=by
  obtain⟨m,⟨o,es,ep,ho,r⟩,_⟩:=id I.loc
  obtain⟨sl,hL⟩:=u.any ho I.free (by simp)
  exact I.step (g':=s.gens) (d':=s.drawn) (ch:=[]) (λ_ z=>nomatch z) (λb o _ hb _ e n=>u.keep b o e n hb (by simp)) (λb o _ hb _ e n=>u.slot b o e n hb (by simp)) (λb o _ e n=>u.free b o e n (by simp)) (λb o _ e=>u.there b o e (by simp)) u.tups u.frzs u.tbls (λm' hm=>by
    obtain⟨o',es',ep',ho',r'⟩:=hm
    rw [ho] at ho';cases ho'
    exact⟨_,es',ep',hL,r'⟩) hok I.bare
theorem Inv.call {g':Array GenState}{t':Nat}{d':Drawn}{ch:List Addr}(I:Inv X pins σ H s) (u:Un (frs X.stack) ch H H' s.heap h') (hok:HOk X.prog X.w H' h') (hg:AllBare g')
    (hch:∀b∈ch,(b∈X.ex∨X.s₀.heap.objs.size≤b)∧b≠X.env.locals∧(∀x c,X.env.cells.lookup x=some c→c≠b)∧∀p∈X.pn++pins,p.1≠b) :
    Inv X pins σ H' { s with heap:=h',gens:=g',drawn:=d',toks:=t' }:=by
  obtain⟨m,⟨o,es,ep,ho,r⟩,_⟩:=id I.loc
  obtain⟨sl,hL⟩:=u.any ho I.free λz=>(hch _ z).2.1 rfl
  exact I.step (ch:=ch) hch (λb o hL hb hc e n=>u.keep b o e n (λz=>(List.mem_cons.mp (I.stkSub b z)).elim hL hb) hc) (λb o _ _ hc e n=>u.any e n hc) (λb o hc e n=>u.free b o e n hc) (λb o hc e=>u.there b o e hc) u.tups u.frzs u.tbls (λm' hm=>by
    obtain⟨o',es',ep',ho',r'⟩:=hm
    rw [ho] at ho';cases ho'
    exact⟨_,es',ep',hL,r'⟩) hok hg
theorem Inv.turned {t':Nat}{it:Addr}(I:Inv X pins σ H s) (k:∀b o,b≠it→s.heap.get? b=some o→h'.get? b=some o) (hn:H it=none) (hL:it≠X.env.locals)
    (h1:it∈X.ex∨X.s₀.heap.objs.size≤it) (h2:∀x c,X.env.cells.lookup x=some c→c≠it) (h3:∀p∈X.pn++pins,p.1≠it):Inv X pins σ H { s with heap:=h',toks:=t' }:=by
  have nit:∀b u,H b=some u→b≠it:=λb u e z=>by rw [z,hn] at e;cases e
  refine I.step (g':=s.gens) (d':=s.drawn) (ch:=[it]) (λb hb=>?_) (λb o _ _ hc e _=>k b o (λz=>hc (by simp [z])) e) (λb o _ _ hc e _=>⟨o.slots,k b o (λz=>hc (by simp [z])) e⟩) (λ_ _ _ _ n=>n)
    (λb o hc e=>⟨o,k b o (λz=>hc (by simp [z])) e⟩) (λ_ _ e=>e) (λ_ _ _ e=>e) (λb ps e=>⟨#[],by rw [e];simp⟩) (λm hm=>?_) (λb u e=>?_) I.bare
  · have e:b=it:=by simpa using hb
    subst e
    exact⟨h1,hL,h2,h3⟩
  · obtain⟨o,es,ep,ho,r⟩:=hm
    exact⟨o,es,ep,k _ o (Ne.symm hL) ho,r⟩
  · refine (I.hok b u e).stay (λc v hc q=>k c v ?_ q) (λ_ q=>q) (λ_ _ q=>q) λ_ _ _ q=>q
    rcases hc with z|z
    · rw [z];exact nit b u e
    · exact nit c _ z
theorem Inv.tok (I:Inv X pins σ H s) (t:Nat):Inv X pins σ H { s with toks:=t }:=I.un (h':=s.heap) (t':=t) Un.refl I.hok
theorem Inv.kept {t':Nat}(I:Inv X pins σ H s) (k:∀b u,s.heap.get? b=some u→h'.get? b=some u):Inv X pins σ H { s with heap:=h',toks:=t' }:=I.un (Un.kept k) (I.hok.kept k)
theorem Inv.laid {a:Addr}{o:HO}{t':Nat}(I:Inv X pins σ H s) (k:∀b u,s.heap.get? b=some u→h'.get? b=some u) (hp:s.heap.objs.size≤a) (new:ObjOk X.prog X.w (upd H a o) h' a o) :
    Inv X pins σ (upd H a o) { s with heap:=h',toks:=t' }:=I.un (Un.laid k hp (I.hok.fresh hp)) (I.hok.laid k hp new)
theorem Inv.write {x e:Addr}{o:HO}{t':Nat}(I:Inv X pins σ H s) (mu:Mut (H x)) (he:e=x∨H e=some (.own x)) (k:∀b u,b≠e→s.heap.get? b=some u→h'.get? b=some u) (heo:∃u,h'.get? e=some u)
    (new:ObjOk X.prog X.w (upd H x o) h' x o):Inv X pins σ (upd H x o) { s with heap:=h',toks:=t' }:=I.un (Un.write mu he k heo) (I.hok.write mu he k heo new)
theorem Inv.pins_of {pins':List (Addr×Obj)}(I:Inv X pins σ H s) (h:∀p∈pins',s.heap.get? p.1=some p.2∧H p.1=none∧p.1≠X.env.locals∧p.1∉X.fs∧∀v,p.2.data≠.cell v):Inv X pins' σ H s:=
  ⟨I.ok,I.os,I.bare,I.base,I.loc,I.cell,I.free,I.freeC,λp hp=>(List.mem_append.mp hp).elim (λz=>I.pin p (List.mem_append_left _ z)) (h p),I.hok,I.len⟩
theorem nodup_ix {N:List Str}(hN:N.Nodup) {i j:Nat}{x:Str}(a:N[i]?=some x) (b:N[j]?=some x):i=j:=by
  obtain⟨h1,e1⟩:=List.getElem?_eq_some_iff.mp a
  obtain⟨h2,e2⟩:=List.getElem?_eq_some_iff.mp b
  exact (List.getElem_inj hN).mp (e1.trans e2.symm)
theorem store_ok2 {M:Model}{A:Around}{E:Value→Shared→Prop}{i:Nat}{x:Str}{v:V}{u:Value}{Q:Unit→Shared→Prop}(I:Inv X pins σ H s) (hN:X.N.Nodup) (hi:X.N[i]?=some x) (hx:Loc X.env.scope x) (r:RelV v u)
    (h:∀s',Inv X pins (σ.set i (some v)) H s'→(∃a,Heap.SameBut a s.heap s'.heap∧(a=X.env.locals∨X.env.cells.lookup x=some a))→Q () s') (hf:X.fn x=true∨X.env.scope.names.lookup x=some .local:=by first|exact .inl rfl|exact .inr rfl|assumption):wpAny M A (storeName X.env x u) Q E s:=by
  obtain⟨m,hn,hl⟩:=id I.loc
  have hcls:(X.env.scope.kind == .class||(X.env.scope.kind == .module&&X.env.locals != X.env.globals))=false:=by rw [I.ok.kind];rfl
  have hiσ:i<σ.length:=by rw [I.len];exact (List.getElem?_eq_some_iff.mp hi).1
  have cne:=I.cne
  have tracked:∀{a:Addr} {h':Heap},(∃o,s.heap.get? a=some o∧H a=none)→Heap.SameBut a s.heap h'→HOk X.prog X.w H h':=λ{a h'} ha hs b ob e=>by
    obtain⟨_,_,hfree⟩:=ha
    refine (I.hok b ob e).stay (λc w' hc q=>(hs.2 c ?_).trans q) (λ_ q=>q) (λ_ _ q=>q) λ_ _ _ q=>q
    rintro rfl
    rcases hc with rfl|hc
    · rw [hfree] at e;cases e
    · rw [hfree] at hc;cases hc
  rcases hx with hk|hk
  · refine wpAny_storeName_local hk hn (λh' hn' hs=>?_) hcls
    obtain⟨oL,_,_,hoL,_⟩:=id hn
    refine h _ ⟨I.ok,I.os,I.bare,⟨λb o e n hb hx=>?_,λb o e n hb hx=>?_,I.base.free,λb o e hx=>?_,I.base.tups,I.base.frzs,I.base.tbls⟩,⟨_,hn',λj y v' e1 e2 e3=>?_⟩,λy c e=>?_,I.free,I.freeC,λp hp=>?_,tracked ⟨oL,hoL,I.free⟩ hs,by simpa using I.len⟩ ⟨_,hs,.inl rfl⟩
    · exact (hs.2 b (Nat.ne_of_lt (Nat.lt_of_lt_of_le (Heap.lt_size e) I.ok.above))).trans (I.base.keep b o e n hb hx)
    · obtain⟨sl,e1⟩:=I.base.slot b o e n hb hx
      exact⟨sl,(hs.2 b (Nat.ne_of_lt (Nat.lt_of_lt_of_le (Heap.lt_size e) I.ok.above))).trans e1⟩
    · obtain⟨o',e1⟩:=I.base.there b o e hx
      exact⟨o',(hs.2 b (Nat.ne_of_lt (Nat.lt_of_lt_of_le (Heap.lt_size e) I.ok.above))).trans e1⟩
    · by_cases hj:j=i
      · subst hj
        rw [hi] at e1;cases e1
        rw [List.getElem?_set_self hiσ] at e2
        cases e2
        exact⟨u,r,.inl ⟨hk,by simp⟩⟩
      · rw [List.getElem?_set_ne (Ne.symm hj)] at e2
        obtain⟨u',r',q⟩:=hl j y v' e1 e2 e3
        refine⟨u',r',?_⟩
        rcases q with ⟨k,e⟩|⟨k,c,e,z⟩
        · refine .inl ⟨k,?_⟩
          have:y≠x:=λe=>hj (nodup_ix hN e1 (e▸hi))
          simp [this,e]
        · exact .inr ⟨k,c,e,z.sameBut hs (cne y c e)⟩
    · obtain⟨w',z⟩:=I.cell y c e
      exact⟨w',z.sameBut hs (cne y c e)⟩
    · obtain⟨e,n,ne,nf,d⟩:=I.pin p hp
      exact⟨(hs.2 p.1 ne).trans e,n,ne,nf,d⟩
  · have hfn:X.fn x=true:=by
      rcases hf with z|z
      · exact z
      · rw [z] at hk;cases hk
    obtain⟨c,hc⟩:=I.ok.has x (.inl hk)
    obtain⟨w',z⟩:=I.cell x c hc
    refine wpAny_storeName_cell I.ok.kind hk hc z (λh' hc' hs=>?_)
    obtain⟨oc,hoc,hocd⟩:=id z
    refine h { s with heap:=h' } ⟨I.ok,I.os,I.bare,⟨λb o e n hb hx=>?_,λb o e n hb hx=>?_,I.base.free,λb o e hx=>?_,I.base.tups,I.base.frzs,I.base.tbls⟩,⟨m,hn.sameBut hs (Ne.symm (cne x c hc)),λj y v' e1 e2 e3=>?_⟩,λy c' e=>?_,I.free,I.freeC,λp hp=>?_,tracked ⟨oc,hoc,I.freeC x c hc⟩ hs,by simpa using I.len⟩ ⟨c,hs,.inr hc⟩
    · exact (hs.2 b (Nat.ne_of_lt (Nat.lt_of_lt_of_le (Heap.lt_size e) (I.ok.cab x c hfn hc)))).trans (I.base.keep b o e n hb hx)
    · obtain⟨sl,e1⟩:=I.base.slot b o e n hb hx
      exact⟨sl,(hs.2 b (Nat.ne_of_lt (Nat.lt_of_lt_of_le (Heap.lt_size e) (I.ok.cab x c hfn hc)))).trans e1⟩
    · obtain⟨o',e1⟩:=I.base.there b o e hx
      exact⟨o',(hs.2 b (Nat.ne_of_lt (Nat.lt_of_lt_of_le (Heap.lt_size e) (I.ok.cab x c hfn hc)))).trans e1⟩
    · by_cases hj:j=i
      · subst hj
        rw [hi] at e1;cases e1
        rw [List.getElem?_set_self hiσ] at e2
        cases e2
        exact⟨u,r,.inr ⟨.inl hk,c,hc,hc'⟩⟩
      · rw [List.getElem?_set_ne (Ne.symm hj)] at e2
        obtain⟨u',r',q⟩:=hl j y v' e1 e2 e3
        refine⟨u',r',?_⟩
        rcases q with q|⟨k,c',e,z'⟩
        · exact .inl q
        · refine .inr ⟨k,c',e,z'.sameBut hs ?_⟩
          rintro rfl
          exact hj (nodup_ix hN e1 (I.ok.inj _ _ _ e hc▸hi))
    · by_cases hcc:c'=c
      · subst hcc;exact⟨_,hc'⟩
      · obtain⟨w2,z2⟩:=I.cell y c' e
        exact⟨w2,z2.sameBut hs hcc⟩
    · obtain⟨e,n,ne,nf,d⟩:=I.pin p hp
      refine⟨(hs.2 p.1 ?_).trans e,n,ne,nf,d⟩
      intro q
      rw [q,hoc] at e
      have q':oc=p.2:=Option.some.inj e
      exact d w' (by rw [←q'];exact hocd)
theorem store_ok {M:Model}{A:Around}{E:Value→Shared→Prop}{i:Nat}{x:Str}{v:V}{u:Value}{Q:Unit→Shared→Prop}(I:Inv X pins σ H s) (hN:X.N.Nodup) (hi:X.N[i]?=some x) (hx:Loc X.env.scope x) (r:RelV v u)
    (h:∀s',Inv X pins (σ.set i (some v)) H s'→Q () s') (hf:X.fn x=true∨X.env.scope.names.lookup x=some .local:=by first|exact .inl rfl|exact .inr rfl|assumption):wpAny M A (storeName X.env x u) Q E s:=
  store_ok2 I hN hi hx r (λs' I' _=>h s' I') hf
theorem Inv.call' {s':Shared}{ch:List Addr}(I:Inv X pins σ H s) (ho:s'.os=s.os) (u:Un (frs X.stack) ch H H' s.heap s'.heap) (hok:HOk X.prog X.w H' s'.heap) (hg:AllBare s'.gens)
    (hch:∀b∈ch,(b∈X.ex∨X.s₀.heap.objs.size≤b)∧b≠X.env.locals∧(∀x c,X.env.cells.lookup x=some c→c≠b)∧∀p∈X.pn++pins,p.1≠b):Inv X pins σ H' s':=by
  obtain⟨h',g',d',t',o'⟩:=s'
  have e:o'=s.os:=ho
  subst e
  exact I.call (g':=g') (t':=t') (d':=d') u hok hg hch
end
noncomputable abbrev XK:=Value→Option Addr→Hp→Prop
noncomputable abbrev St:=List (Option V)
noncomputable abbrev VK:=V→Hp→Prop
noncomputable abbrev TE:=St→Hp→VK→Prop
noncomputable abbrev TT:=St→Hp→(Bool→Hp→Prop)→Prop
noncomputable abbrev TA:=St→Hp→(List V→Hp→Prop)→Prop
structure Ends where
  nx:St→Hp→Prop
  rt:VK
  bk:St→Hp→Prop:=λ_ _=>False
  ct:St→Hp→Prop:=λ_ _=>False
noncomputable abbrev TS:=Ends→St→Hp→Prop
noncomputable def EP (X:Cx) (pins:List (Addr×Obj)) (σ:St) (Q:VK) (u:Value) (s':Shared):Prop:=∃v H',Inv X pins σ H' s'∧RelV v u∧Q v H'
noncomputable def TP (X:Cx) (pins:List (Addr×Obj)) (σ:St) (Q:Bool→Hp→Prop) (b:Bool) (s':Shared):Prop:=∃H',Inv X pins σ H' s'∧Q b H'
noncomputable def AP (X:Cx) (pins:List (Addr×Obj)) (σ:St) (Q:List V→Hp→Prop) (us:List Value) (s':Shared):Prop:=∃vs H',Inv X pins σ H' s'∧Vals vs us∧Q vs H'
noncomputable def SP (X:Cx) (pins:List (Addr×Obj)) (D:Ends) (f:Flow) (s':Shared):Prop:=
  match f with
  | .next=>∃σ' H',Inv X pins σ' H' s'∧D.nx σ' H'
  | .brk=>∃σ' H',Inv X pins σ' H' s'∧D.bk σ' H'
  | .cont=>∃σ' H',Inv X pins σ' H' s'∧D.ct σ' H'
  | .ret u=>∃v σ' H',Inv X pins σ' H' s'∧RelV v u∧D.rt v H'
noncomputable def PE (X:Cx) (e:Expr) (t:TE):Prop:=
  ∀(pins:List (Addr×Obj)) (s:Shared) (σ:St) (H:Hp) (Q:VK),Inv X pins σ H s→t σ H Q→wpAny (model X.prog X.w) X.A (eval e X.env) (EP X pins σ Q) X.xe s
noncomputable def PT (X:Cx) (e:Expr) (t:TT):Prop:=
  ∀(pins:List (Addr×Obj)) (s:Shared) (σ:St) (H:Hp) (Q:Bool→Hp→Prop),Inv X pins σ H s→t σ H Q→wpAny (model X.prog X.w) X.A (isTrue e X.env (eval e X.env)) (TP X pins σ Q) X.xe s
noncomputable def PW (X:Cx) (e:Expr) (t:TT):Prop:=
  ∀(whole:Sem Value) (pins:List (Addr×Obj)) (s:Shared) (σ:St) (H:Hp) (Q:Bool→Hp→Prop),Inv X pins σ H s→t σ H Q→wpAny (model X.prog X.w) X.A (isTrue e X.env whole) (TP X pins σ Q) X.xe s
theorem PW.pt {X:Cx}{e:Expr}{t:TT}(h:PW X e t):PT X e t:=h _
noncomputable def PA (X:Cx) (es:List Expr) (t:TA):Prop:=
  ∀(pos:Pos) (pins:List (Addr×Obj)) (s:Shared) (σ:St) (H:Hp) (Q:List V→Hp→Prop),Inv X pins σ H s→t σ H Q→wpAny (model X.prog X.w) X.A (spliced (backTo pos (starEach es X.env))) (AP X pins σ Q) X.xe s
noncomputable def PS (X:Cx) (st:Stmt) (t:TS):Prop:=
  ∀(pins:List (Addr×Obj)) (s:Shared) (σ:St) (H:Hp) (D:Ends),Inv X pins σ H s→t D σ H→wpAny (model X.prog X.w) X.A (exec st X.env) (SP X pins D) X.xe s
noncomputable def PSs (X:Cx) (st:List Stmt) (t:TS):Prop:=
  ∀(pins:List (Addr×Obj)) (s:Shared) (σ:St) (H:Hp) (D:Ends),Inv X pins σ H s→t D σ H→wpAny (model X.prog X.w) X.A (execs st X.env) (SP X pins D) X.xe s
theorem thn {α:Type}{t:Sem α}{Q Q':α→Shared→Prop}{M:Model}{A:Around}{E:Value→Shared→Prop}{s:Shared}(h:wpAny M A t Q E s) (hQ:∀a s,Q a s→Q' a s):wpAny M A t Q' E s:=wpAny_mono h hQ λ_ _ x=>x
end L2
namespace L2
open PySem PySem.Spec PyProof.Rows
section
variable {X:Cx}
theorem bin {a b:Expr}{ta tb:TE}(ha:PE X a ta) (hb:PE X b tb) {pins:List (Addr×Obj)}{s:Shared}{σ:St}{H:Hp}{R:V→V→Hp→Prop}(I:Inv X pins σ H s) (h:ta σ H λx H1=>tb σ H1 λy H2=>R x y H2)
    {α:Type} {Q:α→Shared→Prop} {f:Value→Value→Sem α}
    (hf:∀v u s2 x y H2,Inv X pins σ H2 s2→RelV x v→RelV y u→R x y H2→wpAny (model X.prog X.w) X.A (f v u) Q X.xe s2) :
    wpAny (model X.prog X.w) X.A (eval a X.env) (λv s₁=>wpAny (model X.prog X.w) X.A (eval b X.env) (λu s₂=>wpAny (model X.prog X.w) X.A (f v u) Q X.xe s₂) X.xe s₁) X.xe s:=by
  refine thn (ha pins s σ H _ I h) λv s1 ⟨x,H1,I1,r1,q1⟩=>?_
  refine thn (hb pins s1 σ H1 _ I1 q1) λu s2 ⟨y,H2,I2,r2,q2⟩=>?_
  exact hf v u s2 x y H2 I2 r1 r2 q2
noncomputable def tVar (i:Nat):TE:=fun σ H Q=>∃v,σ[i]?=some (some v)∧Q v H
noncomputable def tC (v:V):TE:=λ_ H Q=>Q v H
theorem pe_var {i:Nat}{x:Str}{pos:Pos}(hN:X.N[i]?=some x) (hv:Vis X.env.scope x) (hd:(x == ("__debug__":Str))=false:=by decide) (hcd:(x == ("__classdict__":Str))=false:=by decide):PE X (.Name x pos) (tVar i):=by
  intro pins s σ H Q I h
  obtain⟨v,e,h⟩:=h
  obtain⟨m,hn,hl⟩:=I.loc
  obtain⟨u,r,l⟩:=hl i x v hN e hv
  have fin:EP X pins σ Q u s:=⟨v,H,I,r,h⟩
  rcases l with ⟨hk,hm⟩|⟨hk,c,hc,hcell⟩
  · exact wpAny_Name (wpAny_loadName_local I.ok.kind hk hn hm fin) hd
  · rcases hk with hk|hk
    · exact wpAny_Name (wpAny_loadName_cell I.ok.kind hk hc hcell fin) hd
    · exact wpAny_Name (wpAny_loadName_free I.ok.kind hk hc hcell fin hcd) hd
theorem pe_int {i j pos}:PE X (.Constant (.int i) j pos) (tC (.int i)):=λ_ _ _ H _ I h=>wpAny_Constant_int ⟨.int i,H,I.tok _,⟨_,rfl⟩,h⟩
theorem pe_bl {b j pos}:PE X (.Constant (.bool b) j pos) (tC (.bl b)):=λ_ _ _ H _ I h=>Constant_bool ⟨.bl b,H,I,rfl,h⟩
theorem pe_non {j pos}:PE X (.Constant .none j pos) (tC .non):=λ_ _ _ H _ I h=>Constant_none ⟨.non,H,I,rfl,h⟩
theorem pe_str {x j pos}:PE X (.Constant (.str x) j pos) (tC (.str x)):=λ_ _ _ H _ I h=>Calls.Constant_str ⟨.str x,H,I.tok _,⟨_,rfl⟩,h⟩
noncomputable def Gl (X:Cx) (x:Str):Prop:=X.env.kindOf x=some .globalImplicit
theorem ld_glob {E:Value→Shared→Prop}{pins:List (Addr×Obj)}{s:Shared}{σ:St}{H:Hp}{x:Str}{u:Value}{pos:Pos}{Q:Value→Shared→Prop}(I:Inv X pins σ H s) (hg:Gl X x) (hm:X.mg x=some u) (h:Q u s)
    (hd:(x == ("__debug__":Str))=false:=by decide):wpAny (model X.prog X.w) X.A (eval (.Name x pos) X.env) Q E s:=
  Calls.Name_function_global I.ok.kind hg (Calls.loadGlobal_global (by rw [I.ok.glob];exact I.mod.glob.keeps I.bk) hm h) hd
theorem ld_blt {E:Value→Shared→Prop}{pins:List (Addr×Obj)}{s:Shared}{σ:St}{H:Hp}{x:Str}{u:Value}{pos:Pos}{Q:Value→Shared→Prop}(I:Inv X pins σ H s) (hg:Gl X x) (hm:X.mg x=none) (hv:bootBuiltins x=some u) (h:Q u s)
    (hn:x≠"__name__":=by decide) (hd:(x == ("__debug__":Str))=false:=by decide):wpAny (model X.prog X.w) X.A (eval (.Name x pos) X.env) Q E s:=by
  obtain⟨mb,h1,h2⟩:=I.mod.blt
  exact Calls.Name_function_global I.ok.kind hg (Calls.loadGlobal_builtin (by rw [I.ok.glob];exact I.mod.glob.keeps I.bk) hm (by rw [I.ok.blt];exact h1.keeps I.bk) ((h2 x hn).trans hv) h) hd
theorem pe_glob {x:Str}{v:V}{u:Value}{pos:Pos}(hg:Gl X x) (hm:X.mg x=some u) (r:RelV v u) (hd:(x == ("__debug__":Str))=false:=by decide):PE X (.Name x pos) (tC v):=
  λ_ _ _ H _ I h=>ld_glob I hg hm ⟨v,H,I,r,h⟩ hd
theorem pe_bltn {x:Str}{v:V}{u:Value}{pos:Pos}(hg:Gl X x) (hm:X.mg x=none) (hv:bootBuiltins x=some u) (r:RelV v u) (hn:x≠"__name__":=by decide) (hd:(x == ("__debug__":Str))=false:=by decide):PE X (.Name x pos) (tC v):=
  λ_ _ _ H _ I h=>ld_blt I hg hm hv ⟨v,H,I,r,h⟩ hn hd
variable {a b:Expr}{ta tb:TE}{pos:Pos}
noncomputable def tB (t:TE):TT:=fun σ H Q=>t σ H λx H1=>∃c,x=.bl c∧Q c H1
theorem pt_val {e:Expr}{t:TE}(h:PE X e t) (he:∀whole,isTrue e X.env whole=(do let v ←whole;standAt e.pos;holding [v] (truthy v)):=by intro _;rfl):PT X e (tB t):=by
  intro pins s σ H Q I hw
  refine isTrue_plain (thn (h pins s σ H _ I hw) λv s1 ⟨x,H1,I1,r1,q1⟩=>?_) (he _)
  obtain⟨d,rfl,q⟩:=q1
  cases r1
  exact wpAny_truthy_bool ⟨H1,I1,q⟩
variable {tA tB':TT}{rest:List Expr}
noncomputable def tAnd (t u:TT):TT:=fun σ H Q=>t σ H λc H1=>if c=true then u σ H1 Q else Q false H1
noncomputable def tOr (t u:TT):TT:=fun σ H Q=>t σ H λc H1=>if c=true then Q true H1 else u σ H1 Q
noncomputable def tNot (t:TT):TT:=fun σ H Q=>t σ H λc H1=>Q (!c) H1
theorem pw_and1 (ha:PT X a tA):PW X (.BoolOp .And [a] pos) tA:=by
  intro wh pins s σ H Q I h
  refine isTrue_and (thn (ha pins s σ H Q I h) λc s1 e=>?_)
  cases c with
  | true=>exact isTrue_and_nil e
  | false=>exact e
theorem pw_or1 (ha:PT X a tA):PW X (.BoolOp .Or [a] pos) tA:=by
  intro wh pins s σ H Q I h
  refine isTrue_or (thn (ha pins s σ H Q I h) λc s1 e=>?_)
  cases c with
  | false=>exact isTrue_or_nil e
  | true=>exact e
theorem pw_and (ha:PT X a tA) (hb:PW X (.BoolOp .And (b::rest) pos) tB'):PW X (.BoolOp .And (a::b::rest) pos) (tAnd tA tB'):=by
  intro wh pins s σ H Q I h
  refine isTrue_and (thn (ha pins s σ H _ I h) λc s1 ⟨H1,I1,q1⟩=>?_)
  cases c with
  | true=>exact hb wh pins s1 σ H1 Q I1 q1
  | false=>exact⟨H1,I1,q1⟩
theorem pw_or (ha:PT X a tA) (hb:PW X (.BoolOp .Or (b::rest) pos) tB'):PW X (.BoolOp .Or (a::b::rest) pos) (tOr tA tB'):=by
  intro wh pins s σ H Q I h
  refine isTrue_or (thn (ha pins s σ H _ I h) λc s1 ⟨H1,I1,q1⟩=>?_)
  cases c with
  | true=>exact⟨H1,I1,q1⟩
  | false=>exact hb wh pins s1 σ H1 Q I1 q1
theorem pt_not (ha:PT X a tA):PT X (.UnaryOp .Not a pos) (tNot tA):=by
  intro pins s σ H Q I h
  exact isTrue_not (ha pins s σ H (λc H1=>Q (!c) H1) I h)
noncomputable def tAndV (ta tb:TE):TE:=fun σ H Q=>ta σ H λx H1=>∃c,x=.bl c∧if c=true then tb σ H1 Q else Q (.bl false) H1
noncomputable def tOrV (ta tb:TE):TE:=fun σ H Q=>ta σ H λx H1=>∃c,x=.bl c∧if c=true then Q (.bl true) H1 else tb σ H1 Q
noncomputable def tNotV (ta:TE):TE:=fun σ H Q=>ta σ H λx H1=>∃c,x=.bl c∧Q (.bl (!c)) H1
theorem pe_one {op}{t:TE}(h:PE X a t):PE X (.BoolOp op [a] pos) t:=λpins s σ H Q I hw=>BoolOp_one (h pins s σ H Q I hw)
theorem pe_and (ha:PE X a ta) (hb:PE X (.BoolOp .And (b::rest) pos) tb):PE X (.BoolOp .And (a::b::rest) pos) (tAndV ta tb):=by
  intro pins s σ H Q I h
  refine BoolOp_and (thn (ha pins s σ H _ I h) λv s1 ⟨x,H1,I1,r1,q1⟩=>?_)
  obtain⟨c,rfl,q1⟩:=q1
  cases r1
  refine wpAny_truthy_bool ?_
  cases c with
  | true=>exact hb pins s1 σ H1 Q I1 q1
  | false=>exact⟨.bl false,H1,I1,rfl,q1⟩
theorem pe_or (ha:PE X a ta) (hb:PE X (.BoolOp .Or (b::rest) pos) tb):PE X (.BoolOp .Or (a::b::rest) pos) (tOrV ta tb):=by
  intro pins s σ H Q I h
  refine BoolOp_or (thn (ha pins s σ H _ I h) λv s1 ⟨x,H1,I1,r1,q1⟩=>?_)
  obtain⟨c,rfl,q1⟩:=q1
  cases r1
  refine wpAny_truthy_bool ?_
  cases c with
  | false=>exact hb pins s1 σ H1 Q I1 q1
  | true=>exact⟨.bl true,H1,I1,rfl,q1⟩
theorem pe_not (ha:PE X a ta):PE X (.UnaryOp .Not a pos) (tNotV ta):=by
  intro pins s σ H Q I h
  refine UnaryOp_ (thn (ha pins s σ H _ I h) λv s1 ⟨x,H1,I1,r1,q1⟩=>?_)
  obtain⟨c,rfl,q1⟩:=q1
  cases r1
  exact not_of (wpAny_truthy_bool ⟨.bl (!c),H1,I1,rfl,q1⟩)
end
end L2
namespace L2
open PySem PySem.Spec PyProof.Rows
noncomputable def SqL (K:PySem.W.Frag) (H:Hp) (a:Addr) (xs:List V):Prop:=
  Rd H a (.lst xs) ∨
    ∃(o:Obj) (its:Array Value) (n:Nat),K.lookup a=some o∧o.cls=.type "list"∧o.dict=none∧o.data=.seq its n∧its.size≤sizeLine∧Vals xs its.toList
noncomputable def SqT (K:PySem.W.Frag) (H:Hp) (a:Addr) (xs:List V):Prop:=
  Rd H a (.tup xs) ∨
    ∃(o:Obj) (its:Array Value) (n:Nat),K.lookup a=some o∧o.cls=.type "tuple"∧o.data=.seq its n∧its.size≤sizeLine∧Vals xs its.toList
noncomputable def absV:Value→Option V
  | .none=>some .non
  | .bool b=>some (.bl b)
  | .int i _=>some (.int i)
  | .str x _=>some (.str x)
  | .bytes b _=>some (.byt b)
  | .float b _=>some (.flt b)
  | .ref a=>some (.ref a)
  | .type n=>some (.ty n)
  | _=>none
theorem RelV.abs {x:V}{u:Value}(r:RelV x u):absV u=some x:=by
  cases x with
  | non=>cases r;rfl
  | bl _=>cases r;rfl
  | int _=>obtain⟨t,rfl⟩:=r;rfl
  | str _=>obtain⟨t,rfl⟩:=r;rfl
  | byt _=>obtain⟨t,rfl⟩:=r;rfl
  | flt _=>obtain⟨t,rfl⟩:=r;rfl
  | ref _=>cases r;rfl
  | ty _=>cases r;rfl
theorem RelV.inj {x y:V}{u:Value}(r:RelV x u) (q:RelV y u):x=y:=Option.some.inj (r.abs.symm.trans q.abs)
theorem Vals.inj:∀{xs ys:List V}{us:List Value},Vals xs us→Vals ys us→xs=ys
  | _,_,_,.nil,.nil=>rfl
  | _,_,_,.cons r t,.cons r' t'=>by rw [r.inj r',Vals.inj t t']
section
variable {X:Cx}{pins:List (Addr×Obj)}{σ:St}{H:Hp}{s:Shared}{a:Addr}{xs ys:List V}
theorem SqL.of {K:PySem.W.Frag}(h:H a=some (.lst xs)):SqL K H a xs:=.inl (.inl h)
theorem SqT.of {K:PySem.W.Frag}(h:H a=some (.tup xs)):SqT K H a xs:=.inl (.inl h)
theorem Inv.list (I:Inv X pins σ H s) (h:SqL X.K H a xs):∃its:List Value,Vals xs its∧PlainL s.heap a its.toArray∧xs.length≤sizeLine:=by
  rcases h with h|⟨o,its,n,hk,hc,hd,hs,hz,r⟩
  · obtain⟨z,its,n,r,e⟩:=h.ok I.hok
    exact⟨its,r,⟨_,n,e,rfl,rfl,rfl⟩,z⟩
  · refine⟨its.toList,r,⟨o,n,I.kIn a o hk,hc,hd,by simpa using hs⟩,?_⟩
    have e:=r.length
    simp only [Array.length_toList] at e
    omega
theorem Inv.tuple (I:Inv X pins σ H s) (h:SqT X.K H a xs):∃its:List Value,Vals xs its∧IsTup s.heap a its.toArray∧xs.length≤sizeLine:=by
  rcases h with h|⟨o,its,n,hk,hc,hs,hz,r⟩
  · obtain⟨z,its,r,p⟩:=h.ok I.hok
    exact⟨its,r,p,z⟩
  · refine⟨its.toList,r,⟨o,I.kIn a o hk,hc,n,by simpa using hs⟩,?_⟩
    have e:=r.length
    simp only [Array.length_toList] at e
    omega
theorem Inv.list_inj (I:Inv X pins σ H s) (h:SqL X.K H a xs) (h':SqL X.K H a ys):xs=ys:=by
  obtain⟨its,r,⟨o,n,e,_,_,d⟩,_⟩:=I.list h
  obtain⟨its',r',⟨o',n',e',_,_,d'⟩,_⟩:=I.list h'
  rw [e] at e';cases e'
  rw [d] at d'
  injection d' with d1 _
  have:its=its':=by simpa using congrArg Array.toList d1
  subst this
  exact r.inj r'
theorem Inv.tuple_inj (I:Inv X pins σ H s) (h:SqT X.K H a xs) (h':SqT X.K H a ys):xs=ys:=by
  obtain⟨its,r,⟨o,e,_,n,d⟩,_⟩:=I.tuple h
  obtain⟨its',r',⟨o',e',_,n',d'⟩,_⟩:=I.tuple h'
  rw [e] at e';cases e'
  rw [d] at d'
  injection d' with d1 _
  have:its=its':=by simpa using congrArg Array.toList d1
  subst this
  exact r.inj r'
end
noncomputable abbrev Cx.wish (X:Cx) (E:Value→Shared→Prop):Cx:={ X with xe:=E }
noncomputable abbrev Cx.nox (X:Cx):Cx:=X.wish λ_ _=>False
theorem Cx.Ok.wish {X:Cx}(ok:X.Ok) (E:Value→Shared→Prop):(X.wish E).Ok:=
  ⟨ok.mod,ok.kind,ok.glob,ok.blt,ok.above,ok.inj,ok.has,ok.cab,ok.hd,ok.frames,ok.stk,ok.exf,ok.bs,ok.bsz,ok.noex,ok.exfs,ok.funs,ok.frf⟩
theorem Cx.Ok.unwish {X:Cx}{E:Value→Shared→Prop}(ok:(X.wish E).Ok):X.Ok:=
  ⟨ok.mod,ok.kind,ok.glob,ok.blt,ok.above,ok.inj,ok.has,ok.cab,ok.hd,ok.frames,ok.stk,ok.exf,ok.bs,ok.bsz,ok.noex,ok.exfs,ok.funs,ok.frf⟩
section
variable {X:Cx}{pins:List (Addr×Obj)}{σ:St}{H:Hp}{s:Shared}{E:Value→Shared→Prop}
theorem Inv.wish (I:Inv X pins σ H s) (E:Value→Shared→Prop):Inv (X.wish E) pins σ H s:=⟨I.ok.wish E,I.os,I.bare,I.base,I.loc,I.cell,I.free,I.freeC,I.pin,I.hok,I.len⟩
theorem Inv.unwish (I:Inv (X.wish E) pins σ H s):Inv X pins σ H s:=⟨I.ok.unwish,I.os,I.bare,I.base,I.loc,I.cell,I.free,I.freeC,I.pin,I.hok,I.len⟩
theorem SP.unwish {D:Ends}{f:Flow}{s':Shared}(h:SP (X.wish E) pins D f s'):SP X pins D f s':=by
  cases f with
  | next=>obtain⟨σ',H',I,q⟩:=h;exact⟨σ',H',I.unwish,q⟩
  | brk=>obtain⟨σ',H',I,q⟩:=h;exact⟨σ',H',I.unwish,q⟩
  | cont=>obtain⟨σ',H',I,q⟩:=h;exact⟨σ',H',I.unwish,q⟩
  | ret u=>obtain⟨v,σ',H',I,r,q⟩:=h;exact⟨v,σ',H',I.unwish,r,q⟩
theorem PE.nox {e:Expr}{t:TE}(h:PE X.nox e t):PE X e t:=λpins s σ H Q I hw =>
  wpAny_mono (h pins s σ H Q (I.wish _) hw) (λ_ _ ⟨v,H',I',r,q⟩=>⟨v,H',I'.unwish,r,q⟩) λ_ _ z=>False.elim z
theorem PT.nox {e:Expr}{t:TT}(h:PT X.nox e t):PT X e t:=λpins s σ H Q I hw =>
  wpAny_mono (h pins s σ H Q (I.wish _) hw) (λ_ _ ⟨H',I',q⟩=>⟨H',I'.unwish,q⟩) λ_ _ z=>False.elim z
theorem PSs.nox {st:List Stmt}{t:TS}(h:PSs X.nox st t):PSs X st t:=λpins s σ H D I hw =>
  wpAny_mono (h pins s σ H D (I.wish _) hw) (λ_ _ q=>q.unwish) λ_ _ z=>False.elim z
end
section
variable {X:Cx}{st:Stmt}{rest:List Stmt}{t u:TS}{e:Expr}{te:TE}{pos:Pos}
noncomputable def tNext:TS:=λD σ H=>D.nx σ H
noncomputable def tSeq (t u:TS):TS:=λD σ H=>t { D with nx:=u D } σ H
theorem pss_nil:PSs X [] tNext:=λ_ _ σ H _ I h=>wpAny_execs_nil ⟨σ,H,I,h⟩
theorem pss_cons (h1:PS X st t) (h2:PSs X rest u):PSs X (st::rest) (tSeq t u):=by
  intro pins s σ H D I h
  refine wpAny_execs_cons (thn (h1 pins s σ H { D with nx:=u D } I h) λf s1 q=>?_)
  cases f with
  | next =>
    obtain⟨σ',H',I',q⟩:=q
    exact h2 pins s1 σ' H' D I' q
  | ret v=>exact q
  | brk=>exact q
  | cont=>exact q
theorem pss_one (h1:PS X st t):PSs X [st] t:=by
  intro pins s σ H D I h
  refine wpAny_execs_cons (thn (h1 pins s σ H D I h) λf s1 q=>?_)
  cases f with
  | next=>exact wpAny_execs_nil q
  | ret v=>exact q
  | brk=>exact q
  | cont=>exact q
theorem Inv.quiet {pins:List (Addr×Obj)}{σ:St}{H:Hp}{s:Shared}(I:Inv X pins σ H s):interactive X.env=false:=by simp [interactive,I.ok.kind]
noncomputable def tDrop (te:TE):TS:=λD σ H=>te σ H λ_ H1=>D.nx σ H1
theorem ps_expr (he:PE X e te) (hs:swapsWith e none pos.line X.env=pure false:=by rfl):PS X (.Expr e pos) (tDrop te):=by
  intro pins s σ H D I h
  exact wpAny_Expr_any (thn (he pins s σ H _ I h) λv s1 ⟨x,H1,I1,r1,q1⟩=>⟨σ,H1,I1,q1⟩) I.quiet hs
noncomputable def tRet (te:TE):TS:=λD σ H=>te σ H D.rt
theorem ps_ret (he:PE X e te):PS X (.Return (some e) pos) (tRet te):=by
  intro pins s σ H D I h
  exact wpAny_Return_some (thn (he pins s σ H _ I h) λv s1 ⟨x,H1,I1,r1,q1⟩=>⟨x,σ,H1,I1,r1,q1⟩)
noncomputable def tIfS (c:TT) (t u:TS):TS:=λD σ H=>c σ H λb H1=>if b=true then t D σ H1 else u D σ H1
theorem ps_if {c:Expr}{a b:List Stmt}{tc:TT}(hc:PT X c tc) (ha:PSs X a t) (hb:PSs X b u):PS X (.If c a b pos) (tIfS tc t u):=by
  intro pins s σ H D I h
  refine wpAny_If (thn (hc pins s σ H _ I h) λd s1 ⟨H1,I1,q1⟩=>?_)
  cases d with
  | true=>exact ha pins s1 σ H1 D I1 q1
  | false=>exact hb pins s1 σ H1 D I1 q1
end
noncomputable abbrev TG:=V→St→Hp→(St→Hp→Prop)→Prop
noncomputable abbrev TGs:=List V→St→Hp→(St→Hp→Prop)→Prop
noncomputable def PG (X:Cx) (target:Expr) (t:TG):Prop:=
  ∀(pins:List (Addr×Obj)) (s:Shared) (σ:St) (H:Hp) (v:V) (u:Value) (Q:St→Hp→Prop),Inv X pins σ H s→RelV v u→t v σ H Q →
    wpAny (model X.prog X.w) X.A (assign target X.env u) (λ_ s'=>∃σ' H',Inv X pins σ' H' s'∧Q σ' H') X.xe s
noncomputable def PGs (X:Cx) (ts:List Expr) (t:TGs):Prop:=
  ∀(pins:List (Addr×Obj)) (s:Shared) (σ:St) (H:Hp) (vs:List V) (us:List Value) (Q:St→Hp→Prop),Inv X pins σ H s→Vals vs us→t vs σ H Q →
    wpAny (model X.prog X.w) X.A (assignInOrder ((assignEach ts X.env).map (·.2)) us) (λ_ s'=>∃σ' H',Inv X pins σ' H' s'∧Q σ' H') X.xe s
noncomputable abbrev TSet:=V→V→V→Hp→(Hp→Prop)→Prop
noncomputable def PSet (X:Cx) (t:TSet):Prop:=
  ∀(pins:List (Addr×Obj)) (s:Shared) (σ:St) (H:Hp) (o i v:V) (ov iv u:Value) (Q:Hp→Prop),Inv X pins σ H s→RelV o ov→RelV i iv→RelV v u→t o i v H Q →
    wpAny (model X.prog X.w) X.A (setItem ov iv u) (λ_ s'=>∃H',Inv X pins σ H' s'∧Q H') X.xe s
noncomputable abbrev TIp:=V→V→Hp→VK→Prop
noncomputable def PIp (X:Cx) (op:Operator) (t:TIp):Prop:=
  ∀(pins:List (Addr×Obj)) (s:Shared) (σ:St) (H:Hp) (x y:V) (v u:Value) (Q:VK),Inv X pins σ H s→RelV x v→RelV y u→t x y H Q →
    wpAny (model X.prog X.w) X.A (inplaceOp op v u) (EP X pins σ Q) X.xe s
section
variable {X:Cx}{pos:Pos}
noncomputable def gName (i:Nat):TG:=λv σ H Q=>Q (σ.set i (some v)) H
theorem pg_name {i:Nat}{x:Str}(hN:X.N.Nodup) (hi:X.N[i]?=some x) (hx:Loc X.env.scope x) (hf:X.fn x=true∨X.env.scope.names.lookup x=some .local:=by first|exact .inl rfl|exact .inr rfl|assumption):PG X (.Name x pos) (gName i):=by
  intro pins s σ H v u Q I r h
  exact wpAny_assign_Name (store_ok I hN hi hx r (λs' I'=>⟨_,H,I',h⟩) hf)
noncomputable def gNil:TGs:=λvs σ H Q=>vs=[]∧Q σ H
noncomputable def gCons (t:TG) (u:TGs):TGs:=λvs σ H Q=>∃v r,vs=v::r∧t v σ H fun σ' H'=>u r σ' H' Q
theorem pgs_nil:PGs X [] gNil:=by
  intro pins s σ H vs us Q I r h
  obtain⟨e,h⟩:=h
  subst e
  cases r
  exact assignInOrder_nil ⟨σ,H,I,h⟩
theorem pgs_cons {e:Expr}{es:List Expr}{t:TG}{u:TGs}(h1:PG X e t) (h2:PGs X es u)
    (hs:(assignEach (e::es) X.env).map (·.2)=assign e X.env::(assignEach es X.env).map (·.2):=by rfl):PGs X (e::es) (gCons t u):=by
  intro pins s σ H vs us Q I r h
  obtain⟨v,vr,e1,h⟩:=h
  subst e1
  cases r with
  | cons r rr =>
    rw [hs]
    refine assignInOrder_cons (thn (h1 pins s σ H _ _ _ I r h) λ_ s1 ⟨σ1,H1,I1,q1⟩=>?_)
    exact h2 pins s1 σ1 H1 _ _ Q I1 rr q1
noncomputable def gTup (K:PySem.W.Frag) (n:Nat) (t:TGs):TG:=λv σ H Q=>∃a xs,v=.ref a∧SqT K H a xs∧xs.length=n∧t xs σ H Q
theorem pg_tup {es:List Expr}{k:Nat}{t:TGs}{n:Nat}(hc:X.calm=true) (h:PGs X es t)
    (hn:(assignEach es X.env).length=n:=by rfl) (hst:(assignEach es X.env).findIdx? (·.1)=none:=by rfl):PG X (.Tuple es k pos) (gTup X.K n t):=by
  intro pins s σ H v u Q I r hw
  obtain⟨a,xs,e1,hq,hl,hw⟩:=hw
  subst e1
  cases r
  obtain⟨its,rv,ht,hz⟩:=I.tuple hq
  refine assign_Tuple_tuple (I.ok.hd hc) ht (by simp [hn,←hl,rv.length]) hst λh' hx=>?_
  have I1:Inv X pins σ H { s with heap:=h' }:=I.kept (t':=s.toks) λb o e=>hx b o (Nat.ne_of_lt (Heap.lt_size e)) e
  exact h pins _ σ H xs _ Q I1 (by simpa using rv) hw
noncomputable def gSub (to ti:TE) (t:TSet):TG:=λv σ H Q=>to σ H λo H1=>ti σ H1 λi H2=>t o i v H2 λH3=>Q σ H3
theorem pg_sub {o i:Expr}{to ti:TE}{t:TSet}(ho:PE X o to) (hi:PE X i ti) (hs:PSet X t)
    (ha:∀v,assign (.Subscript o i pos) X.env v=(do
      let ov ←holding [v] (eval o X.env)
      let iv ←holding [v,ov] (eval i X.env)
      standAt pos
      holding [v,ov,iv] (setItem ov iv v)
      release [v,ov,iv] []):=by intro _;rfl):PG X (.Subscript o i pos) (gSub to ti t):=by
  intro pins s σ H v u Q I r h
  rw [ha]
  refine wpAny_bind (wpAny_holding (thn (ho pins s σ H _ I h) λov s1 ⟨x,H1,I1,r1,q1⟩=>?_))
  refine wpAny_bind (wpAny_holding (thn (hi pins s1 σ H1 _ I1 q1) λiv s2 ⟨y,H2,I2,r2,q2⟩=>?_))
  refine wpAny_bind (wpAny_standAt (wpAny_bind (wpAny_holding (thn (hs pins s2 σ H2 x y v ov iv u _ I2 r1 r2 r q2) λ_ s3 ⟨H3,I3,q3⟩=>?_))))
  exact wpAny_release ⟨σ,H3,I3,q3⟩
noncomputable def tAsg (te:TE) (g:TG):TS:=λD σ H=>te σ H λx H1=>g x σ H1 D.nx
theorem ps_asg {tg e:Expr}{te:TE}{g:TG}(he:PE X e te) (hg:PG X tg g) (hs:swapsWithSole [tg] e pos.line X.env=pure false:=by rfl) (hw:swappedStores [tg] e X.env=pure none:=by rfl)
    (h1:(assignEach [tg] X.env).map (·.2)=[assign tg X.env]:=by rfl):PS X (.Assign [tg] e pos) (tAsg te g):=by
  intro pins s σ H D I h
  refine wpAny_Assign_stores (thn (he pins s σ H _ I h) λv s1 ⟨x,H1,I1,r1,q1⟩=>?_) hs hw
  rw [h1]
  exact thn (hg pins s1 σ H1 x v _ I1 r1 q1) λ_ s2 q=>q
theorem ps_set {i:Nat}{x:Str}{e:Expr}{te:TE}{pos':Pos}(hN:X.N.Nodup) (hi:X.N[i]?=some x) (hx:Loc X.env.scope x) (he:PE X e te) (hs:swapsWith e (some (.Name x pos')) pos.line X.env=pure false:=by rfl) (hf:X.fn x=true∨X.env.scope.names.lookup x=some .local:=by first|exact .inl rfl|exact .inr rfl|assumption) :
    PS X (.Assign [.Name x pos'] e pos) (tAsg te (gName i)):=by
  intro pins s σ H D I h
  refine wpAny_Assign_Name (thn (he pins s σ H _ I h) λv s1 ⟨y,H1,I1,r1,q1⟩=>?_) hs
  exact store_ok I1 hN hi hx r1 (λs2 I2=>⟨_,H1,I2,q1⟩) hf
noncomputable def tAug (i:Nat) (te:TE) (ti:TIp):TS:=λD σ H=>∃x,σ[i]?=some (some x)∧te σ H λy H1=>ti x y H1 λz H2=>D.nx (σ.set i (some z)) H2
theorem ps_aug {i:Nat}{x:Str}{e:Expr}{te:TE}{op:Operator}{ti:TIp}{pos':Pos}(hN:X.N.Nodup) (hi:X.N[i]?=some x) (hx:Loc X.env.scope x) (he:PE X e te) (ho:PIp X op ti) (hf:X.fn x=true∨X.env.scope.names.lookup x=some .local:=by first|exact .inl rfl|exact .inr rfl|assumption) :
    PS X (.AugAssign (.Name x pos') op e pos) (tAug i te ti):=by
  intro pins s σ H D I h
  obtain⟨v,e1,h⟩:=h
  obtain⟨m,hn,hl⟩:=I.loc
  have vis:Vis X.env.scope x:=by rcases hx with k|k;exact .inl k;exact .inr (.inl k)
  obtain⟨u,r,l⟩:=hl i x v hi e1 vis
  refine wpAny_AugAssign_Name ?_
  have go:wpAny (model X.prog X.w) X.A (eval e X.env) (λw s₂=>wpAny (model X.prog X.w) X.A (inplaceOp op u w) (λr s₃=>wpAny (model X.prog X.w) X.A (storeName X.env x r) (λ_=>SP X pins D .next) X.xe s₃) X.xe s₂) X.xe s:=by
    refine thn (he pins s σ H _ I h) λw s1 ⟨y,H1,I1,r1,q1⟩=>?_
    refine thn (ho pins s1 σ H1 v y u w _ I1 r r1 q1) λz s2 ⟨zv,H2,I2,r2,q2⟩=>?_
    exact store_ok I2 hN hi hx r2 (λs3 I3=>⟨_,H2,I3,q2⟩) hf
  rcases l with ⟨hk,hm⟩|⟨hk,c,hc,hcell⟩
  · exact wpAny_loadName_local I.ok.kind hk hn hm go
  · rcases hk with hk|hk
    · exact wpAny_loadName_cell I.ok.kind hk hc hcell go
    · rcases hx with k|k
      · have:X.env.scope.names.lookup x=some .free:=hk
        rw [k] at this;cases this
      · have:X.env.scope.names.lookup x=some .free:=hk
        rw [k] at this;cases this
noncomputable def ipI (f:Int→Int→Int):TIp:=λx y H Q=>∃i j,x=.int i∧y=.int j∧Q (.int (f i j)) H
theorem ip_add:PIp X .Add (ipI λi j=>i+j):=by
  intro pins s σ H x y v u Q I r1 r2 h
  obtain⟨i,j,e1,e2,q⟩:=h
  subst e1;subst e2
  obtain⟨t,rfl⟩:=r1
  obtain⟨t',rfl⟩:=r2
  exact iadd_int ⟨.int _,H,I.tok _,⟨_,rfl⟩,q⟩
end
section
variable {X:Cx}{pos:Pos}
noncomputable def tWhile (c:TT) (tb:TS):TS:=λD σ H=>∃W:Nat→St→Hp→Prop,(∃m,W m σ H)∧∀m σ H,W m σ H →
  c σ H λb H1=>if b=true then ∃N:St→Hp→Prop,(∀σ' H',N σ' H'→∃m',m'<m∧W m' σ' H')∧tb { D with nx:=N,ct:=N,bk:=D.nx } σ H1 else D.nx σ H1
theorem ps_while {c:Expr}{body:List Stmt}{tc:TT}{tb:TS}(hp:PassesOwn (model X.prog X.w) X.A X.env X.xe) (hc:PT X c tc) (hb:PSs X body tb):PS X (.While c body [] pos) (tWhile tc tb):=by
  intro pins s σ H D I h
  obtain⟨W,⟨m0,w0⟩,turn⟩:=h
  refine wpAny_While (codeAny_whileLoop (λn s'=>∃σ' H',Inv X pins σ' H' s'∧W n σ' H') ?_ m0 ⟨σ,H,I,w0⟩)
  rintro n s1 ⟨σ1,H1,I1,w1⟩
  refine wpAny_passesOwn hp (thn (hc pins s1 σ1 H1 _ I1 (turn n σ1 H1 w1)) λb s2 ⟨H2,I2,q2⟩=>?_)
  cases b with
  | true =>
    obtain⟨N,hN,q2⟩:=q2
    rw [if_pos rfl]
    refine wpAny_passesOwn hp (thn (hb pins s2 σ1 H2 _ I2 q2) λf s3 q3=>?_)
    cases f with
    | next =>
      obtain⟨σ3,H3,I3,n3⟩:=q3
      obtain⟨m',hm,w3⟩:=hN σ3 H3 n3
      exact⟨m',hm,σ3,H3,I3,w3⟩
    | cont =>
      obtain⟨σ3,H3,I3,n3⟩:=q3
      obtain⟨m',hm,w3⟩:=hN σ3 H3 n3
      exact⟨m',hm,σ3,H3,I3,w3⟩
    | brk=>exact q3
    | ret v=>exact q3
  | false =>
    rw [if_neg Bool.false_ne_true]
    exact wpAny_execs_nil ⟨σ1,H2,I2,q2⟩
end
structure It where
  go:Nat→Hp→Prop
  yld:Nat→Hp→V→Hp→Prop
  stop:Nat→Hp→Prop
noncomputable def FpOk (X:Cx) (pins:List (Addr×Obj)) (H:Hp) (b:Addr):Prop:=
  H b=none∧b≠X.env.locals∧b∉X.fs∧(b∈X.ex∨X.s₀.heap.objs.size≤b)∧(∀x c,X.env.cells.lookup x=some c→c≠b)∧∀p∈X.pn++pins,p.1≠b
theorem Inv.fpOk {X:Cx}{pins:List (Addr×Obj)}{σ:St}{H H':Hp}{s:Shared}{b:Addr}(I:Inv X pins σ H s) (hb:s.heap.objs.size≤b) (hn:H' b=none):FpOk X pins H' b:=by
  refine⟨hn,Nat.ne_of_gt (Nat.lt_of_lt_of_le I.lt hb),I.nofs hb,.inr (Nat.le_trans I.sz hb),λx c e z=>?_,λp hp z=>?_⟩
  · obtain⟨v,q⟩:=I.cell x c e
    exact absurd (Nat.lt_of_lt_of_le q.lt (by rw [z];exact hb)) (Nat.lt_irrefl _)
  · exact absurd (Nat.lt_of_lt_of_le (Heap.lt_size (I.pin p hp).1) (by rw [z];exact hb)) (Nat.lt_irrefl _)
structure Turn (P:Program) (w:World) (K:PySem.W.Frag) (tg:Expr) (J:It) (fp:List Addr) (it:Addr) (tn:Nat→Heap→Prop):Prop where
  mem:it∈fp
  obj:∀i h,tn i h→∀b∈fp,∃o,h.get? b=some o∧∀v,o.data≠.cell v
  keep:∀i h h',tn i h→(∀b∈fp,∀o,h.get? b=some o→h'.get? b=some o)→tn i h'
  item:∀(X:Cx),X.prog=P→X.w=w→X.K=K→X.calm=true→∀(i:Nat) (pins:List (Addr×Obj)) (s:Shared) (σ:St) (H:Hp) (E:Value→Shared→Prop),Inv X pins σ H s→(∀b∈fp,FpOk X pins H b)→tn i s.heap→J.go i H →
    wpAny (model P w) X.A (pyNext (.ref it)) (λr s1=>∃u,r=some u ∧
      wpAny (model P w) X.A (letOwnedTupleGo tg (.ref it) u) (λ_ s2=>∃x H',Inv X pins σ H' s2∧RelV x u∧J.yld i H x H'∧tn (i+1) s2.heap∧∀b∈fp,H' b=none) E s1) E s
  done:∀(X:Cx),X.prog=P→X.w=w→X.K=K→X.calm=true→∀(i:Nat) (pins:List (Addr×Obj)) (s:Shared) (σ:St) (H:Hp) (E:Value→Shared→Prop),Inv X pins σ H s→(∀b∈fp,FpOk X pins H b)→tn i s.heap→J.stop i H →
    wpAny (model P w) X.A (pyNext (.ref it)) (λr s1=>r=none∧Inv X pins σ H s1) E s
  self:∀(A:Around) (i:Nat) (s:Shared) (Q:Value→Shared→Prop) (E:Value→Shared→Prop),tn i s.heap→Q (.ref it) s→wpAny (model P w) A (pyIter (.ref it)) Q E s
noncomputable abbrev TI:=St→Hp→(It→Hp→Prop)→Prop
noncomputable def PIE (X:Cx) (pins:List (Addr×Obj)) (σ:St) (tg:Expr) (R:It→Hp→Prop) (itv:Value) (s2:Shared):Prop:=
  ∃(it:Addr) (fp:List Addr) (tn:Nat→Heap→Prop) (J:It) (H':Hp),itv=.ref it∧Inv X pins σ H' s2∧Turn X.prog X.w X.K tg J fp it tn∧tn 0 s2.heap∧(∀b∈fp,FpOk X pins H' b)∧R J H'
noncomputable def PI (X:Cx) (tg iter:Expr) (wi:TI):Prop:=
  ∀(pins:List (Addr×Obj)) (s:Shared) (σ:St) (H:Hp) (R:It→Hp→Prop),Inv X pins σ H s→wi σ H R →
    wpAny (model X.prog X.w) X.A (eval iter X.env) (λv s1=>wpAny (model X.prog X.w) X.A (pyIter v) (PIE X pins σ tg R) X.xe s1) X.xe s
theorem go_of {M:Model}{A:Around}{E:Value→Shared→Prop}{s:Shared}{tg:Expr}{it:Addr}{u:Value}{o:Obj}{n:String}{vs:Array Value}{Q:Unit→Shared→Prop}(ho:s.heap.get? it=some o) (hc:o.cls=.type n) (hd:o.data=.fields vs)
    (hn:["enumerate","zip","dict_itemiterator","dict_reverseitemiterator","odict_iterator","itertools.zip_longest","itertools.pairwise"].contains n=false) (hQ:Q () s):wpAny M A (letOwnedTupleGo tg (.ref it) u) Q E s:=by
  unfold letOwnedTupleGo
  cases tg<;>first
    | exact wpAny_pure hQ
    | (cases u<;>first
        | exact wpAny_pure hQ
        | (refine wpAny_bind (wpAny_load ho ?_)
           rw [hc,hd]
           show wpAny M A (if (["enumerate","zip","dict_itemiterator","dict_reverseitemiterator","odict_iterator","itertools.zip_longest","itertools.pairwise"].contains n&&vs[0]? == some (rawInt _))=true then _ else _) Q E s
           rw [if_neg (by intro h;rw [hn,Bool.false_and] at h;cases h)]
           exact wpAny_pure hQ))
noncomputable def Itl (K:PySem.W.Frag) (a:Addr):It:=
  ⟨λi H=>∃xs x,SqL K H a xs∧xs[i]?=some x,λi H x H'=>H'=H∧∀xs,SqL K H a xs→xs[i]?=some x,λi H=>∃xs,SqL K H a xs∧xs.length≤i⟩
noncomputable def Itt (K:PySem.W.Frag) (a:Addr):It:=
  ⟨λi H=>∃xs x,SqT K H a xs∧xs[i]?=some x,λi H x H'=>H'=H∧∀xs,SqT K H a xs→xs[i]?=some x,λi H=>∃xs,SqT K H a xs∧xs.length≤i⟩
noncomputable def Itr (lo:Int) (n:Nat):It:=⟨λi _=>i<n,λi H x H'=>H'=H∧x=.int (lo+i),λi _=>n≤i⟩
theorem turn_list {P:Program}{w:World}{K:PySem.W.Frag}{tg:Expr}(a it:Addr):Turn P w K tg (Itl K a) [it] it (λi h=>h.IsListIter it a i) where
  mem:=by simp
  obj:=λi h st b hb=>by
    have e:b=it:=by simpa using hb
    subst e
    obtain⟨o,e,c,d⟩:=st
    exact⟨o,e,λv z=>by rw [d] at z;cases z⟩
  keep:=λi h h' st k=>st.at λo e=>k it (by simp) o e
  item:=by
    intro X hP hw hK hc i pins s σ H E I hf st hg
    subst hP hw hK
    obtain⟨xs,x,hq,hx⟩:=hg
    obtain⟨its,rv,p,hz⟩:=I.list hq
    obtain⟨u,hu,ru⟩:=rv.get hx
    obtain⟨f0,f1,f2,f3,f4,f5⟩:=hf it (by simp)
    refine wpAny_pyNext_list_item st p.isList (x:=u) (by simpa using hu) λh' st' sb=>?_
    have I1:Inv X pins σ H { s with heap:=h' }:=I.turned (t':=s.toks) (λb o hb e=>(sb.2 b hb).trans e) f0 f1 f3 f4 f5
    obtain⟨o,e,c,d⟩:=id st'
    exact⟨u,rfl,go_of (s:={ s with heap:=h' }) e c d (by decide) ⟨x,H,I1,ru,⟨rfl,λys hy=>by rw [I.list_inj hy hq];exact hx⟩,st',λb hb=>(hf b hb).1⟩⟩
  done:=by
    intro X hP hw hK hc i pins s σ H E I hf st hg
    subst hP hw hK
    obtain⟨xs,hq,hx⟩:=hg
    obtain⟨its,rv,p,hz⟩:=I.list hq
    obtain⟨f0,f1,f2,f3,f4,f5⟩:=hf it (by simp)
    have hl:=rv.length
    exact wpAny_pyNext_list_end (I.ok.hd hc) st p.isList (by simp;omega) λh' eb=>⟨rfl,I.turned (t':=s.toks) (λb o hb e=>eb b o hb e) f0 f1 f3 f4 f5⟩
  self:=λ_ _ _ _ _ st h=>wpAny_pyIter_listiter st h
theorem turn_tuple {P:Program}{w:World}{K:PySem.W.Frag}{tg:Expr}(a it:Addr):Turn P w K tg (Itt K a) [it] it (λi h=>h.IsTupleIter it a i) where
  mem:=by simp
  obj:=λi h st b hb=>by
    have e:b=it:=by simpa using hb
    subst e
    obtain⟨o,e,c,d⟩:=st
    exact⟨o,e,λv z=>by rw [d] at z;cases z⟩
  keep:=λi h h' st k=>st.at λo e=>k it (by simp) o e
  item:=by
    intro X hP hw hK hc i pins s σ H E I hf st hg
    subst hP hw hK
    obtain⟨xs,x,hq,hx⟩:=hg
    obtain⟨its,rv,p,hz⟩:=I.tuple hq
    obtain⟨u,hu,ru⟩:=rv.get hx
    obtain⟨f0,f1,f2,f3,f4,f5⟩:=hf it (by simp)
    refine wpAny_pyNext_tuple_item st (show s.heap.IsTuple a its.toArray from p) (x:=u) (by simpa using hu) λh' st' sb=>?_
    have I1:Inv X pins σ H { s with heap:=h' }:=I.turned (t':=s.toks) (λb o hb e=>(sb.2 b hb).trans e) f0 f1 f3 f4 f5
    obtain⟨o,e,c,d⟩:=id st'
    exact⟨u,rfl,go_of (s:={ s with heap:=h' }) e c d (by decide) ⟨x,H,I1,ru,⟨rfl,λys hy=>by rw [I.tuple_inj hy hq];exact hx⟩,st',λb hb=>(hf b hb).1⟩⟩
  done:=by
    intro X hP hw hK hc i pins s σ H E I hf st hg
    subst hP hw hK
    obtain⟨xs,hq,hx⟩:=hg
    obtain⟨its,rv,p,hz⟩:=I.tuple hq
    obtain⟨f0,f1,f2,f3,f4,f5⟩:=hf it (by simp)
    have hl:=rv.length
    exact wpAny_pyNext_tuple_end (I.ok.hd hc) st (show s.heap.IsTuple a its.toArray from p) (by simp;omega) λh' eb=>⟨rfl,I.turned (t':=s.toks) (λb o hb e=>eb b o hb e) f0 f1 f3 f4 f5⟩
  self:=λ_ _ _ _ _ st h=>wpAny_pyIter_tupleiter st h
theorem turn_range {P:Program}{w:World}{K:PySem.W.Frag}{tg:Expr}(it:Addr) (lo:Int) (n:Nat):Turn P w K tg (Itr lo n) [it] it (λi h=>IsRangeIter h it (lo+(i:Nat) * 1) ((n:Int) - (i:Nat)) 1) where
  mem:=by simp
  obj:=λi h st b hb=>by
    have e:b=it:=by simpa using hb
    subst e
    exact⟨_,st,λv z=>by
      have z':Data.fields _=Data.cell v:=z
      cases z'⟩
  keep:=λi h h' st k=>k it (by simp) _ st
  item:=by
    intro X hP hw hK hc i pins s σ H E I hf st hg
    subst hP hw hK
    obtain⟨f0,f1,f2,f3,f4,f5⟩:=hf it (by simp)
    have W:=Walks.range (prog:=X.prog) (w:=X.w) (I.ok.hd hc) it lo 1 n
    refine W.item i s _ _ hg st λv h' tk hv st' kk=>?_
    obtain⟨t,rfl⟩:=hv
    have I1:Inv X pins σ H { s with heap:=h',toks:=tk }:=I.turned (λb o hb e=>kk b o (by simpa using hb) e) f0 f1 f3 f4 f5
    refine⟨_,rfl,go_of (s:={ s with heap:=h',toks:=tk }) (n:="range_iterator") st' rfl rfl (by decide) ⟨.int (lo+i),H,I1,⟨t,?_⟩,⟨rfl,rfl⟩,st',λb hb=>(hf b hb).1⟩⟩
    rw [Int.mul_one]
  done:=by
    intro X hP hw hK hc i pins s σ H E I hf st hg
    subst hP hw hK
    obtain⟨f0,f1,f2,f3,f4,f5⟩:=hf it (by simp)
    exact wpAny_pyNext_range_end (I.ok.hd hc) st (by have:n≤i:=hg;omega) λh' eb=>⟨rfl,I.turned (t':=s.toks) (λb o hb e=>eb b o hb e) f0 f1 f3 f4 f5⟩
  self:=λ_ _ _ _ _ st h=>wpAny_pyIter_rangeiter st h
end L2
namespace L2
open PySem PySem.Spec PyProof.Rows
section
variable {X:Cx}{tg:Expr}
theorem range_it {pins:List (Addr×Obj)}{σ:St}{H:Hp}{s:Shared}{R:It→Hp→Prop}{E:Value→Shared→Prop}{lo hi:Int}{t u v:Tok}{tk:Nat}(I:Inv X pins σ H s) (h1:-(2^62)≤lo) (h2:lo<2^62) (h3:-(2^62)≤hi) (h4:hi<2^62)
    (q:R (Itr lo (hi - lo).toNat) H):wpAny (model X.prog X.w) X.A (pyIter (.ref s.heap.objs.size)) (PIE X pins σ tg R) E { s with heap:=s.heap.push { cls:=.type "range",data:=.fields #[.int lo t,.int hi u,.int 1 v] },toks:=tk }:=by
  refine wpAny_pyIter_range (IsRange.new ..) (small_one h1 h2 h3 h4) ?_
  have I1:Inv X pins σ H { s with heap:=s.heap.push { cls:=.type "range",data:=.fields #[.int lo t,.int hi u,.int 1 v] },toks:=tk }:=I.kept λb o e=>Heap.get?_push_of_some _ e
  refine⟨(s.heap.push { cls:=.type "range",data:=.fields #[.int lo t,.int hi u,.int 1 v] }).objs.size,[(s.heap.push { cls:=.type "range",data:=.fields #[.int lo t,.int hi u,.int 1 v] }).objs.size],_,_,H,rfl,
    I1.kept (t':=tk) λb o e=>Heap.get?_push_of_some _ e,turn_range _ lo (hi - lo).toNat,?_,λb hb=>?_,q⟩
  · have e1:lo+((0:Nat):Int) * 1=lo:=by simp
    have e2:(((hi - lo).toNat:Nat):Int) - ((0:Nat):Int)=Builtin.Range.rangeSize lo hi 1:=by rw [rangeSize_one];split<;>omega
    show IsRangeIter _ _ (lo+((0:Nat):Int) * 1) ((((hi - lo).toNat:Nat):Int) - ((0:Nat):Int)) 1
    rw [e1,e2]
    exact Heap.get?_push_size _ rfl
  · have e:b=(s.heap.push { cls:=.type "range",data:=.fields #[.int lo t,.int hi u,.int 1 v] }).objs.size:=by simpa using hb
    subst e
    exact I1.fpOk (Nat.le_refl _) (I1.hok.fresh (Nat.le_refl _))
noncomputable def iRng1 (ta:TA):TI:=fun σ H R=>ta σ H λvs H1=>∃j:Int,vs=[.int j]∧-(2^62)≤j∧j<2^62∧R (Itr 0 j.toNat) H1
theorem pi_range1 {a:Expr}{ta:TA}{p pos:Pos}(hg:Gl X "range") (hm:X.mg "range"=none) (ha:PA X [a] ta) (hs:starEach [a] X.env=[(false,eval a X.env)]:=by rfl):PI X tg (.Call (.Name "range" p) [a] [] pos) (iRng1 ta):=by
  intro pins s σ H R I h
  refine Call_ (ld_blt I hg hm boot_range (PyProof.Rows.callWith_type1 (thn (ha pos pins s σ H _ I h) λus s1 ⟨vs,H1,I1,r1,q1⟩=>?_) hs rfl))
  obtain⟨j,e,q1,q2,q⟩:=q1
  subst e
  cases r1 with
  | cons r rr =>
    cases rr
    obtain⟨t,rfl⟩:=r
    exact call_range_1 (range_it I1 (by omega) (by omega) q1 q2 (by simpa using q))
noncomputable def tFor (wi:TI) (g:TG) (tb:TS):TS:=λD σ H=>wi σ H λJ H1=>∃W:Nat→Nat→St→Hp→Prop,(∃m,W 0 m σ H1)∧∀i m σ H,W i m σ H →
  (J.stop i H∧D.nx σ H)∨(J.go i H∧∃N:St→Hp→Prop,(∀σ' H',N σ' H'→∃m',m'<m∧W (i+1) m' σ' H')∧∀x H',J.yld i H x H'→g x σ H' fun σ2 H2=>tb { D with nx:=N,ct:=N,bk:=D.nx } σ2 H2)
noncomputable def pinsAt (fp:List Addr) (h:Heap):List (Addr×Obj):=fp.filterMap λb=>(h.get? b).map λo=>(b,o)
theorem mem_pinsAt {fp:List Addr}{h:Heap}{b:Addr}{o:Obj}(hb:b∈fp) (e:h.get? b=some o):(b,o)∈pinsAt fp h:=List.mem_filterMap.mpr ⟨b,hb,by rw [e];rfl⟩
theorem of_pinsAt {fp:List Addr}{h:Heap}{p:Addr×Obj}(hp:p∈pinsAt fp h):p.1∈fp∧h.get? p.1=some p.2:=by
  obtain⟨b,hb,e⟩:=List.mem_filterMap.mp hp
  cases q:h.get? b with
  | none=>rw [q] at e;cases e
  | some o =>
    rw [q] at e
    have e':(b,o)=p:=Option.some.inj e
    subst e'
    exact⟨hb,q⟩
theorem Inv.pinned {pins:List (Addr×Obj)}{σ:St}{H:Hp}{s:Shared}{fp:List Addr}(I:Inv X pins σ H s) (hf:∀b∈fp,FpOk X pins H b) (ho:∀b∈fp,∃o,s.heap.get? b=some o∧∀v,o.data≠.cell v):Inv X (pins++pinsAt fp s.heap) σ H s:=
  I.pins_of λp hp=>(List.mem_append.mp hp).elim (λz=>I.pin p (List.mem_append_right _ z)) λz=>by
    obtain⟨hb,e⟩:=of_pinsAt z
    obtain⟨f0,f1,f2,_⟩:=hf p.1 hb
    obtain⟨o,e',d⟩:=ho p.1 hb
    rw [e] at e';cases e'
    exact⟨e,f0,f1,f2,d⟩
theorem Inv.unpinned {pins pl:List (Addr×Obj)}{σ:St}{H:Hp}{s:Shared}(I:Inv X (pins++pl) σ H s):Inv X pins σ H s:=I.pins_of λp hp=>I.pin p (List.mem_append_right _ (List.mem_append_left _ hp))
theorem ps_for {iter:Expr}{body:List Stmt}{wi:TI}{g:TG}{tb:TS}{pos:Pos}(hp:PassesOwn (model X.prog X.w) X.A X.env X.xe) (hc:X.calm=true) (hi:PI X tg iter wi) (hg:PG X tg g) (hb:PSs X body tb)
    (hs:∀x,foldedSetIterable iter X.env x=pure x:=by intro _;rfl):PS X (.For tg iter body [] pos) (tFor wi g tb):=by
  intro pins s σ H D I h
  refine wpAny_For (thn (hi pins s σ H _ I h) λv s1 h1=>thn h1 λitv s2 h2=>?_) hs
  obtain⟨it,fp,tn,J,H2,e,I2,T,st2,f2,W,⟨m0,w0⟩,turn⟩:=h2
  subst e
  have stat:∀{H':Hp},(∀b∈fp,H' b=none)→∀b∈fp,FpOk X pins H' b:=λhn b hb=>⟨hn b hb,(f2 b hb).2⟩
  refine codeAny_forLoop_any (λn s'=>∃i σ' H',Inv X pins σ' H' s'∧tn i s'.heap∧(∀b∈fp,H' b=none)∧W i n σ' H') ?_ m0 ⟨0,σ,H2,I2,st2,λb hb=>(f2 b hb).1,w0⟩
  rintro n s3 ⟨i,σ3,H3,I3,st3,fr3,w3⟩
  rcases turn i n σ3 H3 w3 with ⟨stop,qn⟩|⟨go,N,hN,step⟩
  · refine wpAny_passesOwn hp (thn (T.done X rfl rfl rfl hc i pins s3 σ3 H3 X.xe I3 (stat fr3) st3 stop) λr s4 ⟨hr,I4⟩=>?_)
    subst hr
    exact wpAny_execs_nil ⟨σ3,H3,I4,qn⟩
  · refine wpAny_passesOwn hp (thn (T.item X rfl rfl rfl hc i pins s3 σ3 H3 X.xe I3 (stat fr3) st3 go) λr s4 ⟨u,hr,h4⟩=>?_)
    subst hr
    refine wpAny_passesOwn hp (thn h4 λ_ s5 ⟨x,H5,I5,r5,y5,st5,fr5⟩=>?_)
    have I5':=I5.pinned (stat fr5) (T.obj _ _ st5)
    refine wpAny_passesOwn hp (thn (hg _ s5 σ3 H5 x u _ I5' r5 (step x H5 y5)) λ_ s6 ⟨σ6,H6,I6,q6⟩=>?_)
    refine wpAny_passesOwn hp (thn (hb _ s6 σ6 H6 _ I6 q6) λf s7 q7=>?_)
    have again:∀{σ7:St} {H7:Hp},Inv X (pins++pinsAt fp s5.heap) σ7 H7 s7→N σ7 H7→∃m,m<n∧∃i σ' H',Inv X pins σ' H' s7∧tn i s7.heap∧(∀b∈fp,H' b=none)∧W i m σ' H':=λ{σ7 H7} I7 n7=>by
      obtain⟨m',hm,w7⟩:=hN σ7 H7 n7
      refine⟨m',hm,i+1,σ7,H7,I7.unpinned,T.keep _ _ _ st5 λb hb o e=>(I7.pin (b,o) (List.mem_append_right _ (List.mem_append_right _ (mem_pinsAt hb e)))).1,λb hb=>?_,w7⟩
      obtain⟨o,e,d⟩:=T.obj _ _ st5 b hb
      exact (I7.pin (b,o) (List.mem_append_right _ (List.mem_append_right _ (mem_pinsAt hb e)))).2.1
    cases f with
    | next=>obtain⟨σ7,H7,I7,n7⟩:=q7;exact again I7 n7
    | cont=>obtain⟨σ7,H7,I7,n7⟩:=q7;exact again I7 n7
    | brk=>obtain⟨σ7,H7,I7,q7⟩:=q7;exact⟨σ7,H7,I7.unpinned,q7⟩
    | ret v=>obtain⟨x7,σ7,H7,I7,r7,q7⟩:=q7;exact⟨x7,σ7,H7,I7.unpinned,r7,q7⟩
end
end L2
namespace L2
open PySem PySem.Spec PyProof.Rows
noncomputable abbrev R2:=V→V→Hp→VK→Prop
noncomputable def OpR (X:Cx) (f:Value→Value→Sem Value) (r:R2):Prop:=
  ∀(pins:List (Addr×Obj)) (s:Shared) (σ:St) (H:Hp) (x y:V) (v u:Value) (Q:VK),Inv X pins σ H s→RelV x v→RelV y u→r x y H Q →
    wpAny (model X.prog X.w) X.A (f v u) (EP X pins σ Q) X.xe s
noncomputable def UnR (X:Cx) (f:Value→Sem Value) (r:V→Hp→VK→Prop):Prop:=
  ∀(pins:List (Addr×Obj)) (s:Shared) (σ:St) (H:Hp) (x:V) (v:Value) (Q:VK),Inv X pins σ H s→RelV x v→r x H Q →
    wpAny (model X.prog X.w) X.A (f v) (EP X pins σ Q) X.xe s
noncomputable def CallR (X:Cx) (f:Value) (r:List V→Hp→VK→Prop):Prop:=
  ∀(pins:List (Addr×Obj)) (s:Shared) (σ:St) (H:Hp) (xs:List V) (us:List Value) (Q:VK),Inv X pins σ H s→Vals xs us→r xs H Q →
    wpAny (model X.prog X.w) X.A (call f us) (EP X pins σ Q) X.xe s
noncomputable def tOp (r:R2) (ta tb:TE):TE:=fun σ H Q=>ta σ H λx H1=>tb σ H1 λy H2=>r x y H2 Q
noncomputable def tUn (r:V→Hp→VK→Prop) (ta:TE):TE:=fun σ H Q=>ta σ H λx H1=>r x H1 Q
noncomputable def rI (C:Int→Int→Prop) (g:Int→Int→V):R2:=λx y H Q=>∃i j,x=.int i∧y=.int j∧C i j∧Q (g i j) H
noncomputable def rI0 (g:Int→Int→V):R2:=λx y H Q=>∃i j,x=.int i∧y=.int j∧Q (g i j) H
noncomputable def rU (g:Int→V):V→Hp→VK→Prop:=λx H Q=>∃i,x=.int i∧Q (g i) H
section
variable {X:Cx}{a b c:Expr}{ta tb tc:TE}{pos:Pos}
theorem binT (ha:PE X a ta) (hb:PE X b tb) {pins:List (Addr×Obj)}{s:Shared}{σ:St}{H:Hp}{R:V→V→Hp→Prop}(I:Inv X pins σ H s)
    (h:ta σ H λx H1=>tb σ H1 λy H2=>R x y H2) {Q:Value→Shared→Prop}{f:Value→Value→Sem Value}
    (hf:∀v u s2 x y H2,Inv X pins σ H2 s2→RelV x v→RelV y u→R x y H2→wpAny (model X.prog X.w) X.A (f v u) Q X.xe s2) :
    wpAny (model X.prog X.w) X.A (eval a X.env) (λv s₁=>wpAny (model X.prog X.w) X.A (eval b X.env) (λu s₂=>wpAny (model X.prog X.w) X.A (f v u) Q X.xe s₂) X.xe s₁) X.xe s:=by
  refine thn (ha pins s σ H _ I h) λv s1 ⟨x,H1,I1,r1,q1⟩=>?_
  refine thn (hb pins s1 σ H1 _ I1 q1) λu s2 ⟨y,H2,I2,r2,q2⟩=>?_
  exact hf v u s2 x y H2 I2 r1 r2 q2
theorem pe_op {op:Operator}{r:R2}(ho:OpR X (binaryOp op) r) (ha:PE X a ta) (hb:PE X b tb):PE X (.BinOp a op b pos) (tOp r ta tb):=by
  intro pins s σ H Q I h
  exact wpAny_BinOp (binT ha hb I h λv u s2 x y H2 I2 rx ry q=>ho pins s2 σ H2 x y v u Q I2 rx ry q)
theorem pe_un {op:UnaryOp}{r:V→Hp→VK→Prop}(ho:UnR X (unaryOp op) r) (ha:PE X a ta):PE X (.UnaryOp op a pos) (tUn r ta):=by
  intro pins s σ H Q I h
  exact UnaryOp_ (thn (ha pins s σ H _ I h) λv s1 ⟨x,H1,I1,r1,q1⟩=>ho pins s1 σ H1 x v Q I1 r1 q1)
theorem opI {f:Value→Value→Sem Value}{C:Int→Int→Prop}{g:Int→Int→Int}
    (rule:∀(i j:Int) (t u:Tok) (s:Shared) (Q:Value→Shared→Prop) (E:Value→Shared→Prop),C i j→Q (.int (g i j) s.toks) { s with toks:=s.toks+1 }→wpAny (model X.prog X.w) X.A (f (.int i t) (.int j u)) Q E s) :
    OpR X f (rI C λi j=>.int (g i j)):=by
  intro pins s σ H x y v u Q I rx ry h
  obtain⟨i,j,rfl,rfl,hc,q⟩:=h
  obtain⟨t,rfl⟩:=rx
  obtain⟨t',rfl⟩:=ry
  exact rule i j t t' s _ _ hc ⟨.int (g i j),H,I.tok _,⟨_,rfl⟩,q⟩
theorem opI0 {f:Value→Value→Sem Value}{g:Int→Int→Int}
    (rule:∀(i j:Int) (t u:Tok) (s:Shared) (Q:Value→Shared→Prop) (E:Value→Shared→Prop),Q (.int (g i j) s.toks) { s with toks:=s.toks+1 }→wpAny (model X.prog X.w) X.A (f (.int i t) (.int j u)) Q E s) :
    OpR X f (rI0 λi j=>.int (g i j)):=by
  intro pins s σ H x y v u Q I rx ry h
  obtain⟨i,j,rfl,rfl,q⟩:=h
  obtain⟨t,rfl⟩:=rx
  obtain⟨t',rfl⟩:=ry
  exact rule i j t t' s _ _ ⟨.int (g i j),H,I.tok _,⟨_,rfl⟩,q⟩
theorem opB0 {f:Value→Value→Sem Value}{g:Int→Int→Bool}
    (rule:∀(i j:Int) (t u:Tok) (s:Shared) (Q:Value→Shared→Prop) (E:Value→Shared→Prop),Q (.bool (g i j)) s→wpAny (model X.prog X.w) X.A (f (.int i t) (.int j u)) Q E s) :
    OpR X f (rI0 λi j=>.bl (g i j)):=by
  intro pins s σ H x y v u Q I rx ry h
  obtain⟨i,j,rfl,rfl,q⟩:=h
  obtain⟨t,rfl⟩:=rx
  obtain⟨t',rfl⟩:=ry
  exact rule i j t t' s _ _ ⟨.bl (g i j),H,I,rfl,q⟩
noncomputable def CPow (i j:Int):Prop:=0≤j∧j≤1000000∧i.natAbs<2^64
noncomputable def CMul (i j:Int):Prop:=(-(2^64)<i∧i<2^64)∨(-(2^64)<j∧j<2^64)
theorem CMul.ok {i j:Int}(h:CMul i j):IntMulOk i j:=by
  rcases h with ⟨h1,h2⟩|⟨h1,h2⟩
  · exact .of_left (intBits_le_64 h1 h2)
  · exact .of_right (intBits_le_64 h1 h2)
theorem two_pow_nn (k:Nat):(0:Int)≤2^k:=by
  rw [two_pow_cast]
  exact Int.natCast_nonneg _
theorem op_add:OpR X (binaryOp .Add) (rI0 λi j=>.int (i+j)):=opI0 λ_ _ _ _ _ _ _ q=>add_int q
theorem op_sub:OpR X (binaryOp .Sub) (rI0 λi j=>.int (i - j)):=opI0 λ_ _ _ _ _ _ _ q=>sub_int q
theorem op_shl:OpR X (binaryOp .LShift) (rI CPow λi j=>.int (i * 2^j.toNat)):=opI λ_ _ _ _ _ _ _ hc q=>lshift_int_small hc.1 hc.2.1 hc.2.2 q
theorem op_shr:OpR X (binaryOp .RShift) (rI (λ_ j=>0≤j) λi j=>.int (i / 2^j.toNat)):=opI λi j _ _ _ _ _ hc q =>
  rshift_int hc (by rw [Int.fdiv_eq_ediv_of_nonneg i (two_pow_nn _)];exact q)
theorem unI {f:Value→Sem Value}{g:Int→Int}
    (rule:∀(i:Int) (t:Tok) (s:Shared) (Q:Value→Shared→Prop) (E:Value→Shared→Prop),Q (.int (g i) s.toks) { s with toks:=s.toks+1 }→wpAny (model X.prog X.w) X.A (f (.int i t)) Q E s) :
    UnR X f (rU λi=>.int (g i)):=by
  intro pins s σ H x v Q I rx h
  obtain⟨i,rfl,q⟩:=h
  obtain⟨t,rfl⟩:=rx
  exact rule i t s _ _ ⟨.int (g i),H,I.tok _,⟨_,rfl⟩,q⟩
theorem un_neg:UnR X (unaryOp .USub) (rU λi=>.int (-i)):=unI λ_ _ _ _ _ q=>neg_int q
end
section
variable {X:Cx}{a b c:Expr}{ta tb tc:TE}{pos:Pos}
theorem op_lt:OpR X (compareOp .Lt) (rI0 λi j=>.bl (decide (i<j))):=opB0 λ_ _ _ _ _ _ _ q=>lt_int q
theorem op_le:OpR X (compareOp .LtE) (rI0 λi j=>.bl (decide (i≤j))):=opB0 λ_ _ _ _ _ _ _ q=>le_int q
theorem op_gt:OpR X (compareOp .Gt) (rI0 λi j=>.bl (decide (j<i))):=opB0 λ_ _ _ _ _ _ _ q=>gt_int q
theorem op_ge:OpR X (compareOp .GtE) (rI0 λi j=>.bl (decide (j≤i))):=opB0 λ_ _ _ _ _ _ _ q=>ge_int q
theorem OpR.or {f:Value→Value→Sem Value}{r r':R2}(h:OpR X f r) (h':OpR X f r'):OpR X f (λx y H Q=>r x y H Q∨r' x y H Q):=by
  intro pins s σ H x y v u Q I rx ry q
  rcases q with q|q
  · exact h pins s σ H x y v u Q I rx ry q
  · exact h' pins s σ H x y v u Q I rx ry q
theorem nomark (b:Expr) {op:CmpOp}(h:op≠.In:=by decide) (h2:op≠.NotIn:=by decide):behindInMarks op b=false:=by
  have e1:(op == CmpOp.In)=false:=by cases op<;>first|rfl|exact absurd rfl h
  have e2:(op == CmpOp.NotIn)=false:=by cases op<;>first|rfl|exact absurd rfl h2
  cases b<;>simp [behindInMarks,e1,e2]
theorem pe_cmpR {op:CmpOp}{r:R2}(ho:OpR X (compareOp op) r) (ha:PE X a ta) (hb:PE X b tb) (hm:behindInMarks op b=false):PE X (.Compare a [op] [b] pos) (tOp r ta tb):=by
  intro pins s σ H Q I h
  exact wpAny_Compare1 (binT ha hb I h λv u s2 x y H2 I2 rx ry q=>ho pins s2 σ H2 x y v u Q I2 rx ry q) hm
noncomputable def tTest (t:TE):TT:=fun σ H Q=>t σ H λx H'=>∃k,x=.bl k∧Q k H'
theorem pt_cmpR {op:CmpOp}{r:R2}(ho:OpR X (compareOp op) r) (ha:PE X a ta) (hb:PE X b tb) (hm:behindInMarks op b=false):PT X (.Compare a [op] [b] pos) (tTest (tOp r ta tb)):=by
  intro pins s σ H Q I h
  refine wpAny_isTrue_Compare1 (thn (ha pins s σ H _ I h) λv s1 ⟨x,H1,I1,r1,q1⟩=>thn (hb pins s1 σ H1 _ I1 q1) λu s2 ⟨y,H2,I2,r2,q2⟩ =>
    thn (ho pins s2 σ H2 x y v u _ I2 r1 r2 q2) λc s3 ⟨z,H3,I3,r3,k,e,q3⟩=>?_) hm
  subst e
  cases r3
  exact wpAny_truthy_bool ⟨H3,I3,q3⟩
theorem line63:(sizeLine:Nat)<2^63:=by rw [sizeLine_eq];decide
theorem op_add_str:OpR X (binaryOp .Add) (λx y H Q=>∃i j,x=.str i∧y=.str j∧i.length+j.length≤sizeLine∧Q (.str (i++j)) H):=by
  intro pins s σ H x y v u Q I rx ry h
  obtain⟨i,j,rfl,rfl,hz,q⟩:=h
  obtain⟨t,rfl⟩:=rx
  obtain⟨t',rfl⟩:=ry
  exact add_str (λt' tk=>⟨.str (i++j),H,I.tok _,⟨_,rfl⟩,q⟩) hz
theorem vals1 {x:V}{us:List Value}(r:Vals [x] us):∃u,us=[u]∧RelV x u:=by
  cases r with
  | cons r1 r2=>cases r2;exact⟨_,rfl,r1⟩
theorem vals2 {x y:V}{us:List Value}(r:Vals [x,y] us):∃u w',us=[u,w']∧RelV x u∧RelV y w':=by
  cases r with
  | cons r1 r2 =>
    cases r2 with
    | cons r3 r4=>cases r4;exact⟨_,_,rfl,r1,r3⟩
theorem call_max2 (hc:X.calm=true):CallR X (.builtin "max") (λxs H Q=>∃i j,xs=[.int i,.int j]∧Q (.int (if j > i then j else i)) H):=by
  intro pins s σ H xs us Q I r h
  obtain⟨i,j,rfl,q⟩:=h
  obtain⟨u,w',rfl,⟨t,rfl⟩,⟨t',rfl⟩⟩:=vals2 r
  refine max_two_ints (I.ok.hd hc) λh' tk k=>⟨_,H,I.kept k,?_,q⟩
  by_cases hj:j > i
  · rw [if_pos hj,if_pos hj];exact⟨_,rfl⟩
  · rw [if_neg hj,if_neg hj];exact⟨_,rfl⟩
theorem call_min2 (hc:X.calm=true):CallR X (.builtin "min") (λxs H Q=>∃i j,xs=[.int i,.int j]∧Q (.int (if j<i then j else i)) H):=by
  intro pins s σ H xs us Q I r h
  obtain⟨i,j,rfl,q⟩:=h
  obtain⟨u,w',rfl,⟨t,rfl⟩,⟨t',rfl⟩⟩:=vals2 r
  refine min_two_ints (I.ok.hd hc) λh' tk k=>⟨_,H,I.kept k,?_,q⟩
  by_cases hj:j<i
  · rw [if_pos hj,if_pos hj];exact⟨_,rfl⟩
  · rw [if_neg hj,if_neg hj];exact⟨_,rfl⟩
end
end L2
namespace L2
open PySem PySem.Spec PyProof.Rows
structure ObjM (h:Heap) (x dx C:Addr) (mA:Str→Option Value):Prop where
  obj:h.get? x=some (PySem.W.instObj C dx)
  ns:h.Ns1 dx mA
  ne:dx≠x
theorem lookIn_ns {h:Heap}{dx:Addr}{mA:Str→Option Value}(n:h.Ns1 dx mA):∃od,h.get? dx=some od∧∀name,PySem.W.lookIn name od=some (mA name):=by
  obtain⟨o,es,ep,ho,hd,hk,_,hm⟩:=n
  refine⟨o,ho,λname=>?_⟩
  have e:=hm name
  unfold nsFind findBy at e
  rw [←Array.find?_toList] at e
  unfold PySem.W.lookIn
  rw [hd]
  dsimp only
  split
  · rename_i y q
    rw [q] at e
    exact congrArg some e
  · rename_i q
    rw [q] at e
    have a:es.toList.any (·.refKey)=false:=by
      rw [List.any_eq_false]
      intro y hy
      obtain⟨z,t,hkey⟩:=hk y (Array.mem_toList_iff.mp hy)
      simp [DictEntry.refKey,hkey]
    have a':¬es.toList.any (·.refKey)=true:=by rw [a];exact Bool.false_ne_true
    rw [if_neg a']
    exact congrArg some e
theorem ObjM.look {h:Heap}{x dx C:Addr}{mA:Str→Option Value}(I:ObjM h x dx C mA):∃od,PySem.W.InstAt h x (PySem.W.instObj C dx) C (some od)∧∀name,PySem.W.lookIn name od=some (mA name):=
  let ⟨od,ho,hl⟩:=lookIn_ns I.ns
  ⟨od,⟨I.obj,rfl,rfl,ho⟩,hl⟩
section
variable {prog:Program}{w:World}{A:Around}{E:Value→Shared→Prop}{s:Shared}{K:PySem.W.Frag}{x dx C f:Addr}{mA:Str→Option Value}{name:Str}{v:Value}
theorem set_map {ns:List Str}{Q:Unit→Shared→Prop}(X:K.In s.heap) (I:ObjM s.heap x dx C mA)
    (hs:PySem.W.findIn K (.ref C) "__setattr__"=some (some (.builtin "object.__setattr__"))) (hp:PySem.W.plainOver K C=true) (ht:PySem.W.takerIn K C name=some none) (hh:PySem.W.hasDictIn K C=true)
    (hw:PySem.Within mA ns) (hsz:ns.length≤sizeLine)
    (h:∀h',ObjM h' x dx C (λy=>if y=name then some v else mA y)→Heap.SameBut dx s.heap h'→Q () { s with heap:=h',toks:=s.toks+2 }) :
    wpAny (model prog w) A (setAttr (.ref x) name v) Q E s:=by
  obtain⟨od,J,hl⟩:=I.look
  refine PySem.W.set_plain X J hs (PySem.W.osa_open (s:={ s with toks:=s.toks+1 }) (r:=none) X J hp ht λb=>?_)
  obtain⟨cd,hc,hd'⟩:=PySem.W.any_some hh
  have hx:s.heap.get? x=some ⟨.ref C,some dx,.plain,#[]⟩:=I.obj
  refine wpAny_bind (wpAny_pure (wpAny_bind (wpAny_bind (wpAny_loadPart hx (wpAny_bind (PySem.W.Looks.here (s:={ s with toks:=s.toks+1 }) (PySem.W.looks_clsIn X hc) ?_))))))
  rw [hd']
  refine wpAny_pure (a:=some dx) (wpAny_bind (wpAny_pure (wpAny_bind ?_)))
  refine wpAny_nsSet1 (s:={ s with toks:=s.toks+1 }) I.ns λh' hn2 hs2=>?_
  obtain⟨oD,esD,epD,hoD,hdD,hcD⟩:=hn2.count (PySem.Within.cons name v hw)
  refine wpAny_bind (wpAny_lookBehind hoD (by rw [hdD];exact pastItsLine_dict (Nat.le_trans hcD (by rw [List.length_cons];omega))) ?_)
  exact wpAny_pure (h _ ⟨(hs2.2 _ (Ne.symm I.ne)).trans I.obj,hn2,I.ne⟩ hs2)
end
noncomputable def putF (f:Str) (v:V):List (Str×V)→List (Str×V)
  | []=>[(f,v)]
  | (g,x)::r=>if g=f then (g,v)::r else (g,x)::putF f v r
theorem lookup_putF (f g:Str) (v:V):∀fs:List (Str×V),(putF f v fs).lookup g=if g=f then some v else fs.lookup g
  | []=>by
    show List.lookup g [(f,v)]=_
    by_cases h:g=f
    · have hb:(g == f)=true:=beq_iff_eq.mpr h
      simp only [List.lookup,hb,if_pos h]
    · have hb:(g == f)=false:=beq_eq_false_iff_ne.mpr h
      simp only [List.lookup,hb,if_neg h]
  | (k,x)::r=>by
    have ih:=lookup_putF f g v r
    rw [show putF f v ((k,x)::r)=(if k=f then (k,v)::r else (k,x)::putF f v r) from rfl]
    by_cases hk:k=f
    · rw [if_pos hk]
      by_cases h:g=k
      · have hb:(g == k)=true:=beq_iff_eq.mpr h
        simp only [List.lookup,hb,if_pos (h.trans hk)]
      · have hb:(g == k)=false:=beq_eq_false_iff_ne.mpr h
        simp only [List.lookup,hb,if_neg (λe:g=f=>h (e.trans hk.symm))]
    · rw [if_neg hk]
      by_cases h:g=k
      · have hb:(g == k)=true:=beq_iff_eq.mpr h
        simp only [List.lookup,hb,if_neg (λe:g=f=>hk (h.symm.trans e))]
      · have hb:(g == k)=false:=beq_eq_false_iff_ne.mpr h
        simp only [List.lookup,hb]
        exact ih
theorem keys_putF (f:Str) (v:V):∀fs:List (Str×V),f∈(putF f v fs).map (·.1)∧∀g,g∈fs.map (·.1)→g∈(putF f v fs).map (·.1)
  | []=>⟨by simp [putF],λg h=>by simp at h⟩
  | (k,x)::r=>by
    obtain⟨i1,i2⟩:=keys_putF f v r
    rw [show putF f v ((k,x)::r)=(if k=f then (k,v)::r else (k,x)::putF f v r) from rfl]
    by_cases hk:k=f
    · rw [if_pos hk]
      subst hk
      exact⟨by simp,λg h=>by simpa using h⟩
    · rw [if_neg hk]
      refine⟨?_,λg h=>?_⟩
      · rw [List.map_cons]
        exact List.mem_cons_of_mem _ i1
      · rw [List.map_cons] at h ⊢
        rcases List.mem_cons.mp h with e|e
        · exact List.mem_cons.mpr (.inl e)
        · exact List.mem_cons_of_mem _ (i2 g e)
theorem length_putF (f:Str) (v:V):∀fs:List (Str×V),(putF f v fs).length≤fs.length+1
  | []=>by simp [putF]
  | (k,x)::r=>by
    have ih:=length_putF f v r
    rw [show putF f v ((k,x)::r)=(if k=f then (k,v)::r else (k,x)::putF f v r) from rfl]
    by_cases hk:k=f
    · rw [if_pos hk,List.length_cons,List.length_cons];omega
    · rw [if_neg hk,List.length_cons,List.length_cons];omega
section
variable {P:Program}{w:World}{H H':Hp}{h h':Heap}{a C dx:Addr}{fs fs':List (Str×V)}
theorem ins_get (hok:HOk P w H h) (e:H a=some (.ins C dx fs)):∃mA,ObjM h a dx C mA∧(∀f,RelO (fs.lookup f) (mA f))∧PySem.Within mA (fs.map (·.1))∧fs.length≤1000∧H dx=some (.own a):=by
  obtain⟨d,z,ne,ob,mA,n,r,q⟩:=(show ObjOk P w H h a (.ins C dx fs) from hok a _ e)
  exact⟨mA,⟨ob,n,ne⟩,r,q,z,d⟩
end
structure Cls (K:PySem.W.Frag) (C:Addr):Prop where
  pg:PySem.W.plainGet K C Str.empty=true
  hd:PySem.W.hasDictIn K C=true
  po:PySem.W.plainOver K C=true
  sa:PySem.W.findIn K (.ref C) "__setattr__"=some (some (.builtin "object.__setattr__"))
theorem Cls.get {K:PySem.W.Frag}{C:Addr}(c:Cls K C) (f:Str):PySem.W.plainGet K C f=true:=c.pg
noncomputable def NoAttr (K:PySem.W.Frag) (C:Addr) (f:Str):Prop:=PySem.W.findIn K (.ref C) f=some none
theorem NoAttr.taker {K:PySem.W.Frag}{C:Addr}{f:Str}(n:NoAttr K C f):PySem.W.takerIn K C f=some none:=by
  unfold PySem.W.takerIn
  rw [show PySem.W.findIn K (.ref C) f=some none from n]
  rfl
structure Con (K:PySem.W.Frag) (C:Addr) (f:Str) (v:V) (u:Value):Prop where
  at_:PySem.W.findIn K (.ref C) f=some (some u)
  rel:RelV v u
  get:PySem.W.specialIn K u "__get__"=some none
  cp:PySem.W.copiedNames.contains f=false
structure Meth (K:PySem.W.Frag) (C:Addr) (m:Str) (f:Addr):Prop where
  at_:PySem.W.findIn K (.ref C) m=some (some (.ref f))
  fn:PySem.W.isFn K (.ref f)=true
  kp:PySem.W.keepIn K (.ref f)=true
section
variable {X:Cx}{pins:List (Addr×Obj)}{σ:St}{H:Hp}{s:Shared}{a C dx:Addr}{fs:List (Str×V)}{f:Str}{v:V}{A:Around}{E:Value→Shared→Prop}
theorem setattr_ok {y:V}{u:Value}{Q:Unit→Shared→Prop}(I:Inv X pins σ H s) (e:H a=some (.ins C dx fs)) (c:Cls X.K C) (n:NoAttr X.K C f) (hl:fs.length<1000) (ry:RelV y u)
    (h:∀s',Inv X pins σ (upd H a (.ins C dx (putF f y fs))) s'→Q () s'):wpAny (model X.prog X.w) A (setAttr (.ref a) f u) Q E s:=by
  obtain⟨mA,O,r,wi,_,ho⟩:=ins_get I.hok e
  have hz:(fs.map (·.1)).length≤sizeLine:=by rw [List.length_map,sizeLine_eq];omega
  refine set_map I.kIn O c.sa c.po n.taker c.hd wi hz λh' O' sb=>h _ ?_
  have hd:∃o,h'.get? dx=some o:=let ⟨o,_,_,e',_⟩:=O'.ns;⟨o,e'⟩
  refine I.write (x:=a) (e:=dx) (by rw [e];exact True.intro) (.inr ho) (λb q hb z=>(sb.2 b hb).trans z) hd ?_
  refine⟨by rw [upd_ne O.ne];exact ho,?_,O.ne,O'.obj,_,O'.ns,λg=>?_,λg hg=>?_⟩
  · have:=length_putF f y fs;omega
  · show RelO ((putF f y fs).lookup g) (if g=f then some u else mA g)
    rw [lookup_putF]
    by_cases q:g=f
    · rw [if_pos q,if_pos q];exact ry
    · rw [if_neg q,if_neg q];exact r g
  · by_cases q:g=f
    · rw [q];exact (keys_putF f y fs).1
    · refine (keys_putF f y fs).2 g (wi g λz=>hg ?_)
      show (if g=f then some u else mA g)=none
      rw [if_neg q];exact z
end
noncomputable def sFld (K:PySem.W.Frag) (ta tv:TE) (f:Str):TS:=λD σ H=>tv σ H λy H1=>ta σ H1 λx H2=>∃a C dx fs,x=.ref a∧H2 a=some (.ins C dx fs)∧Cls K C∧NoAttr K C f∧fs.length<1000 ∧
  D.nx σ (upd H2 a (.ins C dx (putF f y fs)))
section
variable {X:Cx}{o e value:Expr}{f:Str}{pos pos' tpos:Pos}{ta tv:TE}
theorem ps_fld (ha:PE X o ta) (hv:PE X value tv) (hs:swapsWith value (some (.Attribute o f pos')) pos.line X.env=pure false):PS X (.Assign [.Attribute o f pos'] value pos) (sFld X.K ta tv f):=by
  intro pins s σ H D I h
  refine plainObj_wpAny_Assign_Attribute (thn (hv pins s σ H _ I h) λu s1 ⟨y,H1,I1,ry,q⟩=>thn (ha pins s1 σ H1 _ I1 q) λov s2 ⟨x,H2,I2,rx,a,C,dx,fs,ex,ea,c,n,l,q2⟩=>?_) hs
  subst ex
  obtain rfl:ov=Value.ref a:=rx
  exact setattr_ok I2 ea c n l ry λs3 I3=>⟨σ,_,I3,q2⟩
end
section
variable {X:Cx}{pins:List (Addr×Obj)}{σ:St}{H:Hp}{s:Shared}{A:Around}{E:Value→Shared→Prop}{Q:Value→Shared→Prop}{c:Value}{b:Bool}
inductive TyOf (K:PySem.W.Frag) (H:Hp):V→Value→Prop where
  | non:TyOf K H .non (.type "NoneType")
  | bl (x:Bool):TyOf K H (.bl x) (.type "bool")
  | int (i:Int):TyOf K H (.int i) (.type "int")
  | str (x:Str):TyOf K H (.str x) (.type "str")
  | flt (x:UInt64):TyOf K H (.flt x) (.type "float")
  | lst {a:Addr} {xs:List V} (e:H a=some (.lst xs)):TyOf K H (.ref a) (.type "list")
  | frz {a:Addr} {o:Obj} {xs:List V} (e:H a=some (.frz o (.lst xs))):TyOf K H (.ref a) (.type "list")
  | tup {a:Addr} {xs:List V} (e:H a=some (.tup xs)):TyOf K H (.ref a) (.type "tuple")
  | dK {a:Addr} {kvs:List (Key×V)} (e:H a=some (.dK kvs)):TyOf K H (.ref a) (.type "dict")
  | dT {a:Addr} {kvs:List (List Key×V)} (e:H a=some (.dT kvs)):TyOf K H (.ref a) (.type "dict")
  | ins {a C dx:Addr} {fs:List (Str×V)} (e:H a=some (.ins C dx fs)) (cl:Cls K C) (ha:PySem.W.findIn K (.ref C) "__class__"=some (some (.builtin "object.__class__")))
      (hn:PySem.W.specialIn K (.builtin "object.__class__") "__get__"=some (some (.builtin "getset_descriptor.__get__"))) (htk:PySem.W.takesIn K (.builtin "object.__class__")=some true)
      (hm:PySem.W.mroIn K C (.type "object")=some true):TyOf K H (.ref a) (.ref C)
end
end L2
namespace L2
open PySem PySem.Spec PyProof.Rows
structure Room (k:Nat) (A:Around):Prop where
  hd:A.handled=none
  dp:A.depth+3 * k+5<recursionLimit
  un:A.units+16 * k+200<cLine
theorem Room.mono {j k:Nat}{A:Around}(r:Room k A) (h:j≤k):Room j A:=⟨r.hd,by have:=r.dp;omega,by have:=r.un;omega⟩
theorem Room.deeper {k:Nat}{A:Around}(r:Room (k+1) A) (env:Env):Room k (A.deeper env):=
  ⟨r.hd,by have:=r.dp;show A.depth+1+3 * k+5<_;omega,by have:=r.un;show A.units+3+16 * k+200<_;omega⟩
theorem Room.in1 {k:Nat}{A:Around}(r:Room (k+1) A):Room k A.in1:=
  ⟨r.hd,by have:=r.dp;show A.depth+3 * k+5<_;omega,by have:=r.un;show A.units+1+16 * k+200<_;omega⟩
theorem Room.depth {k:Nat}{A:Around}(r:Room k A):A.depth<recursionLimit:=by have:=r.dp;omega
theorem Room.units {k:Nat}{A:Around}(r:Room k A):A.units+64<cLine:=by have:=r.un;omega
noncomputable def tNil:TA:=λ_ H Q=>Q [] H
noncomputable def tCons (ta:TE) (tr:TA):TA:=fun σ H Q=>ta σ H λx H1=>tr σ H1 λxs H2=>Q (x::xs) H2
section
variable {X:Cx}{e:Expr}{es:List Expr}{te:TE}{t:TA}{pos:Pos}
theorem pa_nil:PA X [] tNil:=λ_ _ _ _ H Q I h=>Calls.spliced_nil ⟨[],H,I,.nil,h⟩
theorem pa_cons (ha:PE X e te) (hr:PA X es t) (hs:starEach (e::es) X.env=(false,eval e X.env)::starEach es X.env:=by rfl):PA X (e::es) (tCons te t):=by
  intro pos pins s σ H Q I h
  rw [hs]
  show wpAny _ _ (spliced ((false,eval e X.env)::backTo pos (starEach es X.env))) _ _ s
  refine Calls.spliced_cons (thn (ha pins s σ H _ I h) λu s1 ⟨x,H1,I1,r1,q1⟩=>?_)
  exact thn (hr pos pins s1 σ H1 _ I1 q1) λus s2 ⟨xs,H2,I2,r2,q2⟩=>⟨x::xs,H2,I2,.cons r1 r2,q2⟩
noncomputable def tTup (t:TA):TE:=fun σ H Q=>t σ H λxs H1=>xs.length≤sizeLine∧∀p,H1 p=none→Q (.ref p) (upd H1 p (.tup xs))
noncomputable def tLst (t:TA):TE:=fun σ H Q=>t σ H λxs H1=>xs.length≤sizeLine∧∀p,H1 p=none→Q (.ref p) (upd H1 p (.lst xs))
theorem pe_tup {x1}(h:PA X es t):PE X (.Tuple es x1 pos) (tTup t):=by
  intro pins s σ H Q I hq
  refine wpAny_Tuple_spliced (thn (h pos pins s σ H _ I hq) λus s1 ⟨xs,H1,I1,r,z,q⟩=>⟨by rw [←r.length];exact z,?_⟩)
  have hf:H1 s1.heap.objs.size=none:=I1.hok.fresh (Nat.le_refl _)
  refine⟨.ref s1.heap.objs.size,upd H1 s1.heap.objs.size (.tup xs),I1.laid (t':=s1.toks) (λb u e=>Heap.get?_push_of_some _ e) (Nat.le_refl _) ?_,rfl,q _ hf⟩
  exact⟨z,us,r,⟨_,Heap.get?_push_size _ rfl,rfl,_,rfl⟩⟩
theorem pe_lst (h:PA X es t):PE X (.List es pos) (tLst t):=by
  intro pins s σ H Q I hq
  refine wpAny_List_spliced (thn (h pos pins s σ H _ I hq) λus s1 ⟨xs,H1,I1,r,z,q⟩=>⟨by rw [←r.length];exact z,?_⟩)
  have hf:H1 s1.heap.objs.size=none:=I1.hok.fresh (Nat.le_refl _)
  refine⟨.ref s1.heap.objs.size,upd H1 s1.heap.objs.size (.lst xs),I1.laid (t':=s1.toks) (λb u e=>Heap.get?_push_of_some _ e) (Nat.le_refl _) ?_,rfl,q _ hf⟩
  exact⟨z,us,0,r,Heap.get?_push_size _ rfl⟩
end
noncomputable abbrev Sp:=List V→Hp→VK→XK→Prop
noncomputable abbrev CXT:=List Env→Hp→Shared→XK→Value→Shared→Prop
structure Env0 (P:Program) (w:World) (K:PySem.W.Frag) (mg:Str→Option Value) (base:Heap) (A:Around) (outer:List Env) (s:Shared) (H:Hp):Prop where
  frames:A.frames=some outer
  mod:Mod K mg base
  bs:∀b o,base.get? b=some o→s.heap.get? b=some o∧H b=none
  bsz:base.objs.size≤s.heap.objs.size
  funs:s.heap.FunFrames base outer
  frf:∀b∈frs outer,H b=none
  hok:HOk P w H s.heap
  bare:AllBare s.gens
noncomputable def CE (outer:List Env) (P:Program) (w:World) (H:Hp) (s:Shared) (Q:VK) (u:Value) (s':Shared):Prop:=
  ∃v H',s'.os=s.os∧AllBare s'.gens∧Un (frs outer) [] H H' s.heap s'.heap∧HOk P w H' s'.heap∧RelV v u∧Q v H'
noncomputable def CR (CX:CXT) (outer:List Env) (P:Program) (w:World) (H:Hp) (s:Shared) (Q:VK) (E:XK) (r:Result) (s':Shared):Prop:=
  match r with
  | .ok (.ret u)=>CE outer P w H s Q u s'
  | .ok _=>False
  | .error e=>CX outer H s E e s'
structure FnOk (P:Program) (w:World) (K:PySem.W.Frag) (mg:Str→Option Value) (base:Heap) (CX:CXT) (k:Nat) (f:Addr) (fd:FuncData) (ps:List Str) (sp:Sp):Prop where
  len:∀vs H Q E,sp vs H Q E→vs.length=ps.length
  run:∀(A:Around) (outer:List Env) (s:Shared) (H:Hp) (args:Args) (us:List Value) (vs:List V) (Q:VK) (E:XK),Room k A→Env0 P w K mg base A outer s H→BindsTo s fd args (ps.zip us)→Vals vs us→sp vs H Q E →
    codeAny (model P w) A (.call (.ref f) args) (CR CX outer P w H s Q E) s
theorem FnOk.mono {P:Program}{w:World}{K:PySem.W.Frag}{mg:Str→Option Value}{base:Heap}{CX:CXT}{j k:Nat}{f:Addr}{fd:FuncData}{ps:List Str}{sp:Sp}(F:FnOk P w K mg base CX j f fd ps sp) (h:j≤k) :
    FnOk P w K mg base CX k f fd ps sp:=⟨F.len,λA outer s H args us vs Q E hr=>F.run A outer s H args us vs Q E (hr.mono h)⟩
theorem FnOk.imp {P:Program}{w:World}{K:PySem.W.Frag}{mg:Str→Option Value}{base:Heap}{CX:CXT}{k:Nat}{f:Addr}{fd:FuncData}{ps:List Str}{sp sp':Sp}(F:FnOk P w K mg base CX k f fd ps sp)
    (h:∀vs H Q E,sp' vs H Q E→sp vs H Q E):FnOk P w K mg base CX k f fd ps sp':=
  ⟨λvs H Q E q=>F.len vs H Q E (h _ _ _ _ q),λA outer s H args us vs Q E hr he hb hv hs=>F.run A outer s H args us vs Q E hr he hb hv (h _ _ _ _ hs)⟩
theorem Env0.in1 {P:Program}{w:World}{K:PySem.W.Frag}{mg:Str→Option Value}{base:Heap}{A:Around}{outer:List Env}{s:Shared}{H:Hp}(e:Env0 P w K mg base A outer s H) :
    Env0 P w K mg base A.in1 outer s H:=⟨e.frames,e.mod,e.bs,e.bsz,e.funs,e.frf,e.hok,e.bare⟩
section
variable {X:Cx}{pins:List (Addr×Obj)}{σ:St}{H:Hp}{s s':Shared}
theorem Inv.env0 (I:Inv X pins σ H s):Env0 X.prog X.w X.K X.mg X.base X.A X.stack s H:=
  ⟨I.ok.frames,I.ok.mod,I.bs,Nat.le_trans I.ok.bsz I.sz,I.stack,I.stkFree,I.hok,I.bare⟩
theorem Inv.after {Q:VK}{u:Value}(I:Inv X pins σ H s) (h:CE X.stack X.prog X.w H s Q u s'):EP X pins σ Q u s':=by
  obtain⟨v,H',os,bare,un,hok,r,q⟩:=h
  obtain⟨hh,g,d,t,os'⟩:=s'
  obtain rfl:os'=s.os:=os
  exact⟨v,H',I.call (h':=hh) (g':=g) (d':=d) (t':=t) (ch:=[]) un hok bare (λb z=>absurd z (by simp)),r,q⟩
end
noncomputable def tCall (sp:Sp) (dvs:List V) (E:XK) (t:TA):TE:=fun σ H Q=>t σ H λvs H1=>sp (vs++dvs) H1 Q E
noncomputable def Binds (K:PySem.W.Frag) (fd:FuncData) (ps:List Str) (ds:List Value):Prop:=
  ∀(s:Shared) (us:List Value),K.In s.heap→(us++ds).length=ps.length→BindsTo s fd ⟨us,[]⟩ (ps.zip (us++ds))
theorem Binds.all {K:PySem.W.Frag}{fd:FuncData}{ps:List Str}(h:∀us:List Value,us.length=ps.length→bindArgs fd ⟨us,[]⟩=pure (ps.zip us)):Binds K fd ps []:=λs us _ hl=>by
  rw [List.append_nil] at hl ⊢
  exact .of_eq (h us hl)
noncomputable def Passes (CX:CXT) (X:Cx) (E:XK):Prop:=∀(pins:List (Addr×Obj)) (σ:St) (H:Hp) (s:Shared) (e:Value) (s':Shared),Inv X pins σ H s→CX X.stack H s E e s'→X.xe e s'
section
variable {X:Cx}{CX:CXT}{k:Nat}{f C:Addr}{fd:FuncData}{ps:List Str}{sp:Sp}{dvs:List V}{ds:List Value}{E:XK}{x m:Str}{p pos apos:Pos}{e o:Expr}{es:List Expr}{ta:TE}{t:TA}
theorem run_fn {pins:List (Addr×Obj)}{σ:St}{H:Hp}{s:Shared}{Q:VK}{us:List Value}{vs:List V}(F:FnOk X.prog X.w X.K X.mg X.base CX k f fd ps sp) (hr:Room k X.A) (hb:Binds X.K fd ps ds) (hd:Vals dvs ds) (hx:Passes CX X E)
    (I:Inv X pins σ H s) (r:Vals vs us) (h:sp (vs++dvs) H Q E):wpAny (model X.prog X.w) X.A (call (.ref f) us) (EP X pins σ Q) X.xe s:=by
  have r2:Vals (vs++dvs) (us++ds):=r.append hd
  have hl:(us++ds).length=ps.length:=by rw [←r2.length];exact F.len _ _ _ _ h
  refine wpAny_call (codeAny_mono (F.run X.A X.stack s H ⟨us,[]⟩ (us++ds) (vs++dvs) Q E hr I.env0 (hb s us I.kIn hl) r2 h) λr s' hq=>?_)
  cases r with
  | error e=>exact hx pins σ H s e s' I hq
  | ok fl =>
    cases fl with
    | ret u=>exact I.after hq
    | next=>exact False.elim hq
    | brk=>exact False.elim hq
    | cont=>exact False.elim hq
theorem pe_call (F:FnOk X.prog X.w X.K X.mg X.base CX k f fd ps sp) (hr:Room k X.A) (hg:Gl X x) (hm:X.mg x=some (.ref f)) (hk:PySem.W.keepIn X.K (.ref f)=true) (hb:Binds X.K fd ps ds) (hd:Vals dvs ds) (hx:Passes CX X E)
    (ha:PA X (e::es) t) (hdb:(x == ("__debug__":Str))=false:=by decide) (he:starEach (e::es) X.env=(false,eval e X.env)::starEach es X.env:=by rfl) (hpl:(backTo pos (starEach es X.env)).any (·.1)=false:=by rfl) :
    PE X (.Call (.Name x p) (e::es) [] pos) (tCall sp dvs E t):=by
  intro pins s σ H Q I h
  refine wpAny_Call_Name_kw (ld_glob I hg hm ?_ hdb)
  refine PySem.W.callWith_K (h₀:=X.base) I.ok.mod.kin hk (thn (ha pos pins s σ H _ I h) λus s1 ⟨vs,H1,I1,r,q⟩=>⟨I1.kIn,?_⟩) he hpl
  exact run_fn F hr hb hd hx I1 r q
structure Mk (K:PySem.W.Frag) (C f:Addr):Prop where
  makes:PySem.W.makesIn K C=true
  init:PySem.W.findIn K (.ref C) "__init__"=some (some (.ref f))
  fn:PySem.W.isFn K (.ref f)=true
  kp:PySem.W.keepIn K (.ref C)=true
end
noncomputable def PK (X:Cx) (kws:List Keyword) (t:TA):Prop:=
  ∀(pos:Pos) (pins:List (Addr×Obj)) (s:Shared) (σ:St) (H:Hp) (Q:List V→Hp→Prop),Inv X pins σ H s→t σ H Q→wpAny (model X.prog X.w) X.A (evalAll ((backToKw pos (keywordEach kws X.env)).map (·.2))) (AP X pins σ Q) X.xe s
section
variable {X:Cx}{CX:CXT}{k:Nat}{f C:Addr}{fd:FuncData}{ps ks:List Str}{sp:Sp}{E:XK}{x m:Str}{p pos apos kpos:Pos}{e o:Expr}{es:List Expr}{kws:List Keyword}{te ta:TE}{t tk:TA}{nm:Option Str}
theorem pk_nil:PK X [] tNil:=λ_ _ _ _ H Q I h=>wpAny_evalAll_nil ⟨[],H,I,.nil,h⟩
theorem pk_cons (ha:PE X e te) (hr:PK X kws t):PK X (⟨nm,e,kpos⟩::kws) (tCons te t):=by
  intro pos pins s σ H Q I h
  show wpAny _ _ (evalAll ((do let v ←eval e X.env;standAt pos;pure v)::(backToKw pos (keywordEach kws X.env)).map (·.2))) _ _ s
  refine wpAny_evalAll_cons (wpAny_bind (thn (ha pins s σ H _ I h) λu s1 ⟨x,H1,I1,r1,q1⟩=>wpAny_bind (wpAny_standAt (wpAny_pure ?_))))
  exact thn (hr pos pins s1 σ H1 _ I1 q1) λus s2 ⟨xs,H2,I2,r2,q2⟩=>⟨x::xs,H2,I2,.cons r1 r2,q2⟩
structure KBinds (K:PySem.W.Frag) (fd:FuncData) (ps ks:List Str) (g:List Value→List Value→List Value) (gV:List V→List V→List V):Prop where
  to:∀(s:Shared) (us ws:List Value),K.In s.heap→(g us ws).length=ps.length→BindsTo s fd ⟨us,ks.zip ws⟩ (ps.zip (g us ws))
  rel:∀{vs:List V} {us:List Value} {zs:List V} {ws:List Value},Vals vs us→Vals zs ws→Vals (gV vs zs) (g us ws)
variable {g:List Value→List Value→List Value}{gV:List V→List V→List V}
end
structure FnScope (N P:List Str) (sc:Scope):Prop where
  kind:sc.kind=.function
  co:sc.isCoroutine=false
  gen:sc.isGenerator=false
  nd:N.Nodup
  pre:N.take P.length=P
  par:∀x∈P,sc.names.lookup x=some .local∨sc.names.lookup x=some .cell
  nofree:∀y∈sc.names,y.2≠.free
theorem bindL_out {kindOf:Str→Option NameKind}{x:Str}:∀{binds:List (Str×Value)}{m:Str→Option Value},(∀v,(x,v)∉binds)→bindL kindOf binds m x=m x
  | [],_,_=>rfl
  | (n,v)::r,m,h=>by
    unfold bindL
    rw [bindL_out λw hw=>h w (List.mem_cons_of_mem _ hw)]
    split
    · have:x≠n:=by rintro rfl;exact h v List.mem_cons_self
      simp [this]
    · rfl
theorem bindC_out {kindOf:Str→Option NameKind}{x:Str}:∀{binds:List (Str×Value)}{m:Str→Option Value},(∀v,(x,v)∉binds)→bindC kindOf binds m x=m x
  | [],_,_=>rfl
  | (n,v)::r,m,h=>by
    unfold bindC
    rw [bindC_out λw hw=>h w (List.mem_cons_of_mem _ hw)]
    split
    · rfl
    · have:x≠n:=by rintro rfl;exact h v List.mem_cons_self
      simp [this]
theorem bindL_get {kindOf:Str→Option NameKind}{x:Str}{v:Value}:∀{P:List Str}{vs:List Value}{i:Nat}{m:Str→Option Value},P.Nodup→P[i]?=some x→vs[i]?=some v→kindOf x=some .local →
    bindL kindOf (P.zip vs) m x=some v
  | [],_,_,_,_,h,_,_=>by simp at h
  | _::_,[],_,_,_,_,h,_=>by simp at h
  | p::P,w::vs,0,m,nd,h1,h2,hk=>by
    simp at h1 h2;subst h1;subst h2
    show bindL kindOf ((p,w)::P.zip vs) m p=_
    unfold bindL
    rw [bindL_out λv hv=>(List.nodup_cons.mp nd).1 (List.of_mem_zip hv).1,if_pos hk]
    simp
  | p::P,w::vs,i+1,m,nd,h1,h2,hk=>by
    show bindL kindOf ((p,w)::P.zip vs) m x=_
    unfold bindL
    exact bindL_get (i:=i) (List.nodup_cons.mp nd).2 (by simpa using h1) (by simpa using h2) hk
theorem bindC_get {kindOf:Str→Option NameKind}{x:Str}{v:Value}:∀{P:List Str}{vs:List Value}{i:Nat}{m:Str→Option Value},P.Nodup→P[i]?=some x→vs[i]?=some v→kindOf x≠some .local →
    bindC kindOf (P.zip vs) m x=some v
  | [],_,_,_,_,h,_,_=>by simp at h
  | _::_,[],_,_,_,_,h,_=>by simp at h
  | p::P,w::vs,0,m,nd,h1,h2,hk=>by
    simp at h1 h2;subst h1;subst h2
    show bindC kindOf ((p,w)::P.zip vs) m p=_
    unfold bindC
    rw [bindC_out λv hv=>(List.nodup_cons.mp nd).1 (List.of_mem_zip hv).1,if_neg hk]
    simp
  | p::P,w::vs,i+1,m,nd,h1,h2,hk=>by
    show bindC kindOf ((p,w)::P.zip vs) m x=_
    unfold bindC
    exact bindC_get (i:=i) (List.nodup_cons.mp nd).2 (by simpa using h1) (by simpa using h2) hk
noncomputable def start (N:List Str) (vs:List V):St:=vs.map some++List.replicate (N.length - vs.length) none
noncomputable def cxOf (CX:CXT) (P:Program) (w:World) (K:PySem.W.Frag) (mg:Str→Option Value) (base:Heap) (N:List Str) (qual:Str) (scope:Scope) (f:Addr) (cd:Value) (A:Around) (outer:List Env) (s:Shared) (H:Hp) (E:XK):Cx where
  prog:=P
  w:=w
  K:=K
  mg:=mg
  base:=base
  A:=A.deeper (envOfC qual scope s.heap.objs.size f cd)
  N:=N
  s₀:=s
  H₀:=H
  env:=envOfC qual scope s.heap.objs.size f cd
  outer:=outer
  stack:=envOfC qual scope s.heap.objs.size f cd::outer
  ex:=[]
  calm:=true
  fn:=λ_=>true
  pn:=[]
  xe:=λe s'=>wpAny (model P w) (A.deeper (envOfC qual scope s.heap.objs.size f cd)) (leaving (envOfC qual scope s.heap.objs.size f cd) e) (λ_ s''=>CX outer H s E e s'') (λe' s''=>CX outer H s E e' s'') s'
theorem cell_has {sc:Scope}{n:Nat}{x:Str}(h:sc.names.lookup x=some .cell):∃c,(cellsFrom n sc.names []).lookup x=some c:=by
  have q:=PySem.W.cellsFrom_some sc.names n [] (.inl h)
  exact Option.isSome_iff_exists.mp q
theorem inv_start {CX:CXT}{P:Program}{w:World}{K:PySem.W.Frag}{mg:Str→Option Value}{base:Heap}{N ps:List Str}{qual:Str}{scope:Scope}{f:Addr}{cd:Value}{A:Around}{outer:List Env}{s s1:Shared}{H:Hp}{E:XK}{us:List Value}{vs:List V}
    (S:FnScope N ps scope) (hd:A.handled=none) (e0:Env0 P w K mg base A outer s H) (hl:vs.length=ps.length) (r:Vals vs us)
    (x:InCallC s s.heap.objs.size (bindL (envOfC qual scope s.heap.objs.size f cd).kindOf (ps.zip us) λ_=>none) (cellsFrom (s.heap.objs.size+1) scope.names []) (bindC (envOfC qual scope s.heap.objs.size f cd).kindOf (ps.zip us) λ_=>none) s1) :
    Inv (cxOf CX P w K mg base N qual scope f cd A outer s H E) [] (start N vs) H s1:=by
  have hpl:ps.length≤N.length:=by have:=congrArg List.length S.pre;rw [List.length_take] at this;omega
  obtain⟨h1,tk,rfl,hk⟩:=x.done
  have noA:∀b:Addr,b∉(cxOf CX P w K mg base N qual scope f cd A outer s H E).ex:=λb z=>absurd (show b∈([]:List Addr) from z) (by simp)
  refine⟨⟨e0.mod,S.kind,rfl,rfl,Nat.le_refl _,λy z c h1 h2=>?_,λy hy=>?_,λy c _ h=>?_,λ_=>hd,Around.frames_deeper e0.frames,.inr ⟨rfl,rfl⟩,λb z=>absurd z (noA b),e0.bs,e0.bsz,λb _ _=>noA b,λb z=>absurd z (noA b),e0.funs,e0.frf⟩,
    rfl,e0.bare,Un.kept hk,⟨_,x.toInCall.ns,λi y v h1 h2 h3=>?_⟩,λy c h=>⟨_,x.cell y c h⟩,e0.hok.fresh (Nat.le_refl _),λy c h=>?_,λp hp=>absurd (show p∈([]:List (Addr×Obj)) from hp) (by simp),e0.hok.kept hk,?_⟩
  · exact name_of_addr x.apart (PySem.mem_of_lookup h1) (PySem.mem_of_lookup h2)
  · have hy:scope.names.lookup y=some .cell∨scope.names.lookup y=some .free:=hy
    rcases hy with hy|hy
    · exact cell_has hy
    · exact absurd rfl (S.nofree _ (PySem.mem_of_lookup hy))
  · exact Nat.le_of_lt (x.above y c (PySem.mem_of_lookup h))
  · have hi:i<vs.length:=by
      unfold start at h2
      by_cases hi:i<vs.length
      · exact hi
      · rw [List.getElem?_append_right (by simpa using hi)] at h2
        rw [List.getElem?_replicate] at h2
        split at h2<;>cases h2
    have ha:vs[i]?=some v:=by
      unfold start at h2
      rw [List.getElem?_append_left (by simpa using hi),List.getElem?_map] at h2
      cases e:vs[i]? with
      | none=>rw [e] at h2;cases h2
      | some a=>rw [e] at h2;cases h2;rfl
    obtain⟨u,hu,rv⟩:=r.get ha
    have hp:ps[i]?=some y:=by
      rw [←S.pre,List.getElem?_take_of_lt (by omega)];exact h1
    have ndP:ps.Nodup:=by rw [←S.pre];exact S.nd.sublist (List.take_sublist _ _)
    refine⟨u,rv,?_⟩
    rcases S.par y (List.mem_of_getElem? hp) with k|k
    · exact .inl ⟨k,bindL_get ndP hp hu k⟩
    · obtain⟨c,e⟩:=cell_has (n:=s.heap.objs.size+1) k
      refine .inr ⟨.inl k,c,e,?_⟩
      have q:=x.cell y c e
      rw [bindC_get ndP hp hu (by show scope.names.lookup y≠_;rw [k];decide)] at q
      exact q
  · exact e0.hok.fresh (Nat.le_of_lt (x.above y c (PySem.mem_of_lookup h)))
  · unfold start
    show _=N.length
    rw [List.length_append,List.length_map,List.length_replicate]
    omega
theorem fn_of {CX:CXT}{P:Program}{w:World}{K:PySem.W.Frag}{mg:Str→Option Value}{base:Heap}{k:Nat}{f:Addr}{name qual:Str}{params:Arguments}{body:List Stmt}{scope:Scope}{dV kV doc pm cdv ct oc:Value}{an od:Option Addr}
    {osl:Array (Option Value)} {N ps:List Str} {sp:Sp} (lk:K.lookup f=some ⟨oc,od,.func (PySem.W.fnOf name qual params body scope dV kV doc pm an cdv ct),osl⟩) (hcd:PySem.W.codeIn K cdv qual=true) (S:FnScope N ps scope)
    (len:∀vs H Q E,sp vs H Q E→vs.length=ps.length)
    (hbody:∀(A:Around) (outer:List Env) (s:Shared) (H:Hp) (vs:List V) (Q:VK) (E:XK),Room k (A.deeper (envOfC qual scope s.heap.objs.size f cdv))→sp vs H Q E →
      ∃t,PSs (cxOf CX P w K mg base N qual scope f cdv A outer s H E) body t∧t { nx:=λ_ H'=>Q .non H',rt:=Q } (start N vs) H) :
    FnOk P w K mg base CX (k+1) f (PySem.W.fnOf name qual params body scope dV kV doc pm an cdv ct) ps sp:=by
  refine⟨len,λA outer s H args us vs Q E hr e0 hb r hsp=>?_⟩
  have hl:=len _ _ _ _ hsp
  have KX:K.In s.heap:=e0.mod.kin.keeps λb o e=>(e0.bs b o e).1
  have lim:s.heap.NoLimit:=e0.mod.nolimit.keeps λb o e=>(e0.bs b o e).1
  have hkind:∀y∈ps.zip us,scope.names.lookup y.1=some .local∨(scope.names.lookup y.1=some .cell∧((cellsFrom (s.heap.objs.size+1) scope.names []).lookup y.1).isSome=true):=λ⟨n,v⟩ hy=>by
    rcases S.par n (List.of_mem_zip hy).1 with q|q
    · exact .inl q
    · exact .inr ⟨q,PySem.W.cellsFrom_some _ _ _ (.inl q)⟩
  refine codeAny_call_function hr.depth (KX _ _ lk) rfl S.co S.gen rfl (PySem.W.codeRec_of KX hcd) (hb _ _ _ _ ?_)
  refine wpAny_newFunctionEnv_cells S.kind hkind λenv he s1 x=>?_
  subst he
  refine⟨lim.keeps x.toInCall.keep,codeAny_func ?_⟩
  obtain⟨t,ht,hq⟩:=hbody A outer s H vs Q E (hr.deeper _) hsp
  have I:Inv (cxOf CX P w K mg base N qual scope f cdv A outer s H E) [] (start N vs) H s1:=inv_start S hr.hd e0 hl r x
  refine wpAny_mono (ht [] s1 (start N vs) H _ I hq) (λfl s' hs=>?_) λe s' hs=>hs
  have fin:∀{σ':St} {H':Hp} {v:V} {u:Value},Inv (cxOf CX P w K mg base N qual scope f cdv A outer s H E) [] σ' H' s'→RelV v u→Q v H'→CE outer P w H s Q u s':=
    λ{σ' H' v u} J rv q=>⟨v,H',J.os,J.bare,J.base,J.hok,rv,q⟩
  cases fl with
  | ret u =>
    obtain⟨v,σ',H',J,rv,q⟩:=hs
    exact fin J rv q
  | next =>
    obtain⟨σ',H',J,q⟩:=hs
    exact fin (v:=V.non) (u:=Value.none) J rfl q
  | brk =>
    obtain⟨_,_,_,q⟩:=hs
    exact False.elim q
  | cont =>
    obtain⟨_,_,_,q⟩:=hs
    exact False.elim q
end L2
namespace L2
open PySem PySem.Spec PyProof.Rows
section
variable {X:Cx}{x:Str}{p pos:Pos}{e:Expr}{es:List Expr}{t:TA}{id T:String}{r:List V→Hp→VK→Prop}
noncomputable def tCB (r:List V→Hp→VK→Prop) (t:TA):TE:=fun σ H Q=>t σ H λvs H1=>r vs H1 Q
theorem pe_callB (hc:CallR X (.builtin id) r) (hg:Gl X x) (hm:X.mg x=none) (hv:bootBuiltins x=some (.builtin id)) (ha:PA X (e::es) t) (hn:x≠"__name__":=by decide) (hdb:(x == ("__debug__":Str))=false:=by decide)
    (he:starEach (e::es) X.env=(false,eval e X.env)::starEach es X.env:=by rfl) (hpl:(backTo pos (starEach es X.env)).any (·.1)=false:=by rfl):PE X (.Call (.Name x p) (e::es) [] pos) (tCB r t):=by
  intro pins s σ H Q I h
  refine wpAny_Call_Name_kw (ld_blt I hg hm hv ?_ hn hdb)
  exact PyProof.Rows.callWith_builtin1 (thn (ha pos pins s σ H _ I h) λus s1 ⟨vs,H1,I1,r1,q1⟩=>hc pins s1 σ H1 vs us Q I1 r1 q1) he hpl
theorem pe_callTy (hc:CallR X (.type T) r) (hg:Gl X x) (hm:X.mg x=none) (hv:bootBuiltins x=some (.type T)) (ha:PA X (e::es) t) (hn:x≠"__name__":=by decide) (hdb:(x == ("__debug__":Str))=false:=by decide)
    (he:starEach (e::es) X.env=(false,eval e X.env)::starEach es X.env:=by rfl) (hpl:(backTo pos (starEach es X.env)).any (·.1)=false:=by rfl):PE X (.Call (.Name x p) (e::es) [] pos) (tCB r t):=by
  intro pins s σ H Q I h
  refine wpAny_Call_Name_kw (ld_blt I hg hm hv ?_ hn hdb)
  exact PyProof.Rows.callWith_type1 (thn (ha pos pins s σ H _ I h) λus s1 ⟨vs,H1,I1,r1,q1⟩=>hc pins s1 σ H1 vs us Q I1 r1 q1) he hpl
end
end L2
namespace HT
open PySem PyProof.Rows
section
open PySem.SeqAt
open PySem.AutoSeq1 (wpAny_loadPart')
open PySem.MeetsSeq PySem.MeetsSeq2 PySem.MeetsSeq3
end
section
variable {prog:Program}{w:World}{A:Around}{E:Value→Shared→Prop}{s:Shared}
theorem cat_tup {t b:Addr}{vs ws:List Value}{Q:Value→Shared→Prop}(ht:IsTup s.heap t vs.toArray) (hb:IsTup s.heap b ws.toArray) (hv:vs≠[])
    (h1:ws=[]→Q (.ref t) s) (h2:ws≠[]→Q (.ref s.heap.objs.size) { s with heap:=s.heap.push { cls:=.type "tuple",data:=.seq (vs++ws).toArray } })
    (hsz:vs.length+ws.length≤sizeLine):wpAny (model prog w) A (binaryOp .Add (.ref t) (.ref b)) Q E s:=by
  obtain⟨⟨cls,dd,data,sl⟩,ho,hc,n,hd⟩:=id ht
  obtain⟨⟨cls2,dd2,data2,sl2⟩,ho2,hc2,n2,hd2⟩:=id hb
  simp only at hc hd hc2 hd2
  subst hc hd hc2 hd2
  have e:vs.toArray++ws.toArray=(vs++ws).toArray:=by simp
  by_cases hw:ws=[]
  · exact concat_meets ⟨_,ho,rfl⟩ ⟨_,ho2,rfl⟩ noFill_tuple_add seq_tuple_add PySem.F.slot_tuple_add PySem.F.entry_tuple_add (PySem.F.args_tuple_add_2 _ _)
      (tuple_addW1 t b vs.toArray ws.toArray n n2 dd dd2 sl sl2 (by simpa using hv) (by simp [hw])) ⟨ho,ho2,h1 hw⟩
  · refine concat_meets ⟨_,ho,rfl⟩ ⟨_,ho2,rfl⟩ noFill_tuple_add seq_tuple_add PySem.F.slot_tuple_add PySem.F.entry_tuple_add (PySem.F.args_tuple_add_2 _ _)
      (tuple_addW2 t b vs.toArray ws.toArray n n2 dd dd2 sl sl2 (by simpa using hv) (by simpa using hw) (by rw [List.size_toArray,List.size_toArray];exact hsz)) ⟨ho,ho2,?_⟩
    rw [e]
    exact h2 hw
noncomputable def sIx (n d:Nat):Option Int→Nat
  | none=>d
  | some v=>if v<0 then (v+(n:Int)).toNat else min v.toNat n
theorem sIx_le (n d:Nat) (hd:d≤n) (o:Option Int):sIx n d o≤n:=by
  cases o with
  | none=>exact hd
  | some v =>
    show (if v<0 then (v+(n:Int)).toNat else min v.toNat n)≤n
    by_cases hv:v<0
    · rw [if_pos hv];omega
    · rw [if_neg hv];exact Nat.min_le_right _ _
theorem clip_eq (v:Int) (n d:Nat):(if v<0 then max (v+(n:Int)) 0 else min v (n:Int))=((sIx n d (some v):Nat):Int):=by
  show (if v<0 then max (v+(n:Int)) 0 else min v (n:Int))=(((if v<0 then (v+(n:Int)).toNat else min v.toNat n):Nat):Int)
  by_cases hv:v<0
  · simp only [if_pos hv];omega
  · simp only [if_neg hv];omega
theorem adjust_gen (lo hi:Option Int) (n:Nat):Builtin.Slice.sliceAdjust lo hi 1 (n:Int)=(((sIx n 0 lo:Nat):Int),((sIx n n hi:Nat):Int)):=by
  have h1:¬((1:Int)<0):=by omega
  unfold Builtin.Slice.sliceAdjust
  simp only [h1,if_false]
  refine Prod.ext ?_ ?_
  · cases lo with
    | none=>rfl
    | some v=>exact clip_eq v n 0
  · cases hi with
    | none=>rfl
    | some v=>exact clip_eq v n n
theorem places_gen (i j:Nat):Builtin.Slice.slicePlaces (i:Int) (j:Int) 1=j - i:=by
  unfold Builtin.Slice.slicePlaces
  have h1:(1:Int) > 0:=by omega
  simp only [h1,if_true,Int.ediv_one]
  split<;>omega
theorem slicePart_ {v:Value}{o:Option Int}{Q:Option Int→Shared→Prop}(p:IsPart v o) (h:Q o s):wpAny (model prog w) A (Builtin.Slice.slicePartIndex v) Q E s:=by
  cases p with
  | none=>exact slicePart_none h
  | int i t=>exact slicePart_int h
theorem sliceApplied_gen {sl:Addr}{vl vu:Value}{lo hi:Option Int}{n:Nat}{Q:Int×Int×Nat→Shared→Prop}(hs:s.heap.IsSliceOf sl vl vu .none) (pl:IsPart vl lo) (pu:IsPart vu hi)
    (h:Q (((sIx n 0 lo:Nat):Int),1,sIx n n hi - sIx n 0 lo) s):wpAny (model prog w) A (Builtin.Slice.sliceApplied (.ref sl) (pure (n:Int))) Q E s:=by
  obtain⟨os,hos,hcs,hds⟩:=id hs
  unfold Builtin.Slice.sliceApplied Builtin.Slice.sliceFields
  refine wpAny_bind (wpAny_bind (wpAny_field hos hds (x:=vl) rfl (wpAny_bind (wpAny_field hos hds (x:=vu) rfl (wpAny_bind (wpAny_field hos hds (x:=.none) rfl (wpAny_pure ?_)))))))
  refine wpAny_bind (slicePart_none ?_)
  show wpAny _ _ (if ((1:Int) == 0)=true then _ else _) _ _ s
  rw [if_neg (by decide)]
  refine wpAny_bind (slicePart_ pl (wpAny_bind (slicePart_ pu (wpAny_bind (wpAny_pure ?_)))))
  show wpAny _ _ (match Builtin.Slice.sliceAdjust lo hi 1 (n:Int) with|(lo,hi)=>pure (lo,(1:Int),Builtin.Slice.slicePlaces lo hi 1)) _ _ s
  rw [adjust_gen lo hi n]
  show wpAny _ _ (pure (((sIx n 0 lo:Nat):Int),(1:Int),Builtin.Slice.slicePlaces ((sIx n 0 lo:Nat):Int) ((sIx n n hi:Nat):Int) 1)) _ _ s
  rw [places_gen]
  exact wpAny_pure h
theorem pick_gen (xs:Array Value) (i k:Nat):((List.range k).filterMap λ(m:Nat)=>xs[((i:Int)+(m:Int) * 1).toNat]?).toArray=((xs.toList.drop i).take k).toArray:=by
  have e:(λ(m:Nat)=>xs[((i:Int)+(m:Int) * 1).toNat]?)=λm=>xs[i+m]?:=by
    funext m
    have:((i:Int)+(m:Int) * 1).toNat=i+m:=by omega
    rw [this]
  rw [e]
  have:=pick_run xs i k
  rw [List.filterMap_map] at this
  have e2:((λx=>xs[x]?) ∘ λx=>i+x)=λm=>xs[i+m]?:=rfl
  rw [e2] at this
  rw [this]
theorem getItem_tuple_cut {t sl:Addr}{items:Array Value}{vl vu:Value}{lo hi:Option Int}{Q:Value→Shared→Prop}(ht:IsTup s.heap t items) (hs:s.heap.IsSliceOf sl vl vu .none) (pl:IsPart vl lo) (pu:IsPart vu hi)
    (hw:¬(sIx items.size 0 lo=0∧sIx items.size items.size hi=items.size))
    (h:Q (.ref s.heap.objs.size) { s with heap:=s.heap.push { cls:=.type "tuple",data:=.seq ((items.toList.drop (sIx items.size 0 lo)).take (sIx items.size items.size hi - sIx items.size 0 lo)).toArray } })
    (hsz:items.size≤sizeLine):wpAny (model prog w) A (getItem (.ref t) (.ref sl)) Q E s:=by
  have htake:sizeOk (.seq ((items.toList.drop (sIx items.size 0 lo)).take (sIx items.size items.size hi - sIx items.size 0 lo)).toArray):=by
    show ((items.toList.drop (sIx items.size 0 lo)).take (sIx items.size items.size hi - sIx items.size 0 lo)).toArray.size≤sizeLine
    rw [List.size_toArray,List.length_take,List.length_drop,Array.length_toList]
    omega
  have hj:sIx items.size items.size hi≤items.size:=sIx_le _ _ (Nat.le_refl _) hi
  obtain⟨os,hos,hcs,hds⟩:=id hs
  have hTs:s.TypeIs (.ref sl) "slice":=⟨os,hos,hcs⟩
  unfold getItem
  try with_reducible refine wpAny_holding ?_
  first|refine wpAny_bind (wpAny_pure ?_)|skip
  refine wpAny_bind (wpAny_sequenceKey ht.typeIs (by decide) ?_)
  refine wpAny_bind (wpAny_callSpecial?_slot (name:=Str.ofString "__getitem__") ht.typeIs PyProof.Rows.slot_tuple_getitem
    (wpAny_call_entry PyProof.Rows.slot_tuple_getitem ht.typeIs entry_tuple_getitem ?_ (args_tuple_getitem _ _)))
  show wpAny _ _ (Builtin.Tuple.tupleItemsOf (.ref t) >>= _) _ _ s
  refine wpAny_bind (tupleItemsOf_ ht ?_)
  refine wpAny_bind (wpAny_typeOf hTs ?_)
  rw [if_pos (by decide)]
  refine wpAny_bind (sliceApplied_gen hs pl pu ?_)
  have hno:¬((((sIx items.size 0 lo:Nat):Int) == 0&&(1:Int) == 1&&(sIx items.size items.size hi - sIx items.size 0 lo) == items.size)=true):=by
    intro q
    rw [Bool.and_eq_true,Bool.and_eq_true] at q
    have q1:((sIx items.size 0 lo:Nat):Int)=0:=eq_of_beq q.1.1
    have q2:sIx items.size items.size hi - sIx items.size 0 lo=items.size:=eq_of_beq q.2
    exact hw ⟨by omega,by omega⟩
  show wpAny _ _ (if (((sIx items.size 0 lo:Nat):Int) == 0&&(1:Int) == 1&&(sIx items.size items.size hi - sIx items.size 0 lo) == items.size)=true then _ else _) _ _ s
  rw [if_neg hno,pick_gen]
  first
    | exact wpAny_bind (m:=Builtin.Tuple.tupleExact _) (wpAny_newObj_type (wpAny_pure ⟨_,rfl,wpAny_pure h⟩) htake)
    | exact wpAny_bind (m:=Builtin.Tuple.tupleExact _) (wpAny_newObj_type (wpAny_bind (wpAny_pure (wpAny_pure ⟨_,rfl,wpAny_pure h⟩))) htake)
    | exact wpAny_bind (wpAny_bind (m:=Builtin.Tuple.tupleExact _) (wpAny_newObj_type (wpAny_pure (wpAny_pure ⟨_,rfl,wpAny_pure h⟩)) htake))
    | exact wpAny_bind (wpAny_bind (m:=Builtin.Tuple.tupleExact _) (wpAny_newObj_type (wpAny_pure ⟨_,rfl,wpAny_pure h⟩) htake))
end
end HT
namespace L2
open PySem PySem.Spec PyProof.Rows
noncomputable abbrev TO:=St→Hp→(Option Int→Hp→Prop)→Prop
noncomputable def PO (X:Cx) (e:Option Expr) (t:TO):Prop:=
  ∀(pins:List (Addr×Obj)) (s:Shared) (σ:St) (H:Hp) (Q:Option Int→Hp→Prop),Inv X pins σ H s→t σ H Q →
    wpAny (model X.prog X.w) X.A (evalPart e X.env) (λu s'=>∃o H',Inv X pins σ H' s'∧IsPart u o∧Q o H') X.xe s
noncomputable def tNoPart:TO:=λ_ H Q=>Q none H
noncomputable def tPart (t:TE):TO:=fun σ H Q=>t σ H λx H1=>∃i,x=.int i∧Q (some i) H1
section
variable {X:Cx}{e:Expr}{te:TE}{lo hi:Option Expr}{tl th:TO}{pos p2:Pos}
theorem po_none:PO X none tNoPart:=by
  intro pins s σ H Q I h
  rw [evalPart_none]
  exact wpAny_pure ⟨none,H,I,.none,h⟩
theorem po_some (h:PE X e te):PO X (some e) (tPart te):=by
  intro pins s σ H Q I hw
  rw [evalPart_some]
  refine thn (h pins s σ H _ I hw) λu s1 ⟨x,H1,I1,r1,q1⟩=>?_
  obtain⟨i,rfl,q⟩:=q1
  obtain⟨t,rfl⟩:=r1
  exact⟨some i,H1,I1,.int i t,q⟩
noncomputable def SlR (X:Cx) (r:V→Option Int→Option Int→Hp→VK→Prop):Prop:=
  ∀(pins:List (Addr×Obj)) (s:Shared) (σ:St) (H:Hp) (x:V) (v vl vu:Value) (lo hi:Option Int) (sl:Addr) (Q:VK),Inv X pins σ H s→RelV x v→s.heap.IsSliceOf sl vl vu .none→IsPart vl lo→IsPart vu hi→r x lo hi H Q →
    ∃T id,typeLookup (.type T) "__getitem__"=pure (some (.builtin id))∧s.TypeIs v T∧wpAny (model X.prog X.w) X.A (getItem v (.ref sl)) (EP X pins σ Q) X.xe s
theorem SlR.or {r r':V→Option Int→Option Int→Hp→VK→Prop}(h:SlR X r) (h':SlR X r'):SlR X (λx lo hi H Q=>r x lo hi H Q∨r' x lo hi H Q):=by
  intro pins s σ H x v vl vu lo hi sl Q I rx hs pl pu q
  rcases q with q|q
  · exact h pins s σ H x v vl vu lo hi sl Q I rx hs pl pu q
  · exact h' pins s σ H x v vl vu lo hi sl Q I rx hs pl pu q
noncomputable def tSl (r:V→Option Int→Option Int→Hp→VK→Prop) (te:TE) (tl th:TO):TE:=fun σ H Q=>te σ H λx H1=>tl σ H1 λl H2=>th σ H2 λu H3=>r x l u H3 Q
theorem pe_slice {r:V→Option Int→Option Int→Hp→VK→Prop}(hr:SlR X r) (he:PE X e te) (hl:PO X lo tl) (hu:PO X hi th):PE X (.Subscript e (.Slice lo hi none p2) pos) (tSl r te tl th):=by
  intro pins s σ H Q I h
  refine Subscript_ (thn (he pins s σ H _ I h) λv s1 ⟨x,H1,I1,r1,q1⟩=>?_)
  refine wpAny_Slice (thn (hl pins s1 σ H1 _ I1 q1) λvl s2 ⟨l,H2,I2,pl,q2⟩=>thn (hu pins s2 σ H2 _ I2 q2) λvu s3 ⟨u,H3,I3,pu,q3⟩=>?_)
  rw [evalPart_none]
  refine wpAny_pure ?_
  have I4:Inv X pins σ H3 { s3 with heap:=s3.heap.push { cls:=.type "slice",data:=.fields #[vl,vu,.none] } }:=I3.kept (t':=s3.toks) λb ob q=>Heap.get?_push_of_some _ q
  obtain⟨T,id,hT,ht,hg⟩:=hr pins { s3 with heap:=s3.heap.push { cls:=.type "slice",data:=.fields #[vl,vu,.none] } } σ H3 x v vl vu l u s3.heap.objs.size Q I4 r1 (Heap.IsSliceOf.new ..) pl pu q3
  show wpAny (model X.prog X.w) X.A (subscriptTail e (.Slice lo hi none p2) v (.ref s3.heap.objs.size)) (EP X pins σ Q) X.xe { s3 with heap:=s3.heap.push { cls:=.type "slice",data:=.fields #[vl,vu,.none] } }
  exact tail_any (ops:=[.ref s3.heap.objs.size,v]) ht hT hg (by with_unfolding_all rfl)
noncomputable def cutV (xs:List V) (lo hi:Option Int):List V:=(xs.drop (HT.sIx xs.length 0 lo)).take (HT.sIx xs.length xs.length hi - HT.sIx xs.length 0 lo)
theorem cutV_length (xs:List V) (lo hi:Option Int):(cutV xs lo hi).length≤xs.length:=by
  unfold cutV
  rw [List.length_take,List.length_drop]
  omega
noncomputable def rSlT (K:PySem.W.Frag):V→Option Int→Option Int→Hp→VK→Prop:=λx lo hi H Q=>∃a xs,x=.ref a∧SqT K H a xs ∧
  ¬(HT.sIx xs.length 0 lo=0∧HT.sIx xs.length xs.length hi=xs.length)∧∀p,H p=none→Q (.ref p) (upd H p (.tup (cutV xs lo hi)))
theorem sl_tup:SlR X (rSlT X.K):=by
  intro pins s σ H x v vl vu lo hi sl Q I rx hs pl pu h
  obtain⟨a,xs,rfl,hx,hw,q⟩:=h
  cases rx
  obtain⟨its,r,ht,hz⟩:=I.tuple hx
  have hlen:its.toArray.size=xs.length:=by rw [List.size_toArray];exact r.length.symm
  refine⟨"tuple",_,PyProof.Rows.slot_tuple_getitem.lookup,ht.typeIs,?_⟩
  refine HT.getItem_tuple_cut ht hs pl pu (by rw [hlen];exact hw) ?_ (by rw [hlen];exact hz)
  rw [hlen]
  refine⟨.ref s.heap.objs.size,_,I.laid (t':=s.toks) (o:=.tup (cutV xs lo hi)) (λb ob q=>Heap.get?_push_of_some _ q) (Nat.le_refl _) ?_,rfl,q _ (I.hok.fresh (Nat.le_refl _))⟩
  exact⟨Nat.le_trans (cutV_length xs lo hi) hz,_,(r.drop (HT.sIx xs.length 0 lo)).take (HT.sIx xs.length xs.length hi - HT.sIx xs.length 0 lo),IsTup.new _ _⟩
noncomputable def rCatT (K:PySem.W.Frag):R2:=λx y H Q=>∃a b xs ys,x=.ref a∧y=.ref b∧SqT K H a xs∧SqT K H b ys∧xs≠[]∧xs.length+ys.length≤sizeLine ∧
  (ys=[]→Q (.ref a) H)∧(ys≠[]→∀p,H p=none→Q (.ref p) (upd H p (.tup (xs++ys))))
theorem Vals.nil_iff {xs:List V}{us:List Value}(r:Vals xs us):us=[]↔xs=[]:=by
  cases r with
  | nil=>simp
  | cons _ _=>simp
theorem op_catT:OpR X (binaryOp .Add) (rCatT X.K):=by
  intro pins s σ H x y v u Q I rx ry h
  obtain⟨a,b,xs,ys,rfl,rfl,ha,hb,hx,hz,q1,q2⟩:=h
  cases rx
  cases ry
  obtain⟨its,r1,p1,_⟩:=I.tuple ha
  obtain⟨its2,r2,p2,_⟩:=I.tuple hb
  refine HT.cat_tup p1 p2 (λz=>hx (r1.nil_iff.mp z)) (λz=>⟨.ref a,H,I,rfl,q1 (r2.nil_iff.mp z)⟩) (λz=>?_) (by rw [←r1.length,←r2.length];exact hz)
  refine⟨.ref s.heap.objs.size,_,I.laid (t':=s.toks) (o:=.tup (xs++ys)) (λb ob q=>Heap.get?_push_of_some _ q) (Nat.le_refl _) ?_,rfl,q2 (λw=>z (r2.nil_iff.mpr w)) _ (I.hok.fresh (Nat.le_refl _))⟩
  exact⟨by rw [List.length_append];exact hz,_,r1.append r2,IsTup.new _ _⟩
end
end L2
namespace L2
open PySem PySem.Spec PyProof.Rows
noncomputable def ixN (n:Nat) (i:Int):Option Nat:=if 0≤i then (if i<n then some i.toNat else none) else if -(n:Int)≤i then some (i+n).toNat else none
noncomputable def atI {α:Type}(xs:List α) (i:Int):Option α:=(ixN xs.length i).bind λj=>xs[j]?
theorem ixN_seq {n:Nat}{i:Int}{j:Nat}(h:ixN n i=some j):seqIndex? i n=some j∧j<n∧-(n:Int)≤i∧i<n:=by
  unfold ixN at h
  by_cases h0:0≤i
  · rw [if_pos h0] at h
    by_cases h1:i<n
    · rw [if_pos h1] at h
      have e:i.toNat=j:=Option.some.inj h
      exact⟨by rw [seqIndex_of h0 h1,e],by omega,by omega,h1⟩
    · rw [if_neg h1] at h;cases h
  · rw [if_neg h0] at h
    by_cases h1:-(n:Int)≤i
    · rw [if_pos h1] at h
      have e:(i+n).toNat=j:=Option.some.inj h
      exact⟨by rw [seqIndex_neg (by omega) h1,e],by omega,h1,by omega⟩
    · rw [if_neg h1] at h;cases h
theorem atI_get {α:Type}{xs:List α}{i:Int}{v:α}(h:atI xs i=some v):∃j,seqIndex? i xs.length=some j∧xs[j]?=some v∧j<xs.length∧-(xs.length:Int)≤i∧i<xs.length:=by
  unfold atI at h
  cases e:ixN xs.length i with
  | none=>rw [e] at h;cases h
  | some j =>
    rw [e] at h
    obtain⟨h1,h2,h3,h4⟩:=ixN_seq e
    exact⟨j,h1,h,h2,h3,h4⟩
noncomputable def PlainIx (b:Expr):Prop:=∀o i,subscripted b false o i=operate [o,i] (getItem o i)
noncomputable def IxR (X:Cx) (r:R2):Prop:=
  ∀(value slice:Expr) (pins:List (Addr×Obj)) (s:Shared) (σ:St) (H:Hp) (x y:V) (v u:Value) (Q:VK),Inv X pins σ H s→RelV x v→RelV y u→r x y H Q →
    subscripted slice false v u=operate [v,u] (getItem v u)→wpAny (model X.prog X.w) X.A (subscriptTail value slice v u) (EP X pins σ Q) X.xe s
noncomputable def MtR (X:Cx) (id:String) (r:V→List V→Hp→VK→Prop):Prop:=
  ∀(pins:List (Addr×Obj)) (s:Shared) (σ:St) (H:Hp) (x:V) (xs:List V) (v:Value) (us:List Value) (Q:VK),Inv X pins σ H s→RelV x v→Vals xs us→r x xs H Q →
    wpAny (model X.prog X.w) X.A (call (.builtin id) (v::us)) (EP X pins σ Q) X.xe s
section
variable {X:Cx}{a b:Expr}{ta tb:TE}{pos:Pos}
theorem IxR.or {r r':R2}(h:IxR X r) (h':IxR X r'):IxR X (λx y H Q=>r x y H Q∨r' x y H Q):=by
  intro value slice pins s σ H x y v u Q I rx ry q hs
  rcases q with q|q
  · exact h value slice pins s σ H x y v u Q I rx ry q hs
  · exact h' value slice pins s σ H x y v u Q I rx ry q hs
theorem MtR.or {id:String}{r r':V→List V→Hp→VK→Prop}(h:MtR X id r) (h':MtR X id r'):MtR X id (λx xs H Q=>r x xs H Q∨r' x xs H Q):=by
  intro pins s σ H x xs v us Q I rx rs q
  rcases q with q|q
  · exact h pins s σ H x xs v us Q I rx rs q
  · exact h' pins s σ H x xs v us Q I rx rs q
theorem pe_ix {r:R2}(hr:IxR X r) (ha:PE X a ta) (hb:PE X b tb) (hs:PlainIx b):PE X (.Subscript a b pos) (tOp r ta tb):=by
  intro pins s σ H Q I h
  exact Subscript_ (binT ha hb I h λv u s2 x y H2 I2 rx ry q=>hr a b pins s2 σ H2 x y v u Q I2 rx ry q (hs _ _))
noncomputable def rIxL (K:PySem.W.Frag):R2:=λx y H Q=>∃p xs i v,x=.ref p∧y=.int i∧SqL K H p xs∧atI xs i=some v∧Q v H
noncomputable def rIxT (K:PySem.W.Frag):R2:=λx y H Q=>∃p xs i v,x=.ref p∧y=.int i∧SqT K H p xs∧atI xs i=some v∧Q v H
theorem ix_list:IxR X (rIxL X.K):=by
  intro value slice pins s σ H x y v u Q I rx ry h hs
  obtain⟨p,xs,i,z,rfl,rfl,hq,he,q⟩:=h
  cases rx
  obtain⟨t,rfl⟩:=ry
  obtain⟨its,r,pl,hz⟩:=I.list hq
  obtain⟨j,h1,h2,h3,h4,h5⟩:=atI_get he
  obtain⟨w,ew,rw'⟩:=r.get h2
  have hl:=r.length
  have hn:=line63
  have fin:EP X pins σ Q w s:=⟨z,H,I,rw',q⟩
  by_cases h0:0≤i
  · have hj:i.toNat=j:=by
      rw [seqIndex_of h0 h5] at h1
      exact Option.some.inj h1
    exact item_listR pl.isList h0 (by omega) (by rw [hj];simpa using ew) fin hs
  · have hj:(i+(its.toArray.size:Int)).toNat=j:=by
      rw [seqIndex_neg (by omega) h4] at h1
      rw [List.size_toArray,←hl]
      exact Option.some.inj h1
    exact subscriptTail_builtinR (x:=w) pl.isList.typeIs slot_list_getitem.lookup
      (wpAny_getItem_list_neg (Q:=λr s'=>r=w∧EP X pins σ Q r s') pl.isList (by omega) (by rw [List.size_toArray]<;>omega) (by omega) (by rw [hj];simpa using ew) ⟨rfl,fin⟩) hs
theorem ix_tup:IxR X (rIxT X.K):=by
  intro value slice pins s σ H x y v u Q I rx ry h hs
  obtain⟨p,xs,i,z,rfl,rfl,hq,he,q⟩:=h
  cases rx
  obtain⟨t,rfl⟩:=ry
  obtain⟨its,r,pl,hz⟩:=I.tuple hq
  obtain⟨j,h1,h2,h3,h4,h5⟩:=atI_get he
  obtain⟨w,ew,rw'⟩:=r.get h2
  have hl:=r.length
  have hn:=line63
  have fin:EP X pins σ Q w s:=⟨z,H,I,rw',q⟩
  exact subscriptTail_builtinR (x:=w) pl.typeIs slot_tuple_getitem.lookup
    (getItem_tuple (j:=j) (Q:=λr s'=>r=w∧EP X pins σ Q r s') pl (by omega) (by omega) (by rw [List.size_toArray,←hl];exact h1) (by simpa using ew) ⟨rfl,fin⟩) hs
theorem mapSeq_set (its:List Value) (n j:Nat) (u:Value):Obj.mapSeq (·.setIfInBounds j u) { cls:=.type "list",data:=.seq its.toArray n }={ cls:=.type "list",data:=.seq (its.set j u).toArray n }:=by
  simp [Obj.mapSeq]
theorem Inv.lst {pins:List (Addr×Obj)}{σ:St}{H:Hp}{s:Shared}{p:Addr}{xs:List V}(I:Inv X pins σ H s) (h:H p=some (.lst xs)) :
    ∃(its:List Value) (n:Nat),Vals xs its∧s.heap.get? p=some { cls:=.type "list",data:=.seq its.toArray n }∧xs.length≤sizeLine:=by
  obtain⟨z,its,n,r,e⟩:=I.hok p _ h
  exact⟨its,n,r,e,z⟩
theorem Inv.lstUpd {pins:List (Addr×Obj)}{σ:St}{H:Hp}{s:Shared}{p:Addr}{xs ys:List V}{its its':List Value}{n n':Nat}{f:Obj→Obj}(I:Inv X pins σ H s) (h:H p=some (.lst xs))
    (ho:s.heap.get? p=some { cls:=.type "list",data:=.seq its.toArray n }) (hf:f { cls:=.type "list",data:=.seq its.toArray n }={ cls:=.type "list",data:=.seq its'.toArray n' }) (r:Vals ys its') (hz:ys.length≤sizeLine) (t:Nat) :
    Inv X pins σ (upd H p (.lst ys)) { s with heap:=s.heap.update p f,toks:=t }:=by
  have e:(s.heap.update p f).get? p=some { cls:=.type "list",data:=.seq its'.toArray n' }:=by
    rw [Heap.get?_update_self f ho (by rw [hf]<;>rfl),hf]
  refine I.write (x:=p) (e:=p) (by rw [h];trivial) (.inl rfl) (λb u hb q=>(Heap.get?_update_other _ _ (Ne.symm hb)).trans q) ⟨_,e⟩ ?_
  exact⟨hz,its',n',r,e⟩
noncomputable def rSetL:V→V→V→Hp→(Hp→Prop)→Prop:=λo i v H Q=>∃p xs k j,o=.ref p∧i=.int k∧H p=some (.lst xs)∧ixN xs.length k=some j∧Q (upd H p (.lst (xs.set j v)))
theorem set_list:PSet X rSetL:=by
  intro pins s σ H o i v ov iv u Q I ro ri rv h
  obtain⟨p,xs,k,j,rfl,rfl,hp,hj,q⟩:=h
  cases ro
  obtain⟨t,rfl⟩:=ri
  obtain⟨its,n,r,ho,hz⟩:=I.lst hp
  obtain⟨h1,h2,h3,h4⟩:=ixN_seq hj
  have hl:=r.length
  have hn:=line63
  have I':Inv X pins σ (upd H p (.lst (xs.set j v))) { s with heap:=s.heap.update p (Obj.mapSeq (·.setIfInBounds j u)) }:=
    I.lstUpd hp ho (mapSeq_set its n j u) (r.set rv j) (by rw [List.length_set];exact hz) s.toks
  by_cases h0:0≤k
  · have hk:k.toNat=j:=by
      rw [seqIndex_of h0 h4] at h1
      exact Option.some.inj h1
    exact PySem.W.ki_setAt ho h0 (by omega) (by rw [List.size_toArray,←hl];exact h4) (by rw [hk];exact⟨_,I',q⟩)
  · have hk:(k+(its.toArray.size:Int)).toNat=j:=by
      rw [seqIndex_neg (by omega) h3] at h1
      rw [List.size_toArray,←hl]
      exact Option.some.inj h1
    exact PySem.W.ki_setBack ho (by omega) (by rw [List.size_toArray,←hl];exact h3) (by omega) (by rw [hk];exact⟨_,I',q⟩)
theorem slice_bounds (lo hi:Option Int) (n:Nat):(sliceBounds lo hi none n).1=((HT.sIx n 0 lo:Nat):Int)∧(sliceBounds lo hi none n).2.1=((HT.sIx n n hi:Nat):Int)∧(sliceBounds lo hi none n).2.2=1:=by
  refine⟨?_,?_,rfl⟩
  · cases lo with
    | none=>simp [sliceBounds,HT.sIx]
    | some i =>
      simp only [sliceBounds,HT.sIx,Option.getD_none,show (1:Int) > 0 by decide,if_true]
      by_cases h:i<0
      · simp only [h,if_true]<;>omega
      · simp only [h,if_false]<;>omega
  · cases hi with
    | none=>simp [sliceBounds,HT.sIx]
    | some i =>
      simp only [sliceBounds,HT.sIx,Option.getD_none,show (1:Int) > 0 by decide,if_true]
      by_cases h:i<0
      · simp only [h,if_true]<;>omega
      · simp only [h,if_false]<;>omega
theorem slicePick_cut (its:List Value) (lo hi:Option Int):slicePick its.toArray lo hi none=((its.drop (HT.sIx its.length 0 lo)).take (HT.sIx its.length its.length hi - HT.sIx its.length 0 lo)).toArray:=by
  obtain⟨h1,h2,h3⟩:=slice_bounds lo hi its.toArray.size
  unfold slicePick
  rw [h1,h2,h3]
  simp only [sliceRange_one,pick_run,List.size_toArray]<;>rfl
noncomputable def rSlL (K:PySem.W.Frag):V→Option Int→Option Int→Hp→VK→Prop:=λx lo hi H Q=>∃a xs,x=.ref a∧SqL K H a xs∧∀p,H p=none→Q (.ref p) (upd H p (.lst (cutV xs lo hi)))
theorem sl_list:SlR X (rSlL X.K):=by
  intro pins s σ H x v vl vu lo hi sl Q I rx hs pl pu h
  obtain⟨a,xs,rfl,hx,q⟩:=h
  cases rx
  obtain⟨its,r,ht,hz⟩:=I.list hx
  have hlen:=r.length
  refine⟨"list",_,slot_list_getitem.lookup,ht.isList.typeIs,?_⟩
  refine wpAny_getItem_list_slice ht.isList hs pl pu .none (by simp) ?_ (by rw [List.size_toArray]<;>omega)
  rw [slicePick_cut,←hlen]
  refine⟨.ref s.heap.objs.size,_,I.laid (t':=s.toks) (o:=.lst (cutV xs lo hi)) (λb ob q=>Heap.get?_push_of_some _ q) (Nat.le_refl _) ?_,rfl,q _ (I.hok.fresh (Nat.le_refl _))⟩
  exact⟨Nat.le_trans (cutV_length xs lo hi) hz,_,0,(r.drop (HT.sIx xs.length 0 lo)).take (HT.sIx xs.length xs.length hi - HT.sIx xs.length 0 lo),Heap.get?_push_size _ rfl⟩
noncomputable def eqV:V→V→Bool
  | .non,.non=>true
  | .bl a,.bl b=>a == b
  | .bl a,.int b=>(if a then 1 else 0) == b
  | .int a,.bl b=>a == (if b then 1 else 0)
  | .int a,.int b=>a == b
  | .str a,.str b=>a == b
  | _,_=>false
noncomputable def inV (x:V) (xs:List V):Bool:=xs.any λy=>eqV y x
theorem call_len_seq:CallR X (.builtin "len") (λxs H Q=>∃p ys,xs=[.ref p]∧(SqL X.K H p ys∨SqT X.K H p ys)∧Q (.int ys.length) H):=by
  intro pins s σ H xs us Q I r h
  obtain⟨p,ys,rfl,hq,q⟩:=h
  obtain⟨u,rfl,rx⟩:=vals1 r
  cases rx
  have hn:=line63
  rcases hq with hq|hq
  · obtain⟨its,r',pl,hz⟩:=I.list hq
    have hlen:=r'.length
    exact Calls.call_len_list pl.isList (by simp only [List.size_toArray]<;>omega) ⟨.int ys.length,H,I.tok _,⟨s.toks+1,by rw [List.size_toArray,hlen]⟩,q⟩
  · obtain⟨its,r',pl,hz⟩:=I.tuple hq
    have hlen:=r'.length
    exact len_tuple pl (by simp only [List.size_toArray]<;>omega) ⟨.int ys.length,H,I.tok _,⟨s.toks+1,by rw [List.size_toArray,hlen]⟩,q⟩
theorem CallR.or {f:Value}{r r':List V→Hp→VK→Prop}(h:CallR X f r) (h':CallR X f r'):CallR X f (λxs H Q=>r xs H Q∨r' xs H Q):=by
  intro pins s σ H xs us Q I rs q
  rcases q with q|q
  · exact h pins s σ H xs us Q I rs q
  · exact h' pins s σ H xs us Q I rs q
theorem call_list_of:CallR X (.type "list") (λxs H Q=>∃p ys,xs=[.ref p]∧(SqL X.K H p ys∨SqT X.K H p ys)∧∀l,H l=none→Q (.ref l) (upd H l (.lst ys))):=by
  intro pins s σ H xs us Q I r h
  obtain⟨p,ys,rfl,hq,q⟩:=h
  obtain⟨u,rfl,rx⟩:=vals1 r
  cases rx
  have fin:∀(its:List Value),Vals ys its→ys.length≤sizeLine→∀(h':Heap) (c':Nat),(∀b o',s.heap.get? b=some o'→h'.get? b=some o') →
      h'.get? s.heap.objs.size=some { cls:=.type "list",dict:=none,data:=.seq its.toArray c',slots:=#[] }→EP X pins σ Q (.ref s.heap.objs.size) { s with heap:=h' }:=λits r' hz h' c' kp e =>
    ⟨.ref s.heap.objs.size,_,I.laid (t':=s.toks) kp (Nat.le_refl _) (show ObjOk X.prog X.w _ h' _ (.lst ys) from ⟨hz,its,c',r',e⟩),rfl,q _ (I.hok.fresh (Nat.le_refl _))⟩
  rcases hq with hq|hq
  · obtain⟨its,r',pl,hz⟩:=I.list hq
    have hlen:=r'.length
    obtain⟨o,ho,hc,n,hd⟩:=pl.isList
    exact call_list_seq p (.inl rfl) ho hc hd (λh' c' kp e=>fin its r' hz h' c' kp e) (by simp only [List.size_toArray]<;>omega)
  · obtain⟨its,r',pl,hz⟩:=I.tuple hq
    have hlen:=r'.length
    obtain⟨o,ho,hc,n,hd⟩:=pl
    exact call_list_seq p (.inr rfl) ho hc hd (λh' c' kp e=>fin its r' hz h' c' kp e) (by simp only [List.size_toArray]<;>omega)
theorem call_tuple_of:CallR X (.type "tuple") (λxs H Q=>∃p ys,xs=[.ref p]∧((SqL X.K H p ys∧∀l,H l=none→Q (.ref l) (upd H l (.tup ys)))∨(SqT X.K H p ys∧Q (.ref p) H))):=by
  intro pins s σ H xs us Q I r h
  obtain⟨p,ys,rfl,h⟩:=h
  obtain⟨u,rfl,rx⟩:=vals1 r
  cases rx
  rcases h with ⟨hq,q⟩|⟨hq,q⟩
  · obtain⟨its,r',pl,hz⟩:=I.list hq
    have hlen:=r'.length
    refine call_tuple_list pl.isList (λh' kp=>?_) (by simp only [List.size_toArray]<;>omega)
    have I1:Inv X pins σ H { s with heap:=h' }:=I.kept (t':=s.toks) kp
    have I2:Inv X pins σ (upd H h'.objs.size (.tup ys)) { s with heap:=h'.push { cls:=.type "tuple",data:=.seq its.toArray } }:=
      I1.laid (t':=s.toks) (λb o e=>Heap.get?_push_of_some _ e) (Nat.le_refl _) (show ObjOk X.prog X.w _ _ _ (.tup ys) from ⟨hz,its,r',IsTup.new _ _⟩)
    exact⟨.ref h'.objs.size,_,I2,rfl,q _ (I1.hok.fresh (Nat.le_refl _))⟩
  · obtain⟨its,r',pl,hz⟩:=I.tuple hq
    exact call_tuple_same pl ⟨.ref p,H,I,rfl,q⟩
noncomputable def tyV (K:PySem.W.Frag) (T:String) (x:V) (H:Hp):Prop:=match x with
  | .str _=>T="str"
  | .int _=>T="int"
  | .ref p=>(T="list"∧∃xs,SqL K H p xs)∨(T="tuple"∧∃o,K.lookup p=some o∧o.cls=.type "tuple"∧o.dict=none) ∨
      (T="dict"∧((∃kvs,H p=some (.dK kvs))∨∃kvs,H p=some (.dT kvs)))∨(T="set"∧∃S n,H p=some (.set S n))
  | _=>False
theorem tyV_is {pins:List (Addr×Obj)}{σ:St}{H:Hp}{s:Shared}{T:String}{x:V}{v:Value}(I:Inv X pins σ H s) (r:RelV x v) (ty:tyV X.K T x H) :
    s.TypeIs v T∧∀a,v=.ref a→∃ob,s.heap.get? a=some ob∧ob.dict=none:=by
  cases x with
  | str z =>
    obtain⟨t,rfl⟩:=r
    cases (show T="str" from ty)
    exact⟨typeIs_str s z t,λ_ e=>nomatch e⟩
  | int i =>
    obtain⟨t,rfl⟩:=r
    cases (show T="int" from ty)
    exact⟨typeIs_int s i t,λ_ e=>nomatch e⟩
  | ref p =>
    cases r
    rcases ty with ⟨rfl,xs,hq⟩|⟨rfl,o,hk,hc,hd⟩|⟨rfl,hk⟩|⟨rfl,S,n,hk⟩
    · obtain⟨its,_,pl,_⟩:=I.list hq
      refine⟨pl.isList.typeIs,λa e=>?_⟩
      cases e
      obtain⟨o,n,e,c,hd,_⟩:=pl
      exact⟨o,e,hd⟩
    · refine⟨⟨o,I.kIn p o hk,hc⟩,λa e=>?_⟩
      cases e
      exact⟨o,I.kIn _ o hk,hd⟩
    · have z:∃o,s.heap.get? p=some o∧o.ExactDict:=by
        rcases hk with ⟨kvs,hk⟩|⟨kvs,hk⟩
        · obtain⟨_,_,_,_,o,_,_,e,ex,_⟩:=I.hok p _ hk
          exact⟨o,e,ex⟩
        · obtain⟨_,_,_,_,o,_,_,e,ex,_⟩:=I.hok p _ hk
          exact⟨o,e,ex⟩
      obtain⟨o,e,ex⟩:=z
      refine⟨⟨o,e,ex.1⟩,λa e2=>?_⟩
      cases e2
      exact⟨o,e,ex.2.1⟩
    · obtain⟨o,_,_,_,e,ex,_⟩:=I.hok p _ hk
      refine⟨⟨o,e,ex.1⟩,λa e2=>?_⟩
      cases e2
      exact⟨o,e,ex.2.1⟩
  | _=>exact False.elim ty
noncomputable def tBM0 (K:PySem.W.Frag) (T:String) (r:V→List V→Hp→VK→Prop) (to:TE):TE:=fun σ H Q=>to σ H λx H1=>tyV K T x H1∧r x [] H1 Q
noncomputable def tBM (K:PySem.W.Frag) (T:String) (r:V→List V→Hp→VK→Prop) (to:TE) (t:TA):TE:=fun σ H Q=>to σ H λx H1=>tyV K T x H1∧t σ H1 λxs H2=>r x xs H2 Q
variable {o e:Expr}{es:List Expr}{to:TE}{t:TA}{name:Str}{apos cpos:Pos}{T id:String}{r:V→List V→Hp→VK→Prop}
theorem pe_bm0 (pa:PlainAttrs T) (slot:Slot T name id) (hty:typeOf (.builtin id)=pure (.type "method_descriptor")) (hm:MtR X id r) (ho:PE X o to)
    (hbase:attributeBase o name X.env (eval o X.env)=eval o X.env:=by rfl) (hline:(apos.endLine == cpos.line)=true:=by rfl):PE X (.Call (.Attribute o name apos) [] [] cpos) (tBM0 X.K T r to):=by
  intro pins s σ H Q I h
  refine wpAny_Call_method0_late hbase hline (thn (ho pins s σ H _ I h) λv s1 ⟨x,H1,I1,r1,ty,q1⟩=>?_)
  obtain⟨h1,h2⟩:=tyV_is I1 r1 ty
  exact⟨T,id,pa,slot,hty,h1,h2,Calls.callWith_builtin rfl (PySem.evalArgs_none (hm pins s1 σ H1 x [] v [] Q I1 r1 .nil q1))⟩
theorem pe_bm (pa:PlainAttrs T) (slot:Slot T name id) (hty:typeOf (.builtin id)=pure (.type "method_descriptor")) (hm:MtR X id r) (ho:PE X o to) (ha:PA X (e::es) t)
    (hbase:attributeBase o name X.env (eval o X.env)=eval o X.env:=by rfl)
    (hfew:((backTo cpos (starEach (e::es) X.env)).all (λx=>!x.1)&&(backToKw cpos (keywordEach [] X.env)).all (λx=>x.1.isSome)
      && decide ((e::es).length+([]:List Keyword).length+(if ([]:List Keyword).isEmpty then 0 else 1)<30))=true:=by rfl)
    (hline:(apos.endLine == cpos.line)=true:=by rfl) (hs:starEach (e::es) X.env=(false,eval e X.env)::starEach es X.env:=by rfl) (hplain:(backTo cpos (starEach es X.env)).any (·.1)=false:=by rfl) :
    PE X (.Call (.Attribute o name apos) (e::es) [] cpos) (tBM X.K T r to t):=by
  intro pins s σ H Q I h
  refine wpAny_Call_method_late hbase hfew hline rfl (thn (ho pins s σ H _ I h) λv s1 ⟨x,H1,I1,r1,ty,q1⟩=>?_)
  obtain⟨h1,h2⟩:=tyV_is I1 r1 ty
  refine⟨T,id,pa,slot,hty,h1,h2,?_⟩
  have hA:=ha cpos pins s1 σ H1 _ I1 q1
  rw [hs] at hA ⊢
  refine Calls.callWith_builtin (by show (false||(backTo cpos (starEach es X.env)).any (·.1))=false;rw [hplain]<;>rfl) (Calls.evalArgs_plain ?_)
  exact thn hA λus s2 ⟨vs,H2,I2,r2,q2⟩=>hm pins s2 σ H2 x vs v us Q I2 r1 r2 q2
end
end L2
namespace L2
open PySem PySem.Spec PyProof.Rows
noncomputable def MtM (X:Cx) (id:String) (r:V→List V→Hp→VK→Prop):Prop:=
  ∀(pins:List (Addr×Obj)) (s:Shared) (σ:St) (H:Hp) (x:V) (xs:List V) (v:Value) (us:List Value) (Q:VK),Inv X pins σ H s→RelV x v→Vals xs us→r x xs H Q →
    wpAny (model X.prog X.w) X.A (call (.builtin id) (v::us)) (EP X pins σ Q) X.xe s
theorem Vals.one:∀{x:V}{us:List Value},Vals [x] us→∃u,us=[u]∧RelV x u
  | _,_,.cons r .nil=>⟨_,rfl,r⟩
theorem Vals.two:∀{x y:V}{us:List Value},Vals [x,y] us→∃u v,us=[u,v]∧RelV x u∧RelV y v
  | _,_,_,.cons r (.cons q .nil)=>⟨_,_,rfl,r,q⟩
theorem Vals.zero:∀{us:List Value},Vals [] us→us=[]
  | _,.nil=>rfl
theorem Vals.dropLast {xs:List V}{us:List Value}(h:Vals xs us):Vals xs.dropLast us.dropLast:=by
  induction h with
  | nil=>exact .nil
  | cons r t ih =>
    cases t with
    | nil=>exact .nil
    | cons q t'=>exact .cons r ih
theorem Vals.eraseIdx:∀{xs:List V}{us:List Value}(i:Nat),Vals xs us→Vals (xs.eraseIdx i) (us.eraseIdx i)
  | _,_,_,.nil=>.nil
  | _,_,0,.cons _ t=>t
  | _,_,i+1,.cons r t=>.cons r (Vals.eraseIdx i t)
theorem Vals.reverse {xs:List V}{us:List Value}(h:Vals xs us):Vals xs.reverse us.reverse:=by
  induction h with
  | nil=>exact .nil
  | cons r t ih=>rw [List.reverse_cons,List.reverse_cons];exact Vals.append ih (.cons r .nil)
theorem Vals.rep {xs:List V}{us:List Value}(h:Vals xs us):∀k:Nat,Vals (List.replicate k xs).flatten (List.replicate k us).flatten
  | 0=>.nil
  | k+1=>by
    rw [List.replicate_succ,List.replicate_succ,List.flatten_cons,List.flatten_cons]
    exact Vals.append h (Vals.rep h k)
theorem erase_last {α:Type}(l:List α):l.eraseIdx (l.length - 1)=l.dropLast:=by
  induction l with
  | nil=>rfl
  | cons a r ih =>
    cases r with
    | nil=>rfl
    | cons b r =>
      have e:(a::b::r).length - 1=((b::r).length - 1)+1:=by
        have h1:(a::b::r).length=r.length+2:=rfl
        have h2:(b::r).length=r.length+1:=rfl
        omega
      rw [e,List.eraseIdx_cons_succ,ih]
      all_goals rfl
theorem foldl_rep (its:List Value):∀(k:Nat) (acc:List Value),
    List.foldl (λx1 x2=>x1++x2) acc.toArray (List.replicate k its.toArray)=(acc++(List.replicate k its).flatten).toArray
  | 0,acc=>by simp
  | k+1,acc=>by
    have e:acc.toArray++its.toArray=(acc++its).toArray:=by simp
    have e2:(acc++its)++(List.replicate k its).flatten=acc++(List.replicate (k+1) its).flatten:=by
      rw [List.replicate_succ,List.flatten_cons,List.append_assoc]
    rw [←e2,←foldl_rep its k (acc++its),←e,List.replicate_succ,List.foldl_cons]
section
variable {X:Cx}{pins:List (Addr×Obj)}{σ:St}{H:Hp}{s:Shared}{l b:Addr}{xs ys zs:List V}
theorem Inv.lset {its its':List Value}{n:Nat}{f:Array Value→Array Value}{t':Nat}(I:Inv X pins σ H s) (hH:H l=some (.lst xs))
    (e:s.heap.get? l=some { cls:=.type "list",data:=.seq its.toArray n }) (hf:f its.toArray=its'.toArray) (hv:Vals ys its') (hz:ys.length≤sizeLine) :
    Inv X pins σ (upd H l (.lst ys)) { s with heap:=s.heap.update l (Obj.mapSeq f),toks:=t' }:=by
  have q:=PySem.IsL.update e f
  rw [hf] at q
  refine I.write (x:=l) (e:=l) (by rw [hH];exact trivial) (.inl rfl) (λb' u hb hu=>(Heap.get?_update_other s.heap (Obj.mapSeq f) (Ne.symm hb)).trans hu) ⟨_,q⟩ ?_
  exact⟨hz,its',_,hv,q⟩
theorem Inv.lnew {its:List Value}{t':Nat}(I:Inv X pins σ H s) (hv:Vals ys its) (hz:ys.length≤sizeLine) :
    Inv X pins σ (upd H s.heap.objs.size (.lst ys)) { s with heap:=s.heap.push { cls:=.type "list",data:=.seq its.toArray },toks:=t' }:=
  I.laid (λ_ _ q=>Heap.get?_push_of_some _ q) (Nat.le_refl _) ⟨hz,its,0,hv,Heap.get?_push_size _ rfl⟩
theorem Inv.fresh (I:Inv X pins σ H s):H s.heap.objs.size=none:=I.hok.fresh (Nat.le_refl _)
theorem Inv.lstM (I:Inv X pins σ H s) (hH:H l=some (.lst xs)):xs.length≤sizeLine∧∃(its:List Value) (n:Nat),Vals xs its∧xs.length=its.length∧s.heap.get? l=some { cls:=.type "list",data:=.seq its.toArray n }:=by
  obtain⟨z,its,n,r,e⟩:=I.hok l _ hH
  exact⟨z,its,n,r,r.length,e⟩
theorem notLongL {n:Nat}(h:n≤sizeLine):Builtin.List.listTooLong n=false:=by
  unfold Builtin.List.listTooLong
  exact decide_eq_false (by omega)
end
section
variable {X:Cx}
noncomputable def rAppend:V→List V→Hp→VK→Prop:=λx vs H Q=>∃l xs y,x=.ref l∧vs=[y]∧H l=some (.lst xs)∧xs.length<sizeLine∧Q .non (upd H l (.lst (xs++[y])))
theorem mt_append:MtM X "list.append" rAppend:=by
  intro pins s σ H x vs v us Q I rx rv h
  obtain⟨l,xs,y,rfl,rfl,hH,hz,q⟩:=h
  cases rx
  obtain⟨u,rfl,ru⟩:=rv.one
  obtain⟨z,its,n,r,hl,e⟩:=I.lstM hH
  refine call_meets F.slot_list_append ⟨_,e,rfl⟩ F.entry_list_append (F.args_list_append_2 _ _) (PySem.list_append l its.toArray n u (by rw [List.size_toArray];omega)) ⟨e,?_⟩
  refine⟨.non,_,I.lset (its':=its++[u]) hH e (by simp) (r.append (.cons ru .nil)) ?_,rfl,q⟩
  rw [List.length_append,List.length_singleton]
  omega
noncomputable def rExtend:V→List V→Hp→VK→Prop:=λx vs H Q=>∃l b xs zs,x=.ref l∧vs=[.ref b]∧H l=some (.lst xs)∧H b=some (.lst zs)∧xs.length+zs.length≤sizeLine∧Q .non (upd H l (.lst (xs++zs)))
theorem mt_extend:MtM X "list.extend" rExtend:=by
  intro pins s σ H x vs v us Q I rx rv h
  obtain⟨l,b,xs,zs,rfl,rfl,hH,hB,hz,q⟩:=h
  cases rx
  obtain⟨u,rfl,ru⟩:=rv.one
  cases ru
  obtain⟨z,its,n,r,hl,e⟩:=I.lstM hH
  obtain⟨z2,its2,n2,r2,hl2,e2⟩:=I.lstM hB
  have hsz:its.toArray.size+its2.toArray.size≤sizeLine:=by rw [List.size_toArray,List.size_toArray];omega
  have hlong:¬(!its.toArray.isEmpty&&Builtin.List.listTooLong (its.toArray.size+its2.toArray.size))=true:=by
    rw [notLongL hsz,Bool.and_false]
    exact Bool.false_ne_true
  refine call_meets F.slot_list_extend ⟨_,e,rfl⟩ F.entry_list_extend (F.args_list_extend_2 _ _)
    (AutoSeq1.list_extend_list_list_0 l its.toArray n b its2.toArray n2 hlong (by rw [List.size_toArray];omega) (by omega)) ⟨e,e2,?_⟩
  refine⟨.non,_,I.lset (its':=its++its2) hH e (by simp) (r.append r2) ?_,rfl,q⟩
  rw [List.length_append]
  omega
noncomputable def rPop:V→List V→Hp→VK→Prop:=λx vs H Q=>∃l xs y,x=.ref l∧vs=[]∧H l=some (.lst xs)∧xs[xs.length - 1]?=some y∧Q y (upd H l (.lst xs.dropLast))
theorem mt_pop:MtM X "list.pop" rPop:=by
  intro pins s σ H x vs v us Q I rx rv h
  obtain⟨l,xs,y,rfl,rfl,hH,hy,q⟩:=h
  cases rx
  have hus:=rv.zero
  subst hus
  obtain⟨z,its,n,r,hl,e⟩:=I.lstM hH
  obtain⟨u,hu,ru⟩:=r.get hy
  have hy':its.toArray[its.toArray.size - 1]?=some u:=by
    show its.toArray[its.length - 1]?=some u
    rw [←Array.getElem?_toList,←hl]
    exact hu
  refine call_meets F.slot_list_pop ⟨_,e,rfl⟩ F.entry_list_pop (F.args_list_pop_1 _) (MeetsSeq.list_pop_last l its.toArray n u hy' (by rw [List.size_toArray];omega)) ⟨e,?_⟩
  refine⟨y,_,I.lset (its':=its.dropLast) hH e ?_ r.dropLast ?_,ru,q⟩
  · show its.toArray.eraseIdxIfInBounds (its.toArray.size - 1)=its.dropLast.toArray
    rw [List.size_toArray,List.eraseIdxIfInBounds_toArray,erase_last]
  · rw [List.length_dropLast]
    omega
theorem len_rep {α:Type}(xs:List α) (k:Nat):(List.replicate k xs).flatten.length=k * xs.length:=by
  induction k with
  | zero=>simp
  | succ k ih=>rw [List.replicate_succ,List.flatten_cons,List.length_append,ih,Nat.succ_mul,Nat.add_comm]
end
section
variable {prog:Program}{w:World}{A:Around}{E:Value→Shared→Prop}{s:Shared}
end
section
variable {X:Cx}
end
end L2
namespace Att
open PySem PySem.W PySem.Calls PyProof.Rows
theorem ints_of_wellAll {P:Params}{h:Heap}:∀(ns:List Int) (vs:List Value),WellAll P h vs (ns.map WData.int)→IntsAre vs ns:=by
  intro ns
  induction ns with
  | nil =>
    intro vs w
    rw [List.map_nil] at w
    cases w
    exact .nil
  | cons n ns ih =>
    intro vs w
    rw [List.map_cons] at w
    cases w with
    | cons a b =>
      cases a
      exact .cons _ _ (ih _ b)
theorem script_of {l:OpenLaw}{n:Nat}(hn:l.most=some n) {P:Params}{h:Heap}{args:List WData}{vals:List Value}
    (hpre:l.row.toRowW.claim.pre args=true) (hwl:WellAll P h vals args) :
    ∃a vs ns,vals=[Value.ref a]∧args=[WData.list (ns.map WData.int)]∧h.get? a=some { cls:=.type "list",data:=.seq vs.toArray }∧IntsAre vs ns∧ns.length≤n:=by
  have hsh:WShape.hasAll [] args [.list .int]=true:=(pre_splitW hpre).1
  have hc:l.pre.holds [] { args:=args }=true:=(pre_splitW hpre).2
  obtain⟨d,r,rfl,h1,h2⟩:=hasAllW_cons hsh
  obtain rfl:=hasAllW_nil h2
  obtain⟨xs,rfl,h3⟩:=hasW_list h1
  obtain⟨ns,rfl⟩:=items_int h3
  have hlen:ns.length≤n:=by
    unfold OpenLaw.pre at hc
    have h4:(WTm.not (.lt (.lit (.int (n:Int))) (.len (.arg 0)))).holds [] { args:=[.list (ns.map .int)] }=true:=by
      have h4:=(holds_andW hc).1
      rw [hn] at h4
      exact h4
    have h5:=condW_of h4 (w_not (w_lt w_lit (w_len_list (w_arg rfl))))
    rw [List.length_map] at h5
    refine Nat.le_of_not_lt λq=>?_
    have q':(n:Int)<((ns.length:Nat):Int):=by omega
    first
      | (rw [decide_eq_true q'] at h5;exact absurd h5 (by decide))
      | (simp at h5;omega)
  cases hwl with
  | cons w1 w2 =>
    cases w2
    cases w1 with
    | list ho hall=>exact⟨_,_,ns,rfl,rfl,ho,ints_of_wellAll ns _ hall,hlen⟩
theorem post_true (l:OpenLaw) (args:List WData):l.row.toRowW.claim.post args (.bool true) args=true:=
  postW_of (r:=l.row.toRowW) (X:=(true == true))
    (show WShape.has [] (.bool true) .bool=true by first|rfl|decide|simp [WShape.has,WShape.arms,WShape.armsAll])
    (show (WTm.eq .res (.lit (.bool true))).value [] { args:=args,res:=some (.bool true),after:=args }=some (.bool (true == true)) from w_eq_bool (w_res rfl) w_lit) rfl
section
variable {prog:Program}{w:World}{A:Around}{E:Value→Shared→Prop}{s:Shared}{K:Frag}
end
end Att
namespace L2
open PySem PySem.Spec PyProof.Rows
theorem vals_ints:∀{vs:List Value}{ns:List Int},IntsAre vs ns→Vals (ns.map V.int) vs
  | _,_,.nil=>.nil
  | _,_,.cons n t h=>.cons ⟨t,rfl⟩ (vals_ints h)
end L2
namespace L2
open PySem PySem.Spec PyProof.Rows
end L2
namespace L2
open PySem PySem.Spec PyProof.Rows
noncomputable abbrev CX0:CXT:=λ_ _ _ _ _ _=>False
noncomputable abbrev E0:XK:=λ_ _ _=>False
theorem pass0 {X:Cx}:Passes CX0 X E0:=λ_ _ _ _ _ _ _ h=>h.elim
structure Fun (K:PySem.W.Frag) (x qual:Str) (st:Stmt) (f:Addr) (fd:FuncData):Prop where
  ex:∃(oc:Value) (od:Option Addr) (kV doc pm:Value) (an:Option Addr) (cdv ct:Value) (osl:Array (Option Value)),
    fd=PySem.W.fnOf x qual (defArgs st) (defBody st) (defScope st) .none kV doc pm an cdv ct∧K.lookup f=some ⟨oc,od,.func fd,osl⟩∧PySem.W.codeIn K cdv qual=true
  kp:PySem.W.keepIn K (.ref f)=true
section
variable {P:Program}{w:World}{K:PySem.W.Frag}{mg:Str→Option Value}{base:Heap}
theorem Fun.ok {x qual:Str}{st:Stmt}{f:Addr}{fd:FuncData}{N ps:List Str}{k:Nat}{sp:Sp}(F:Fun K x qual st f fd) (S:FnScope N ps (defScope st)) (len:∀vs H Q E,sp vs H Q E→vs.length=ps.length)
    (hbody:∀(cdv:Value) (A:Around) (outer:List Env) (s:Shared) (H:Hp) (vs:List V) (Q:VK) (E:XK),Room k (A.deeper (envOfC qual (defScope st) s.heap.objs.size f cdv))→sp vs H Q E →
      ∃t,PSs (cxOf CX0 P w K mg base N qual (defScope st) f cdv A outer s H E).nox (defBody st) t∧t { nx:=λ_ H'=>Q .non H',rt:=Q } (start N vs) H):FnOk P w K mg base CX0 (k+1) f fd ps sp:=by
  obtain⟨oc,od,kV,doc,pm,an,cdv,ct,osl,rfl,lk,hcd⟩:=F.ex
  refine fn_of lk hcd S len λA outer s H vs Q E hr hsp=>?_
  obtain⟨t,h,q⟩:=hbody cdv A outer s H vs Q E hr hsp
  exact⟨t,h.nox,q⟩
theorem Fun.binds {x qual:Str}{st:Stmt}{f:Addr}{fd:FuncData}{ps:List Str}(F:Fun K x qual st f fd)
    (h:∀(kV doc pm:Value) (an:Option Addr) (cdv ct:Value) (us:List Value),us.length=ps.length→bindArgs (PySem.W.fnOf x qual (defArgs st) (defBody st) (defScope st) .none kV doc pm an cdv ct) ⟨us,[]⟩=pure (ps.zip us)):Binds K fd ps []:=by
  obtain⟨oc,od,kV,doc,pm,an,cdv,ct,osl,rfl,lk,hcd⟩:=F.ex
  exact .all (h kV doc pm an cdv ct)
theorem fun_mk {x qual:Str}{st:Stmt}{f:Addr}{oc:Value}{od an:Option Addr}{osl:Array (Option Value)}{kV doc pm cdv ct:Value}(l:K.lookup f=some ⟨oc,od,.func (PySem.W.fnOf x qual (defArgs st) (defBody st) (defScope st) .none kV doc pm an cdv ct),osl⟩)
    (c:PySem.W.codeIn K cdv qual=true) (k:PySem.W.keepIn K (.ref f)=true):Fun K x qual st f (PySem.W.fnOf x qual (defArgs st) (defBody st) (defScope st) .none kV doc pm an cdv ct):=⟨⟨oc,od,kV,doc,pm,an,cdv,ct,osl,rfl,l,c⟩,k⟩
end
section
variable {X:Cx}
end
theorem iteF {A B:Prop}(h:B):if false=true then A else B:=by
  rw [if_neg Bool.false_ne_true]
  exact h
theorem iteT {A B:Prop}(h:A):if true=true then A else B:=by
  rw [if_pos rfl]
  exact h
noncomputable def Same (H H':Hp):Prop:=∀b o,H b=some o→H' b=some o
theorem Same.refl (H:Hp):Same H H:=λ_ _ h=>h
theorem Same.trans {H H1 H2:Hp}(a:Same H H1) (b:Same H1 H2):Same H H2:=λc o h=>b c o (a c o h)
theorem Same.free {H H':Hp}(e:Same H H') {l:Addr}(h:H' l=Option.none):H l=Option.none:=by
  cases q:H l with
  | none=>rfl
  | some o =>
    rw [e l o q] at h
    cases h
theorem Same.seq {K:PySem.W.Frag}{H H':Hp}{a:Addr}{xs:List V}(e:Same H H') (h:SqL K H a xs):SqL K H' a xs:=by
  rcases h with (h|⟨o,h⟩)|h
  · exact .inl (.inl (e _ _ h))
  · exact .inl (.inr ⟨o,e _ _ h⟩)
  · exact .inr h
end L2
namespace L2
open PySem PySem.Spec PyProof.Rows
section
variable {κ:Type} [DecidableEq κ]
noncomputable def valV (kvs:List (κ×V)) (k:κ):Option V:=(kvs.find? λkv=>decide (kv.1=k)).map (·.2)
noncomputable def putK (kvs:List (κ×V)) (k:κ) (v:V):List (κ×V):=
  if (kvs.any λkv=>decide (kv.1=k))=true then kvs.map (λkv=>if kv.1=k then (kv.1,v) else kv) else kvs++[(k,v)]
noncomputable def dropK (kvs:List (κ×V)) (k:κ):List (κ×V):=kvs.filter λkv=>decide (kv.1≠k)
theorem valV_pos {p:κ×V}{r:List (κ×V)}{k:κ}(e:p.1=k):valV (p::r) k=some p.2:=by simp [valV,List.find?_cons,e]
theorem valV_neg {p:κ×V}{r:List (κ×V)}{k:κ}(e:¬p.1=k):valV (p::r) k=valV r k:=by simp [valV,List.find?_cons,e]
theorem valV_any (k:κ):∀kvs:List (κ×V),(kvs.any λkv=>decide (kv.1=k))=(valV kvs k).isSome
  | []=>rfl
  | p::r=>by
    rw [List.any_cons]
    by_cases e:p.1=k
    · simp only [valV_pos e,decide_eq_true e,Bool.true_or,Option.isSome_some]
    · rw [valV_neg e,decide_eq_false e,Bool.false_or];exact valV_any k r
theorem length_putK (kvs:List (κ×V)) (k:κ) (v:V):(putK kvs k v).length≤kvs.length+1:=by
  unfold putK
  split
  · rw [List.length_map];omega
  · rw [List.length_append,List.length_cons,List.length_nil];omega
theorem RelO.isSome_eq {o:Option V}{u:Option Value}(r:RelO o u):o.isSome=u.isSome:=by
  cases o with
  | none=>cases u with
    | none=>rfl
    | some _=>exact (show False from r).elim
  | some _=>cases u with
    | none=>exact (show False from r).elim
    | some _=>rfl
theorem RelO.getD {o:Option V}{u:Option Value}{d:V}{d':Value}(r:RelO o u) (rd:RelV d d'):RelV (o.getD d) (u.getD d'):=by
  cases o with
  | none=>cases u with
    | none=>exact rd
    | some _=>exact (show False from r).elim
  | some _=>cases u with
    | none=>exact (show False from r).elim
    | some _=>exact r
theorem KV.val {kvs:List (κ×V)}{vs:List (κ×Value)}(r:KV kvs vs) (k:κ):RelO (valV kvs k) (valueAt vs k):=by
  unfold KV at r
  induction r with
  | nil=>exact True.intro
  | @cons p q ps qs h t ih =>
    obtain⟨h1,h2⟩:=h
    by_cases e:p.1=k
    · have e':q.1=k:=h1.symm.trans e
      have b:valueAt (q::qs) k=some q.2:=by simp [valueAt,List.find?_cons,e']
      rw [valV_pos e,b];exact h2
    · have e':¬q.1=k:=λz=>e (h1.trans z)
      have b:valueAt (q::qs) k=valueAt qs k:=by simp [valueAt,List.find?_cons,e']
      rw [valV_neg e,b];exact ih
theorem KV.any {kvs:List (κ×V)}{vs:List (κ×Value)}(r:KV kvs vs) (k:κ):(kvs.any λkv=>decide (kv.1=k))=vs.any λkv=>decide (kv.1=k):=by
  unfold KV at r
  induction r with
  | nil=>rfl
  | cons h t ih=>rw [List.any_cons,List.any_cons,ih,h.1]
theorem KV.repl {kvs:List (κ×V)}{vs:List (κ×Value)}(r:KV kvs vs) (k:κ) {y:V}{u:Value}(ry:RelV y u) :
    KV (kvs.map λkv=>if kv.1=k then (kv.1,y) else kv) (vs.map λkv=>if kv.1=k then (kv.1,u) else kv):=by
  unfold KV at r ⊢
  induction r with
  | nil=>exact .nil
  | @cons p q ps qs h t ih =>
    rw [List.map_cons,List.map_cons]
    refine .cons ?_ ih
    obtain⟨h1,h2⟩:=h
    by_cases e:p.1=k
    · rw [if_pos e,if_pos (h1.symm.trans e)];exact⟨h1,ry⟩
    · rw [if_neg e,if_neg (λz=>e (h1.trans z))];exact⟨h1,h2⟩
theorem KV.put {kvs:List (κ×V)}{vs:List (κ×Value)}(r:KV kvs vs) (k:κ) {y:V}{u:Value}(ry:RelV y u):KV (putK kvs k y) (stored vs k u):=by
  unfold putK stored
  rw [r.any k]
  by_cases e:(vs.any λkv=>decide (kv.1=k))=true
  · rw [if_pos e,if_pos e];exact r.repl k ry
  · rw [if_neg e,if_neg e];exact Paired.snoc r ⟨rfl,ry⟩
theorem KV.drop {kvs:List (κ×V)}{vs:List (κ×Value)}(r:KV kvs vs) (k:κ):KV (dropK kvs k) (without vs k):=by
  unfold KV at r ⊢
  unfold dropK without
  induction r with
  | nil=>exact .nil
  | @cons p q ps qs h t ih =>
    obtain⟨h1,h2⟩:=h
    rw [List.filter_cons,List.filter_cons]
    by_cases e:p.1=k
    · have a:¬decide (p.1≠k)=true:=by simp [e]
      have b:¬decide (q.1≠k)=true:=by simp [h1.symm.trans e]
      rw [if_neg a,if_neg b];exact ih
    · have e':¬q.1=k:=λz=>e (h1.trans z)
      have a:decide (p.1≠k)=true:=by simp [e]
      have b:decide (q.1≠k)=true:=by simp [e']
      rw [if_pos a,if_pos b];exact .cons ⟨h1,h2⟩ ih
theorem KV.length {kvs:List (κ×V)}{vs:List (κ×Value)}(r:KV kvs vs):kvs.length=vs.length:=Paired.length r
end
theorem kV_is {P:Program}{w:World}{k:Key}{u:Value}(r:RelV (kV k) u):(mixKind P w).is k u=true:=by
  cases k with
  | inl i=>obtain⟨t,e⟩:=(show ∃t,u=Value.int i t from r);subst e;exact mixKind_int P w i t
  | inr x=>obtain⟨t,e⟩:=(show ∃t,u=Value.str x t from r);subst e;exact mixKind_str P w x t
theorem items_are {P:Program}{w:World}:∀{ks:List Key}{us:List Value},Vals (ks.map kV) us→ItemsAre (mixKind P w) ks us
  | [],_,r=>by rw [List.map_nil] at r;cases r;exact .nil
  | k::ks,_,r=>by
    rw [List.map_cons] at r
    cases r with
    | cons h t=>exact .cons (kV_is h) (items_are t)
noncomputable abbrev KT (H:Hp):List (List Key×V)→List (List Key×Addr×Value)→Prop:=Paired λp q=>p.1=q.1∧H q.2.1=some (.tup (p.1.map kV))∧RelV p.2 q.2.2
theorem KT.val {H:Hp}{kvs:List (List Key×V)}{xs:List (List Key×Addr×Value)}(r:KT H kvs xs) (k:List Key):RelO (valV kvs k) ((atKey xs k).map (·.2)):=by
  induction r with
  | nil=>exact True.intro
  | @cons p q ps qs h t ih =>
    obtain⟨h1,_,h2⟩:=h
    by_cases e:p.1=k
    · have e':q.1=k:=h1.symm.trans e
      have b:atKey (q::qs) k=some q.2:=by simp [atKey,List.find?_cons,e']
      rw [valV_pos e,b];exact h2
    · have e':¬q.1=k:=λz=>e (h1.trans z)
      have b:atKey (q::qs) k=atKey qs k:=by simp [atKey,List.find?_cons,e']
      rw [valV_neg e,b];exact ih
theorem KT.repl {H:Hp}{kvs:List (List Key×V)}{xs:List (List Key×Addr×Value)}(r:KT H kvs xs) (k:List Key) {y:V}{u:Value}(ry:RelV y u) :
    KT H (kvs.map λkv=>if kv.1=k then (kv.1,y) else kv) (xs.map (putAt k u)):=by
  induction r with
  | nil=>exact .nil
  | @cons p q ps qs h t ih =>
    rw [List.map_cons,List.map_cons]
    refine .cons ?_ ih
    obtain⟨h1,h2,h3⟩:=h
    unfold putAt
    by_cases e:p.1=k
    · rw [if_pos e,if_pos (h1.symm.trans e)];exact⟨h1,h2,ry⟩
    · rw [if_neg e,if_neg (λz=>e (h1.trans z))];exact⟨h1,h2,h3⟩
theorem KT.put {H:Hp}{kvs:List (List Key×V)}{xs:List (List Key×Addr×Value)}(r:KT H kvs xs) (k:List Key) {b:Addr}{y:V}{u:Value}(hb:H b=some (.tup (k.map kV))) (ry:RelV y u) :
    KT H (putK kvs k y) (storedH xs k b u):=by
  have e:(kvs.any λkv=>decide (kv.1=k))=(atKey xs k).isSome:=by
    rw [valV_any,(r.val k).isSome_eq,Option.isSome_map]
  unfold putK storedH
  rw [e]
  by_cases q:(atKey xs k).isSome=true
  · rw [if_pos q,if_pos q];exact r.repl k ry
  · rw [if_neg q,if_neg q];exact Paired.snoc r ⟨rfl,hb,ry⟩
theorem KT.keeps {H H':Hp}{kvs:List (List Key×V)}{xs:List (List Key×Addr×Value)}(r:KT H kvs xs) (ht:∀b ys,H b=some (.tup ys)→H' b=some (.tup ys)):KT H' kvs xs:=
  Paired.mapP r λ_ _ z=>⟨z.1,ht _ _ z.2.1,z.2.2⟩
section
variable {P:Program}{w:World}{H:Hp}{h:Heap}{a:Addr}
theorem rd_of {u:HO}(ok:HOk P w H h) (e:Rd H a u):ObjOk P w H h a u:=e.ok ok
theorem dk_rd {kvs:List (Key×V)}(ok:HOk P w H h) (e:Rd H a (.dK kvs)):kvs.length≤sizeLine∧(a == sysModules)=false∧∃vs,KV kvs vs∧h.DictOf (mixKind P w) a vs:=
  show ObjOk P w H h a (.dK kvs) from rd_of ok e
theorem dk_of {kvs:List (Key×V)}(ok:HOk P w H h) (e:H a=some (.dK kvs)):kvs.length≤sizeLine∧(a == sysModules)=false∧∃vs,KV kvs vs∧h.DictOf (mixKind P w) a vs:=dk_rd ok (.inl e)
theorem key_of {ks:List Key}(ok:HOk P w H h) (e:H a=some (.tup (ks.map kV))):(tupleKind (mixKind P w)).is h ks a:=by
  obtain⟨_,its,r,o,h1,h2,n,h3⟩:=(show ObjOk P w H h a (.tup (ks.map kV)) from ok a _ e)
  exact⟨o,its.toArray,n,h1,h2,h3,by simpa using items_are r⟩
theorem dt_rd {kvs:List (List Key×V)}(ok:HOk P w H h) (e:Rd H a (.dT kvs)):kvs.length≤sizeLine∧(a == sysModules)=false ∧
    ∃xs,KT H kvs xs∧h.DictOfH (tupleKind (mixKind P w)) a xs:=by
  obtain⟨z,y,xs,r,o,es,ep,h1,h2,h3,h4,h5⟩:=(show ObjOk P w H h a (.dT kvs) from rd_of ok e)
  refine⟨z,y,xs,r,o,es,ep,h1,h2,h3,h4,λx hx=>?_,h5⟩
  have all:∀{l:List (List Key×V)} {m:List (List Key×Addr×Value)},KT H l m→∀x∈m,(tupleKind (mixKind P w)).is h x.1 x.2.1:=by
    intro l m q
    induction q with
    | nil=>intro x hx;exact nomatch hx
    | @cons p q ps qs hq t ih =>
      intro x hx
      rcases List.mem_cons.mp hx with e|hx
      · subst e
        exact key_of ok (by rw [←hq.1];exact hq.2.1)
      · exact ih x hx
  exact all r x hx
theorem dt_of {kvs:List (List Key×V)}(ok:HOk P w H h) (e:H a=some (.dT kvs)):kvs.length≤sizeLine∧(a == sysModules)=false ∧
    ∃xs,KT H kvs xs∧h.DictOfH (tupleKind (mixKind P w)) a xs:=dt_rd ok (.inl e)
end
noncomputable def DGet (H:Hp) (a:Addr) (y:V) (r:Option V):Prop:=
  (∃kvs k,Rd H a (.dK kvs)∧y=kV k∧r=valV kvs k)∨∃kvs k b,Rd H a (.dT kvs)∧y=.ref b∧H b=some (.tup (k.map kV))∧r=valV kvs k
noncomputable def DPut (H:Hp) (a:Addr) (y v:V) (H':Hp):Prop:=
  (∃kvs k,H a=some (.dK kvs)∧y=kV k∧kvs.length<sizeLine∧H'=upd H a (.dK (putK kvs k v))) ∨
  ∃kvs k b,H a=some (.dT kvs)∧y=.ref b∧H b=some (.tup (k.map kV))∧kvs.length<sizeLine∧H'=upd H a (.dT (putK kvs k v))
theorem DGet.k {H:Hp}{a:Addr}{kvs:List (Key×V)}{k:Key}(e:H a=some (.dK kvs)):DGet H a (kV k) (valV kvs k):=.inl ⟨kvs,k,.inl e,rfl,rfl⟩
theorem DGet.t {H:Hp}{a b:Addr}{kvs:List (List Key×V)}{k:List Key}(e:H a=some (.dT kvs)) (eb:H b=some (.tup (k.map kV))):DGet H a (.ref b) (valV kvs k):=.inr ⟨kvs,k,b,.inl e,rfl,eb,rfl⟩
theorem DPut.k {H:Hp}{a:Addr}{kvs:List (Key×V)}{k:Key}{v:V}(e:H a=some (.dK kvs)) (hl:kvs.length<sizeLine):DPut H a (kV k) v (upd H a (.dK (putK kvs k v))):=.inl ⟨kvs,k,e,rfl,hl,rfl⟩
theorem DPut.t {H:Hp}{a b:Addr}{kvs:List (List Key×V)}{k:List Key}{v:V}(e:H a=some (.dT kvs)) (eb:H b=some (.tup (k.map kV))) (hl:kvs.length<sizeLine) :
    DPut H a (.ref b) v (upd H a (.dT (putK kvs k v))):=.inr ⟨kvs,k,b,e,rfl,eb,hl,rfl⟩
section
variable {X:Cx}{pins:List (Addr×Obj)}{σ:St}{H:Hp}{s:Shared}{a:Addr}{y v:V}{u r:Value}{o:Option V}{A:Around}{E:Value→Shared→Prop}
theorem Inv.big (I:Inv X pins σ H s):sysModules<s.heap.objs.size:=by
  have h:mainGlobals<s.heap.objs.size:=(I.mod.glob.keeps I.bk).lt
  exact Nat.lt_trans (by decide) h
theorem d_in {Q:Value→Shared→Prop}(hu:A.units+1<cLine) (I:Inv X pins σ H s) (g:DGet H a y o) (ry:RelV y u) (h:∀s',Inv X pins σ H s'→Q (.bool o.isSome) s') :
    wpAny (model X.prog X.w) A (compareOp .In u (.ref a)) Q E s:=by
  rcases g with ⟨kvs,k,e,ey,l⟩|⟨kvs,k,b,e,ey,eb,l⟩
  · subst ey
    obtain⟨z,hd,vs,rel,dd⟩:=dk_rd I.hok e
    refine wpAny_in_of (kV_is ry) hd dd.mapOf ?_
    rw [←(rel.val k).isSome_eq,←l]
    exact h _ (I.tok _)
  · subst ey
    cases (show u=Value.ref b from ry)
    obtain⟨z,hd,xs,rel,dd⟩:=dt_rd I.hok e
    refine wpAny_in_heap (tupleKind_room_in1 hu) (key_of I.hok eb) hd dd ?_
    have q:=(rel.val k).isSome_eq
    rw [Option.isSome_map] at q
    rw [←q,←l]
    exact h _ (I.tok _)
theorem d_notIn {Q:Value→Shared→Prop}(hu:A.units+1<cLine) (I:Inv X pins σ H s) (g:DGet H a y o) (ry:RelV y u) (h:∀s',Inv X pins σ H s'→Q (.bool (!o.isSome)) s') :
    wpAny (model X.prog X.w) A (compareOp .NotIn u (.ref a)) Q E s:=by
  rcases g with ⟨kvs,k,e,ey,l⟩|⟨kvs,k,b,e,ey,eb,l⟩
  · subst ey
    obtain⟨z,hd,vs,rel,dd⟩:=dk_rd I.hok e
    refine wpAny_notIn_of (kV_is ry) hd dd.mapOf ?_
    rw [←(rel.val k).isSome_eq,←l]
    exact h _ (I.tok _)
  · subst ey
    cases (show u=Value.ref b from ry)
    obtain⟨z,hd,xs,rel,dd⟩:=dt_rd I.hok e
    refine wpAny_notIn_heap (tupleKind_room_in1 hu) (key_of I.hok eb) hd dd ?_
    have q:=(rel.val k).isSome_eq
    rw [Option.isSome_map] at q
    rw [←q,←l]
    exact h _ (I.tok _)
theorem d_write {h':Heap}{t':Nat}{ob:HO}(I:Inv X pins σ H s) (mu:Mut (H a)) (hs:Heap.SameBut a s.heap h') (he:∃q,h'.get? a=some q) (new:ObjOk X.prog X.w (upd H a ob) h' a ob) :
    Inv X pins σ (upd H a ob) { s with heap:=h',toks:=t' }:=
  I.write (x:=a) (e:=a) mu (.inl rfl) (λb q hb z=>(hs.2 b hb).trans z) he new
theorem dk_new {P:Program}{w:World}{H':Hp}{h':Heap}{kvs:List (Key×V)}{vs:List (Key×Value)}(z:kvs.length≤sizeLine) (hd:(a == sysModules)=false) (rel:KV kvs vs) (dd:h'.DictOf (mixKind P w) a vs) :
    ObjOk P w H' h' a (.dK kvs):=⟨z,hd,vs,rel,dd⟩
theorem d_setItem {H':Hp}{Q:Unit→Shared→Prop}(hu:A.units+1<cLine) (I:Inv X pins σ H s) (g:DPut H a y v H') (ry:RelV y u) (rv:RelV v r) (h:∀s',Inv X pins σ H' s'→Q () s') :
    wpAny (model X.prog X.w) A (setItem (.ref a) u r) Q E s:=by
  rcases g with ⟨kvs,k,e,ey,l,eH⟩|⟨kvs,k,b,e,ey,eb,l,eH⟩
  · subst ey eH
    obtain⟨z,hd,vs,rel,dd⟩:=dk_of I.hok e
    have hz:vs.length≤sizeLine:=by rw [←rel.length];exact z
    have hl:(putK kvs k v).length≤sizeLine:=by have:=length_putK kvs k v;omega
    refine wpAny_setItem_pairs (hsz:=hz) (kV_is ry) dd λh' dd' hs=>h _ ?_
    have he:∃q,h'.get? a=some q:=let ⟨q,_,_,hq,_⟩:=dd';⟨q,hq⟩
    exact d_write I (by rw [e];exact True.intro) hs he (dk_new hl hd (rel.put k rv) dd')
  · subst ey eH
    cases (show u=Value.ref b from ry)
    obtain⟨z,hd,xs,rel,dd⟩:=dt_of I.hok e
    have hz:xs.length≤sizeLine:=by rw [←Paired.length rel];exact z
    have hl:(putK kvs k v).length≤sizeLine:=by have:=length_putK kvs k v;omega
    refine wpAny_setItem_heap (hsz:=hz) (tupleKind_room_in1 hu) (key_of I.hok eb) dd λh' dd' hs=>h _ ?_
    obtain⟨q,es,ep,hq,h2,h3,h4,_,h5⟩:=dd'
    refine d_write I (by rw [e];exact True.intro) hs ⟨q,hq⟩ ⟨hl,hd,_,(rel.put k eb rv).keeps λc ys ec=>?_,q,es,ep,hq,h2,h3,h4,h5⟩
    rw [upd_ne (ne_of ec e (λz=>nomatch z))]
    exact ec
end
section
variable {X:Cx}{pins:List (Addr×Obj)}{σ:St}{H:Hp}{s:Shared}{a:Addr}{kvs:List (Key×V)}{k:Key}{u:Value}{A:Around}{E:Value→Shared→Prop}
end
section
variable {X:Cx}{o i e value:Expr}{pos pos' tpos:Pos}{td ty tv:TE}
end
theorem dk_empty {P:Program}{w:World}{H:Hp}(h:Heap) (hb:sysModules<h.objs.size):ObjOk P w H (h.push { cls:=.type "dict",data:=.dict #[] }) h.objs.size (.dK []):=
  ⟨Nat.zero_le _,beq_eq_false_iff_ne.mpr (Ne.symm (Nat.ne_of_lt hb)),[],.nil,Heap.DictOf.new h⟩
noncomputable def tDNewK:TE:=λ_ H Q=>∀p,H p=none→Q (.ref p) (upd H p (.dK []))
section
variable {X:Cx}{pos:Pos}
theorem pe_dnewK:PE X (.Dict [] [] pos) tDNewK:=λpins s σ H Q I h =>
  wpAny_Dict_empty ⟨.ref s.heap.objs.size,_,I.laid (a:=s.heap.objs.size) (o:=.dK []) (t':=s.toks) (λ_ _ q=>Heap.get?_push_of_some _ q) (Nat.le_refl _) (dk_empty s.heap I.big),rfl,h _ (I.hok.fresh (Nat.le_refl _))⟩
end
end L2
namespace L2
open PySem PySem.Spec PyProof.Rows
noncomputable def Nr (fr:List Addr) (g h:Heap):Prop:=∀b o,g.get? b=some o→(b∉fr→h.get? b=some o)∧∃sl,h.get? b=some { o with slots:=sl }
structure Lot (g h:Heap) (e:Addr) (C fl:Value):Prop where
  new:g.get? e=none
  ex:∃oe vs T oT ts,h.get? e=some oe∧(oe.cls=C∧oe.dict=none)∧oe.data=.fields vs∧vs[1]?=some (.ref T)∧T≠e∧g.get? T=none∧h.get? T=some oT∧oT.data=.fields ts∧ts[3]?=some fl
theorem Nr.of_keep {fr:List Addr}{g h:Heap}(k:∀b o,g.get? b=some o→h.get? b=some o):Nr fr g h:=λb o q=>⟨λ_=>k b o q,o.slots,k b o q⟩
theorem Nr.trans {fr:List Addr}{g h h':Heap}(x:Nr fr g h) (y:Nr fr h h'):Nr fr g h':=λb o q=>by
  obtain⟨x1,sl,x2⟩:=x b o q
  obtain⟨_,sl',y2⟩:=y b _ x2
  exact⟨λhb=>(y b o (x1 hb)).1 hb,sl',y2⟩
theorem Nr.of_but {fr:List Addr}{g h h':Heap}{e:Addr}(x:Nr fr g h) (he:g.get? e=none) (k:∀b o,b≠e→h.get? b=some o→h'.get? b=some o):Nr fr g h':=λb o q=>by
  have ne:b≠e:=λz=>by rw [z,he] at q;cases q
  obtain⟨x1,sl,x2⟩:=x b o q
  exact⟨λhb=>k b o ne (x1 hb),sl,k b _ ne x2⟩
theorem Nr.frames {fr:List Addr}{g h base:Heap}{l:List Env}(x:Nr fr g h) (f:g.FunFrames base l):h.FunFrames base l:=
  f.of_keeps λb o q _=>by
    obtain⟨_,sl,e⟩:=x b o q
    exact⟨_,e,rfl⟩
theorem dict_mf (o:Obj) (f:Array Value→Array Value):(o.mapFields f).dict=o.dict:=by
  obtain⟨c,d,dt,sl⟩:=o
  cases dt<;>rfl
section
variable {fr:List Addr}
variable {M:Model}{A:Around}{E:Value→Shared→Prop}{s:Shared}{base g:Heap}{env:Env}{outer:List Env}{L e:Addr}{C:Value}{Q:Unit→Shared→Prop}
theorem entry_on {oe:Obj}{vs:Array Value}{hd:Value}{b:Bool}(hfr:A.frames=some (env::outer)) (fun_:g.FunFrames base (env::outer)) (hf:env.frame=some L) (sub:∀b∈(env::outer).filterMap (·.frame),b∈fr) (nr:Nr fr g s.heap) (ge:g.get? e=none)
    (he:s.heap.get? e=some oe) (hdt:oe.data=.fields vs) (hsz:1<vs.size) (hc:oe.cls=C∧oe.dict=none) (k:∀h',Nr fr g h'→Lot g h' e C (rawInt L)→Q () { s with heap:=h' }) :
    wpAny M A (do setField (.ref e) 1 (←EntryCells.newEntry hd (←frameOf env) .none (rawInt L) .none (←entryPlaceOf L b))) Q E s:=by
  have fs:=nr.frames fun_
  have enf:e∉(env::outer).filterMap (·.frame):=λhm=>by
    obtain⟨_,o,ho,nf⟩:=fs.mem hm
    rw [he] at ho;cases ho
    exact nf vs hdt
  refine wpAny_bind (wpAny_frameOf_fun hfr fs hf λh1 so=>?_)
  refine wpAny_bind (wpAny_entryPlaceOf λpl ip=>?_)
  unfold EntryCells.newEntry newFields
  refine wpAny_bind (wpAny_newObj_type ?_ (ip.sizeOk5 _ _ _ _ _))
  generalize hto:([hd,Value.ref L,.none,rawInt L,.none]++(if pl.isEmpty then List.replicate 6 Value.none else pl)).toArray=ts
  have t3:ts[3]?=some (rawInt L):=by rw [←hto];simp
  have e1:h1.get? e=some oe:=(so.2.1 e enf).trans he
  have e2:=Heap.get?_push_of_some (h:=h1) { cls:=.type "traceback",dict:=none,data:=.fields ts } e1
  have tne:h1.objs.size≠e:=Nat.ne_of_gt (Heap.lt_size e1)
  have nr1:Nr fr g h1:=λc o q=>by
    obtain⟨x1,sl,x2⟩:=nr c o q
    obtain⟨sl',y⟩:=so.2.2 c _ x2
    exact⟨λhb=>(so.2.1 c λz=>hb (sub c z)).trans (x1 hb),sl',y⟩
  have nr2:Nr fr g (h1.push { cls:=.type "traceback",dict:=none,data:=.fields ts }):=nr1.trans (.of_keep λc o q=>Heap.get?_push_of_some _ q)
  refine wpAny_setField e2 hdt hsz (k _ (nr2.of_but ge λc o nc q=>?_) ⟨ge,?_⟩)
  · rw [Heap.get?_update_other _ _ (Ne.symm nc)];exact q
  · have e3:=Obj.data_mapFields hdt (·.setIfInBounds 1 (Value.ref h1.objs.size))
    refine⟨_,_,h1.objs.size,{ cls:=.type "traceback",dict:=none,data:=.fields ts },ts,Heap.get?_update_self _ e2 (Obj.isFreed_of_fields e3),⟨(Obj.cls_mapFields _ _).trans hc.1,(dict_mf _ _).trans hc.2⟩,e3,by simp [hsz],tne,?_,?_,rfl,t3⟩
    · cases q:g.get? h1.objs.size with
      | none=>rfl
      | some o =>
        obtain⟨_,sl,z⟩:=nr1 _ o q
        exact absurd (Heap.lt_size z) (Nat.lt_irrefl _)
    · rw [Heap.get?_update_other _ _ (Ne.symm tne)]
      exact Heap.get?_push_size h1 rfl
theorem note_first {oe:Obj}{vs:Array Value}(hfr:A.frames=some (env::outer)) (fun_:g.FunFrames base (env::outer)) (hf:env.frame=some L) (sub:∀b∈(env::outer).filterMap (·.frame),b∈fr) (nr:Nr fr g s.heap) (ge:g.get? e=none)
    (he:s.heap.get? e=some oe) (hdt:oe.data=.fields vs) (h1:vs[1]?=some .none) (hc:oe.cls=C∧oe.dict=none) (k:∀h',Nr fr g h'→Lot g h' e C (rawInt L)→Q () { s with heap:=h' }) :
    wpAny M A (noteFrame (.ref e) env) Q E s:=by
  unfold noteFrame
  rw [hf]
  refine wpAny_bind (wpAny_field he hdt h1 ?_)
  rw [if_neg (by decide)]
  exact entry_on hfr fun_ hf sub nr ge he hdt (Array.getElem?_eq_some_iff.mp h1).1 hc k
theorem note_on (hfr:A.frames=some (env::outer)) (fun_:g.FunFrames base (env::outer)) (hf:env.frame=some L) (sub:∀b∈(env::outer).filterMap (·.frame),b∈fr) (nr:Nr fr g s.heap) (lot:Lot g s.heap e C .none)
    (k:∀h',Nr fr g h'→Lot g h' e C (rawInt L)→Q () { s with heap:=h' }):wpAny M A (noteFrame (.ref e) env) Q E s:=by
  obtain⟨ge,oe,vs,T,oT,ts,a1,a2,a3,a4,a5,a6,a7,a8,a9⟩:=lot
  unfold noteFrame
  rw [hf]
  refine wpAny_bind (wpAny_field a1 a3 a4 ?_)
  rw [if_pos (show (Value.ref T != Value.none)=true by simp)]
  refine wpAny_bind (wpAny_field a7 a8 a9 ?_)
  rw [if_neg (show ¬(Value.none == rawInt L)=true by simp [rawInt])]
  refine wpAny_bind (wpAny_setField a7 a8 (Array.getElem?_eq_some_iff.mp a9).1 ?_)
  exact entry_on hfr fun_ hf sub (nr.of_but a6 λc o nc q=>by rw [Heap.get?_update_other _ _ (Ne.symm nc)];exact q) ge (by rw [Heap.get?_update_other _ _ a5];exact a1) a3 (Array.getElem?_eq_some_iff.mp a4).1 a2 k
theorem flight_off {fl:Value}(nr:Nr fr g s.heap) (lot:Lot g s.heap e C fl) (k:∀h',Nr fr g h'→Lot g h' e C .none→Q () { s with heap:=h' }):wpAny M A (setFlight (.ref e) none) Q E s:=by
  obtain⟨ge,oe,vs,T,oT,ts,a1,a2,a3,a4,a5,a6,a7,a8,a9⟩:=lot
  have sz:3<ts.size:=(Array.getElem?_eq_some_iff.mp a9).1
  unfold setFlight
  refine wpAny_bind (wpAny_field a1 a3 a4 ?_)
  rw [if_pos (show (Value.ref T != Value.none)=true by simp)]
  have d3:=Obj.data_mapFields a8 (·.setIfInBounds 3 ((none:Option Addr).elim Value.none λf=>rawInt f))
  exact wpAny_setField a7 a8 sz (k _ (nr.of_but a6 λc o nc q=>by rw [Heap.get?_update_other _ _ (Ne.symm nc)];exact q) ⟨ge,oe,vs,T,_,_,by rw [Heap.get?_update_other _ _ a5];exact a1,a2,a3,a4,a5,a6,Heap.get?_update_self _ a7 (Obj.isFreed_of_fields d3),d3,by simp [sz]⟩)
theorem leave_first {oe:Obj}{vs:Array Value}(hfr:A.frames=some (env::outer)) (fun_:g.FunFrames base (env::outer)) (hf:env.frame=some L) (sub:∀b∈(env::outer).filterMap (·.frame),b∈fr) (nr:Nr fr g s.heap) (ge:g.get? e=none)
    (he:s.heap.get? e=some oe) (hdt:oe.data=.fields vs) (h1:vs[1]?=some .none) (hc:oe.cls=C∧oe.dict=none) (k:∀h',Nr fr g h'→Lot g h' e C .none→Q () { s with heap:=h' }) :
    wpAny M A (leaving env (.ref e)) Q E s:=by
  unfold leaving
  exact wpAny_bind (note_first hfr fun_ hf sub nr ge he hdt h1 hc λh' nr' lot=>flight_off (s:={ s with heap:=h' }) nr' lot λh2 n2 l2=>k h2 n2 l2)
end
end L2
namespace L2
open PySem PySem.W PySem.Spec PySem.Calls PyProof.Rows
structure XCls (K:Frag) (D:Addr):Prop where
  ga:findIn K (.ref D) "__getattribute__"=some (some (.builtin "BaseException.__getattribute__"))
  no:findIn K (.ref D) "__getattr__"=some none
  fo:findObj K D none "__class__"=some (.bind (.builtin "getset_descriptor.__get__") (.builtin "object.__class__"))
  ob:mroIn K D (.type "object")=some true
  be:subIn K (.ref D) (.type "BaseException")=some true
  cl:(clsIn K D).isSome=true
noncomputable def XAt (D x:Addr) (h:Heap):Prop:=∃o vs,h.get? x=some o∧o.cls=.ref D∧o.dict=none∧o.data=.fields vs
theorem XAt.inst {D x:Addr}{h:Heap}(p:XAt D x h):∃o,InstAt h x o D none:=by
  obtain⟨o,vs,h1,h2,h3,h4⟩:=p
  refine⟨o,h1,h2,?_,?_⟩
  · unfold notCls;rw [h4]
  · rw [h3];trivial
section
variable {prog:Program}{w:World}{A:Around}{E:Value→Shared→Prop}{s:Shared}{K:Frag}{x D:Addr}
theorem ga_check {nv:Value}{Q:Unit→Shared→Prop}(X:K.In s.heap) (C:XCls K D) (p:XAt D x s.heap) (h:Q () s):wpAny (model prog w) A (checkBuiltinCall "BaseException.__getattribute__" ⟨[.ref x,nv],[]⟩) Q E s:=by
  obtain⟨o,I⟩:=p.inst
  obtain⟨hh,g,d,t,os⟩:=s
  have k1:builtinKind "BaseException.__getattribute__"=some .slot:=by decide +kernel
  have k2:splitId "BaseException.__getattribute__"=some ("BaseException","__getattribute__"):=by decide +kernel
  have L0:=I.type (M:=model prog w)
  have L1:Looks (model prog w) hh (isInstance (.ref x) (.type "BaseException")) true:=L0.andThen (looks_subIn X C.be)
  have k3:=F.args_bexc_ga (.ref x) nv
  simp only [checkBuiltinCall,k1,k2]
  refine wpAny_bind (L1.at ?_)
  simp only [Bool.not_true,Bool.false_eq_true,if_false]
  unfold argsOk at k3
  split at k3
  · rename_i sig hs
    rw [hs]
    exact wpAny_of_eq k3 h
  · rename_i hs
    rw [hs]
    exact wpAny_pure h
theorem exc_class {Q:Option Value→Shared→Prop}(X:K.In s.heap) (C:XCls K D) (p:XAt D x s.heap) (h:Q (some (.ref D)) { s with toks:=s.toks+1 }):wpAny (model prog w) A (getAttr? (.ref x) "__class__") Q E s:=by
  obtain⟨o,I⟩:=p.inst
  obtain⟨hh,g,d,t,os⟩:=s
  have L0:=I.type (M:=model prog w)
  have L1:=looks_findIn (M:=model prog w) X C.ga
  have L2:=looks_findIn (M:=model prog w) X C.no
  have L3:=looks_find (M:=model prog w) X I C.fo
  have bd:=F.attr_ValueError.ga.bind (.ref x)
  unfold getAttr? getAttrBy? getAttrBy
  refine wpAny_bind (wpAny_mkText (wpAny_bind (wpAny_attempt (wpAny_holding (wpAny_bind (L0.at (wpAny_bind (L1.at ?_))))))))
  show wpAny _ _ (getAttrByItsOwn _ _ _ _ _ _) _ _ _
  unfold getAttrByItsOwn hookBefore
  refine wpAny_bind ?_
  show wpAny _ _ (typeLookup (.ref D) "__getattr__") _ _ _
  refine L2.at (wpAny_bind (wpAny_attempt (wpAny_holding ?_)))
  unfold callGetattribute boundAndCalled
  rw [if_neg (by decide),bd]
  refine wpAny_bind (wpAny_pure ?_)
  refine wpAny_call (codeAny_call_builtin F.attr_ValueError.ga.plain F.entry_bexc_ga (ga_check (s:=⟨hh,g,d,t+1,os⟩) X C p ?_))
  unfold Builtin.«object.__getattribute__»
  repeat (first|with_reducible refine wpAny_call ?_|lk)
  refine class_get (s:=⟨hh,g,d,t+1,os⟩) X I C.ob ?_
  repeat lk
  exact h
theorem kitx_exc (C:XCls K D):KitX K (.ref x) (.ref D) (XAt D x):=by
  have hc:∃c d cd sl,K.lookup D=some ⟨c,d,.cls cd,sl⟩:=by
    have q:=C.cl
    unfold clsIn at q
    split at q
    · rename_i c d cd sl ho
      exact⟨c,d,cd,sl,ho⟩
    · cases q
  obtain⟨c,d,cd,sl,ho⟩:=hc
  refine⟨λM h _ p=>?_,λM h X _=>?_,λh tp dd its n sl' X e=>?_,λX p k=>exc_class X C p k⟩
  · obtain⟨o,I⟩:=p.inst
    exact I.type
  · intro A' Q' E' s' k q
    unfold isType loadHead
    exact wpAny_bind (wpAny_loadPart (k _ _ (X _ _ ho)) (wpAny_pure q))
  · refine Bool.eq_false_iff.mpr λq=>?_
    have z:D=tp:=Value.ref.inj (beq_iff_eq.mp q)
    rw [←z,X _ _ ho] at e
    cases e
theorem exc_match {c:Value}{b:Bool}{Q:Bool→Shared→Prop}(X:K.In s.heap) (p:XAt D x s.heap) (e:exmOne K (.ref D) c=some b) (h:Q b s):wpAny (model prog w) A (excMatches (.ref x) c) Q E s:=by
  obtain⟨o,I⟩:=p.inst
  obtain⟨hh,g,d,t,os⟩:=s
  exact (exm_one X (I.type (M:=model prog w)) e).at h
end
end L2
namespace L2
open PySem PySem.W PySem.Spec PySem.Calls PyProof.Rows
section
variable {P:Program}{w:World}{H H':Hp}{g h h0:Heap}{fr fs:List Addr}
theorem HOk.nr (k:HOk P w H g) (n:Nr fr g h) (hf:∀b∈fr,H b=none):HOk P w H h:=λa o e =>
  (k a o e).stay (λb u hb q=>(n b u q).1 λz=>by
    rcases hb with rfl|hb
    · rw [hf _ z] at e;cases e
    · rw [hf _ z] at hb;cases hb) (λ_ q=>q) (λ_ _ q=>q) λ_ _ _ q=>q
theorem Un.nr (u:Un fs [] H H' h0 g) (n:Nr fr g h) (hf:∀b∈fr,b∈fs∨h0.get? b=none):Un fs [] H H' h0 h where
  keep:=λb o q m hb hx=>(n b o (u.keep b o q m hb hx)).1 λz=>by
    rcases hf b z with z|z
    · exact hb z
    · rw [z] at q;cases q
  slot:=λb o q m hb hx=>by
    obtain⟨sl,e⟩:=u.slot b o q m hb hx
    obtain⟨_,sl',e'⟩:=n b _ e
    exact⟨sl',e'⟩
  free:=u.free
  there:=λb o q hx=>by
    obtain⟨o',e⟩:=u.there b o q hx
    obtain⟨_,sl,e'⟩:=n b _ e
    exact⟨_,e'⟩
  tups:=u.tups
  frzs:=u.frzs
  tbls:=u.tbls
end
noncomputable def CXr (P:Program) (w:World):CXT:=λouter H s E e s'=>∃(a C:Addr) (H':Hp) (g:Heap) (fr:List Addr),e=.ref a∧s'.os=s.os∧AllBare s'.gens∧Un (frs outer) [] H H' s.heap g∧HOk P w H' g ∧
  (∀b∈fr,(b∈frs outer∨s.heap.get? b=none)∧H' b=none)∧(∀b∈frs outer,b∈fr)∧Nr fr g s'.heap∧Lot g s'.heap a (.ref C) .none∧E (.ref C) none H'
noncomputable def Wish (X:Cx) (c:Str) (H:Hp):Prop:=∀(pins:List (Addr×Obj)) (σ:St) (s:Shared) (h':Heap) (e C:Addr) (vs:List Value),Inv X pins σ H s→X.mg c=some (.ref C)→Heap.MadeExcOf s.heap h' e (.ref C) vs→X.xe (.ref e) { s with heap:=h' }
section
variable {P:Program}{w:World}{K:Frag}{mg:Str→Option Value}{base:Heap}{N:List Str}{qual:Str}{scope:Scope}{f:Addr}{cd:Value}{A:Around}{outer:List Env}{s₀:Shared}{H₀:Hp}{E:XK}
theorem wish_of {c:Str}{H:Hp}(hE:∀C,mg c=some (.ref C)→E (.ref C) none H):Wish (cxOf (CXr P w) P w K mg base N qual scope f cd A outer s₀ H₀ E) c H:=by
  intro pins σ s h' e C vs I hm mk
  obtain⟨t,he,_,_⟩:=mk.there
  have hfr:=I.ok.frames
  have sub:∀b∈frs (envOfC qual scope s₀.heap.objs.size f cd::outer),(b∈frs outer∨s₀.heap.get? b=none)∧H b=none:=λb hb=>by
    refine⟨?_,I.stkFree b hb⟩
    rcases List.mem_cons.mp (show b∈s₀.heap.objs.size::frs outer from hb) with z|z
    · exact .inr (by rw [z];exact Heap.get?_none_of_le (Nat.le_refl _))
    · exact .inl z
  refine leave_first (base:=base) (g:=s.heap) (fr:=frs (envOfC qual scope s₀.heap.objs.size f cd::outer)) (L:=s₀.heap.objs.size) (C:=.ref C) (outer:=outer) hfr I.stack rfl (λb hb=>hb) (.of_keep mk.keeps) mk.new he rfl rfl ⟨rfl,rfl⟩ λh2 n2 l2=>?_
  exact⟨e,C,H,s.heap,_,rfl,I.os,I.bare,I.base,I.hok,sub,λb hb=>List.mem_cons_of_mem _ hb,n2,l2,hE C hm⟩
end
section
variable {X:Cx}
theorem ps_raise {c:Str}{C:Addr}{B nid iid:String}{bm:List Value}{m:Str}{j:Nat}{np p1 cpos pos:Pos}(hc:X.calm=true) (hg:Gl X c) (FB:ExcBaseFacts B nid iid bm) (O:OwnCls c C bm nid X.mg X.base) (hd:(c == ("__debug__":Str))=false) :
    PS X (.Raise (some (.Call (.Name c np) [.Constant (.str m) j p1] [] cpos)) none pos) (λ_ _ H=>Wish X c H):=by
  intro pins s σ H D I hw
  obtain⟨tl,Nn,nm,q,bs,hdct,sn,sub,ab,col,dd,k0,k1,k2,k3,k5,mN,hC,hN,hni,T⟩:=O.obj
  refine wpAny_Raise_call_subT (C:=C) (nm:=nm) (q:=q) (N:=Nn) (bs:=bs) (bm:=tl) (hdct:=hdct) (sn:=sn) (sub:=sub) (ab:=ab) (col:=col) (dd:=dd) (k0:=k0) (k1:=k1) (k2:=k2) (k3:=k3) (k5:=k5) FB (mN:=mN) (T.hasType FB.hasBase) (I.ok.hd hc) rfl hni
    (ld_glob I hg O.bound ⟨rfl,?_⟩ hd)
  refine Calls.evalArgs_plain (Calls.spliced_cons (Calls.Constant_str (k:=j) (pos:=p1) (Calls.spliced_nil ?_)))
  have kp:=(I.tok (s.toks+1)).bk
  exact⟨rfl,by show 1≤sizeLine;decide,kp _ _ hC,hN.keeps kp,T.keeps kp,λh' e mk=>hw pins σ { s with toks:=s.toks+1 } h' e C _ (I.tok _) O.bound mk⟩
end
end L2
namespace L2
open PySem PySem.W PySem.Spec PySem.Calls PyProof.Rows
noncomputable abbrev Cx.hold (X:Cx) (a:Addr):Cx:={ X with A:=X.A.mark (some (.ref a)),calm:=false,xe:=λ_ _=>False }
section
variable {X:Cx}{pins:List (Addr×Obj)}{σ σ':St}{H:Hp}{s:Shared}{a:Addr}
theorem Cx.Ok.hold (ok:X.Ok) (a:Addr):(X.hold a).Ok:=
  ⟨ok.mod,ok.kind,ok.glob,ok.blt,ok.above,ok.inj,ok.has,ok.cab,λz=>(nomatch z),ok.frames,ok.stk,ok.exf,ok.bs,ok.bsz,ok.noex,ok.exfs,ok.funs,ok.frf⟩
theorem Inv.hold (I:Inv X pins σ H s) (a:Addr):Inv (X.hold a) pins σ H s:=⟨I.ok.hold a,I.os,I.bare,I.base,I.loc,I.cell,I.free,I.freeC,I.pin,I.hok,I.len⟩
theorem Inv.unhold (ok:X.Ok) (I:Inv (X.hold a) pins σ H s):Inv X pins σ H s:=⟨ok,I.os,I.bare,I.base,I.loc,I.cell,I.free,I.freeC,I.pin,I.hok,I.len⟩
theorem Inv.take {b:Addr}{o:HO}{s':Shared}(I:Inv X pins σ H s') (h0:X.s₀.heap.get? b=none) (hl:b≠X.env.locals) (hc:∀x c,X.env.cells.lookup x=some c→c≠b) (hp:∀p∈X.pn++pins,p.1≠b) (hn:H b=none)
    (new:ObjOk X.prog X.w (upd H b o) s'.heap b o):Inv X pins σ (upd H b o) s':=by
  have ne:∀{c:Addr} {u:HO},H c=some u→upd H b o c=some u:=λ{c u} e=>by rw [upd_ne (ne_of_none e hn)];exact e
  refine⟨I.ok,I.os,I.bare,⟨I.base.keep,I.base.slot,λc u e n hx=>?_,I.base.there,λc xs e=>ne (I.base.tups c xs e),λc ob u e=>ne (I.base.frzs c ob u e),λc ps e=>?_⟩,I.loc,I.cell,?_,λx c e=>?_,λp hp'=>?_,λc u e=>?_,I.len⟩
  · rw [upd_ne (λz=>by rw [z,h0] at e;cases e)];exact I.base.free c u e n hx
  · obtain⟨m,q⟩:=I.base.tbls c ps e
    exact⟨m,ne q⟩
  · rw [upd_ne hl.symm];exact I.free
  · rw [upd_ne (hc x c e)];exact I.freeC x c e
  · obtain⟨e,n,r⟩:=I.pin p hp'
    exact⟨e,by rw [upd_ne (hp p hp')];exact n,r⟩
  · by_cases hcb:c=b
    · subst hcb;rw [upd_same] at e;cases e;exact new
    · rw [upd_ne hcb] at e
      exact (I.hok c u e).stay (λ_ _ _ q=>q) (λd q=>ne q) (λd xs q=>ne q) λd ob u q=>ne q
theorem name_goes {M:Model}{A:Around}{E:Value→Shared→Prop}{i:Nat}{n:Str}{pos:Pos}{Q:Unit→Shared→Prop}(I:Inv X pins σ H s) (hN:X.N.Nodup) (hi:X.N[i]?=some n) (hk:X.env.scope.names.lookup n=some .local)
    (k:∀s',Inv X pins (σ.set i none) H s'→Q () s'):wpAny M A (do bindName X.env n .none;unbindBehindTheSuite X.env n pos) Q E s:=by
  obtain⟨m,hn,hl⟩:=id I.loc
  have ab:∀{b:Addr} {o:Obj},X.s₀.heap.get? b=some o→b≠X.env.locals:=λe=>Nat.ne_of_lt (Nat.lt_of_lt_of_le (Heap.lt_size e) I.ok.above)
  refine wpAny_nameGoes_keeps hk hn (by rw [I.ok.kind];rfl) λh' v hn' sb=>k _ ?_
  have stay:∀{b:Addr} {o:Obj},b≠X.env.locals→s.heap.get? b=some o→h'.get? b=some o:=λhb e=>(sb.2 _ hb).trans e
  refine⟨I.ok,I.os,I.bare,⟨λb o e n hb hx=>stay (ab e) (I.base.keep b o e n hb hx),λb o e n hb hx=>?_,I.base.free,λb o e hx=>?_,I.base.tups,I.base.frzs,I.base.tbls⟩,⟨_,hn',λj y v' e1 e2 e3=>?_⟩,λy c e=>?_,I.free,I.freeC,λp hp=>?_,λb u e=>?_,by rw [List.length_set];exact I.len⟩
  · obtain⟨sl,q⟩:=I.base.slot b o e n hb hx
    exact⟨sl,stay (ab e) q⟩
  · obtain⟨o',q⟩:=I.base.there b o e hx
    exact⟨o',stay (ab e) q⟩
  · have hj:i≠j:=λz=>by
      subst z
      by_cases hlt:i<σ.length
      · rw [List.getElem?_set_self hlt] at e2;cases e2
      · rw [List.getElem?_eq_none (by rw [List.length_set];omega)] at e2;cases e2
    rw [List.getElem?_set_ne hj] at e2
    obtain⟨u,r,q⟩:=hl j y v' e1 e2 e3
    refine⟨u,r,?_⟩
    rcases q with ⟨k1,q⟩|⟨k1,c,q1,o,q2,q3⟩
    · have hy:y≠n:=λz=>by subst z;exact hj (nodup_ix hN hi e1)
      refine .inl ⟨k1,?_⟩
      show (if y=n then v else m y)=some u
      rw [if_neg hy]
      exact q
    · exact .inr ⟨k1,c,q1,o,stay (I.cne y c q1) q2,q3⟩
  · obtain⟨v',o,q1,q2⟩:=I.cell y c e
    exact⟨v',o,stay (I.cne y c e) q1,q2⟩
  · obtain⟨q1,q2,q3,q4⟩:=I.pin p hp
    exact⟨stay q3 q1,q2,q3,q4⟩
  · refine (I.hok b u e).stay (λc o hc q=>stay (λz=>?_) q) (λ_ q=>q) (λ_ _ q=>q) λ_ _ _ q=>q
    rcases hc with rfl|hc
    · rw [z,I.free] at e;cases e
    · rw [z,I.free] at hc;cases hc
theorem frames_un {base h h':Heap}:∀{l:List Env},h.FunFrames base l→(∀b∈frs l,∀o,h.get? b=some o→∃o',h'.get? b=some o'∧o'.data=o.data)→h'.FunFrames base l
  | [],_,_=>trivial
  | env::l,⟨k1,⟨L,o,k2,k3,k4,k5⟩,k6⟩,k=>by
    have mem:∀b,b=L∨b∈frs l→b∈frs (env::l):=λb hb=>by
      unfold frs
      rw [List.filterMap_cons,k2]
      exact List.mem_cons.mpr hb
    obtain⟨o',e1,e2⟩:=k L (mem L (.inl rfl)) o k4
    exact⟨k1,⟨L,o',k2,k3,e1,λvs z=>k5 vs (e2▸z)⟩,frames_un k6 λb hb=>k b (mem b (.inr hb))⟩
theorem ObjOk.there {P:Program}{w:World}{H:Hp}{h:Heap}{a:Addr}{o:HO}(x:ObjOk P w H h a o):∃ob,h.get? a=some ob:=by
  cases o with
  | lst xs=>obtain⟨_,_,_,_,e⟩:=x;exact⟨_,e⟩
  | tup xs=>obtain⟨_,_,_,o,e,_⟩:=x;exact⟨o,e⟩
  | dK kvs=>obtain⟨_,_,_,_,o,_,_,e,_⟩:=x;exact⟨o,e⟩
  | dT kvs=>obtain⟨_,_,_,_,o,_,_,e,_⟩:=x;exact⟨o,e⟩
  | set S n=>obtain⟨o,_,_,_,e,_⟩:=x;exact⟨o,e⟩
  | ins C dx fs=>obtain⟨_,_,_,e,_⟩:=x;exact⟨_,e⟩
  | own y=>exact x
  | xd fs=>obtain⟨_,⟨o,_,_,e,_⟩,_⟩:=x;exact⟨o,e⟩
  | rng lo hi=>obtain⟨_,_,_,e⟩:=x;exact⟨_,e⟩
  | frz ob u=>obtain⟨e,_⟩:=x;exact⟨_,e⟩
  | tbl ps=>exact⟨_,x⟩
  | met f y=>exact⟨_,x⟩
  | tab pos q=>obtain⟨_,e,_⟩:=x;exact⟨_,e⟩
  | ext φ=>obtain⟨_,e,_⟩:=x;exact e
noncomputable def tTry (ta:TA) (sp:Sp) (cond:Addr→Prop) (i:Nat) (tsu:TS):TS:=λD σ H=>ta σ H λvs H1=>sp vs H1 (λ_ H'=>D.nx σ H') (λcls _ H'=>∃C,cls=.ref C∧cond C ∧
  ∀a,H' a=none→tsu { nx:=fun σ' H''=>D.nx (σ'.set i none) H'',rt:=λ_ _=>False } (σ.set i (some (.ref a))) (upd H' a (.ext (XAt C a))))
theorem XAt.ext {D x:Addr}{h:Heap}{P:Program}{w:World}{H:Hp}(p:XAt D x h):ObjOk P w H h x (.ext (XAt D x)):=
  ⟨p,let ⟨o,_,e,_⟩:=p;⟨o,e⟩,λh1 h2 ⟨o,vs,a1,a2,a3,a4⟩ k=>⟨o,vs,k o a1,a2,a3,a4⟩⟩
theorem Lot.at_ {g h:Heap}{e C:Addr}{fl:Value}(l:Lot g h e (.ref C) fl):XAt C e h:=by
  obtain⟨_,oe,vs,T,oT,ts,a1,a2,a3,_⟩:=l
  exact⟨oe,vs,a1,a2.1,a2.2,a3⟩
theorem ps_try {f c n:Str}{fa Cc:Addr}{fd:FuncData}{ps:List Str}{sp:Sp}{k i:Nat}{e:Expr}{es:List Expr}{ta:TA}{b₀:Stmt}{suite:List Stmt}{tsu:TS}{cond:Addr→Prop}{p pos epos np hpos tpos:Pos}
    (F:FnOk X.prog X.w X.K X.mg X.base (CXr X.prog X.w) k fa fd ps sp) (hr:Room k X.A) (hg:Gl X f) (hm:X.mg f=some (.ref fa)) (hk:keepIn X.K (.ref fa)=true) (hb:Binds X.K fd ps []) (ha:PA X.nox (e::es) ta) (hdb:(f == ("__debug__":Str))=false)
    (he:starEach (e::es) X.env=(false,eval e X.env)::starEach es X.env) (hpl:(backTo pos (starEach es X.env)).any (·.1)=false)
    (hgc:Gl X c) (hmc:X.mg c=some (.ref Cc)) (hdc:(c == ("__debug__":Str))=false) (hcd:∀C,cond C→exmOne X.K (.ref C) (.ref Cc)=some true) (hN:X.N.Nodup) (hi:X.N[i]?=some n) (hn:X.env.scope.names.lookup n=some .local)
    (hsu:∀a,PSs (X.hold a) (b₀::suite) tsu) (hst:X.stack=X.env::X.outer∧X.env.frame=some X.env.locals) (hex:X.ex=[]) :
    PS X (.Try [.Expr (.Call (.Name f p) (e::es) [] pos) epos] [.ExceptHandler (some (.Name c np)) (some n) (b₀::suite) hpos] [] [] tpos) (tTry ta sp cond i tsu):=by
  intro pins s σ H D I hq
  refine wpAny_Try_except (wpAny_execs_cons (wpAny_Expr_any ?_ I.quiet rfl))
  refine wpAny_Call_Name_kw (ld_glob I hg hm ?_ hdb)
  refine callWith_K (h₀:=X.base) I.ok.mod.kin hk (wpAny_mono (ha pos pins s σ H _ (I.wish _) hq) (λus s1 ⟨vs,H1,I1,r,q⟩=>?_) λ_ _ z=>z.elim) he hpl
  have I1:=I1.unwish
  refine⟨I1.kIn,?_⟩
  have hl:us.length=ps.length:=by rw [←r.length];exact F.len _ _ _ _ q
  refine wpAny_call (codeAny_mono (F.run X.A X.stack s1 H1 ⟨us,[]⟩ us vs _ _ hr I1.env0 (by have:=hb s1 us I1.kIn (by simpa using hl);simpa using this) r q) λr' s' hq'=>?_)
  cases r' with
  | ok fl =>
    cases fl with
    | ret u =>
      obtain⟨v,H',I',_,q'⟩:=I1.after hq'
      exact wpAny_execs_nil (wpAny_execs_nil ⟨σ,H',I',q'⟩)
    | next=>exact False.elim hq'
    | brk=>exact False.elim hq'
    | cont=>exact False.elim hq'
  | error ev =>
    obtain⟨a,C,H',g,fr,rfl,os,bare,un,hok,hfr,hsub,nr,lot,C',eC,cC,hT⟩:=hq'
    cases eC
    have fg:g.FunFrames X.base (X.env::X.outer):=by
      have q:=frames_un (h':=g) I1.stack λb hb o e=>by
        obtain⟨sl,z⟩:=un.slot b o e (I1.stkFree b hb) hb (by simp)
        exact⟨_,z,rfl⟩
      rw [hst.1] at q
      exact q
    have gone:∀b,(∃o,s1.heap.get? b=some o)→a≠b:=λb ⟨o,e⟩ z=>by
      obtain⟨o',e'⟩:=un.there b o e (by simp)
      rw [←z,lot.new] at e';cases e'
    have hn':H' a=none:=by
      cases q:H' a with
      | none=>rfl
      | some u =>
        obtain⟨o,e⟩:=(hok a u q).there
        rw [lot.new] at e;cases e
    have fr2:X.A.frames=some (X.env::X.outer):=by rw [←hst.1];exact I1.ok.frames
    have inv:∀h3,Nr fr g h3→Inv X pins σ H' { s' with heap:=h3 }:=λh3 n3 =>
      I1.call' (s':={ s' with heap:=h3 }) (ch:=[]) os (un.nr n3 λb hb=>(hfr b hb).1) (hok.nr n3 λb hb=>(hfr b hb).2) bare λb z=>absurd z (by simp)
    refine note_on (base:=X.base) (g:=g) (fr:=fr) fr2 fg hst.2 (λb hb=>hsub b (by rw [hst.1];exact hb)) nr lot λh2 n2 l2=>?_
    refine flight_off (s:={ s' with heap:=h2 }) n2 l2 λh3 n3 l3=>?_
    have I3:=inv h3 n3
    refine wpAny_handleBy_cons (codeAny_handlers_test (ld_glob (X:=X.hold a) (I3.hold a) hgc hmc (exc_match I3.kIn l3.at_ (hcd C cC) ?_) hdc)) (by intro q;cases q)
    refine codeAny_handlers_suite_as (flight_off (s:={ s' with heap:=h3 }) n3 l3 λh4 n4 l4=>?_)
    have I4:=inv h4 n4
    have I5:=I4.take (b:=a) (o:=.ext (XAt C a)) (by
        cases q:X.s₀.heap.get? a with
        | none=>rfl
        | some o=>exact absurd rfl (gone a (I1.base.there a o q (by rw [hex];simp))))
      (gone _ (let ⟨m,⟨o,_,_,e,_⟩,_⟩:=I1.loc;⟨o,e⟩)) (λx c e=>(gone c (let ⟨v,o,e,_⟩:=I1.cell x c e;⟨o,e⟩)).symm) (λp hp=>(gone p.1 ⟨_,(I1.pin p hp).1⟩).symm) hn' l4.at_.ext
    refine store_ok (X:=X) I5 hN hi (.inl hn) (v:=.ref a) rfl (λs5 I6=>?_) (.inr hn)
    refine wpAny_mono (hsu a pins s5 _ _ _ (I6.hold a) (hT a hn')) (λfl s6 q6=>?_) (λ_ _ z=>z.elim)
    cases fl with
    | next =>
      obtain⟨σ6,H6,I7,q7⟩:=q6
      exact name_goes (I7.unhold I.ok) hN hi hn λs7 I8=>⟨_,H6,I8,q7⟩
    | ret u=>obtain⟨_,_,_,_,_,z⟩:=q6;exact z.elim
    | brk=>obtain⟨_,_,_,z⟩:=q6;exact z.elim
    | cont=>obtain⟨_,_,_,z⟩:=q6;exact z.elim
end
end L2
namespace L2
open PySem PySem.W PySem.Calls PyProof.Rows
section
variable {X:Cx}{pins:List (Addr×Obj)}{σ:St}{H:Hp}{s:Shared}{h':Heap}
end
end L2
namespace L2
open PySem PySem.W PySem.Calls PyProof.Rows
section
variable {P:Program}{w:World}{K:Frag}{mg:Str→Option Value}{base:Heap}{N:List Str}{name qual:Str}{params:Arguments}{body:Expr}{scope:Scope}{f c:Addr}{clos:List (Str×Addr)}{pm ctv:Value}{A:Around}{outer:List Env}{s:Shared}{H:Hp}
end
end L2
namespace Dw
open PySem PySem.W PyProof.Rows
structure Ord (c:Nat→Nat→Bool):Prop where
  as:∀i j,c i j=true→c j i=false
  nt:∀i j k,c i j=false→c j k=false→c i k=false
noncomputable abbrev gt0 (p:Array Nat) (i:Nat):Nat:=p.getD i 0
section
variable {c:Nat→Nat→Bool}
noncomputable def Dn (c:Nat→Nat→Bool) (p:Array Nat) (n:Nat):Prop:=∀a b,a<b→b<n→c (gt0 p a) (gt0 p b)=false
end
end Dw
namespace Dw
open PySem PySem.W PySem.Calls PyProof.Rows
noncomputable def EntAt (h:Heap) (d:Addr) (es:Array DictEntry) (ep:Nat):Prop:=∃o,h.get? d=some o∧o.ExactDict∧o.data=.dict es ep
theorem EntAt.ty {s:Shared}{d:Addr}{es:Array DictEntry}{ep:Nat}(x:EntAt s.heap d es ep):s.TypeIs (.ref d) "dict":=let ⟨o,a,b,_⟩:=x;⟨o,a,b.1⟩
theorem EntAt.mv {h h':Heap}{d:Addr}{es:Array DictEntry}{ep:Nat}(x:EntAt h d es ep) (e:∀o,h.get? d=some o→h'.get? d=some o):EntAt h' d es ep:=let ⟨o,a,b⟩:=x;⟨o,e _ a,b⟩
theorem EntAt.lt {h:Heap}{d:Addr}{es:Array DictEntry}{ep:Nat}(x:EntAt h d es ep):d<h.objs.size:=let ⟨_,a,_⟩:=x;Heap.lt_size a
section
variable {prog:Program}{w:World}{A:Around}{E:Value→Shared→Prop}{s:Shared}{d it:Addr}{es:Array DictEntry}{ep i:Nat}
end
end Dw
namespace Dw
open PySem PySem.W PySem.Calls PyProof.Rows
section
variable {c:Nat→Nat→Bool}{n:Nat}
noncomputable def Bd (n:Nat) (p:Array Nat):Prop:=∀i,p.getD i 0<n
theorem Bd.mv {p q:Array Nat}(h0:0<n) (h:Bd n p) (e:q.Perm p):Bd n q:=λi=>by
  rw [Array.getD_eq_getD_getElem?]
  cases z:q[i]? with
  | none=>exact h0
  | some x =>
    have hx:x∈p:=e.mem_iff.mp (Array.mem_of_getElem? z)
    obtain⟨j,hj⟩:=Array.getElem?_of_mem hx
    have:=h j
    rw [Array.getD_eq_getD_getElem?,hj] at this
    exact this
end
section
variable {prog:Program}{w:World}{A:Around}{E:Value→Shared→Prop}{s:Shared}
end
end Dw
namespace Dw
open PySem PySem.W PySem.Calls PyProof.Rows
section
variable {prog:Program}{w:World}{A:Around}{E:Value→Shared→Prop}{s:Shared}{a kS:Addr}{vs ks:List Value}{κ:SortKind}{c:Nat→Nat→Bool}
end
end Dw
namespace Dw
open PySem PySem.W PySem.Calls PyProof.Rows
section
variable {prog:Program}{w:World}{A:Around}{E:Value→Shared→Prop}{s:Shared}
end
end Dw
namespace L2
open PySem PySem.W PySem.Calls PyProof.Rows Dw
section
variable {X:Cx}{pins:List (Addr×Obj)}{σ:St}{H:Hp}{s:Shared}
structure Ours (X:Cx) (pins:List (Addr×Obj)) (b:Addr):Prop where
  loc:b≠X.env.locals
  new:X.s₀.heap.objs.size≤b
  cel:∀x c,X.env.cells.lookup x=some c→c≠b
  pin:∀p∈X.pn++pins,p.1≠b
  stk:b∉frs X.stack
theorem Ours.of {b:Addr}(I:Inv X pins σ H s) (hb:s.heap.objs.size≤b):Ours X pins b where
  loc:=Nat.ne_of_gt (Nat.lt_of_lt_of_le I.lt hb)
  new:=Nat.le_trans I.sz hb
  cel:=λx c e=>by
    obtain⟨v,o,ho,_⟩:=I.cell x c e
    exact Nat.ne_of_lt (Nat.lt_of_lt_of_le (Heap.lt_size ho) hb)
  pin:=λp hp=>Nat.ne_of_lt (Nat.lt_of_lt_of_le (Heap.lt_size (I.pin p hp).1) hb)
  stk:=λhs=>by
    rcases List.mem_cons.mp (I.stkSub b hs) with z|z
    · exact absurd (Nat.lt_of_lt_of_le I.lt hb) (by rw [z];exact Nat.lt_irrefl _)
    · obtain⟨_,o,ho,_⟩:=I.ok.funs.mem z
      exact absurd (Nat.lt_of_lt_of_le (Heap.lt_size ho) (Nat.le_trans I.sz hb)) (Nat.lt_irrefl _)
end
end L2
namespace L2
open PySem PySem.W PySem.Calls PyProof.Rows Dw
section
variable {X:Cx}{id:String}{ks:List Str}{r:List V→List V→Hp→VK→St→Prop}{x:Str}{p pos:Pos}{e:Expr}{es:List Expr}{kws:List Keyword}{t tk:TA}
end
section
variable {X:Cx}{pins:List (Addr×Obj)}{σ:St}{H:Hp}{s:Shared}
end
end L2
namespace L2
open PySem
theorem clos_of {sc:Scope}{env:Env}(h:∀y,(y,NameKind.free)∈sc.names→∃c,env.cells.lookup y=some c) :
    ∃clos,closureFor sc env=pure clos∧(∀y c,clos.lookup y=some c→env.cells.lookup y=some c)∧∀y,(y,NameKind.free)∈sc.names→∃c,clos.lookup y=some c:=by
  unfold closureFor
  have go:∀(l:List (Str×NameKind)) (cs:List (Str×Addr)),(∀y,(y,NameKind.free)∈l→∃c,env.cells.lookup y=some c)→(∀y c,cs.lookup y=some c→env.cells.lookup y=some c) →
      ∃cs',(forIn l cs (λx (cs:List (Str×Addr))=>(match x with
        | (name,kind)=>if (kind == NameKind.free)=true then do let a ←cellOf env name;pure (ForInStep.yield ((name,a)::cs)) else pure (ForInStep.yield cs):Sem (ForInStep (List (Str×Addr))))))=(pure cs':Sem (List (Str×Addr))) ∧
        (∀y c,cs'.lookup y=some c→env.cells.lookup y=some c)∧(∀y,(y,NameKind.free)∈l→∃c,cs'.lookup y=some c)∧∀y c,cs.lookup y=some c→∃c,cs'.lookup y=some c:=by
    intro l
    induction l with
    | nil=>intro cs _ hc;exact⟨cs,rfl,hc,λ_ z=>(nomatch z),λy c e=>⟨c,e⟩⟩
    | cons x l ih =>
      intro cs hl hc
      obtain⟨nm,kd⟩:=x
      rw [List.forIn_cons]
      by_cases hk:kd=.free
      · subst hk
        obtain⟨a,ha⟩:=hl nm List.mem_cons_self
        obtain⟨cs',e1,e2,e3,e4⟩:=ih ((nm,a)::cs) (λy hy=>hl y (List.mem_cons_of_mem _ hy)) λy c e=>by
          rw [List.lookup_cons] at e
          split at e
          · rename_i hq;cases e;rw [beq_iff_eq.mp hq];exact ha
          · exact hc y c e
        refine⟨cs',?_,e2,λy hy=>?_,λy c e=>?_⟩
        · simp only [beq_self_eq_true,if_true,cellOf,ha,pure_bind]
          exact e1
        · rcases List.mem_cons.mp hy with q|q
          · cases q;exact e4 nm a (by rw [List.lookup_cons,beq_self_eq_true])
          · exact e3 y q
        · by_cases q:y=nm
          · subst q;exact e4 y a (by rw [List.lookup_cons,beq_self_eq_true])
          · exact e4 y c (by rw [List.lookup_cons,show (y == nm)=false by simpa using q];exact e)
      · obtain⟨cs',e1,e2,e3,e4⟩:=ih cs (λy hy=>hl y (List.mem_cons_of_mem _ hy)) hc
        refine⟨cs',?_,e2,λy hy=>?_,e4⟩
        · have:(kd == NameKind.free)=false:=by simpa using hk
          simp only [this,Bool.false_eq_true,if_false,pure_bind]
          exact e1
        · rcases List.mem_cons.mp hy with q|q
          · cases q;exact absurd rfl hk
          · exact e3 y q
  obtain⟨cs',e1,e2,e3,_⟩:=go sc.names [] h λ_ _ z=>(nomatch z)
  refine⟨cs',?_,e2,e3⟩
  have e:=congrArg (λm=>m >>= λcs=>(pure cs:Sem (List (Str×Addr)))) e1
  simp only [pure_bind] at e
  exact e
end L2
namespace Dw
open PySem L2
noncomputable def tbs:List (Addr×Pos×Str):=[]
noncomputable def TB (H:Hp):Prop:=∀t∈tbs,H t.1=some (.tab t.2.1 t.2.2)
theorem TB.same {H H':Hp}(h:TB H) (s:Same H H'):TB H':=λt m=>s _ _ (h t m)
end Dw
namespace Dw
open PySem PySem.Spec PyProof.Rows L2
noncomputable def Its (lo st:Int) (n:Nat):It:={ go:=λi _=>i<n,yld:=λi H x H'=>H'=H∧x=V.int (lo+(i:Nat) * st),stop:=λi _=>n≤i }
theorem rsz_eq (a b c:Int):Builtin.Range.rangeSize a b c=rszD a b c:=rfl
theorem rsz_bd (a b c:Int) (h:c≠0):0≤rszD a b c∧rszD a b c≤(b - a).natAbs:=by
  unfold rszD
  split
  · split
    · have h1:0≤(b - a - 1) / c:=Int.ediv_nonneg (by omega) (by omega)
      have h2:(b - a - 1) / c≤b - a - 1:=Int.ediv_le_self _ (by omega)
      omega
    · omega
  · split
    · have h1:0≤(a - b - 1) / -c:=Int.ediv_nonneg (by omega) (by omega)
      have h2:(a - b - 1) / -c≤a - b - 1:=Int.ediv_le_self _ (by omega)
      omega
    · omega
theorem rsz_small {a b c:Int}(h1:-(2^62)≤a) (h2:a<2^62) (h3:-(2^62)≤b) (h4:b<2^62) (h5:c≠0) (h6:c.natAbs<2^30):Builtin.Range.small a b c=true:=by
  have hb:=rsz_bd a b c h5
  unfold Builtin.Range.small
  rw [rsz_eq]
  generalize rszD a b c=z at hb
  have f:∀x:Int,-(2^63)≤x→x<2^63→Builtin.Range.rangeFitsLong x=true:=by
    intro x p q
    simp [Builtin.Range.rangeFitsLong];omega
  rw [f a (by omega) (by omega),f b (by omega) (by omega),f c (by omega) (by omega),f z (by omega) (by omega)]
  simp only [Bool.true_and,Bool.or_eq_true]
  right
  split
  · exact f _ (by omega) (by omega)
  · exact f _ (by omega) (by omega)
theorem turnStep {P:Program}{w:World}{K:PySem.W.Frag}{tg:Expr}(j:Addr) (lo st:Int) (n:Nat):Turn P w K tg (Its lo st n) [j] j (λi h=>IsRangeIter h j (lo+(i:Nat) * st) ((n:Int) - (i:Nat)) st) where
  mem:=by simp
  obj:=λi h y b hb=>by
    have e:b=j:=by simpa using hb
    subst e
    exact⟨_,y,λv z=>by
      have z':Data.fields _=Data.cell v:=z
      cases z'⟩
  keep:=λi h h' y k=>k j (by simp) _ y
  item:=by
    intro X hP hw hK hc i pins s σ H E I hf y hg
    subst hP hw hK
    obtain⟨u0,u1,u2,u3,u4,u5⟩:=hf j (by simp)
    have W:=Walks.range (prog:=X.prog) (w:=X.w) (I.ok.hd hc) j lo st n
    refine W.item i s _ _ hg y λv h' tk hv y' kk=>?_
    obtain⟨t,rfl⟩:=hv
    have J:Inv X pins σ H { s with heap:=h',toks:=tk }:=I.turned (λb o hb e=>kk b o (by simpa using hb) e) u0 u1 u3 u4 u5
    exact⟨_,rfl,go_of (s:={ s with heap:=h',toks:=tk }) (n:="range_iterator") y' rfl rfl (by decide) ⟨.int (lo+i * st),H,J,⟨t,rfl⟩,⟨rfl,rfl⟩,y',λb hb=>(hf b hb).1⟩⟩
  done:=by
    intro X hP hw hK hc i pins s σ H E I hf y hg
    subst hP hw hK
    obtain⟨u0,u1,u2,u3,u4,u5⟩:=hf j (by simp)
    exact wpAny_pyNext_range_end (I.ok.hd hc) y (by have:n≤i:=hg;omega) λh' eb=>⟨rfl,I.turned (t':=s.toks) (λb o hb e=>eb b o hb e) u0 u1 u3 u4 u5⟩
  self:=λ_ _ _ _ _ y h=>wpAny_pyIter_rangeiter y h
section
variable {X:Cx}{tg:Expr}
theorem stepIt {pins:List (Addr×Obj)}{σ:L2.St}{H:Hp}{s:Shared}{R:It→Hp→Prop}{E:Value→Shared→Prop}{lo hi st:Int}{t u v:Tok}{tk:Nat}(I:L2.Inv X pins σ H s) (h1:-(2^62)≤lo) (h2:lo<2^62) (h3:-(2^62)≤hi) (h4:hi<2^62) (h5:st≠0) (h6:st.natAbs<2^30)
    (q:R (Its lo st (rszD lo hi st).toNat) H):wpAny (model X.prog X.w) X.A (pyIter (.ref s.heap.objs.size)) (PIE X pins σ tg R) E { s with heap:=s.heap.push { cls:=.type "range",data:=.fields #[.int lo t,.int hi u,.int st v] },toks:=tk }:=by
  refine wpAny_pyIter_range (IsRange.new ..) (rsz_small h1 h2 h3 h4 h5 h6) ?_
  have J:Inv X pins σ H { s with heap:=s.heap.push { cls:=.type "range",data:=.fields #[.int lo t,.int hi u,.int st v] },toks:=tk }:=I.kept λb o e=>Heap.get?_push_of_some _ e
  refine⟨(s.heap.push { cls:=.type "range",data:=.fields #[.int lo t,.int hi u,.int st v] }).objs.size,[(s.heap.push { cls:=.type "range",data:=.fields #[.int lo t,.int hi u,.int st v] }).objs.size],_,_,H,rfl,
    J.kept (t':=tk) λb o e=>Heap.get?_push_of_some _ e,turnStep _ lo st (rszD lo hi st).toNat,?_,λb hb=>?_,q⟩
  · have e1:lo+((0:Nat):Int) * st=lo:=by simp
    have e2:(((rszD lo hi st).toNat:Nat):Int) - ((0:Nat):Int)=Builtin.Range.rangeSize lo hi st:=by
      have:=rsz_bd lo hi st h5
      rw [rsz_eq];omega
    show IsRangeIter _ _ (lo+((0:Nat):Int) * st) ((((rszD lo hi st).toNat:Nat):Int) - ((0:Nat):Int)) st
    rw [e1,e2]
    exact Heap.get?_push_size _ rfl
  · have e:b=(s.heap.push { cls:=.type "range",data:=.fields #[.int lo t,.int hi u,.int st v] }).objs.size:=by simpa using hb
    subst e
    exact J.fpOk (Nat.le_refl _) (J.hok.fresh (Nat.le_refl _))
noncomputable def iRng3 (ta:TA):TI:=fun σ H R=>ta σ H λvs H1=>∃i j c:Int,vs=[.int i,.int j,.int c]∧(-(2^62)≤i∧i<2^62∧-(2^62)≤j∧j<2^62∧c≠0∧c.natAbs<2^30)∧R (Its i c (rszD i j c).toNat) H1
theorem no_pylong (x y:Int) (h:y.natAbs<2^30):Builtin.divisionGoesByPylong x y=false:=by
  unfold Builtin.divisionGoesByPylong
  simp only [Bool.and_eq_false_iff,decide_eq_false_iff_not]
  left
  split
  · decide
  · have:y.natAbs.log2<30:=by
      by_cases h0:y.natAbs=0
      · rw [h0];decide
      · exact (Nat.log2_lt h0).mpr h
    omega
theorem pi_range3 {a b c:Expr}{ta:TA}{p pos:Pos}(hg:Gl X "range") (hm:X.mg "range"=none) (ha:PA X [a,b,c] ta) (hs:starEach [a,b,c] X.env=[(false,eval a X.env),(false,eval b X.env),(false,eval c X.env)]) (hs2:starEach [b,c] X.env=[(false,eval b X.env),(false,eval c X.env)]) :
    PI X tg (.Call (.Name "range" p) [a,b,c] [] pos) (iRng3 ta):=by
  intro pins s σ H R I h
  refine Call_ (ld_blt I hg hm boot_range (PyProof.Rows.callWith_type1 (thn (ha pos pins s σ H _ I h) λus s1 ⟨vs,H1,J,r1,q1⟩=>?_) (by rw [hs,hs2]) (by rw [hs2];rfl)))
  obtain⟨i,j,k,e,⟨q1,q2,q3,q4,q5,q6⟩,q⟩:=q1
  subst e
  cases r1 with
  | cons r rr =>
    cases rr with
    | cons r' rr =>
      cases rr with
      | cons r'' rr =>
        cases rr
        obtain⟨t,rfl⟩:=r
        obtain⟨t',rfl⟩:=r'
        obtain⟨t'',rfl⟩:=r''
        exact call_range_3 q5 (stepIt J q1 q2 q3 q4 q5 q6 q) (.inl (no_pylong _ _ q6))
end
end Dw
namespace Dw
open PySem PySem.Spec PyProof.Rows L2
section
variable {prog:Program}{w:World}{A:Around}{E:Value→Shared→Prop}{s:Shared}
theorem sub_ri_rev:isSubtype (.type "range_iterator") (.type "reversed")=pure false:=by rw [isSubtype_type];kernel_rfl
noncomputable def rvIt (N:Nat):Obj:={ cls:=.type "range_iterator",data:=.fields #[rawInt ((N:Int) - 1),rawInt (N:Int),rawInt (-1)] }
theorem rsz_one (n:Int):Builtin.Range.rangeSize 0 n 1=(n.toNat:Int):=by
  unfold Builtin.Range.rangeSize
  rw [if_pos (by omega)]
  split<;>omega
theorem rv_parts {r:Addr}{a b c:Int}{t u v:Tok}{Q:Int×Int×Int→Shared→Prop}(hr:IsRange s.heap r a b c t u v) (h:Q (a,b,c) s):wpAny (model prog w) A (Builtin.Range.rangeFields (.ref r)) Q E s:=by
  unfold Builtin.Range.rangeFields
  refine wpAny_bind (wpAny_field hr rfl (x:=.int a t) rfl ?_)
  refine wpAny_bind (wpAny_of_eq (a:=some a) rfl ?_)
  refine wpAny_bind (wpAny_field hr rfl (x:=.int b u) rfl ?_)
  refine wpAny_bind (wpAny_of_eq (a:=some b) rfl ?_)
  refine wpAny_bind (wpAny_field hr rfl (x:=.int c v) rfl ?_)
  refine wpAny_bind (wpAny_of_eq (a:=some c) rfl ?_)
  exact wpAny_pure h
theorem rv_meth {r:Addr}{n:Int}{t u v:Tok}{Q:Value→Shared→Prop}(hr:IsRange s.heap r 0 n 1 t u v) (h1:-(2^62)≤n) (h2:n<2^62)
    (h:Q (.ref s.heap.objs.size) { s with heap:=s.heap.push (rvIt n.toNat) }):wpAny (model prog w) A (call (.builtin "range.__reversed__") [.ref r]) Q E s:=by
  have hT:s.TypeIs (.ref r) "range":=⟨_,hr,rfl⟩
  refine wpAny_call_entry F.slot_range_reversed hT F.entry_range_reversed ?_ (F.args_range_reversed_1 _)
  unfold Builtin.«range.__reversed__»
  refine wpAny_bind (wpAny_of_eq (a:=Value.ref r) rfl ?_)
  refine wpAny_bind (rv_parts hr ?_)
  have f:∀x:Int,-(2^63)≤x→x<2^63→Builtin.Range.rangeFitsLong x=true:=by
    intro x p q
    simp [Builtin.Range.rangeFitsLong];omega
  have hs:(Builtin.Range.rangeFitsLong 0&&Builtin.Range.rangeFitsLong n&&Builtin.Range.rangeFitsLong 1&&Builtin.Range.rangeFitsLong (-1)&&Builtin.Range.rangeFitsLong (0 - 1)&&Builtin.Range.rangeFitsLong (Builtin.Range.rangeSize 0 n 1))=true:=by
    rw [rsz_one,f 0 (by omega) (by omega),f n (by omega) (by omega),f 1 (by omega) (by omega),f (-1) (by omega) (by omega),f (0 - 1) (by omega) (by omega),f _ (by omega) (by omega)];rfl
  simp only [hs,Bool.not_true,Bool.false_eq_true,if_false,if_true]
  refine wpAny_bind (wpAny_newObj_type (wpAny_pure ⟨_,rfl,?_⟩))
  have e:rvIt n.toNat={ cls:=.type "range_iterator",data:=.fields [rawInt (0+(Builtin.Range.rangeSize 0 n 1 - 1) * 1),rawInt (Builtin.Range.rangeSize 0 n 1),rawInt (-1)].toArray }:=by
    rw [rsz_one];unfold rvIt;rw [show (0:Int)+(((n.toNat:Nat):Int) - 1) * 1=(n.toNat:Int) - 1 by omega]
  rw [e] at h
  exact h
theorem rv_new {r:Addr}{n:Int}{t u v:Tok}{Q₁:Value→Shared→Prop}(hr:IsRange s.heap r 0 n 1 t u v) (h1:-(2^62)≤n) (h2:n<2^62)
    (h:Q₁ (.ref s.heap.objs.size) { s with heap:=s.heap.push (rvIt n.toNat) }):codeAny (model prog w) A (.call (.builtin "reversed.__new__") ⟨[.type "reversed",.ref r],[]⟩) (wants Q₁ E) s:=by
  have hT:s.TypeIs (.ref r) "range":=⟨_,hr,rfl⟩
  refine codeAny_of_tree (show wpAny _ A.in1 (do checkBuiltinCall "reversed.__new__" ⟨[.type "reversed",.ref r],[]⟩;again (.builtin "reversed.__new__" ⟨[.type "reversed",.ref r],[]⟩)) _ _ s from ?_)
  refine wpAny_bind (wpAny_of_eq (F.newCall_reversed_1 _) (wpAny_pure ⟨plainId_quiet F.plain_reversed_new _,codeAny_builtin F.entry_reversed_new ?_⟩))
  rw [Around.under_plainId F.plain_reversed_new _,Builtin.«reversed.__new__»]
  refine wpAny_bind (wpAny_of_eq (newClass_reversed _) ?_)
  try dsimp only
  refine wpAny_bind (wpAny_of_eq (a:=()) (by first|rfl|kernel_rfl) (wpAny_bind (wpAny_of_eq (a:=()) (by first|rfl|kernel_rfl) ?_)))
  try dsimp only
  refine wpAny_bind (wpAny_specialOf hT F.slot_range_reversed.lookup ?_)
  try dsimp only
  refine wpAny_bind (wpAny_of_eq (F.slot_range_reversed.bind _) ?_)
  try dsimp only
  have ne:¬((Value.builtin "range.__reversed__" == Value.none)=true):=Bool.false_ne_true
  first
  | rw [if_neg ne]
  | (show wpAny _ _ (if (Value.builtin "range.__reversed__" == Value.none)=true then _ else _) _ _ _;rw [if_neg ne])
  refine wpAny_bind (wpAny_rule (wpAny_bind (m:=runValue (.call (.builtin "range.__reversed__") ⟨[.ref r],[]⟩)) (show wpAny _ _ (call (.builtin "range.__reversed__") [.ref r]) _ _ _ from rv_meth hr h1 h2 ?_)))
  first
  | exact wpAny_pure h
  | exact wpAny_bind (wpAny_pure (wpAny_pure h))
theorem rv_call {r:Addr}{n:Int}{t u v:Tok}{Q:Value→Shared→Prop}(hr:IsRange s.heap r 0 n 1 t u v) (h1:-(2^62)≤n) (h2:n<2^62)
    (h:Q (.ref s.heap.objs.size) { s with heap:=s.heap.push (rvIt n.toNat) }):wpAny (model prog w) A (call (.type "reversed") [.ref r]) Q E s:=by
  refine callType_other (U:="range_iterator") (Q₁:=λo s₁=>o=.ref s.heap.objs.size∧s₁={ s with heap:=s.heap.push (rvIt n.toNat) }) (by decide +kernel) F.create_reversed ⟨_,_,F.mro_reversed⟩ F.made_reversed sub_ri_rev (F.typeCall_reversed_1 _) (rv_new hr h1 h2 ⟨rfl,rfl⟩) ?_
  rintro o s₁ ⟨rfl,rfl⟩
  exact⟨⟨_,Heap.get?_push_size _ rfl,rfl⟩,h⟩
end
theorem boot_reversed:bootBuiltins (Str.ofString "reversed")=some (.type "reversed"):=by decide +kernel
section
variable {X:Cx}{tg:Expr}
theorem revIt {pins:List (Addr×Obj)}{σ:L2.St}{H:Hp}{s:Shared}{R:It→Hp→Prop}{E:Value→Shared→Prop}{n:Int}{t u v:Tok}{tk:Nat}(I:L2.Inv X pins σ H s) (h1:-(2^62)≤n) (h2:n<2^62)
    (q:R (Its ((n.toNat:Int) - 1) (-1) n.toNat) H):wpAny (model X.prog X.w) X.A (call (.type "reversed") [.ref s.heap.objs.size]) (λv s'=>wpAny (model X.prog X.w) X.A (pyIter v) (PIE X pins σ tg R) E s') E
      { s with heap:=s.heap.push { cls:=.type "range",data:=.fields #[.int 0 t,.int n u,.int 1 v] },toks:=tk }:=by
  have J:Inv X pins σ H { s with heap:=s.heap.push { cls:=.type "range",data:=.fields #[.int 0 t,.int n u,.int 1 v] },toks:=tk }:=I.kept λb o e=>Heap.get?_push_of_some _ e
  refine rv_call (IsRange.new ..) h1 h2 ?_
  have y:IsRangeIter ((s.heap.push { cls:=.type "range",data:=.fields #[.int 0 t,.int n u,.int 1 v] }).push (rvIt n.toNat)) (s.heap.push { cls:=.type "range",data:=.fields #[.int 0 t,.int n u,.int 1 v] }).objs.size ((n.toNat:Int) - 1) (n.toNat:Int) (-1):=Heap.get?_push_size _ rfl
  refine wpAny_pyIter_rangeiter y ?_
  refine⟨(s.heap.push { cls:=.type "range",data:=.fields #[.int 0 t,.int n u,.int 1 v] }).objs.size,[(s.heap.push { cls:=.type "range",data:=.fields #[.int 0 t,.int n u,.int 1 v] }).objs.size],_,_,H,rfl,
    J.kept (t':=tk) λb o e=>Heap.get?_push_of_some _ e,turnStep _ ((n.toNat:Int) - 1) (-1) n.toNat,?_,λb hb=>?_,q⟩
  · show IsRangeIter _ _ (((n.toNat:Int) - 1)+((0:Nat):Int) * (-1)) (((n.toNat:Nat):Int) - ((0:Nat):Int)) (-1)
    rw [show ((n.toNat:Int) - 1)+((0:Nat):Int) * (-1)=(n.toNat:Int) - 1 by omega,show ((n.toNat:Nat):Int) - ((0:Nat):Int)=(n.toNat:Int) by omega]
    exact y
  · have e:b=(s.heap.push { cls:=.type "range",data:=.fields #[.int 0 t,.int n u,.int 1 v] }).objs.size:=by simpa using hb
    subst e
    exact J.fpOk (Nat.le_refl _) (J.hok.fresh (Nat.le_refl _))
noncomputable def iRev (ta:TA):TI:=fun σ H R=>ta σ H λvs H1=>∃i:Int,vs=[.int i]∧(-(2^62)≤i∧i<2^62)∧R (Its ((i.toNat:Int) - 1) (-1) i.toNat) H1
theorem pi_rev {a:Expr}{ta:TA}{p p' pos pos':Pos}(hg:Gl X "range") (hm:X.mg "range"=none) (hg':Gl X "reversed") (hm':X.mg "reversed"=none) (ha:PA X [a] ta) (hs:starEach [a] X.env=[(false,eval a X.env)]) :
    PI X tg (.Call (.Name "reversed" p') [.Call (.Name "range" p) [a] [] pos] [] pos') (iRev ta):=by
  intro pins s σ H R I h
  refine Call_ (ld_blt I hg' hm' boot_reversed (PyProof.Rows.callWith_type1 (rest:=[]) ?_ rfl rfl))
  show wpAny _ _ (spliced ((false,eval (.Call (.Name "range" p) [a] [] pos) X.env)::backTo pos' (starEach [] X.env))) _ _ s
  refine Calls.spliced_cons ?_
  refine Call_ (ld_blt I hg hm boot_range (PyProof.Rows.callWith_type1 (thn (ha pos pins s σ H _ I h) λus s1 ⟨vs,H1,I1,r1,q1⟩=>?_) hs rfl))
  obtain⟨j,e,⟨q1,q2⟩,q⟩:=q1
  subst e
  cases r1 with
  | cons r rr =>
    cases rr
    obtain⟨t,rfl⟩:=r
    exact call_range_1 (Calls.spliced_nil (revIt I1 q1 q2 q))
end
end Dw
namespace Dw
open PySem PySem.Spec PyProof.Rows L2 HT
section
variable {prog:Program}{w:World}{A:Around}{E:Value→Shared→Prop}{s:Shared}
theorem exact_tup {t:Addr}{items:Array Value}{Q:Bool→Shared→Prop}(ht:IsTup s.heap t items) (h:Q true s):wpAny (model prog w) A (Builtin.Tuple.tupleIsExact (.ref t)) Q E s:=by
  unfold Builtin.Tuple.tupleIsExact
  exact wpAny_bind (wpAny_typeOf ht.typeIs (wpAny_pure h))
theorem tup_whole {t sl:Addr}{items:Array Value}{vl vu:Value}{lo hi:Option Int}{Q:Value→Shared→Prop}(ht:IsTup s.heap t items) (hs:s.heap.IsSliceOf sl vl vu .none) (pl:IsPart vl lo) (pu:IsPart vu hi)
    (hw:sIx items.size 0 lo=0∧sIx items.size items.size hi=items.size) (h:Q (.ref t) s):wpAny (model prog w) A (getItem (.ref t) (.ref sl)) Q E s:=by
  obtain⟨os,hos,hcs,hds⟩:=id hs
  have hTs:s.TypeIs (.ref sl) "slice":=⟨os,hos,hcs⟩
  unfold getItem
  try with_reducible refine wpAny_holding ?_
  first|refine wpAny_bind (wpAny_pure ?_)|skip
  refine wpAny_bind (wpAny_sequenceKey ht.typeIs (by decide) ?_)
  refine wpAny_bind (wpAny_callSpecial?_slot (name:=Str.ofString "__getitem__") ht.typeIs PyProof.Rows.slot_tuple_getitem
    (wpAny_call_entry PyProof.Rows.slot_tuple_getitem ht.typeIs entry_tuple_getitem ?_ (args_tuple_getitem _ _)))
  show wpAny _ _ (Builtin.Tuple.tupleItemsOf (.ref t) >>= _) _ _ s
  refine wpAny_bind (tupleItemsOf_ ht (wpAny_bind (wpAny_typeOf hTs ?_)))
  rw [if_pos (by decide)]
  refine wpAny_bind (sliceApplied_gen hs pl pu ?_)
  have yes:(((sIx items.size 0 lo:Nat):Int) == 0&&(1:Int) == 1&&(sIx items.size items.size hi - sIx items.size 0 lo) == items.size)=true:=by
    rw [hw.1,hw.2];simp
  show wpAny _ _ (if (((sIx items.size 0 lo:Nat):Int) == 0&&(1:Int) == 1&&(sIx items.size items.size hi - sIx items.size 0 lo) == items.size)=true then _ else _) _ _ s
  rw [if_pos yes]
  refine wpAny_bind (exact_tup ht ?_)
  rw [if_pos rfl]
  refine wpAny_bind (wpAny_rule ?_)
  first
    | exact wpAny_bind (wpAny_pure (wpAny_pure ⟨_,rfl,wpAny_pure h⟩))
    | exact wpAny_bind (wpAny_pure ⟨_,rfl,wpAny_pure h⟩)
    | exact wpAny_pure ⟨_,rfl,wpAny_pure h⟩
end
section
variable {X:Cx}
noncomputable def rSlA (K:PySem.W.Frag):V→Option Int→Option Int→Hp→VK→Prop:=λx lo hi H Q=>∃a xs,x=.ref a∧SqT K H a xs∧(HT.sIx xs.length 0 lo=0∧HT.sIx xs.length xs.length hi=xs.length)∧Q (.ref a) H
theorem sl_all:SlR X (rSlA X.K):=by
  intro pins s σ H x v vl vu lo hi sl Q I rx hs pl pu h
  obtain⟨a,xs,rfl,hx,hw,q⟩:=h
  cases rx
  obtain⟨its,r,ht,hz⟩:=I.tuple hx
  have hlen:its.toArray.size=xs.length:=by rw [List.size_toArray];exact r.length.symm
  exact⟨"tuple",_,PyProof.Rows.slot_tuple_getitem.lookup,ht.typeIs,tup_whole ht hs pl pu (by rw [hlen];exact hw) ⟨.ref a,H,I,rfl,q⟩⟩
theorem cat_nil {prog:Program}{w:World}{A:Around}{E:Value→Shared→Prop}{s:Shared}{t b:Addr}{ws:Array Value}{Q:Value→Shared→Prop}(ht:IsTup s.heap t #[]) (hb:IsTup s.heap b ws) (h:Q (.ref b) s):wpAny (model prog w) A (binaryOp .Add (.ref t) (.ref b)) Q E s:=by
  obtain⟨⟨cls,dd,data,sl⟩,ho,hc,n,hd⟩:=id ht
  obtain⟨⟨cls2,dd2,data2,sl2⟩,ho2,hc2,n2,hd2⟩:=id hb
  simp only at hc hd hc2 hd2
  subst hc hd hc2 hd2
  exact concat_meets ⟨_,ho,rfl⟩ ⟨_,ho2,rfl⟩ noFill_tuple_add seq_tuple_add PySem.F.slot_tuple_add PySem.F.entry_tuple_add (PySem.F.args_tuple_add_2 _ _) (tuple_addW0 t b #[] ws n n2 dd dd2 sl sl2 rfl) ⟨ho,ho2,h⟩
theorem op_catN:OpR X (binaryOp .Add) (λx y H Q=>∃a b ys,x=.ref a∧y=.ref b∧SqT X.K H a []∧SqT X.K H b ys∧Q (.ref b) H):=by
  intro pins s σ H x y v u Q I rx ry h
  obtain⟨a,b,ys,rfl,rfl,ha,hb,q⟩:=h
  cases rx
  cases ry
  obtain⟨its,r1,p1,_⟩:=I.tuple ha
  obtain⟨its2,r2,p2,_⟩:=I.tuple hb
  cases r1
  exact cat_nil p1 p2 ⟨.ref b,H,I,rfl,q⟩
end
end Dw
namespace Dw
open PySem PySem.Spec PyProof.Rows L2
section
variable {X:Cx}
noncomputable def tFv (te:TE):TE:=fun σ H Q=>te σ H λx H1=>∃i:Int,x=.int i∧i.natAbs.log2<1920∧Q (.str (Str.ofString (toString i))) H1
theorem pe_fv {e:Expr}{te:TE}{pos:Pos}(he:PE X e te):PE X (.FormattedValue e (-1) none pos) (tFv te):=by
  intro pins s σ H Q I h
  refine wpAny_FormattedValue_plain (thn (he pins s σ H _ I h) λv s1 ⟨x,H1,I1,r1,i,e1,hi,q⟩=>?_)
  subst e1
  obtain⟨t,rfl⟩:=r1
  exact wpAny_formatField_int hi ⟨.str _,H1,(I1.tok _).tok _,⟨_,rfl⟩,q⟩
noncomputable abbrev TJ:=Str→L2.St→Hp→(Str→Hp→Prop)→Prop
noncomputable def PJ (X:Cx) (es:List Expr) (t:TJ):Prop:=∀(pins:List (Addr×Obj)) (s:Shared) (σ:L2.St) (H:Hp) (acc:Str) (Q:Str→Hp→Prop),Inv X pins σ H s→t acc σ H Q →
  Joins (model X.prog X.w) X.A X.xe (evalEach es X.env) acc (λout s'=>∃H',Inv X pins σ H' s'∧Q out H') s
noncomputable def tjNil:TJ:=λacc _ H Q=>Q acc H
noncomputable def tjCons (te:TE) (t:TJ):TJ:=λacc σ H Q=>te σ H λx H1=>∃y,x=.str y∧(acc++y).length≤sizeLine∧t (acc++y) σ H1 Q
theorem pj_nil:PJ X [] tjNil:=λpins s σ H acc Q I h=>⟨H,I,h⟩
theorem pj_cons {e:Expr}{es:List Expr}{te:TE}{t:TJ}(he:PE X e te) (hr:PJ X es t):PJ X (e::es) (tjCons te t):=by
  intro pins s σ H acc Q I h
  refine thn (he pins s σ H _ I h) λv s1 ⟨x,H1,I1,r1,y,e1,hz,q⟩=>?_
  subst e1
  obtain⟨t',rfl⟩:=r1
  exact⟨y,t',rfl,hz,hr pins s1 σ H1 _ Q I1 q⟩
end
end Dw
namespace Dw
open PySem PySem.Spec PyProof.Rows L2
theorem turnLong {P:Program}{w:World}{K:PySem.W.Frag}{tg:Expr}(j:Addr) (lo st:Int) (n:Nat):Turn P w K tg (Its lo st n) [j] j (λi h=>IsLongIter h j (lo+(i:Nat) * st) ((n:Int) - (i:Nat)) st) where
  mem:=by simp
  obj:=λi h y b hb=>by
    have e:b=j:=by simpa using hb
    subst e
    exact⟨_,y,λv z=>by
      have z':Data.fields _=Data.cell v:=z
      cases z'⟩
  keep:=λi h h' y k=>k j (by simp) _ y
  item:=by
    intro X hP hw hK hc i pins s σ H E I hf y hg
    subst hP hw hK
    obtain⟨u0,u1,u2,u3,u4,u5⟩:=hf j (by simp)
    have W:=Walks.longrange (prog:=X.prog) (w:=X.w) (I.ok.hd hc) j lo st n
    refine W.item i s _ _ hg y λv h' tk hv y' kk=>?_
    obtain⟨t,rfl⟩:=hv
    have J:Inv X pins σ H { s with heap:=h',toks:=tk }:=I.turned (λb o hb e=>kk b o (by simpa using hb) e) u0 u1 u3 u4 u5
    exact⟨_,rfl,go_of (s:={ s with heap:=h',toks:=tk }) (n:="longrange_iterator") y' rfl rfl (by decide) ⟨.int (lo+i * st),H,J,⟨t,rfl⟩,⟨rfl,rfl⟩,y',λb hb=>(hf b hb).1⟩⟩
  done:=by
    intro X hP hw hK hc i pins s σ H E I hf y hg
    subst hP hw hK
    obtain⟨u0,u1,u2,u3,u4,u5⟩:=hf j (by simp)
    exact wpAny_pyNext_long_end (I.ok.hd hc) y (by have:n≤i:=hg;omega) λh' eb=>⟨rfl,I.turned (t':=s.toks) (λb o hb e=>eb b o hb e) u0 u1 u3 u4 u5⟩
  self:=λ_ _ _ _ _ y h=>wpAny_pyIter_longiter y h
section
variable {X:Cx}{tg:Expr}
theorem longIt {pins:List (Addr×Obj)}{σ:L2.St}{H:Hp}{s:Shared}{R:It→Hp→Prop}{E:Value→Shared→Prop}{lo hi:Int}{t u v:Tok}{tk:Nat}(I:L2.Inv X pins σ H s)
    (q:R (Its lo 1 (hi - lo).toNat) H):wpAny (model X.prog X.w) X.A (pyIter (.ref s.heap.objs.size)) (PIE X pins σ tg R) E { s with heap:=s.heap.push { cls:=.type "range",data:=.fields #[.int lo t,.int hi u,.int 1 v] },toks:=tk }:=by
  have J:Inv X pins σ H { s with heap:=s.heap.push { cls:=.type "range",data:=.fields #[.int lo t,.int hi u,.int 1 v] },toks:=tk }:=I.kept λb o e=>Heap.get?_push_of_some _ e
  have e1:lo+((0:Nat):Int) * 1=lo:=by simp
  have e2:(((hi - lo).toNat:Nat):Int) - ((0:Nat):Int)=Builtin.Range.rangeSize lo hi 1:=by rw [rangeSize_one];split<;>omega
  have fp:∀b∈[(s.heap.push { cls:=.type "range",data:=.fields #[.int lo t,.int hi u,.int 1 v] }).objs.size],FpOk X pins H b:=λb hb=>by
    have e:b=(s.heap.push { cls:=.type "range",data:=.fields #[.int lo t,.int hi u,.int 1 v] }).objs.size:=by simpa using hb
    subst e
    exact J.fpOk (Nat.le_refl _) (J.hok.fresh (Nat.le_refl _))
  cases hsm:Builtin.Range.small lo hi 1 with
  | true =>
    refine wpAny_pyIter_range (IsRange.new ..) hsm ⟨_,[(s.heap.push { cls:=.type "range",data:=.fields #[.int lo t,.int hi u,.int 1 v] }).objs.size],_,_,H,rfl,J.kept (t':=tk) λb o e=>Heap.get?_push_of_some _ e,turnStep _ lo 1 (hi - lo).toNat,?_,fp,q⟩
    show IsRangeIter _ _ (lo+((0:Nat):Int) * 1) ((((hi - lo).toNat:Nat):Int) - ((0:Nat):Int)) 1
    rw [e1,e2]
    exact Heap.get?_push_size _ rfl
  | false =>
    refine wpAny_pyIter_longrange (IsRange.new ..) hsm ⟨_,[(s.heap.push { cls:=.type "range",data:=.fields #[.int lo t,.int hi u,.int 1 v] }).objs.size],_,_,H,rfl,J.kept (t':=tk) λb o e=>Heap.get?_push_of_some _ e,turnLong _ lo 1 (hi - lo).toNat,?_,fp,q⟩
    show IsLongIter _ _ (lo+((0:Nat):Int) * 1) ((((hi - lo).toNat:Nat):Int) - ((0:Nat):Int)) 1
    rw [e1,e2]
    exact Heap.get?_push_size _ rfl
noncomputable def iRngL (ta:TA):TI:=fun σ H R=>ta σ H λvs H1=>∃i j:Int,vs=[.int i,.int j]∧R (Its i 1 (j - i).toNat) H1
theorem pi_rangeL {a b:Expr}{ta:TA}{p pos:Pos}(hg:Gl X "range") (hm:X.mg "range"=none) (ha:PA X [a,b] ta) (hs:starEach [a,b] X.env=[(false,eval a X.env),(false,eval b X.env)]) (hs2:starEach [b] X.env=[(false,eval b X.env)]) :
    PI X tg (.Call (.Name "range" p) [a,b] [] pos) (iRngL ta):=by
  intro pins s σ H R I h
  refine Call_ (ld_blt I hg hm boot_range (PyProof.Rows.callWith_type1 (thn (ha pos pins s σ H _ I h) λus s1 ⟨vs,H1,I1,r1,q1⟩=>?_) (by rw [hs,hs2]) (by rw [hs2];rfl)))
  obtain⟨i,j,e,q⟩:=q1
  subst e
  cases r1 with
  | cons r rr =>
    cases rr with
    | cons r' rr =>
      cases rr
      obtain⟨t,rfl⟩:=r
      obtain⟨t',rfl⟩:=r'
      exact call_range_2 (longIt I1 q)
end
end Dw
namespace Dw
open PySem PySem.Spec PyProof.Rows L2
noncomputable abbrev Fz:=Addr→Prop
noncomputable def KLst (K:PySem.W.Frag) (a:Addr) (xs:List V):Prop:=
  ∃(o:Obj) (its:Array Value) (n:Nat),K.lookup a=some o∧o.cls=.type "list"∧o.dict=none∧o.data=.seq its n∧its.size≤sizeLine∧Vals xs its.toList
noncomputable def LsR (K:PySem.W.Frag) (H:Hp) (F:Fz) (a:Addr) (xs:List V):Prop:=(F a∧Rd H a (.lst xs))∨KLst K a xs
theorem LsR.sq {K:PySem.W.Frag}{H:Hp}{F:Fz}{a:Addr}{xs:List V}(h:LsR K H F a xs):SqL K H a xs:=h.elim (λh=>.inl h.2) .inr
noncomputable def dk (ks:List Int):List (Key×V):=ks.map λk=>(Sum.inl k,V.bl true)
@[simp] noncomputable def isDc:D→Bool
  | .dct _ _=>true
  | .obj _ _=>true
  | _=>false
mutual
noncomputable def RD (K:PySem.W.Frag) (H:Hp) (F:Fz):D→V→Prop
  | .non,v=>v=.non
  | .bl b,v=>v=.bl b
  | .int i,v=>v=.int i
  | .str x,v=>v=.str x
  | .tup ds,v=>∃a vs,v=.ref a∧SqT K H a vs∧RDs K H F ds vs
  | .lst ds,v=>∃a vs,v=.ref a∧LsR K H F a vs∧RDs K H F ds vs
  | .dct _ _,_=>False
  | .obj _ _,_=>False
  | .exc _,_=>False
noncomputable def RDs (K:PySem.W.Frag) (H:Hp) (F:Fz):List D→List V→Prop
  | [],vs=>vs=[]
  | d::ds,vs=>∃v r,vs=v::r∧RD K H F d v∧RDs K H F ds r
end
structure Keep (H:Hp) (F:Fz) (H':Hp) (F':Fz):Prop where
  tups:∀a xs,Rd H a (.tup xs)→Rd H' a (.tup xs)
  lsts:∀a xs,F a→Rd H a (.lst xs)→F' a∧Rd H' a (.lst xs)
section
variable {K:PySem.W.Frag}{H H' H'':Hp}{F F' F'':Fz}
mutual
theorem RD.mono (k:Keep H F H' F'):∀{d:D}{v:V},RD K H F d v→RD K H' F' d v
  | .non,_,h=>h
  | .bl _,_,h=>h
  | .int _,_,h=>h
  | .str _,_,h=>h
  | .tup ds,v,h=>by
    simp only [RD] at h ⊢
    obtain⟨a,vs,e,hs,hr⟩:=h
    exact⟨a,vs,e,hs.elim (λz=>.inl (k.tups _ _ z)) .inr,RDs.mono k hr⟩
  | .lst ds,v,h=>by
    simp only [RD] at h ⊢
    obtain⟨a,vs,e,hs,hr⟩:=h
    exact⟨a,vs,e,hs.elim (λz=>.inl (k.lsts _ _ z.1 z.2)) .inr,RDs.mono k hr⟩
  | .dct _ _,_,h=>by simp only [RD] at h
  | .obj _ _,_,h=>by simp only [RD] at h
  | .exc _,_,h=>by simp only [RD] at h
theorem RDs.mono (k:Keep H F H' F'):∀{ds:List D}{vs:List V},RDs K H F ds vs→RDs K H' F' ds vs
  | [],_,h=>h
  | d::ds,vs,h=>by
    simp only [RDs] at h ⊢
    obtain⟨v,r,e,h1,h2⟩:=h
    exact⟨v,r,e,RD.mono k h1,RDs.mono k h2⟩
end
theorem RDs.length:∀{ds:List D}{vs:List V},RDs K H F ds vs→vs.length=ds.length
  | [],_,h=>by simp only [RDs] at h;subst h;rfl
  | d::ds,vs,h=>by
    simp only [RDs] at h
    obtain⟨v,r,rfl,_,h2⟩:=h
    simp [RDs.length h2]
theorem RDs.get:∀{ds:List D}{vs:List V}{i:Nat}{d:D},RDs K H F ds vs→ds[i]?=some d→∃v,vs[i]?=some v∧RD K H F d v
  | [],_,_,_,_,e=>by simp at e
  | x::ds,vs,i,d,h,e=>by
    simp only [RDs] at h
    obtain⟨v,r,rfl,h1,h2⟩:=h
    cases i with
    | zero=>simp at e;subst e;exact⟨v,rfl,h1⟩
    | succ i=>simp at e;obtain⟨w,e1,e2⟩:=RDs.get h2 e;exact⟨w,by simpa using e1,e2⟩
theorem RDs.append:∀{ds es:List D}{vs ws:List V},RDs K H F ds vs→RDs K H F es ws→RDs K H F (ds++es) (vs++ws)
  | [],_,_,_,h,h'=>by simp only [RDs] at h;subst h;exact h'
  | d::ds,es,vs,ws,h,h'=>by
    simp only [RDs] at h
    obtain⟨v,r,rfl,h1,h2⟩:=h
    exact⟨v,r++ws,rfl,h1,RDs.append h2 h'⟩
theorem RDs.take:∀{ds:List D}{vs:List V}(n:Nat),RDs K H F ds vs→RDs K H F (ds.take n) (vs.take n)
  | _,_,0,_=>by simp [RDs]
  | [],_,n+1,h=>by simp only [RDs] at h;subst h;simp [RDs]
  | d::ds,vs,n+1,h=>by
    simp only [RDs] at h
    obtain⟨v,r,rfl,h1,h2⟩:=h
    exact⟨v,r.take n,rfl,h1,RDs.take n h2⟩
theorem RDs.drop:∀{ds:List D}{vs:List V}(n:Nat),RDs K H F ds vs→RDs K H F (ds.drop n) (vs.drop n)
  | _,_,0,h=>by simpa using h
  | [],_,n+1,h=>by simp only [RDs] at h;subst h;simp [RDs]
  | d::ds,vs,n+1,h=>by
    simp only [RDs] at h
    obtain⟨v,r,rfl,h1,h2⟩:=h
    simpa using RDs.drop n h2
theorem RDs.set {d:D}{v:V}(hd:RD K H F d v):∀{ds:List D}{vs:List V}(n:Nat),RDs K H F ds vs→RDs K H F (ds.set n d) (vs.set n v)
  | [],_,_,h=>by simp only [RDs] at h;subst h;simp [RDs]
  | x::ds,vs,n,h=>by
    simp only [RDs] at h
    obtain⟨w,r,rfl,h1,h2⟩:=h
    cases n with
    | zero=>exact⟨v,r,rfl,hd,h2⟩
    | succ n=>exact⟨w,r.set n v,rfl,h1,RDs.set hd n h2⟩
theorem RDs.rep {ds:List D}{vs:List V}(h:RDs K H F ds vs):∀n:Nat,RDs K H F (List.replicate n ds).flatten (List.replicate n vs).flatten
  | 0=>by simp [RDs]
  | n+1=>by simpa [List.replicate_succ] using RDs.append h (RDs.rep h n)
theorem RDs.ints:∀{ds:List D}{vs:List V}{is:List Int},RDs K H F ds vs→intsOf ds=some is→vs=is.map V.int
  | [],_,_,h,e=>by simp only [RDs] at h;subst h;simp at e;subst e;rfl
  | d::ds,vs,is,h,e=>by
    simp only [RDs] at h
    obtain⟨v,r,rfl,h1,h2⟩:=h
    cases d with
    | int i =>
      cases q:intsOf ds with
      | none=>simp [q] at e
      | some js =>
        simp [q] at e
        subst e
        have h1':v=.int i:=h1
        rw [h1',RDs.ints h2 q];rfl
    | _=>simp at e
theorem RDs.bls:∀{ds:List D}{vs:List V}{is:List Bool},RDs K H F ds vs→blsOf ds=some is→vs=is.map V.bl
  | [],_,_,h,e=>by simp only [RDs] at h;subst h;simp at e;subst e;rfl
  | d::ds,vs,is,h,e=>by
    simp only [RDs] at h
    obtain⟨v,r,rfl,h1,h2⟩:=h
    cases d with
    | bl i =>
      cases q:blsOf ds with
      | none=>simp [q] at e
      | some js =>
        simp [q] at e
        subst e
        have h1':v=.bl i:=h1
        rw [h1',RDs.bls h2 q];rfl
    | _=>simp at e
theorem RDs.of_ints (is:List Int):RDs K H F (is.map .int) (is.map V.int):=by
  induction is with
  | nil=>simp [RDs]
  | cons i r ih=>exact⟨_,_,rfl,rfl,ih⟩
end
structure Gr (H:Hp) (F:Fz) (H':Hp) (F':Fz):Prop where
  same:Same H H'
  sub:∀a,F a→F' a
  new:∀a,F' a→F a∨H a=none
  dom:∀a,H' a=none→¬F' a
section
variable {K:PySem.W.Frag}{H H1 H2:Hp}{F F1 F2:Fz}
theorem same_rd {a:Addr}{u:HO}(s:Same H H1) (h:Rd H a u):Rd H1 a u:=h.elim (λz=>.inl (s _ _ z)) λ⟨o,z⟩=>.inr ⟨o,s _ _ z⟩
theorem Gr.keep (g:Gr H F H1 F1):Keep H F H1 F1:=⟨λ_ _ h=>same_rd g.same h,λ_ _ f h=>⟨g.sub _ f,same_rd g.same h⟩⟩
theorem Gr.refl (d:∀a,H a=none→¬F a):Gr H F H F:=⟨Same.refl H,λ_ h=>h,λ_ h=>.inl h,d⟩
theorem Gr.trans (g:Gr H F H1 F1) (g':Gr H1 F1 H2 F2):Gr H F H2 F2:=
  ⟨g.same.trans g'.same,λa h=>g'.sub a (g.sub a h),λa h=>(g'.new a h).elim (λz=>g.new a z) λz=>.inr (g.same.free z),g'.dom⟩
theorem Gr.laid {p:Addr}{o:HO}(d:∀a,H a=none→¬F a) (hp:H p=none):Gr H F (upd H p o) F:=
  ⟨λb u q=>by rw [upd_ne (ne_of_none q hp)];exact q,λ_ h=>h,λ_ h=>.inl h,λa e=>by
    by_cases z:a=p
    · subst z;exact d a hp
    · rw [upd_ne z] at e;exact d a e⟩
theorem Gr.fz {p:Addr}{o:HO}(g:Gr H F H1 F1) (hp:H p=none) (h1:H1 p=some o):Gr H F H1 (λa=>a=p∨F1 a):=
  ⟨g.same,λa h=>.inr (g.sub a h),λa h=>h.elim (λz=>.inr (z▸hp)) (λz=>g.new a z),λa e h=>h.elim (λz=>by subst z;rw [h1] at e;cases e) (g.dom a e)⟩
noncomputable def RR (K:PySem.W.Frag) (H H':Hp) (F':Fz):R→V→Prop
  | (false,d),v=>RD K H' F' d v
  | (true,d),v=>∃a ds vs,d=.lst ds∧v=.ref a∧H a=none∧¬F' a∧H' a=some (.lst vs)∧RDs K H' F' ds vs
noncomputable def RP (K:PySem.W.Frag) (H:Hp) (F:Fz) (d:D) (v:V):Prop:=
  RD K H F d v∨∃a ds vs,d=.lst ds∧v=.ref a∧H a=some (.lst vs)∧RDs K H F ds vs
theorem RR.grow {r:R}{v:V}(h:RR K H H1 F1 r v) (g:Gr H1 F1 H2 F2):RR K H H2 F2 r v:=by
  obtain⟨b,d⟩:=r
  cases b with
  | false=>exact RD.mono g.keep h
  | true =>
    obtain⟨a,ds,vs,e1,e2,e3,e4,e5,e6⟩:=h
    exact⟨a,ds,vs,e1,e2,e3,(λz=>(g.new a z).elim e4 λz=>absurd (e5.symm.trans z) (by simp)),g.same _ _ e5,RDs.mono g.keep e6⟩
theorem RR.back {H0:Hp}{r:R}{v:V}(h:RR K H H1 F1 r v) (s:Same H0 H):RR K H0 H1 F1 r v:=by
  obtain⟨b,d⟩:=r
  cases b with
  | false=>exact h
  | true =>
    obtain⟨a,ds,vs,e1,e2,e3,e⟩:=h
    exact⟨a,ds,vs,e1,e2,s.free e3,e⟩
theorem RR.look {r:R}{v:V}(h:RR K H H1 F1 r v):RP K H1 F1 r.2 v:=by
  obtain⟨b,d⟩:=r
  cases b with
  | false=>exact .inl h
  | true =>
    obtain⟨a,ds,vs,e1,e2,e3,e4,e5,e6⟩:=h
    exact .inr ⟨a,ds,vs,e1,e2,e5,e6⟩
theorem RR.fz {r:R}{v:V}(h:RR K H H1 F1 r v) (g:Gr H F H1 F1):∃F2,Gr H F H1 F2∧RD K H1 F2 r.2 v:=by
  obtain⟨b,d⟩:=r
  cases b with
  | false=>exact⟨F1,g,h⟩
  | true =>
    obtain⟨a,ds,vs,rfl,rfl,e3,e4,e5,e6⟩:=h
    have g2:Keep H1 F1 H1 (λb=>b=a∨F1 b):=⟨λ_ _ h=>h,λ_ _ f h=>⟨.inr f,h⟩⟩
    exact⟨λb=>b=a∨F1 b,g.fz e3 e5,⟨a,vs,rfl,.inl ⟨.inl rfl,.inl e5⟩,RDs.mono g2 e6⟩⟩
theorem RP.grow {d:D}{v:V}(h:RP K H F d v) (g:Gr H F H1 F1):RP K H1 F1 d v:=
  h.elim (λz=>.inl (RD.mono g.keep z)) λ⟨a,ds,vs,e1,e2,e3,e4⟩=>.inr ⟨a,ds,vs,e1,e2,g.same _ _ e3,RDs.mono g.keep e4⟩
theorem RP.int {i:Int}{v:V}(h:RP K H F (.int i) v):v=.int i:=h.elim (λz=>z) λ⟨_,_,_,e,_⟩=>by cases e
theorem RP.bl {i:Bool}{v:V}(h:RP K H F (.bl i) v):v=.bl i:=h.elim (λz=>z) λ⟨_,_,_,e,_⟩=>by cases e
theorem RP.non {v:V}(h:RP K H F .non v):v=.non:=h.elim (λz=>z) λ⟨_,_,_,e,_⟩=>by cases e
theorem RP.str {x:Str}{v:V}(h:RP K H F (.str x) v):v=.str x:=h.elim (λz=>z) λ⟨_,_,_,e,_⟩=>by cases e
theorem RP.tup {ds:List D}{v:V}(h:RP K H F (.tup ds) v):∃a vs,v=.ref a∧SqT K H a vs∧RDs K H F ds vs:=h.elim (λz=>z) λ⟨_,_,_,e,_⟩=>by cases e
theorem RP.noDct {m:Bool}{ks:List Int}{v:V}:¬RP K H F (.dct m ks) v:=λh=>h.elim (λz=>by simp only [RD] at z) λ⟨_,_,_,e,_⟩=>by cases e
theorem RP.noObj {ns:List Str}{ds:List D}{v:V}:¬RP K H F (.obj ns ds) v:=λh=>h.elim (λz=>by simp only [RD] at z) λ⟨_,_,_,e,_⟩=>by cases e
theorem RP.noExc {c:Str}{v:V}:¬RP K H F (.exc c) v:=λh=>h.elim (λz=>by simp only [RD] at z) λ⟨_,_,_,e,_⟩=>by cases e
theorem RP.lst {ds:List D}{v:V}(h:RP K H F (.lst ds) v):∃a vs,v=.ref a∧SqL K H a vs∧RDs K H F ds vs:=by
  rcases h with ⟨a,vs,e,h1,h2⟩|⟨a,ds',vs,e1,e2,e3,e4⟩
  · exact⟨a,vs,e,h1.sq,h2⟩
  · cases e1;exact⟨a,vs,e2,SqL.of e3,e4⟩
end
noncomputable def ObR (K:PySem.W.Frag) (H:Hp) (F:Fz) (ns:List Str) (ds:List D) (v:V):Prop:=
  ∃(a C dx:Addr) (fs:List (Str×V)) (vs:List V),v=.ref a∧¬F a∧H a=some (.ins C dx fs)∧Cls K C∧(∀(j:Nat) (f:Str),ns[j]?=some f→NoAttr K C f∧∃u,fs.lookup f=some u∧vs[j]?=some u)∧RDs K H F ds vs
theorem ObR.mono {K:PySem.W.Frag}{H H1:Hp}{F F1:Fz}{ns:List Str}{ds:List D}{v:V}(k:Keep H F H1 F1) (h:ObR K H F ns ds v) (hf:∀a C dx fs,v=.ref a→H a=some (.ins C dx fs)→¬F a→¬F1 a∧H1 a=H a):ObR K H1 F1 ns ds v:=by
  obtain⟨a,C,dx,fs,vs,e,h1,h2,h3,h4,h5⟩:=h
  obtain⟨q1,q2⟩:=hf a C dx fs e h2 h1
  exact⟨a,C,dx,fs,vs,e,q1,q2.trans h2,h3,h4,RDs.mono k h5⟩
theorem ObR.grow {K:PySem.W.Frag}{H H1:Hp}{F F1:Fz}{ns:List Str}{ds:List D}{v:V}(h:ObR K H F ns ds v) (g:Gr H F H1 F1):ObR K H1 F1 ns ds v:=
  h.mono g.keep λa C dx fs _ e n=>⟨λz=>(g.new a z).elim n λz=>absurd (e.symm.trans z) (by simp),(g.same _ _ e).trans e.symm⟩
structure SR (K:PySem.W.Frag) (G H:Hp) (F:Fz) (σ:En) (τ:L2.St):Prop where
  len:σ.length=τ.length
  ent:Same G H
  dom:∀a,H a=none→¬F a
  val:∀i d,getv σ i=some (false,d)→∃v,τ[i]?=some (some v)∧RD K H F d v
  own:∀i d,getv σ i=some (true,d)→isDc d=false→∃a ds vs,d=.lst ds∧τ[i]?=some (some (.ref a))∧G a=none∧¬F a∧H a=some (.lst vs)∧RDs K H F ds vs
  sep:∀i j d e,getv σ i=some (true,d)→getv σ j=some (true,e)→τ[i]?=τ[j]?→i=j
  dct:∀i m ks,getv σ i=some (true,.dct m ks)→∃a,τ[i]?=some (some (.ref a))∧¬F a∧H a=some (.dK (dk ks))∧(m=true→G a=none)
  obj:∀i ns ds,getv σ i=some (true,.obj ns ds)→∃v,τ[i]?=some (some v)∧ObR K H F ns ds v
  tb:TB G
theorem SR.grow {K:PySem.W.Frag}{G H H1:Hp}{F F1:Fz}{σ:En}{τ:L2.St}(s:SR K G H F σ τ) (g:Gr H F H1 F1):SR K G H1 F1 σ τ:=
  ⟨s.len,s.ent.trans g.same,g.dom,λi d e=>let ⟨v,h1,h2⟩:=s.val i d e;⟨v,h1,RD.mono g.keep h2⟩,
    λi d e hd=>let ⟨a,ds,vs,h1,h2,h3,h4,h5,h6⟩:=s.own i d e hd
      ⟨a,ds,vs,h1,h2,h3,(λz=>(g.new a z).elim h4 λz=>absurd (h5.symm.trans z) (by simp)),g.same _ _ h5,RDs.mono g.keep h6⟩,s.sep,
    λi m ks e=>let ⟨a,h1,h2,h3,h4⟩:=s.dct i m ks e
      ⟨a,h1,(λz=>(g.new a z).elim h2 λz=>absurd (h3.symm.trans z) (by simp)),g.same _ _ h3,h4⟩,
    λi ns ds e=>let ⟨v,h1,h2⟩:=s.obj i ns ds e;⟨v,h1,h2.grow g⟩,s.tb⟩
theorem SR.tbH {K:PySem.W.Frag}{G H:Hp}{F:Fz}{σ:En}{τ:L2.St}(s:SR K G H F σ τ):TB H:=s.tb.same s.ent
theorem SR.addr {K:PySem.W.Frag}{G H:Hp}{F:Fz}{σ:En}{τ:L2.St}{i:Nat}{d:D}(s:SR K G H F σ τ) (h:getv σ i=some (true,d)):∃a u,τ[i]?=some (some (.ref a))∧¬F a∧H a=some u:=by
  cases hd:isDc d with
  | false=>obtain⟨a,ds,vs,h1,h2,h3,h4,h5,h6⟩:=s.own i d h hd;exact⟨a,_,h2,h4,h5⟩
  | true =>
    cases d with
    | dct m ks=>obtain⟨a,h1,h2,h3,h4⟩:=s.dct i m ks h;exact⟨a,_,h1,h2,h3⟩
    | obj ns ds=>obtain⟨v,h1,a,C,dx,fs,vs,rfl,h2,h3,h4⟩:=s.obj i ns ds h;exact⟨a,_,h1,h2,h3⟩
    | _=>cases hd
end Dw
namespace Dw
open PySem PySem.Spec PyProof.Rows L2
theorem bits_of {a:Int}{n:Nat}(h:a.natAbs<2^n):Builtin.Int.intBits a≤n:=by
  unfold Builtin.Int.intBits
  split
  · exact Nat.zero_le _
  · rename_i hz
    have h0:a.natAbs≠0:=λz=>by
      have:a=0:=Int.natAbs_eq_zero.mp z
      subst this;simp at hz
    have:=(Nat.log2_lt h0).mpr h
    omega
theorem mul_ok {a b:Int}(h:mulOk a b=true):IntMulOk a b:=by
  have h':=of_decide_eq_true h
  rcases h' with ⟨h1,h2⟩|h1|h1|⟨h1,h2⟩
  · exact IntMulOk.of_bits (Nat.le_trans (bits_of h1) (by decide)) (Nat.le_trans (bits_of h2) (by decide))
  · exact IntMulOk.of_left (bits_of h1)
  · exact IntMulOk.of_right (bits_of h1)
  · exact IntMulOk.of_bits (bits_of h1) (bits_of h2)
section
variable {X:Cx}
theorem op_mulD:OpR X (binaryOp .Mult) (rI (λi j=>mulOk i j=true) λi j=>.int (i * j)):=opI λ_ _ _ _ _ _ _ hc q=>mul_int q (mul_ok hc)
theorem op_fdivD:OpR X (binaryOp .FloorDiv) (rI (λ_ j=>divOk j=true) λi j=>.int (i.fdiv j)):=opI λi j _ _ _ _ _ hc q=>by
  have h:=of_decide_eq_true hc
  refine floordiv_int h.1 q (.inl (PyProof.noPylong_of_log2 ?_))
  rcases h.2 with h2|h2
  · have:=(Nat.log2_lt (λz=>h.1 (Int.natAbs_eq_zero.mp z))).mpr h2
    omega
  · have:=(Nat.log2_lt (λz=>h.1 (Int.natAbs_eq_zero.mp z))).mpr h2
    omega
theorem op_modD:OpR X (binaryOp .Mod) (rI (λ_ j=>divOk j=true) λi j=>.int (i.fmod j)):=opI λ_ _ _ _ _ _ _ hc q=>mod_int' (of_decide_eq_true hc).1 q
theorem op_powD:OpR X (binaryOp .Pow) (rI (λi j=>powOk i j=true) λi j=>.int (i^j.toNat)):=opI λi j _ _ _ _ _ hc q=>by
  obtain⟨h1,h2,h3⟩:=of_decide_eq_true hc
  refine pow_int h2 ?_ q
  have:=bits_of h1
  calc (Builtin.Int.intBits i:Int) * j≤240 * 200:=Int.mul_le_mul (by exact_mod_cast this) h3 h2 (by decide)
    _≤2^27:=by decide
theorem listAddG (l:Addr) (items:Array Value) (n:Nat) (sl:Array (Option Value)) (b:Addr) (items2:Array Value) (n2:Nat) (sl2:Array (Option Value)) (hc0:items.size+items2.size≤sizeLine) :
    Meets (Builtin.«list.__add__» ⟨[.ref l,.ref b],[]⟩) (λ_ R s=>s.heap.get? l=some ⟨.type "list",none,.seq items n,sl⟩∧s.heap.get? b=some ⟨.type "list",none,.seq items2 n2,sl2⟩ ∧
      R (.ok (.ret (Value.ref s.heap.objs.size))) { s with heap:=s.heap.push { cls:=.type "list",data:=.seq (items++items2) } }):=
  .of_wp λprog w A R s h=>by
    obtain⟨hp,g,d,tk,os⟩:=s
    obtain⟨hl,hb,h⟩:=h
    have f3:=F.sub_list_list
    wp_walk using AutoSeq1.wpAny_loadPart' hl,AutoSeq1.wpAny_loadPart' hb
    exact⟨_,rfl,h⟩
theorem listMulG (l:Addr) (items:Array Value) (n:Nat) (sl:Array (Option Value)) (x:Int) (u:Tok) (hc0:¬(!Builtin.List.listFitsIndex x)=true) (hc1:¬items.size * x.toNat > (2^63 - 1) / 8) (hc2:¬Builtin.List.listTooLong (items.size * x.toNat)=true) :
    Meets (Builtin.«list.__mul__» ⟨[.ref l,.int x u],[]⟩) (λ_ R s=>s.heap.get? l=some ⟨.type "list",none,.seq items n,sl⟩ ∧
      R (.ok (.ret (Value.ref s.heap.objs.size))) { s with heap:=s.heap.push { cls:=Value.type "list",data:=Data.seq (List.foldl (λx1 x2=>x1++x2) #[] (List.replicate (if items.isEmpty=true then 0 else x.toNat) items)) } }):=
  .of_wp λprog w A R s h=>by
    obtain⟨hp,g,d,tk,os⟩:=s
    obtain⟨hl,h⟩:=h
    have hsz:=AutoListH.joined_fits hc2
    wp_walk
    refine wpAny_ite_false (decide_eq_false (Nat.not_lt.mpr hsz)) ?_
    wp_walk
    exact⟨_,rfl,h⟩
theorem rmulG (a:Int) (t:Tok) (l:Addr) (items:Array Value) (n:Nat) (sl:Array (Option Value)) :
    Meets (Builtin.«int.__rmul__» ⟨[.int a t,.ref l],[]⟩) (λ_ R s=>s.heap.get? l=some ⟨.type "list",none,.seq items n,sl⟩∧R (.ok (.ret Value.notImplemented)) s):=
  .of_wp λprog w A R s h=>by
    obtain⟨hp,g,d,tk,os⟩:=s
    obtain⟨hl,h⟩:=h
    wp_walk
    exact⟨_,rfl,h⟩
theorem Inv.lobj {pins:List (Addr×Obj)}{σ:L2.St}{H:Hp}{s:Shared}{a:Addr}{xs:List V}(I:Inv X pins σ H s) (h:SqL X.K H a xs) :
    ∃(its:List Value) (n:Nat) (sl:Array (Option Value)),Vals xs its∧xs.length=its.length∧s.heap.get? a=some ⟨.type "list",none,.seq its.toArray n,sl⟩∧xs.length≤sizeLine:=by
  obtain⟨its,r,⟨⟨c,dd,da,sl⟩,n,e,e1,e2,e3⟩,z⟩:=I.list h
  simp only at e1 e2 e3
  subst e1 e2 e3
  exact⟨its,n,sl,r,r.length,e,z⟩
noncomputable def rCatD (K:PySem.W.Frag):R2:=λx y H Q=>∃l b xs zs,x=.ref l∧y=.ref b∧SqL K H l xs∧SqL K H b zs∧xs.length+zs.length≤sizeLine∧∀p,H p=none→Q (.ref p) (upd H p (.lst (xs++zs)))
theorem op_catD:OpR X (binaryOp .Add) (rCatD X.K):=by
  intro pins s σ H x y v u Q I rx ry h
  obtain⟨l,b,xs,zs,rfl,rfl,hH,hB,hz,q⟩:=h
  cases rx
  cases ry
  obtain⟨its,n,sl,r,hl,e,z⟩:=Inv.lobj I hH
  obtain⟨its2,n2,sl2,r2,hl2,e2,z2⟩:=Inv.lobj I hB
  refine concat_meets ⟨_,e,rfl⟩ ⟨_,e2,rfl⟩ noFill_list_add seq_list_add F.slot_list_add F.entry_list_add (F.args_list_add_2 _ _)
    (listAddG l its.toArray n sl b its2.toArray n2 sl2 (by rw [List.size_toArray,List.size_toArray];omega)) ⟨e,e2,?_⟩
  have ea:its.toArray++its2.toArray=(its++its2).toArray:=by simp
  rw [ea]
  exact⟨.ref _,_,I.lnew (t':=s.toks) (r.append r2) (by rw [List.length_append];omega),rfl,q _ I.fresh⟩
noncomputable def rRepD (K:PySem.W.Frag):R2:=λx y H Q=>∃l k xs,x=.ref l∧y=.int k∧SqL K H l xs∧-(2^63)≤k∧k<2^63∧xs.length * k.toNat≤sizeLine ∧
  ∀p,H p=none→Q (.ref p) (upd H p (.lst (List.replicate k.toNat xs).flatten))
theorem op_repD:OpR X (binaryOp .Mult) (rRepD X.K):=by
  intro pins s σ H x y v u Q I rx ry h
  obtain⟨l,k,xs,rfl,rfl,hH,h1,h2,hz,q⟩:=h
  cases rx
  obtain⟨t,rfl⟩:=ry
  obtain⟨its,n,sl,r,hl,e,z⟩:=Inv.lobj I hH
  have hlen:its.toArray.size * k.toNat≤sizeLine:=by rw [List.size_toArray,←hl];exact hz
  have hcap:¬its.toArray.size * k.toNat > (2^63 - 1) / 8:=by
    have:(sizeLine:Nat)≤(2^63 - 1) / 8:=by decide
    omega
  have hfit:¬(!Builtin.List.listFitsIndex k)=true:=by rw [fitsIndex_both h1 h2];exact Bool.false_ne_true
  have hlong:¬Builtin.List.listTooLong (its.toArray.size * k.toNat)=true:=by rw [notLongL hlen];exact Bool.false_ne_true
  have hnew:List.foldl (λx1 x2=>x1++x2) #[] (List.replicate (if its.toArray.isEmpty=true then 0 else k.toNat) its.toArray)=(List.replicate k.toNat its).flatten.toArray:=by
    have f0:∀m:Nat,List.foldl (λx1 x2=>x1++x2) #[] (List.replicate m its.toArray)=(List.replicate m its).flatten.toArray:=λm=>by simpa using foldl_rep its m []
    rw [f0]
    cases its with
    | nil=>simp
    | cons a r'=>rw [if_neg (by simp)]
  refine wpAny_binaryOp_repeat_ref (T:="list") (U:="int") (by decide) ⟨_,e,rfl⟩ (λs'=>typeIs_int s' k t) noFill_list_mul F.fills_int_mul F.slot_int_rmul repeat_list F.slot_int_index.lookup
    (call_meets F.slot_int_rmul (typeIs_int s k t) F.entry_int_rmul (F.args_int_rmul_2 _ _) (rmulG k t l its.toArray n sl)
      ⟨e,rfl,⟨_,e,rfl⟩,call_meets F.slot_list_mul ⟨_,e,rfl⟩ F.entry_list_mul (F.args_list_mul_2 _ _) (listMulG l its.toArray n sl k t hfit hcap hlong) ⟨e,?_⟩⟩)
  rw [hnew]
  exact⟨.ref _,_,I.lnew (t':=s.toks) (r.rep k.toNat) (by rw [len_rep,Nat.mul_comm];exact hz),rfl,q _ I.fresh⟩
theorem call_max3 (hc:X.calm=true):CallR X (.builtin "max") (λxs H Q=>∃i j k,xs=[.int i,.int j,.int k]∧Q (.int (if k > (if j > i then j else i) then k else (if j > i then j else i))) H):=by
  intro pins s σ H xs us Q I r h
  obtain⟨i,j,k,rfl,q⟩:=h
  obtain _|⟨⟨t,rfl⟩,_|⟨⟨t',rfl⟩,_|⟨⟨t2,rfl⟩,_|_⟩⟩⟩:=r
  refine max_three_ints (I.ok.hd hc) λh' tk hk=>?_
  have I1:Inv X pins σ H { s with heap:=h',toks:=tk }:=I.kept hk
  have fin:∀(z:Int) (tok:Tok),z=(if k > (if j > i then j else i) then k else (if j > i then j else i))→EP X pins σ Q (.int z tok) { s with heap:=h',toks:=tk }:=λz tok e=>⟨.int z,H,I1,⟨_,rfl⟩,by rw [e];exact q⟩
  by_cases hba:j > i<;>by_cases hc1:k > j<;>by_cases hc2:k > i<;>simp only [hba,hc1,hc2,if_true,if_false] at fin ⊢<;>first|exact fin _ _ rfl|exact fin _ _ (by omega)
end
end Dw
namespace Dw
open PySem PySem.Spec PyProof.Rows L2
section
variable {X:Cx}
theorem ints_pairs:∀{is:List Int}{its:List Value},Vals (is.map V.int) its→∃xs:List (Int×Tok),its=xs.map (λp=>Value.int p.1 p.2)∧xs.map (·.1)=is
  | [],_,.nil=>⟨[],rfl,rfl⟩
  | i::is,_,.cons ⟨t,e⟩ r=>by
    obtain⟨xs,h1,h2⟩:=ints_pairs r
    exact⟨(i,t)::xs,by rw [e,h1];rfl,by rw [List.map_cons,h2]⟩
theorem preSum_list (xs:Array (Int×Tok)):preSum (numAt xs) xs.size=(xs.toList.map (·.1)).sum:=by
  rw [preSum_eq,List.take_of_length_le (by simp)]
theorem call_sumD (hc:X.calm=true):CallR X (.builtin "sum") (λxs H Q=>∃(p:Addr) (is:List Int),xs=[.ref p]∧SqL X.K H p (is.map V.int)∧Q (.int is.sum) H):=by
  intro pins s σ H xs us Q I r h
  obtain⟨p,is,rfl,hq,q⟩:=h
  obtain⟨u,rfl,ru⟩:=vals1 r
  cases ru
  obtain⟨its,rv,pl,z⟩:=I.list hq
  obtain⟨ps,rfl,rfl⟩:=ints_pairs rv
  have e:(ps.map λp=>Value.int p.1 p.2).toArray=intItems ps.toArray:=by simp [intItems]
  have hl:s.heap.IsList p (intItems ps.toArray):=by rw [←e];exact pl.isList
  refine sum_intListG (I.ok.hd hc) hl λh' tk t' hk=>?_
  rw [preSum_list]
  exact⟨.int _,H,I.kept hk,⟨_,rfl⟩,q⟩
theorem mnL_spec {is:List Int}{m:Int}(h:mnL is=some m):m∈is∧∀a∈is,m≤a:=by
  cases is with
  | nil=>cases h
  | cons a r =>
    cases h
    have:∀(l:List Int) (b:Int),(l.foldl (λm x=>if x<m then x else m) b=b∨l.foldl (λm x=>if x<m then x else m) b∈l)∧l.foldl (λm x=>if x<m then x else m) b≤b∧∀y∈l,l.foldl (λm x=>if x<m then x else m) b≤y:=by
      intro l
      induction l with
      | nil=>intro b;exact⟨.inl rfl,Int.le_refl _,λ_ h=>nomatch h⟩
      | cons x l ih =>
        intro b
        rw [List.foldl_cons]
        obtain⟨h1,h2,h3⟩:=ih (if x<b then x else b)
        generalize l.foldl (λm x=>if x<m then x else m) (if x<b then x else b)=z at h1 h2 h3
        refine⟨?_,?_,λy hy=>?_⟩
        · rcases h1 with h1|h1
          · split at h1
            · exact .inr (h1▸List.mem_cons_self)
            · exact .inl h1
          · exact .inr (List.mem_cons_of_mem _ h1)
        · split at h2<;>omega
        · rcases List.mem_cons.mp hy with rfl|hy
          · split at h2<;>omega
          · exact h3 y hy
    obtain⟨h1,h2,h3⟩:=this r a
    exact⟨List.mem_cons.mpr h1,λy hy=>(List.mem_cons.mp hy).elim (λe=>e▸h2) (h3 y)⟩
theorem mxL_spec {is:List Int}{m:Int}(h:mxL is=some m):m∈is∧∀a∈is,a≤m:=by
  cases is with
  | nil=>cases h
  | cons a r =>
    cases h
    have:∀(l:List Int) (b:Int),(l.foldl (λm x=>if m<x then x else m) b=b∨l.foldl (λm x=>if m<x then x else m) b∈l)∧b≤l.foldl (λm x=>if m<x then x else m) b∧∀y∈l,y≤l.foldl (λm x=>if m<x then x else m) b:=by
      intro l
      induction l with
      | nil=>intro b;exact⟨.inl rfl,Int.le_refl _,λ_ h=>nomatch h⟩
      | cons x l ih =>
        intro b
        rw [List.foldl_cons]
        obtain⟨h1,h2,h3⟩:=ih (if b<x then x else b)
        generalize l.foldl (λm x=>if m<x then x else m) (if b<x then x else b)=z at h1 h2 h3
        refine⟨?_,?_,λy hy=>?_⟩
        · rcases h1 with h1|h1
          · split at h1
            · exact .inr (h1▸List.mem_cons_self)
            · exact .inl h1
          · exact .inr (List.mem_cons_of_mem _ h1)
        · split at h2<;>omega
        · rcases List.mem_cons.mp hy with rfl|hy
          · split at h2<;>omega
          · exact h3 y hy
    obtain⟨h1,h2,h3⟩:=this r a
    exact⟨List.mem_cons.mpr h1,λy hy=>(List.mem_cons.mp hy).elim (λe=>e▸h2) (h3 y)⟩
theorem call_min1 (hc:X.calm=true):CallR X (.builtin "min") (λxs H Q=>∃(p:Addr) (is:List Int) (m:Int),xs=[.ref p]∧SqL X.K H p (is.map V.int)∧mnL is=some m∧Q (.int m) H):=by
  intro pins s σ H xs us Q I r h
  obtain⟨p,is,m,rfl,hq,hm,q⟩:=h
  obtain⟨u,rfl,ru⟩:=vals1 r
  cases ru
  obtain⟨its,rv,pl,z⟩:=I.list hq
  obtain⟨ps,rfl,rfl⟩:=ints_pairs rv
  have e:(ps.map λp=>Value.int p.1 p.2).toArray=intItems ps.toArray:=by simp [intItems]
  have hl:s.heap.IsList p (intItems ps.toArray):=by rw [←e];exact pl.isList
  obtain⟨m1,m2⟩:=mnL_spec hm
  have hsz:0<ps.toArray.size:=by
    cases ps with
    | nil=>cases hm
    | cons _ _=>simp
  refine min_intList (I.ok.hd hc) hl hsz λv h' tk hv hk=>?_
  obtain⟨t,rfl⟩:=intItems_at hv
  obtain⟨h1,h2⟩:=argBest_lt (numAt ps.toArray) (ps.toArray.size - 1)
  have key:numAt ps.toArray (argBest (λi j=>decide (numAt ps.toArray i<numAt ps.toArray j)) (ps.toArray.size - 1))=m:=by
    refine Int.le_antisymm ?_ (m2 _ ?_)
    · obtain⟨j,hj,e⟩:=List.getElem_of_mem m1
      have:=h2 j (by simp at hj ⊢;omega)
      refine Int.le_trans this (Int.le_of_eq ?_)
      rw [←e]
      simp [numAt] at hj ⊢
      rw [List.getElem?_eq_getElem hj];rfl
    · generalize argBest (λi j=>decide (numAt ps.toArray i<numAt ps.toArray j)) (ps.toArray.size - 1)=k at h1 ⊢
      have hk:k<ps.length:=by simp at h1 hsz;omega
      refine List.mem_map.mpr ⟨ps[k],List.getElem_mem hk,?_⟩
      simp [numAt]
      rw [List.getElem?_eq_getElem hk];rfl
  rw [key]
  exact⟨.int _,H,I.kept hk,⟨_,rfl⟩,q⟩
theorem call_max1 (hc:X.calm=true):CallR X (.builtin "max") (λxs H Q=>∃(p:Addr) (is:List Int) (m:Int),xs=[.ref p]∧SqL X.K H p (is.map V.int)∧mxL is=some m∧Q (.int m) H):=by
  intro pins s σ H xs us Q I r h
  obtain⟨p,is,m,rfl,hq,hm,q⟩:=h
  obtain⟨u,rfl,ru⟩:=vals1 r
  cases ru
  obtain⟨its,rv,pl,z⟩:=I.list hq
  obtain⟨ps,rfl,rfl⟩:=ints_pairs rv
  have e:(ps.map λp=>Value.int p.1 p.2).toArray=intItems ps.toArray:=by simp [intItems]
  have hl:s.heap.IsList p (intItems ps.toArray):=by rw [←e];exact pl.isList
  obtain⟨m1,m2⟩:=mxL_spec hm
  have hsz:0<ps.toArray.size:=by
    cases ps with
    | nil=>cases hm
    | cons _ _=>simp
  refine max_intList (I.ok.hd hc) hl hsz λv h' tk hv hk=>?_
  obtain⟨t,rfl⟩:=intItems_at hv
  obtain⟨h1,h2⟩:=argBest_gt (numAt ps.toArray) (ps.toArray.size - 1)
  have key:numAt ps.toArray (argBest (λi j=>decide (numAt ps.toArray i > numAt ps.toArray j)) (ps.toArray.size - 1))=m:=by
    refine Int.le_antisymm (m2 _ ?_) ?_
    · generalize argBest (λi j=>decide (numAt ps.toArray i > numAt ps.toArray j)) (ps.toArray.size - 1)=k at h1 ⊢
      have hk:k<ps.length:=by simp at h1 hsz;omega
      refine List.mem_map.mpr ⟨ps[k],List.getElem_mem hk,?_⟩
      simp [numAt]
      rw [List.getElem?_eq_getElem hk];rfl
    · obtain⟨j,hj,e⟩:=List.getElem_of_mem m1
      have:=h2 j (by simp at hj ⊢;omega)
      refine Int.le_trans (Int.le_of_eq ?_) this
      rw [←e]
      simp [numAt] at hj ⊢
      rw [List.getElem?_eq_getElem hj];rfl
  rw [key]
  exact⟨.int _,H,I.kept hk,⟨_,rfl⟩,q⟩
end
theorem in1_units (A:Around):A.in1.units=A.units+1:=rfl
theorem eqDs_all:∀ds es:List D,eqDs ds es=((List.range (min ds.length es.length)).all (λj=>eqD (ds.getD j .non) (es.getD j .non))&&ds.length == es.length)
  | [],[]=>rfl
  | [],e::es=>by
    have h:(([]:List D).length == (e::es).length)=false:=rfl
    rw [h,Bool.and_false];rfl
  | d::ds,[]=>by
    have h:((d::ds).length == ([]:List D).length)=false:=rfl
    rw [h,Bool.and_false];rfl
  | d::ds,e::es=>by
    have h:=eqDs_all ds es
    simp only [eqDs,h,List.length_cons,Nat.succ_min_succ,List.range_succ_eq_map,List.all_cons,List.getD_cons_zero,List.all_map]
    have e2:((λj=>eqD ((d::ds).getD j .non) ((e::es).getD j .non)) ∘ Nat.succ)=λj=>eqD (ds.getD j .non) (es.getD j .non):=by funext j;simp
    rw [e2,Bool.and_assoc]
    congr 2
    simp
mutual
theorem eqD_refl:∀d:D,eqD d d=true
  | .non=>by simp
  | .bl _=>by simp
  | .int _=>by simp
  | .str _=>by simp
  | .tup ds=>by simpa using eqDs_refl ds
  | .lst ds=>by simpa using eqDs_refl ds
  | .dct _ _=>by simp
  | .obj _ ds=>by simpa using eqDs_refl ds
  | .exc c=>by simp
theorem eqDs_refl:∀ds:List D,eqDs ds ds=true
  | []=>by simp
  | d::ds=>by simp [eqD_refl d,eqDs_refl ds]
end
section
variable {X:Cx}{pins:List (Addr×Obj)}{σ:L2.St}{H:Hp}{s:Shared}{F:Fz}
theorem lt_ne {a:Addr}{xs ys:List V}(I:Inv X pins σ H s) (h:SqL X.K H a xs) (h':SqT X.K H a ys):False:=by
  obtain⟨its,_,p,_⟩:=I.list h
  obtain⟨its',_,p',_⟩:=I.tuple h'
  exact SeqAt.ne_of_list_tuple p.isList (show s.heap.IsTuple a its'.toArray from p') rfl
mutual
theorem RP.inj (I:Inv X pins σ H s):∀{d e:D}{v:V},RP X.K H F d v→RP X.K H F e v→d=e
  | .non,e,v,h,h'=>by
    have:=h.non;subst this
    cases e with
    | dct _ _=>exact absurd h' RP.noDct
    | obj _ _=>exact absurd h' RP.noObj
    | exc _=>exact absurd h' RP.noExc
    | non=>rfl
    | bl _=>exact absurd h'.bl (by simp)
    | int _=>exact absurd h'.int (by simp)
    | str _=>exact absurd h'.str (by simp)
    | tup _=>obtain⟨_,_,q,_⟩:=h'.tup;cases q
    | lst _=>obtain⟨_,_,q,_⟩:=h'.lst;cases q
  | .bl b,e,v,h,h'=>by
    have:=h.bl;subst this
    cases e with
    | dct _ _=>exact absurd h' RP.noDct
    | obj _ _=>exact absurd h' RP.noObj
    | exc _=>exact absurd h' RP.noExc
    | non=>exact absurd h'.non (by simp)
    | bl _=>have:=h'.bl;cases this;rfl
    | int _=>exact absurd h'.int (by simp)
    | str _=>exact absurd h'.str (by simp)
    | tup _=>obtain⟨_,_,q,_⟩:=h'.tup;cases q
    | lst _=>obtain⟨_,_,q,_⟩:=h'.lst;cases q
  | .int b,e,v,h,h'=>by
    have:=h.int;subst this
    cases e with
    | dct _ _=>exact absurd h' RP.noDct
    | obj _ _=>exact absurd h' RP.noObj
    | exc _=>exact absurd h' RP.noExc
    | non=>exact absurd h'.non (by simp)
    | bl _=>exact absurd h'.bl (by simp)
    | int _=>have:=h'.int;cases this;rfl
    | str _=>exact absurd h'.str (by simp)
    | tup _=>obtain⟨_,_,q,_⟩:=h'.tup;cases q
    | lst _=>obtain⟨_,_,q,_⟩:=h'.lst;cases q
  | .str b,e,v,h,h'=>by
    have:=h.str;subst this
    cases e with
    | dct _ _=>exact absurd h' RP.noDct
    | obj _ _=>exact absurd h' RP.noObj
    | exc _=>exact absurd h' RP.noExc
    | non=>exact absurd h'.non (by simp)
    | bl _=>exact absurd h'.bl (by simp)
    | int _=>exact absurd h'.int (by simp)
    | str _=>have:=h'.str;cases this;rfl
    | tup _=>obtain⟨_,_,q,_⟩:=h'.tup;cases q
    | lst _=>obtain⟨_,_,q,_⟩:=h'.lst;cases q
  | .tup ds,e,v,h,h'=>by
    obtain⟨a,vs,rfl,h1,h2⟩:=h.tup
    cases e with
    | dct _ _=>exact absurd h' RP.noDct
    | obj _ _=>exact absurd h' RP.noObj
    | exc _=>exact absurd h' RP.noExc
    | non=>exact absurd h'.non (by simp)
    | bl _=>exact absurd h'.bl (by simp)
    | int _=>exact absurd h'.int (by simp)
    | str _=>exact absurd h'.str (by simp)
    | tup es=>obtain⟨b,ws,q,h3,h4⟩:=h'.tup;cases q;rw [I.tuple_inj h3 h1] at h4;rw [RDs.inj I h2 h4]
    | lst _=>obtain⟨b,ws,q,h3,h4⟩:=h'.lst;cases q;exact (lt_ne I h3 h1).elim
  | .lst ds,e,v,h,h'=>by
    obtain⟨a,vs,rfl,h1,h2⟩:=h.lst
    cases e with
    | dct _ _=>exact absurd h' RP.noDct
    | obj _ _=>exact absurd h' RP.noObj
    | exc _=>exact absurd h' RP.noExc
    | non=>exact absurd h'.non (by simp)
    | bl _=>exact absurd h'.bl (by simp)
    | int _=>exact absurd h'.int (by simp)
    | str _=>exact absurd h'.str (by simp)
    | lst es=>obtain⟨b,ws,q,h3,h4⟩:=h'.lst;cases q;rw [I.list_inj h3 h1] at h4;rw [RDs.inj I h2 h4]
    | tup _=>obtain⟨b,ws,q,h3,h4⟩:=h'.tup;cases q;exact (lt_ne I h1 h3).elim
  | .dct _ _,e,v,h,h'=>absurd h RP.noDct
  | .obj _ _,e,v,h,h'=>absurd h RP.noObj
  | .exc _,e,v,h,h'=>absurd h RP.noExc
theorem RDs.inj (I:Inv X pins σ H s):∀{ds es:List D}{vs:List V},RDs X.K H F ds vs→RDs X.K H F es vs→ds=es
  | [],es,vs,h,h'=>by
    simp only [RDs] at h;subst h
    cases es with
    | nil=>rfl
    | cons _ _=>simp only [RDs] at h';obtain⟨_,_,q,_⟩:=h';cases q
  | d::ds,es,vs,h,h'=>by
    simp only [RDs] at h
    obtain⟨v,r,rfl,h1,h2⟩:=h
    cases es with
    | nil=>simp only [RDs] at h';cases h'
    | cons e es =>
      simp only [RDs] at h'
      obtain⟨v',r',q,h3,h4⟩:=h'
      cases q
      rw [RP.inj I (.inl h1) (.inl h3),RDs.inj I h2 h4]
end
theorem RDs.vals {ds:List D}{vs:List V}{us:List Value}(h:RDs X.K H F ds vs) (r:Vals vs us) (j:Nat) (hj:j<us.toArray.size) :
    ∃v,RD X.K H F (ds.getD j .non) v∧RelV v us.toArray[j]:=by
  have l1:=RDs.length h
  have l2:=r.length
  have hj':j<us.length:=by simpa using hj
  have hd:ds[j]?=some (ds.getD j .non):=by simp [List.getD,show j<ds.length by omega]
  obtain⟨v,e1,e2⟩:=RDs.get h hd
  obtain⟨u,e3,e4⟩:=r.get e1
  refine⟨v,e2,?_⟩
  have:us.toArray[j]=u:=by
    have:=List.getElem?_eq_some_iff.mp e3
    obtain⟨_,q⟩:=this
    simpa using q
  rw [this];exact e4
theorem shals_get:∀{n:Nat}{ds:List D}(j:Nat),shals n ds=true→shal n (ds.getD j .non)=true
  | n,[],j,_=>by cases n<;>simp [List.getD]
  | n,d::ds,0,h=>by simp at h;simpa using h.1
  | n,d::ds,j+1,h=>by simp at h;simpa using shals_get j h.2
noncomputable def VS (X:Cx) (H:Hp) (F:Fz) (s:Shared):D→Value→Prop
  | .non,u=>u=.none
  | .bl b,u=>u=.bool b
  | .int i,u=>∃t,u=.int i t
  | .str x,u=>∃t,u=.str x t
  | .tup ds,u=>∃a its vs,u=.ref a∧s.heap.IsTuple a its.toArray∧RDs X.K H F ds vs∧Vals vs its
  | .lst ds,u=>∃a its vs,u=.ref a∧s.heap.IsList a its.toArray∧RDs X.K H F ds vs∧Vals vs its
  | .dct _ _,_=>False
  | .obj _ _,_=>False
  | .exc _,_=>False
theorem vs_of (I:Inv X pins σ H s):∀{d:D}{x:V}{u:Value},RP X.K H F d x→RelV x u→VS X H F s d u
  | .non,x,u,h,r=>by have:=h.non;subst this;exact r
  | .bl _,x,u,h,r=>by have:=h.bl;subst this;exact r
  | .int _,x,u,h,r=>by have:=h.int;subst this;exact r
  | .str _,x,u,h,r=>by have:=h.str;subst this;exact r
  | .tup ds,x,u,h,r=>by
    obtain⟨a,vs,rfl,h1,h2⟩:=h.tup
    obtain⟨its,rv,p,_⟩:=I.tuple h1
    exact⟨a,its,vs,r,p,h2,rv⟩
  | .lst ds,x,u,h,r=>by
    obtain⟨a,vs,rfl,h1,h2⟩:=h.lst
    obtain⟨its,rv,p,_⟩:=I.list h1
    exact⟨a,its,vs,r,p.isList,h2,rv⟩
  | .dct _ _,x,u,h,r=>absurd h RP.noDct
  | .obj _ _,x,u,h,r=>absurd h RP.noObj
  | .exc _,x,u,h,r=>absurd h RP.noExc
theorem eq_at (I:Inv X pins σ H s):∀(n:Nat) (d e:D) (x y:V) (u v:Value) (A:Around),RP X.K H F d x→RP X.K H F e y→RelV x u→RelV y v→(shal n d||shal n e)=true→A.units+n<cLine →
      SeqAt.EqAt A s u v (eqD d e)∧SeqAt.RcAt A s u v (eqD d e)∧SeqAt.RcNeAt A s u v (!eqD d e):=by
  intro n d e x y u v A hx hy ru rv hs hu
  have kx:=vs_of I hx ru
  have ky:=vs_of I hy rv
  have hA:A.units<cLine:=by omega
  cases d with
  | dct _ _=>exact absurd hx RP.noDct
  | obj _ _=>exact absurd hx RP.noObj
  | exc _=>exact absurd hx RP.noExc
  | non =>
    have kx:u=.none:=kx
    subst kx
    cases e with
    | dct _ _=>exact absurd hy RP.noDct
    | obj _ _=>exact absurd hy RP.noObj
    | exc _=>exact absurd hy RP.noExc
    | non=>have ky:v=.none:=ky;subst ky;exact⟨SeqAt.EqAt.same _,SeqAt.RcAt.none_none,SeqAt.RcNeAt.none_none⟩
    | bl b=>have ky:v=.bool b:=ky;subst ky;exact⟨SeqAt.EqAt.none_bool _,SeqAt.RcAt.none_bool _,SeqAt.RcNeAt.none_bool _⟩
    | int b=>obtain⟨t,rfl⟩:=ky;exact⟨SeqAt.EqAt.none_int _ _,SeqAt.RcAt.none_int _ _,SeqAt.RcNeAt.none_int _ _⟩
    | str b=>obtain⟨t,rfl⟩:=ky;exact⟨SeqAt.EqAt.none_str _ _,SeqAt.RcAt.none_str _ _,SeqAt.RcNeAt.none_str _ _⟩
    | tup es=>obtain⟨a,its,vs,rfl,p,_⟩:=ky;exact⟨SeqAt.EqAt.none_tuple p hA,SeqAt.RcAt.none_tuple p hA,SeqAt.RcNeAt.none_tuple p hA⟩
    | lst es=>obtain⟨a,its,vs,rfl,p,_⟩:=ky;exact⟨SeqAt.EqAt.none_list p hA,SeqAt.RcAt.none_list p hA,SeqAt.RcNeAt.none_list p hA⟩
  | bl c =>
    have kx:u=.bool c:=kx
    subst kx
    cases e with
    | dct _ _=>exact absurd hy RP.noDct
    | obj _ _=>exact absurd hy RP.noObj
    | exc _=>exact absurd hy RP.noExc
    | non=>have ky:v=.none:=ky;subst ky;exact⟨SeqAt.EqAt.bool_none _,SeqAt.RcAt.bool_none _,SeqAt.RcNeAt.bool_none _⟩
    | bl b=>have ky:v=.bool b:=ky;subst ky;exact⟨SeqAt.EqAt.bool_bool _ _,SeqAt.RcAt.bool_bool _ _,SeqAt.RcNeAt.bool_bool _ _⟩
    | int b=>obtain⟨t,rfl⟩:=ky;exact⟨SeqAt.EqAt.bool_int _ _ _,SeqAt.RcAt.bool_int _ _ _,SeqAt.RcNeAt.bool_int _ _ _⟩
    | str b=>obtain⟨t,rfl⟩:=ky;exact⟨SeqAt.EqAt.bool_str _ _ _,SeqAt.RcAt.bool_str _ _ _,SeqAt.RcNeAt.bool_str _ _ _⟩
    | tup es=>obtain⟨a,its,vs,rfl,p,_⟩:=ky;exact⟨SeqAt.EqAt.bool_tuple _ p hA,SeqAt.RcAt.bool_tuple _ p hA,SeqAt.RcNeAt.bool_tuple _ p hA⟩
    | lst es=>obtain⟨a,its,vs,rfl,p,_⟩:=ky;exact⟨SeqAt.EqAt.bool_list _ p hA,SeqAt.RcAt.bool_list _ p hA,SeqAt.RcNeAt.bool_list _ p hA⟩
  | int c =>
    obtain⟨tc,rfl⟩:=kx
    cases e with
    | dct _ _=>exact absurd hy RP.noDct
    | obj _ _=>exact absurd hy RP.noObj
    | exc _=>exact absurd hy RP.noExc
    | non=>have ky:v=.none:=ky;subst ky;exact⟨SeqAt.EqAt.int_none _ _,SeqAt.RcAt.int_none _ _,SeqAt.RcNeAt.int_none _ _⟩
    | bl b=>have ky:v=.bool b:=ky;subst ky;exact⟨SeqAt.EqAt.int_bool _ _ _,SeqAt.RcAt.int_bool _ _ _,SeqAt.RcNeAt.int_bool _ _ _⟩
    | int b=>obtain⟨t,rfl⟩:=ky;exact⟨SeqAt.EqAt.int_int _ _ _ _,SeqAt.RcAt.int_int _ _ _ _,SeqAt.RcNeAt.int_int _ _ _ _⟩
    | str b=>obtain⟨t,rfl⟩:=ky;exact⟨SeqAt.EqAt.int_str _ _ _ _,SeqAt.RcAt.int_str _ _ _ _,SeqAt.RcNeAt.int_str _ _ _ _⟩
    | tup es=>obtain⟨a,its,vs,rfl,p,_⟩:=ky;exact⟨SeqAt.EqAt.int_tuple _ _ p hA,SeqAt.RcAt.int_tuple _ _ p hA,SeqAt.RcNeAt.int_tuple _ _ p hA⟩
    | lst es=>obtain⟨a,its,vs,rfl,p,_⟩:=ky;exact⟨SeqAt.EqAt.int_list _ _ p hA,SeqAt.RcAt.int_list _ _ p hA,SeqAt.RcNeAt.int_list _ _ p hA⟩
  | str c =>
    obtain⟨tc,rfl⟩:=kx
    cases e with
    | dct _ _=>exact absurd hy RP.noDct
    | obj _ _=>exact absurd hy RP.noObj
    | exc _=>exact absurd hy RP.noExc
    | non=>have ky:v=.none:=ky;subst ky;exact⟨SeqAt.EqAt.str_none _ _,SeqAt.RcAt.str_none _ _,SeqAt.RcNeAt.str_none _ _⟩
    | bl b=>have ky:v=.bool b:=ky;subst ky;exact⟨SeqAt.EqAt.str_bool _ _ _,SeqAt.RcAt.str_bool _ _ _,SeqAt.RcNeAt.str_bool _ _ _⟩
    | int b=>obtain⟨t,rfl⟩:=ky;exact⟨SeqAt.EqAt.str_int _ _ _ _,SeqAt.RcAt.str_int _ _ _ _,SeqAt.RcNeAt.str_int _ _ _ _⟩
    | str b=>obtain⟨t,rfl⟩:=ky;exact⟨SeqAt.EqAt.str_str _ _ _ _,SeqAt.RcAt.str_str _ _ _ _,SeqAt.RcNeAt.str_str _ _ _ _⟩
    | tup es=>obtain⟨a,its,vs,rfl,p,_⟩:=ky;exact⟨SeqAt.EqAt.str_tuple _ _ p hA,SeqAt.RcAt.str_tuple _ _ p hA,SeqAt.RcNeAt.str_tuple _ _ p hA⟩
    | lst es=>obtain⟨a,its,vs,rfl,p,_⟩:=ky;exact⟨SeqAt.EqAt.str_list _ _ p hA,SeqAt.RcAt.str_list _ _ p hA,SeqAt.RcNeAt.str_list _ _ p hA⟩
  | tup ds =>
    obtain⟨a,its,vs,rfl,p,hd,hv⟩:=kx
    cases e with
    | dct _ _=>exact absurd hy RP.noDct
    | obj _ _=>exact absurd hy RP.noObj
    | exc _=>exact absurd hy RP.noExc
    | non=>have ky:v=.none:=ky;subst ky;exact⟨SeqAt.EqAt.tuple_none p hA,SeqAt.RcAt.tuple_none p hA,SeqAt.RcNeAt.tuple_none p hA⟩
    | bl b=>have ky:v=.bool b:=ky;subst ky;exact⟨SeqAt.EqAt.tuple_bool _ p hA,SeqAt.RcAt.tuple_bool _ p hA,SeqAt.RcNeAt.tuple_bool _ p hA⟩
    | int b=>obtain⟨t,rfl⟩:=ky;exact⟨SeqAt.EqAt.tuple_int _ _ p hA,SeqAt.RcAt.tuple_int _ _ p hA,SeqAt.RcNeAt.tuple_int _ _ p hA⟩
    | str b=>obtain⟨t,rfl⟩:=ky;exact⟨SeqAt.EqAt.tuple_str _ _ p hA,SeqAt.RcAt.tuple_str _ _ p hA,SeqAt.RcNeAt.tuple_str _ _ p hA⟩
    | tup es =>
      obtain⟨b,its2,vs2,rfl,p2,hd2,hv2⟩:=ky
      cases n with
      | zero=>simp at hs
      | succ n =>
        have l1:=RDs.length hd
        have l2:=RDs.length hd2
        have l3:=hv.length
        have l4:=hv2.length
        have hj:∀j (h1:j<its.toArray.size) (h2:j<its2.toArray.size),SeqAt.EqAt A.in1 s its.toArray[j] its2.toArray[j] (eqD (ds.getD j .non) (es.getD j .non)):=λj h1 h2=>by
          obtain⟨v1,q1,q2⟩:=RDs.vals hd hv j h1
          obtain⟨v2,q3,q4⟩:=RDs.vals hd2 hv2 j h2
          refine (eq_at I n _ _ v1 v2 _ _ A.in1 (.inl q1) (.inl q3) q2 q4 ?_ (by rw [in1_units];omega)).1
          simp only [shal,Bool.or_eq_true] at hs ⊢
          exact hs.imp (λz=>shals_get j z) (λz=>shals_get j z)
        have e1:((List.range (min its.toArray.size its2.toArray.size)).all (λj=>eqD (ds.getD j .non) (es.getD j .non))&&its.toArray.size == its2.toArray.size)=eqD (.tup ds) (.tup es):=by
          simp only [eqD,eqDs_all,List.size_toArray,←l3,←l4,l1,l2]
        have r1:=SeqAt.RcAt.tuples p p2 hA hj
        have r2:=SeqAt.RcNeAt.tuples p p2 hA hj
        rw [e1] at r1 r2
        refine⟨?_,r1,r2⟩
        by_cases hab:a=b
        · subst hab
          have:D.tup ds=D.tup es:=by
            cases ru':x with
            | ref a' =>
              cases ry':y with
              | ref b' =>
                subst ru' ry'
                have z1:Value.ref a=Value.ref a':=ru
                have z2:Value.ref a=Value.ref b':=rv
                cases z1;cases z2
                exact RP.inj I hx hy
              | _=>subst ry';obtain⟨_,_,q,_⟩:=hy.tup;cases q
            | _=>subst ru';obtain⟨_,_,q,_⟩:=hx.tup;cases q
          rw [this,eqD_refl]
          exact SeqAt.EqAt.same _
        · exact SeqAt.EqAt.of_refs hab r1
    | lst es=>obtain⟨b,its2,vs2,rfl,p2,_⟩:=ky;exact⟨SeqAt.EqAt.tuple_list p p2 hA,SeqAt.RcAt.tuple_list p p2 hA,SeqAt.RcNeAt.tuple_list p p2 hA⟩
  | lst ds =>
    obtain⟨a,its,vs,rfl,p,hd,hv⟩:=kx
    cases e with
    | dct _ _=>exact absurd hy RP.noDct
    | obj _ _=>exact absurd hy RP.noObj
    | exc _=>exact absurd hy RP.noExc
    | non=>have ky:v=.none:=ky;subst ky;exact⟨SeqAt.EqAt.list_none p hA,SeqAt.RcAt.list_none p hA,SeqAt.RcNeAt.list_none p hA⟩
    | bl b=>have ky:v=.bool b:=ky;subst ky;exact⟨SeqAt.EqAt.list_bool _ p hA,SeqAt.RcAt.list_bool _ p hA,SeqAt.RcNeAt.list_bool _ p hA⟩
    | int b=>obtain⟨t,rfl⟩:=ky;exact⟨SeqAt.EqAt.list_int _ _ p hA,SeqAt.RcAt.list_int _ _ p hA,SeqAt.RcNeAt.list_int _ _ p hA⟩
    | str b=>obtain⟨t,rfl⟩:=ky;exact⟨SeqAt.EqAt.list_str _ _ p hA,SeqAt.RcAt.list_str _ _ p hA,SeqAt.RcNeAt.list_str _ _ p hA⟩
    | tup es=>obtain⟨b,its2,vs2,rfl,p2,_⟩:=ky;exact⟨SeqAt.EqAt.list_tuple p p2 hA,SeqAt.RcAt.list_tuple p p2 hA,SeqAt.RcNeAt.list_tuple p p2 hA⟩
    | lst es =>
      obtain⟨b,its2,vs2,rfl,p2,hd2,hv2⟩:=ky
      cases n with
      | zero=>simp at hs
      | succ n =>
        have l1:=RDs.length hd
        have l2:=RDs.length hd2
        have l3:=hv.length
        have l4:=hv2.length
        have hj:∀j (h1:j<its.toArray.size) (h2:j<its2.toArray.size),SeqAt.EqAt A.in1 s its.toArray[j] its2.toArray[j] (eqD (ds.getD j .non) (es.getD j .non)):=λj h1 h2=>by
          obtain⟨v1,q1,q2⟩:=RDs.vals hd hv j h1
          obtain⟨v2,q3,q4⟩:=RDs.vals hd2 hv2 j h2
          refine (eq_at I n _ _ v1 v2 _ _ A.in1 (.inl q1) (.inl q3) q2 q4 ?_ (by rw [in1_units];omega)).1
          simp only [shal,Bool.or_eq_true] at hs ⊢
          exact hs.imp (λz=>shals_get j z) (λz=>shals_get j z)
        have both:SeqAt.RcAt A s (.ref a) (.ref b) (eqD (.lst ds) (.lst es))∧SeqAt.RcNeAt A s (.ref a) (.ref b) (!eqD (.lst ds) (.lst es)):=by
          by_cases hsz:its.toArray.size=its2.toArray.size
          · have e1:(List.range its.toArray.size).all (λj=>eqD (ds.getD j .non) (es.getD j .non))=eqD (.lst ds) (.lst es):=by
              have hl:ds.length=es.length:=by simp only [List.size_toArray] at hsz;omega
              have hm:its.toArray.size=min ds.length es.length:=by simp only [List.size_toArray];omega
              simp only [eqD,eqDs_all,hm,hl,beq_self_eq_true,Bool.and_true]
            have r1:=SeqAt.RcAt.lists p p2 hsz hA hj
            have r2:=SeqAt.RcNeAt.lists p p2 hsz hA hj
            rw [e1] at r1 r2
            exact⟨r1,r2⟩
          · have hb:(its.toArray.size != its2.toArray.size)=true:=by simpa using hsz
            have e1:eqD (.lst ds) (.lst es)=false:=by
              have hl:(ds.length == es.length)=false:=by
                simp only [List.size_toArray] at hsz
                rw [beq_eq_false_iff_ne];omega
              simp only [eqD,eqDs_all,hl,Bool.and_false]
            rw [e1]
            exact⟨SeqAt.RcAt.lists_lengths p p2 hb hA,SeqAt.RcNeAt.lists_lengths p p2 hb hA⟩
        refine⟨?_,both⟩
        by_cases hab:a=b
        · subst hab
          have:D.lst ds=D.lst es:=by
            cases ru':x with
            | ref a' =>
              cases ry':y with
              | ref b' =>
                subst ru' ry'
                have z1:Value.ref a=Value.ref a':=ru
                have z2:Value.ref a=Value.ref b':=rv
                cases z1;cases z2
                exact RP.inj I hx hy
              | _=>subst ry';obtain⟨_,_,q,_⟩:=hy.lst;cases q
            | _=>subst ru';obtain⟨_,_,q,_⟩:=hx.lst;cases q
          rw [this,eqD_refl]
          exact SeqAt.EqAt.same _
        · exact SeqAt.EqAt.of_refs hab both.1
end
end Dw
namespace Dw
open PySem PySem.Spec PyProof.Rows L2
section
variable {prog:Program}{w:World}{A:Around}{R:Result→Shared→Prop}{I:Addr}{fp wr:List Addr}{n:Nat}{P:Nat→Value→Prop}{St:Nat→Heap→Prop}
end
section
variable {prog:Program}{w:World}{A:Around}{E:Value→Shared→Prop}{s:Shared}
end
section
variable {X:Cx}
end
end Dw
namespace Dw
open PySem PySem.Spec PyProof.Rows L2
noncomputable def tyName:Ty→String
  | .int=>"int"|.bool=>"bool"|.tuple=>"tuple"|.list=>"list"|.str=>"str"
noncomputable def kindName:D→String
  | .non=>"NoneType"|.bl _=>"bool"|.int _=>"int"|.str _=>"str"|.tup _=>"tuple"|.lst _=>"list"|.dct _ _=>"NoneType"|.obj _ _=>"NoneType"|.exc _=>"NoneType"
theorem kit_all (K:PySem.W.Frag) (ty:Ty) (d:D):PySem.W.kitOne K (.type (kindName d)) (.type (tyName ty))=some (tyD ty d):=by
  cases ty<;>cases d<;>kernel_rfl
section
variable {X:Cx}
theorem call_isiD:CallR X (.builtin "isinstance") (λxs H Q=>∃(x:V) (d:D) (F:Fz) (ty:Ty),xs=[x,.ty (tyName ty)]∧RP X.K H F d x∧Q (.bl (tyD ty d)) H):=by
  intro pins s σ H xs us Q I r h
  obtain⟨x,d,F,ty,rfl,hx,q⟩:=h
  obtain⟨u,w',rfl,ru,rw'⟩:=vals2 r
  have rw'':w'=Value.type (tyName ty):=rw'
  subst rw''
  have fin:∀tk,EP X pins σ Q (.bool (tyD ty d)) { s with toks:=tk }:=λtk=>⟨.bl _,H,I.tok tk,rfl,q⟩
  have e:=kit_all X.K ty d
  have k:=vs_of I hx ru
  cases d with
  | dct _ _=>exact absurd hx RP.noDct
  | obj _ _=>exact absurd hx RP.noObj
  | exc _=>exact absurd hx RP.noExc
  | non=>have k:u=.none:=k;subst k;exact PySem.W.kia_one PySem.W.kitx_none I.kIn True.intro e (λz=>nomatch z) fin
  | bl b=>have k:u=.bool b:=k;subst k;exact PySem.W.kia_one PySem.W.kitx_bool I.kIn True.intro e (λz=>nomatch z) fin
  | int i=>obtain⟨t,rfl⟩:=k;exact PySem.W.kia_one PySem.W.kitx_int I.kIn True.intro e (λz=>nomatch z) fin
  | str i=>obtain⟨t,rfl⟩:=k;exact PySem.W.kia_one PySem.W.kitx_str I.kIn True.intro e (λz=>nomatch z) fin
  | tup ds=>obtain⟨a,its,vs,rfl,⟨o,h1,h2,_⟩,_⟩:=k;exact PySem.W.kia_one PySem.W.kitx_tuple I.kIn ⟨o,h1,h2⟩ e (λz=>nomatch z) fin
  | lst ds=>obtain⟨a,its,vs,rfl,⟨o,h1,h2,_⟩,_⟩:=k;exact PySem.W.kia_one PySem.W.kitx_list I.kIn ⟨o,h1,h2⟩ e (λz=>nomatch z) fin
theorem op_isD (neg:Bool):OpR X (compareOp (if neg then .IsNot else .Is)) (λx y H Q=>∃(d e:D) (F:Fz) (b:Bool),RP X.K H F d x∧RP X.K H F e y∧isD neg d e=some (false,.bl b)∧Q (.bl b) H):=by
  intro pins s σ H x y v u Q I rx ry h
  obtain⟨d,e,F,b,hx,hy,hb,q⟩:=h
  have kx:=vs_of I hx rx
  have ky:=vs_of I hy ry
  have fin:∀c:Bool,c=b→EP X pins σ Q (.bool c) s:=λc z=>⟨.bl c,H,I,rfl,by rw [z];exact q⟩
  have go:∀(c:Bool),plainIs v u=true→(v == u)=c→(if neg then !c else c)=b→wpAny (model X.prog X.w) X.A (compareOp (if neg then .IsNot else .Is) v u) (EP X pins σ Q) X.xe s:=λc hp hv hc=>by
    subst hv
    cases neg with
    | true=>exact wpAny_isNot_plain hp (fin _ hc)
    | false=>exact wpAny_is_plain hp (fin _ hc)
  have no:∀{x y:Value},x≠y→(x == y)=false:=λh=>beq_eq_false_iff_ne.mpr h
  cases e with
  | non =>
    have ky:u=.none:=ky
    subst ky
    cases d with
    | dct _ _=>exact absurd hx RP.noDct
    | obj _ _=>exact absurd hx RP.noObj
    | exc _=>exact absurd hx RP.noExc
    | non=>have kx:v=.none:=kx;subst kx;exact go true rfl (beq_self_eq_true _) (by cases neg<;>simp at hb ⊢<;>exact hb)
    | bl c=>have kx:v=.bool c:=kx;subst kx;exact go false rfl (no (λz=>nomatch z)) (by cases neg<;>simp at hb ⊢<;>exact hb)
    | int c=>obtain⟨t,rfl⟩:=kx;exact go false rfl (no (λz=>nomatch z)) (by cases neg<;>simp at hb ⊢<;>exact hb)
    | str c=>obtain⟨t,rfl⟩:=kx;exact go false rfl (no (λz=>nomatch z)) (by cases neg<;>simp at hb ⊢<;>exact hb)
    | tup ds=>obtain⟨a,its,vs,rfl,_⟩:=kx;exact go false rfl (no (λz=>nomatch z)) (by cases neg<;>simp at hb ⊢<;>exact hb)
    | lst ds=>obtain⟨a,its,vs,rfl,_⟩:=kx;exact go false rfl (no (λz=>nomatch z)) (by cases neg<;>simp at hb ⊢<;>exact hb)
  | bl c2 =>
    have ky:u=.bool c2:=ky
    subst ky
    cases d with
    | dct _ _=>exact absurd hx RP.noDct
    | obj _ _=>exact absurd hx RP.noObj
    | exc _=>exact absurd hx RP.noExc
    | non=>have kx:v=.none:=kx;subst kx;exact go false rfl (no (λz=>nomatch z)) (by cases neg<;>simp at hb ⊢<;>exact hb)
    | bl c =>
      have kx:v=.bool c:=kx
      subst kx
      by_cases hc:c=c2
      · subst hc
        exact go true rfl (beq_self_eq_true _) (by cases neg<;>simp at hb ⊢<;>exact hb)
      · exact go false rfl (no (λz=>hc (by injection z))) (by cases neg<;>cases c<;>cases c2<;>simp at hb hc ⊢<;>exact hb)
    | int c=>obtain⟨t,rfl⟩:=kx;exact go false rfl (no (λz=>nomatch z)) (by cases neg<;>simp at hb ⊢<;>exact hb)
    | str c=>obtain⟨t,rfl⟩:=kx;exact go false rfl (no (λz=>nomatch z)) (by cases neg<;>simp at hb ⊢<;>exact hb)
    | tup ds=>obtain⟨a,its,vs,rfl,_⟩:=kx;exact go false rfl (no (λz=>nomatch z)) (by cases neg<;>simp at hb ⊢<;>exact hb)
    | lst ds=>obtain⟨a,its,vs,rfl,_⟩:=kx;exact go false rfl (no (λz=>nomatch z)) (by cases neg<;>simp at hb ⊢<;>exact hb)
  | _=>cases d<;>simp at hb
theorem op_eqD (hu:X.A.units+20<cLine):OpR X (compareOp .Eq) (λx y H Q=>∃(d e:D) (F:Fz),RP X.K H F d x∧RP X.K H F e y∧(shal 20 d||shal 20 e)=true∧Q (.bl (eqD d e)) H):=by
  intro pins s σ H x y v u Q I rx ry h
  obtain⟨d,e,F,hx,hy,hs,q⟩:=h
  exact (eq_at I 20 d e x y v u X.A hx hy rx ry hs hu).2.1 _ _ _ _ ⟨.bl _,H,I,rfl,q⟩
theorem op_neD (hu:X.A.units+20<cLine):OpR X (compareOp .NotEq) (λx y H Q=>∃(d e:D) (F:Fz),RP X.K H F d x∧RP X.K H F e y∧(shal 20 d||shal 20 e)=true∧Q (.bl (!eqD d e)) H):=by
  intro pins s σ H x y v u Q I rx ry h
  obtain⟨d,e,F,hx,hy,hs,q⟩:=h
  exact (eq_at I 20 d e x y v u X.A hx hy rx ry hs hu).2.2 _ _ _ _ ⟨.bl _,H,I,rfl,q⟩
end
end Dw
namespace Dw
open PySem PySem.Spec PyProof.Rows L2
noncomputable def RG (K:PySem.W.Frag) (H:Hp) (F:Fz) (d:D) (v:V):Prop:=RD K H F d v∨(∃a ks,d=.dct false ks∧v=.ref a∧¬F a∧H a=some (.dK (dk ks)))∨∃ns ds,d=.obj ns ds∧ObR K H F ns ds v
noncomputable def RGs (K:PySem.W.Frag) (H:Hp) (F:Fz):List D→List V→Prop
  | [],vs=>vs=[]
  | d::ds,vs=>∃v r,vs=v::r∧RG K H F d v∧RGs K H F ds r
theorem RG.grow {K:PySem.W.Frag}{H H1:Hp}{F F1:Fz}(g:Gr H F H1 F1) {d:D}{v:V}(h:RG K H F d v):RG K H1 F1 d v:=
  h.elim (λz=>.inl (RD.mono g.keep z)) λz=>z.elim (λ⟨a,ks,e1,e2,e3,e4⟩=>.inr (.inl ⟨a,ks,e1,e2,(λz=>(g.new a z).elim e3 λz=>absurd (e4.symm.trans z) (by simp)),g.same _ _ e4⟩)) λ⟨ns,ds,e,o⟩=>.inr (.inr ⟨ns,ds,e,o.grow g⟩)
theorem RGs.of {K:PySem.W.Frag}{H:Hp}{F:Fz}:∀{ds:List D}{vs:List V},RDs K H F ds vs→RGs K H F ds vs
  | [],_,h=>h
  | _::_,_,⟨v,r,e,h1,h2⟩=>⟨v,r,e,.inl h1,RGs.of h2⟩
theorem RGs.length {K:PySem.W.Frag}{H:Hp}{F:Fz}:∀{ds:List D}{vs:List V},RGs K H F ds vs→vs.length=ds.length
  | [],_,h=>by rw [show _=[] from h];rfl
  | _::_,_,⟨v,r,e,h1,h2⟩=>by rw [e,List.length_cons,List.length_cons,RGs.length h2]
theorem RGs.get {K:PySem.W.Frag}{H:Hp}{F:Fz}:∀{ds:List D}{vs:List V}{i:Nat}{d:D},RGs K H F ds vs→ds[i]?=some d→∃v,vs[i]?=some v∧RG K H F d v
  | [],_,_,_,_,e=>by simp at e
  | x::ds,_,i,d,⟨v,r,e1,h1,h2⟩,e=>by
    subst e1
    cases i with
    | zero=>simp at e;subst e;exact⟨v,rfl,h1⟩
    | succ i=>simp at e;obtain⟨w,q1,q2⟩:=RGs.get h2 e;exact⟨w,by simpa using q1,q2⟩
noncomputable def spD (K:PySem.W.Frag) (n:Nat) (f:List D→Option R):Sp:=λvs H Q _=>vs.length=n∧TB H∧∃(F:Fz) (ds:List D) (r:R),(∀a,H a=none→¬F a)∧RGs K H F ds vs∧f ds=some r ∧
  ∀v H' F',Gr H F H' F'→RR K H H' F' r v→Q v H'
structure Dfn (call:Nat→List D→Option R) (k:Nat) (X:Cx) (f:Str) (i:Nat):Prop where
  ex:∃(a:Addr) (fd:FuncData) (ps:List Str),X.mg f=some (.ref a)∧PySem.W.keepIn X.K (.ref a)=true∧Binds X.K fd ps []∧FnOk X.prog X.w X.K X.mg X.base CX0 k a fd ps (spD X.K ps.length (call i))∧∀ds r,call i ds=some r→ds.length=ps.length
noncomputable def kV:D→V
  | .int i=>.int i
  | .bl b=>.bl b
  | .str x=>.str x
  | _=>.non
noncomputable def isK:D→Bool
  | .tup _=>false
  | .lst _=>false
  | .dct _ _=>false
  | .obj _ _=>false
  | .exc _=>false
  | _=>true
noncomputable def arV (vs zs:List V):Ar→V
  | .pos i=>vs.getD i .non
  | .kw i=>zs.getD i .non
  | .dft _ d=>kV d
theorem rd_k {K:PySem.W.Frag}{H:Hp}{F:Fz}{d:D}(h:isK d=true):RD K H F d (kV d):=by cases d<;>first|rfl|cases h
structure Dfu (call:Nat→List D→Option R) (k:Nat) (X:Cx) (u:Uc):Prop where
  ex:∃(a:Addr) (fd:FuncData) (ps:List Str) (g:List Value→List Value→List Value) (gV:List V→List V→List V),X.mg u.f=some (.ref a)∧PySem.W.keepIn X.K (.ref a)=true∧KBinds X.K fd ps u.ks g gV∧(∀vs zs,vs.length=u.np→zs.length=u.ks.length→gV vs zs=u.pl.map (arV vs zs)) ∧
    (∀j d,Ar.dft j d∈u.pl→isK d=true)∧FnOk X.prog X.w X.K X.mg X.base CX0 k a fd ps (spD X.K ps.length (call u.i))∧∀ds r,call u.i ds=some r→ds.length=ps.length
noncomputable def putA:List Str→List V→List (Str×V)→List (Str×V)
  | f::ns,v::vs,fs=>putA ns vs (putF f v fs)
  | _,_,fs=>fs
noncomputable def spI (K:PySem.W.Frag) (ns:List Str):Sp:=λvs H Q _=>∃(x C dx:Addr) (ws:List V),vs=.ref x::ws∧ws.length=ns.length∧H x=some (.ins C dx [])∧Cls K C∧(∀f∈ns,NoAttr K C f)∧Q .non (upd H x (.ins C dx (putA ns ws [])))
structure Dfm (call:Nat→List D→Option R) (k:Nat) (X:Cx) (ns:List Str) (c m:Str) (i:Nat):Prop where
  ex:∃(C fi fm:Addr) (fdi fdm:FuncData) (psi psm:List Str),X.mg c=some (.ref C)∧Mk X.K C fi∧Cls X.K C∧(∀f∈ns,NoAttr X.K C f)∧Binds X.K fdi psi []∧FnOk X.prog X.w X.K X.mg X.base CX0 1 fi fdi psi (spI X.K ns)∧Meth X.K C m fm∧Binds X.K fdm psm [] ∧
    FnOk X.prog X.w X.K X.mg X.base CX0 k fm fdm psm (spD X.K psm.length (call i))∧(∀ds r,call i ds=some r→ds.length=psm.length)∧m∉ns∧ns.Nodup
noncomputable def bltNames:List Str:=["len","abs","min","max","sum","all","tuple","list","int","bool","str","isinstance","range","zip","reversed","sorted","enumerate","any"].map Str.ofString
structure Rse (X:Cx) (c:Str):Prop where
  ex:∃(C:Addr) (B nid iid:String) (bm:List Value),ExcBaseFacts B nid iid bm∧OwnCls c C bm nid X.mg X.base
noncomputable def spX (K:PySem.W.Frag) (mg:Str→Option Value) (n:Nat) (f:List D→Option R):Sp:=λvs H Q E=>vs.length=n∧TB H∧∃(F:Fz) (ds:List D) (r:R),(∀a,H a=none→¬F a)∧RGs K H F ds vs∧f ds=some r ∧
  (∀v H' F',Gr H F H' F'→RR K H H' F' r v→Q v H')∧∀c,r=(false,.exc c)→∀H' F',Gr H F H' F'→∀C,mg c=some (.ref C)→E (.ref C) none H'
structure Dfx (call:Nat→List D→Option R) (k:Nat) (X:Cx) (f:Str) (i:Nat):Prop where
  ex:∃(a:Addr) (fd:FuncData) (ps:List Str),X.mg f=some (.ref a)∧PySem.W.keepIn X.K (.ref a)=true∧Binds X.K fd ps []∧FnOk X.prog X.w X.K X.mg X.base (CXr X.prog X.w) k a fd ps (spX X.K X.mg ps.length (call (i+XO)))∧∀ds r,call (i+XO) ds=some r→ds.length=ps.length
structure XG (call:Nat→List D→Option R) (G:Gx) (k:Nat) (X:Cx) (sc:Scope) (N:List Str):Prop where
  hN:X.N=N
  nd:N.Nodup
  vis:∀x,visB sc x=true→Vis X.env.scope x
  loc:∀x,(sc.names.lookup x == some .local||sc.names.lookup x == some .cell)=true→Loc X.env.scope x∧(X.fn x=true∨X.env.scope.names.lookup x=some .local)
  gl:∀x,glB sc x=true→Gl X x
  cap:∀x,capB sc x=true→X.env.kindOf x=some .cell∨X.env.kindOf x=some .free
  calm:X.calm=true
  xe:PassesOwn (model X.prog X.w) X.A X.env X.xe
  room:Room k X.A
  defs:∀f i,G.defs.lookup f=some i→Dfn call k X f i
  blt:∀x,G.defs.lookup x=none→x∈bltNames→X.mg x=none
  cons:∀x i,G.cons.lookup x=some i→∃t,X.mg x=some (.int i t)
  ucal:∀u∈G.ucal,Dfu call k X u
  meth:∀u∈G.meth,Dfm call k X (G.flds.map (·.1)) u.1 u.2.1 u.2.2
  two:G.meth≠[]→2≤k
  rse:∀c∈G.rse,Rse X c
  xdf:∀f i,G.xdf.lookup f=some i→Dfx call k X f i
section
variable {call:Nat→List D→Option R}{G:Gx}{k:Nat}{X:Cx}{sc:Scope}{N:List Str}
variable (call X) in
noncomputable def SndE (e:Expr) (c:C):Prop:=∃t:TE,PE X e t∧∀(Ge H:Hp) (F:Fz) (σ:En) (τ:L2.St) (r:R) (Q:VK),evE call σ c=some r→SR X.K Ge H F σ τ→(∀v H' F',Gr H F H' F'→RR X.K H H' F' r v→Q v H')→t τ H Q
variable (call X) in
noncomputable def SndP (e:Expr) (c:C):Prop:=∃t:TE,PE X e t∧∀(Ge H:Hp) (F:Fz) (σ:En) (τ:L2.St) (d:D) (Q:VK),pk σ c (evE call σ c)=some d→SR X.K Ge H F σ τ→(∀v H' F',Gr H F H' F'→RP X.K H' F' d v→Q v H')→t τ H Q
variable (call X) in
noncomputable def SndT (e:Expr) (c:C):Prop:=∃t:TT,PT X e t∧∀(Ge H:Hp) (F:Fz) (σ:En) (τ:L2.St) (x b:Bool) (Q:Bool→Hp→Prop),evE call σ c=some (x,.bl b)→SR X.K Ge H F σ τ→(∀H' F',Gr H F H' F'→Q b H')→t τ H Q
variable (call X) in
noncomputable def SndA (es:List Expr) (cs:List C):Prop:=∃t:TA,PA X es t∧∀(Ge H:Hp) (F:Fz) (σ:En) (τ:L2.St) (ds:List D) (Q:List V→Hp→Prop),evA call σ cs=some ds→SR X.K Ge H F σ τ→(∀vs H' F',Gr H F H' F'→RDs X.K H' F' ds vs→Q vs H')→t τ H Q
noncomputable def RPs (K:PySem.W.Frag) (H:Hp) (F:Fz):List D→List V→Prop
  | [],vs=>vs=[]
  | d::ds,vs=>∃v r,vs=v::r∧RP K H F d v∧RPs K H F ds r
theorem RPs.grow {K:PySem.W.Frag}{H H1:Hp}{F F1:Fz}(g:Gr H F H1 F1):∀{ds:List D}{vs:List V},RPs K H F ds vs→RPs K H1 F1 ds vs
  | [],_,h=>h
  | _::_,_,⟨v,r,e,h1,h2⟩=>⟨v,r,e,h1.grow g,RPs.grow g h2⟩
variable (call X) in
noncomputable def SndAP (es:List Expr) (cs:List C):Prop:=∃t:TA,PA X es t∧∀(Ge H:Hp) (F:Fz) (σ:En) (τ:L2.St) (ds:List D) (Q:List V→Hp→Prop),evAP call σ cs=some ds→SR X.K Ge H F σ τ→(∀vs H' F',Gr H F H' F'→RPs X.K H' F' ds vs→Q vs H')→t τ H Q
variable (call X) in
noncomputable def SndAg (e:Expr) (c:C):Prop:=∃t:TE,PE X e t∧∀(Ge H:Hp) (F:Fz) (σ:En) (τ:L2.St) (d:D) (Q:VK),ag σ c (evE call σ c)=some d→SR X.K Ge H F σ τ→(∀v H' F',Gr H F H' F'→RG X.K H' F' d v→Q v H')→t τ H Q
variable (call X) in
noncomputable def SndGA (es:List Expr) (cs:List C):Prop:=∃t:TA,PA X es t∧∀(Ge H:Hp) (F:Fz) (σ:En) (τ:L2.St) (ds:List D) (Q:List V→Hp→Prop),evG call σ cs=some ds→SR X.K Ge H F σ τ→(∀vs H' F',Gr H F H' F'→RGs X.K H' F' ds vs→Q vs H')→t τ H Q
variable (call X) in
noncomputable def SndO (e:Option Expr) (c:Option C):Prop:=∃t:TO,PO X e t∧∀(Ge H:Hp) (F:Fz) (σ:En) (τ:L2.St) (o:Option Int) (Q:Option Int→Hp→Prop),evO call σ c=some o→SR X.K Ge H F σ τ→(∀H' F',Gr H F H' F'→Q o H')→t τ H Q
theorem SndE.look {e:Expr}{c:C}(h:SndE call X e c) (hc:∀i,c≠.v i):SndP call X e c:=by
  obtain⟨t,p,q⟩:=h
  refine⟨t,p,λGe H F σ τ d Q hd hs k=>?_⟩
  have hd':(evE call σ c).map (·.2)=some d:=by
    cases c with
    | v i=>exact absurd rfl (hc i)
    | _=>exact hd
  cases hr:evE call σ c with
  | none=>rw [hr] at hd';cases hd'
  | some r =>
    rw [hr] at hd'
    cases hd'
    exact q Ge H F σ τ r Q hr hs λv H' F' g z=>k v H' F' g z.look
theorem SndE.lend {e:Expr}{c:C}(h:SndE call X e c) (hc:∀i,c≠.v i):SndAg call X e c:=by
  obtain⟨t,p,q⟩:=h
  refine⟨t,p,λGe H F σ τ d Q hd hs k=>?_⟩
  have hd':(evE call σ c).map (·.2)=some d:=by
    cases c with
    | v i=>exact absurd rfl (hc i)
    | _=>exact hd
  cases hr:evE call σ c with
  | none=>rw [hr] at hd';cases hd'
  | some r =>
    rw [hr] at hd'
    cases hd'
    refine q Ge H F σ τ r Q hr hs λv H' F' g z=>?_
    obtain⟨F2,g2,rd⟩:=z.fz g
    exact k v H' F2 g2 (.inl rd)
theorem slot_get {x:Str}{i:Nat}(h:slotOf N x=some i):N[i]?=some x:=by
  unfold slotOf at h
  obtain⟨h1,h2,_⟩:=List.findIdx?_eq_some_iff_getElem.mp h
  rw [List.getElem?_eq_getElem h1]
  simpa using h2
theorem var_of (g:XG call G k X sc N) {x:Str}{i:Nat}(h:varOf sc N x=some i):X.N[i]?=some x∧Vis X.env.scope x∧(x == ("__debug__":Str))=false∧(x == ("__classdict__":Str))=false:=by
  unfold varOf at h
  split at h
  · rename_i hv
    rw [Bool.and_eq_true] at hv
    have hp:=hv.2
    unfold plainName at hp
    simp only [Bool.and_eq_true,bne_iff_ne,ne_eq] at hp
    refine⟨by rw [g.hN];exact slot_get h,g.vis x hv.1,?_,?_⟩
    · exact beq_eq_false_iff_ne.mpr hp.1.1
    · exact beq_eq_false_iff_ne.mpr hp.1.2
  · cases h
theorem snd_name (g:XG call G k X sc N) {x:Str}{pos:Pos}{i:Nat}(h:varOf sc N x=some i):SndE call X (.Name x pos) (.v i)∧SndP call X (.Name x pos) (.v i)∧SndAg call X (.Name x pos) (.v i):=by
  obtain⟨h1,h2,h3,h4⟩:=var_of g h
  refine⟨?_,?_,?_⟩
  · refine⟨_,pe_var h1 h2 h3 h4,λGe H F σ τ r Q hr hs k=>?_⟩
    change noOwn (getv σ i)=some r at hr
    cases hv:getv σ i with
    | none=>rw [hv] at hr;cases hr
    | some z =>
      obtain⟨b,d⟩:=z
      rw [hv] at hr
      cases b with
      | true=>cases hr
      | false =>
        cases hr
        obtain⟨v,e,rd⟩:=hs.val i d hv
        exact⟨v,e,k v H F (Gr.refl hs.dom) rd⟩
  · refine⟨_,pe_var h1 h2 h3 h4,λGe H F σ τ d Q hr hs k=>?_⟩
    change (getv σ i).bind pkR=some d at hr
    cases hv:getv σ i with
    | none=>rw [hv] at hr;cases hr
    | some z =>
      obtain⟨b,d'⟩:=z
      rw [hv] at hr
      cases b with
      | false =>
        cases hr
        obtain⟨v,e,rd⟩:=hs.val i _ hv
        exact⟨v,e,k v H F (Gr.refl hs.dom) (.inl rd)⟩
      | true =>
        cases d' with
        | lst ds' =>
          cases hr
          obtain⟨a,ds,vs,e1,e2,e3,e4,e5,e6⟩:=hs.own i _ hv rfl
          exact⟨.ref a,e2,k _ H F (Gr.refl hs.dom) (.inr ⟨a,ds,vs,e1,rfl,e5,e6⟩)⟩
        | _=>cases hr
  · refine⟨_,pe_var h1 h2 h3 h4,λGe H F σ τ d Q hr hs k=>?_⟩
    change (getv σ i).bind agR=some d at hr
    cases hv:getv σ i with
    | none=>rw [hv] at hr;cases hr
    | some z =>
      obtain⟨b,d'⟩:=z
      rw [hv] at hr
      cases b with
      | false =>
        cases hr
        obtain⟨v,e,rd⟩:=hs.val i _ hv
        exact⟨v,e,k v H F (Gr.refl hs.dom) (.inl rd)⟩
      | true =>
        cases d' with
        | dct m ks =>
          cases hr
          obtain⟨a,e1,e2,e3,e4⟩:=hs.dct i m ks hv
          exact⟨.ref a,e1,k _ H F (Gr.refl hs.dom) (.inr (.inl ⟨a,ks,rfl,rfl,e2,e3⟩))⟩
        | _=>cases hr
theorem snd_const {c:Const}{d:D}{j:Nat}{pos:Pos}(h:kOf c=some d):SndE call X (.Constant c j pos) (.k d):=by
  cases c with
  | int i=>cases h;exact⟨_,pe_int,λGe H F σ τ r Q hr hs k=>by cases hr;exact k _ H F (Gr.refl hs.dom) rfl⟩
  | bool i=>cases h;exact⟨_,pe_bl,λGe H F σ τ r Q hr hs k=>by cases hr;exact k _ H F (Gr.refl hs.dom) rfl⟩
  | str x=>cases h;exact⟨_,pe_str,λGe H F σ τ r Q hr hs k=>by cases hr;exact k _ H F (Gr.refl hs.dom) rfl⟩
  | none=>cases h;exact⟨_,pe_non,λGe H F σ τ r Q hr hs k=>by cases hr;exact k _ H F (Gr.refl hs.dom) rfl⟩
  | _=>cases h
theorem snd_gl (g:XG call G k X sc N) {x:Str}{c:C}{pos:Pos}(h:cGl G sc x=some c):SndE call X (.Name x pos) c∧∀i,c≠.v i:=by
  unfold cGl at h
  split at h
  · rename_i hb
    rw [Bool.and_eq_true] at hb
    cases hc:G.cons.lookup x with
    | none=>rw [hc] at h;cases h
    | some i =>
      rw [hc] at h
      cases h
      obtain⟨t,ht⟩:=g.cons x i hc
      have hd:(x == ("__debug__":Str))=false:=by
        have:=hb.2
        unfold plainName at this
        simp only [Bool.and_eq_true,bne_iff_ne,ne_eq] at this
        simpa using this.1.1
      exact⟨⟨_,pe_glob (v:=.int i) (g.gl x hb.1) ht ⟨t,rfl⟩ hd,λGe H F σ τ r Q hr hs k=>by cases hr;exact k _ H F (Gr.refl hs.dom) rfl⟩,λi z=>nomatch z⟩
  · cases h
noncomputable def OpD (X:Cx) (f:Value→Value→Sem Value) (b:D→D→Option R):Prop:=
  ∃r:R2,OpR X f r∧∀(H:Hp) (F:Fz) (d e:D) (x y:V) (z:R) (Q:VK),b d e=some z→(∀a,H a=none→¬F a)→RP X.K H F d x→RP X.K H F e y→(∀v H' F',Gr H F H' F'→RR X.K H H' F' z v→Q v H')→r x y H Q
theorem bind2 {α β γ:Type}{a:Option α}{b:Option β}{f:α→β→Option γ}{z:γ}(h:(a.bind λx=>b.bind λy=>f x y)=some z):∃x y,a=some x∧b=some y∧f x y=some z:=by
  cases a with
  | none=>cases h
  | some x =>
    cases b with
    | none=>cases h
    | some y=>exact⟨x,y,rfl,rfl,h⟩
theorem bind1 {α γ:Type}{a:Option α}{f:α→Option γ}{z:γ}(h:a.bind f=some z):∃x,a=some x∧f x=some z:=by
  cases a with
  | none=>cases h
  | some x=>exact⟨x,rfl,h⟩
theorem read2 {a b:Expr}{ca cb:C}{ta tb:TE}{Ge H:Hp}{F:Fz}{σ:En}{τ:L2.St}{x y:D}{R':V→V→Hp→Prop}
    (qa:∀(Ge H:Hp) (F:Fz) (σ:En) (τ:L2.St) (d:D) (Q:VK),pk σ ca (evE call σ ca)=some d→SR X.K Ge H F σ τ→(∀v H' F',Gr H F H' F'→RP X.K H' F' d v→Q v H')→ta τ H Q)
    (qb:∀(Ge H:Hp) (F:Fz) (σ:En) (τ:L2.St) (d:D) (Q:VK),pk σ cb (evE call σ cb)=some d→SR X.K Ge H F σ τ→(∀v H' F',Gr H F H' F'→RP X.K H' F' d v→Q v H')→tb τ H Q)
    (ex:pk σ ca (evE call σ ca)=some x) (ey:pk σ cb (evE call σ cb)=some y) (hs:SR X.K Ge H F σ τ)
    (h:∀v w H2 F2,Gr H F H2 F2→RP X.K H2 F2 x v→RP X.K H2 F2 y w→R' v w H2):ta τ H λv H1=>tb τ H1 λw H2=>R' v w H2:=by
  refine qa Ge H F σ τ x _ ex hs λv H1 F1 g1 r1=>?_
  refine qb Ge H1 F1 σ τ y _ ey (hs.grow g1) λw H2 F2 g2 r2=>?_
  exact h v w H2 F2 (g1.trans g2) (r1.grow g2) r2
theorem snd_bin {a b:Expr}{ca cb:C}{op:Operator}{o:BOp}{pos:Pos}(ho:OpD X (binaryOp op) (binD o)) (ha:SndP call X a ca) (hb:SndP call X b cb):SndE call X (.BinOp a op b pos) (.bin o ca cb):=by
  obtain⟨r,hr,hq⟩:=ho
  obtain⟨ta,pa,qa⟩:=ha
  obtain⟨tb,pb,qb⟩:=hb
  refine⟨_,pe_op hr pa pb,λGe H F σ τ z Q hz hs k=>?_⟩
  obtain⟨x,y,ex,ey,ez⟩:=bind2 (by simpa only [evE_bin] using hz)
  refine read2 (a:=a) (b:=b) qa qb ex ey hs λv w H2 F2 g rx ry=>?_
  exact hq H2 F2 x y v w z Q ez g.dom rx ry λu H' F' g' rr=>k u H' F' (g.trans g') (rr.back g.same)
theorem snd_cmp {a b:Expr}{ca cb:C}{op:CmpOp}{o:COp}{pos:Pos}(ho:OpD X (compareOp op) (cmpD o)) (hm:behindInMarks op b=false) (hb2:∀x y z,cmpD o x y=some z→∃c,z=(false,.bl c)) (ha:SndP call X a ca) (hb:SndP call X b cb) :
    SndE call X (.Compare a [op] [b] pos) (.cmp o ca cb)∧SndT call X (.Compare a [op] [b] pos) (.cmp o ca cb):=by
  obtain⟨r,hr,hq⟩:=ho
  obtain⟨ta,pa,qa⟩:=ha
  obtain⟨tb,pb,qb⟩:=hb
  constructor
  · refine⟨_,pe_cmpR hr pa pb hm,λGe H F σ τ z Q hz hs k=>?_⟩
    obtain⟨x,y,ex,ey,ez⟩:=bind2 (by simpa only [evE_cmp] using hz)
    refine read2 (a:=a) (b:=b) qa qb ex ey hs λv w H2 F2 g rx ry=>?_
    exact hq H2 F2 x y v w z Q ez g.dom rx ry λu H' F' g' rr=>k u H' F' (g.trans g') (rr.back g.same)
  · refine⟨_,pt_cmpR hr pa pb hm,λGe H F σ τ xx bb Q hz hs k=>?_⟩
    obtain⟨x,y,ex,ey,ez⟩:=bind2 (by simpa only [evE_cmp] using hz)
    refine read2 (a:=a) (b:=b) qa qb ex ey hs λv w H2 F2 g rx ry=>?_
    obtain⟨c,ec⟩:=hb2 _ _ _ ez
    cases ec
    exact hq H2 F2 x y v w _ _ ez g.dom rx ry λu H' F' g' rr=>⟨bb,rr,k H' F' (g.trans g')⟩
theorem dk_any (ks:List Int) (k:Int):(valV (dk ks) (Sum.inl k:Key)).isSome=ks.any (· == k):=by
  rw [←valV_any]
  unfold dk
  rw [List.any_map]
  congr 1
  funext x
  rw [Bool.eq_iff_iff]
  simp [Function.comp]
theorem dk_put (ks:List Int) (k:Int):putK (dk ks) (Sum.inl k:Key) (.bl true)=dk (if ks.any (· == k) then ks else ks++[k]):=by
  unfold putK
  rw [valV_any,dk_any]
  cases ks.any (· == k) with
  | true =>
    simp only [if_true]
    unfold dk
    rw [List.map_map]
    congr 1
    funext x
    simp only [Function.comp]
    split<;>rfl
  | false =>
    simp only [Bool.false_eq_true,if_false]
    unfold dk
    rw [List.map_append]
    rfl
theorem op_din (hu:X.A.units+1<cLine):OpR X (compareOp .In) (λx y H Q=>∃a o,y=.ref a∧DGet H a x o∧Q (.bl o.isSome) H):=by
  intro pins s σ H x y v u Q I rx ry h
  obtain⟨a,o,rfl,g,q⟩:=h
  cases ry
  exact d_in hu I g rx λs' I'=>⟨.bl o.isSome,H,I',rfl,q⟩
theorem op_dnotin (hu:X.A.units+1<cLine):OpR X (compareOp .NotIn) (λx y H Q=>∃a o,y=.ref a∧DGet H a x o∧Q (.bl (!o.isSome)) H):=by
  intro pins s σ H x y v u Q I rx ry h
  obtain⟨a,o,rfl,g,q⟩:=h
  cases ry
  exact d_notIn hu I g rx λs' I'=>⟨.bl (!o.isSome),H,I',rfl,q⟩
theorem inR_f (n:Bool) (x d:D):inR n x (false,d)=inD n x d:=by cases x<;>rfl
theorem inR_t {n:Bool}{x d:D}{z:R}(h:inR n x (true,d)=some z):(∃k m ks,x=.int k∧d=.dct m ks∧z=(false,.bl (if n then !(ks.any (· == k)) else ks.any (· == k))))∨∃b ds bs,x=.bl b∧d=.lst ds∧blsOf ds=some bs∧z=(false,.bl (if n then !(bs.any (· == b)) else bs.any (· == b))):=by
  cases x with
  | int k =>
    cases d with
    | dct m ks=>cases h;exact .inl ⟨k,m,ks,rfl,rfl,rfl⟩
    | _=>cases h
  | bl b =>
    cases d with
    | lst ds =>
      have h:(blsOf ds).map (λbs=>(false,D.bl (if n then !(bs.any (· == b)) else bs.any (· == b))))=some z:=h
      cases e:blsOf ds with
      | none=>rw [e] at h;cases h
      | some bs=>rw [e] at h;cases h;exact .inr ⟨b,ds,bs,rfl,rfl,e,rfl⟩
    | _=>cases h
  | _=>cases h
theorem vals_anyB (i:Bool):∀{is:List Bool}{us:List Value},Vals (is.map V.bl) us→(∀u∈us,∃j,u=Value.bool j)∧us.any (λu=>match u with|.bool j=>j == i|_=>false)=is.any (· == i)
  | [],us,h=>by cases h;exact⟨(λ_ z=>nomatch z),rfl⟩
  | n::is,us,h=>by
    cases h with
    | cons h1 h2 =>
      have h1:_=Value.bool n:=h1
      subst h1
      obtain⟨q1,q2⟩:=vals_anyB i h2
      refine⟨λu hu=>?_,?_⟩
      · rcases List.mem_cons.mp hu with rfl|hu
        · exact⟨n,rfl⟩
        · exact q1 u hu
      · rw [List.any_cons,List.any_cons,q2]
theorem op_inLB (n:Bool):OpR X (compareOp (if n then .NotIn else .In)) (λx y H Q=>∃(i:Bool) (p:Addr) (is:List Bool),x=.bl i∧y=.ref p∧SqL X.K H p (is.map V.bl)∧Q (.bl (if n then !(is.any (· == i)) else is.any (· == i))) H):=by
  intro pins s σ H x y v u Q I rx ry h
  obtain⟨i,p,is,rfl,rfl,hp,q⟩:=h
  have rx:v=Value.bool i:=rx
  subst rx
  cases ry
  obtain⟨its,rv,ht,_⟩:=I.list hp
  obtain⟨q1,q2⟩:=vals_anyB i rv
  have he:∀y,y∈its.toArray→SeqAt.EqAt X.A.in1 s y (.bool i) ((λu:Value=>match u with|.bool j=>j == i|_=>false) y):=λy hy=>by
    obtain⟨j,rfl⟩:=q1 y (by simpa using hy)
    exact SeqAt.EqAt.bool_bool _ _
  have ea:its.toArray.any (λu:Value=>match u with|.bool j=>j == i|_=>false)=is.any (· == i):=by rw [List.any_toArray];exact q2
  cases n with
  | false=>exact SeqAt.in_listAt _ ht.isList he ⟨.bl _,H,I,by rw [ea];rfl,q⟩
  | true=>exact SeqAt.notIn_listAt _ ht.isList he ⟨.bl _,H,I,by rw [ea];rfl,q⟩
theorem or_opR {f:Value→Value→Sem Value}{r r':R2}(h:OpR X f r) (h':OpR X f r'):OpR X f (λx y H Q=>r x y H Q∨r' x y H Q):=
  λpins s σ H x y v u Q I rx ry z=>z.elim (h pins s σ H x y v u Q I rx ry) (h' pins s σ H x y v u Q I rx ry)
theorem snd_inV (n:Bool) (g:XG call G k X sc N) (hu:X.A.units+20<cLine) {a:Expr}{x:Str}{px pos:Pos}{ca:C}{i:Nat}{op:CmpOp}{o:COp}(hn:(n=false∧op=.In∧o=.isin)∨(n=true∧op=.NotIn∧o=.notin)) (ho:OpD X (compareOp op) (cmpD o)) (hv:varOf sc N x=some i) (ha:SndP call X a ca) :
    SndE call X (.Compare a [op] [.Name x px] pos) (.inV n ca i)∧SndT call X (.Compare a [op] [.Name x px] pos) (.inV n ca i):=by
  obtain⟨h1,h2,h3,h4⟩:=var_of g hv
  have pn:PE X (.Name x px) (tVar i):=pe_var h1 h2 h3 h4
  obtain⟨r,hr,hq⟩:=ho
  obtain⟨ta,pa,qa⟩:=ha
  have hc:∀x d:D,cmpD o x d=inD n x d:=λx d=>by rcases hn with ⟨rfl,_,rfl⟩|⟨rfl,_,rfl⟩<;>rfl
  have hm:behindInMarks op (.Name x px)=false:=by rcases hn with ⟨_,rfl,_⟩|⟨_,rfl,_⟩<;>rfl
  have hd:OpR X (compareOp op) (λx y H Q=>∃a o',y=.ref a∧DGet H a x o'∧Q (.bl (if n then !o'.isSome else o'.isSome)) H):=by
    rcases hn with ⟨rfl,rfl,_⟩|⟨rfl,rfl,_⟩
    · exact op_din (by omega)
    · exact op_dnotin (by omega)
  have hl:OpR X (compareOp op) (λx y H Q=>∃(i:Bool) (p:Addr) (is:List Bool),x=.bl i∧y=.ref p∧SqL X.K H p (is.map V.bl)∧Q (.bl (if n then !(is.any (· == i)) else is.any (· == i))) H):=by
    rcases hn with ⟨rfl,rfl,_⟩|⟨rfl,rfl,_⟩
    · exact op_inLB false
    · exact op_inLB true
  have key:∀(Ge H:Hp) (F:Fz) (σ:En) (τ:L2.St) (z:R) (Q:VK),evE call σ (.inV n ca i)=some z→SR X.K Ge H F σ τ→(∀v H' F',Gr H F H' F'→RR X.K H H' F' z v→Q v H') →
      ta τ H λv H1=>tVar i τ H1 λw H2=>(r v w H2 Q∨((∃a o',w=.ref a∧DGet H2 a v o'∧Q (.bl (if n then !o'.isSome else o'.isSome)) H2)∨∃(i:Bool) (p:Addr) (is:List Bool),v=.bl i∧w=.ref p∧SqL X.K H2 p (is.map V.bl)∧Q (.bl (if n then !(is.any (· == i)) else is.any (· == i))) H2)):=λGe H F σ τ z Q hz hs kk=>by
    rw [evE_inV] at hz
    obtain⟨x,ex,hz⟩:=bind1 hz
    obtain⟨y,ey,ez⟩:=bind1 hz
    refine qa Ge H F σ τ x _ ex hs λv H1 F1 g1 rx=>?_
    have hs1:=hs.grow g1
    obtain⟨b,d⟩:=y
    cases b with
    | false =>
      rw [inR_f] at ez
      obtain⟨w,e,rd⟩:=hs1.val i d ey
      refine⟨w,e,.inl (hq H1 F1 x d v w z _ (by rw [hc];exact ez) g1.dom rx (.inl rd) λu H' F' g' rr=>kk u H' F' (g1.trans g') (rr.back g1.same))⟩
    | true =>
      rcases inR_t ez with ⟨kk',m,ks,rfl,rfl,rfl⟩|⟨b,ds,bs,rfl,rfl,eb,rfl⟩
      · obtain⟨a,e1,e2,e3,e4⟩:=hs1.dct i m ks ey
        have hx:=rx.int
        subst hx
        refine⟨.ref a,e1,.inr (.inl ⟨a,valV (dk ks) (Sum.inl kk'),rfl,DGet.k (k:=Sum.inl kk') e3,?_⟩)⟩
        rw [dk_any]
        exact kk _ H1 F1 g1 (by cases n<;>rfl)
      · obtain⟨a,ds',vs,e1,e2,e3,e4,e5,e6⟩:=hs1.own i _ ey rfl
        cases e1
        have hx:=rx.bl
        subst hx
        obtain rfl:=RDs.bls e6 eb
        exact⟨.ref a,e2,.inr (.inr ⟨b,a,bs,rfl,rfl,SqL.of e5,kk _ H1 F1 g1 (by cases n<;>rfl)⟩)⟩
  constructor
  · exact⟨_,pe_cmpR (or_opR hr (or_opR hd hl)) pa pn hm,key⟩
  · refine⟨_,pt_cmpR (or_opR hr (or_opR hd hl)) pa pn hm,λGe H F σ τ xx bb Q hz hs kk=>?_⟩
    exact key Ge H F σ τ _ _ hz hs λv H' F' g rr=>by
      cases xx with
      | false=>exact⟨bb,rr,kk H' F' g⟩
      | true=>obtain⟨_,_,_,e,_⟩:=rr;cases e
theorem vals_any (i:Int):∀{is:List Int}{us:List Value},Vals (is.map V.int) us→(∀u∈us,∃j t,u=Value.int j t)∧us.any (λu=>match u with|.int j _=>j == i|_=>false)=is.any (· == i)
  | [],us,h=>by cases h;exact⟨(λ_ z=>nomatch z),rfl⟩
  | n::is,us,h=>by
    cases h with
    | cons h1 h2 =>
      obtain⟨t,rfl⟩:=h1
      obtain⟨q1,q2⟩:=vals_any i h2
      refine⟨λu hu=>?_,?_⟩
      · rcases List.mem_cons.mp hu with rfl|hu
        · exact⟨n,t,rfl⟩
        · exact q1 u hu
      · rw [List.any_cons,List.any_cons,q2]
theorem op_inT (n:Bool):OpR X (compareOp (if n then .NotIn else .In)) (λx y H Q=>∃(i:Int) (p:Addr) (is:List Int),x=.int i∧y=.ref p∧SqT X.K H p (is.map V.int)∧Q (.bl (if n then !(is.any (· == i)) else is.any (· == i))) H):=by
  intro pins s σ H x y v u Q I rx ry h
  obtain⟨i,p,is,rfl,rfl,hp,q⟩:=h
  obtain⟨t,rfl⟩:=rx
  cases ry
  obtain⟨its,rv,ht,_⟩:=I.tuple hp
  obtain⟨q1,q2⟩:=vals_any i rv
  have he:∀y,y∈its.toArray→SeqAt.EqAt X.A.in1 s y (.int i t) ((λu:Value=>match u with|.int j _=>j == i|_=>false) y):=λy hy=>by
    obtain⟨j,t',rfl⟩:=q1 y (by simpa using hy)
    exact SeqAt.EqAt.int_int _ _ _ _
  have ea:its.toArray.any (λu:Value=>match u with|.int j _=>j == i|_=>false)=is.any (· == i):=by rw [List.any_toArray];exact q2
  cases n with
  | false=>exact SeqAt.in_tupleAt _ ht he ⟨.bl _,H,I,by rw [ea];rfl,q⟩
  | true=>exact SeqAt.notIn_tupleAt _ ht he ⟨.bl _,H,I,by rw [ea];rfl,q⟩
theorem opd_in (n:Bool):OpD X (compareOp (if n then .NotIn else .In)) (inD n):=by
  refine⟨_,op_inT n,λH F d e x y z Q hz dom hx hy k=>?_⟩
  cases d with
  | int i =>
    cases e with
    | tup ys =>
      obtain⟨a,vs,rfl,hl,hr⟩:=hy.tup
      have hz:(intsOf ys).map (λis=>(false,D.bl (if n then !(is.any (· == i)) else is.any (· == i))))=some z:=hz
      cases hi:intsOf ys with
      | none=>rw [hi] at hz;cases hz
      | some is =>
        rw [hi] at hz
        cases hz
        obtain rfl:=RDs.ints hr hi
        exact⟨i,a,is,hx.int,rfl,hl,k _ H F (Gr.refl dom) rfl⟩
    | _=>cases hz
  | _=>cases e<;>cases hz
theorem laid_lst {K:PySem.W.Frag}{H:Hp}{F:Fz}{ds:List D}{vs:List V}{p:Addr}(dom:∀a,H a=none→¬F a) (hp:H p=none) (h:RDs K H F ds vs) :
    Gr H F (upd H p (.lst vs)) F∧RR K H (upd H p (.lst vs)) F (true,.lst ds) (.ref p):=by
  have g:Gr H F (upd H p (.lst vs)) F:=Gr.laid dom hp
  exact⟨g,p,ds,vs,rfl,rfl,hp,dom p hp,upd_same,RDs.mono g.keep h⟩
theorem laid_tup {K:PySem.W.Frag}{H:Hp}{F:Fz}{ds:List D}{vs:List V}{p:Addr}(dom:∀a,H a=none→¬F a) (hp:H p=none) (h:RDs K H F ds vs) :
    Gr H F (upd H p (.tup vs)) F∧RR K H (upd H p (.tup vs)) F (false,.tup ds) (.ref p):=by
  have g:Gr H F (upd H p (.tup vs)) F:=Gr.laid dom hp
  exact⟨g,p,vs,rfl,SqT.of upd_same,RDs.mono g.keep h⟩
theorem opd_int {f:Value→Value→Sem Value}{b:D→D→Option R}{Cc:Int→Int→Prop}{gg:Int→Int→V}{kk:Int→Int→D}(h:OpR X f (rI Cc gg))
    (hb:∀d e z,b d e=some z→∃i j,d=.int i∧e=.int j∧Cc i j∧z=(false,kk i j)) (hk:∀(H:Hp) (F:Fz) i j,RD X.K H F (kk i j) (gg i j)):OpD X f b:=by
  refine⟨_,h,λH F d e x y z Q hz dom hx hy k=>?_⟩
  obtain⟨i,j,rfl,rfl,hc,rfl⟩:=hb d e z hz
  exact⟨i,j,hx.int,hy.int,hc,k _ H F (Gr.refl dom) (hk H F i j)⟩
theorem opd_int0 {f:Value→Value→Sem Value}{b:D→D→Option R}{gg:Int→Int→V}{kk:Int→Int→D}(h:OpR X f (rI0 gg))
    (hb:∀d e z,b d e=some z→∃i j,d=.int i∧e=.int j∧z=(false,kk i j)) (hk:∀(H:Hp) (F:Fz) i j,RD X.K H F (kk i j) (gg i j)):OpD X f b:=by
  refine⟨_,h,λH F d e x y z Q hz dom hx hy k=>?_⟩
  obtain⟨i,j,rfl,rfl,rfl⟩:=hb d e z hz
  exact⟨i,j,hx.int,hy.int,k _ H F (Gr.refl dom) (hk H F i j)⟩
theorem ite_some {α:Type}{c:Prop} [Decidable c] {a b:α}(h:(if c then some a else none)=some b):c∧a=b:=by
  by_cases hc:c
  · rw [if_pos hc] at h;exact⟨hc,Option.some.inj h⟩
  · rw [if_neg hc] at h;cases h
theorem opd_sub:OpD X (binaryOp .Sub) (binD .sub):=opd_int0 (kk:=λi j=>.int (i - j)) op_sub (λd e z h=>by
  cases d<;>cases e<;>first|(cases h;exact⟨_,_,rfl,rfl,rfl⟩)|cases h) λ_ _ _ _=>rfl
theorem opd_fdiv:OpD X (binaryOp .FloorDiv) (binD .fdiv):=opd_int (kk:=λi j=>.int (i.fdiv j)) op_fdivD (λd e z h=>by
  cases d<;>cases e<;>first|(obtain⟨h1,rfl⟩:=ite_some h;exact⟨_,_,rfl,rfl,h1,rfl⟩)|cases h) λ_ _ _ _=>rfl
theorem opd_mod:OpD X (binaryOp .Mod) (binD .mod):=opd_int (kk:=λi j=>.int (i.fmod j)) op_modD (λd e z h=>by
  cases d<;>cases e<;>first|(obtain⟨h1,rfl⟩:=ite_some h;exact⟨_,_,rfl,rfl,h1,rfl⟩)|cases h) λ_ _ _ _=>rfl
theorem opd_pow:OpD X (binaryOp .Pow) (binD .pow):=opd_int (kk:=λi j=>.int (i^j.toNat)) op_powD (λd e z h=>by
  cases d<;>cases e<;>first|(obtain⟨h1,rfl⟩:=ite_some h;exact⟨_,_,rfl,rfl,h1,rfl⟩)|cases h) λ_ _ _ _=>rfl
theorem opd_shl:OpD X (binaryOp .LShift) (binD .shl):=opd_int (kk:=λi j=>.int (i * 2^j.toNat)) op_shl (λd e z h=>by
  cases d<;>cases e<;>first|(obtain⟨h1,rfl⟩:=ite_some h;have h2:=of_decide_eq_true h1;exact⟨_,_,rfl,rfl,⟨h2.1,by omega,h2.2.2⟩,rfl⟩)|cases h) λ_ _ _ _=>rfl
theorem opd_shr:OpD X (binaryOp .RShift) (binD .shr):=opd_int (kk:=λi j=>.int (i / 2^j.toNat)) op_shr (λd e z h=>by
  cases d<;>cases e<;>first|(obtain⟨h1,rfl⟩:=ite_some h;exact⟨_,_,rfl,rfl,h1,rfl⟩)|cases h) λ_ _ _ _=>rfl
theorem band_nn {x y:Int}(h1:0≤x) (h2:0≤y):Builtin.bitAnd x y=((x.toNat &&& y.toNat:Nat):Int):=by
  unfold Builtin.bitAnd;rw [decide_eq_true h1,decide_eq_true h2]
theorem bor_nn {x y:Int}(h1:0≤x) (h2:0≤y):Builtin.bitOr x y=((x.toNat ||| y.toNat:Nat):Int):=by
  have n:∀z:Int,Builtin.bitNot z=-z - 1:=λz=>by simp only [Builtin.bitNot]<;>omega
  unfold Builtin.bitOr Builtin.bitAnd
  rw [decide_eq_false (show ¬0≤Builtin.bitNot x by rw [n];omega),decide_eq_false (show ¬0≤Builtin.bitNot y by rw [n];omega)]
  simp only
  rw [n,n,n,n,n,n]
  rw [show -(-x - 1) - 1=x by omega,show -(-y - 1) - 1=y by omega]
  omega
theorem op_bandD:OpR X (binaryOp .BitAnd) (rI (λi j=>0≤i∧0≤j) λi j=>.int ((i.toNat &&& j.toNat:Nat):Int)):=opI λi j _ _ _ _ _ hc q=>and_int (by rw [band_nn hc.1 hc.2];exact q)
theorem op_borD:OpR X (binaryOp .BitOr) (rI (λi j=>0≤i∧0≤j) λi j=>.int ((i.toNat ||| j.toNat:Nat):Int)):=opI λi j _ _ _ _ _ hc q=>or_int (by rw [bor_nn hc.1 hc.2];exact q)
theorem opd_band:OpD X (binaryOp .BitAnd) (binD .band):=opd_int (kk:=λi j=>.int ((i.toNat &&& j.toNat:Nat):Int)) op_bandD (λd e z h=>by
  cases d<;>cases e<;>first|(obtain⟨h1,rfl⟩:=ite_some h;exact⟨_,_,rfl,rfl,h1,rfl⟩)|cases h) λ_ _ _ _=>rfl
theorem opd_bor:OpD X (binaryOp .BitOr) (binD .bor):=opd_int (kk:=λi j=>.int ((i.toNat ||| j.toNat:Nat):Int)) op_borD (λd e z h=>by
  cases d<;>cases e<;>first|(obtain⟨h1,rfl⟩:=ite_some h;exact⟨_,_,rfl,rfl,h1,rfl⟩)|cases h) λ_ _ _ _=>rfl
theorem op_bxorD:OpR X (binaryOp .BitXor) (rI (λi j=>0≤i∧0≤j) λi j=>.int (((i.toNat ||| j.toNat:Nat):Int) - ((i.toNat &&& j.toNat:Nat):Int))):=opI λi j _ _ _ _ _ hc q=>xor_int (by unfold Builtin.bitXor;rw [bor_nn hc.1 hc.2,band_nn hc.1 hc.2];exact q)
theorem opd_bxor:OpD X (binaryOp .BitXor) (binD .bxor):=opd_int (kk:=λi j=>.int (((i.toNat ||| j.toNat:Nat):Int) - ((i.toNat &&& j.toNat:Nat):Int))) op_bxorD (λd e z h=>by
  cases d<;>cases e<;>first|(obtain⟨h1,rfl⟩:=ite_some h;exact⟨_,_,rfl,rfl,h1,rfl⟩)|cases h) λ_ _ _ _=>rfl
theorem opd_mul:OpD X (binaryOp .Mult) (binD .mul):=by
  refine⟨_,op_mulD.or op_repD,λH F d e x y z Q hz dom hx hy k=>?_⟩
  cases d with
  | int i =>
    cases e with
    | int j=>obtain⟨h1,rfl⟩:=ite_some hz;exact .inl ⟨i,j,hx.int,hy.int,h1,k _ H F (Gr.refl dom) rfl⟩
    | _=>cases hz
  | lst xs =>
    cases e with
    | int j =>
      obtain⟨⟨h1,h2,h3⟩,rfl⟩:=ite_some hz
      obtain⟨a,vs,rfl,hl,hr⟩:=hx.lst
      refine .inr ⟨a,j,vs,rfl,hy.int,hl,by omega,by omega,by rw [RDs.length hr];exact h1,λp hp=>?_⟩
      obtain⟨g,rr⟩:=laid_lst dom hp (RDs.rep hr j.toNat)
      exact k _ _ _ g rr
    | _=>cases hz
  | _=>cases e<;>cases hz
theorem opd_add:OpD X (binaryOp .Add) (binD .add):=by
  refine⟨_,(op_add.or (op_catD.or op_catT)).or (op_catN.or op_add_str),λH F d e x y z Q hz dom hx hy k=>?_⟩
  cases d with
  | int i =>
    cases e with
    | int j=>cases hz;exact .inl (.inl ⟨i,j,hx.int,hy.int,k _ H F (Gr.refl dom) rfl⟩)
    | _=>cases hz
  | str xs =>
    cases e with
    | str ys =>
      obtain⟨h1,rfl⟩:=ite_some hz
      exact .inr (.inr ⟨xs,ys,hx.str,hy.str,h1,k _ H F (Gr.refl dom) rfl⟩)
    | _=>cases hz
  | lst xs =>
    cases e with
    | lst ys =>
      obtain⟨h1,rfl⟩:=ite_some hz
      obtain⟨a,vs,rfl,hl,hr⟩:=hx.lst
      obtain⟨a2,vs2,rfl,hl2,hr2⟩:=hy.lst
      refine .inl (.inr (.inl ⟨a,a2,vs,vs2,rfl,rfl,hl,hl2,by rw [RDs.length hr,RDs.length hr2];exact h1,λp hp=>?_⟩))
      obtain⟨g,rr⟩:=laid_lst dom hp (RDs.append hr hr2)
      exact k _ _ _ g rr
    | _=>cases hz
  | tup xs =>
    cases e with
    | tup ys =>
      cases xs with
      | nil =>
        cases hz
        obtain⟨a,vs,rfl,hl,hr⟩:=hx.tup
        obtain⟨a2,vs2,rfl,hl2,hr2⟩:=hy.tup
        have hr:vs=[]:=hr
        subst hr
        exact .inr (.inl ⟨a,a2,vs2,rfl,rfl,hl,hl2,k _ H F (Gr.refl dom) ⟨a2,vs2,rfl,hl2,hr2⟩⟩)
      | cons x0 xs =>
        obtain⟨h1,rfl⟩:=ite_some hz
        obtain⟨a,vs,rfl,hl,hr⟩:=hx.tup
        obtain⟨a2,vs2,rfl,hl2,hr2⟩:=hy.tup
        have hv:vs≠[]:=λz=>by have:=RDs.length hr;rw [z] at this;cases this
        refine .inl (.inr (.inr ⟨a,a2,vs,vs2,rfl,rfl,hl,hl2,hv,by rw [RDs.length hr,RDs.length hr2];exact h1,λz=>?_,λ_ p hp=>?_⟩))
        · subst z
          have e0:ys=[]:=by have:=RDs.length hr2;exact List.length_eq_zero_iff.mp this.symm
          subst e0
          rw [List.append_nil] at k
          exact k _ H F (Gr.refl dom) ⟨a,vs,rfl,hl,hr⟩
        · obtain⟨g,rr⟩:=laid_tup dom hp (RDs.append hr hr2)
          exact k _ _ _ g rr
    | _=>cases xs<;>cases hz
  | _=>cases e<;>cases hz
theorem opd_of {op:Operator}{o:BOp}(h:bopOf op=some o):OpD X (binaryOp op) (binD o):=by
  cases op<;>first|(cases h;first|exact opd_add|exact opd_sub|exact opd_mul|exact opd_fdiv|exact opd_mod|exact opd_pow|exact opd_shl|exact opd_shr|exact opd_band|exact opd_bor|exact opd_bxor)|cases h
theorem cmpd_of {op:CmpOp}{o:COp}(hu:X.A.units+20<cLine) (h:copOf op=some o):OpD X (compareOp op) (cmpD o):=by
  cases op with
  | Eq =>
    cases h
    refine⟨_,op_eqD hu,λH F d e x y z Q hz dom hx hy k=>?_⟩
    obtain⟨h1,rfl⟩:=ite_some (show (if (shal 20 d||shal 20 e)=true then some (false,D.bl (eqD d e)) else none)=some z from hz)
    exact⟨d,e,F,hx,hy,h1,k _ H F (Gr.refl dom) rfl⟩
  | NotEq =>
    cases h
    refine⟨_,op_neD hu,λH F d e x y z Q hz dom hx hy k=>?_⟩
    obtain⟨h1,rfl⟩:=ite_some (show (if (shal 20 d||shal 20 e)=true then some (false,D.bl (!eqD d e)) else none)=some z from hz)
    exact⟨d,e,F,hx,hy,h1,k _ H F (Gr.refl dom) rfl⟩
  | Lt=>cases h;exact opd_int0 (kk:=λi j=>.bl (decide (i<j))) op_lt (λd e z h=>by cases d<;>cases e<;>first|(cases h;exact⟨_,_,rfl,rfl,rfl⟩)|cases h) λ_ _ _ _=>rfl
  | LtE=>cases h;exact opd_int0 (kk:=λi j=>.bl (decide (i≤j))) op_le (λd e z h=>by cases d<;>cases e<;>first|(cases h;exact⟨_,_,rfl,rfl,rfl⟩)|cases h) λ_ _ _ _=>rfl
  | Gt=>cases h;exact opd_int0 (kk:=λi j=>.bl (decide (j<i))) op_gt (λd e z h=>by cases d<;>cases e<;>first|(cases h;exact⟨_,_,rfl,rfl,rfl⟩)|cases h) λ_ _ _ _=>rfl
  | GtE=>cases h;exact opd_int0 (kk:=λi j=>.bl (decide (j≤i))) op_ge (λd e z h=>by cases d<;>cases e<;>first|(cases h;exact⟨_,_,rfl,rfl,rfl⟩)|cases h) λ_ _ _ _=>rfl
  | In=>cases h;exact opd_in false
  | NotIn=>cases h;exact opd_in true
  | _=>cases h
theorem in_bl {n:Bool}{d e:D}{z:R}(h:inD n d e=some z):∃c,z=(false,.bl c):=by
  cases d with
  | int i =>
    cases e with
    | tup ys =>
      have h:(intsOf ys).map (λis=>(false,D.bl (if n then !(is.any (· == i)) else is.any (· == i))))=some z:=h
      cases hi:intsOf ys with
      | none=>rw [hi] at h;cases h
      | some is=>rw [hi] at h;cases h;exact⟨_,rfl⟩
    | _=>cases h
  | _=>cases e<;>cases h
theorem cmp_bl {o:COp}{d e:D}{z:R}(h:cmpD o d e=some z):∃c,z=(false,.bl c):=by
  cases o with
  | eq=>obtain⟨_,rfl⟩:=ite_some (show (if (shal 20 d||shal 20 e)=true then some (false,D.bl (eqD d e)) else none)=some z from h);exact⟨_,rfl⟩
  | ne=>obtain⟨_,rfl⟩:=ite_some (show (if (shal 20 d||shal 20 e)=true then some (false,D.bl (!eqD d e)) else none)=some z from h);exact⟨_,rfl⟩
  | isin=>exact in_bl h
  | notin=>exact in_bl h
  | _=>cases d<;>cases e<;>first|(cases h;exact⟨_,rfl⟩)|cases h
end
end Dw
namespace Dw
open PySem PySem.Spec PyProof.Rows L2
section
variable {call:Nat→List D→Option R}{G:Gx}{k:Nat}{X:Cx}{sc:Scope}{N:List Str}
theorem isd_of (neg:Bool):OpD X (compareOp (if neg then .IsNot else .Is)) (isD neg):=by
  refine⟨_,op_isD neg,λH F d e x y z Q hz dom hx hy k=>?_⟩
  obtain⟨b,rfl⟩:∃b,z=(false,.bl b):=by
    cases d<;>cases e<;>first|(cases hz;exact⟨_,rfl⟩)|cases hz
  exact⟨d,e,F,b,hx,hy,hz,k _ H F (Gr.refl dom) rfl⟩
theorem is_bl {neg:Bool}{d e:D}{z:R}(h:isD neg d e=some z):∃c,z=(false,.bl c):=by
  cases d<;>cases e<;>first|(cases h;exact⟨_,rfl⟩)|cases h
theorem snd_is {a:Expr}{ca:C}{op:CmpOp}(neg:Bool) {c:Const}{d:D}{j:Nat}{pos pos':Pos}(hop:op=if neg then .IsNot else .Is) (hc:kOf c=some d) (ha:SndP call X a ca) :
    SndE call X (.Compare a [op] [.Constant c j pos'] pos) (.isC neg ca d)∧SndT call X (.Compare a [op] [.Constant c j pos'] pos) (.isC neg ca d):=by
  subst hop
  obtain⟨r,hr,hq⟩:=isd_of (X:=X) neg
  obtain⟨ta,pa,qa⟩:=ha
  obtain⟨tb,pb,qb⟩:=(snd_const (call:=call) (X:=X) (j:=j) (pos:=pos') hc).look (λi z=>nomatch z)
  have hm:behindInMarks (if neg then CmpOp.IsNot else CmpOp.Is) (.Constant c j pos')=false:=by cases neg<;>exact nomark _
  constructor
  · refine⟨_,pe_cmpR hr pa pb hm,λGe H F σ τ z Q hz hs k=>?_⟩
    obtain⟨x,ex,ez⟩:=bind1 (by simpa only [evE_isC] using hz)
    refine read2 (call:=call) (cb:=.k d) (a:=a) (b:=a) (y:=d) qa qb ex rfl hs λv w H2 F2 g rx ry=>?_
    exact hq H2 F2 x d v w z Q ez g.dom rx ry λu H' F' g' rr=>k u H' F' (g.trans g') (rr.back g.same)
  · refine⟨_,pt_cmpR hr pa pb hm,λGe H F σ τ xx bb Q hz hs k=>?_⟩
    obtain⟨x,ex,ez⟩:=bind1 (by simpa only [evE_isC] using hz)
    refine read2 (call:=call) (cb:=.k d) (a:=a) (b:=a) (y:=d) qa qb ex rfl hs λv w H2 F2 g rx ry=>?_
    obtain⟨c,ec⟩:=is_bl ez
    cases ec
    exact hq H2 F2 x d v w _ _ ez g.dom rx ry λu H' F' g' rr=>⟨bb,rr,k H' F' (g.trans g')⟩
theorem snd_neg {a:Expr}{ca:C}{pos:Pos}(ha:SndP call X a ca):SndE call X (.UnaryOp .USub a pos) (.neg ca):=by
  obtain⟨ta,pa,qa⟩:=ha
  refine⟨_,pe_un un_neg pa,λGe H F σ τ z Q hz hs k=>?_⟩
  obtain⟨x,ex,ez⟩:=bind1 (by simpa only [evE_neg] using hz)
  refine qa Ge H F σ τ x _ ex hs λv H1 F1 g rx=>?_
  cases x with
  | int i=>cases ez;exact⟨i,rx.int,k _ H1 F1 g rfl⟩
  | _=>cases ez
theorem SndE.test {e:Expr}{c:C}(h:SndE call X e c) (he:∀whole,isTrue e X.env whole=(do let v ←whole;standAt e.pos;holding [v] (truthy v))):SndT call X e c:=by
  obtain⟨t,p,q⟩:=h
  refine⟨_,pt_val p he,λGe H F σ τ x b Q hz hs k=>?_⟩
  refine q Ge H F σ τ (x,.bl b) _ hz hs λv H' F' g rr=>?_
  cases x with
  | false=>exact⟨b,rr,k H' F' g⟩
  | true=>obtain⟨_,_,_,e,_⟩:=rr;cases e
theorem snd_not {a:Expr}{ca:C}{pos:Pos}(ha:SndE call X a ca) (ht:SndT call X a ca):SndE call X (.UnaryOp .Not a pos) (.not ca)∧SndT call X (.UnaryOp .Not a pos) (.not ca):=by
  have inv:∀{σ:En} {z:R},evE call σ (.not ca)=some z→∃x b,evE call σ ca=some (x,.bl b)∧z=(false,.bl (!b)):=λ{σ z} hz=>by
    obtain⟨⟨x,d⟩,e1,e2⟩:=bind1 (by simpa only [evE_not] using hz)
    cases d with
    | bl b=>cases e2;exact⟨x,b,e1,rfl⟩
    | _=>cases e2
  constructor
  · obtain⟨t,p,q⟩:=ha
    refine⟨_,pe_not p,λGe H F σ τ z Q hz hs k=>?_⟩
    obtain⟨x,b,e1,rfl⟩:=inv hz
    refine q Ge H F σ τ _ _ e1 hs λv H' F' g rr=>?_
    cases x with
    | false=>exact⟨b,rr,k _ H' F' g rfl⟩
    | true=>obtain⟨_,_,_,e,_⟩:=rr;cases e
  · obtain⟨t,p,q⟩:=ht
    refine⟨_,pt_not p,λGe H F σ τ x b Q hz hs k=>?_⟩
    obtain⟨x',b',e1,e2⟩:=inv hz
    cases e2
    exact q Ge H F σ τ x' b' _ e1 hs λH' F' g=>k H' F' g
variable (call X) in
noncomputable def SndW (op:BoolOp) (es:List Expr) (c:C):Prop:=∀pos:Pos,SndE call X (.BoolOp op es pos) c∧∃t:TT,PW X (.BoolOp op es pos) t ∧
  ∀(Ge H:Hp) (F:Fz) (σ:En) (τ:L2.St) (x b:Bool) (Q:Bool→Hp→Prop),evE call σ c=some (x,.bl b)→SR X.K Ge H F σ τ→(∀H' F',Gr H F H' F'→Q b H')→t τ H Q
theorem SndW.test {op:BoolOp}{es:List Expr}{c:C}{pos:Pos}(h:SndW call X op es c):SndT call X (.BoolOp op es pos) c:=by
  obtain⟨_,t,p,q⟩:=h pos
  exact⟨t,p.pt,q⟩
theorem snd_one {op:BoolOp}{a:Expr}{ca:C}(ha:SndE call X a ca) (ht:SndT call X a ca):SndW call X op [a] ca:=λpos=>by
  obtain⟨t,p,q⟩:=ha
  obtain⟨t',p',q'⟩:=ht
  refine⟨⟨t,pe_one p,q⟩,?_⟩
  cases op with
  | And=>exact⟨t',pw_and1 p',q'⟩
  | Or=>exact⟨t',pw_or1 p',q'⟩
theorem bl_of {K:PySem.W.Frag}{H H':Hp}{F':Fz}{x b:Bool}{v:V}(h:RR K H H' F' (x,.bl b) v):v=.bl b:=by
  cases x with
  | false=>exact h
  | true=>obtain⟨_,_,_,e,_⟩:=h;cases e
theorem snd_and {a b:Expr}{rest:List Expr}{ca cb:C}(ha:SndE call X a ca) (hta:SndT call X a ca) (hb:SndW call X .And (b::rest) cb):SndW call X .And (a::b::rest) (.and ca cb):=λpos=>by
  obtain⟨hb1,tb',pb',qb'⟩:=hb pos
  have inv:∀{σ:En} {z:R},evE call σ (.and ca cb)=some z→∃x c,evE call σ ca=some (x,.bl c)∧(if c=true then evE call σ cb=some z else z=(false,.bl false)):=λ{σ z} hz=>by
    obtain⟨⟨x,d⟩,e1,e2⟩:=bind1 (by simpa only [evE_and] using hz)
    cases d with
    | bl c=>cases c with
      | true=>exact⟨x,true,e1,e2⟩
      | false=>cases e2;exact⟨x,false,e1,rfl⟩
    | _=>cases e2
  constructor
  · obtain⟨ta,pa,qa⟩:=ha
    obtain⟨tb,pb,qb⟩:=hb1
    refine⟨_,pe_and pa pb,λGe H F σ τ z Q hz hs k=>?_⟩
    obtain⟨x,c,e1,e2⟩:=inv hz
    refine qa Ge H F σ τ _ _ e1 hs λv H' F' g rr=>⟨c,bl_of rr,?_⟩
    cases c with
    | true=>exact qb Ge H' F' σ τ z Q e2 (hs.grow g) λu H2 F2 g2 r2=>k u H2 F2 (g.trans g2) (r2.back g.same)
    | false=>have e2':z=(false,.bl false):=e2;subst e2';exact k _ H' F' g rfl
  · obtain⟨ta,pa,qa⟩:=hta
    refine⟨_,pw_and pa pb',λGe H F σ τ x b Q hz hs k=>?_⟩
    obtain⟨x',c,e1,e2⟩:=inv hz
    refine qa Ge H F σ τ x' c _ e1 hs λH' F' g=>?_
    cases c with
    | true=>exact qb' Ge H' F' σ τ x b Q e2 (hs.grow g) λH2 F2 g2=>k H2 F2 (g.trans g2)
    | false=>have e2':(x,D.bl b)=(false,.bl false):=e2;cases e2';exact k H' F' g
theorem snd_or {a b:Expr}{rest:List Expr}{ca cb:C}(ha:SndE call X a ca) (hta:SndT call X a ca) (hb:SndW call X .Or (b::rest) cb):SndW call X .Or (a::b::rest) (.or ca cb):=λpos=>by
  obtain⟨hb1,tb',pb',qb'⟩:=hb pos
  have inv:∀{σ:En} {z:R},evE call σ (.or ca cb)=some z→∃x c,evE call σ ca=some (x,.bl c)∧(if c=true then z=(false,.bl true) else evE call σ cb=some z):=λ{σ z} hz=>by
    obtain⟨⟨x,d⟩,e1,e2⟩:=bind1 (by simpa only [evE_or] using hz)
    cases d with
    | bl c=>cases c with
      | false=>exact⟨x,false,e1,e2⟩
      | true=>cases e2;exact⟨x,true,e1,rfl⟩
    | _=>cases e2
  constructor
  · obtain⟨ta,pa,qa⟩:=ha
    obtain⟨tb,pb,qb⟩:=hb1
    refine⟨_,pe_or pa pb,λGe H F σ τ z Q hz hs k=>?_⟩
    obtain⟨x,c,e1,e2⟩:=inv hz
    refine qa Ge H F σ τ _ _ e1 hs λv H' F' g rr=>⟨c,bl_of rr,?_⟩
    cases c with
    | false=>exact qb Ge H' F' σ τ z Q e2 (hs.grow g) λu H2 F2 g2 r2=>k u H2 F2 (g.trans g2) (r2.back g.same)
    | true=>have e2':z=(false,.bl true):=e2;subst e2';exact k _ H' F' g rfl
  · obtain⟨ta,pa,qa⟩:=hta
    refine⟨_,pw_or pa pb',λGe H F σ τ x b Q hz hs k=>?_⟩
    obtain⟨x',c,e1,e2⟩:=inv hz
    refine qa Ge H F σ τ x' c _ e1 hs λH' F' g=>?_
    cases c with
    | false=>exact qb' Ge H' F' σ τ x b Q e2 (hs.grow g) λH2 F2 g2=>k H2 F2 (g.trans g2)
    | true=>have e2':(x,D.bl b)=(false,.bl true):=e2;cases e2';exact k H' F' g
theorem ixN_eq (n:Nat) (i:Int):Dw.ixN n i=L2.ixN n i:=rfl
theorem ixD_get {K:PySem.W.Frag}{H:Hp}{F:Fz}{ds:List D}{vs:List V}{i:Int}{d:D}(h:RDs K H F ds vs) (e:ixD ds i=some d):∃v,atI vs i=some v∧RD K H F d v:=by
  obtain⟨j,e1,e2⟩:=bind1 e
  obtain⟨v,e3,e4⟩:=RDs.get h e2
  refine⟨v,?_,e4⟩
  unfold atI
  rw [RDs.length h,←ixN_eq,e1]
  exact e3
theorem snd_ix {a b:Expr}{ca cb:C}{pos:Pos}(hp:PlainIx b) (ha:SndP call X a ca) (hb:SndP call X b cb):SndE call X (.Subscript a b pos) (.ix ca cb):=by
  obtain⟨ta,pa,qa⟩:=ha
  obtain⟨tb,pb,qb⟩:=hb
  refine⟨_,pe_ix (ix_list.or ix_tup) pa pb hp,λGe H F σ τ z Q hz hs k=>?_⟩
  obtain⟨x,y,ex,ey,ez⟩:=bind2 (by simpa only [evE_ix] using hz)
  refine read2 (a:=a) (b:=b) qa qb ex ey hs λv w H2 F2 g rx ry=>?_
  cases x with
  | lst xs =>
    cases y with
    | int i =>
      obtain⟨d,e1,e2⟩:=Option.map_eq_some_iff.mp ez
      subst e2
      obtain⟨p,vs,rfl,hl,hr⟩:=rx.lst
      obtain⟨u,e3,e4⟩:=ixD_get hr e1
      exact .inl ⟨p,vs,i,u,rfl,ry.int,hl,e3,k u H2 F2 g e4⟩
    | _=>cases ez
  | tup xs =>
    cases y with
    | int i =>
      obtain⟨d,e1,e2⟩:=Option.map_eq_some_iff.mp ez
      subst e2
      obtain⟨p,vs,rfl,hl,hr⟩:=rx.tup
      obtain⟨u,e3,e4⟩:=ixD_get hr e1
      exact .inr ⟨p,vs,i,u,rfl,ry.int,hl,e3,k u H2 F2 g e4⟩
    | _=>cases ez
  | _=>cases y<;>cases ez
theorem cutAt_eq (n d:Nat) (o:Option Int):Dw.cutAt n d o=HT.sIx n d o:=by
  cases o with
  | none=>rfl
  | some v =>
    have h:=HT.clip_eq v n d
    unfold Dw.cutAt
    by_cases hv:v<0
    · simp only [hv,if_true] at h ⊢;omega
    · simp only [hv,if_false] at h ⊢;omega
theorem cut_rel {K:PySem.W.Frag}{H:Hp}{F:Fz}{ds:List D}{vs:List V}(h:RDs K H F ds vs) (l u:Option Int):RDs K H F (cutD ds l u) (cutV vs l u):=by
  unfold cutD cutV
  rw [RDs.length h,cutAt_eq,cutAt_eq]
  exact RDs.take _ (RDs.drop _ h)
theorem snd_sl {a:Expr}{lo hi:Option Expr}{ca:C}{cl ch:Option C}{p2 pos:Pos}(ha:SndP call X a ca) (hl:SndO call X lo cl) (hh:SndO call X hi ch):SndE call X (.Subscript a (.Slice lo hi none p2) pos) (.sl ca cl ch):=by
  obtain⟨ta,pa,qa⟩:=ha
  obtain⟨tl,pl,ql⟩:=hl
  obtain⟨th,ph,qh⟩:=hh
  refine⟨_,pe_slice ((sl_list.or sl_tup).or sl_all) pa pl ph,λGe H F σ τ z Q hz hs k=>?_⟩
  obtain⟨x,ex,hz⟩:=bind1 (by simpa only [evE_sl] using hz)
  obtain⟨l,el,hz⟩:=bind1 hz
  obtain⟨u,eu,hz⟩:=bind1 hz
  refine qa Ge H F σ τ x _ ex hs λv H1 F1 g1 rx=>?_
  refine ql Ge H1 F1 σ τ l _ el (hs.grow g1) λH2 F2 g2=>?_
  refine qh Ge H2 F2 σ τ u _ eu ((hs.grow g1).grow g2) λH3 F3 g3=>?_
  have g:=(g1.trans g2).trans g3
  have rx3:=(rx.grow g2).grow g3
  cases x with
  | lst xs =>
    cases hz
    obtain⟨p,vs,rfl,hl',hr⟩:=rx3.lst
    refine .inl (.inl ⟨p,vs,rfl,hl',λq hq=>?_⟩)
    obtain⟨g4,rr⟩:=laid_lst g.dom hq (cut_rel hr l u)
    exact k _ _ _ (g.trans g4) (rr.back g.same)
  | tup xs =>
    cases hz
    obtain⟨p,vs,rfl,hl',hr⟩:=rx3.tup
    by_cases hw:Dw.cutAt xs.length 0 l=0∧Dw.cutAt xs.length xs.length u=xs.length
    · refine .inr ⟨p,vs,rfl,hl',?_,?_⟩
      · rw [RDs.length hr,←cutAt_eq,←cutAt_eq];exact hw
      · have e:cutD xs l u=xs:=by
          unfold cutD
          rw [hw.1,hw.2]
          simp
        have e':(false,D.tup (cutD xs l u))=(false,D.tup xs):=by rw [e]
        refine k _ H3 F3 g ?_
        rw [e]
        exact⟨p,vs,rfl,hl',hr⟩
    · refine .inl (.inr ⟨p,vs,rfl,hl',?_,λq hq=>?_⟩)
      · rw [RDs.length hr,←cutAt_eq,←cutAt_eq];exact hw
      · obtain⟨g4,rr⟩:=laid_tup g.dom hq (cut_rel hr l u)
        exact k _ _ _ (g.trans g4) (rr.back g.same)
  | _=>cases hz
theorem RDs.rev {K:PySem.W.Frag}{H:Hp}{F:Fz}:∀{ds:List D}{vs:List V},RDs K H F ds vs→RDs K H F ds.reverse vs.reverse
  | [],vs,h=>by have h:vs=[]:=h;subst h;rfl
  | d::ds,vs,h=>by
    obtain⟨v,r,rfl,h1,h2⟩:=h
    rw [List.reverse_cons,List.reverse_cons]
    exact RDs.append (RDs.rev h2) ⟨v,[],rfl,h1,rfl⟩
theorem RDs.strs {K:PySem.W.Frag}{H:Hp}{F:Fz}:∀{ds:List D}{vs:List V}{ts:List Str},RDs K H F ds vs→strsOf ds=some ts→vs=ts.map V.str
  | [],vs,ts,h,e=>by have h:vs=[]:=h;cases e;exact h
  | d::ds,vs,ts,h,e=>by
    obtain⟨v,r,rfl,h1,h2⟩:=h
    cases d with
    | str x =>
      obtain⟨ts',e1,e2⟩:=Option.map_eq_some_iff.mp e
      subst e2
      have h1:v=.str x:=h1
      rw [h1,RDs.strs h2 e1];rfl
    | _=>cases e
noncomputable def SndJ (call:Nat→List D→Option R) (X:Cx) (es:List Expr) (cs:List C):Prop:=∃t:TJ,PJ X es t∧∀(Ge H:Hp) (F:Fz) (σ:En) (τ:L2.St) (acc out:Str) (ds:List D) (ts:List Str) (Q:Str→Hp→Prop),evA call σ cs=some ds→strsOf ds=some ts→catS acc ts=some out→SR X.K Ge H F σ τ→(∀H' F',Gr H F H' F'→Q out H')→t acc τ H Q
theorem snd_jnil:SndJ call X [] []:=⟨_,pj_nil,λGe H F σ τ acc out ds ts Q h1 h2 h3 hs k=>by
  cases h1
  cases h2
  cases h3
  exact k H F (Gr.refl hs.dom)⟩
theorem snd_jcons {e:Expr}{es:List Expr}{c:C}{cs:List C}(h:SndE call X e c) (hr:SndJ call X es cs):SndJ call X (e::es) (c::cs):=by
  obtain⟨t,p,q⟩:=h
  obtain⟨t',p',q'⟩:=hr
  refine⟨_,pj_cons p p',λGe H F σ τ acc out ds ts Q h1 h2 h3 hs k=>?_⟩
  obtain⟨r,er,h1⟩:=bind1 (by simpa only [evA_cons] using h1)
  obtain⟨ds',ed,h1⟩:=bind1 h1
  cases h1
  obtain⟨b,d⟩:=r
  cases d with
  | str x =>
    obtain⟨ts',e1,e2⟩:=Option.map_eq_some_iff.mp h2
    subst e2
    obtain⟨h4,h5⟩:=ite_some' (show (if (acc++x).length≤lim then catS (acc++x) ts' else none)=some out from h3)
    refine q Ge H F σ τ _ _ er hs λv H1 F1 g rr=>?_
    have hv:v=.str x:=by
      cases b with
      | false=>exact rr
      | true=>obtain⟨_,_,_,e,_⟩:=rr;cases e
    exact⟨x,hv,h4,q' Ge H1 F1 σ τ _ out ds' ts' _ ed e1 h5 (hs.grow g) λH' F' g2=>k H' F' (g.trans g2)⟩
  | _=>cases h2
where
  ite_some' {α:Type} {p:Prop} [Decidable p] {a:Option α} {z:α} (h:(if p then a else none)=some z):p∧a=some z:=by
    by_cases hp:p
    · rw [if_pos hp] at h;exact⟨hp,h⟩
    · rw [if_neg hp] at h;cases h
theorem snd_fv {e:Expr}{c:C}{pos:Pos}(h:SndP call X e c):SndE call X (.FormattedValue e (-1) none pos) (.bi .str [c]):=by
  obtain⟨t,p,q⟩:=h
  refine⟨_,pe_fv p,λGe H F σ τ z Q hz hs k=>?_⟩
  obtain⟨ds,e1,hz⟩:=bind1 (by simpa only [evE_bi] using hz)
  obtain⟨d,e2,e3⟩:=bind1 (by simpa only [evAP_cons] using e1)
  obtain⟨r,e4,e5⟩:=bind1 e3
  cases e4
  cases e5
  refine q Ge H F σ τ d _ e2 hs λv H1 F1 g rx=>?_
  cases d with
  | int i =>
    obtain⟨h1,rfl⟩:=ite_some (show (if i.natAbs<2^240 then some (false,D.str (istr i)) else none)=some z from hz)
    exact⟨i,rx.int,small_log h1,k _ H1 F1 g rfl⟩
  | _=>cases hz
where
  small_log {n:Nat} (h:n<2^240):n.log2<1920:=by
    by_cases h0:n=0
    · subst h0;decide
    · have:=(Nat.log2_lt h0).mpr h;omega
theorem snd_onone:SndO call X none none:=⟨_,po_none,λGe H F σ τ o Q ho hs k=>by cases ho;exact k H F (Gr.refl hs.dom)⟩
theorem snd_osome {e:Expr}{c:C}(h:SndP call X e c):SndO call X (some e) (some c):=by
  obtain⟨t,p,q⟩:=h
  refine⟨_,po_some p,λGe H F σ τ o Q ho hs k=>?_⟩
  obtain⟨x,ex,ez⟩:=bind1 (by simpa only [evO_some] using ho)
  refine q Ge H F σ τ x _ ex hs λv H1 F1 g rx=>?_
  cases x with
  | int i=>cases ez;exact⟨i,rx.int,k H1 F1 g⟩
  | _=>cases ez
theorem snd_anil:SndA call X [] []:=⟨_,pa_nil,λGe H F σ τ ds Q h hs k=>by cases h;exact k [] H F (Gr.refl hs.dom) rfl⟩
theorem snd_acons {e:Expr}{es:List Expr}{c:C}{cs:List C}(hst:starEach (e::es) X.env=(false,eval e X.env)::starEach es X.env) (h:SndE call X e c) (hr:SndA call X es cs):SndA call X (e::es) (c::cs):=by
  obtain⟨t,p,q⟩:=h
  obtain⟨t',p',q'⟩:=hr
  refine⟨_,pa_cons p p' hst,λGe H F σ τ ds Q hd hs k=>?_⟩
  obtain⟨r,er,hd⟩:=bind1 (by simpa only [evA_cons] using hd)
  obtain⟨ds',ed,hd⟩:=bind1 hd
  cases hd
  refine q Ge H F σ τ r _ er hs λv H1 F1 g rr=>?_
  obtain⟨F2,g2,rd⟩:=rr.fz g
  refine q' Ge H1 F2 σ τ ds' _ ed (hs.grow g2) λvs H3 F3 g3 rs=>?_
  exact k (v::vs) H3 F3 (g2.trans g3) ⟨v,vs,rfl,RD.mono g3.keep rd,rs⟩
theorem snd_ganil:SndGA call X [] []:=⟨_,pa_nil,λGe H F σ τ ds Q h hs k=>by cases h;exact k [] H F (Gr.refl hs.dom) rfl⟩
theorem RGs.grow {K:PySem.W.Frag}{H H1:Hp}{F F1:Fz}(g:Gr H F H1 F1):∀{ds:List D}{vs:List V},RGs K H F ds vs→RGs K H1 F1 ds vs
  | [],_,h=>h
  | _::_,_,⟨v,r,e,h1,h2⟩=>⟨v,r,e,h1.grow g,RGs.grow g h2⟩
theorem snd_gacons {e:Expr}{es:List Expr}{c:C}{cs:List C}(hst:starEach (e::es) X.env=(false,eval e X.env)::starEach es X.env) (h:SndAg call X e c) (hr:SndGA call X es cs):SndGA call X (e::es) (c::cs):=by
  obtain⟨t,p,q⟩:=h
  obtain⟨t',p',q'⟩:=hr
  refine⟨_,pa_cons p p' hst,λGe H F σ τ ds Q hd hs k=>?_⟩
  obtain⟨r,er,hd⟩:=bind1 (by simpa only [evG_cons] using hd)
  obtain⟨ds',ed,hd⟩:=bind1 hd
  cases hd
  refine q Ge H F σ τ r _ er hs λv H1 F1 g rr=>?_
  refine q' Ge H1 F1 σ τ ds' _ ed (hs.grow g) λvs H3 F3 g3 rs=>?_
  exact k (v::vs) H3 F3 (g.trans g3) ⟨v,vs,rfl,rr.grow g3,rs⟩
theorem snd_apnil:SndAP call X [] []:=⟨_,pa_nil,λGe H F σ τ ds Q h hs k=>by cases h;exact k [] H F (Gr.refl hs.dom) rfl⟩
theorem snd_apcons {e:Expr}{es:List Expr}{c:C}{cs:List C}(hst:starEach (e::es) X.env=(false,eval e X.env)::starEach es X.env) (h:SndP call X e c) (hr:SndAP call X es cs):SndAP call X (e::es) (c::cs):=by
  obtain⟨t,p,q⟩:=h
  obtain⟨t',p',q'⟩:=hr
  refine⟨_,pa_cons p p' hst,λGe H F σ τ ds Q hd hs k=>?_⟩
  obtain⟨r,er,hd⟩:=bind1 (by simpa only [evAP_cons] using hd)
  obtain⟨ds',ed,hd⟩:=bind1 hd
  cases hd
  refine q Ge H F σ τ r _ er hs λv H1 F1 g rr=>?_
  refine q' Ge H1 F1 σ τ ds' _ ed (hs.grow g) λvs H3 F3 g3 rs=>?_
  exact k (v::vs) H3 F3 (g.trans g3) ⟨v,vs,rfl,rr.grow g3,rs⟩
theorem snd_tup {es:List Expr}{cs:List C}{x1:Nat}{pos:Pos}(h:SndA call X es cs):SndE call X (.Tuple es x1 pos) (.tup cs):=by
  obtain⟨t,p,q⟩:=h
  refine⟨_,pe_tup p,λGe H F σ τ z Q hz hs k=>?_⟩
  obtain⟨ds,ed,hz⟩:=bind1 (by simpa only [evE_tup] using hz)
  obtain⟨h1,rfl⟩:=ite_some hz
  refine q Ge H F σ τ ds _ ed hs λvs H1 F1 g rs=>⟨by rw [RDs.length rs];exact h1,λp hp=>?_⟩
  obtain⟨g4,rr⟩:=laid_tup g.dom hp rs
  exact k _ _ _ (g.trans g4) (rr.back g.same)
theorem snd_lst {es:List Expr}{cs:List C}{pos:Pos}(h:SndA call X es cs):SndE call X (.List es pos) (.lst cs):=by
  obtain⟨t,p,q⟩:=h
  refine⟨_,pe_lst p,λGe H F σ τ z Q hz hs k=>?_⟩
  obtain⟨ds,ed,hz⟩:=bind1 (by simpa only [evE_lst] using hz)
  obtain⟨h1,rfl⟩:=ite_some hz
  refine q Ge H F σ τ ds _ ed hs λvs H1 F1 g rs=>⟨by rw [RDs.length rs];exact h1,λp hp=>?_⟩
  obtain⟨g4,rr⟩:=laid_lst g.dom hp rs
  exact k _ _ _ (g.trans g4) (rr.back g.same)
noncomputable def noStar:Expr→Bool
  | .Starred _ _=>false
  | _=>true
theorem star_cons {e:Expr}{es:List Expr}{env:Env}(h:noStar e=true):starEach (e::es) env=(false,eval e env)::starEach es env:=by
  cases e<;>first|rfl|cases h
theorem star_any:∀{es:List Expr}{env:Env}{pos:Pos},es.all noStar=true→(backTo pos (starEach es env)).any (·.1)=false
  | [],env,pos,_=>rfl
  | e::es,env,pos,h=>by
    rw [List.all_cons,Bool.and_eq_true] at h
    rw [star_cons h.1]
    have:=star_any (env:=env) (pos:=pos) h.2
    simpa [backTo] using this
theorem snd_call (g:XG call G k X sc N) {f:Str}{i:Nat}{es:List Expr}{cs:List C}{p pos:Pos}(hf:G.defs.lookup f=some i) (hg:glB sc f=true) (hd:(f == ("__debug__":Str))=false) (hn:es.all noStar=true) (hne:es≠[]) (h:SndGA call X es cs) :
    SndE call X (.Call (.Name f p) es [] pos) (.call i cs):=by
  obtain⟨a,fd,ps,hm,hk,hb,hF,hl⟩:=(g.defs f i hf).ex
  obtain⟨t,pt,q⟩:=h
  cases es with
  | nil=>exact absurd rfl hne
  | cons e es =>
    rw [List.all_cons,Bool.and_eq_true] at hn
    refine⟨_,pe_call hF g.room (g.gl f hg) hm hk hb .nil pass0 pt hd (star_cons hn.1) (star_any hn.2),λGe H F σ τ z Q hz hs k=>?_⟩
    obtain⟨ds,ed,hz⟩:=bind1 (by simpa only [evE_call] using hz)
    refine q Ge H F σ τ ds _ ed hs λvs H1 F1 g1 rs=>?_
    rw [List.append_nil]
    exact⟨by rw [RGs.length rs];exact hl ds z hz,(hs.grow g1).tbH,F1,ds,z,g1.dom,rs,hz,λv H' F' g2 rr=>k v H' F' (g1.trans g2) (rr.back g1.same)⟩
variable (call X) in
noncomputable def SndK (kws:List Keyword) (cs:List C):Prop:=∃t:TA,PK X kws t∧∀(Ge H:Hp) (F:Fz) (σ:En) (τ:L2.St) (ds:List D) (Q:List V→Hp→Prop),evA call σ cs=some ds→SR X.K Ge H F σ τ→(∀vs H' F',Gr H F H' F'→RDs X.K H' F' ds vs→Q vs H')→t τ H Q
theorem snd_knil:SndK call X [] []:=⟨_,pk_nil,λGe H F σ τ ds Q h hs k=>by cases h;exact k [] H F (Gr.refl hs.dom) rfl⟩
theorem snd_kcons {kw:Keyword}{kws:List Keyword}{c:C}{cs:List C}(h:SndE call X kw.value c) (hr:SndK call X kws cs):SndK call X (kw::kws) (c::cs):=by
  obtain⟨nm,e,kp⟩:=kw
  obtain⟨t,p,q⟩:=h
  obtain⟨t',p',q'⟩:=hr
  refine⟨_,pk_cons p p',λGe H F σ τ ds Q hd hs k=>?_⟩
  obtain⟨r,er,hd⟩:=bind1 (by simpa only [evA_cons] using hd)
  obtain⟨ds',ed,hd⟩:=bind1 hd
  cases hd
  refine q Ge H F σ τ r _ er hs λv H1 F1 g rr=>?_
  obtain⟨F2,g2,rd⟩:=rr.fz g
  refine q' Ge H1 F2 σ τ ds' _ ed (hs.grow g2) λvs H3 F3 g3 rs=>?_
  exact k (v::vs) H3 F3 (g2.trans g3) ⟨v,vs,rfl,RD.mono g3.keep rd,rs⟩
theorem snd_bi {x:Str}{id:String}{b:BI}{es:List Expr}{cs:List C}{p pos:Pos}{r:List V→Hp→VK→Prop}(hc:CallR X (.builtin id) r) (hg:Gl X x) (hm:X.mg x=none) (hv:bootBuiltins x=some (.builtin id)) (hnm:x≠"__name__") (hdb:(x == ("__debug__":Str))=false)
    (hn:es.all noStar=true) (hne:es≠[]) (h:SndAP call X es cs)
    (hr:∀(H:Hp) (F:Fz) (ds:List D) (vs:List V) (z:R) (Q:VK),biD b ds=some z→(∀a,H a=none→¬F a)→RPs X.K H F ds vs→(∀v H' F',Gr H F H' F'→RR X.K H H' F' z v→Q v H')→r vs H Q) :
    SndE call X (.Call (.Name x p) es [] pos) (.bi b cs):=by
  obtain⟨t,pt,q⟩:=h
  cases es with
  | nil=>exact absurd rfl hne
  | cons e es =>
    rw [List.all_cons,Bool.and_eq_true] at hn
    refine⟨_,pe_callB hc hg hm hv pt hnm hdb (star_cons hn.1) (star_any hn.2),λGe H F σ τ z Q hz hs k=>?_⟩
    obtain⟨ds,ed,hz⟩:=bind1 (by simpa only [evE_bi] using hz)
    refine q Ge H F σ τ ds _ ed hs λvs H1 F1 g1 rs=>?_
    exact hr H1 F1 ds vs z Q hz g1.dom rs λv H' F' g2 rr=>k v H' F' (g1.trans g2) (rr.back g1.same)
theorem snd_bity {x:Str}{id:String}{b:BI}{es:List Expr}{cs:List C}{p pos:Pos}{r:List V→Hp→VK→Prop}(hc:CallR X (.type id) r) (hg:Gl X x) (hm:X.mg x=none) (hv:bootBuiltins x=some (.type id)) (hnm:x≠"__name__") (hdb:(x == ("__debug__":Str))=false)
    (hn:es.all noStar=true) (hne:es≠[]) (h:SndAP call X es cs)
    (hr:∀(H:Hp) (F:Fz) (ds:List D) (vs:List V) (z:R) (Q:VK),biD b ds=some z→(∀a,H a=none→¬F a)→RPs X.K H F ds vs→(∀v H' F',Gr H F H' F'→RR X.K H H' F' z v→Q v H')→r vs H Q) :
    SndE call X (.Call (.Name x p) es [] pos) (.bi b cs):=by
  obtain⟨t,pt,q⟩:=h
  cases es with
  | nil=>exact absurd rfl hne
  | cons e es =>
    rw [List.all_cons,Bool.and_eq_true] at hn
    refine⟨_,pe_callTy hc hg hm hv pt hnm hdb (star_cons hn.1) (star_any hn.2),λGe H F σ τ z Q hz hs k=>?_⟩
    obtain⟨ds,ed,hz⟩:=bind1 (by simpa only [evE_bi] using hz)
    refine q Ge H F σ τ ds _ ed hs λvs H1 F1 g1 rs=>?_
    exact hr H1 F1 ds vs z Q hz g1.dom rs λv H' F' g2 rr=>k v H' F' (g1.trans g2) (rr.back g1.same)
end
end Dw
namespace Dw
open PySem PySem.Spec PyProof.Rows L2
section
variable {call:Nat→List D→Option R}{G:Gx}{k:Nat}{X:Cx}{sc:Scope}{N:List Str}
theorem RPs.one {K:PySem.W.Frag}{H:Hp}{F:Fz}{d:D}{vs:List V}(h:RPs K H F [d] vs):∃v,vs=[v]∧RP K H F d v:=by
  obtain⟨v,r,e,h1,h2⟩:=h
  cases h2
  exact⟨v,e,h1⟩
theorem RPs.two {K:PySem.W.Frag}{H:Hp}{F:Fz}{d e:D}{vs:List V}(h:RPs K H F [d,e] vs):∃v w,vs=[v,w]∧RP K H F d v∧RP K H F e w:=by
  obtain⟨v,r,e1,h1,h2⟩:=h
  obtain⟨w,e2,h3⟩:=RPs.one h2
  exact⟨v,w,by rw [e1,e2],h1,h3⟩
theorem RPs.three {K:PySem.W.Frag}{H:Hp}{F:Fz}{d e f:D}{vs:List V}(h:RPs K H F [d,e,f] vs):∃v w u,vs=[v,w,u]∧RP K H F d v∧RP K H F e w∧RP K H F f u:=by
  obtain⟨v,r,e1,h1,h2⟩:=h
  obtain⟨w,u,e2,h3,h4⟩:=RPs.two h2
  exact⟨v,w,u,by rw [e1,e2],h1,h3,h4⟩
variable (X) in
noncomputable def BiR (b:BI) (r:List V→Hp→VK→Prop):Prop:=∀(H:Hp) (F:Fz) (ds:List D) (vs:List V) (z:R) (Q:VK),biD b ds=some z→(∀a,H a=none→¬F a)→RPs X.K H F ds vs→(∀v H' F',Gr H F H' F'→RR X.K H H' F' z v→Q v H')→r vs H Q
theorem bi_len:BiR X .len (λxs H Q=>∃p ys,xs=[.ref p]∧(SqL X.K H p ys∨SqT X.K H p ys)∧Q (.int ys.length) H):=by
  intro H F ds vs z Q hz dom hs kk
  match ds,hz,hs with
  | [.tup xs],hz,hs =>
    cases hz
    obtain⟨v,rfl,hv⟩:=RPs.one hs
    obtain⟨p,ws,rfl,h1,h2⟩:=hv.tup
    exact⟨p,ws,rfl,.inr h1,by rw [RDs.length h2];exact kk _ H F (Gr.refl dom) rfl⟩
  | [.lst xs],hz,hs =>
    cases hz
    obtain⟨v,rfl,hv⟩:=RPs.one hs
    obtain⟨p,ws,rfl,h1,h2⟩:=hv.lst
    exact⟨p,ws,rfl,.inl h1,by rw [RDs.length h2];exact kk _ H F (Gr.refl dom) rfl⟩
theorem bi_min:BiR X .min (λxs H Q=>(∃i j,xs=[.int i,.int j]∧Q (.int (if j<i then j else i)) H)∨∃(p:Addr) (is:List Int) (m:Int),xs=[.ref p]∧SqL X.K H p (is.map V.int)∧mnL is=some m∧Q (.int m) H):=by
  intro H F ds vs z Q hz dom hs kk
  match ds,hz,hs with
  | [.int i,.int j],hz,hs =>
    cases hz
    obtain⟨v,w,rfl,hv,hw⟩:=RPs.two hs
    exact .inl ⟨i,j,by rw [hv.int,hw.int],kk _ H F (Gr.refl dom) rfl⟩
  | [.lst xs],hz,hs =>
    have hz:minD xs=some z:=hz
    unfold minD at hz
    split at hz
    · rename_i is e1
      obtain⟨m,e3,e4⟩:=Option.map_eq_some_iff.mp hz
      subst e4
      obtain⟨v,rfl,hv⟩:=RPs.one hs
      obtain⟨p,ws,rfl,h1,h2⟩:=hv.lst
      rw [RDs.ints h2 e1] at h1
      exact .inr ⟨p,is,m,rfl,h1,e3,kk _ H F (Gr.refl dom) rfl⟩
    · cases hz
theorem bi_max:BiR X .max (λxs H Q=>((∃i j,xs=[.int i,.int j]∧Q (.int (if j > i then j else i)) H)∨∃i j k,xs=[.int i,.int j,.int k]∧Q (.int (if k > (if j > i then j else i) then k else (if j > i then j else i))) H)∨∃(p:Addr) (is:List Int) (m:Int),xs=[.ref p]∧SqL X.K H p (is.map V.int)∧mxL is=some m∧Q (.int m) H):=by
  intro H F ds vs z Q hz dom hs kk
  match ds,hz,hs with
  | [.int i,.int j],hz,hs =>
    cases hz
    obtain⟨v,w,rfl,hv,hw⟩:=RPs.two hs
    exact .inl (.inl ⟨i,j,by rw [hv.int,hw.int],kk _ H F (Gr.refl dom) rfl⟩)
  | [.int i,.int j,.int l],hz,hs =>
    cases hz
    obtain⟨v,w,u,rfl,hv,hw,hu⟩:=RPs.three hs
    exact .inl (.inr ⟨i,j,l,by rw [hv.int,hw.int,hu.int],kk _ H F (Gr.refl dom) rfl⟩)
  | [.lst xs],hz,hs =>
    obtain⟨is,e1,e2⟩:=bind1 hz
    obtain⟨m,e3,e4⟩:=Option.map_eq_some_iff.mp e2
    subst e4
    obtain⟨v,rfl,hv⟩:=RPs.one hs
    obtain⟨p,ws,rfl,h1,h2⟩:=hv.lst
    rw [RDs.ints h2 e1] at h1
    exact .inr ⟨p,is,m,rfl,h1,e3,kk _ H F (Gr.refl dom) rfl⟩
theorem bi_sum:BiR X .sum (λxs H Q=>∃(p:Addr) (is:List Int),xs=[.ref p]∧SqL X.K H p (is.map V.int)∧Q (.int is.sum) H):=by
  intro H F ds vs z Q hz dom hs kk
  match ds,hz,hs with
  | [.lst xs],hz,hs =>
    obtain⟨is,e1,e2⟩:=Option.map_eq_some_iff.mp hz
    subst e2
    obtain⟨v,rfl,hv⟩:=RPs.one hs
    obtain⟨p,ws,rfl,h1,h2⟩:=hv.lst
    rw [RDs.ints h2 e1] at h1
    exact⟨p,is,rfl,h1,kk _ H F (Gr.refl dom) rfl⟩
theorem bi_tuple:BiR X .tuple (λxs H Q=>∃p ys,xs=[.ref p]∧((SqL X.K H p ys∧∀l,H l=none→Q (.ref l) (upd H l (.tup ys)))∨(SqT X.K H p ys∧Q (.ref p) H))):=by
  intro H F ds vs z Q hz dom hs kk
  match ds,hz,hs with
  | [.lst xs],hz,hs =>
    cases hz
    obtain⟨v,rfl,hv⟩:=RPs.one hs
    obtain⟨p,ws,rfl,h1,h2⟩:=hv.lst
    refine⟨p,ws,rfl,.inl ⟨h1,λl hl=>?_⟩⟩
    obtain⟨g,rr⟩:=laid_tup dom hl h2
    exact kk _ _ _ g rr
  | [.tup xs],hz,hs =>
    cases hz
    obtain⟨v,rfl,hv⟩:=RPs.one hs
    obtain⟨p,ws,rfl,h1,h2⟩:=hv.tup
    exact⟨p,ws,rfl,.inr ⟨h1,kk _ H F (Gr.refl dom) ⟨p,ws,rfl,h1,h2⟩⟩⟩
theorem bi_list:BiR X .list (λxs H Q=>∃p ys,xs=[.ref p]∧(SqL X.K H p ys∨SqT X.K H p ys)∧∀l,H l=none→Q (.ref l) (upd H l (.lst ys))):=by
  intro H F ds vs z Q hz dom hs kk
  match ds,hz,hs with
  | [.lst xs],hz,hs =>
    cases hz
    obtain⟨v,rfl,hv⟩:=RPs.one hs
    obtain⟨p,ws,rfl,h1,h2⟩:=hv.lst
    refine⟨p,ws,rfl,.inl h1,λl hl=>?_⟩
    obtain⟨g,rr⟩:=laid_lst dom hl h2
    exact kk _ _ _ g rr
  | [.tup xs],hz,hs =>
    cases hz
    obtain⟨v,rfl,hv⟩:=RPs.one hs
    obtain⟨p,ws,rfl,h1,h2⟩:=hv.tup
    refine⟨p,ws,rfl,.inr h1,λl hl=>?_⟩
    obtain⟨g,rr⟩:=laid_lst dom hl h2
    exact kk _ _ _ g rr
theorem bt_len:bootBuiltins (Str.ofString "len")=some (.builtin "len"):=by decide +kernel
theorem bt_min:bootBuiltins (Str.ofString "min")=some (.builtin "min"):=by decide +kernel
theorem bt_max:bootBuiltins (Str.ofString "max")=some (.builtin "max"):=by decide +kernel
theorem bt_sum:bootBuiltins (Str.ofString "sum")=some (.builtin "sum"):=by decide +kernel
theorem bt_isi:bootBuiltins (Str.ofString "isinstance")=some (.builtin "isinstance"):=by decide +kernel
theorem bt_tuple:bootBuiltins (Str.ofString "tuple")=some (.type "tuple"):=by decide +kernel
theorem bt_list:bootBuiltins (Str.ofString "list")=some (.type "list"):=by decide +kernel
theorem bt_int:bootBuiltins (Str.ofString "int")=some (.type "int"):=by decide +kernel
theorem bt_bool:bootBuiltins (Str.ofString "bool")=some (.type "bool"):=by decide +kernel
theorem bt_str:bootBuiltins (Str.ofString "str")=some (.type "str"):=by decide +kernel
theorem plain_of {x:Str}(h:plainName x=true):x≠"__name__"∧(x == ("__debug__":Str))=false:=by
  unfold plainName at h
  simp only [Bool.and_eq_true,bne_iff_ne,ne_eq] at h
  exact⟨h.2,beq_eq_false_iff_ne.mpr h.1.1⟩
theorem mem_blt {x:Str}{s:String}(h:x=Str.ofString s) (hs:s∈["len","abs","min","max","sum","all","tuple","list","int","bool","str","isinstance","range","zip","reversed","sorted","enumerate","any"]):x∈bltNames:=by
  subst h
  exact List.mem_map.mpr ⟨s,hs,rfl⟩
theorem snd_bi_of (g:XG call G k X sc N) {x:Str}{b:BI}{es:List Expr}{cs:List C}{p pos:Pos}(hb:biOf x es.length=some b) (hd:G.defs.lookup x=none) (hg:glB sc x=true) (hp:plainName x=true) (hn:es.all noStar=true) (h:SndAP call X es cs) :
    SndE call X (.Call (.Name x p) es [] pos) (.bi b cs):=by
  obtain⟨h1,h2⟩:=plain_of hp
  have gx:=g.gl x hg
  have bl:∀s:String,x=Str.ofString s→s∈["len","abs","min","max","sum","all","tuple","list","int","bool","str","isinstance","range","zip","reversed","sorted","enumerate","any"]→X.mg x=none:=λs e hs=>g.blt x hd (mem_blt e hs)
  have ne:∀{n:Nat},es.length=n+1→es≠[]:=λe z=>by rw [z] at e;cases e
  unfold biOf at hb
  split at hb
  · rename_i e
    split at hb
    · rename_i hl
      cases hb
      exact snd_bi call_len_seq gx (bl _ e (by decide)) (by rw [e];exact bt_len) h1 h2 hn (ne hl) h bi_len
    · cases hb
  split at hb
  · rename_i e
    split at hb
    · rename_i hl
      cases hb
      exact snd_bi ((call_min2 g.calm).or (call_min1 g.calm)) gx (bl _ e (by decide)) (by rw [e];exact bt_min) h1 h2 hn (hl.elim (λz=>ne z) (λz=>ne z)) h bi_min
    · cases hb
  split at hb
  · rename_i e
    split at hb
    · rename_i hl
      cases hb
      exact snd_bi (((call_max2 g.calm).or (call_max3 g.calm)).or (call_max1 g.calm)) gx (bl _ e (by decide)) (by rw [e];exact bt_max) h1 h2 hn (hl.elim (λz=>ne z) (λz=>z.elim (λz=>ne z) (λz=>ne z))) h bi_max
    · cases hb
  split at hb
  · rename_i e
    split at hb
    · rename_i hl
      cases hb
      exact snd_bi (call_sumD g.calm) gx (bl _ e (by decide)) (by rw [e];exact bt_sum) h1 h2 hn (ne hl) h bi_sum
    · cases hb
  split at hb
  · rename_i e
    split at hb
    · rename_i hl
      cases hb
      exact snd_bity call_tuple_of gx (bl _ e (by decide)) (by rw [e];exact bt_tuple) h1 h2 hn (ne hl) h bi_tuple
    · cases hb
  split at hb
  · rename_i e
    split at hb
    · rename_i hl
      cases hb
      exact snd_bity call_list_of gx (bl _ e (by decide)) (by rw [e];exact bt_list) h1 h2 hn (ne hl) h bi_list
    · cases hb
  · cases hb
theorem ty_boot {t:Str}{ty:Ty}(h:tyOf t=some ty):bootBuiltins t=some (.type (tyName ty))∧t∈bltNames∧plainName t=true:=by
  unfold tyOf at h
  split at h
  · rename_i e;subst e;cases h;exact⟨bt_int,mem_blt rfl (by decide),by decide +kernel⟩
  split at h
  · rename_i e;subst e;cases h;exact⟨bt_bool,mem_blt rfl (by decide),by decide +kernel⟩
  split at h
  · rename_i e;subst e;cases h;exact⟨bt_tuple,mem_blt rfl (by decide),by decide +kernel⟩
  split at h
  · rename_i e;subst e;cases h;exact⟨bt_list,mem_blt rfl (by decide),by decide +kernel⟩
  split at h
  · rename_i e;subst e;cases h;exact⟨bt_str,mem_blt rfl (by decide),by decide +kernel⟩
  · cases h
theorem snd_isi (g:XG call G k X sc N) {f t:Str}{ty:Ty}{a:Expr}{ca:C}{p p2 pos:Pos}(hf:f=Str.ofString "isinstance") (hd:G.defs.lookup f=none) (hdt:G.defs.lookup t=none) (hg:glB sc f=true) (hgt:glB sc t=true) (ht:tyOf t=some ty) (hn:noStar a=true) (h:SndP call X a ca) :
    SndE call X (.Call (.Name f p) [a,.Name t p2] [] pos) (.isi ca ty):=by
  obtain⟨b1,b2,b3⟩:=ty_boot ht
  obtain⟨n1,n2⟩:=plain_of b3
  have hm:X.mg f=none:=g.blt f hd (mem_blt hf (by decide))
  obtain⟨ta,pa,qa⟩:=h
  have pt:PE X (.Name t p2) (tC (.ty (tyName ty))):=pe_bltn (g.gl t hgt) (g.blt t hdt b2) b1 rfl n1 n2
  refine⟨_,pe_callB call_isiD (g.gl f hg) hm (by rw [hf];exact bt_isi) (pa_cons pa (pa_cons pt pa_nil) (star_cons hn)) (by rw [hf];decide +kernel) (by rw [hf];decide +kernel) (star_cons hn) (by rfl),λGe H F σ τ z Q hz hs kk=>?_⟩
  obtain⟨x,ex,ez⟩:=bind1 (by simpa only [evE_isi] using hz)
  cases ez
  refine qa Ge H F σ τ x _ ex hs λv H1 F1 g1 rx=>?_
  exact⟨v,x,F1,ty,rfl,rx,kk _ H1 F1 g1 rfl⟩
end
end Dw
namespace Dw
open PySem PySem.Spec PyProof.Rows L2
theorem putF_len (f:Str) (v:V):∀fs:List (Str×V),(putF f v fs).length≤fs.length+1
  | []=>by simp [putF]
  | (g,x)::r=>by
    unfold putF
    split
    · simp
    · have:=putF_len f v r;simp;omega
section
variable {call:Nat→List D→Option R}{G:Gx}{k:Nat}{X:Cx}{sc:Scope}{N:List Str}
end
noncomputable def initB (sc:Scope) (N:List Str):Nat→List Str→List Stmt→Bool
  | _,[],[]=>true
  | j,f::ns,.Assign [.Attribute (.Name s _) g _] (.Name p _) _::r=>g == f&&varOf sc N s == some 0&&varOf sc N p == some (j+1)&&initB sc N (j+1) ns r
  | _,_,_=>false
section
variable {call:Nat→List D→Option R}{G:Gx}{k:Nat}{X:Cx}{sc:Scope}{N:List Str}
theorem initB_cons {sc:Scope}{N:List Str}{j:Nat}{f:Str}{ns:List Str}{st:Stmt}{r:List Stmt}(h:initB sc N j (f::ns) (st::r)=true):∃s sp gp p pp ap,st=.Assign [.Attribute (.Name s sp) f gp] (.Name p pp) ap∧varOf sc N s=some 0∧varOf sc N p=some (j+1)∧initB sc N (j+1) ns r=true:=by
  unfold initB at h
  split at h
  · rename_i h1 h2;cases h2
  · rename_i _ _ _ _ s sp g' gp p pp ap _ e1 e2
    cases e1
    cases e2
    rw [Bool.and_eq_true,Bool.and_eq_true,Bool.and_eq_true] at h
    obtain⟨⟨⟨hf,hs⟩,hp⟩,hr⟩:=h
    have hf:g'=f:=by simpa using hf
    subst hf
    exact⟨s,sp,gp,p,pp,ap,rfl,by simpa using hs,by simpa using hp,hr⟩
  · cases h
theorem init_body (g:XG call G k X sc N):∀(ns:List Str) (j:Nat) (body:List Stmt),initB sc N j ns body=true→∃t,PSs X body t∧∀(σ:L2.St) (H:Hp) (x C dx:Addr) (fs:List (Str×V)) (ws:List V) (Dn:Ends),σ[0]?=some (some (.ref x))→(∀i w,ws[i]?=some w→σ[j+1+i]?=some (some w))→ws.length=ns.length →
    H x=some (.ins C dx fs)→Cls X.K C→(∀f∈ns,NoAttr X.K C f)→fs.length+ns.length<1000→Dn.nx σ (upd H x (.ins C dx (putA ns ws fs)))→t Dn σ H
  | [],j,[],_=>⟨_,pss_nil,fun σ H x C dx fs ws Dn h0 hw hl hH hC hN hz hq=>by
      have e:upd H x (.ins C dx fs)=H:=by
        funext b
        by_cases h:b=x
        · subst h;rw [upd_same,hH]
        · rw [upd_ne h]
      have hq:Dn.nx σ (upd H x (.ins C dx fs)):=hq
      rw [e] at hq
      exact hq⟩
  | [],_,_::_,h=>by cases h
  | f::ns,j,[],h=>by cases h
  | f::ns,j,st::r,h=>by
    obtain⟨s,sp,gp,p,pp,ap,rfl,hs,hp,hr⟩:=initB_cons h
    obtain⟨s1,s2,s3,s4⟩:=var_of g hs
    obtain⟨p1,p2,p3,p4⟩:=var_of g hp
    obtain⟨t,pt,qt⟩:=init_body g ns (j+1) r hr
    refine⟨_,pss_cons (ps_fld (pe_var (i:=0) s1 s2 s3 s4) (pe_var (i:=j+1) p1 p2 p3 p4) rfl) pt,fun σ H x C dx fs ws Dn h0 hw hl hH hC hN hz hq=>?_⟩
    cases ws with
    | nil=>simp at hl
    | cons w ws =>
      refine⟨w,hw 0 w rfl,.ref x,h0,x,C,dx,fs,rfl,hH,hC,hN _ List.mem_cons_self,by simp at hz;omega,?_⟩
      refine qt σ _ x C dx (putF f w fs) ws Dn h0 (λi u hi=>?_) (by simpa using hl) upd_same hC (λf hf=>hN f (List.mem_cons_of_mem _ hf)) (by have:=putF_len f w fs;simp at hz;omega) ?_
      · have:=hw (i+1) u (by simpa using hi)
        rw [show j+1+1+i=j+1+(i+1) by omega]
        exact this
      · rw [upd_upd]
        exact hq
end
end Dw
namespace Dw
open PySem PySem.Spec PyProof.Rows L2
theorem getv_same {σ:En}{i:Nat}{o:Option R}(h:i<σ.length):getv (σ.set i o) i=o:=by
  simp [getv,h]
theorem getv_ne {σ:En}{i j:Nat}{o:Option R}(h:i≠j):getv (σ.set i o) j=getv σ j:=by
  simp [getv,List.getElem?_set_ne h]
theorem getv_lt {σ:En}{i:Nat}{r:R}(h:getv σ i=some r):i<σ.length:=by
  by_cases hi:i<σ.length
  · exact hi
  · have:σ[i]?=none:=List.getElem?_eq_none (by omega)
    simp [getv,this] at h
section
variable {K:PySem.W.Frag}{G H H1:Hp}{F F1:Fz}{σ:En}{τ:L2.St}{i:Nat}{d:D}{v:V}
theorem SR.bind (s:SR K G H F σ τ) (h:RD K H F d v):SR K G H F (σ.set i (some (false,d))) (τ.set i (some v)):=by
  refine⟨by simp [s.len],s.ent,s.dom,λj e hj=>?_,λj e hj hd=>?_,λj k e e' hj hk hjk=>?_,λj m ks hj=>?_,λj ns ds hj=>?_,s.tb⟩
  · by_cases hij:i=j
    · subst hij
      have hl:i<σ.length:=by simpa using getv_lt hj
      rw [getv_same hl] at hj
      cases hj
      exact⟨v,by rw [List.getElem?_set_self (by rw [←s.len];exact hl)],h⟩
    · rw [getv_ne hij] at hj
      obtain⟨u,h1,h2⟩:=s.val j e hj
      exact⟨u,by rw [List.getElem?_set_ne hij];exact h1,h2⟩
  · have hij:i≠j:=λz=>by
      subst z
      have hl:i<σ.length:=by simpa using getv_lt hj
      rw [getv_same hl] at hj
      cases hj
    rw [getv_ne hij] at hj
    obtain⟨a,ds,vs,h1,h2,h3⟩:=s.own j e hj hd
    exact⟨a,ds,vs,h1,by rw [List.getElem?_set_ne hij];exact h2,h3⟩
  · have nj:∀{j:Nat} {e:D},getv (σ.set i (some (false,d))) j=some (true,e)→i≠j:=λ{j e} hj z=>by
      subst z
      have hl:i<σ.length:=by simpa using getv_lt hj
      rw [getv_same hl] at hj
      cases hj
    have n1:=nj hj
    have n2:=nj hk
    rw [getv_ne n1] at hj
    rw [getv_ne n2] at hk
    rw [List.getElem?_set_ne n1,List.getElem?_set_ne n2] at hjk
    exact s.sep j k e e' hj hk hjk
  · have hij:i≠j:=λz=>by
      subst z
      have hl:i<σ.length:=by simpa using getv_lt hj
      rw [getv_same hl] at hj
      cases hj
    rw [getv_ne hij] at hj
    obtain⟨a,h1,h2⟩:=s.dct j m ks hj
    exact⟨a,by rw [List.getElem?_set_ne hij];exact h1,h2⟩
  · have hij:i≠j:=λz=>by
      subst z
      have hl:i<σ.length:=by simpa using getv_lt hj
      rw [getv_same hl] at hj
      cases hj
    rw [getv_ne hij] at hj
    obtain⟨a,h1,h2⟩:=s.obj j ns ds hj
    exact⟨a,by rw [List.getElem?_set_ne hij];exact h1,h2⟩
theorem SR.skip (s:SR K G H F σ τ) (h:getv σ i=none):SR K G H F σ (τ.set i (some v)):=by
  have ne:∀{j:Nat} {r:R},getv σ j=some r→i≠j:=λ{j r} e z=>by subst z;rw [h] at e;cases e
  refine⟨by simp [s.len],s.ent,s.dom,λj e hj=>?_,λj e hj hd=>?_,λj k e e' hj hk hjk=>?_,λj m ks hj=>?_,λj ns ds hj=>?_,s.tb⟩
  · obtain⟨u,h1,h2⟩:=s.val j e hj
    exact⟨u,by rw [List.getElem?_set_ne (ne hj)];exact h1,h2⟩
  · obtain⟨a,ds,vs,h1,h2,h3⟩:=s.own j e hj hd
    exact⟨a,ds,vs,h1,by rw [List.getElem?_set_ne (ne hj)];exact h2,h3⟩
  · rw [List.getElem?_set_ne (ne hj),List.getElem?_set_ne (ne hk)] at hjk
    exact s.sep j k e e' hj hk hjk
  · obtain⟨a,h1,h2⟩:=s.dct j m ks hj
    exact⟨a,by rw [List.getElem?_set_ne (ne hj)];exact h1,h2⟩
  · obtain⟨a,h1,h2⟩:=s.obj j ns ds hj
    exact⟨a,by rw [List.getElem?_set_ne (ne hj)];exact h1,h2⟩
theorem SR.keep {G':Hp}(tb:TB G') (s:SR K G H F σ τ) (k:Keep H F H1 F1) (ent:Same G' H1) (dom:∀a,H1 a=none→¬F1 a)
    (own:∀i d,getv σ i=some (true,d)→isDc d=false→∃a ds vs,d=.lst ds∧τ[i]?=some (some (.ref a))∧G' a=none∧¬F1 a∧H1 a=some (.lst vs)∧RDs K H1 F1 ds vs)
    (dct:∀i m ks,getv σ i=some (true,.dct m ks)→∃a,τ[i]?=some (some (.ref a))∧¬F1 a∧H1 a=some (.dK (dk ks))∧(m=true→G' a=none))
    (obj:∀i ns ds,getv σ i=some (true,.obj ns ds)→∃v,τ[i]?=some (some v)∧ObR K H1 F1 ns ds v):SR K G' H1 F1 σ τ:=
  ⟨s.len,ent,dom,λi d e=>let ⟨v,h1,h2⟩:=s.val i d e;⟨v,h1,RD.mono k h2⟩,own,s.sep,dct,obj,tb⟩
theorem Keep.trans {H2:Hp}{F2:Fz}(a:Keep H F H1 F1) (b:Keep H1 F1 H2 F2):Keep H F H2 F2:=
  ⟨λp xs h=>b.tups p xs (a.tups p xs h),λp xs f h=>b.lsts p xs (a.lsts p xs f h).1 (a.lsts p xs f h).2⟩
theorem Keep.refl:Keep H F H F:=⟨λ_ _ h=>h,λ_ _ f h=>⟨f,h⟩⟩
end
section
variable {call:Nat→List D→Option R}{G:Gx}{k:Nat}{X:Cx}{sc:Scope}{N:List Str}
noncomputable def gL:List Nat→TGs
  | []=>gNil
  | i::is=>gCons (gName i) (gL is)
noncomputable def gTg (K:PySem.W.Frag):Tg→TG
  | .one i=>gName i
  | .two i j=>gTup K 2 (gCons (gName i) (gCons (gName j) gNil))
  | .many is=>gTup K is.length (gL is)
theorem loc_of (g:XG call G k X sc N) {x:Str}(h:(sc.names.lookup x == some .local||sc.names.lookup x == some .cell)=true):Loc X.env.scope x∧(X.fn x=true∨X.env.scope.names.lookup x=some .local):=g.loc x h
theorem snd_tg (g:XG call G k X sc N) {tg:Expr}{t:Tg}(h:tgOf sc N tg=some t):PG X tg (gTg X.K t):=by
  unfold tgOf at h
  split at h
  · rename_i x pos
    split at h
    · rename_i hx
      cases hi:slotOf N x with
      | none=>rw [hi] at h;cases h
      | some i =>
        rw [hi] at h
        cases h
        obtain⟨l1,l2⟩:=loc_of g hx
        exact pg_name (by rw [g.hN];exact g.nd) (by rw [g.hN];exact slot_get hi) l1 l2
    · cases h
  · rename_i x p y p' kk pos
    split at h
    · rename_i hx
      rw [Bool.and_eq_true,Bool.and_eq_true] at hx
      obtain⟨⟨hx,hy⟩,hne⟩:=hx
      cases hi:slotOf N x with
      | none=>rw [hi] at h;cases h
      | some i =>
        cases hj:slotOf N y with
        | none=>rw [hi,hj] at h;cases h
        | some j =>
          rw [hi,hj] at h
          cases h
          obtain⟨l1,l2⟩:=loc_of g hx
          obtain⟨m1,m2⟩:=loc_of g hy
          exact pg_tup g.calm (pgs_cons (pg_name (by rw [g.hN];exact g.nd) (by rw [g.hN];exact slot_get hi) l1 l2) (pgs_cons (pg_name (by rw [g.hN];exact g.nd) (by rw [g.hN];exact slot_get hj) m1 m2) pgs_nil))
    · cases h
  · cases h
theorem tg_bind {K:PySem.W.Frag}{Ge H:Hp}{F:Fz}{σ σ':En}{τ:L2.St}{t:Tg}{d:D}{v:V}{Q:L2.St→Hp→Prop}(hm:∀is,t≠.many is) (s:SR K Ge H F σ τ) (hb:bindT σ t d=some σ') (hv:RD K H F d v)
    (h:∀τ',SR K Ge H F σ' τ'→(∀σ0:En,SR K Ge H F σ0 τ→(∀i,(t=.one i∨∃j,t=.two i j∨t=.two j i)→getv σ0 i=none)→SR K Ge H F σ0 τ')→Q τ' H):gTg K t v τ H Q:=by
  cases t with
  | one i =>
    cases hb
    exact h _ (s.bind hv) fun σ0 s0 hn=>s0.skip (hn i (.inl rfl))
  | two i j =>
    unfold bindT at hb
    split at hb
    · rename_i heq;cases heq
    · rename_i i' j' x y heq
      cases heq
      cases hb
      obtain⟨a,vs,rfl,hs,hr⟩:=hv
      obtain⟨v1,r,rfl,h1,w,r2,e2,h2,h3⟩:=hr
      have h3:r2=[]:=h3
      subst h3
      subst e2
      exact⟨a,[v1,w],rfl,hs,rfl,v1,[w],rfl,w,[],rfl,rfl,h _ ((s.bind h1).bind h2) fun σ0 s0 hn=>(s0.skip (hn i (.inr ⟨j,.inl rfl⟩))).skip (hn j (.inr ⟨i,.inr rfl⟩))⟩
    · rename_i heq;cases heq
    · cases hb
  | many is=>exact absurd rfl (hm is)
theorem setAll_bind {K:PySem.W.Frag}{Ge H:Hp}{F:Fz}{Q:L2.St→Hp→Prop}:∀{is:List Nat}{ds:List D}{vs:List V}{σ σ':En}{τ:L2.St},SR K Ge H F σ τ→setAll σ is ds=some σ'→RDs K H F ds vs→(∀τ',SR K Ge H F σ' τ'→Q τ' H)→gL is vs τ H Q
  | [],ds,vs,σ,σ',τ,s,hb,hv,h=>by
    cases ds with
    | nil=>cases hb;have hv:vs=[]:=hv;exact⟨hv,h _ s⟩
    | cons d r=>cases hb
  | i::is,ds,vs,σ,σ',τ,s,hb,hv,h=>by
    cases ds with
    | nil=>cases hb
    | cons d r =>
      obtain⟨v,w,rfl,h1,h2⟩:=hv
      exact⟨v,w,rfl,setAll_bind (s.bind h1) hb h2 h⟩
theorem setAll_len:∀{is:List Nat}{ds:List D}{σ σ':En},setAll σ is ds=some σ'→ds.length=is.length
  | [],[],_,_,_=>rfl
  | [],_::_,_,_,h=>by cases h
  | _::_,[],_,_,h=>by cases h
  | i::is,d::ds,σ,σ',h=>by rw [List.length_cons,List.length_cons,setAll_len (show setAll (σ.set i (some (false,d))) is ds=some σ' from h)]
theorem tg_bindM {K:PySem.W.Frag}{Ge H:Hp}{F:Fz}{σ σ':En}{τ:L2.St}{t:Tg}{d:D}{v:V}{Q:L2.St→Hp→Prop}(s:SR K Ge H F σ τ) (hb:bindT σ t d=some σ') (hv:RD K H F d v)
    (h:∀τ',SR K Ge H F σ' τ'→Q τ' H):gTg K t v τ H Q:=by
  cases t with
  | one i=>exact tg_bind (λ_ z=>nomatch z) s hb hv fun τ' s' _=>h τ' s'
  | two i j=>exact tg_bind (λ_ z=>nomatch z) s hb hv fun τ' s' _=>h τ' s'
  | many is =>
    unfold bindT at hb
    split at hb
    · rename_i heq;cases heq
    · rename_i heq;cases heq
    · rename_i is' ds heq
      cases heq
      obtain⟨a,vs,rfl,hs,hr⟩:=hv
      exact⟨a,vs,rfl,hs,by rw [RDs.length hr];exact setAll_len hb,setAll_bind s hb hr h⟩
    · cases hb
theorem nm_tg (g:XG call G k X sc N) {e:Expr}{i:Nat}(h:nmOf sc N e=some i):PG X e (gName i)∧∃x p,e=.Name x p:=by
  unfold nmOf at h
  split at h
  · rename_i x pos
    split at h
    · rename_i hx
      obtain⟨l1,l2⟩:=loc_of g hx
      exact⟨pg_name (by rw [g.hN];exact g.nd) (by rw [g.hN];exact slot_get h) l1 l2,x,pos,rfl⟩
    · cases h
  · cases h
theorem nms_tg (g:XG call G k X sc N):∀{es:List Expr}{is:List Nat},optAll (nmOf sc N) es=some is→PGs X es (gL is)∧(assignEach es X.env).length=is.length∧(assignEach es X.env).findIdx? (·.1)=none
  | [],is,h=>by cases h;exact⟨pgs_nil,rfl,rfl⟩
  | e::es,is,h=>by
    unfold optAll at h
    cases hx:nmOf sc N e with
    | none=>rw [hx] at h;cases h
    | some i =>
      rw [hx] at h
      cases hy:optAll (nmOf sc N) es with
      | none=>simp only [Option.bind_some] at h;rw [hy] at h;cases h
      | some js =>
        simp only [Option.bind_some] at h
        rw [hy] at h
        cases h
        obtain⟨p1,x,p,rfl⟩:=nm_tg g hx
        obtain⟨q1,q2,q3⟩:=nms_tg g hy
        refine⟨pgs_cons p1 q1 rfl,?_,?_⟩
        · show (assignEach es X.env).length+1=_
          rw [q2];rfl
        · show List.findIdx? _ ((false,_)::assignEach es X.env)=none
          rw [List.findIdx?_cons,q3];rfl
theorem tgOf_nm {tg:Expr}{t:Tg}(h:tgOf sc N tg=some t):∀is,t≠.many is:=by
  intro is z
  subst z
  unfold tgOf at h
  split at h
  · split at h
    · rename_i x _ _;cases hx:slotOf N x<;>(rw [hx] at h;cases h)
    · cases h
  · split at h
    · rename_i x _ y _ _ _ _;cases hx:slotOf N x<;>rw [hx] at h<;>first|cases h|(cases hy:slotOf N y<;>(rw [hy] at h;cases h))
    · cases h
  · cases h
theorem snd_tgM (g:XG call G k X sc N) {tg:Expr}{t:Tg}(h:tgM sc N tg=some t):PG X tg (gTg X.K t):=by
  unfold tgM at h
  cases ht:tgOf sc N tg with
  | some t' =>
    rw [ht] at h
    cases h
    exact snd_tg g ht
  | none =>
    rw [ht] at h
    cases tg with
    | Tuple es kk pos =>
      have h:(optAll (nmOf sc N) es).map Tg.many=some t:=h
      cases hx:optAll (nmOf sc N) es with
      | none=>rw [hx] at h;cases h
      | some is =>
        rw [hx] at h
        cases h
        obtain⟨q1,q2,q3⟩:=nms_tg g hx
        exact pg_tup g.calm q1 q2 q3
    | _=>cases h
end
noncomputable def ItOk (K:PySem.W.Frag) (J:It) (H:Hp) (F:Fz) (its:List D):Prop:=∀H' F',Keep H F H' F'→(∀a,H' a=none→¬F' a) →
  (∀i d,its[i]?=some d→J.go i H'∧∀x H3,J.yld i H' x H3→∃F3,Gr H' F' H3 F3∧RD K H3 F3 d x)∧J.stop its.length H'
theorem it_list {K:PySem.W.Frag}{H:Hp}{F:Fz}{a:Addr}{ds:List D}{vs:List V}(h:LsR K H F a vs) (r:RDs K H F ds vs):ItOk K (Itl K a) H F ds:=by
  intro H' F' k dom
  have h':LsR K H' F' a vs:=h.elim (λz=>.inl (k.lsts _ _ z.1 z.2)) .inr
  have r':=RDs.mono k r
  have hl:=RDs.length r'
  refine⟨λi d hd=>?_,⟨vs,h'.sq,by omega⟩⟩
  obtain⟨v,e1,e2⟩:=RDs.get r' hd
  refine⟨⟨vs,v,h'.sq,e1⟩,λx H3 y=>?_⟩
  obtain⟨rfl,y⟩:=y
  have:=y vs h'.sq
  rw [e1] at this
  cases this
  exact⟨F',Gr.refl dom,e2⟩
theorem it_tup {K:PySem.W.Frag}{H:Hp}{F:Fz}{a:Addr}{ds:List D}{vs:List V}(h:SqT K H a vs) (r:RDs K H F ds vs):ItOk K (Itt K a) H F ds:=by
  intro H' F' k dom
  have h':SqT K H' a vs:=h.elim (λz=>.inl (k.tups _ _ z)) .inr
  have r':=RDs.mono k r
  have hl:=RDs.length r'
  refine⟨λi d hd=>?_,⟨vs,h',by omega⟩⟩
  obtain⟨v,e1,e2⟩:=RDs.get r' hd
  refine⟨⟨vs,v,h',e1⟩,λx H3 y=>?_⟩
  obtain⟨rfl,y⟩:=y
  have:=y vs h'
  rw [e1] at this
  cases this
  exact⟨F',Gr.refl dom,e2⟩
theorem it_rng {K:PySem.W.Frag}{H:Hp}{F:Fz}(lo:Int) (n:Nat):ItOk K (Itr lo n) H F ((List.range n).map λi=>.int (lo+(i:Nat))):=by
  intro H' F' k dom
  refine⟨λi d hd=>?_,?_⟩
  · rw [List.getElem?_map] at hd
    cases q:(List.range n)[i]? with
    | none=>rw [q] at hd;cases hd
    | some j =>
      rw [q] at hd
      obtain⟨hl,ej⟩:=List.getElem?_eq_some_iff.mp q
      simp at hl ej
      subst ej
      cases hd
      refine⟨hl,λx H3 y=>?_⟩
      obtain⟨rfl,rfl⟩:=y
      exact⟨F',Gr.refl dom,rfl⟩
  · show n≤_
    simp
theorem it_rngS {K:PySem.W.Frag}{H:Hp}{F:Fz}(lo st:Int) (n:Nat):ItOk K (Its lo st n) H F ((List.range n).map λi=>.int (lo+(i:Nat) * st)):=by
  intro H' F' k dom
  refine⟨λi d hd=>?_,?_⟩
  · rw [List.getElem?_map] at hd
    cases q:(List.range n)[i]? with
    | none=>rw [q] at hd;cases hd
    | some j =>
      rw [q] at hd
      obtain⟨hl,ej⟩:=List.getElem?_eq_some_iff.mp q
      simp at hl ej
      subst ej
      cases hd
      refine⟨hl,λx H3 y=>?_⟩
      obtain⟨rfl,rfl⟩:=y
      exact⟨F',Gr.refl dom,rfl⟩
  · show n≤_
    simp
end Dw
namespace Dw
open PySem PySem.Spec PyProof.Rows L2
section
variable {prog:Program}{w:World}{A:Around}{E:Value→Shared→Prop}{s:Shared}
theorem nx_item {p t:Addr}{k:Nat}{its:Array Value}{y:Value}{Q:Value→Shared→Prop}(hp:s.heap.IsTupleIter p t k) (ht:s.heap.IsTuple t its) (hy:its[k]?=some y)
    (q:∀h1,h1.IsTupleIter p t (k+1)→Heap.SameBut p s.heap h1→Q y { s with heap:=h1 }):wpAny (model prog w) A (Builtin.SmallTypes.nextOf (.ref p)) Q E s:=by
  obtain⟨b,b1,b2,b3⟩:=id hp;obtain⟨c,c1,_,n1,c3⟩:=ht;unfold Builtin.SmallTypes.nextOf
  refine wpAny_bind (wpAny_callSpecial?_slot (name:=Str.ofString "__next__") hp.typeIs F.slot_tuple_iterator_next (wpAny_call_entry F.slot_tuple_iterator_next hp.typeIs F.entry_tuple_iterator_next ?_ (F.args_tuple_iterator_next_1 _)))
  show wpAny _ _ (field (.ref p) 0 >>= _) _ _ s
  refine wpAny_bind (wpAny_field b1 b3 (x:=.ref t) rfl ?_);show wpAny _ _ (if (Value.ref t == Value.none)=true then _ else _) _ _ s
  rw [if_neg (show ¬((Value.ref t == Value.none)=true) from Bool.false_ne_true)];show wpAny _ _ (field (.ref p) 1 >>= _) _ _ s
  refine wpAny_bind (wpAny_field b1 b3 (x:=.int k 0) rfl ?_);show wpAny _ _ (seqItems? (.ref t) >>= _) _ _ s
  refine wpAny_bind (wpAny_seqItems c1 c3 ?_);simp only [hy,Int.toNat_natCast]
  refine wpAny_bind (wpAny_setField b1 b3 (by simp) (wpAny_pure ⟨y,rfl,wpAny_pure (q _ ?_ (Heap.SameBut.update ..))⟩))
  exact⟨_,Heap.get?_update_self _ b1 (Obj.isFreed_of_fields (Obj.data_mapFields b3 _)),(Obj.cls_mapFields ..).trans b2,by (rw [Obj.data_mapFields b3];simp [rawInt])⟩
theorem nx_end {p t:Addr}{k:Nat}{its:Array Value}{Q:Value→Shared→Prop}(hh:A.handled=none) (hp:s.heap.IsTupleIter p t k) (ht:s.heap.IsTuple t its) (hy:its[k]?=none)
    (q:∀h1 e,Heap.ExtBut p s.heap h1→(∃o,h1.get? e=some o∧o.cls=.type "StopIteration")→E (.ref e) { s with heap:=h1 }):wpAny (model prog w) A (Builtin.SmallTypes.nextOf (.ref p)) Q E s:=by
  obtain⟨b,b1,b2,b3⟩:=id hp;obtain⟨c,c1,_,n1,c3⟩:=ht;unfold Builtin.SmallTypes.nextOf
  refine wpAny_bind (wpAny_callSpecial?_slot (name:=Str.ofString "__next__") hp.typeIs F.slot_tuple_iterator_next (wpAny_call_entry F.slot_tuple_iterator_next hp.typeIs F.entry_tuple_iterator_next ?_ (F.args_tuple_iterator_next_1 _)))
  show wpAny _ _ (field (.ref p) 0 >>= _) _ _ s
  refine wpAny_bind (wpAny_field b1 b3 (x:=.ref t) rfl ?_);show wpAny _ _ (if (Value.ref t == Value.none)=true then _ else _) _ _ s
  rw [if_neg (show ¬((Value.ref t == Value.none)=true) from Bool.false_ne_true)];show wpAny _ _ (field (.ref p) 1 >>= _) _ _ s
  refine wpAny_bind (wpAny_field b1 b3 (x:=.int k 0) rfl ?_);show wpAny _ _ (seqItems? (.ref t) >>= _) _ _ s
  refine wpAny_bind (wpAny_seqItems c1 c3 ?_);simp only [hy,Int.toNat_natCast]
  refine wpAny_bind (wpAny_rule (wpAny_bind (wpAny_setField b1 b3 (by simp) ?_)));show wpAny _ _ (newExc (.type "StopIteration") [] >>= _) _ _ _
  refine wpAny_bind ?_;simp only [newExc,newTuple];refine wpAny_bind (wpAny_newObj_type ?_ (by size_fits))
  refine wpAny_bind (m:=firstArgMember _ _) (wpAny_of_eq (a:=Value.none) (by first|rfl|(simp only [firstArgMember];rfl)) ?_);refine wpAny_newObj_type ?_ (by size_fits)
  simp only [raiseNew];refine wpAny_bind (wpAny_handled ?_);first|rw [show A.in1.handled=none from hh]|rw [hh]
  refine wpAny_bind (wpAny_pure (wpAny_throw ?_));exact q _ _ (((Heap.SameBut.update ..).extBut.push _).push _) ⟨_,Heap.get?_push_size _ rfl,rfl⟩
theorem nl_item {p t:Addr}{k:Nat}{its:Array Value}{y:Value}{Q:Value→Shared→Prop}(hp:s.heap.IsListIter p t k) (ht:s.heap.IsList t its) (hy:its[k]?=some y)
    (q:∀h1,h1.IsListIter p t (k+1)→Heap.SameBut p s.heap h1→Q y { s with heap:=h1 }):wpAny (model prog w) A (Builtin.SmallTypes.nextOf (.ref p)) Q E s:=by
  obtain⟨b,b1,b2,b3⟩:=id hp;obtain⟨c,c1,_,n1,c3⟩:=ht;unfold Builtin.SmallTypes.nextOf
  refine wpAny_bind (wpAny_callSpecial?_slot (name:=Str.ofString "__next__") hp.typeIs PySem.slot_listiter_next (wpAny_call_entry PySem.slot_listiter_next hp.typeIs PySem.entry_listiter_next ?_ (PySem.args_listiter_next _)))
  show wpAny _ _ (field (.ref p) 0 >>= _) _ _ s
  refine wpAny_bind (wpAny_field b1 b3 (x:=.ref t) rfl ?_);show wpAny _ _ (if (Value.ref t == Value.none)=true then _ else _) _ _ s
  rw [if_neg (show ¬((Value.ref t == Value.none)=true) from Bool.false_ne_true)];show wpAny _ _ (field (.ref p) 1 >>= _) _ _ s
  refine wpAny_bind (wpAny_field b1 b3 (x:=.int k 0) rfl ?_);show wpAny _ _ (seqItems? (.ref t) >>= _) _ _ s
  refine wpAny_bind (wpAny_seqItems c1 c3 ?_);simp only [hy,Int.toNat_natCast]
  refine wpAny_bind (wpAny_setField b1 b3 (by simp) (wpAny_pure ⟨y,rfl,wpAny_pure (q _ ?_ (Heap.SameBut.update ..))⟩))
  exact⟨_,Heap.get?_update_self _ b1 (Obj.isFreed_of_fields (Obj.data_mapFields b3 _)),(Obj.cls_mapFields ..).trans b2,by (rw [Obj.data_mapFields b3];simp [rawInt])⟩
theorem nl_end {p t:Addr}{k:Nat}{its:Array Value}{Q:Value→Shared→Prop}(hh:A.handled=none) (hp:s.heap.IsListIter p t k) (ht:s.heap.IsList t its) (hy:its[k]?=none)
    (q:∀h1 e,Heap.ExtBut p s.heap h1→(∃o,h1.get? e=some o∧o.cls=.type "StopIteration")→E (.ref e) { s with heap:=h1 }):wpAny (model prog w) A (Builtin.SmallTypes.nextOf (.ref p)) Q E s:=by
  obtain⟨b,b1,b2,b3⟩:=id hp;obtain⟨c,c1,_,n1,c3⟩:=ht;unfold Builtin.SmallTypes.nextOf
  refine wpAny_bind (wpAny_callSpecial?_slot (name:=Str.ofString "__next__") hp.typeIs PySem.slot_listiter_next (wpAny_call_entry PySem.slot_listiter_next hp.typeIs PySem.entry_listiter_next ?_ (PySem.args_listiter_next _)))
  show wpAny _ _ (field (.ref p) 0 >>= _) _ _ s
  refine wpAny_bind (wpAny_field b1 b3 (x:=.ref t) rfl ?_);show wpAny _ _ (if (Value.ref t == Value.none)=true then _ else _) _ _ s
  rw [if_neg (show ¬((Value.ref t == Value.none)=true) from Bool.false_ne_true)];show wpAny _ _ (field (.ref p) 1 >>= _) _ _ s
  refine wpAny_bind (wpAny_field b1 b3 (x:=.int k 0) rfl ?_);show wpAny _ _ (seqItems? (.ref t) >>= _) _ _ s
  refine wpAny_bind (wpAny_seqItems c1 c3 ?_);simp only [hy,Int.toNat_natCast]
  refine wpAny_bind (wpAny_rule (wpAny_bind (wpAny_setField b1 b3 (by simp) ?_)));show wpAny _ _ (newExc (.type "StopIteration") [] >>= _) _ _ _
  refine wpAny_bind ?_;simp only [newExc,newTuple];refine wpAny_bind (wpAny_newObj_type ?_ (by size_fits))
  refine wpAny_bind (m:=firstArgMember _ _) (wpAny_of_eq (a:=Value.none) (by first|rfl|(simp only [firstArgMember];rfl)) ?_);refine wpAny_newObj_type ?_ (by size_fits)
  simp only [raiseNew];refine wpAny_bind (wpAny_handled ?_);first|rw [show A.in1.handled=none from hh]|rw [hh]
  refine wpAny_bind (wpAny_pure (wpAny_throw ?_));exact q _ _ (((Heap.SameBut.update ..).extBut.push _).push _) ⟨_,Heap.get?_push_size _ rfl,rfl⟩
noncomputable def SqH:Bool→Heap→Addr→Array Value→Prop
  | true,h,t,its=>h.IsList t its
  | false,h,t,its=>h.IsTuple t its
noncomputable def SqI:Bool→Heap→Addr→Addr→Nat→Prop
  | true,h,p,t,k=>h.IsListIter p t k
  | false,h,p,t,k=>h.IsTupleIter p t k
theorem SqI.extBut {kd:Bool}{h h':Heap}{a b t:Addr}{i:Nat}(x:SqI kd h a t i) (hs:Heap.ExtBut b h h') (hab:a≠b):SqI kd h' a t i:=by
  cases kd with
  | true=>exact Heap.IsListIter.extBut x hs hab
  | false=>exact Heap.IsTupleIter.extBut x hs hab
theorem SqI.at {kd:Bool}{h h':Heap}{a t:Addr}{i:Nat}(x:SqI kd h a t i) (e:∀o,h.get? a=some o→h'.get? a=some o):SqI kd h' a t i:=by
  cases kd with
  | true=>exact Heap.IsListIter.at x e
  | false=>exact Heap.IsTupleIter.at x e
theorem SqI.rec' {kd:Bool}{h:Heap}{a t:Addr}{i:Nat}(x:SqI kd h a t i):∃o,h.get? a=some o∧∀v,o.data≠.cell v:=by
  cases kd with
  | true=>obtain⟨o,e,c,d⟩:=x;exact⟨o,e,λv r=>by rw [d] at r;cases r⟩
  | false=>obtain⟨o,e,c,d⟩:=x;exact⟨o,e,λv r=>by rw [d] at r;cases r⟩
theorem SqH.but {kd:Bool}{h h':Heap}{p t:Addr}{its:Array Value}(ht:SqH kd h t its) (hs:Heap.SameBut p h h') (ne:t≠p):SqH kd h' t its:=by
  cases kd with
  | true=>exact Heap.IsList.extBut ht hs.extBut ne
  | false=>exact Heap.IsTuple.extBut ht hs.extBut ne
theorem ns_item {kd:Bool}{p t:Addr}{k:Nat}{its:Array Value}{y:Value}{Q:Value→Shared→Prop}(hp:SqI kd s.heap p t k) (ht:SqH kd s.heap t its) (hy:its[k]?=some y)
    (q:∀h1,SqI kd h1 p t (k+1)→Heap.SameBut p s.heap h1→Q y { s with heap:=h1 }):wpAny (model prog w) A (Builtin.SmallTypes.nextOf (.ref p)) Q E s:=by
  cases kd with
  | true=>exact nl_item hp ht hy q
  | false=>exact nx_item hp ht hy q
theorem ns_end {kd:Bool}{p t:Addr}{k:Nat}{its:Array Value}{Q:Value→Shared→Prop}(hh:A.handled=none) (hp:SqI kd s.heap p t k) (ht:SqH kd s.heap t its) (hy:its[k]?=none)
    (q:∀h1 e,Heap.ExtBut p s.heap h1→(∃o,h1.get? e=some o∧o.cls=.type "StopIteration")→E (.ref e) { s with heap:=h1 }):wpAny (model prog w) A (Builtin.SmallTypes.nextOf (.ref p)) Q E s:=by
  cases kd with
  | true=>exact nl_end hh hp ht hy q
  | false=>exact nx_end hh hp ht hy q
structure Zp (z a b i j:Addr):Prop where
  az:a≠z
  bz:b≠z
  iz:i≠z
  jz:j≠z
  ab:a≠b
  ai:a≠i
  aj:a≠j
  bi:b≠i
  bj:b≠j
  ij:i≠j
structure Zs (kd:Bool) (h:Heap) (z a b i j t u:Addr) (k:Nat):Prop where
  hz:IsZip h z a b .none
  ha:IsPair h a (.ref i) (.ref j)
  hb:∃x y,IsPair h b x y
  hi:SqI kd h i t k
  hj:h.IsTupleIter j u k
end
end Dw
namespace Dw
open PySem PySem.Spec PyProof.Rows L2
section
variable {X:Cx}{pins:List (Addr×Obj)}{σ:L2.St}{H:Hp}{s:Shared}{h':Heap}{fp:List Addr}
theorem turnN {t':Nat}(I:Inv X pins σ H s) (hf:∀b∈fp,FpOk X pins H b) (k:∀b o,b∉fp→s.heap.get? b=some o→h'.get? b=some o):Inv X pins σ H { s with heap:=h',toks:=t' }:=by
  have nit:∀b u,H b=some u→b∉fp:=λb u e z=>by have:=(hf b z).1;rw [this] at e;cases e
  refine I.step (g':=s.gens) (d':=s.drawn) (ch:=fp) (λb hb=>?_) (λb o _ _ hc e _=>k b o hc e) (λb o _ _ hc e _=>⟨o.slots,k b o hc e⟩) (λ_ _ _ _ n=>n) (λb o hc e=>⟨o,k b o hc e⟩) (λ_ _ e=>e) (λ_ _ _ e=>e) (λb ps e=>⟨#[],by rw [e];simp⟩) (λm hm=>?_) (λb u e=>?_) I.bare
  · obtain⟨f0,f1,f2,f3,f4,f5⟩:=hf b hb
    exact⟨f3,f1,f4,f5⟩
  · obtain⟨o,es,ep,ho,r⟩:=hm
    exact⟨o,es,ep,k _ o (λz=>(hf _ z).2.1 rfl) ho,r⟩
  · refine (I.hok b u e).stay (λc v hc q=>k c v ?_ q) (λ_ q=>q) (λ_ _ q=>q) λ_ _ _ q=>q
    rcases hc with z|z
    · rw [z];exact nit b u e
    · exact nit c _ z
theorem turnL {t':Nat}{T:Addr}{o:HO}(I:Inv X pins σ H s) (hf:∀b∈fp,FpOk X pins H b) (k:∀b o,b∉fp→s.heap.get? b=some o→h'.get? b=some o) (hT:s.heap.objs.size≤T) (new:ObjOk X.prog X.w (upd H T o) h' T o):Inv X pins σ (upd H T o) { s with heap:=h',toks:=t' }:=by
  have hn:H T=none:=I.hok.fresh hT
  have neT:∀b ob,s.heap.get? b=some ob→b≠T:=λb ob e=>Nat.ne_of_lt (Nat.lt_of_lt_of_le (Heap.lt_size e) hT)
  have nit:∀b u,H b=some u→b∉fp:=λb u e z=>by have:=(hf b z).1;rw [this] at e;cases e
  refine I.step (g':=s.gens) (d':=s.drawn) (ch:=fp) (λb hb=>?_) (λb o _ _ hc e _=>k b o hc e) (λb o _ _ hc e _=>⟨o.slots,k b o hc e⟩) (λb ob _ e n=>by rw [upd_ne (neT b ob e)];exact n) (λb o hc e=>⟨o,k b o hc e⟩)
    (λb xs e=>by rw [upd_ne (ne_of_none e hn)];exact e) (λb ob u e=>by rw [upd_ne (ne_of_none e hn)];exact e) (λb ps e=>⟨#[],by rw [upd_ne (ne_of_none e hn),e];simp⟩) (λm hm=>?_) (λb u e=>?_) I.bare
  · obtain⟨f0,f1,f2,f3,f4,f5⟩:=hf b hb
    exact⟨f3,f1,f4,f5⟩
  · obtain⟨o,es,ep,ho,r⟩:=hm
    exact⟨o,es,ep,k _ o (λz=>(hf _ z).2.1 rfl) ho,r⟩
  · by_cases hb:b=T
    · subst hb;rw [upd_same] at e;cases e;exact new
    · rw [upd_ne hb] at e
      refine (I.hok b u e).stay (λc v hc q=>k c v ?_ q) (λc q=>by rw [upd_ne (ne_of_none q hn)];exact q) (λc xs q=>by rw [upd_ne (ne_of_none q hn)];exact q) λc ob u q=>by rw [upd_ne (ne_of_none q hn)];exact q
      rcases hc with z|z
      · rw [z];exact nit b u e
      · exact nit c _ z
theorem not_fp (I:Inv X pins σ H s) (hf:∀b∈fp,FpOk X pins H b) {a:Addr}{xs:List V}(h:SqT X.K H a xs):a∉fp:=λz=>by
  obtain⟨f0,f1,f2,f3,f4,f5⟩:=hf a z
  rcases h with (h|⟨o,h⟩)|⟨o,its,n,hk,_⟩
  · rw [f0] at h;cases h
  · rw [f0] at h;cases h
  · have hb:=I.ok.mod.kin a o hk
    rcases f3 with q|q
    · exact I.ok.noex a o hb q
    · exact absurd (Nat.lt_of_lt_of_le (Heap.lt_size (I.ok.bs a o hb).1) q) (Nat.lt_irrefl _)
end
theorem not_fpL {X:Cx}{pins:List (Addr×Obj)}{σ:L2.St}{H:Hp}{s:Shared}{fp:List Addr}(I:Inv X pins σ H s) (hf:∀b∈fp,FpOk X pins H b) {a:Addr}{xs:List V}(h:SqL X.K H a xs):a∉fp:=λz=>by
  obtain⟨f0,f1,f2,f3,f4,f5⟩:=hf a z
  rcases h with (h|⟨o,h⟩)|⟨o,its,n,hk,_⟩
  · rw [f0] at h;cases h
  · rw [f0] at h;cases h
  · have hb:=I.ok.mod.kin a o hk
    rcases f3 with q|q
    · exact I.ok.noex a o hb q
    · exact absurd (Nat.lt_of_lt_of_le (Heap.lt_size (I.ok.bs a o hb).1) q) (Nat.lt_irrefl _)
noncomputable def SqK:Bool→PySem.W.Frag→Hp→Addr→List V→Prop
  | true,K,H,a,xs=>SqL K H a xs
  | false,K,H,a,xs=>SqT K H a xs
section
variable {X:Cx}{pins:List (Addr×Obj)}{σ:L2.St}{H:Hp}{s:Shared}{fp:List Addr}{a:Addr}{xs ys:List V}{kd:Bool}
theorem SqK.its (I:Inv X pins σ H s) (h:SqK kd X.K H a xs):∃its,Vals xs its∧SqH kd s.heap a its.toArray∧xs.length≤sizeLine:=by
  cases kd with
  | true=>obtain⟨its,r,p,z⟩:=I.list h;exact⟨its,r,p.isList,z⟩
  | false=>obtain⟨its,r,p,z⟩:=I.tuple h;exact⟨its,r,p,z⟩
theorem SqK.nfp (I:Inv X pins σ H s) (hf:∀b∈fp,FpOk X pins H b) (h:SqK kd X.K H a xs):a∉fp:=by
  cases kd with
  | true=>exact not_fpL I hf h
  | false=>exact not_fp I hf h
theorem SqK.inj (I:Inv X pins σ H s) (h:SqK kd X.K H a xs) (h':SqK kd X.K H a ys):xs=ys:=by
  cases kd with
  | true=>exact I.list_inj h h'
  | false=>exact I.tuple_inj h h'
end
noncomputable def SqF:Bool→PySem.W.Frag→Hp→Fz→Addr→List V→Prop
  | true,K,H,F,a,xs=>LsR K H F a xs
  | false,K,H,_,a,xs=>SqT K H a xs
theorem SqF.keep {kd:Bool}{K:PySem.W.Frag}{H H':Hp}{F F':Fz}{a:Addr}{xs:List V}(h:SqF kd K H F a xs) (k:Keep H F H' F'):SqK kd K H' a xs:=by
  cases kd with
  | true=>exact LsR.sq (h.elim (λz=>.inl (k.lsts _ _ z.1 z.2)) .inr)
  | false=>exact h.elim (λz=>.inl (k.tups _ _ z)) .inr
section
variable {prog:Program}{w:World}{A:Around}{E:Value→Shared→Prop}{s:Shared}
end
section
variable {X:Cx}
end
end Dw
namespace Dw
open PySem PySem.Spec PyProof.Rows L2
section
open AutoSeq1 (wpAny_loadPart')
theorem enum_madeT (l:Addr) (items:Array Value) (n:Nat) (dct:Option Addr) (sl:Array (Option Value)) :
    Meets (Builtin.«enumerate.__new__» ⟨[.type "enumerate",.ref l],[]⟩) (λ_ R s=>s.heap.get? l=some { cls:=.type "tuple",dict:=dct,data:=.seq items n,slots:=sl } ∧
      R (.ok (.ret (.ref (s.heap.push { cls:=.type "tuple_iterator",data:=.fields #[.ref l,.int 0 0] }).objs.size)))
        { s with heap:=(s.heap.push { cls:=.type "tuple_iterator",data:=.fields #[.ref l,.int 0 0] }).push { cls:=.type "enumerate",data:=.fields #[.none,.bool false,.ref s.heap.objs.size,rawInt 0,.none,.none] } }):=
  .of_wp λprog w A R s h=>by
    obtain⟨hp,g,d,tk,os⟩:=s;obtain⟨hl,h⟩:=h
    have hsub:=sub_enumerate
    have hL:Heap.IsTuple (Shared.heap ⟨hp,g,d,tk,os⟩) l items:=⟨_,hl,rfl,n,rfl⟩
    wp_walk using wpAny_loadPart' hl
    refine wpAny_stack_any λst=>wpAny_pure ?_
    split
    · rename_i c _ _ _ _ _
      cases (c == Value.type "enumerate")
      · wp_walk using wpAny_loadPart' hl,wpAny_pyIter_tuple hL
        exact⟨_,rfl,h⟩
      · wp_walk using wpAny_loadPart' hl,wpAny_pyIter_tuple hL
        exact⟨_,rfl,h⟩
    · wp_walk using wpAny_loadPart' hl,wpAny_pyIter_tuple hL
      exact⟨_,rfl,h⟩
end
structure Es (kd:Bool) (h:Heap) (e i t:Addr) (k:Nat):Prop where
  he:∃old,IsEnum h e i ((k:Nat):Int) old
  hi:SqI kd h i t k
section
variable {prog:Program}{w:World}{A:Around}{E:Value→Shared→Prop}{s:Shared}
theorem SqH.at {kd:Bool}{h h':Heap}{t:Addr}{its:Array Value}(x:SqH kd h t its) (e:∀o,h.get? t=some o→h'.get? t=some o):SqH kd h' t its:=by
  cases kd with
  | true=>obtain⟨o,a,b⟩:=x;exact⟨o,e _ a,b⟩
  | false=>obtain⟨o,a,b⟩:=x;exact⟨o,e _ a,b⟩
theorem en_draws {kd:Bool}(hh:A.handled=none) (i t:Addr) (ne:t≠i) (its:Array Value):Draws prog w A i [i,t] its.size (λk x=>its[k]?=some x) (λk h=>SqI kd h i t k∧SqH kd h t its) where
  live:=λk h st=>by obtain⟨o,e,_⟩:=st.1.rec';exact⟨o,e⟩
  frame:=λk h h' st hk=>⟨st.1.at λo e=>hk i (by simp) o e,st.2.at λo e=>hk t (by simp) o e⟩
  item:=λk s Q E hk st q=>ns_item st.1 st.2 (y:=its[k]) (by simp [hk]) λh1 i1 s1=>q its[k] h1 s.toks (by simp [hk]) ⟨i1,st.2.but s1 ne⟩ s1
  done:=λs Q E st q=>ns_end hh st.1 st.2 (by simp) q
theorem enum_call {kd:Bool}{a:Addr}{xs:Array Value}{Q:Value→Shared→Prop}(ha:SqH kd s.heap a xs)
    (h:∀h',Es kd h' (s.heap.objs.size+1) s.heap.objs.size a 0→(∀c o,s.heap.get? c=some o→h'.get? c=some o)→Q (.ref (s.heap.objs.size+1)) { s with heap:=h' }):wpAny (model prog w) A (call (.type "enumerate") [.ref a]) Q E s:=by
  cases kd with
  | true=>exact call_enumerate_list ha λh' e1 e2 _ k=>h h' ⟨⟨_,e1⟩,e2⟩ k
  | false =>
    obtain⟨⟨c,dct,dt,sl⟩,hl,hc,n,hd⟩:=ha
    replace hc:c=.type "tuple":=hc
    replace hd:dt=.seq xs n:=hd
    subst hc hd
    refine callType_new F.called_enumerate (by decide) (F.typeCall_enumerate_1 _) (F.newCall_enumerate_1 _) (λobj=>F.args_object_init_2 obj _) F.entry_enumerate_new (enum_madeT a xs n dct sl) ⟨hl,?_⟩
    have hz:(s.heap.push { cls:=.type "tuple_iterator",data:=.fields #[.ref a,.int 0 0] }).objs.size=s.heap.objs.size+1:=Heap.size_push ..
    show _∧_
    rw [hz]
    have he:IsEnum ((s.heap.push { cls:=.type "tuple_iterator",data:=.fields #[.ref a,.int 0 0] }).push
        { cls:=.type "enumerate",data:=.fields #[.none,.bool false,.ref s.heap.objs.size,rawInt 0,.none,.none] }) (s.heap.objs.size+1) s.heap.objs.size 0 .none:=by
      have:=Heap.get?_push_size (s.heap.push { cls:=.type "tuple_iterator",data:=.fields #[.ref a,.int 0 0] })
        (o:={ cls:=.type "enumerate",data:=.fields #[.none,.bool false,.ref s.heap.objs.size,rawInt 0,.none,.none] }) rfl
      rw [hz] at this;exact this
    exact⟨⟨_,he,rfl⟩,h _ ⟨⟨_,he⟩,⟨_,Heap.get?_push_of_some _ (Heap.get?_push_size _ rfl),rfl,rfl⟩⟩ λb o x=>Heap.get?_push_of_some _ (Heap.get?_push_of_some _ x)⟩
end
noncomputable def Ite (kd:Bool) (K:PySem.W.Frag) (a:Addr):It:=
  ⟨λi H=>∃xs x,SqK kd K H a xs∧xs[i]?=some x,
   λi H v H'=>∃T x,H T=none∧v=.ref T∧(∀xs,SqK kd K H a xs→xs[i]?=some x)∧H'=upd H T (.tup [.int ((i:Nat):Int),x]),
   λi H=>∃xs,SqK kd K H a xs∧xs.length≤i⟩
theorem turn_enm {kd:Bool}{P:Program}{w:World}{K:PySem.W.Frag}{es:List Expr}{kk:Nat}{pos:Pos}{e i:Addr}(a:Addr) (ne:e≠i):Turn P w K (.Tuple es kk pos) (Ite kd K a) [e,i] e (λk h=>Es kd h e i a k) where
  mem:=by simp
  obj:=λk h S c hc=>by
    obtain⟨⟨old,he⟩,hi⟩:=S
    simp only [List.mem_cons,List.not_mem_nil,or_false] at hc
    rcases hc with rfl|rfl
    · exact⟨_,he,λv r=>by have r':Data.fields _=Data.cell v:=r;cases r'⟩
    · exact hi.rec'
  keep:=λk h h' S kp=>by
    obtain⟨⟨old,he⟩,hi⟩:=S
    exact⟨⟨old,kp e (by simp) _ he⟩,hi.at λo e=>kp i (by simp) o e⟩
  item:=by
    intro X hP hw hK hc k pins s σ H E I hf S hg
    subst hP hw hK
    obtain⟨xs,x,ha,hx⟩:=hg
    obtain⟨i1,r1,p1,z1⟩:=ha.its I
    obtain⟨u,hu,ru⟩:=r1.get hx
    have na:=ha.nfp I hf
    simp only [List.mem_cons,List.not_mem_nil,or_false,not_or] at na
    obtain⟨⟨old,he⟩,hi⟩:=S
    have hlt:k<i1.toArray.size:=by
      have:=(List.getElem?_eq_some_iff.mp hu).1
      simpa using this
    refine wpAny_pyNext_enum_itemD (en_draws (A:=X.A.in1) (I.ok.hd hc) i a na.2 i1.toArray) he ⟨hi,p1⟩ hlt ne (by simp only [List.mem_cons,List.not_mem_nil,or_false,not_or];exact⟨ne,Ne.symm na.1⟩) λx1 h' tk hPx ho hs' hT hsz kp=>?_
    have ex:x1=u:=by
      have h2:i1[k]?=some x1:=by simpa using hPx
      rw [hu] at h2;exact (Option.some.inj h2).symm
    subst ex
    refine⟨_,rfl,wpAny_letOwnedTupleGo_enum ho λh2 f1 f2=>?_⟩
    have lte:e<s.heap.objs.size:=Heap.lt_size he
    have nT:s.heap.objs.size≠e:=Nat.ne_of_gt lte
    have kp2:∀c o,c∉[e,i]→s.heap.get? c=some o→h2.get? c=some o:=λc o hc q=>by
      simp only [List.mem_cons,List.not_mem_nil,or_false,not_or] at hc
      exact f2.extBut _ _ hc.1 (kp c o hc.1 hc.2 q)
    have I2:=turnL (t':=tk+1) (T:=s.heap.objs.size) (o:=.tup [.int ((k:Nat):Int),x]) I hf kp2 (Nat.le_refl _) ⟨by show 2≤sizeLine;decide,[.int k tk,x1],.cons ⟨tk,rfl⟩ (.cons ru .nil),⟨_,f2.extBut _ _ nT hT,rfl,_,rfl⟩⟩
    have hn:H s.heap.objs.size=none:=I.hok.fresh (Nat.le_refl _)
    refine⟨.ref s.heap.objs.size,upd H s.heap.objs.size (.tup [.int ((k:Nat):Int),x]),I2,rfl,⟨_,x,hn,rfl,λzs hz=>by rw [SqK.inj I hz ha];exact hx,rfl⟩,⟨⟨x1,by simpa using f1⟩,hs'.1.extBut f2.extBut (Ne.symm ne)⟩,λc hc=>?_⟩
    have hlt:c<s.heap.objs.size:=by
      simp only [List.mem_cons,List.not_mem_nil,or_false] at hc
      rcases hc with rfl|rfl
      · exact lte
      · obtain⟨o,q,_⟩:=hi.rec';exact Heap.lt_size q
    rw [upd_ne (Nat.ne_of_lt hlt)]
    exact (hf c hc).1
  done:=by
    intro X hP hw hK hc k pins s σ H E I hf S hg
    subst hP hw hK
    obtain⟨xs,ha,hl⟩:=hg
    obtain⟨i1,r1,p1,z1⟩:=ha.its I
    have l1:=r1.length
    have na:=ha.nfp I hf
    simp only [List.mem_cons,List.not_mem_nil,or_false,not_or] at na
    obtain⟨⟨old,he⟩,hi⟩:=S
    have hT:s.TypeIs (.ref e) "enumerate":=⟨_,he,rfl⟩
    unfold pyNext
    refine wpAny_bind (wpAny_attempt (wpAny_callSpecial?_slot (name:=Str.ofString "__next__") hT F.slot_enumerate_next
      (wpAny_call_entry F.slot_enumerate_next hT F.entry_enumerate_next ?_ (F.args_enumerate_next_1 _))))
    show wpAny _ _ (field (.ref e) 2 >>= _) _ _ _
    refine wpAny_bind (wpAny_field he rfl (x:=.ref i) rfl ?_)
    refine wpAny_bind (ns_end (I.ok.hd hc) hi p1 (by simp;omega) λh' x he' hx'=>?_)
    obtain⟨o,ho,hcc⟩:=hx'
    refine wpAny_bind (wpAny_isInstance (T:="StopIteration") (b:=true) ⟨o,ho,hcc⟩ isSubtype_stop ?_)
    exact wpAny_pure ⟨rfl,turnN (t':=s.toks) I hf λc o hc q=>he' c o (λr=>hc (by simp [r])) q⟩
  self:=λ_ _ _ _ _ S h=>by obtain⟨⟨old,he⟩,_⟩:=S;exact wpAny_pyIter_enum he h
theorem it_enm {kd:Bool}{K:PySem.W.Frag}{H:Hp}{F:Fz}{a:Addr}{ds:List D}{vs:List V}(ha:SqF kd K H F a vs) (ra:RDs K H F ds vs):ItOk K (Ite kd K a) H F (enumD 0 ds):=by
  intro H' F' k dom
  have ha':SqK kd K H' a vs:=ha.keep k
  have ra':=RDs.mono k ra
  have la:=RDs.length ra'
  refine⟨λi d hd=>?_,⟨vs,ha',?_⟩⟩
  · rw [enumD_get] at hd
    cases h1:ds[i]? with
    | none=>simp [h1] at hd
    | some d1 =>
      simp only [h1,Option.map_some,Option.some.injEq,Nat.zero_add] at hd
      subst hd
      obtain⟨v,e1,e2⟩:=RDs.get ra' h1
      refine⟨⟨vs,v,ha',e1⟩,λx H3 y=>?_⟩
      obtain⟨T,x1,hT,rfl,q1,rfl⟩:=y
      have:=q1 vs ha'
      rw [e1] at this
      cases this
      obtain⟨g,rr⟩:=laid_tup (ds:=[.int ((i:Nat):Int),d1]) dom hT ⟨.int ((i:Nat):Int),[v],rfl,rfl,v,[],rfl,e2,rfl⟩
      exact⟨F',g,rr⟩
  · rw [enumD_length]
    omega
section
variable {X:Cx}
theorem boot_enm:bootBuiltins (Str.ofString "enumerate")=some (.type "enumerate"):=by decide +kernel
noncomputable def iEnm (K:PySem.W.Frag) (ta:TA):TI:=fun σ H R=>ta σ H λvs H1=>∃(kd:Bool) (a:Addr) (xs:List V),vs=[.ref a]∧SqK kd K H1 a xs∧(xs.length≤sizeLine→R (Ite kd K a) H1)
theorem pi_enm {es:List Expr}{kk:Nat}{tp:Pos}{x:Str}{a:Expr}{ta:TA}{p pos:Pos}(hx:x=Str.ofString "enumerate") (hg:Gl X x) (hm:X.mg x=none) (ha:PA X [a] ta) (hs:starEach [a] X.env=[(false,eval a X.env)]) :
    PI X (.Tuple es kk tp) (.Call (.Name x p) [a] [] pos) (iEnm X.K ta):=by
  subst hx
  intro pins s σ H R I h
  refine Call_ (ld_blt I hg hm boot_enm (PyProof.Rows.callWith_type1 (thn (ha pos pins s σ H _ I h) λus s1 ⟨vs,H1,I1,r1,q1⟩=>?_) (by rw [hs];rfl) (by rfl)))
  obtain⟨kd,a1,xs,rfl,hx,q⟩:=q1
  cases r1 with
  | cons ra rr =>
    cases rr
    cases ra
    obtain⟨t1,v1,p1,zl⟩:=hx.its I1
    refine enum_call p1 λh' S kp=>?_
    obtain⟨⟨old,he⟩,hi⟩:=S
    refine wpAny_pyIter_enum he ?_
    have I2:Inv X pins σ H1 { s1 with heap:=h' }:=I1.kept (t':=s1.toks) kp
    refine⟨_,[s1.heap.objs.size+1,s1.heap.objs.size],_,_,H1,rfl,I2,turn_enm a1 (Nat.succ_ne_self _),⟨⟨old,he⟩,hi⟩,λc hc=>?_,q zl⟩
    have hge:s1.heap.objs.size≤c:=by
      simp only [List.mem_cons,List.not_mem_nil,or_false] at hc
      rcases hc with rfl|rfl<;>omega
    exact I1.fpOk hge (I1.hok.fresh hge)
end
end Dw
namespace Dw
open PySem PySem.Spec PyProof.Rows L2
noncomputable def clOf (env:Env):List (Str×NameKind)→List (Str×Addr)→List (Str×Addr)
  | [],acc=>acc
  | (n,k)::r,acc=>clOf env r (if k == .free then (n,(env.cells.lookup n).getD 0)::acc else acc)
theorem clos_go (env:Env):∀(l:List (Str×NameKind)) (acc:List (Str×Addr)),(∀y∈l,y.2=.free→∃c,env.cells.lookup y.1=some c) →
    (do
      let mut cs:=acc
      for (name,kind) in l do
        if kind == .free then cs:=(name,←cellOf env name)::cs
      return cs:Sem (List (Str×Addr)))=pure (clOf env l acc)
  | [],acc,_=>rfl
  | (n,k)::r,acc,h=>by
    have ih:=λa=>clos_go env r a λy hy=>h y (List.mem_cons_of_mem _ hy)
    simp only [List.forIn_cons]
    cases hk:k == NameKind.free with
    | true =>
      obtain⟨c,hc⟩:=h (n,k) List.mem_cons_self (by simpa using hk)
      have e:cellOf env n=pure c:=by unfold cellOf;rw [hc]
      simp only [if_true]
      rw [e]
      have:=ih ((n,c)::acc)
      simp only [clOf,hk,if_true,hc,Option.getD_some]
      exact this
    | false =>
      simp only [clOf,hk,Bool.false_eq_true,if_false]
      exact ih acc
theorem clos_of (sc:Scope) (env:Env) (h:∀y∈sc.names,y.2=.free→∃c,env.cells.lookup y.1=some c):closureFor sc env=pure (clOf env sc.names []):=clos_go env sc.names [] h
theorem clOf_look (env:Env):∀(l:List (Str×NameKind)) (acc:List (Str×Addr)) (x:Str) (c:Addr),(clOf env l acc).lookup x=some c→acc.lookup x=some c∨((x,NameKind.free)∈l∧c=(env.cells.lookup x).getD 0)
  | [],acc,x,c,h=>.inl h
  | (n,k)::r,acc,x,c,h=>by
    rcases clOf_look env r _ x c h with q|q
    · split at q
      · rename_i hk
        rw [List.lookup_cons] at q
        split at q
        · rename_i hx
          have e1:x=n:=by simpa using hx
          have e2:k=.free:=by simpa using hk
          subst e1 e2
          cases q
          exact .inr ⟨List.mem_cons_self,rfl⟩
        · exact .inl q
      · exact .inl q
    · exact .inr ⟨List.mem_cons_of_mem _ q.1,q.2⟩
theorem clOf_some (env:Env):∀(l:List (Str×NameKind)) (acc:List (Str×Addr)) (x:Str),((x,NameKind.free)∈l∨(acc.lookup x).isSome=true)→∃c,(clOf env l acc).lookup x=some c
  | [],acc,x,h=>by
    rcases h with h|h
    · cases h
    · exact Option.isSome_iff_exists.mp h
  | (n,k)::r,acc,x,h=>by
    refine clOf_some env r _ x ?_
    rcases h with h|h
    · rcases List.mem_cons.mp h with e|e
      · cases e
        exact .inr (by simp)
      · exact .inl e
    · refine .inr ?_
      split
      · rw [List.lookup_cons]
        split
        · rfl
        · exact h
      · exact h
theorem cl_of {env:Env}{sc:Scope}{x:Str}{c:Addr}(h:∀y∈sc.names,y.2=.free→∃c,env.cells.lookup y.1=some c) (e:(clOf env sc.names []).lookup x=some c):env.cells.lookup x=some c:=by
  rcases clOf_look env _ _ x c e with q|⟨q1,q2⟩
  · cases q
  · obtain⟨c',hc⟩:=h _ q1 rfl
    have hc':env.cells.lookup x=some c':=hc
    rw [q2,hc']
    rfl
theorem look_relabel {env:Env}:∀{names:List (Str×NameKind)}{x:Str},
    (names.map λ(n,k)=>if (k == NameKind.free&&env.scope.kind == .function&&env.kindOf n == some .cell) then (n,NameKind.cell) else (n,k)).lookup x =
      (names.lookup x).map λk=>if (k == NameKind.free&&env.scope.kind == .function&&env.kindOf x == some .cell) then NameKind.cell else k
  | [],x=>rfl
  | (n,k)::r,x=>by
    have ih:=@look_relabel env r x
    show List.lookup x ((if (k == NameKind.free&&env.scope.kind == .function&&env.kindOf n == some .cell)=true then (n,NameKind.cell) else (n,k))::_)=_
    cases hx:x == n with
    | true =>
      have e:x=n:=by simpa using hx
      subst e
      cases hc:(k == NameKind.free&&env.scope.kind == .function&&env.kindOf x == some .cell)<;>simp only [List.lookup_cons,hc,beq_self_eq_true,if_true,Bool.false_eq_true,if_false,Option.map_some]
    | false =>
      cases hc:(k == NameKind.free&&env.scope.kind == .function&&env.kindOf n == some .cell)<;>(simp only [List.lookup_cons,hx,if_true,Bool.false_eq_true,if_false];exact ih)
theorem rl_look (sc:Scope) (env:Env) (x:Str):(relabel sc env).names.lookup x=(sc.names.lookup x).map λk=>if (k == NameKind.free&&env.scope.kind == .function&&env.kindOf x == some .cell) then NameKind.cell else k:=look_relabel
theorem rl_local {sc:Scope}{env:Env}{x:Str}(h:sc.names.lookup x=some .local):(relabel sc env).names.lookup x=some .local:=by
  rw [rl_look,h];rfl
theorem rl_glob {sc:Scope}{env:Env}{x:Str}(h:sc.names.lookup x=some .globalImplicit):(relabel sc env).names.lookup x=some .globalImplicit:=by
  rw [rl_look,h];rfl
theorem rl_free {sc:Scope}{env:Env}{x:Str}(h:sc.names.lookup x=some .free):(relabel sc env).names.lookup x=some .cell∨(relabel sc env).names.lookup x=some .free:=by
  rw [rl_look,h]
  simp only [Option.map_some]
  split
  · exact .inl rfl
  · exact .inr rfl
theorem rl_cell {sc:Scope}{env:Env}{x:Str}(hc:∀y∈sc.names,y.2≠.cell) (h:(relabel sc env).names.lookup x=some .cell∨(relabel sc env).names.lookup x=some .free):sc.names.lookup x=some .free:=by
  rw [rl_look] at h
  cases hx:sc.names.lookup x with
  | none=>rw [hx] at h;rcases h with h|h<;>cases h
  | some k =>
    rw [hx] at h
    simp only [Option.map_some,Option.some.injEq] at h
    cases k with
    | free=>rfl
    | cell=>exact absurd rfl (hc _ (PySem.mem_of_lookup hx))
    | _=>rcases h with h|h<;>(split at h<;>first|(cases h;done)|(rename_i q;exfalso;revert q;simp;done))
noncomputable def cxComp (X:Cx) (sc:Scope) (N:List Str) (C:Addr) (s:Shared) (H:Hp) (fp:List Addr):Cx where
  prog:=X.prog
  w:=X.w
  K:=X.K
  mg:=X.mg
  base:=X.base
  A:=X.A
  N:=N
  s₀:=s
  H₀:=H
  env:=compEnvC sc (clOf X.env sc.names []) C X.env
  outer:=X.stack
  stack:=X.stack
  ex:=fp
  calm:=X.calm
  fn:=λ_=>false
  pn:=[]
  xe:=λ_ _=>False
section
variable {call:Nat→List D→Option R}{G:Gx}{k:Nat}{X:Cx}{sc sc':Scope}{N:List Str}
structure ScOk (sc:Scope):Prop where
  kind:sc.kind=.function
  cell:∀y∈sc.names,y.2≠.cell
  nd:(sc.names.map (·.1)).Nodup
  pl:∀x∈ownN sc++freeN sc,plainName x=true
theorem scope_ok (h:scopeOk sc=true):ScOk sc:=by
  unfold scopeOk at h
  simp only [Bool.and_eq_true,beq_iff_eq,List.all_eq_true,bne_iff_ne,ne_eq,decide_eq_true_eq] at h
  obtain⟨⟨⟨h1,h2⟩,h3⟩,h4⟩:=h
  exact⟨h1,h2,h3,h4⟩
theorem look_mem {l:List (Str×NameKind)}(nd:(l.map (·.1)).Nodup) {x:Str}{k:NameKind}(h:(x,k)∈l):l.lookup x=some k:=by
  induction l with
  | nil=>cases h
  | cons p r ih =>
    obtain⟨n,k'⟩:=p
    simp only [List.map_cons,List.nodup_cons] at nd
    rcases List.mem_cons.mp h with e|e
    · cases e
      simp [List.lookup_cons]
    · have hne:(x == n)=false:=by
        rw [beq_eq_false_iff_ne]
        intro z
        subst z
        exact nd.1 (List.mem_map.mpr ⟨_,e,rfl⟩)
      rw [List.lookup_cons,hne]
      exact ih nd.2 e
theorem own_mem {x:Str}:x∈ownN sc↔(x,NameKind.local)∈sc.names∧x≠Str.ofString ".0":=by
  unfold ownN
  simp only [List.mem_map,List.mem_filter,Bool.and_eq_true,beq_iff_eq,bne_iff_ne,ne_eq]
  constructor
  · rintro⟨⟨n,k⟩,⟨h1,h2,h3⟩,rfl⟩
    have h2:k=.local:=h2
    subst h2
    exact⟨h1,h3⟩
  · rintro⟨h1,h2⟩
    exact⟨_,⟨h1,rfl,h2⟩,rfl⟩
theorem free_mem {x:Str}:x∈freeN sc↔(x,NameKind.free)∈sc.names:=by
  unfold freeN
  simp only [List.mem_map,List.mem_filter,beq_iff_eq]
  constructor
  · rintro⟨⟨n,k⟩,⟨h1,h2⟩,rfl⟩
    have h2:k=.free:=h2
    subst h2
    exact h1
  · intro h
    exact⟨_,⟨h,rfl⟩,rfl⟩
theorem sub_nd {p:(Str×NameKind)→Bool}(nd:(sc.names.map (·.1)).Nodup):((sc.names.filter p).map (·.1)).Nodup:=nd.sublist ((List.filter_sublist).map _)
theorem names_nd (S:ScOk sc):(ownN sc++freeN sc).Nodup:=by
  rw [List.nodup_append]
  refine⟨sub_nd S.nd,sub_nd S.nd,λx hx y hy e=>?_⟩
  subst e
  have h1:=look_mem S.nd (own_mem.mp hx).1
  have h2:=look_mem S.nd (free_mem.mp hy)
  rw [h1] at h2
  cases h2
end
end Dw
namespace Dw
open PySem PySem.Spec PyProof.Rows L2
section
variable {call:Nat→List D→Option R}{G:Gx}{k:Nat}{X:Cx}{sc sc':Scope}{N:List Str}
noncomputable def Takes (X:Cx) (sc':Scope):Prop:=∀x,(x,NameKind.free)∈sc'.names→X.env.kindOf x=some .cell∨X.env.kindOf x=some .free
theorem takes_cells (ok:X.Ok) (h:Takes X sc'):∀y∈sc'.names,y.2=.free→∃c,X.env.cells.lookup y.1=some c:=λy hy e=>by
  obtain⟨x,kk⟩:=y
  have e:kk=.free:=e
  subst e
  exact ok.has x (h x hy)
theorem cx_ok {pins:List (Addr×Obj)}{σ:L2.St}{H:Hp}{s:Shared}{fp:List Addr}{N':List Str}(I:Inv X pins σ H s) (S:ScOk sc') (T:Takes X sc') (hf:∀b∈fp,FpOk X pins H b) (hl:∀b∈fp,b<s.heap.objs.size) :
    (cxComp X sc' N' s.heap.objs.size s H fp).Ok:=by
  have hc:=takes_cells I.ok T
  refine⟨I.ok.mod,S.kind,I.ok.glob,I.ok.blt,Nat.le_refl _,λx y c h1 h2=>?_,λx h=>?_,λx c h=>?_,I.ok.hd,I.ok.frames,.inl rfl,λb hb=>⟨Nat.ne_of_lt (hl b hb),λx c e=>?_⟩,I.bs,Nat.le_trans I.ok.bsz I.sz,λb o e hb=>?_,λb hb hs=>?_,I.stack,I.stkFree⟩
  · exact I.ok.inj x y c (cl_of hc h1) (cl_of hc h2)
  · have hx:=rl_cell S.cell h
    exact clOf_some X.env _ _ x (.inl (PySem.mem_of_lookup hx))
  · exact absurd h (by intro z;cases z)
  · exact (hf b hb).2.2.2.2.1 x c (cl_of hc e)
  · rcases (hf b hb).2.2.2.1 with q|q
    · exact I.ok.noex b o e q
    · exact absurd (Nat.lt_of_lt_of_le (Heap.lt_size (I.ok.bs b o e).1) q) (Nat.lt_irrefl _)
  · rcases List.mem_cons.mp (I.stkSub b hs) with e|e
    · exact (hf b hb).2.1 e
    · exact (hf b hb).2.2.1 e
theorem cx_start {pins:List (Addr×Obj)}{σ:L2.St}{H:Hp}{s:Shared}{fp:List Addr}{N':List Str}{h':Heap}{t':Nat}{m:Str→Option Value}(I:Inv X pins σ H s) (S:ScOk sc') (T:Takes X sc') (hf:∀b∈fp,FpOk X pins H b) (hl:∀b∈fp,b<s.heap.objs.size)
    (kp:∀b o,s.heap.get? b=some o→h'.get? b=some o) (hn:h'.Ns s.heap.objs.size m) (τ:L2.St) (hlen:τ.length=N'.length)
    (hv:∀(i:Nat) (x:Str) (v:V),N'[i]?=some x→τ[i]?=some (some v)→(x,NameKind.free)∈sc'.names∧∃j:Nat,X.N[j]?=some x∧σ[j]?=some (some v)) (hvis:∀x,(x,NameKind.free)∈sc'.names→Vis X.env.scope x) :
    Inv (cxComp X sc' N' s.heap.objs.size s H fp) (X.pn++pins) τ H { s with heap:=h',toks:=t' }:=by
  have hc:=takes_cells I.ok T
  refine⟨cx_ok I S T hf hl,rfl,I.bare,Un.kept kp,⟨m,hn,λi x v e1 e2 e3=>?_⟩,λx c e=>?_,I.hok.fresh (Nat.le_refl _),λx c e=>I.freeC x c (cl_of hc e),λp hp=>?_,I.hok.kept kp,hlen⟩
  · obtain⟨hx,j,q1,q2⟩:=hv i x v e1 e2
    obtain⟨m0,hm0,hl0⟩:=I.loc
    obtain⟨u,r,l⟩:=hl0 j x v q1 q2 (hvis x hx)
    refine⟨u,r,.inr ⟨?_,?_⟩⟩
    · exact rl_free (look_mem S.nd hx)
    · obtain⟨c,ec⟩:=clOf_some X.env _ [] x (.inl hx)
      refine⟨c,ec,?_⟩
      have ec':=cl_of hc ec
      rcases l with ⟨hk,_⟩|⟨hk,c',hc',hcell⟩
      · rcases T x hx with z|z<;>(rw [hk] at z;cases z)
      · rw [ec'] at hc'
        cases hc'
        obtain⟨o,ho,hd⟩:=hcell
        exact⟨o,kp c o ho,hd⟩
  · obtain⟨v,o,ho,hd⟩:=I.cell x c (cl_of hc e)
    exact⟨v,o,kp c o ho,hd⟩
  · have hp':p∈X.pn++pins:=hp
    obtain⟨e,n,ne,nf,d⟩:=I.pin p hp'
    refine⟨kp _ _ e,n,Nat.ne_of_lt (Heap.lt_size e),λhs=>?_,d⟩
    rcases List.mem_cons.mp (I.stkSub p.1 hs) with z|z
    · exact ne z
    · exact nf z
theorem cx_xg (g:XG call G k X sc N) (S:ScOk sc') {C:Addr}{s:Shared}{H:Hp}{fp:List Addr}:XG call G k (cxComp X sc' (ownN sc'++freeN sc') C s H fp) sc' (ownN sc'++freeN sc'):=by
  refine⟨rfl,names_nd S,λx h=>?_,λx h=>?_,λx h=>?_,λx h=>?_,g.calm,PassesOwn.never,g.room,λf i h=>?_,g.blt,g.cons,λu hu=>?_,λu hu=>?_,g.two,λc h=>⟨(g.rse c h).ex⟩,λf i h=>⟨(g.xdf f i h).ex⟩⟩
  · unfold visB at h
    simp only [Bool.or_eq_true,beq_iff_eq] at h
    rcases h with (h|h)|h
    · exact .inl (rl_local h)
    · exact absurd rfl (S.cell _ (PySem.mem_of_lookup h))
    · rcases rl_free (env:=X.env) h with q|q
      · exact .inr (.inl q)
      · exact .inr (.inr q)
  · simp only [Bool.or_eq_true,beq_iff_eq] at h
    rcases h with h|h
    · exact⟨.inl (rl_local h),.inr (rl_local h)⟩
    · exact absurd rfl (S.cell _ (PySem.mem_of_lookup h))
  · unfold glB at h
    rw [beq_iff_eq] at h
    exact rl_glob h
  · unfold capB at h
    simp only [Bool.or_eq_true,beq_iff_eq] at h
    rcases h with h|h
    · exact absurd rfl (S.cell _ (PySem.mem_of_lookup h))
    · exact rl_free h
  · obtain⟨a,fd,ps,h1,h2,h3,h4,h5⟩:=(g.defs f i h).ex
    exact⟨a,fd,ps,h1,h2,h3,h4,h5⟩
  · obtain⟨a,fd,ps,gg,gV,h1,h2,h3,h4,h5,h6,h7⟩:=(g.ucal u hu).ex
    exact⟨a,fd,ps,gg,gV,h1,h2,h3,h4,h5,h6,h7⟩
  · exact⟨(g.meth u hu).ex⟩
end
end Dw
namespace Dw
open PySem PySem.Spec PyProof.Rows L2
section
variable {call:Nat→List D→Option R}{G:Gx}{k:Nat}{X:Cx}{sc sc':Scope}{N:List Str}
variable (X) in
noncomputable def SndI (tg iter:Expr) (b:Bool) (src:En→Option (List D)):Prop:=∃wi:TI,PI X tg iter wi∧∀(Ge H:Hp) (F:Fz) (σ:En) (τ:L2.St) (its:List D) (Rr:It→Hp→Prop),src σ=some its→SR X.K Ge H F σ τ →
  (∀J H' F',Gr H F H' F'→ItOk X.K J H' F' its→(b=true→its.length≤lim)→Rr J H')→wi τ H Rr
noncomputable def iSeq (K:PySem.W.Frag) (tl:TE):TI:=fun σ H R=>tl σ H λx H1=>∃a xs,x=.ref a∧((SqL K H1 a xs∧(xs.length≤sizeLine→R (Itl K a) H1))∨(SqT K H1 a xs∧(xs.length≤sizeLine→R (Itt K a) H1)))
theorem pi_seq {tg l:Expr}{tl:TE}(hl:PE X l tl):PI X tg l (iSeq X.K tl):=by
  intro pins s σ H R I h
  refine thn (hl pins s σ H _ I h) λv s1 ⟨x,H1,I1,r1,a,xs,e,q⟩=>?_
  subst e;cases r1
  have hf:∀b∈[s1.heap.objs.size],FpOk X pins H1 b:=λb hb=>by
    have e:b=s1.heap.objs.size:=by simpa using hb
    subst e;exact I1.fpOk (Nat.le_refl _) (I1.hok.fresh (Nat.le_refl _))
  rcases q with ⟨hq,q⟩|⟨hq,q⟩
  · obtain⟨its,rv,p,hz⟩:=I1.list hq
    exact wpAny_pyIter_list p.isList ⟨s1.heap.objs.size,[s1.heap.objs.size],_,_,H1,rfl,I1.kept (t':=s1.toks) λb o e=>Heap.get?_push_of_some _ e,turn_list a _,⟨_,Heap.get?_push_size _ rfl,rfl,rfl⟩,hf,q hz⟩
  · obtain⟨its,rv,p,hz⟩:=I1.tuple hq
    exact wpAny_pyIter_tuple (show s1.heap.IsTuple a its.toArray from p) ⟨s1.heap.objs.size,[s1.heap.objs.size],_,_,H1,rfl,I1.kept (t':=s1.toks) λb o e=>Heap.get?_push_of_some _ e,turn_tuple a _,⟨_,Heap.get?_push_size _ rfl,rfl,rfl⟩,hf,q hz⟩
theorem snd_seq {tg l:Expr}{c:C}(h:SndE call X l c):SndI X tg l true (fun σ=>(evE call σ c).bind λx=>seqD x.2):=by
  obtain⟨t,p,q⟩:=h
  refine⟨_,pi_seq p,λGe H F σ τ its Rr hs hr kk=>?_⟩
  obtain⟨r,e1,e2⟩:=bind1 hs
  refine q Ge H F σ τ r _ e1 hr λv H1 F1 g rr=>?_
  obtain⟨F2,g2,rd⟩:=rr.fz g
  obtain⟨b,d⟩:=r
  cases d with
  | lst ds =>
    cases e2
    obtain⟨a,vs,rfl,hl,hrd⟩:=rd
    exact⟨a,vs,rfl,.inl ⟨hl.sq,λz=>kk _ H1 F2 g2 (it_list hl hrd) λ_=>by rw [←RDs.length hrd];exact z⟩⟩
  | tup ds =>
    cases e2
    obtain⟨a,vs,rfl,hl,hrd⟩:=rd
    exact⟨a,vs,rfl,.inr ⟨hl,λz=>kk _ H1 F2 g2 (it_tup hl hrd) λ_=>by rw [←RDs.length hrd];exact z⟩⟩
  | _=>cases e2
theorem snd_enm {es:List Expr}{kk:Nat}{tp:Pos}{x:Str}{a:Expr}{ca:C}{p pos:Pos}(hx:x=Str.ofString "enumerate") (hg:Gl X x) (hm:X.mg x=none) (hn:[a].all noStar=true) (ha:SndE call X a ca) :
    SndI X (.Tuple es kk tp) (.Call (.Name x p) [a] [] pos) true (fun σ=>(evE call σ ca).bind λx=>(seqD x.2).bind λxs=>some (enumD 0 xs)):=by
  simp only [List.all_cons,List.all_nil,Bool.and_true] at hn
  have s1:starEach [a] X.env=[(false,eval a X.env)]:=star_cons hn
  obtain⟨ta,pa,qa⟩:=ha
  refine⟨_,pi_enm hx hg hm (pa_cons pa pa_nil s1) s1,λGe H F σ τ its Rr hs hr kk=>?_⟩
  obtain⟨r,e1,e2⟩:=bind1 hs
  obtain⟨xs,e5,e6⟩:=bind1 e2
  cases e6
  refine qa Ge H F σ τ r _ e1 hr λv H1 F1 g1 rr1=>?_
  obtain⟨F1',g1',rd1⟩:=rr1.fz g1
  obtain⟨b1,d1⟩:=r
  cases d1 with
  | lst ds1 =>
    cases e5
    obtain⟨p1,v1,rfl,h1,q1⟩:=rd1
    exact⟨true,p1,v1,rfl,LsR.sq h1,λz=>kk _ H1 F1' g1' (it_enm (kd:=true) h1 q1) λ_=>by rw [enumD_length,←RDs.length q1];exact z⟩
  | tup ds1 =>
    cases e5
    obtain⟨p1,v1,rfl,h1,q1⟩:=rd1
    exact⟨false,p1,v1,rfl,h1,λz=>kk _ H1 F1' g1' (it_enm (kd:=false) h1 q1) λ_=>by rw [enumD_length,←RDs.length q1];exact z⟩
  | _=>cases e5
theorem evAP_len:∀{cs:List C}{σ:En}{ds:List D},evAP call σ cs=some ds→ds.length=cs.length
  | [],_,_,h=>by cases h;rfl
  | c::cr,σ,ds,h=>by
    obtain⟨x,e1,e2⟩:=bind1 (by simpa only [evAP_cons] using h)
    obtain⟨xs,e3,e4⟩:=bind1 e2
    cases e4
    simp [evAP_len e3]
theorem snd_rng {tg:Expr}{x:Str}{rs:List Expr}{cs:List C}{p pos:Pos}(hx:x=Str.ofString "range") (hg:Gl X x) (hm:X.mg x=none) (hn:rs.all noStar=true) (hl:rs.length=1∨rs.length=2∨rs.length=3) (hcl:cs.length=rs.length) (h:SndAP call X rs cs) :
    SndI X tg (.Call (.Name x p) rs [] pos) false (fun σ=>(evAP call σ cs).bind rngD):=by
  subst hx
  obtain⟨t,pt,q⟩:=h
  match rs,hl,hn,hcl,pt with
  | [a],_,hn,hcl,pt =>
    simp only [List.all_cons,List.all_nil,Bool.and_true] at hn
    refine⟨_,pi_range1 hg hm pt (star_cons hn),λGe H F σ τ its Rr hs hr kk=>?_⟩
    obtain⟨ds,e1,e2⟩:=bind1 hs
    have hlen:=evAP_len e1
    rw [hcl] at hlen
    refine q Ge H F σ τ ds _ e1 hr λvs H1 F1 g rr=>?_
    match ds,e2,rr,hlen with
    | [.int n],e2,rr,_ =>
      obtain⟨hc,rfl⟩:=ite_some (show (if -(2^62)≤n∧n<2^62 then some ((List.range n.toNat).map λi=>D.int (i:Nat)) else none)=some its from e2)
      obtain⟨v,rfl,hv⟩:=RPs.one rr
      have e:(List.range n.toNat).map (λi:Nat=>D.int (i:Nat))=(List.range n.toNat).map λi:Nat=>D.int (0+(i:Nat)):=by simp
      exact⟨n,by rw [hv.int],hc.1,hc.2,kk _ H1 F1 g (by rw [e];exact it_rng 0 n.toNat) λz=>nomatch z⟩
  | [a,b],_,hn,hcl,pt =>
    simp only [List.all_cons,List.all_nil,Bool.and_true,Bool.and_eq_true] at hn
    have s2:starEach [b] X.env=[(false,eval b X.env)]:=star_cons hn.2
    have s1:starEach [a,b] X.env=[(false,eval a X.env),(false,eval b X.env)]:=(star_cons hn.1).trans (by rw [s2])
    refine⟨_,pi_rangeL hg hm pt s1 s2,λGe H F σ τ its Rr hs hr kk=>?_⟩
    obtain⟨ds,e1,e2⟩:=bind1 hs
    have hlen:=evAP_len e1
    rw [hcl] at hlen
    refine q Ge H F σ τ ds _ e1 hr λvs H1 F1 g rr=>?_
    match ds,e2,rr,hlen with
    | [.int i,.int j],e2,rr,_ =>
      cases e2
      obtain⟨v,w,rfl,hv,hw⟩:=RPs.two rr
      have e:(List.range (j - i).toNat).map (λk:Nat=>D.int (i+(k:Nat)))=(List.range (j - i).toNat).map λk:Nat=>D.int (i+(k:Nat) * 1):=by
        refine List.map_congr_left λk _=>?_
        rw [Int.mul_one]
      exact⟨i,j,by rw [hv.int,hw.int],kk _ H1 F1 g (by rw [e];exact it_rngS i 1 (j - i).toNat) λz=>nomatch z⟩
  | [a,b,c],_,hn,hcl,pt =>
    simp only [List.all_cons,List.all_nil,Bool.and_true,Bool.and_eq_true] at hn
    have s3:starEach [c] X.env=[(false,eval c X.env)]:=star_cons hn.2.2
    have s2:starEach [b,c] X.env=[(false,eval b X.env),(false,eval c X.env)]:=(star_cons hn.2.1).trans (by rw [s3])
    have s1:starEach [a,b,c] X.env=[(false,eval a X.env),(false,eval b X.env),(false,eval c X.env)]:=(star_cons hn.1).trans (by rw [s2])
    refine⟨_,pi_range3 hg hm pt s1 s2,λGe H F σ τ its Rr hs hr kk=>?_⟩
    obtain⟨ds,e1,e2⟩:=bind1 hs
    have hlen:=evAP_len e1
    rw [hcl] at hlen
    refine q Ge H F σ τ ds _ e1 hr λvs H1 F1 g rr=>?_
    match ds,e2,rr,hlen with
    | [.int i,.int j,.int k],e2,rr,_ =>
      obtain⟨hc,rfl⟩:=ite_some (show (if -(2^62)≤i∧i<2^62∧-(2^62)≤j∧j<2^62∧k≠0∧k.natAbs<2^30 then some ((List.range (rszD i j k).toNat).map λn=>D.int (i+(n:Nat) * k)) else none)=some its from e2)
      obtain⟨v,w,x,rfl,hv,hw,hx⟩:=RPs.three rr
      exact⟨i,j,k,by rw [hv.int,hw.int,hx.int],hc,kk _ H1 F1 g (it_rngS i k (rszD i j k).toNat) λz=>nomatch z⟩
theorem snd_rev {tg:Expr}{x y:Str}{rs:List Expr}{cs:List C}{p p' pos pos':Pos}(hx:x=Str.ofString "reversed") (hy:y=Str.ofString "range") (hg:Gl X x) (hm:X.mg x=none) (hg':Gl X y) (hm':X.mg y=none) (hn:rs.all noStar=true) (hl:rs.length=1) (hcl:cs.length=rs.length) (h:SndAP call X rs cs) :
    SndI X tg (.Call (.Name x p') [.Call (.Name y p) rs [] pos] [] pos') false (fun σ=>(evAP call σ cs).bind rvD):=by
  subst hx hy
  obtain⟨t,pt,q⟩:=h
  match rs,hl,hn,hcl,pt with
  | [a],_,hn,hcl,pt =>
    simp only [List.all_cons,List.all_nil,Bool.and_true] at hn
    refine⟨_,pi_rev hg' hm' hg hm pt (star_cons hn),λGe H F σ τ its Rr hs hr kk=>?_⟩
    obtain⟨ds,e1,e2⟩:=bind1 hs
    have hlen:=evAP_len e1
    rw [hcl] at hlen
    refine q Ge H F σ τ ds _ e1 hr λvs H1 F1 g rr=>?_
    match ds,e2,rr,hlen with
    | [.int n],e2,rr,_ =>
      obtain⟨hc,rfl⟩:=ite_some (show (if -(2^62)≤n∧n<2^62 then some ((List.range n.toNat).map λi=>D.int ((n.toNat:Int) - 1 - (i:Nat))) else none)=some its from e2)
      obtain⟨v,rfl,hv⟩:=RPs.one rr
      have e:(List.range n.toNat).map (λi:Nat=>D.int ((n.toNat:Int) - 1 - (i:Nat)))=(List.range n.toNat).map λi:Nat=>D.int (((n.toNat:Int) - 1)+(i:Nat) * (-1)):=by
        refine List.map_congr_left λi _=>?_
        rw [show ((n.toNat:Int) - 1)+(i:Nat) * (-1)=(n.toNat:Int) - 1 - (i:Nat) by omega]
      exact⟨n,by rw [hv.int],hc,kk _ H1 F1 g (by rw [e];exact it_rngS _ (-1) n.toNat) λz=>nomatch z⟩
end
end Dw
namespace Dw
open PySem PySem.Spec PyProof.Rows L2
section
variable {call:Nat→List D→Option R}{G:Gx}{k:Nat}{X:Cx}{sc sc':Scope}{N:List Str}
theorem optAll_get {α β:Type}{f:α→Option β}:∀{l:List α}{ks:List β},optAll f l=some ks→ks.length=l.length∧∀(i:Nat) (x:α),l[i]?=some x→∃j,ks[i]?=some j∧f x=some j
  | [],ks,h=>by cases h;exact⟨rfl,λi x e=>by simp at e⟩
  | a::r,ks,h=>by
    obtain⟨b,e1,e2⟩:=bind1 (show ((f a).bind λx=>(optAll f r).bind λxs=>some (x::xs))=some ks from h)
    obtain⟨bs,e3,e4⟩:=bind1 e2
    cases e4
    obtain⟨h1,h2⟩:=optAll_get e3
    refine⟨by simp [h1],λi x e=>?_⟩
    cases i with
    | zero=>simp at e;subst e;exact⟨b,rfl,e1⟩
    | succ i=>simp at e;obtain⟨j,q1,q2⟩:=h2 i x e;exact⟨j,by simpa using q1,q2⟩
theorem cap_of {x:Str}{j:Nat}(h:capOf sc N x=some j):capB sc x=true∧N[j]?=some x∧visB sc x=true:=by
  unfold capOf at h
  split at h
  · rename_i hc
    unfold varOf at h
    split at h
    · rename_i hv
      rw [Bool.and_eq_true] at hv
      exact⟨hc,slot_get h,hv.1⟩
    · cases h
  · cases h
variable {ks:List Nat}
theorem takes_of (g:XG call G k X sc N) (hk:optAll (capOf sc N) (freeN sc')=some ks):Takes X sc':=λx hx=>by
  obtain⟨i,hi⟩:=List.mem_iff_getElem?.mp (free_mem.mpr hx)
  obtain⟨j,e1,e2⟩:=(optAll_get hk).2 i x hi
  exact g.cap x (cap_of e2).1
theorem vis_of (g:XG call G k X sc N) (hk:optAll (capOf sc N) (freeN sc')=some ks):∀x,(x,NameKind.free)∈sc'.names→Vis X.env.scope x:=λx hx=>by
  obtain⟨i,hi⟩:=List.mem_iff_getElem?.mp (free_mem.mpr hx)
  obtain⟨j,e1,e2⟩:=(optAll_get hk).2 i x hi
  exact g.vis x (cap_of e2).2.2
noncomputable def tau0 (τ:L2.St) (nl:Nat) (ks:List Nat):L2.St:=List.replicate nl none++ks.map λj=>(τ[j]?).join
theorem tau0_len (τ:L2.St) (nl:Nat):(tau0 τ nl ks).length=nl+ks.length:=by simp [tau0]
theorem tau0_get {τ:L2.St}{nl i:Nat}{v:V}(h:(tau0 τ nl ks)[i]?=some (some v)):∃m j,i=nl+m∧ks[m]?=some j∧τ[j]?=some (some v):=by
  unfold tau0 at h
  by_cases hi:i<nl
  · rw [List.getElem?_append_left (by simpa using hi),List.getElem?_replicate] at h
    split at h<;>cases h
  · rw [List.getElem?_append_right (by simpa using hi),List.getElem?_map] at h
    simp only [List.length_replicate] at h
    cases q:ks[i - nl]? with
    | none=>rw [q] at h;cases h
    | some j =>
      rw [q] at h
      refine⟨i - nl,j,by omega,q,?_⟩
      simp only [Option.map_some,Option.some.injEq] at h
      cases q2:τ[j]? with
      | none=>rw [q2] at h;cases h
      | some o=>rw [q2] at h;simpa using h
theorem tau0_at {τ:L2.St}{nl m j:Nat}{v:V}(h1:ks[m]?=some j) (h2:τ[j]?=some (some v)):(tau0 τ nl ks)[nl+m]?=some (some v):=by
  unfold tau0
  rw [List.getElem?_append_right (by simp),List.getElem?_map]
  simp [h1,h2]
theorem capt_get {σ:En}{nl i:Nat}{r:R}(h:getv (capt σ nl ks) i=some r):∃m j,i=nl+m∧ks[m]?=some j∧getv σ j=some r:=by
  unfold getv capt at h
  by_cases hi:i<nl
  · rw [List.getElem?_append_left (by simpa using hi),List.getElem?_replicate] at h
    split at h<;>cases h
  · rw [List.getElem?_append_right (by simpa using hi),List.getElem?_map] at h
    simp only [List.length_replicate] at h
    cases q:ks[i - nl]? with
    | none=>rw [q] at h;cases h
    | some j =>
      rw [q] at h
      exact⟨i - nl,j,by omega,q,by simpa using h⟩
theorem ks_inj (S:ScOk sc') (hk:optAll (capOf sc N) (freeN sc')=some ks) {m m' j:Nat}(h1:ks[m]?=some j) (h2:ks[m']?=some j):m=m':=by
  obtain⟨hl,hg⟩:=optAll_get hk
  have get:∀{m:Nat},ks[m]?=some j→∃x,(freeN sc')[m]?=some x∧N[j]?=some x:=λ{m} h=>by
    obtain⟨q,_⟩:=List.getElem?_eq_some_iff.mp h
    have hx:(freeN sc')[m]?=some (freeN sc')[m]:=List.getElem?_eq_getElem (by omega)
    obtain⟨j',e1,e2⟩:=hg m _ hx
    rw [h] at e1
    cases e1
    exact⟨_,hx,(cap_of e2).2.1⟩
  obtain⟨x,a1,a2⟩:=get h1
  obtain⟨y,b1,b2⟩:=get h2
  rw [a2] at b2
  cases b2
  exact nodup_ix (sub_nd S.nd) a1 b1
theorem sr_start (S:ScOk sc') (hk:optAll (capOf sc N) (freeN sc')=some ks) {K:PySem.W.Frag}{Ge H:Hp}{F:Fz}{σ:En}{τ:L2.St}(nl:Nat) (s:SR K Ge H F σ τ):SR K Ge H F (capt σ nl ks) (tau0 τ nl ks):=by
  refine⟨by simp [capt,tau0],s.ent,s.dom,λi d e=>?_,λi d e hd=>?_,λi i' d e h1 h2 h3=>?_,λi m ks' e=>?_,λi ns ds e=>?_,s.tb⟩
  · obtain⟨m,j,rfl,h1,h2⟩:=capt_get e
    obtain⟨v,q1,q2⟩:=s.val j d h2
    exact⟨v,tau0_at h1 q1,q2⟩
  · obtain⟨m,j,rfl,h1,h2⟩:=capt_get e
    obtain⟨a,ds,vs,q1,q2,q3⟩:=s.own j d h2 hd
    exact⟨a,ds,vs,q1,tau0_at h1 q2,q3⟩
  · obtain⟨m,j,rfl,a1,a2⟩:=capt_get h1
    obtain⟨m',j',rfl,b1,b2⟩:=capt_get h2
    obtain⟨a,u,q2,_⟩:=s.addr a2
    obtain⟨a',u',p2,_⟩:=s.addr b2
    rw [tau0_at a1 q2,tau0_at b1 p2] at h3
    have:j=j':=s.sep j j' d e a2 b2 (by rw [q2,p2,Option.some.inj h3])
    subst this
    rw [ks_inj S hk a1 b1]
  · obtain⟨m',j,rfl,h1,h2⟩:=capt_get e
    obtain⟨a,q1,q2⟩:=s.dct j m ks' h2
    exact⟨a,tau0_at h1 q1,q2⟩
  · obtain⟨m',j,rfl,h1,h2⟩:=capt_get e
    obtain⟨a,q1,q2⟩:=s.obj j ns ds h2
    exact⟨a,tau0_at h1 q1,q2⟩
theorem tg_own (S:ScOk sc') {tg:Expr}{t:Tg}(h:tgOf sc' (ownN sc'++freeN sc') tg=some t) (σ:En):∀i,(t=.one i∨∃j,t=.two i j∨t=.two j i)→getv (capt σ (ownN sc').length ks) i=none:=by
  have one:∀{x:Str} {i:Nat},(sc'.names.lookup x == some .local||sc'.names.lookup x == some .cell)=true→slotOf (ownN sc'++freeN sc') x=some i→getv (capt σ (ownN sc').length ks) i=none:=λ{x i} hx hi=>by
    cases q:getv (capt σ (ownN sc').length ks) i with
    | none=>rfl
    | some r =>
      obtain⟨m,j,rfl,h1,h2⟩:=capt_get q
      have hs:=slot_get hi
      rw [List.getElem?_append_right (by omega)] at hs
      have hm:=free_mem.mp (List.mem_of_getElem? hs)
      have:=look_mem S.nd hm
      rw [this] at hx
      simp at hx
  unfold tgOf at h
  split at h
  · rename_i x pos
    split at h
    · rename_i hx
      cases hi:slotOf (ownN sc'++freeN sc') x with
      | none=>rw [hi] at h;cases h
      | some i =>
        rw [hi] at h
        cases h
        intro i' z
        rcases z with z|⟨j,z|z⟩<;>cases z
        exact one hx hi
    · cases h
  · rename_i x p y p' kk pos
    split at h
    · rename_i hx
      rw [Bool.and_eq_true,Bool.and_eq_true] at hx
      obtain⟨⟨hx,hy⟩,hne⟩:=hx
      cases hi:slotOf (ownN sc'++freeN sc') x with
      | none=>rw [hi] at h;cases h
      | some i =>
        cases hj:slotOf (ownN sc'++freeN sc') y with
        | none=>rw [hi,hj] at h;cases h
        | some j =>
          rw [hi,hj] at h
          cases h
          intro i' z
          rcases z with z|⟨j',z|z⟩<;>cases z
          · exact one hx hi
          · exact one hy hj
    · cases h
  · cases h
end
end Dw
namespace Dw
open PySem PySem.Spec PyProof.Rows L2
section
variable {call:Nat→List D→Option R}{G:Gx}{k:Nat}{X:Cx}{sc sc':Scope}{N:List Str}{ks:List Nat}
structure Off (X:Cx) (pins:List (Addr×Obj)) (H:Hp) (C:Addr) (h:Heap):Prop where
  n:H C=none
  ne:C≠X.env.locals
  ab:X.s₀.heap.objs.size≤C
  cl:∀x c,X.env.cells.lookup x=some c→c≠C
  pn:∀p∈X.pn++pins,p.1≠C
  ns:∃m,h.Ns C m
theorem Off.let {pins:List (Addr×Obj)}{τ:L2.St}{H:Hp}{s:Shared}{C:Addr}{h':Heap}(o:Off X pins H C s.heap) (I:Inv X pins τ H s) (hs:Heap.SameBut C s.heap h'):Inv X pins τ H { s with heap:=h' }:=
  I.turned (t':=s.toks) (λb ob hb e=>hs.extBut b ob hb e) o.n o.ne (.inr o.ab) o.cl o.pn
theorem tg_bind2 {K:PySem.W.Frag}{Ge H:Hp}{F:Fz}{σ σ':En}{τ:L2.St}{t:Tg}{d:D}{v:V}(hm:∀is,t≠.many is) (s:SR K Ge H F σ τ) (hb:bindT σ t d=some σ') (hv:RD K H F d v)
    (hn:∀i,(t=.one i∨∃j,t=.two i j∨t=.two j i)→getv σ i=none):gTg K t v τ H fun τ' H'=>H'=H∧SR K Ge H F σ' τ'∧SR K Ge H F σ τ'∧∀j,getv σ j≠none→τ'[j]?=τ[j]?:=by
  cases t with
  | one i =>
    cases hb
    have n1:=hn i (.inl rfl)
    exact⟨rfl,s.bind hv,s.skip n1,λj hj=>List.getElem?_set_ne λz:i=j=>hj (by rw [←z];exact n1)⟩
  | two i j =>
    unfold bindT at hb
    split at hb
    · rename_i heq;cases heq
    · rename_i i' j' x y heq
      cases heq
      cases hb
      obtain⟨a,vs,rfl,hs,hr⟩:=hv
      obtain⟨v1,r,rfl,h1,w,r2,e2,h2,h3⟩:=hr
      have h3:r2=[]:=h3
      subst h3
      subst e2
      have n1:=hn i (.inr ⟨j,.inl rfl⟩)
      have n2:=hn j (.inr ⟨i,.inr rfl⟩)
      exact⟨a,[v1,w],rfl,hs,rfl,v1,[w],rfl,w,[],rfl,rfl,rfl,(s.bind h1).bind h2,(s.skip n1).skip n2,λq hq=>by
        rw [List.getElem?_set_ne λz:j=q=>hq (by rw [←z];exact n2),List.getElem?_set_ne λz:i=q=>hq (by rw [←z];exact n1)]⟩
    · rename_i heq;cases heq
    · cases hb
  | many is=>exact absurd rfl (hm is)
theorem comp_run (g:XG call G k X sc N) {elt tg iter:Expr}{t:Tg}{ce:C}{b:Bool}{src:En→Option (List D)}{pos p':Pos}(S:ScOk sc') (ht:tgOf sc' (ownN sc'++freeN sc') tg=some t) (hk:optAll (capOf sc N) (freeN sc')=some ks)
    (he:∀X':Cx,XG call G k X' sc' (ownN sc'++freeN sc')→SndE call X' elt ce) (hi:SndI X tg iter b src) (hfs:∀x,foldedSetIterable iter X.env x=pure x)
    {pins:List (Addr×Obj)} {s:Shared} {τ:L2.St} {H:Hp} {Ge:Hp} {F:Fz} {σ:En} {its ys:List D} {use:Option (Value→Sem Unit)} {Qv:Value→Shared→Prop}
    (I:Inv X pins τ H s) (hS:SR X.K Ge H F σ τ) (hsrc:src σ=some its) (hev:evComp call ce (capt σ (ownN sc').length ks) t its=some ys) (hlen:(b=true→its.length≤lim)→its.length≤lim)
    (hend:∀(D C:Addr) (H':Hp) (F':Fz) (s':Shared),Gr H F H' F'→RR X.K H H' F' (true,.lst ys) (.ref D)→Inv X pins τ H' s'→Off X pins H' C s'.heap→compPost (model X.prog X.w) X.A X.xe use Qv (.ref D) C (.ok .next) s') :
    wpAny (model X.prog X.w) X.A (comprehension (.ListComp elt [⟨tg,iter,[],0⟩] sc' pos) sc' X.env p' (newList []) false (eval iter X.env) use) Qv X.xe s:=by
  have T:=takes_of g hk
  have hcl:=takes_cells I.ok T
  refine wpAny_comprehension_free (use:=use) rfl hfs (clos_of sc' X.env hcl) S.kind (λx hx e=>by obtain⟨n,kk⟩:=x;have e:kk=.local:=e;subst e;exact look_mem S.nd hx) ?_
  obtain⟨wi,pi,qi⟩:=hi
  refine thn (pi pins s τ H (λJ H'=>∃F',Gr H F H' F'∧ItOk X.K J H' F' its∧its.length≤lim) I (qi Ge H F σ τ its _ hsrc hS λJ H' F' g1 ok hl=>⟨F',g1,ok,hlen hl⟩)) λv s1 h1=>thn h1 λitv s2 h2=>?_
  obtain⟨it,fp,tn,J,H2,rfl,I2,Tn,st2,f2,F2,g2,ok2,hl2⟩:=h2
  refine wpAny_newObj_type (wpAny_newFunctionEnv S.cell (by intro y hy;simp at hy) (λh3 hns hsb=>?_) S.kind)
  dsimp only at hns hsb ⊢
  have hD:H2 s2.heap.objs.size=none:=I2.hok.fresh (Nat.le_refl _)
  generalize hDe:s2.heap.objs.size=Da at hns hsb hD ⊢
  have hD0:H Da=none:=g2.same.free hD
  have lt2:∀{c:Addr} {o:Obj},s2.heap.get? c=some o→c<Da:=λe=>by rw [←hDe];exact Heap.lt_size e
  have I3:Inv X pins τ (upd H2 Da (.lst [])) { s2 with heap:=s2.heap.push { cls:=.type "list",dict:=none,data:=.seq ([]:List Value).toArray } }:=by
    subst hDe
    exact I2.laid (t':=s2.toks) (λc u e=>Heap.get?_push_of_some _ e) (Nat.le_refl _) ⟨Nat.zero_le _,[],0,.nil,Heap.get?_push_size _ rfl⟩
  generalize hHp:s2.heap.push { cls:=.type "list",dict:=none,data:=.seq ([]:List Value).toArray }=hp at hns hsb I3 ⊢
  have hCs:hp.objs.size=Da+1:=by rw [←hHp,Heap.size_push,hDe]
  have kp:∀c o,hp.get? c=some o→h3.get? c=some o:=λc o e=>hsb.extBut c o (Nat.ne_of_lt (Heap.lt_size e)) (Heap.get?_push_of_some _ e)
  have lfp:∀c∈fp,c<Da:=λc hc=>by obtain⟨o,e,_⟩:=Tn.obj _ _ st2 c hc;exact lt2 e
  have f3:∀c∈fp,FpOk X pins (upd H2 Da (.lst [])) c:=λc hc=>⟨by rw [upd_ne (Nat.ne_of_lt (lfp c hc))];exact (f2 c hc).1,(f2 c hc).2⟩
  have lf3:∀c∈fp,c<({ s2 with heap:=hp }:Shared).heap.objs.size:=λc hc=>by show c<hp.objs.size;rw [hCs];exact Nat.lt_succ_of_lt (lfp c hc)
  obtain⟨kl,kg⟩:=optAll_get hk
  have I4:Inv (cxComp X sc' (ownN sc'++freeN sc') hp.objs.size { s2 with heap:=hp } (upd H2 Da (.lst [])) fp) (X.pn++pins) (tau0 τ (ownN sc').length ks) (upd H2 Da (.lst [])) { s2 with heap:=h3,toks:=s2.toks+([]:List (Str×Value)).length }:=by
    refine cx_start (N':=ownN sc'++freeN sc') I3 S T f3 lf3 kp hns _ (by rw [tau0_len,List.length_append,kl]) (λi x v e1 e2=>?_) (vis_of g hk)
    obtain⟨m,j,rfl,q1,q2⟩:=tau0_get e2
    rw [List.getElem?_append_right (by omega)] at e1
    have e1':(freeN sc')[m]?=some x:=by rw [←e1];congr 1;omega
    obtain⟨j',r1,r2⟩:=kg m x e1'
    rw [q1] at r1
    cases r1
    exact⟨free_mem.mp (List.mem_of_getElem? e1'),j,by rw [g.hN];exact (cap_of r2).2.1,q2⟩
  have g':XG call G k (cxComp X sc' (ownN sc'++freeN sc') hp.objs.size { s2 with heap:=hp } (upd H2 Da (.lst [])) fp) sc' (ownN sc'++freeN sc'):=cx_xg g S
  have se:=he _ g'
  have pg:=snd_tg g' ht
  have tow:=tg_own (ks:=ks) S ht σ
  generalize hX':cxComp X sc' (ownN sc'++freeN sc') hp.objs.size { s2 with heap:=hp } (upd H2 Da (.lst [])) fp=X' at I4 g' se pg
  have eP:X'.prog=X.prog:=by rw [←hX'];rfl
  have ew:X'.w=X.w:=by rw [←hX'];rfl
  have eK:X'.K=X.K:=by rw [←hX'];rfl
  have eA:X'.A=X.A:=by rw [←hX'];rfl
  have eE:X'.env=compEnvC sc' (clOf X.env sc'.names []) hp.objs.size X.env:=by rw [←hX'];rfl
  have ex:X'.xe=λ_ _=>False:=by rw [←hX'];rfl
  have fpX:∀{H':Hp},(∀c∈fp,H' c=none)→∀c∈fp,FpOk X' (X.pn++pins) H' c:=λ{H'} hn c hc=>by
    obtain⟨a0,a1,a2,a3,a4,a5⟩:=f3 c hc
    rw [←hX']
    refine⟨hn c hc,Nat.ne_of_lt (lf3 c hc),λhs=>?_,.inl hc,λx cc e=>a4 x cc (cl_of hcl e),λp hp=>a5 p hp⟩
    rcases List.mem_cons.mp (I3.stkSub c hs) with z|z
    · exact a1 z
    · exact a2 z
  have loop:codeAny (model X.prog X.w) X.A (.compLoop (.ListComp elt [⟨tg,iter,[],0⟩] sc' pos) 0 (.ref it) (.ref Da) (compEnvC sc' (clOf X.env sc'.names []) hp.objs.size X.env)) (compPost (model X.prog X.w) X.A X.xe use Qv (.ref Da) hp.objs.size) { s2 with heap:=h3,toks:=s2.toks+([]:List (Str×Value)).length }:=by
    refine PySem.W.kcp_loop (λn s'=>∃(i:Nat) (τ':L2.St) (H':Hp) (F':Fz) (zs:List V),Inv X' (X.pn++pins) τ' H' s'∧tn i s'.heap∧(∀c∈fp,H' c=none)∧Gr H2 F2 H' F'∧H' Da=some (.lst zs)∧¬F' Da∧RDs X.K H' F' (ys.take i) zs∧i≤its.length∧n=its.length - i ∧
      evComp call ce (capt σ (ownN sc').length ks) t (its.drop i)=some (ys.drop i)∧zs.length=i∧SR X.K Ge H' F' (capt σ (ownN sc').length ks) τ' ∧
      ∀j d a,getv (capt σ (ownN sc').length ks) j=some (true,d)→τ'[j]?=some (some (.ref a))→a≠Da) ?_ its.length ?_
    · rintro n s' ⟨i,τ',H',F',zs,I',st',fr',gr',hd',nf',rd',hi,rfl,hev',hzl,sr',nD'⟩
      have hx':∀{α:Type} {tr:Sem α} {Q1:α→Shared→Prop} {E1:Value→Shared→Prop} {s0:Shared},wpAny (model X'.prog X'.w) X'.A tr Q1 X'.xe s0→wpAny (model X.prog X.w) X.A tr Q1 E1 s0:=λ{α tr Q1 E1 s0} h=>by
        rw [eP,ew,eA,ex] at h
        exact wpAny_mono h (λ_ _ z=>z) λ_ _ z=>z.elim
      have kd:Keep H2 F2 H' F':=gr'.keep
      obtain⟨okI,okS⟩:=ok2 H' F' kd gr'.dom
      by_cases hlt:i<its.length
      · have hdi:its[i]?=some its[i]:=List.getElem?_eq_getElem hlt
        obtain⟨go,yl⟩:=okI i _ hdi
        have hdr:its.drop i=its[i]::its.drop (i+1):=List.drop_eq_getElem_cons hlt
        rw [hdr,evComp_cons] at hev'
        obtain⟨σ1,b1,hev'⟩:=bind1 hev'
        obtain⟨y,b2,hev'⟩:=bind1 hev'
        obtain⟨ys',b3,hev'⟩:=bind1 hev'
        have hys:ys.drop i=y.2::ys':=(Option.some.inj hev').symm
        have ti:=Tn.item X' eP ew eK g'.calm i (X.pn++pins) s' τ' H' (notedBy (model X.prog X.w) X.A (compEnvC sc' (clOf X.env sc'.names []) hp.objs.size X.env) λe s'=>compPost (model X.prog X.w) X.A X.xe use Qv (.ref Da) hp.objs.size (.error e) s') I' (fpX fr') st' go
        rw [eA] at ti
        refine thn ti λr s4 ⟨u,hr,h4⟩=>?_
        subst hr
        refine thn h4 λ_ s5 ⟨x,H5,I5,r5,y5,st5,fr5⟩=>?_
        obtain⟨F5,g5,rd5⟩:=yl x H5 y5
        have I5':=I5.pinned (fpX fr5) (Tn.obj _ _ st5)
        have sr5:=sr'.grow g5
        rw [←eE]
        have a6:=pg _ s5 τ' H5 x u (fun τ6 H6=>H6=H5∧SR X.K Ge H5 F5 σ1 τ6∧SR X.K Ge H5 F5 (capt σ (ownN sc').length ks) τ6∧∀j,getv (capt σ (ownN sc').length ks) j≠none→τ6[j]?=τ'[j]?) I5' r5 (by
          rw [eK]
          exact tg_bind2 (tgOf_nm ht) sr5 b1 rd5 tow)
        refine hx' (thn a6 λ_ s6 ⟨τ6,H6,I6,e6,sr6,sc6,sm6⟩=>?_)
        subst e6
        obtain⟨te,pe,qe⟩:=se
        have a7:=pe _ s6 τ6 H6 (λv H7=>∃F7,Gr H6 F5 H7 F7∧RR X.K H6 H7 F7 y v) I6 (qe Ge H6 F5 σ1 τ6 y _ b2 (by rw [eK];exact sr6) λv H7 F7 g7 rr=>⟨F7,g7,by rw [←eK];exact rr⟩)
        refine hx' (thn a7 λvv s7 ⟨v,H7,I7,r7,F7,g7,rr7⟩=>?_)
        obtain⟨F8,g8,rd8⟩:=rr7.fz g7
        have hd7:H7 Da=some (.lst zs):=g7.same _ _ (g5.same _ _ hd')
        have nf8:¬F8 Da:=λz=>by
          rcases g8.new Da z with q|q
          · rcases g5.new Da q with q'|q'
            · exact nf' q'
            · rw [hd'] at q';cases q'
          · rw [g5.same _ _ hd'] at q;cases q
        have a8:=mt_append (X:=X') _ s7 τ6 H7 (.ref Da) [v] (.ref Da) [vv] (λ_ H9=>H9=upd H7 Da (.lst (zs++[v]))) I7 rfl (.cons r7 .nil) ⟨Da,zs,v,rfl,rfl,hd7,Nat.lt_of_lt_of_le (by omega) hl2,rfl⟩
        refine hx' (thn a8 λ_ s9 ⟨_,H9,I9,_,e9⟩=>?_)
        subst e9
        have k8:Keep H7 F8 (upd H7 Da (.lst (zs++[v]))) F8:=⟨λp xs h=>by
          have ne:p≠Da:=λz=>by
            subst z
            rcases h with h|⟨o,h⟩<;>(rw [hd7] at h;cases h)
          rcases h with h|⟨o,h⟩
          · exact .inl (by rw [upd_ne ne];exact h)
          · exact .inr ⟨o,by rw [upd_ne ne];exact h⟩,λp xs f h=>by
          have ne:p≠Da:=λz=>by subst z;exact nf8 f
          refine⟨f,?_⟩
          rcases h with h|⟨o,h⟩
          · exact .inl (by rw [upd_ne ne];exact h)
          · exact .inr ⟨o,by rw [upd_ne ne];exact h⟩⟩
        have g58:Gr H' F' H7 F8:=g5.trans g8
        have gall:Gr H2 F2 (upd H7 Da (.lst (zs++[v]))) F8:=by
          have gg:=gr'.trans g58
          refine⟨λc o e=>?_,gg.sub,gg.new,λc e=>?_⟩
          · rw [upd_ne (ne_of_none e hD)];exact gg.same c o e
          · by_cases z:c=Da
            · subst z;rw [upd_same] at e;cases e
            · rw [upd_ne z] at e;exact gg.dom c e
        refine⟨its.length - (i+1),by omega,i+1,τ6,upd H7 Da (.lst (zs++[v])),F8,zs++[v],I9.unpinned,?_,?_,gall,upd_same,nf8,?_,hlt,rfl,?_,by simp [hzl],?_,λj d a h1 h2=>?_⟩
        · exact Tn.keep _ _ _ st5 λc hc o e=>(I9.pin (c,o) (List.mem_append_right _ (List.mem_append_right _ (mem_pinsAt hc e)))).1
        · intro c hc
          obtain⟨o,e,d⟩:=Tn.obj _ _ st5 c hc
          exact (I9.pin (c,o) (List.mem_append_right _ (List.mem_append_right _ (mem_pinsAt hc e)))).2.1
        · have e1:ys.take (i+1)=ys.take i++[y.2]:=by
            have:ys[i]?=some y.2:=by
              have:=congrArg (λl=>l[0]?) hys
              simpa using this
            rw [List.take_add_one,this];rfl
          rw [e1]
          exact RDs.append (RDs.mono (g58.keep.trans k8) rd') ⟨v,[],rfl,RD.mono k8 rd8,rfl⟩
        · rw [b3]
          have:ys.drop (i+1)=ys':=by
            have:=congrArg List.tail hys
            simpa using this
          rw [this]
        · have sc8:=sc6.grow g8
          refine sc8.keep sc8.tb k8 ?_ gall.dom (λj d hj hd=>?_) (λj m ks' hj=>?_) (λj ns ds hj=>?_)
          · intro c o e
            have h7:=sc8.ent c o e
            have:c≠Da:=λz=>by
              subst z
              have:=hS.ent c o e
              rw [hD0] at this
              cases this
            rw [upd_ne this];exact h7
          · obtain⟨a,ds,vs,q1,q2,q3,q4,q5,q6⟩:=sc8.own j d hj hd
            have ne:a≠Da:=nD' j d a hj (by rw [←sm6 j (by rw [hj];simp)];exact q2)
            exact⟨a,ds,vs,q1,q2,q3,q4,by rw [upd_ne ne];exact q5,RDs.mono k8 q6⟩
          · obtain⟨a,q1,q2,q3,q4⟩:=sc8.dct j m ks' hj
            have ne:a≠Da:=nD' j _ a hj (by rw [←sm6 j (by rw [hj];simp)];exact q1)
            exact⟨a,q1,q2,by rw [upd_ne ne];exact q3,q4⟩
          · obtain⟨v8,q1,q2⟩:=sc8.obj j ns ds hj
            refine⟨v8,q1,q2.mono k8 λa C dx fs e hH hF=>⟨hF,upd_ne ?_⟩⟩
            subst e
            exact nD' j _ a hj (by rw [←sm6 j (by rw [hj];simp)];exact q1)
        · exact nD' j d a h1 (by rw [←sm6 j (by rw [h1];simp)];exact h2)
      · have hin:i=its.length:=by omega
        subst hin
        have td:=Tn.done X' eP ew eK g'.calm its.length (X.pn++pins) s' τ' H' (notedBy (model X.prog X.w) X.A (compEnvC sc' (clOf X.env sc'.names []) hp.objs.size X.env) λe s'=>compPost (model X.prog X.w) X.A X.xe use Qv (.ref Da) hp.objs.size (.error e) s') I' (fpX fr') st' okS
        rw [eA] at td
        refine thn td λr s4 ⟨hr,I4'⟩=>?_
        subst hr
        rw [List.drop_of_length_le (Nat.le_refl _)] at hev'
        have hyl:ys.drop its.length=[]:=(Option.some.inj hev').symm
        have hyt:ys.take its.length=ys:=by
          have:=List.take_append_drop its.length ys
          rw [hyl,List.append_nil] at this
          exact this
        rw [hyt] at rd'
        have Ib:=I4'.base
        rw [←hX'] at Ib
        have Io:Inv X pins τ H' s4:=by
          refine I3.call' (ch:=fp) (by have:=I4'.os;rw [←hX'] at this;exact this) Ib (by have:=I4'.hok;rw [eP,ew] at this;exact this) I4'.bare λc hc=>?_
          obtain⟨a0,a1,a2,a3,a4,a5⟩:=f3 c hc
          exact⟨a3,a1,a4,a5⟩
        refine hend Da hp.objs.size H' F' s4 (g2.trans gr') ⟨Da,ys,zs,rfl,rfl,hD0,nf',hd',rd'⟩ Io ⟨?_,Nat.ne_of_gt I3.lt,I3.sz,λx c e=>?_,λp hp=>?_,?_⟩
        · have:=I4'.free
          rw [eE] at this
          exact this
        · obtain⟨v,q⟩:=I3.cell x c e
          exact Nat.ne_of_lt q.lt
        · exact Nat.ne_of_lt (Heap.lt_size (I3.pin p hp).1)
        · obtain⟨m,hm,_⟩:=I4'.loc
          rw [eE] at hm
          exact⟨m,hm⟩
    · refine⟨0,tau0 τ (ownN sc').length ks,upd H2 Da (.lst []),F2,[],I4,?_,λc hc=>(f3 c hc).1,Gr.laid g2.dom hD,upd_same,g2.dom Da hD,by rw [List.take_zero];rfl,Nat.zero_le _,rfl,by simpa using hev,rfl,?_,λj d a h1 h2=>?_⟩
      · exact Tn.keep _ _ _ st2 λc hc o e=>kp c o (by rw [←hHp];exact Heap.get?_push_of_some _ e)
      · exact sr_start S hk _ (hS.grow (g2.trans (Gr.laid g2.dom hD)))
      · obtain⟨m,j',rfl,q1,q2⟩:=capt_get h1
        obtain⟨a',u',p2,_,p5⟩:=hS.addr q2
        rw [tau0_at q1 p2] at h2
        cases h2
        exact ne_of_none p5 hD0
  exact codeAny_compStart_list loop (Tn.self _ 0 _ _ _ (Tn.keep _ _ _ st2 λc hc o e=>kp c o (by rw [←hHp];exact Heap.get?_push_of_some _ e)) loop)
end
end Dw
namespace Dw
open PySem PySem.Spec PyProof.Rows L2
section
variable {call:Nat→List D→Option R}{G:Gx}{k:Nat}{X:Cx}{sc sc':Scope}{N:List Str}{ks:List Nat}
theorem comp_runF (g:XG call G k X sc N) {elt tg iter cnd:Expr}{t:Tg}{ce cc:C}{b:Bool}{src:En→Option (List D)}{pos p':Pos}(S:ScOk sc') (ht:tgOf sc' (ownN sc'++freeN sc') tg=some t) (hk:optAll (capOf sc N) (freeN sc')=some ks)
    (he:∀X':Cx,XG call G k X' sc' (ownN sc'++freeN sc')→SndE call X' elt ce) (hcn:∀X':Cx,XG call G k X' sc' (ownN sc'++freeN sc')→SndT call X' cnd cc) (hi:SndI X tg iter b src) (hfs:∀x,foldedSetIterable iter X.env x=pure x)
    {pins:List (Addr×Obj)} {s:Shared} {τ:L2.St} {H:Hp} {Ge:Hp} {F:Fz} {σ:En} {its ys:List D} {use:Option (Value→Sem Unit)} {Qv:Value→Shared→Prop}
    (I:Inv X pins τ H s) (hS:SR X.K Ge H F σ τ) (hsrc:src σ=some its) (hev:evCompF call cc ce (capt σ (ownN sc').length ks) t its=some ys) (hlen:(b=true→its.length≤lim)→its.length≤lim)
    (hend:∀(D C:Addr) (H':Hp) (F':Fz) (s':Shared),Gr H F H' F'→RR X.K H H' F' (true,.lst ys) (.ref D)→Inv X pins τ H' s'→Off X pins H' C s'.heap→compPost (model X.prog X.w) X.A X.xe use Qv (.ref D) C (.ok .next) s') :
    wpAny (model X.prog X.w) X.A (comprehension (.ListComp elt [⟨tg,iter,[cnd],0⟩] sc' pos) sc' X.env p' (newList []) false (eval iter X.env) use) Qv X.xe s:=by
  have T:=takes_of g hk
  have hcl:=takes_cells I.ok T
  refine wpAny_comprehension_free (use:=use) rfl hfs (clos_of sc' X.env hcl) S.kind (λx hx e=>by obtain⟨n,kk⟩:=x;have e:kk=.local:=e;subst e;exact look_mem S.nd hx) ?_
  obtain⟨wi,pi,qi⟩:=hi
  refine thn (pi pins s τ H (λJ H'=>∃F',Gr H F H' F'∧ItOk X.K J H' F' its∧its.length≤lim) I (qi Ge H F σ τ its _ hsrc hS λJ H' F' g1 ok hl=>⟨F',g1,ok,hlen hl⟩)) λv s1 h1=>thn h1 λitv s2 h2=>?_
  obtain⟨it,fp,tn,J,H2,rfl,I2,Tn,st2,f2,F2,g2,ok2,hl2⟩:=h2
  refine wpAny_newObj_type (wpAny_newFunctionEnv S.cell (by intro y hy;simp at hy) (λh3 hns hsb=>?_) S.kind)
  dsimp only at hns hsb ⊢
  have hD:H2 s2.heap.objs.size=none:=I2.hok.fresh (Nat.le_refl _)
  generalize hDe:s2.heap.objs.size=Da at hns hsb hD ⊢
  have hD0:H Da=none:=g2.same.free hD
  have lt2:∀{c:Addr} {o:Obj},s2.heap.get? c=some o→c<Da:=λe=>by rw [←hDe];exact Heap.lt_size e
  have I3:Inv X pins τ (upd H2 Da (.lst [])) { s2 with heap:=s2.heap.push { cls:=.type "list",dict:=none,data:=.seq ([]:List Value).toArray } }:=by
    subst hDe
    exact I2.laid (t':=s2.toks) (λc u e=>Heap.get?_push_of_some _ e) (Nat.le_refl _) ⟨Nat.zero_le _,[],0,.nil,Heap.get?_push_size _ rfl⟩
  generalize hHp:s2.heap.push { cls:=.type "list",dict:=none,data:=.seq ([]:List Value).toArray }=hp at hns hsb I3 ⊢
  have hCs:hp.objs.size=Da+1:=by rw [←hHp,Heap.size_push,hDe]
  have kp:∀c o,hp.get? c=some o→h3.get? c=some o:=λc o e=>hsb.extBut c o (Nat.ne_of_lt (Heap.lt_size e)) (Heap.get?_push_of_some _ e)
  have lfp:∀c∈fp,c<Da:=λc hc=>by obtain⟨o,e,_⟩:=Tn.obj _ _ st2 c hc;exact lt2 e
  have f3:∀c∈fp,FpOk X pins (upd H2 Da (.lst [])) c:=λc hc=>⟨by rw [upd_ne (Nat.ne_of_lt (lfp c hc))];exact (f2 c hc).1,(f2 c hc).2⟩
  have lf3:∀c∈fp,c<({ s2 with heap:=hp }:Shared).heap.objs.size:=λc hc=>by show c<hp.objs.size;rw [hCs];exact Nat.lt_succ_of_lt (lfp c hc)
  obtain⟨kl,kg⟩:=optAll_get hk
  have I4:Inv (cxComp X sc' (ownN sc'++freeN sc') hp.objs.size { s2 with heap:=hp } (upd H2 Da (.lst [])) fp) (X.pn++pins) (tau0 τ (ownN sc').length ks) (upd H2 Da (.lst [])) { s2 with heap:=h3,toks:=s2.toks+([]:List (Str×Value)).length }:=by
    refine cx_start (N':=ownN sc'++freeN sc') I3 S T f3 lf3 kp hns _ (by rw [tau0_len,List.length_append,kl]) (λi x v e1 e2=>?_) (vis_of g hk)
    obtain⟨m,j,rfl,q1,q2⟩:=tau0_get e2
    rw [List.getElem?_append_right (by omega)] at e1
    have e1':(freeN sc')[m]?=some x:=by rw [←e1];congr 1;omega
    obtain⟨j',r1,r2⟩:=kg m x e1'
    rw [q1] at r1
    cases r1
    exact⟨free_mem.mp (List.mem_of_getElem? e1'),j,by rw [g.hN];exact (cap_of r2).2.1,q2⟩
  have g':XG call G k (cxComp X sc' (ownN sc'++freeN sc') hp.objs.size { s2 with heap:=hp } (upd H2 Da (.lst [])) fp) sc' (ownN sc'++freeN sc'):=cx_xg g S
  have se:=he _ g'
  have sn:=hcn _ g'
  have pg:=snd_tg g' ht
  have tow:=tg_own (ks:=ks) S ht σ
  generalize hX':cxComp X sc' (ownN sc'++freeN sc') hp.objs.size { s2 with heap:=hp } (upd H2 Da (.lst [])) fp=X' at I4 g' se sn pg
  have eP:X'.prog=X.prog:=by rw [←hX'];rfl
  have ew:X'.w=X.w:=by rw [←hX'];rfl
  have eK:X'.K=X.K:=by rw [←hX'];rfl
  have eA:X'.A=X.A:=by rw [←hX'];rfl
  have eE:X'.env=compEnvC sc' (clOf X.env sc'.names []) hp.objs.size X.env:=by rw [←hX'];rfl
  have ex:X'.xe=λ_ _=>False:=by rw [←hX'];rfl
  have fpX:∀{H':Hp},(∀c∈fp,H' c=none)→∀c∈fp,FpOk X' (X.pn++pins) H' c:=λ{H'} hn c hc=>by
    obtain⟨a0,a1,a2,a3,a4,a5⟩:=f3 c hc
    rw [←hX']
    refine⟨hn c hc,Nat.ne_of_lt (lf3 c hc),λhs=>?_,.inl hc,λx cc e=>a4 x cc (cl_of hcl e),λp hp=>a5 p hp⟩
    rcases List.mem_cons.mp (I3.stkSub c hs) with z|z
    · exact a1 z
    · exact a2 z
  have loop:codeAny (model X.prog X.w) X.A (.compLoop (.ListComp elt [⟨tg,iter,[cnd],0⟩] sc' pos) 0 (.ref it) (.ref Da) (compEnvC sc' (clOf X.env sc'.names []) hp.objs.size X.env)) (compPost (model X.prog X.w) X.A X.xe use Qv (.ref Da) hp.objs.size) { s2 with heap:=h3,toks:=s2.toks+([]:List (Str×Value)).length }:=by
    refine PySem.W.kct_loop (λn s'=>∃(i:Nat) (τ':L2.St) (H':Hp) (F':Fz) (zs:List V) (y1 y2:List D),Inv X' (X.pn++pins) τ' H' s'∧tn i s'.heap∧(∀c∈fp,H' c=none)∧Gr H2 F2 H' F'∧H' Da=some (.lst zs)∧¬F' Da∧RDs X.K H' F' y1 zs∧i≤its.length∧n=its.length - i ∧
      evCompF call cc ce (capt σ (ownN sc').length ks) t (its.drop i)=some y2∧ys=y1++y2∧zs.length≤i∧SR X.K Ge H' F' (capt σ (ownN sc').length ks) τ' ∧
      ∀j d a,getv (capt σ (ownN sc').length ks) j=some (true,d)→τ'[j]?=some (some (.ref a))→a≠Da) ?_ its.length ?_
    · rintro n s' ⟨i,τ',H',F',zs,y1,y2,I',st',fr',gr',hd',nf',rd',hi,rfl,hev',hyy,hzl,sr',nD'⟩
      have hx':∀{α:Type} {tr:Sem α} {Q1:α→Shared→Prop} {E1:Value→Shared→Prop} {s0:Shared},wpAny (model X'.prog X'.w) X'.A tr Q1 X'.xe s0→wpAny (model X.prog X.w) X.A tr Q1 E1 s0:=λ{α tr Q1 E1 s0} h=>by
        rw [eP,ew,eA,ex] at h
        exact wpAny_mono h (λ_ _ z=>z) λ_ _ z=>z.elim
      have kd:Keep H2 F2 H' F':=gr'.keep
      obtain⟨okI,okS⟩:=ok2 H' F' kd gr'.dom
      by_cases hlt:i<its.length
      · have hdi:its[i]?=some its[i]:=List.getElem?_eq_getElem hlt
        obtain⟨go,yl⟩:=okI i _ hdi
        have hdr:its.drop i=its[i]::its.drop (i+1):=List.drop_eq_getElem_cons hlt
        rw [hdr,evCompF_cons] at hev'
        obtain⟨σ1,b1,hev'⟩:=bind1 hev'
        obtain⟨⟨x0,d0⟩,b0,hev'⟩:=bind1 hev'
        have ti:=Tn.item X' eP ew eK g'.calm i (X.pn++pins) s' τ' H' (notedBy (model X.prog X.w) X.A (compEnvC sc' (clOf X.env sc'.names []) hp.objs.size X.env) λe s'=>compPost (model X.prog X.w) X.A X.xe use Qv (.ref Da) hp.objs.size (.error e) s') I' (fpX fr') st' go
        rw [eA] at ti
        refine thn ti λr s4 ⟨u,hr,h4⟩=>?_
        subst hr
        refine thn h4 λ_ s5 ⟨x,H5,I5,r5,y5,st5,fr5⟩=>?_
        obtain⟨F5,g5,rd5⟩:=yl x H5 y5
        have I5':=I5.pinned (fpX fr5) (Tn.obj _ _ st5)
        have sr5:=sr'.grow g5
        rw [←eE]
        have a6:=pg _ s5 τ' H5 x u (fun τ6 H6=>H6=H5∧SR X.K Ge H5 F5 σ1 τ6∧SR X.K Ge H5 F5 (capt σ (ownN sc').length ks) τ6∧∀j,getv (capt σ (ownN sc').length ks) j≠none→τ6[j]?=τ'[j]?) I5' r5 (by
          rw [eK]
          exact tg_bind2 (tgOf_nm ht) sr5 b1 rd5 tow)
        refine hx' (thn a6 λ_ s6 ⟨τ6,H6,I6,e6,sr6,sc6,sm6⟩=>?_)
        subst e6
        obtain⟨b00,rfl⟩:∃b00,d0=.bl b00:=by cases d0<;>first|exact⟨_,rfl⟩|cases hev'
        obtain⟨tt,pt,qt⟩:=sn
        have a6c:=pt _ s6 τ6 H6 (λbb H7=>∃F7,Gr H6 F5 H7 F7∧bb=b00) I6 (qt Ge H6 F5 σ1 τ6 x0 b00 _ b0 (by rw [eK];exact sr6) λH7 F7 g7=>⟨F7,g7,rfl⟩)
        refine hx' (thn a6c λokb s6b ⟨H6b,I6b,F6b,g6b,eb⟩=>?_)
        subst eb
        have hd6:H6b Da=some (.lst zs):=g6b.same _ _ (g5.same _ _ hd')
        have g56:Gr H' F' H6b F6b:=g5.trans g6b
        have nf6:¬F6b Da:=λz=>by
          rcases g56.new Da z with q|q
          · exact nf' q
          · rw [hd'] at q;cases q
        cases okb with
        | false =>
          rw [if_neg (by decide)]
          refine⟨its.length - (i+1),by omega,i+1,τ6,H6b,F6b,zs,y1,y2,I6b.unpinned,?_,?_,gr'.trans g56,hd6,nf6,RDs.mono g56.keep rd',hlt,rfl,hev',hyy,by omega,sc6.grow g6b,λj d a h1 h2=>?_⟩
          · exact Tn.keep _ _ _ st5 λc hc o e=>(I6b.pin (c,o) (List.mem_append_right _ (List.mem_append_right _ (mem_pinsAt hc e)))).1
          · intro c hc
            obtain⟨o,e,d⟩:=Tn.obj _ _ st5 c hc
            exact (I6b.pin (c,o) (List.mem_append_right _ (List.mem_append_right _ (mem_pinsAt hc e)))).2.1
          · exact nD' j d a h1 (by rw [←sm6 j (by rw [h1];simp)];exact h2)
        | true =>
        rw [if_pos rfl]
        obtain⟨y,b2,hev'⟩:=bind1 hev'
        obtain⟨ys',b3,hev'⟩:=bind1 hev'
        have hys:y2=y.2::ys':=(Option.some.inj hev').symm
        replace sr6:=sr6.grow g6b
        replace sc6:=sc6.grow g6b
        replace I6:=I6b
        replace hd':=hd6
        replace g5:=g56
        clear hd6 g56
        obtain⟨te,pe,qe⟩:=se
        have a7:=pe _ s6b τ6 H6b (λv H7=>∃F7,Gr H6b F6b H7 F7∧RR X.K H6b H7 F7 y v) I6 (qe Ge H6b F6b σ1 τ6 y _ b2 (by rw [eK];exact sr6) λv H7 F7 g7 rr=>⟨F7,g7,by rw [←eK];exact rr⟩)
        refine hx' (thn a7 λvv s7 ⟨v,H7,I7,r7,F7,g7,rr7⟩=>?_)
        obtain⟨F8,g8,rd8⟩:=rr7.fz g7
        have hd7:H7 Da=some (.lst zs):=g7.same _ _ hd'
        have nf8:¬F8 Da:=λz=>by
          rcases g8.new Da z with q|q
          · exact nf6 q
          · rw [hd'] at q;cases q
        have a8:=mt_append (X:=X') _ s7 τ6 H7 (.ref Da) [v] (.ref Da) [vv] (λ_ H9=>H9=upd H7 Da (.lst (zs++[v]))) I7 rfl (.cons r7 .nil) ⟨Da,zs,v,rfl,rfl,hd7,Nat.lt_of_lt_of_le (by omega) hl2,rfl⟩
        refine hx' (thn a8 λ_ s9 ⟨_,H9,I9,_,e9⟩=>?_)
        subst e9
        have k8:Keep H7 F8 (upd H7 Da (.lst (zs++[v]))) F8:=⟨λp xs h=>by
          have ne:p≠Da:=λz=>by
            subst z
            rcases h with h|⟨o,h⟩<;>(rw [hd7] at h;cases h)
          rcases h with h|⟨o,h⟩
          · exact .inl (by rw [upd_ne ne];exact h)
          · exact .inr ⟨o,by rw [upd_ne ne];exact h⟩,λp xs f h=>by
          have ne:p≠Da:=λz=>by subst z;exact nf8 f
          refine⟨f,?_⟩
          rcases h with h|⟨o,h⟩
          · exact .inl (by rw [upd_ne ne];exact h)
          · exact .inr ⟨o,by rw [upd_ne ne];exact h⟩⟩
        have g58:Gr H' F' H7 F8:=g5.trans g8
        have gall:Gr H2 F2 (upd H7 Da (.lst (zs++[v]))) F8:=by
          have gg:=gr'.trans g58
          refine⟨λc o e=>?_,gg.sub,gg.new,λc e=>?_⟩
          · rw [upd_ne (ne_of_none e hD)];exact gg.same c o e
          · by_cases z:c=Da
            · subst z;rw [upd_same] at e;cases e
            · rw [upd_ne z] at e;exact gg.dom c e
        refine⟨its.length - (i+1),by omega,i+1,τ6,upd H7 Da (.lst (zs++[v])),F8,zs++[v],y1++[y.2],ys',I9.unpinned,?_,?_,gall,upd_same,nf8,?_,hlt,rfl,b3,(by rw [hyy,hys,List.append_assoc];rfl),(by simp;omega),?_,λj d a h1 h2=>?_⟩
        · exact Tn.keep _ _ _ st5 λc hc o e=>(I9.pin (c,o) (List.mem_append_right _ (List.mem_append_right _ (mem_pinsAt hc e)))).1
        · intro c hc
          obtain⟨o,e,d⟩:=Tn.obj _ _ st5 c hc
          exact (I9.pin (c,o) (List.mem_append_right _ (List.mem_append_right _ (mem_pinsAt hc e)))).2.1
        · exact RDs.append (RDs.mono (g58.keep.trans k8) rd') ⟨v,[],rfl,RD.mono k8 rd8,rfl⟩
        · have sc8:=sc6.grow g8
          refine sc8.keep sc8.tb k8 ?_ gall.dom (λj d hj hd=>?_) (λj m ks' hj=>?_) (λj ns ds hj=>?_)
          · intro c o e
            have h7:=sc8.ent c o e
            have:c≠Da:=λz=>by
              subst z
              have:=hS.ent c o e
              rw [hD0] at this
              cases this
            rw [upd_ne this];exact h7
          · obtain⟨a,ds,vs,q1,q2,q3,q4,q5,q6⟩:=sc8.own j d hj hd
            have ne:a≠Da:=nD' j d a hj (by rw [←sm6 j (by rw [hj];simp)];exact q2)
            exact⟨a,ds,vs,q1,q2,q3,q4,by rw [upd_ne ne];exact q5,RDs.mono k8 q6⟩
          · obtain⟨a,q1,q2,q3,q4⟩:=sc8.dct j m ks' hj
            have ne:a≠Da:=nD' j _ a hj (by rw [←sm6 j (by rw [hj];simp)];exact q1)
            exact⟨a,q1,q2,by rw [upd_ne ne];exact q3,q4⟩
          · obtain⟨v8,q1,q2⟩:=sc8.obj j ns ds hj
            refine⟨v8,q1,q2.mono k8 λa C dx fs e hH hF=>⟨hF,upd_ne ?_⟩⟩
            subst e
            exact nD' j _ a hj (by rw [←sm6 j (by rw [hj];simp)];exact q1)
        · exact nD' j d a h1 (by rw [←sm6 j (by rw [h1];simp)];exact h2)
      · have hin:i=its.length:=by omega
        subst hin
        have td:=Tn.done X' eP ew eK g'.calm its.length (X.pn++pins) s' τ' H' (notedBy (model X.prog X.w) X.A (compEnvC sc' (clOf X.env sc'.names []) hp.objs.size X.env) λe s'=>compPost (model X.prog X.w) X.A X.xe use Qv (.ref Da) hp.objs.size (.error e) s') I' (fpX fr') st' okS
        rw [eA] at td
        refine thn td λr s4 ⟨hr,I4'⟩=>?_
        subst hr
        rw [List.drop_of_length_le (Nat.le_refl _)] at hev'
        have hyl:y2=[]:=(Option.some.inj hev').symm
        subst hyl
        rw [List.append_nil] at hyy
        subst hyy
        have Ib:=I4'.base
        rw [←hX'] at Ib
        have Io:Inv X pins τ H' s4:=by
          refine I3.call' (ch:=fp) (by have:=I4'.os;rw [←hX'] at this;exact this) Ib (by have:=I4'.hok;rw [eP,ew] at this;exact this) I4'.bare λc hc=>?_
          obtain⟨a0,a1,a2,a3,a4,a5⟩:=f3 c hc
          exact⟨a3,a1,a4,a5⟩
        refine hend Da hp.objs.size H' F' s4 (g2.trans gr') ⟨Da,ys,zs,rfl,rfl,hD0,nf',hd',rd'⟩ Io ⟨?_,Nat.ne_of_gt I3.lt,I3.sz,λx c e=>?_,λp hp=>?_,?_⟩
        · have:=I4'.free
          rw [eE] at this
          exact this
        · obtain⟨v,q⟩:=I3.cell x c e
          exact Nat.ne_of_lt q.lt
        · exact Nat.ne_of_lt (Heap.lt_size (I3.pin p hp).1)
        · obtain⟨m,hm,_⟩:=I4'.loc
          rw [eE] at hm
          exact⟨m,hm⟩
    · refine⟨0,tau0 τ (ownN sc').length ks,upd H2 Da (.lst []),F2,[],[],ys,I4,?_,λc hc=>(f3 c hc).1,Gr.laid g2.dom hD,upd_same,g2.dom Da hD,rfl,Nat.zero_le _,rfl,by simpa using hev,rfl,Nat.le_refl _,?_,λj d a h1 h2=>?_⟩
      · exact Tn.keep _ _ _ st2 λc hc o e=>kp c o (by rw [←hHp];exact Heap.get?_push_of_some _ e)
      · exact sr_start S hk _ (hS.grow (g2.trans (Gr.laid g2.dom hD)))
      · obtain⟨m,j',rfl,q1,q2⟩:=capt_get h1
        obtain⟨a',u',p2,_,p5⟩:=hS.addr q2
        rw [tau0_at q1 p2] at h2
        cases h2
        exact ne_of_none p5 hD0
  exact codeAny_compStart_list loop (Tn.self _ 0 _ _ _ (Tn.keep _ _ _ st2 λc hc o e=>kp c o (by rw [←hHp];exact Heap.get?_push_of_some _ e)) loop)
end
end Dw
namespace Dw
open PySem PySem.Spec PyProof.Rows L2
section
variable {call:Nat→List D→Option R}{G:Gx}{k:Nat}{X:Cx}{sc sc':Scope}{N:List Str}{ks:List Nat}
theorem snd_comp (g:XG call G k X sc N) {elt tg iter:Expr}{t:Tg}{ce c:C}{b:Bool}{src:En→Option (List D)}{pos:Pos}(S:ScOk sc') (ht:tgOf sc' (ownN sc'++freeN sc') tg=some t) (hk:optAll (capOf sc N) (freeN sc')=some ks)
    (he:∀X':Cx,XG call G k X' sc' (ownN sc'++freeN sc')→SndE call X' elt ce) (hi:SndI X tg iter b src) (hfs:∀x,foldedSetIterable iter X.env x=pure x)
    (hc:∀σ r,evE call σ c=some r→∃its ys,src σ=some its∧evComp call ce (capt σ (ownN sc').length ks) t its=some ys∧r=(true,.lst ys)∧((b=true→its.length≤lim)→its.length≤lim)) :
    SndE call X (.ListComp elt [⟨tg,iter,[],0⟩] sc' pos) c:=by
  refine⟨fun τ H Q=>∃Ge F σ r,evE call σ c=some r∧SR X.K Ge H F σ τ∧∀v H' F',Gr H F H' F'→RR X.K H H' F' r v→Q v H',λpins s τ H Q I ⟨Ge,F,σ,r,h1,h2,h3⟩=>?_,λGe H F σ τ r Q h1 h2 h3=>⟨Ge,F,σ,r,h1,h2,h3⟩⟩
  obtain⟨its,ys,e1,e2,rfl,e4⟩:=hc σ r h1
  rw [eval_ListComp]
  refine comp_run g S ht hk he hi hfs (use:=none) I h2 e1 e2 e4 λDa C H' F' s' gr rr I' o=>?_
  obtain⟨m,hm⟩:=o.ns
  exact⟨m,hm,λh' hs=>⟨.ref Da,H',o.let I' hs,rfl,h3 _ H' F' gr rr⟩⟩
theorem asg_comp (g:XG call G k X sc N) {elt tg iter:Expr}{t:Tg}{ce c:C}{b:Bool}{src:En→Option (List D)}{pos py spos:Pos}{x:Str}{i:Nat}(S:ScOk sc') (ht:tgOf sc' (ownN sc'++freeN sc') tg=some t) (hk:optAll (capOf sc N) (freeN sc')=some ks)
    (he:∀X':Cx,XG call G k X' sc' (ownN sc'++freeN sc')→SndE call X' elt ce) (hi:SndI X tg iter b src) (hfs:∀x,foldedSetIterable iter X.env x=pure x)
    (hc:∀σ r,evE call σ c=some r→∃its ys,src σ=some its∧evComp call ce (capt σ (ownN sc').length ks) t its=some ys∧r=(true,.lst ys)∧((b=true→its.length≤lim)→its.length≤lim))
    (hx:(sc.names.lookup x == some .local||sc.names.lookup x == some .cell)=true) (hsl:slotOf N x=some i) (hsw:swapsWith (.ListComp elt [⟨tg,iter,[],0⟩] sc' pos) (some (.Name x py)) spos.line X.env=pure true) :
    PS X (.Assign [.Name x py] (.ListComp elt [⟨tg,iter,[],0⟩] sc' pos) spos) (λDn τ H=>∃Ge F σ r,evE call σ c=some r∧SR X.K Ge H F σ τ∧∀v H' F',Gr H F H' F'→RR X.K H H' F' r v→Dn.nx (τ.set i (some v)) H'):=by
  intro pins s τ H Dn I ⟨Ge,F,σ,r,h1,h2,h3⟩
  obtain⟨its,ys,e1,e2,rfl,e4⟩:=hc σ r h1
  rw [exec_Assign_Name_used _ _ _ _ hsw]
  refine wpAny_bind (wpAny_standAt (wpAny_bind ?_))
  obtain⟨l1,l2⟩:=loc_of g hx
  refine wpAny_bind (comp_run g (p':=firstIterPos [⟨tg,iter,[],0⟩] pos) S ht hk he hi hfs (use:=some (assign (.Name x py) X.env)) I h2 e1 e2 e4 λDa C H' F' s' gr rr I' o=>?_)
  have q:=h3 _ H' F' gr rr
  refine wpAny_assign_Name (store_ok2 (v:=.ref Da) I' (by rw [g.hN];exact g.nd) (by rw [g.hN];exact slot_get hsl) l1 rfl (λs2 I2 hch=>?_) l2)
  obtain⟨m,hm⟩:=o.ns
  obtain⟨a,hsb,ha⟩:=hch
  have hCa:C≠a:=by
    rcases ha with e|e
    · rw [e];exact o.ne
    · exact (o.cl _ _ e).symm
  have o2:Off X pins H' C s2.heap:=⟨o.n,o.ne,o.ab,o.cl,o.pn,⟨m,hm.sameBut hsb hCa⟩⟩
  exact⟨m,hm.sameBut hsb hCa,λh' hs=>wpAny_pure (wpAny_pure ⟨_,H',o2.let I2 hs,q⟩)⟩
theorem snd_compF (g:XG call G k X sc N) {elt tg iter cnd:Expr}{t:Tg}{ce cc c:C}{b:Bool}{src:En→Option (List D)}{pos:Pos}(S:ScOk sc') (ht:tgOf sc' (ownN sc'++freeN sc') tg=some t) (hk:optAll (capOf sc N) (freeN sc')=some ks)
    (he:∀X':Cx,XG call G k X' sc' (ownN sc'++freeN sc')→SndE call X' elt ce) (hcn:∀X':Cx,XG call G k X' sc' (ownN sc'++freeN sc')→SndT call X' cnd cc) (hi:SndI X tg iter b src) (hfs:∀x,foldedSetIterable iter X.env x=pure x)
    (hc:∀σ r,evE call σ c=some r→∃its ys,src σ=some its∧evCompF call cc ce (capt σ (ownN sc').length ks) t its=some ys∧r=(true,.lst ys)∧((b=true→its.length≤lim)→its.length≤lim)) :
    SndE call X (.ListComp elt [⟨tg,iter,[cnd],0⟩] sc' pos) c:=by
  refine⟨fun τ H Q=>∃Ge F σ r,evE call σ c=some r∧SR X.K Ge H F σ τ∧∀v H' F',Gr H F H' F'→RR X.K H H' F' r v→Q v H',λpins s τ H Q I ⟨Ge,F,σ,r,h1,h2,h3⟩=>?_,λGe H F σ τ r Q h1 h2 h3=>⟨Ge,F,σ,r,h1,h2,h3⟩⟩
  obtain⟨its,ys,e1,e2,rfl,e4⟩:=hc σ r h1
  rw [eval_ListComp]
  refine comp_runF g S ht hk he hcn hi hfs (use:=none) I h2 e1 e2 e4 λDa C H' F' s' gr rr I' o=>?_
  obtain⟨m,hm⟩:=o.ns
  exact⟨m,hm,λh' hs=>⟨.ref Da,H',o.let I' hs,rfl,h3 _ H' F' gr rr⟩⟩
theorem asg_compF (g:XG call G k X sc N) {elt tg iter cnd:Expr}{t:Tg}{ce cc c:C}{b:Bool}{src:En→Option (List D)}{pos py spos:Pos}{x:Str}{i:Nat}(S:ScOk sc') (ht:tgOf sc' (ownN sc'++freeN sc') tg=some t) (hk:optAll (capOf sc N) (freeN sc')=some ks)
    (he:∀X':Cx,XG call G k X' sc' (ownN sc'++freeN sc')→SndE call X' elt ce) (hcn:∀X':Cx,XG call G k X' sc' (ownN sc'++freeN sc')→SndT call X' cnd cc) (hi:SndI X tg iter b src) (hfs:∀x,foldedSetIterable iter X.env x=pure x)
    (hc:∀σ r,evE call σ c=some r→∃its ys,src σ=some its∧evCompF call cc ce (capt σ (ownN sc').length ks) t its=some ys∧r=(true,.lst ys)∧((b=true→its.length≤lim)→its.length≤lim))
    (hx:(sc.names.lookup x == some .local||sc.names.lookup x == some .cell)=true) (hsl:slotOf N x=some i) (hsw:swapsWith (.ListComp elt [⟨tg,iter,[cnd],0⟩] sc' pos) (some (.Name x py)) spos.line X.env=pure true) :
    PS X (.Assign [.Name x py] (.ListComp elt [⟨tg,iter,[cnd],0⟩] sc' pos) spos) (λDn τ H=>∃Ge F σ r,evE call σ c=some r∧SR X.K Ge H F σ τ∧∀v H' F',Gr H F H' F'→RR X.K H H' F' r v→Dn.nx (τ.set i (some v)) H'):=by
  intro pins s τ H Dn I ⟨Ge,F,σ,r,h1,h2,h3⟩
  obtain⟨its,ys,e1,e2,rfl,e4⟩:=hc σ r h1
  rw [exec_Assign_Name_used _ _ _ _ hsw]
  refine wpAny_bind (wpAny_standAt (wpAny_bind ?_))
  obtain⟨l1,l2⟩:=loc_of g hx
  refine wpAny_bind (comp_runF g (p':=firstIterPos [⟨tg,iter,[cnd],0⟩] pos) S ht hk he hcn hi hfs (use:=some (assign (.Name x py) X.env)) I h2 e1 e2 e4 λDa C H' F' s' gr rr I' o=>?_)
  have q:=h3 _ H' F' gr rr
  refine wpAny_assign_Name (store_ok2 (v:=.ref Da) I' (by rw [g.hN];exact g.nd) (by rw [g.hN];exact slot_get hsl) l1 rfl (λs2 I2 hch=>?_) l2)
  obtain⟨m,hm⟩:=o.ns
  obtain⟨a,hsb,ha⟩:=hch
  have hCa:C≠a:=by
    rcases ha with e|e
    · rw [e];exact o.ne
    · exact (o.cl _ _ e).symm
  have o2:Off X pins H' C s2.heap:=⟨o.n,o.ne,o.ab,o.cl,o.pn,⟨m,hm.sameBut hsb hCa⟩⟩
  exact⟨m,hm.sameBut hsb hCa,λh' hs=>wpAny_pure (wpAny_pure ⟨_,H',o2.let I2 hs,q⟩)⟩
theorem plain_ix {n:Nat}{e:Expr}{c:C}(h:cE G n sc N e=some c):PlainIx e:=by
  cases n with
  | zero=>cases h
  | succ n=>cases e<;>first|(intro o i;rfl)|(cases h;done)|(cases n<;>cases h)
theorem no_star {n:Nat}{e:Expr}{c:C}(h:cE G n sc N e=some c):noStar e=true:=by
  cases n with
  | zero=>cases h
  | succ n=>cases e<;>first|rfl|(cases h;done)|(cases n<;>cases h)
theorem no_fold {n:Nat}{e:Expr}{c:C}(h:cE G n sc N e=some c) (env:Env):∀x,foldedSetIterable e env x=pure x:=by
  cases n with
  | zero=>cases h
  | succ n=>cases e<;>first|(intro x;rfl)|(cases h;done)|(cases n<;>cases h)
theorem no_mark {n:Nat}{e:Expr}{c:C}(h:cE G n sc N e=some c) (op:CmpOp):behindInMarks op e=false:=by
  cases n with
  | zero=>cases h
  | succ n=>cases e<;>first|rfl|(cases h;done)|(cases n<;>cases h)
structure Ok (call:Nat→List D→Option R) (X:Cx) (e:Expr) (c:C):Prop where
  he:SndE call X e c
  hp:SndP call X e c
  ht:SndT call X e c
  hg:SndAg call X e c
  nv:(∃x p,e=.Name x p)∨∀i,c≠.v i
theorem Ok.of {e:Expr}{c:C}(h:SndE call X e c) (ht:SndT call X e c) (hc:∀i,c≠.v i):Ok call X e c:=⟨h,h.look hc,ht,h.lend hc,.inr hc⟩
structure AllE (call:Nat→List D→Option R) (G:Gx) (k n:Nat):Prop where
  e:∀(X:Cx) (sc:Scope) (N:List Str) (e:Expr) (c:C),XG call G k X sc N→cE G n sc N e=some c→Ok call X e c
  f:∀(X:Cx) (sc:Scope) (N:List Str) (f:Str) (es:List Expr) (c:C) (p pos:Pos),XG call G k X sc N→glB sc f=true→plainName f=true→cCall G n sc N f es=some c→SndE call X (.Call (.Name f p) es [] pos) c∧∀i,c≠.v i
  a:∀(X:Cx) (sc:Scope) (N:List Str) (es:List Expr) (cs:List C),XG call G k X sc N→cEs G n sc N es=some cs→SndA call X es cs∧SndAP call X es cs∧es.all noStar=true∧cs.length=es.length
  o:∀(X:Cx) (sc:Scope) (N:List Str) (e:Option Expr) (c:Option C),XG call G k X sc N→cO G n sc N e=some c→SndO call X e c
  kf:∀(X:Cx) (sc:Scope) (N:List Str) (kws:List Keyword) (cs:List C),XG call G k X sc N→cEs G n sc N (kws.map (·.value))=some cs→SndK call X kws cs
  x:∀(X:Cx) (sc:Scope) (N:List Str) (e:Expr) (c:C),XG call G k X sc N→cX G n sc N e=some c→Ok call X e c∧∀i,c≠.v i
  j:∀(X:Cx) (sc:Scope) (N:List Str) (es:List Expr) (cs:List C),XG call G k X sc N→cJ G n sc N es=some cs→SndJ call X es cs
  ga:∀(X:Cx) (sc:Scope) (N:List Str) (es:List Expr) (cs:List C),XG call G k X sc N→cEs G n sc N es=some cs→SndGA call X es cs
  w:∀(X:Cx) (sc:Scope) (N:List Str) (es:List Expr) (c:C),XG call G k X sc N→cAnd G n sc N es=some c→SndW call X .And es c
  v:∀(X:Cx) (sc:Scope) (N:List Str) (es:List Expr) (c:C),XG call G k X sc N→cOr G n sc N es=some c→SndW call X .Or es c
theorem all_zero:AllE call G k 0:=by
  constructor
  · intro X sc N e c _ h;cases h
  · intro X sc N f es c p pos _ _ _ h;cases h
  · intro X sc N e c _ h;cases h
  · intro X sc N e c _ h;cases h
  · intro X sc N e c _ h;cases h
  · intro X sc N e c _ h;cases h
  · intro X sc N e c _ h;cases h
  · intro X sc N e c _ h;cases h
  · intro X sc N e c _ h;cases h
  · intro X sc N e c _ h;cases h
inductive Srk (sc:Scope):Expr→Sr→Prop where
  | seq (e:Expr):Srk sc e (.seq e)
  | rng (x:Str) (p:Pos) (as:List Expr) (pos:Pos):glB sc x=true→x=Str.ofString "range"→(as.length=1∨as.length=2∨as.length=3)→Srk sc (.Call (.Name x p) as [] pos) (.rng as)
  | zip (x:Str) (p:Pos) (a b:Expr) (pos:Pos):glB sc x=true→x=Str.ofString "zip"→Srk sc (.Call (.Name x p) [a,b] [] pos) (.zip a b)
  | enm (x:Str) (p:Pos) (a:Expr) (pos:Pos):glB sc x=true→x=Str.ofString "enumerate"→Srk sc (.Call (.Name x p) [a] [] pos) (.enm a)
  | rev (x y:Str) (p p2:Pos) (a:Expr) (pos pos2:Pos):glB sc x=true→x=Str.ofString "reversed"→glB sc y=true→y=Str.ofString "range"→Srk sc (.Call (.Name x p) [.Call (.Name y p2) [a] [] pos2] [] pos) (.rev [a])
theorem srk (it:Expr):Srk sc it (srOf sc it):=by
  unfold srOf
  split
  · rename_i f p as pos
    split
    · rename_i h
      simp only [Bool.and_eq_true,Bool.or_eq_true,beq_iff_eq,or_assoc] at h
      exact .rng f p as pos h.1.1 h.1.2 h.2
    · split
      · rename_i h
        simp only [Bool.and_eq_true,beq_iff_eq] at h
        split
        · exact .zip f p _ _ pos h.1 h.2
        · exact .seq _
      · split
        · rename_i h
          simp only [Bool.and_eq_true,beq_iff_eq] at h
          split
          · split
            · rename_i h'
              simp only [Bool.and_eq_true,beq_iff_eq] at h'
              exact .rev f _ p _ _ pos _ h.1 h.2 h'.1 h'.2
            · exact .seq _
          · exact .seq _
        · split
          · rename_i h
            simp only [Bool.and_eq_true,beq_iff_eq] at h
            split
            · exact .enm f p _ pos h.1 h.2
            · exact .seq _
          · exact .seq _
  · exact .seq _
theorem blt_none (g:XG call G k X sc N) (hG:∀x∈bltNames,G.defs.lookup x=none) {x:Str}{s:String}(h:x=Str.ofString s) (hs:s∈["len","abs","min","max","sum","all","tuple","list","int","bool","str","isinstance","range","zip","reversed","sorted","enumerate","any"]):X.mg x=none:=g.blt x (hG x (mem_blt h hs)) (mem_blt h hs)
theorem src_seq {n:Nat}(A:AllE call G k n) (g:XG call G k X sc N) {tg it:Expr}{x:C}(h:cE G n sc N it=some x):SndI X tg it true (fun σ=>(evE call σ x).bind λr=>seqD r.2):=snd_seq (A.e X sc N it x g h).he
theorem src_rng {n:Nat}(A:AllE call G k n) (g:XG call G k X sc N) (hG:∀x∈bltNames,G.defs.lookup x=none) {tg:Expr}{f:Str}{p pos:Pos}{as:List Expr}{xs:List C}(hg:glB sc f=true) (hf:f=Str.ofString "range") (hl:as.length=1∨as.length=2∨as.length=3) (h:cEs G n sc N as=some xs) :
    SndI X tg (.Call (.Name f p) as [] pos) false (fun σ=>(evAP call σ xs).bind rngD):=by
  obtain⟨_,a2,a3,a4⟩:=A.a X sc N as xs g h
  exact snd_rng hf (g.gl f hg) (blt_none g hG hf (by decide)) a3 hl a4 a2
theorem src_enm {n:Nat}(A:AllE call G k n) (g:XG call G k X sc N) (hG:∀x∈bltNames,G.defs.lookup x=none) {es:List Expr}{kk:Nat}{tp:Pos}{f:Str}{p pos:Pos}{a:Expr}{x:C}(hg:glB sc f=true) (hf:f=Str.ofString "enumerate") (ha:cE G n sc N a=some x) :
    SndI X (.Tuple es kk tp) (.Call (.Name f p) [a] [] pos) true (fun σ=>(evE call σ x).bind λx=>(seqD x.2).bind λxs=>some (enumD 0 xs)):=
  snd_enm hf (g.gl f hg) (blt_none g hG hf (by decide)) (by simp [no_star ha]) (A.e X sc N a x g ha).he
theorem src_rev {n:Nat}(A:AllE call G k n) (g:XG call G k X sc N) (hG:∀x∈bltNames,G.defs.lookup x=none) {tg:Expr}{f f':Str}{p p' pos pos':Pos}{a:Expr}{xs:List C}(hg:glB sc f=true) (hf:f=Str.ofString "reversed") (hg':glB sc f'=true) (hf':f'=Str.ofString "range") (h:cEs G n sc N [a]=some xs) :
    SndI X tg (.Call (.Name f p) [.Call (.Name f' p') [a] [] pos'] [] pos) false (fun σ=>(evAP call σ xs).bind rvD):=by
  obtain⟨_,a2,a3,a4⟩:=A.a X sc N [a] xs g h
  exact snd_rev hf hf' (g.gl f hg) (blt_none g hG hf (by decide)) (g.gl f' hg') (blt_none g hG hf' (by decide)) a3 rfl a4 a2
theorem two_tup {tg:Expr}{t:Tg}(h:tgOf sc N tg=some t) (h2:isTwo t=true):∃es kk tp,tg=.Tuple es kk tp:=by
  unfold tgOf at h
  split at h
  · split at h
    · rename_i x _ _
      cases hs:slotOf N x with
      | none=>rw [hs] at h;cases h
      | some i=>rw [hs] at h;cases h;cases h2
    · cases h
  · exact⟨_,_,_,rfl⟩
  · cases h
theorem cE_name {n:Nat}{x:Str}{p:Pos}{i:Nat}(h:cE G n sc N (.Name x p)=some (.v i)):varOf sc N x=some i:=by
  cases n with
  | zero=>cases h
  | succ n =>
    have h:(match varOf sc N x with|some i=>some (C.v i)|none=>cGl G sc x)=some (.v i):=h
    cases hv:varOf sc N x with
    | some j=>rw [hv] at h;cases h;rfl
    | none =>
      rw [hv] at h
      have h:cGl G sc x=some (.v i):=h
      unfold cGl at h
      split at h
      · cases hc:G.cons.lookup x<;>(rw [hc] at h;cases h)
      · cases h
theorem cop_in {op:CmpOp}(h:copOf op=some .isin):op=.In:=by cases op<;>first|rfl|cases h
theorem cop_notin {op:CmpOp}(h:copOf op=some .notin):op=.NotIn:=by cases op<;>first|rfl|cases h
theorem units20 (g:XG call G k X sc N):X.A.units+20<cLine:=by
  have:=g.room.units
  omega
theorem and_nv {n:Nat}{es:List Expr}{c:C}(hl:2≤es.length) (h:cAnd G n sc N es=some c):∀i,c≠.v i:=by
  cases n with
  | zero=>cases h
  | succ n =>
    unfold cAnd at h
    split at h
    · simp at hl
    · obtain⟨x,e1,e2⟩:=bind1 h
      obtain⟨y,e3,e4⟩:=bind1 e2
      cases e4
      exact λi z=>nomatch z
    · cases h
theorem or_nv {n:Nat}{es:List Expr}{c:C}(hl:2≤es.length) (h:cOr G n sc N es=some c):∀i,c≠.v i:=by
  cases n with
  | zero=>cases h
  | succ n =>
    unfold cOr at h
    split at h
    · simp at hl
    · obtain⟨x,e1,e2⟩:=bind1 h
      obtain⟨y,e3,e4⟩:=bind1 e2
      cases e4
      exact λi z=>nomatch z
    · cases h
theorem all_succ (hG:∀x∈bltNames,G.defs.lookup x=none) {n:Nat}(A:AllE call G k n):AllE call G k (n+1):=by
  constructor
  · intro X sc N e c g h
    unfold cE at h
    split at h
    · -- a name
      rename_i x pos
      cases hv:varOf sc N x with
      | none =>
        rw [hv] at h
        obtain⟨h1,h2⟩:=snd_gl (call:=call) (pos:=pos) g h
        exact .of h1 (h1.test λ_=>rfl) h2
      | some i =>
        rw [hv] at h
        cases h
        obtain⟨h1,h2,h3⟩:=snd_name (call:=call) (pos:=pos) g hv
        exact⟨h1,h2,h1.test λ_=>rfl,h3,.inl ⟨_,_,rfl⟩⟩
    · rename_i cc j pos
      cases hv:kOf cc with
      | none=>rw [hv] at h;cases h
      | some d =>
        rw [hv] at h
        cases h
        have h1:=snd_const (call:=call) (X:=X) (j:=j) (pos:=pos) hv
        exact .of h1 (h1.test λ_=>rfl) λi z=>nomatch z
    · rename_i a op b pos
      obtain⟨o,e1,e2⟩:=bind1 h
      obtain⟨x,e3,e4⟩:=bind1 e2
      obtain⟨y,e5,e6⟩:=bind1 e4
      cases e6
      have h1:=snd_bin (call:=call) (pos:=pos) (opd_of (X:=X) e1) (A.e X sc N a x g e3).hp (A.e X sc N b y g e5).hp
      exact .of h1 (h1.test λ_=>rfl) λi z=>nomatch z
    · rename_i a pos
      cases hx:cE G n sc N a with
      | none=>rw [hx] at h;cases h
      | some x =>
        rw [hx] at h
        cases h
        have h1:=snd_neg (pos:=pos) (A.e X sc N a x g hx).hp
        exact .of h1 (h1.test λ_=>rfl) λi z=>nomatch z
    · rename_i a pos
      cases hx:cE G n sc N a with
      | none=>rw [hx] at h;cases h
      | some x =>
        rw [hx] at h
        cases h
        have h0:=A.e X sc N a x g hx
        obtain⟨h1,h2⟩:=snd_not (pos:=pos) h0.he h0.ht
        exact .of h1 h2 λi z=>nomatch z
    · rename_i es pos
      split at h
      · rename_i hl
        have h0:=A.w X sc N es c g h
        exact .of (h0 pos).1 h0.test (and_nv hl h)
      · cases h
    · rename_i es pos
      split at h
      · rename_i hl
        have h0:=A.v X sc N es c g h
        exact .of (h0 pos).1 h0.test (or_nv hl h)
      · cases h
    · rename_i a cc j p2 pos
      obtain⟨d,e1,e2⟩:=bind1 h
      obtain⟨x,e3,e4⟩:=bind1 e2
      cases e4
      obtain⟨h1,h2⟩:=snd_is (call:=call) (X:=X) (pos:=pos) (pos':=p2) (j:=j) false rfl e1 (A.e X sc N a x g e3).hp
      exact .of h1 h2 λi z=>nomatch z
    · rename_i a cc j p2 pos
      obtain⟨d,e1,e2⟩:=bind1 h
      obtain⟨x,e3,e4⟩:=bind1 e2
      cases e4
      obtain⟨h1,h2⟩:=snd_is (call:=call) (X:=X) (pos:=pos) (pos':=p2) (j:=j) true rfl e1 (A.e X sc N a x g e3).hp
      exact .of h1 h2 λi z=>nomatch z
    · rename_i a op b pos _ _
      obtain⟨o,e1,e2⟩:=bind1 h
      obtain⟨x,e3,e4⟩:=bind1 e2
      obtain⟨y,e5,e6⟩:=bind1 e4
      have hm:behindInMarks op b=false:=no_mark e5 op
      obtain⟨h1,h2⟩:=snd_cmp (call:=call) (pos:=pos) (cmpd_of (X:=X) (units20 g) e1) hm (λ_ _ _ hz=>cmp_bl hz) (A.e X sc N a x g e3).hp (A.e X sc N b y g e5).hp
      unfold mkCmp at e6
      split at e6
      · rename_i xn px i _ _
        cases e6
        obtain⟨k1,k2⟩:=snd_inV (call:=call) (pos:=pos) (px:=px) false g (units20 g) (.inl ⟨rfl,cop_in e1,rfl⟩) (cmpd_of (X:=X) (units20 g) e1) (cE_name e5) (A.e X sc N a x g e3).hp
        exact .of k1 k2 λi z=>nomatch z
      · rename_i xn px i _ _
        cases e6
        obtain⟨k1,k2⟩:=snd_inV (call:=call) (pos:=pos) (px:=px) true g (units20 g) (.inr ⟨rfl,cop_notin e1,rfl⟩) (cmpd_of (X:=X) (units20 g) e1) (cE_name e5) (A.e X sc N a x g e3).hp
        exact .of k1 k2 λi z=>nomatch z
      · cases e6
        exact .of h1 h2 λi z=>nomatch z
    · rename_i a lo hi p2 pos
      obtain⟨x,e1,e2⟩:=bind1 h
      obtain⟨l,e3,e4⟩:=bind1 e2
      obtain⟨u,e5,e6⟩:=bind1 e4
      cases e6
      have h1:=snd_sl (p2:=p2) (pos:=pos) (A.e X sc N a x g e1).hp (A.o X sc N lo l g e3) (A.o X sc N hi u g e5)
      exact .of h1 (h1.test λ_=>rfl) λi z=>nomatch z
    · rename_i a b pos _
      obtain⟨x,e1,e2⟩:=bind1 h
      obtain⟨y,e3,e4⟩:=bind1 e2
      cases e4
      have h1:=snd_ix (pos:=pos) (plain_ix e3) (A.e X sc N a x g e1).hp (A.e X sc N b y g e3).hp
      exact .of h1 (h1.test λ_=>rfl) λi z=>nomatch z
    · rename_i es kk pos
      cases hx:cEs G n sc N es with
      | none=>rw [hx] at h;cases h
      | some xs =>
        rw [hx] at h
        cases h
        have h1:=snd_tup (x1:=kk) (pos:=pos) (A.a X sc N es xs g hx).1
        exact .of h1 (h1.test λ_=>rfl) λi z=>nomatch z
    · rename_i es pos
      cases hx:cEs G n sc N es with
      | none=>rw [hx] at h;cases h
      | some xs =>
        rw [hx] at h
        cases h
        have h1:=snd_lst (pos:=pos) (A.a X sc N es xs g hx).1
        exact .of h1 (h1.test λ_=>rfl) λi z=>nomatch z
    · rename_i f p as pos
      split at h
      · rename_i hf
        rw [Bool.and_eq_true] at hf
        obtain⟨h1,h2⟩:=A.f X sc N f as c p pos g hf.1 hf.2 h
        exact .of h1 (h1.test λ_=>rfl) h2
      · cases h
    · rename_i elt tg it sc' pos
      split at h
      · rename_i hsc
        have S:=scope_ok hsc
        obtain⟨t,e1,e2⟩:=bind1 h
        obtain⟨ks,e3,e4⟩:=bind1 e2
        obtain⟨ce,e5,e6⟩:=bind1 e4
        have he:∀X':Cx,XG call G k X' sc' (ownN sc'++freeN sc')→SndE call X' elt ce:=λX' g'=>(A.e X' sc' _ elt ce g' e5).he
        have hsr:=srk (sc:=sc) it
        cases hq:srOf sc it with
        | seq s =>
          rw [hq] at e6 hsr
          obtain⟨x,q1,q2⟩:=bind1 e6
          cases q2
          cases hsr
          have h1:=snd_comp (pos:=pos) (c:=.compS ce (ownN sc').length ks t x) g S e1 e3 he (src_seq A g q1) (no_fold q1 X.env) fun σ r hr=>by
            obtain⟨y,r1,r2⟩:=bind1 (by simpa only [evE_compS] using hr)
            obtain⟨its,r3,r4⟩:=bind1 r2
            obtain⟨ys,r5,r6⟩:=bind1 r4
            cases r6
            exact⟨its,ys,by simp only [r1];exact r3,r5,rfl,λz=>z rfl⟩
          exact .of h1 (h1.test λ_=>rfl) λi z=>nomatch z
        | rng rs =>
          rw [hq] at e6 hsr
          obtain⟨xs,q1,q2⟩:=bind1 e6
          cases q2
          cases hsr with
          | rng f p as pos2 hg hf hl =>
            have h1:=snd_comp (pos:=pos) (c:=.compR ce (ownN sc').length ks t xs) g S e1 e3 he (src_rng (p:=p) (pos:=pos2) A g hG hg hf hl q1) (λ_=>rfl) fun σ r hr=>by
              obtain⟨y,r1,r2⟩:=bind1 (by simpa only [evE_compR] using hr)
              obtain⟨its,r3,r4⟩:=bind1 r2
              split at r4
              · rename_i hle
                obtain⟨ys,r5,r6⟩:=bind1 r4
                cases r6
                exact⟨its,ys,by simp only [r1];exact r3,r5,rfl,λ_=>hle⟩
              · cases r4
            exact .of h1 (h1.test λ_=>rfl) λi z=>nomatch z
        | zip a b=>rw [hq] at e6;cases e6
        | rev rs=>rw [hq] at e6;cases e6
        | enm a=>rw [hq] at e6;cases e6
      · cases h
    · exact (A.x X sc N _ c g h).1
  · intro X sc N f es c p pos g hg hp h
    unfold cCall at h
    split at h
    · rename_i i hd
      split at h
      · cases h
      · rename_i hne
        cases hx:cEs G n sc N es with
        | none=>rw [hx] at h;cases h
        | some xs =>
          rw [hx] at h
          cases h
          obtain⟨a1,a2,a3,a4⟩:=A.a X sc N es xs g hx
          exact⟨snd_call g hd hg (plain_of hp).2 a3 (by intro z;subst z;exact hne rfl) (A.ga X sc N es xs g hx),(λi z=>nomatch z)⟩
    · rename_i hd
      split at h
      · rename_i a t p2 hf
        split at h
        · rename_i hq
          rw [Bool.and_eq_true] at hq
          obtain⟨ty,e1,e2⟩:=bind1 h
          obtain⟨x,e3,e4⟩:=bind1 e2
          cases e4
          have hdt:G.defs.lookup t=none:=by simpa using hq.2
          exact⟨snd_isi g (by simpa using hf) hd hdt hg hq.1 e1 (no_star e3) (A.e X sc N a x g e3).hp,λi z=>nomatch z⟩
        · cases h
      · obtain⟨b,e1,e2⟩:=bind1 h
        rename_i as _ _ hf
        cases hx:cEs G n sc N as with
        | none=>rw [hx] at e2;cases e2
        | some xs =>
          rw [hx] at e2
          cases e2
          obtain⟨a1,a2,a3,a4⟩:=A.a X sc N as xs g hx
          exact⟨snd_bi_of g e1 hd hg hp a3 a2,λi z=>nomatch z⟩
      · cases h
  · intro X sc N es cs g h
    unfold cEs at h
    split at h
    · cases h
      exact⟨snd_anil,snd_apnil,rfl,rfl⟩
    · rename_i a r
      obtain⟨x,e1,e2⟩:=bind1 h
      obtain⟨xs,e3,e4⟩:=bind1 e2
      cases e4
      have h0:=A.e X sc N a x g e1
      obtain⟨a1,a2,a3,a4⟩:=A.a X sc N r xs g e3
      have hs:=star_cons (env:=X.env) (es:=r) (no_star e1)
      exact⟨snd_acons hs h0.he a1,snd_apcons hs h0.hp a2,by simp [no_star e1];simpa using a3,by simp [a4]⟩
  · intro X sc N e c g h
    unfold cO at h
    split at h
    · cases h;exact snd_onone
    · rename_i e
      cases hx:cE G n sc N e with
      | none=>rw [hx] at h;cases h
      | some x =>
        rw [hx] at h
        cases h
        exact snd_osome (A.e X sc N e x g hx).hp
  · intro X sc N kws cs g h
    unfold cEs at h
    cases kws with
    | nil=>cases h;exact snd_knil
    | cons kw kws =>
      obtain⟨x,e1,e2⟩:=bind1 h
      obtain⟨xs,e3,e4⟩:=bind1 e2
      cases e4
      exact snd_kcons (A.e X sc N kw.value x g e1).he (A.kf X sc N kws xs g e3)
  · intro X sc N e c g h
    unfold cX at h
    split at h
    · rename_i elt tg it cd sc' pos
      split at h
      · rename_i hsc
        have S:=scope_ok hsc
        obtain⟨t,e1,e2⟩:=bind1 h
        obtain⟨ks,e3,e4⟩:=bind1 e2
        obtain⟨ce,e5,e6⟩:=bind1 e4
        obtain⟨cc,e7,e8⟩:=bind1 e6
        have he:∀X':Cx,XG call G k X' sc' (ownN sc'++freeN sc')→SndE call X' elt ce:=λX' g'=>(A.e X' sc' _ elt ce g' e5).he
        have hc:∀X':Cx,XG call G k X' sc' (ownN sc'++freeN sc')→SndT call X' cd cc:=λX' g'=>(A.e X' sc' _ cd cc g' e7).ht
        have hsr:=srk (sc:=sc) it
        cases hq:srOf sc it with
        | seq s =>
          rw [hq] at e8 hsr
          obtain⟨x,q1,q2⟩:=bind1 e8
          cases q2
          cases hsr
          have h1:=snd_compF (pos:=pos) (c:=.compF ce cc (ownN sc').length ks t x) g S e1 e3 he hc (src_seq A g q1) (no_fold q1 X.env) fun σ r hr=>by
            obtain⟨y,r1,r2⟩:=bind1 (by simpa only [evE_compF] using hr)
            obtain⟨its,r3,r4⟩:=bind1 r2
            obtain⟨ys,r5,r6⟩:=bind1 r4
            cases r6
            exact⟨its,ys,by simp only [r1];exact r3,r5,rfl,λz=>z rfl⟩
          exact⟨.of h1 (h1.test λ_=>rfl) (λi z=>nomatch z),(λi z=>nomatch z)⟩
        | _=>rw [hq] at e8;cases e8
      · cases h
    · cases h
  · intro X sc N es cs g h
    unfold cJ at h
    split at h
    · cases h;exact snd_jnil
    · rename_i x j p r
      cases hx:cJ G n sc N r with
      | none=>rw [hx] at h;cases h
      | some xs =>
        rw [hx] at h
        cases h
        exact snd_jcons (snd_const rfl) (A.j X sc N r xs g hx)
    · rename_i e p r
      obtain⟨x,e1,e2⟩:=bind1 h
      obtain⟨xs,e3,e4⟩:=bind1 e2
      cases e4
      exact snd_jcons (snd_fv (A.e X sc N e x g e1).hp) (A.j X sc N r xs g e3)
    · cases h
  · intro X sc N es cs g h
    unfold cEs at h
    split at h
    · cases h
      exact snd_ganil
    · rename_i a r
      obtain⟨x,e1,e2⟩:=bind1 h
      obtain⟨xs,e3,e4⟩:=bind1 e2
      cases e4
      exact snd_gacons (star_cons (env:=X.env) (es:=r) (no_star e1)) (A.e X sc N a x g e1).hg (A.ga X sc N r xs g e3)
  · intro X sc N es c g h
    unfold cAnd at h
    split at h
    · rename_i a
      have h0:=A.e X sc N a c g h
      exact snd_one h0.he h0.ht
    · rename_i a b r
      obtain⟨x,e1,e2⟩:=bind1 h
      obtain⟨y,e3,e4⟩:=bind1 e2
      cases e4
      have h0:=A.e X sc N a x g e1
      exact snd_and h0.he h0.ht (A.w X sc N (b::r) y g e3)
    · cases h
  · intro X sc N es c g h
    unfold cOr at h
    split at h
    · rename_i a
      have h0:=A.e X sc N a c g h
      exact snd_one h0.he h0.ht
    · rename_i a b r
      obtain⟨x,e1,e2⟩:=bind1 h
      obtain⟨y,e3,e4⟩:=bind1 e2
      cases e4
      have h0:=A.e X sc N a x g e1
      exact snd_or h0.he h0.ht (A.v X sc N (b::r) y g e3)
    · cases h
theorem all_ok (hG:∀x∈bltNames,G.defs.lookup x=none):∀n,AllE call G k n
  | 0=>all_zero
  | n+1=>all_succ hG (all_ok hG n)
end
end Dw
namespace Dw
open PySem PySem.Spec PySem.W PyProof.Rows L2
noncomputable abbrev G0:Gx:=⟨[],[],[],[],[],[],[]⟩
section
variable {call:Nat→List D→Option R}{k:Nat}{X:Cx}{sc sc':Scope}{N:List Str}{ks:List Nat}
end
end Dw
namespace Dw
open PySem PySem.Spec PyProof.Rows L2
section
variable {call:Nat→List D→Option R}{G:Gx}{k:Nat}{X:Cx}{sc sc':Scope}{N:List Str}
theorem comp_inv (hG:∀x∈bltNames,G.defs.lookup x=none) {n:Nat}(A:AllE call G k n) (g:XG call G k X sc N) {elt:Expr}{gens:List Comprehension}{pos:Pos}{c:C}(h:cE G (n+1) sc N (.ListComp elt gens sc' pos)=some c) (hx:cX G n sc N (.ListComp elt gens sc' pos)≠some c) :
    ∃(tg iter:Expr) (t:Tg) (ks:List Nat) (ce:C) (b:Bool) (src:En→Option (List D)),gens=[⟨tg,iter,[],0⟩]∧ScOk sc'∧tgOf sc' (ownN sc'++freeN sc') tg=some t∧optAll (capOf sc N) (freeN sc')=some ks ∧
      (∀X':Cx,XG call G k X' sc' (ownN sc'++freeN sc')→SndE call X' elt ce)∧SndI X tg iter b src∧(∀x,foldedSetIterable iter X.env x=pure x) ∧
      (∀σ r,evE call σ c=some r→∃its ys,src σ=some its∧evComp call ce (capt σ (ownN sc').length ks) t its=some ys∧r=(true,.lst ys)∧((b=true→its.length≤lim)→its.length≤lim)):=by
  unfold cE at h
  split at h
  any_goals (rename_i heq;first|cases heq|skip)
  all_goals first|(cases n<;>(cases h;done))|skip
  rotate_left
  · exact absurd h hx
  rename_i _ tg it
  split at h
  · rename_i hsc
    have S:=scope_ok hsc
    obtain⟨t,e1,e2⟩:=bind1 h
    obtain⟨ks,e3,e4⟩:=bind1 e2
    obtain⟨ce,e5,e6⟩:=bind1 e4
    have he:∀X':Cx,XG call G k X' sc' (ownN sc'++freeN sc')→SndE call X' elt ce:=λX' g'=>(A.e X' sc' _ elt ce g' e5).he
    have hsr:=srk (sc:=sc) it
    cases hq:srOf sc it with
    | seq s =>
      rw [hq] at e6 hsr
      obtain⟨x,q1,q2⟩:=bind1 e6
      cases q2
      cases hsr
      refine⟨tg,it,t,ks,ce,true,_,rfl,S,e1,e3,he,src_seq A g q1,no_fold q1 X.env,fun σ r hr=>?_⟩
      obtain⟨y,r1,r2⟩:=bind1 (by simpa only [evE_compS] using hr)
      obtain⟨its,r3,r4⟩:=bind1 r2
      obtain⟨ys,r5,r6⟩:=bind1 r4
      cases r6
      exact⟨its,ys,by simp only [r1];exact r3,r5,rfl,λz=>z rfl⟩
    | rng rs =>
      rw [hq] at e6 hsr
      obtain⟨xs,q1,q2⟩:=bind1 e6
      cases q2
      cases hsr with
      | rng f p as pos2 hg hf hl =>
        refine⟨tg,_,t,ks,ce,false,_,rfl,S,e1,e3,he,src_rng (p:=p) (pos:=pos2) A g hG hg hf hl q1,λ_=>rfl,fun σ r hr=>?_⟩
        obtain⟨y,r1,r2⟩:=bind1 (by simpa only [evE_compR] using hr)
        obtain⟨its,r3,r4⟩:=bind1 r2
        split at r4
        · rename_i hle
          obtain⟨ys,r5,r6⟩:=bind1 r4
          cases r6
          exact⟨its,ys,by simp only [r1];exact r3,r5,rfl,λ_=>hle⟩
        · cases r4
    | zip a b=>rw [hq] at e6;cases e6
    | rev rs=>rw [hq] at e6;cases e6
    | enm a=>rw [hq] at e6;cases e6
  · cases h
theorem compF_inv (hG:∀x∈bltNames,G.defs.lookup x=none) {n:Nat}(A:AllE call G k n) (g:XG call G k X sc N) {elt:Expr}{gens:List Comprehension}{pos:Pos}{c:C}(h:cX G (n+1) sc N (.ListComp elt gens sc' pos)=some c) :
    ∃(tg iter cnd:Expr) (t:Tg) (ks:List Nat) (ce cc:C) (src:En→Option (List D)),gens=[⟨tg,iter,[cnd],0⟩]∧ScOk sc'∧tgOf sc' (ownN sc'++freeN sc') tg=some t∧optAll (capOf sc N) (freeN sc')=some ks ∧
      (∀X':Cx,XG call G k X' sc' (ownN sc'++freeN sc')→SndE call X' elt ce)∧(∀X':Cx,XG call G k X' sc' (ownN sc'++freeN sc')→SndT call X' cnd cc)∧SndI X tg iter true src∧(∀x,foldedSetIterable iter X.env x=pure x) ∧
      (∀σ r,evE call σ c=some r→∃its ys,src σ=some its∧evCompF call cc ce (capt σ (ownN sc').length ks) t its=some ys∧r=(true,.lst ys)∧((true=true→its.length≤lim)→its.length≤lim)):=by
  unfold cX at h
  split at h
  any_goals (rename_i heq;first|cases heq|skip)
  all_goals first|(cases h;done)|skip
  rename_i _ tg it cd
  split at h
  · rename_i hsc
    have S:=scope_ok hsc
    obtain⟨t,e1,e2⟩:=bind1 h
    obtain⟨ks,e3,e4⟩:=bind1 e2
    obtain⟨ce,e5,e6⟩:=bind1 e4
    obtain⟨cc,e7,e8⟩:=bind1 e6
    have hsr:=srk (sc:=sc) it
    cases hq:srOf sc it with
    | seq s =>
      rw [hq] at e8 hsr
      obtain⟨x,q1,q2⟩:=bind1 e8
      cases q2
      cases hsr
      refine⟨tg,it,cd,t,ks,ce,cc,_,rfl,S,e1,e3,λX' g'=>(A.e X' sc' _ elt ce g' e5).he,λX' g'=>(A.e X' sc' _ cd cc g' e7).ht,src_seq A g q1,no_fold q1 X.env,fun σ r hr=>?_⟩
      obtain⟨y,r1,r2⟩:=bind1 (by simpa only [evE_compF] using hr)
      obtain⟨its,r3,r4⟩:=bind1 r2
      obtain⟨ys,r5,r6⟩:=bind1 r4
      cases r6
      exact⟨its,ys,by simp only [r1];exact r3,r5,rfl,λz=>z rfl⟩
    | _=>rw [hq] at e8;cases e8
  · cases h
theorem swap_comp (elt:Expr) (gens:List Comprehension) (sc':Scope) (pos py:Pos) (x:Str) (ln:Nat) (env:Env):∃b:Bool,swapsWith (.ListComp elt gens sc' pos) (some (.Name x py)) ln env=pure b:=⟨_,rfl⟩
theorem asg_any (hG:∀x∈bltNames,G.defs.lookup x=none) {n:Nat}(g:XG call G k X sc N) {e:Expr}{c:C}{x:Str}{i:Nat}{py spos:Pos}(h:cE G n sc N e=some c) (hx:(sc.names.lookup x == some .local||sc.names.lookup x == some .cell)=true) (hsl:slotOf N x=some i) :
    ∃t:TS,PS X (.Assign [.Name x py] e spos) t∧∀(Ge H:Hp) (F:Fz) (σ:En) (τ:L2.St) (r:R) (Dn:Ends),evE call σ c=some r→SR X.K Ge H F σ τ→(∀v H' F',Gr H F H' F'→RR X.K H H' F' r v→Dn.nx (τ.set i (some v)) H')→t Dn τ H:=by
  obtain⟨l1,l2⟩:=loc_of g hx
  have plain:swapsWith e (some (.Name x py)) spos.line X.env=pure false→∃t:TS,PS X (.Assign [.Name x py] e spos) t∧∀(Ge H:Hp) (F:Fz) (σ:En) (τ:L2.St) (r:R) (Dn:Ends),evE call σ c=some r→SR X.K Ge H F σ τ→(∀v H' F',Gr H F H' F'→RR X.K H H' F' r v→Dn.nx (τ.set i (some v)) H')→t Dn τ H:=λhs=>by
    obtain⟨te,pe,qe⟩:=((all_ok (call:=call) (k:=k) hG n).e X sc N e c g h).he
    exact⟨_,ps_set (i:=i) (by rw [g.hN];exact g.nd) (by rw [g.hN];exact slot_get hsl) l1 pe hs l2,λGe H F σ τ r Dn h1 h2 h3=>qe Ge H F σ τ r _ h1 h2 h3⟩
  cases n with
  | zero=>cases h
  | succ n =>
    cases e with
    | ListComp elt gens sc' pos =>
      obtain⟨b,hb⟩:=swap_comp elt gens sc' pos py x spos.line X.env
      cases b with
      | false=>exact plain hb
      | true =>
        by_cases hx':cX G n sc N (.ListComp elt gens sc' pos)=some c
        · cases n with
          | zero=>cases hx'
          | succ n =>
            obtain⟨tg,iter,cnd,t,ks,ce,cc,src,rfl,S,e1,e3,he,hcn,hi,hf,hc⟩:=compF_inv hG (all_ok (call:=call) (k:=k) hG n) g hx'
            exact⟨_,asg_compF g S e1 e3 he hcn hi hf hc hx hsl hb,λGe H F σ τ r Dn h1 h2 h3=>⟨Ge,F,σ,r,h1,h2,h3⟩⟩
        obtain⟨tg,iter,t,ks,ce,b,src,rfl,S,e1,e3,he,hi,hf,hc⟩:=comp_inv hG (all_ok (call:=call) (k:=k) hG n) g h hx'
        exact⟨_,asg_comp g S e1 e3 he hi hf hc hx hsl hb,λGe H F σ τ r Dn h1 h2 h3=>⟨Ge,F,σ,r,h1,h2,h3⟩⟩
    | SetComp _ _ _ _=>(cases n<;>cases h)
    | DictComp _ _ _ _ _=>(cases n<;>cases h)
    | _=>exact plain rfl
noncomputable def EndsOk (X:Cx) (Ge:Hp) (F0:Fz) (H:Hp) (F:Fz) (o:Ou) (Dn:Ends):Prop:=match o with
  | .nx σ'=>∀τ' H' F',Keep H F H' F'→Gr Ge F0 H' F'→SR X.K Ge H' F' σ' τ'→Dn.nx τ' H'
  | .rt r=>(∀v H' F',Gr Ge F0 H' F'→RR X.K Ge H' F' r v→Dn.rt v H')∧∀c,r=(false,.exc c)→∀H' F',Gr Ge F0 H' F'→Wish X c H'
  | .bk σ'=>∀τ' H' F',Keep H F H' F'→Gr Ge F0 H' F'→SR X.K Ge H' F' σ' τ'→Dn.bk τ' H'
  | .ct σ'=>∀τ' H' F',Keep H F H' F'→Gr Ge F0 H' F'→SR X.K Ge H' F' σ' τ'→Dn.ct τ' H'
theorem EndsOk.mv {X:Cx}{Ge:Hp}{F0:Fz}{H H1:Hp}{F F1:Fz}{o:Ou}{Dn:Ends}(h:EndsOk X Ge F0 H F o Dn) (k:Keep H F H1 F1):EndsOk X Ge F0 H1 F1 o Dn:=by
  cases o with
  | nx σ'=>exact fun τ' H' F' k' g s=>h τ' H' F' (k.trans k') g s
  | rt r=>exact h
  | bk σ'=>exact fun τ' H' F' k' g s=>h τ' H' F' (k.trans k') g s
  | ct σ'=>exact fun τ' H' F' k' g s=>h τ' H' F' (k.trans k') g s
variable (call X) in
noncomputable def SndS (st:List Stmt) (cs:List S):Prop:=∃t:TS,PSs X st t∧∀(Ge:Hp) (F0:Fz) (H:Hp) (F:Fz) (σ:En) (τ:L2.St) (o:Ou) (Dn:Ends),evSs call σ cs=some o→SR X.K Ge H F σ τ→Gr Ge F0 H F→EndsOk X Ge F0 H F o Dn→t Dn τ H
variable (call X) in
noncomputable def Snd1 (st:Stmt) (cs:List S):Prop:=∃t:TS,PS X st t∧∀(Ge:Hp) (F0:Fz) (H:Hp) (F:Fz) (σ:En) (τ:L2.St) (o:Ou) (Dn:Ends),evSs call σ cs=some o→SR X.K Ge H F σ τ→Gr Ge F0 H F→EndsOk X Ge F0 H F o Dn→t Dn τ H
theorem evSs_append (cx cy:List S):∀σ:En,evSs call σ (cx++cy)=(evSs call σ cx).bind (thenK fun σ'=>evSs call σ' cy):=by
  induction cx with
  | nil=>intro σ;rfl
  | cons a r ih =>
    intro σ
    rw [List.cons_append,evSs_cons,evSs_cons]
    rcases evS call σ a with _|(σ1|r1|σ1|σ1)
    · rfl
    · exact ih σ1
    · rfl
    · rfl
    · rfl
theorem snd_nil:SndS call X [] []:=⟨_,pss_nil,λGe F0 H F σ τ o Dn h s g e=>by cases h;exact e τ H F Keep.refl g s⟩
theorem snd_cons {st:Stmt}{rest:List Stmt}{cx cy:List S}(h1:Snd1 call X st cx) (h2:SndS call X rest cy):SndS call X (st::rest) (cx++cy):=by
  obtain⟨t1,p1,q1⟩:=h1
  obtain⟨t2,p2,q2⟩:=h2
  refine⟨_,pss_cons p1 p2,λGe F0 H F σ τ o Dn h s g e=>?_⟩
  rw [evSs_append] at h
  obtain⟨o1,e1,e2⟩:=bind1 h
  cases o1 with
  | nx σ1=>exact q1 Ge F0 H F σ τ (.nx σ1) { Dn with nx:=t2 Dn } e1 s g fun τ' H' F' k' g' s'=>q2 Ge F0 H' F' σ1 τ' o Dn e2 s' g' (e.mv k')
  | rt r=>cases e2;exact q1 Ge F0 H F σ τ (.rt r) { Dn with nx:=t2 Dn } e1 s g e
  | bk σ1=>cases e2;exact q1 Ge F0 H F σ τ (.bk σ1) { Dn with nx:=t2 Dn } e1 s g e
  | ct σ1=>cases e2;exact q1 Ge F0 H F σ τ (.ct σ1) { Dn with nx:=t2 Dn } e1 s g e
theorem SR.frz1 {K:PySem.W.Frag}{Ge H:Hp}{F F0:Fz}{σ:En}{τ:L2.St}(s:SR K Ge H F σ τ) (g:Gr Ge F0 H F) (i:Nat):∃F',SR K Ge H F' (Dw.frz1 σ i) τ∧Keep H F H F'∧Gr Ge F0 H F':=by
  unfold Dw.frz1
  split
  · rename_i ds0 hd
    obtain⟨a,ds,vs,eq0,h2,h3,h4,h5,h6⟩:=s.own i _ hd rfl
    cases eq0
    have kp:Keep H F H (λb=>b=a∨F b):=⟨λ_ _ h=>h,λ_ _ f h=>⟨.inr f,h⟩⟩
    refine⟨λb=>b=a∨F b,?_,kp,⟨g.same,λb f=>.inr (g.sub b f),λb f=>f.elim (λz=>.inr (z▸h3)) (g.new b),λb e f=>f.elim (λz=>by subst z;rw [h5] at e;cases e) (g.dom b e)⟩⟩
    have hl:=getv_lt hd
    refine⟨by simp [s.len],s.ent,λb e f=>f.elim (λz=>by subst z;rw [h5] at e;cases e) (s.dom b e),λj e hj=>?_,λj e hj hde=>?_,λj l e e' hj hl' hjl=>?_,λj m ks hj=>?_,λj ns ds hj=>?_,s.tb⟩
    · by_cases hij:i=j
      · subst hij
        rw [getv_same hl] at hj
        cases hj
        exact⟨.ref a,h2,a,vs,rfl,.inl ⟨.inl rfl,.inl h5⟩,RDs.mono kp h6⟩
      · rw [getv_ne hij] at hj
        obtain⟨v,q1,q2⟩:=s.val j e hj
        exact⟨v,q1,RD.mono kp q2⟩
    · have hij:i≠j:=λz=>by subst z;rw [getv_same hl] at hj;cases hj
      rw [getv_ne hij] at hj
      obtain⟨a',ds',vs',p1,p2,p3,p4,p5,p6⟩:=s.own j e hj hde
      refine⟨a',ds',vs',p1,p2,p3,λf=>f.elim (λz=>?_) p4,p5,RDs.mono kp p6⟩
      subst z
      exact hij (s.sep i j _ _ hd hj (by rw [h2,p2]))
    · have ne:∀{j:Nat} {e:D},getv (σ.set i (some (false,.lst ds0))) j=some (true,e)→i≠j:=λ{j e} hj z=>by subst z;rw [getv_same hl] at hj;cases hj
      have n1:=ne hj
      have n2:=ne hl'
      rw [getv_ne n1] at hj
      rw [getv_ne n2] at hl'
      exact s.sep j l e e' hj hl' hjl
    · have hij:i≠j:=λz=>by subst z;rw [getv_same hl] at hj;cases hj
      rw [getv_ne hij] at hj
      obtain⟨a',p1,p2,p3,p4⟩:=s.dct j m ks hj
      refine⟨a',p1,λf=>f.elim (λz=>?_) p2,p3,p4⟩
      subst z
      rw [h5] at p3
      cases p3
    · have hij:i≠j:=λz=>by subst z;rw [getv_same hl] at hj;cases hj
      rw [getv_ne hij] at hj
      obtain⟨v8,p1,p2⟩:=s.obj j ns ds hj
      refine⟨v8,p1,p2.mono kp λa' C dx fs _ hH hF=>⟨λf=>f.elim (λz=>?_) hF,rfl⟩⟩
      subst z
      rw [h5] at hH
      cases hH
  · exact⟨F,s,Keep.refl,g⟩
theorem SR.frzs {K:PySem.W.Frag}{Ge H:Hp}{F0:Fz}{τ:L2.St}:∀(js:List Nat) {σ:En}{F:Fz},SR K Ge H F σ τ→Gr Ge F0 H F→∃F',SR K Ge H F' (js.foldl Dw.frz1 σ) τ∧Keep H F H F'∧Gr Ge F0 H F'
  | [],σ,F,s,g=>⟨F,s,Keep.refl,g⟩
  | j::js,σ,F,s,g=>by
    obtain⟨F1,s1,k1,g1⟩:=SR.frz1 s g j
    obtain⟨F2,s2,k2,g2⟩:=SR.frzs js s1 g1
    exact⟨F2,s2,k1.trans k2,g2⟩
theorem snd_withF {st:Stmt}{mt is:List Nat}{s:S}(h:Snd1 call X st [s]):Snd1 call X st (withF mt is s):=by
  unfold withF
  split
  · exact h
  · obtain⟨t,p,q⟩:=h
    refine⟨t,p,λGe F0 H F σ τ o Dn hv hs g e=>?_⟩
    obtain⟨F',s',k',g'⟩:=SR.frzs (is.filter (mt.contains ·)) hs g
    exact q Ge F0 H F' _ τ o Dn hv s' g' (e.mv k')
end
end Dw
namespace Dw
open PySem PySem.Spec PyProof.Rows L2
section
variable {call:Nat→List D→Option R}{G:Gx}{k:Nat}{X:Cx}{sc sc':Scope}{N:List Str}
theorem evSs_one (σ:En) (s:S):evSs call σ [s]=evS call σ s:=by
  rw [evSs_cons]
  rcases evS call σ s with _|(_|_|_|_)<;>rfl
theorem SR.bindOwn {K:PySem.W.Frag}{Ge H H1:Hp}{F F1:Fz}{σ:En}{τ:L2.St}{i:Nat}{d:D}{v:V}(s0:SR K Ge H F σ τ) (s:SR K Ge H1 F1 σ τ) (h:RR K H H1 F1 (true,d) v):SR K Ge H1 F1 (σ.set i (some (true,d))) (τ.set i (some v)):=by
  obtain⟨a,ds,vs,rfl,rfl,h3,h4,h5,h6⟩:=h
  have hne:∀{j:Nat} {e:D} {a':Addr},getv σ j=some (true,e)→τ[j]?=some (some (.ref a'))→a'≠a:=λ{j e a'} hj ht z=>by
    obtain⟨b,u,q2,_,q5⟩:=s0.addr hj
    rw [ht] at q2
    cases q2
    subst z
    rw [h3] at q5
    cases q5
  refine⟨by simp [s.len],s.ent,s.dom,λj e hj=>?_,λj e hj hde=>?_,λj l e e' hj hl hjl=>?_,λj m ks hj=>?_,λj ns ds hj=>?_,s.tb⟩
  · have hij:i≠j:=λz=>by
      subst z
      rw [getv_same (by simpa using getv_lt hj)] at hj
      cases hj
    rw [getv_ne hij] at hj
    obtain⟨u,q1,q2⟩:=s.val j e hj
    exact⟨u,by rw [List.getElem?_set_ne hij];exact q1,q2⟩
  · by_cases hij:i=j
    · subst hij
      have hl:i<σ.length:=by simpa using getv_lt hj
      rw [getv_same hl] at hj
      cases hj
      exact⟨a,ds,vs,rfl,by rw [List.getElem?_set_self (by rw [←s.len];exact hl)],s0.ent.free h3,h4,h5,h6⟩
    · rw [getv_ne hij] at hj
      obtain⟨a',ds',vs',q1,q2,q3⟩:=s.own j e hj hde
      exact⟨a',ds',vs',q1,by rw [List.getElem?_set_ne hij];exact q2,q3⟩
  · by_cases n1:i=j
    · by_cases n2:i=l
      · rw [←n1,←n2]
      · subst n1
        have hl':i<σ.length:=by simpa using getv_lt hj
        rw [getv_ne n2] at hl
        obtain⟨b,u,q2,_⟩:=s.addr hl
        rw [List.getElem?_set_self (by rw [←s.len];exact hl'),List.getElem?_set_ne n2,q2] at hjl
        cases hjl
        exact absurd rfl (hne hl q2)
    · rw [getv_ne n1] at hj
      by_cases n2:i=l
      · subst n2
        have hl':i<σ.length:=by simpa using getv_lt hl
        obtain⟨b,u,q2,_⟩:=s.addr hj
        rw [List.getElem?_set_self (by rw [←s.len];exact hl'),List.getElem?_set_ne n1,q2] at hjl
        cases hjl
        exact absurd rfl (hne hj q2)
      · rw [getv_ne n2] at hl
        rw [List.getElem?_set_ne n1,List.getElem?_set_ne n2] at hjl
        exact s.sep j l e e' hj hl hjl
  · have hij:i≠j:=λz=>by
      subst z
      rw [getv_same (by simpa using getv_lt hj)] at hj
      cases hj
    rw [getv_ne hij] at hj
    obtain⟨a',q1,q2⟩:=s.dct j m ks hj
    exact⟨a',by rw [List.getElem?_set_ne hij];exact q1,q2⟩
  · have hij:i≠j:=λz=>by
      subst z
      rw [getv_same (by simpa using getv_lt hj)] at hj
      cases hj
    rw [getv_ne hij] at hj
    obtain⟨a',q1,q2⟩:=s.obj j ns ds hj
    exact⟨a',by rw [List.getElem?_set_ne hij];exact q1,q2⟩
theorem SR.bindDct {K:PySem.W.Frag}{Ge H:Hp}{F:Fz}{σ:En}{τ:L2.St}{i:Nat}{a:Addr}{ks:List Int}(s:SR K Ge H F σ τ) (h3:Ge a=none) (h4:¬F a) (h5:H a=some (.dK (dk ks))) (hne:∀{j:Nat}{e:D}{a':Addr},i≠j→getv σ j=some (true,e)→τ[j]?=some (some (.ref a'))→a'≠a):SR K Ge H F (σ.set i (some (true,.dct true ks))) (τ.set i (some (.ref a))):=by
  refine⟨by simp [s.len],s.ent,s.dom,λj e hj=>?_,λj e hj hde=>?_,λj l e e' hj hl hjl=>?_,λj m ks' hj=>?_,λj ns ds hj=>?_,s.tb⟩
  · have hij:i≠j:=λz=>by
      subst z
      rw [getv_same (by simpa using getv_lt hj)] at hj
      cases hj
    rw [getv_ne hij] at hj
    obtain⟨u,q1,q2⟩:=s.val j e hj
    exact⟨u,by rw [List.getElem?_set_ne hij];exact q1,q2⟩
  · have hij:i≠j:=λz=>by
      subst z
      rw [getv_same (by simpa using getv_lt hj)] at hj
      cases hj
      cases hde
    rw [getv_ne hij] at hj
    obtain⟨a',ds',vs',q1,q2,q3⟩:=s.own j e hj hde
    exact⟨a',ds',vs',q1,by rw [List.getElem?_set_ne hij];exact q2,q3⟩
  · by_cases n1:i=j
    · by_cases n2:i=l
      · rw [←n1,←n2]
      · subst n1
        have hl':i<σ.length:=by simpa using getv_lt hj
        rw [getv_ne n2] at hl
        obtain⟨b,u,q2,_⟩:=s.addr hl
        rw [List.getElem?_set_self (by rw [←s.len];exact hl'),List.getElem?_set_ne n2,q2] at hjl
        cases hjl
        exact absurd rfl (hne n2 hl q2)
    · rw [getv_ne n1] at hj
      by_cases n2:i=l
      · subst n2
        have hl':i<σ.length:=by simpa using getv_lt hl
        obtain⟨b,u,q2,_⟩:=s.addr hj
        rw [List.getElem?_set_self (by rw [←s.len];exact hl'),List.getElem?_set_ne n1,q2] at hjl
        cases hjl
        exact absurd rfl (hne n1 hj q2)
      · rw [getv_ne n2] at hl
        rw [List.getElem?_set_ne n1,List.getElem?_set_ne n2] at hjl
        exact s.sep j l e e' hj hl hjl
  · by_cases hij:i=j
    · subst hij
      have hl:i<σ.length:=by simpa using getv_lt hj
      rw [getv_same hl] at hj
      cases hj
      exact⟨a,by rw [List.getElem?_set_self (by rw [←s.len];exact hl)],h4,h5,λ_=>h3⟩
    · rw [getv_ne hij] at hj
      obtain⟨a',q1,q2⟩:=s.dct j m ks' hj
      exact⟨a',by rw [List.getElem?_set_ne hij];exact q1,q2⟩
  · have hij:i≠j:=λz=>by
      subst z
      rw [getv_same (by simpa using getv_lt hj)] at hj
      cases hj
    rw [getv_ne hij] at hj
    obtain⟨a',q1,q2⟩:=s.obj j ns ds hj
    exact⟨a',by rw [List.getElem?_set_ne hij];exact q1,q2⟩
theorem isD0_of {e:Expr}(h:isD0 e=true):∃p,e=.Dict [] [] p:=by
  unfold isD0 at h
  split at h
  · exact⟨_,rfl⟩
  · cases h
theorem snd_dnew (g:XG call G k X sc N) {x:Str}{i:Nat}{p py spos:Pos}(hx:(sc.names.lookup x == some .local||sc.names.lookup x == some .cell)=true) (hsl:slotOf N x=some i) :
    Snd1 call X (.Assign [.Name x py] (.Dict [] [] p) spos) [.dnew i]:=by
  obtain⟨l1,l2⟩:=loc_of g hx
  refine⟨_,ps_set (i:=i) (by rw [g.hN];exact g.nd) (by rw [g.hN];exact slot_get hsl) l1 pe_dnewK rfl l2,λGe F0 H F σ τ o Dn hv hs gr en=>?_⟩
  rw [evSs_one,evS_dnew] at hv
  cases hv
  intro a ha
  have g1:Gr H F (upd H a (.dK [])) F:=Gr.laid hs.dom ha
  refine en _ _ F g1.keep (gr.trans g1) (SR.bindDct (ks:=[]) (hs.grow g1) (hs.ent.free ha) (hs.dom a ha) upd_same λ{j e a'} _ hj ht z=>?_)
  obtain⟨b,u,q2,_,q5⟩:=hs.addr hj
  rw [ht] at q2
  cases q2
  subst z
  rw [ha] at q5
  cases q5
theorem snd_set (hG:∀x∈bltNames,G.defs.lookup x=none) {n:Nat}(g:XG call G k X sc N) {e:Expr}{c:C}{x:Str}{i:Nat}{keep:Bool}{py spos:Pos}(h:cE G n sc N e=some c) (hx:(sc.names.lookup x == some .local||sc.names.lookup x == some .cell)=true) (hsl:slotOf N x=some i) :
    Snd1 call X (.Assign [.Name x py] e spos) [.set i keep c]:=by
  obtain⟨t,p,q⟩:=asg_any (py:=py) (spos:=spos) hG g h hx hsl
  refine⟨t,p,λGe F0 H F σ τ o Dn hv hs gr en=>?_⟩
  rw [evSs_one,evS_set] at hv
  obtain⟨r,e1,e2⟩:=bind1 hv
  cases e2
  refine q Ge H F σ τ r Dn e1 hs λv H' F' g' rr=>?_
  obtain⟨b,d⟩:=r
  have froz:keepR keep (b,d)=(false,d)→Dn.nx (τ.set i (some v)) H':=λhk=>by
    obtain⟨F2,g2,rd⟩:=rr.fz g'
    have en':∀τ' H' F',Keep H F H' F'→Gr Ge F0 H' F'→SR X.K Ge H' F' (σ.set i (some (keepR keep (b,d)))) τ'→Dn.nx τ' H':=en
    rw [hk] at en'
    exact en' _ H' F2 g2.keep (gr.trans g2) ((hs.grow g2).bind rd)
  cases b with
  | false=>exact froz (by cases keep<;>rfl)
  | true =>
    cases keep with
    | false=>exact froz rfl
    | true=>exact en _ H' F' g'.keep (gr.trans g') (SR.bindOwn hs (hs.grow g') rr)
theorem dct_keep {H:Hp}{F:Fz}{a:Addr}{vs ws:List (Key×V)}(h:H a=some (.dK vs)) (hf:¬F a):Keep H F (upd H a (.dK ws)) F:=⟨λp xs q=>by
    have ne:p≠a:=λz=>by subst z;rcases q with q|⟨o,q⟩<;>(rw [h] at q;cases q)
    rcases q with q|⟨o,q⟩
    · exact .inl (by rw [upd_ne ne];exact q)
    · exact .inr ⟨o,by rw [upd_ne ne];exact q⟩,λp xs f q=>by
    have ne:p≠a:=λz=>by subst z;exact hf f
    refine⟨f,?_⟩
    rcases q with q|⟨o,q⟩
    · exact .inl (by rw [upd_ne ne];exact q)
    · exact .inr ⟨o,by rw [upd_ne ne];exact q⟩⟩
theorem dct_gr {Ge H:Hp}{F0 F:Fz}{a:Addr}{vs ws:List (Key×V)}(g:Gr Ge F0 H F) (h:H a=some (.dK vs)) (hg:Ge a=none):Gr Ge F0 (upd H a (.dK ws)) F:=⟨λb o e=>by rw [upd_ne (ne_of_none e hg)];exact g.same b o e,g.sub,g.new,λb e=>by
    by_cases z:b=a
    · subst z;rw [upd_same] at e;cases e
    · rw [upd_ne z] at e;exact g.dom b e⟩
theorem dct_sr {K:PySem.W.Frag}{Ge H:Hp}{F0 F:Fz}{σ:En}{τ:L2.St}{i:Nat}{a:Addr}{ks js:List Int}(s:SR K Ge H F σ τ) (g:Gr Ge F0 H F) (hi:getv σ i=some (true,.dct true ks)) (ht:τ[i]?=some (some (.ref a))) (hg:Ge a=none) (hf:¬F a) (h:H a=some (.dK (dk ks))) :
    SR K Ge (upd H a (.dK (dk js))) F (σ.set i (some (true,.dct true js))) τ:=by
  have kp:=dct_keep (ws:=dk js) h hf
  have hl:=getv_lt hi
  have g2:=dct_gr (ws:=dk js) g h hg
  refine⟨by simp [s.len],g2.same,g2.dom,λj e hj=>?_,λj e hj hde=>?_,λj l e e' hj hl' hjl=>?_,λj m ks' hj=>?_,λj ns ds hj=>?_,s.tb⟩
  · have hij:i≠j:=λz=>by subst z;rw [getv_same hl] at hj;cases hj
    rw [getv_ne hij] at hj
    obtain⟨v,q1,q2⟩:=s.val j e hj
    exact⟨v,q1,RD.mono kp q2⟩
  · have hij:i≠j:=λz=>by subst z;rw [getv_same hl] at hj;cases hj;cases hde
    rw [getv_ne hij] at hj
    obtain⟨a',ds',vs',p1,p2,p3,p4,p5,p6⟩:=s.own j e hj hde
    have ne:a'≠a:=λz=>by subst z;exact hij (s.sep i j _ _ hi hj (by rw [ht,p2]))
    exact⟨a',ds',vs',p1,p2,p3,p4,by rw [upd_ne ne];exact p5,RDs.mono kp p6⟩
  · have back:∀{j:Nat} {e:D},getv (σ.set i (some (true,.dct true js))) j=some (true,e)→∃e',getv σ j=some (true,e'):=λ{j e} hj=>by
      by_cases hij:i=j
      · subst hij;exact⟨_,hi⟩
      · rw [getv_ne hij] at hj;exact⟨e,hj⟩
    obtain⟨_,b1⟩:=back hj
    obtain⟨_,b2⟩:=back hl'
    exact s.sep j l _ _ b1 b2 hjl
  · by_cases hij:i=j
    · subst hij
      rw [getv_same hl] at hj
      cases hj
      exact⟨a,ht,hf,upd_same,λ_=>hg⟩
    · rw [getv_ne hij] at hj
      obtain⟨a',p1,p2,p3,p4⟩:=s.dct j m ks' hj
      have ne:a'≠a:=λz=>by subst z;exact hij (s.sep i j _ _ hi hj (by rw [ht,p1]))
      exact⟨a',p1,p2,by rw [upd_ne ne];exact p3,p4⟩
  · have hij:i≠j:=λz=>by subst z;rw [getv_same hl] at hj;cases hj
    rw [getv_ne hij] at hj
    obtain⟨v8,p1,p2⟩:=s.obj j ns ds hj
    refine⟨v8,p1,p2.mono kp λa' C dx fs _ hH hF=>⟨hF,upd_ne λz=>?_⟩⟩
    subst z
    rw [h] at hH
    cases hH
theorem own_keep {H:Hp}{F:Fz}{a:Addr}{vs ws:List V}(h:H a=some (.lst vs)) (hf:¬F a):Keep H F (upd H a (.lst ws)) F:=⟨λp xs q=>by
    have ne:p≠a:=λz=>by subst z;rcases q with q|⟨o,q⟩<;>(rw [h] at q;cases q)
    rcases q with q|⟨o,q⟩
    · exact .inl (by rw [upd_ne ne];exact q)
    · exact .inr ⟨o,by rw [upd_ne ne];exact q⟩,λp xs f q=>by
    have ne:p≠a:=λz=>by subst z;exact hf f
    refine⟨f,?_⟩
    rcases q with q|⟨o,q⟩
    · exact .inl (by rw [upd_ne ne];exact q)
    · exact .inr ⟨o,by rw [upd_ne ne];exact q⟩⟩
theorem own_gr {Ge H:Hp}{F0 F:Fz}{a:Addr}{vs ws:List V}(g:Gr Ge F0 H F) (h:H a=some (.lst vs)) (hg:Ge a=none):Gr Ge F0 (upd H a (.lst ws)) F:=⟨λb o e=>by rw [upd_ne (ne_of_none e hg)];exact g.same b o e,g.sub,g.new,λb e=>by
    by_cases z:b=a
    · subst z;rw [upd_same] at e;cases e
    · rw [upd_ne z] at e;exact g.dom b e⟩
theorem own_sr {K:PySem.W.Frag}{Ge H:Hp}{F0 F:Fz}{σ:En}{τ:L2.St}{i:Nat}{a:Addr}{ds es:List D}{vs ws:List V}(s:SR K Ge H F σ τ) (g:Gr Ge F0 H F) (hi:getv σ i=some (true,.lst ds)) (ht:τ[i]?=some (some (.ref a))) (hg:Ge a=none) (hf:¬F a) (h:H a=some (.lst vs)) (r:RDs K H F es ws) :
    SR K Ge (upd H a (.lst ws)) F (σ.set i (some (true,.lst es))) τ:=by
  have kp:=own_keep (ws:=ws) h hf
  have hl:=getv_lt hi
  refine⟨by simp [s.len],(own_gr (ws:=ws) g h hg).same,(own_gr (ws:=ws) g h hg).dom,λj e hj=>?_,λj e hj hde=>?_,λj l e e' hj hl' hjl=>?_,λj m ks hj=>?_,λj ns ds hj=>?_,s.tb⟩
  · have hij:i≠j:=λz=>by subst z;rw [getv_same hl] at hj;cases hj
    rw [getv_ne hij] at hj
    obtain⟨v,q1,q2⟩:=s.val j e hj
    exact⟨v,q1,RD.mono kp q2⟩
  · by_cases hij:i=j
    · subst hij
      rw [getv_same hl] at hj
      cases hj
      exact⟨a,es,ws,rfl,ht,hg,hf,upd_same,RDs.mono kp r⟩
    · rw [getv_ne hij] at hj
      obtain⟨a',ds',vs',p1,p2,p3,p4,p5,p6⟩:=s.own j e hj hde
      have ne:a'≠a:=λz=>by subst z;exact hij (s.sep i j _ _ hi hj (by rw [ht,p2]))
      exact⟨a',ds',vs',p1,p2,p3,p4,by rw [upd_ne ne];exact p5,RDs.mono kp p6⟩
  · have back:∀{j:Nat} {e:D},getv (σ.set i (some (true,.lst es))) j=some (true,e)→∃e',getv σ j=some (true,e'):=λ{j e} hj=>by
      by_cases hij:i=j
      · subst hij;exact⟨_,hi⟩
      · rw [getv_ne hij] at hj;exact⟨e,hj⟩
    obtain⟨_,b1⟩:=back hj
    obtain⟨_,b2⟩:=back hl'
    exact s.sep j l _ _ b1 b2 hjl
  · have hij:i≠j:=λz=>by subst z;rw [getv_same hl] at hj;cases hj
    rw [getv_ne hij] at hj
    obtain⟨a',p1,p2,p3,p4⟩:=s.dct j m ks hj
    have ne:a'≠a:=λz=>by subst z;rw [h] at p3;cases p3
    exact⟨a',p1,p2,by rw [upd_ne ne];exact p3,p4⟩
  · have hij:i≠j:=λz=>by subst z;rw [getv_same hl] at hj;cases hj
    rw [getv_ne hij] at hj
    obtain⟨v8,p1,p2⟩:=s.obj j ns ds hj
    refine⟨v8,p1,p2.mono kp λa' C dx fs _ hH hF=>⟨hF,upd_ne λz=>?_⟩⟩
    subst z
    rw [h] at hH
    cases hH
theorem own_look {K:PySem.W.Frag}{Ge H:Hp}{F:Fz}{σ:En}{τ:L2.St}{i:Nat}{ds:List D}(s:SR K Ge H F σ τ) (h:getv σ i=some (true,.lst ds)):∃a vs,τ[i]?=some (some (.ref a))∧Ge a=none∧¬F a∧H a=some (.lst vs)∧RDs K H F ds vs:=by
  obtain⟨a,ds',vs,e,h2,h3,h4,h5,h6⟩:=s.own i _ h rfl
  cases e
  exact⟨a,vs,h2,h3,h4,h5,h6⟩
theorem snd_setIx {n:Nat}(A:AllE call G k n) (g:XG call G k X sc N) {x:Str}{i:Nat}{p p2 spos:Pos}{kx e:Expr}{ck c:C}(hv:varOf sc N x=some i) (hk:cE G n sc N kx=some ck) (h:cE G n sc N e=some c) :
    Snd1 call X (.Assign [.Subscript (.Name x p) kx p2] e spos) [.setIx i ck c]:=by
  obtain⟨h1,h2,h3,h4⟩:=var_of g hv
  obtain⟨tk,pk',qk⟩:=(A.e X sc N kx ck g hk).hp
  obtain⟨te,pe,qe⟩:=(A.e X sc N e c g h).he
  have pn:PE X (.Name x p) (tVar i):=pe_var h1 h2 h3 h4
  have hs1:swapsWithSole [.Subscript (.Name x p) kx p2] e spos.line X.env=pure false:=by
    cases n with
    | zero=>cases h
    | succ n=>cases e<;>first|rfl|cases h
  have hs2:swappedStores [.Subscript (.Name x p) kx p2] e X.env=pure none:=by
    cases n with
    | zero=>cases h
    | succ n=>cases e<;>first|rfl|cases h
  have ha:∀v,assign (.Subscript (.Name x p) kx p2) X.env v=(do
      let ov ←holding [v] (eval (.Name x p) X.env)
      let iv ←holding [v,ov] (eval kx X.env)
      standAt p2
      holding [v,ov,iv] (setItem ov iv v)
      release [v,ov,iv] []):=by
    cases n with
    | zero=>cases hk
    | succ n=>cases kx<;>first|(intro v;rfl)|(cases hk;done)|(cases n<;>cases hk)
  have hset:PSet X (λo i v H Q=>rSetL o i v H Q∨∃a H',o=.ref a∧DPut H a i v H'∧Q H'):=λpins s σ H o i v ov iv u Q I ro ri rv z=>z.elim (set_list pins s σ H o i v ov iv u Q I ro ri rv) λ⟨a,H',ea,gp,q⟩=>by
    subst ea
    cases ro
    exact d_setItem (by have:=g.room.units;omega) I gp ri rv λs' I'=>⟨H',I',q⟩
  refine⟨_,ps_asg pe (pg_sub pn pk' hset ha) hs1 hs2,λGe F0 H F σ τ o Dn hvv hs gr en=>?_⟩
  rw [evSs_one,evS_setIx] at hvv
  obtain⟨r,e1,e2⟩:=bind1 hvv
  obtain⟨nn,e3,e4⟩:=bind1 e2
  refine qe Ge H F σ τ r _ e1 hs λv H1 F1 g1 rr=>?_
  obtain⟨F2,g2,rd⟩:=rr.fz g1
  have s2:=hs.grow g2
  unfold setIxD at e4
  split at e4
  · rename_i xs m hg
    obtain⟨j,e5,e6⟩:=bind1 e4
    cases e6
    obtain⟨a,vs,q1,q2,q3,q4,q5⟩:=own_look s2 hg
    refine⟨.ref a,q1,?_⟩
    refine qk Ge H1 F2 σ τ (.int m) _ e3 s2 λu H3 F3 g3 ru=>?_
    have s3:=s2.grow g3
    obtain⟨a',vs',q1',q2',q3',q4',q5'⟩:=own_look s3 hg
    rw [q1] at q1'
    cases q1'
    refine .inl ⟨a,vs',m,j,rfl,ru.int,q4',by rw [RDs.length q5'];exact e5,?_⟩
    have gr3:=(gr.trans g2).trans g3
    have rd3:=RD.mono g3.keep rd
    exact en _ _ F3 ((g2.keep.trans g3.keep).trans (own_keep q4' q3')) (own_gr gr3 q4' q2') (own_sr s3 gr3 hg q1 q2' q3' q4' (RDs.set rd3 j q5'))
  · rename_i ks m hg
    split at e4
    · rename_i hb
      split at e4
      · rename_i hlt
        cases e4
        obtain⟨a,q1,q2,q3,q4⟩:=s2.dct i true ks hg
        refine⟨.ref a,q1,?_⟩
        refine qk Ge H1 F2 σ τ (.int m) _ e3 s2 λu H3 F3 g3 ru=>?_
        have s3:=s2.grow g3
        obtain⟨a',q1',q2',q3',q4'⟩:=s3.dct i true ks hg
        rw [q1] at q1'
        cases q1'
        have gr3:=(gr.trans g2).trans g3
        have hv2:v=.bl true:=by rw [hb] at rd;exact rd
        have hu2:=ru.int
        subst hv2 hu2
        have dp:=DPut.k (k:=(Sum.inl m:Key)) (v:=.bl true) q3' (by unfold dk;rw [List.length_map];exact hlt)
        rw [dk_put] at dp
        refine .inr ⟨a,_,rfl,dp,?_⟩
        exact en _ _ F3 ((g2.keep.trans g3.keep).trans (dct_keep q3' q2')) (dct_gr gr3 q3' (q4' rfl)) (dct_sr s3 gr3 hg q1 (q4' rfl) q2' q3')
      · cases e4
    · cases e4
  · cases e4
theorem snd_app {n:Nat}(A:AllE call G k n) (g:XG call G k X sc N) {x m:Str}{i:Nat}{p p2 p3 spos:Pos}{e:Expr}{c:C}(hm:m=Str.ofString "append") (hln:(p2.endLine == p3.line)=true) (hv:varOf sc N x=some i) (h:cE G n sc N e=some c) :
    Snd1 call X (.Expr (.Call (.Attribute (.Name x p) m p2) [e] [] p3) spos) [.app i c]:=by
  subst hm
  obtain⟨h1,h2,h3,h4⟩:=var_of g hv
  obtain⟨te,pe,qe⟩:=(A.e X sc N e c g h).he
  have pn:PE X (.Name x p) (tVar i):=pe_var h1 h2 h3 h4
  have hst:=star_cons (env:=X.env) (es:=[]) (no_star h)
  refine⟨_,ps_expr (pe_bm PySem.F.plainAttrs_list PySem.F.slot_list_append PySem.F.type_list_append mt_append pn (pa_cons pe pa_nil hst) (hfew:=by rw [hst];rfl) (hline:=hln) (hs:=hst)),λGe F0 H F σ τ o Dn hvv hs gr en=>?_⟩
  rw [evSs_one,evS_app] at hvv
  obtain⟨r,e1,e2⟩:=bind1 hvv
  unfold appD at e2
  split at e2
  · rename_i xs hg
    split at e2
    · rename_i hlt
      cases e2
      obtain⟨a,vs,q1,q2,q3,q4,q5⟩:=own_look hs hg
      refine⟨.ref a,q1,.inl ⟨rfl,_,SqL.of q4⟩,?_⟩
      refine qe Ge H F σ τ r _ e1 hs λv H1 F1 g1 rr=>?_
      obtain⟨F2,g2,rd⟩:=rr.fz g1
      have s2:=hs.grow g2
      obtain⟨a',vs',q1',q2',q3',q4',q5'⟩:=own_look s2 hg
      rw [q1] at q1'
      cases q1'
      have gr2:=gr.trans g2
      refine⟨a,vs',v,rfl,rfl,q4',by rw [RDs.length q5'];exact hlt,?_⟩
      exact en _ _ F2 (g2.keep.trans (own_keep q4' q3')) (own_gr gr2 q4' q2') (own_sr s2 gr2 hg q1 q2' q3' q4' (RDs.append q5' ⟨v,[],rfl,rd,rfl⟩))
    · cases e2
  · cases e2
section
open AutoSeq1
theorem ext_tup (l:Addr) (items:Array Value) (n:Nat) (b:Addr) (items2:Array Value) (n2:Nat) (dd:Option Addr) (sl:Array (Option Value)) (hs0:¬(!items.isEmpty&&Builtin.List.listTooLong (items.size+items2.size))=true) (hs1:items.size≤sizeLine) (hs2:items.size+items2.size≤sizeLine+1) :
    Meets (Builtin.«list.extend» ⟨[.ref l,.ref b],[]⟩) (λ_ R s=>s.heap.get? l=some { cls:=.type "list",dict:=none,data:=.seq items n,slots:=#[] }∧s.heap.get? b=some { cls:=.type "tuple",dict:=dd,data:=.seq items2 n2,slots:=sl }∧R (.ok (.ret Value.none)) { s with heap:=s.heap.update l (Obj.mapSeq λx=>x++items2),toks:=s.toks }):=
  .of_wp λprog w A R s h=>by
    obtain⟨hp,g,d,tk,os⟩:=s;obtain⟨hl,hb,h⟩:=h;have f1:=idx_int;have f2:=AutoSeq1.sub_tuple_tuple;have f3:=AutoSeq1.sub_list_list;have f4:=AutoSeq1.sub_tuple_list;have f5:=AutoSeq1.sub_list_tuple
    have hz':(items++items2).size≤sizeLine+1:=by rw [Array.size_append];exact hs2
    wp_walk using (wpAny_updateSeq hl rfl (hz:=hs1) (_hz':=hz')),wpAny_loadPart' hl,wpAny_loadPart' hb;exact⟨_,rfl,h⟩
end
theorem or_mtM {id:String}{r r':V→List V→Hp→VK→Prop}(h:MtM X id r) (h':MtM X id r'):MtM X id (λx vs H Q=>r x vs H Q∨r' x vs H Q):=
  λpins s σ H x vs v us Q I rx rv z=>z.elim (h pins s σ H x vs v us Q I rx rv) (h' pins s σ H x vs v us Q I rx rv)
theorem mt_extT:MtM X "list.extend" (λx vs H Q=>∃l b xs zs,x=.ref l∧vs=[.ref b]∧H l=some (.lst xs)∧SqT X.K H b zs∧xs.length+zs.length≤sizeLine∧Q .non (upd H l (.lst (xs++zs)))):=by
  intro pins s σ H x vs v us Q I rx rv h
  obtain⟨l,b,xs,zs,rfl,rfl,hH,hB,hz,q⟩:=h
  cases rx
  obtain⟨u,rfl,ru⟩:=vals1 rv
  cases ru
  obtain⟨z,its,n,r,hl,e⟩:=I.lstM hH
  obtain⟨its2,r2,⟨⟨cls,dd,data,sl⟩,e2,hc2,n2,hd2⟩,z2⟩:=I.tuple hB
  simp only at hc2 hd2
  subst hc2 hd2
  have hl2:=r2.length
  have hsz:its.toArray.size+its2.toArray.size≤sizeLine:=by rw [List.size_toArray,List.size_toArray];omega
  have hlong:¬(!its.toArray.isEmpty&&Builtin.List.listTooLong (its.toArray.size+its2.toArray.size))=true:=by
    rw [notLongL hsz,Bool.and_false]
    exact Bool.false_ne_true
  refine call_meets F.slot_list_extend ⟨_,e,rfl⟩ F.entry_list_extend (F.args_list_extend_2 _ _)
    (ext_tup l its.toArray n b its2.toArray n2 dd sl hlong (by rw [List.size_toArray];omega) (by omega)) ⟨e,e2,?_⟩
  refine⟨.non,_,I.lset (its':=its++its2) hH e (by simp) (r.append r2) ?_,rfl,q⟩
  rw [List.length_append]
  omega
theorem snd_ext {n:Nat}(A:AllE call G k n) (g:XG call G k X sc N) {x m:Str}{i:Nat}{p p2 p3 spos:Pos}{e:Expr}{c:C}(hm:m=Str.ofString "extend") (hln:(p2.endLine == p3.line)=true) (hv:varOf sc N x=some i) (h:cE G n sc N e=some c) :
    Snd1 call X (.Expr (.Call (.Attribute (.Name x p) m p2) [e] [] p3) spos) [.ext i c]:=by
  subst hm
  obtain⟨h1,h2,h3,h4⟩:=var_of g hv
  obtain⟨te,pe,qe⟩:=(A.e X sc N e c g h).he
  have pn:PE X (.Name x p) (tVar i):=pe_var h1 h2 h3 h4
  have hst:=star_cons (env:=X.env) (es:=[]) (no_star h)
  refine⟨_,ps_expr (pe_bm PySem.F.plainAttrs_list PySem.F.slot_list_extend PySem.F.type_list_extend (or_mtM mt_extend mt_extT) pn (pa_cons pe pa_nil hst) (hfew:=by rw [hst];rfl) (hline:=hln) (hs:=hst)),λGe F0 H F σ τ o Dn hvv hs gr en=>?_⟩
  rw [evSs_one,evS_ext] at hvv
  obtain⟨r,e1,e2⟩:=bind1 hvv
  unfold extD at e2
  split at e2
  · rename_i ys
    split at e2
    · rename_i xs hg
      split at e2
      · rename_i hlt
        cases e2
        obtain⟨a,vs,q1,q2,q3,q4,q5⟩:=own_look hs hg
        refine⟨.ref a,q1,.inl ⟨rfl,_,SqL.of q4⟩,?_⟩
        refine qe Ge H F σ τ _ _ e1 hs λv H1 F1 g1 rr=>?_
        have rr0:=rr
        obtain⟨b,ds,ws,ed,rfl,r1,r2,r3,r4⟩:=rr0
        cases ed
        have s2:=hs.grow g1
        obtain⟨a',vs',q1',q2',q3',q4',q5'⟩:=own_look s2 hg
        rw [q1] at q1'
        cases q1'
        have gr2:=gr.trans g1
        refine .inl ⟨a,b,vs',ws,rfl,rfl,q4',r3,by rw [RDs.length q5',RDs.length r4];exact hlt,?_⟩
        exact en _ _ F1 (g1.keep.trans (own_keep q4' q3')) (own_gr gr2 q4' q2') (own_sr s2 gr2 hg q1 q2' q3' q4' (RDs.append q5' r4))
      · cases e2
    · cases e2
  · rename_i ys
    split at e2
    · rename_i xs hg
      split at e2
      · rename_i hlt
        cases e2
        obtain⟨a,vs,q1,q2,q3,q4,q5⟩:=own_look hs hg
        refine⟨.ref a,q1,.inl ⟨rfl,_,SqL.of q4⟩,?_⟩
        refine qe Ge H F σ τ _ _ e1 hs λv H1 F1 g1 rr=>?_
        obtain⟨b,ws,rfl,r3,r4⟩:=rr
        have s2:=hs.grow g1
        obtain⟨a',vs',q1',q2',q3',q4',q5'⟩:=own_look s2 hg
        rw [q1] at q1'
        cases q1'
        have gr2:=gr.trans g1
        refine .inr ⟨a,b,vs',ws,rfl,rfl,q4',r3,by rw [RDs.length q5',RDs.length r4];exact hlt,?_⟩
        exact en _ _ F1 (g1.keep.trans (own_keep q4' q3')) (own_gr gr2 q4' q2') (own_sr s2 gr2 hg q1 q2' q3' q4' (RDs.append q5' r4))
      · cases e2
    · cases e2
  · cases e2
theorem RDs.last {K:PySem.W.Frag}{H:Hp}{F:Fz}{ds:List D}{vs:List V}{d:D}(h:RDs K H F ds vs) (e:ds.getLast?=some d):∃v,vs[vs.length - 1]?=some v∧RD K H F d v:=by
  rw [List.getLast?_eq_getElem?] at e
  obtain⟨v,e1,e2⟩:=RDs.get h e
  exact⟨v,by rw [RDs.length h];exact e1,e2⟩
theorem RDs.init {K:PySem.W.Frag}{H:Hp}{F:Fz}{ds:List D}{vs:List V}(h:RDs K H F ds vs):RDs K H F ds.dropLast vs.dropLast:=by
  rw [List.dropLast_eq_take,List.dropLast_eq_take,RDs.length h]
  exact RDs.take _ h
theorem snd_popE (g:XG call G k X sc N) {x m:Str}{i:Nat}{p p2 p3 spos:Pos}(hm:m=Str.ofString "pop") (hln:(p2.endLine == p3.line)=true) (hv:varOf sc N x=some i) :
    Snd1 call X (.Expr (.Call (.Attribute (.Name x p) m p2) [] [] p3) spos) [.popE i]:=by
  subst hm
  obtain⟨h1,h2,h3,h4⟩:=var_of g hv
  have pn:PE X (.Name x p) (tVar i):=pe_var h1 h2 h3 h4
  refine⟨_,ps_expr (pe_bm0 PySem.F.plainAttrs_list PySem.F.slot_list_pop PySem.F.type_list_pop mt_pop pn (hline:=hln)),λGe F0 H F σ τ o Dn hvv hs gr en=>?_⟩
  rw [evSs_one,evS_popE] at hvv
  unfold popED at hvv
  split at hvv
  · rename_i xs hg
    obtain⟨d,e1,e2⟩:=bind1 hvv
    cases e2
    obtain⟨a,vs,q1,q2,q3,q4,q5⟩:=own_look hs hg
    obtain⟨y,l1,l2⟩:=RDs.last q5 e1
    refine⟨.ref a,q1,.inl ⟨rfl,_,SqL.of q4⟩,a,vs,y,rfl,rfl,q4,l1,?_⟩
    exact en _ _ F (own_keep (ws:=vs.dropLast) q4 q3) (own_gr (ws:=vs.dropLast) gr q4 q2) (own_sr hs gr hg q1 q2 q3 q4 (RDs.init q5))
  · cases hvv
theorem snd_aug {n:Nat}(A:AllE call G k n) (g:XG call G k X sc N) {e:Expr}{c:C}{x:Str}{i:Nat}{py spos:Pos}(h:cE G n sc N e=some c) (hx:(sc.names.lookup x == some .local||sc.names.lookup x == some .cell)=true) (hsl:slotOf N x=some i) :
    Snd1 call X (.AugAssign (.Name x py) .Add e spos) [.aug i c]:=by
  obtain⟨l1,l2⟩:=loc_of g hx
  obtain⟨te,pe,qe⟩:=(A.e X sc N e c g h).hp
  refine⟨_,ps_aug (i:=i) (by rw [g.hN];exact g.nd) (by rw [g.hN];exact slot_get hsl) l1 pe ip_add l2,λGe F0 H F σ τ o Dn hv hs gr en=>?_⟩
  rw [evSs_one,evS_aug] at hv
  obtain⟨y,e1,e2⟩:=bind1 hv
  unfold augD at e2
  split at e2
  · rename_i a b hg
    cases e2
    obtain⟨v,q1,q2⟩:=hs.val i _ hg
    have q2:v=.int a:=q2
    subst q2
    refine⟨.int a,q1,qe Ge H F σ τ (.int b) _ e1 hs λw H1 F1 g1 rr=>?_⟩
    refine⟨a,b,rfl,rr.int,?_⟩
    exact en _ H1 F1 g1.keep (gr.trans g1) ((hs.grow g1).bind (d:=.int (a+b)) rfl)
  · cases e2
theorem snd_while {n:Nat}(A:AllE call G k n) (g:XG call G k X sc N) {t:Expr}{c:C}{body:List Stmt}{cb:List S}{spos:Pos}(h:cE G n sc N t=some c) (hb:SndS call X body cb):Snd1 call X (.While t body [] spos) [.whl c cb]:=by
  obtain⟨tt,pt,qt⟩:=(A.e X sc N t c g h).ht
  obtain⟨tb,pb,qb⟩:=hb
  refine⟨_,ps_while g.xe pt pb,λGe F0 H F σ τ o Dn hvv hs gr en=>?_⟩
  rw [evSs_one,evS_whl] at hvv
  refine⟨λm τ' H'=>∃F' σ',SR X.K Ge H' F' σ' τ'∧Gr Ge F0 H' F'∧Keep H F H' F'∧whlGo (fun σ'=>evE call σ' c) (fun σ'=>evSs call σ' cb) m σ'=some o,⟨big,F,σ,hs,gr,Keep.refl,hvv⟩,?_⟩
  rintro m τ' H' ⟨F',σ',sr',gr',kp',ev'⟩
  cases m with
  | zero=>cases ev'
  | succ m =>
    obtain⟨⟨x,d⟩,e1,e2⟩:=bind1 (show ((evE call σ' c).bind (whlK σ' ((evSs call σ' cb).bind (loopK (whlGo (fun σ'=>evE call σ' c) (fun σ'=>evSs call σ' cb) m)))))=some o from ev')
    cases d with
    | bl b =>
      refine qt Ge H' F' σ' τ' x b _ e1 sr' λH1 F1 g1=>?_
      cases b with
      | false =>
        cases e2
        exact iteF (en τ' H1 F1 (kp'.trans g1.keep) (gr'.trans g1) (sr'.grow g1))
      | true =>
        obtain⟨o1,b2,e3⟩:=bind1 (show ((evSs call σ' cb).bind (loopK (whlGo (fun σ'=>evE call σ' c) (fun σ'=>evSs call σ' cb) m)))=some o from e2)
        refine iteT ?_
        cases o1 with
        | nx σ2=>exact⟨fun τ2 H2=>∃F2,SR X.K Ge H2 F2 σ2 τ2∧Gr Ge F0 H2 F2∧Keep H F H2 F2,fun τ2 H2 ⟨F2,q1,q2,q3⟩=>⟨m,by omega,F2,σ2,q1,q2,q3,e3⟩,qb Ge F0 H1 F1 σ' τ' (.nx σ2) _ b2 (sr'.grow g1) (gr'.trans g1) fun τ5 H5 F5 k5 g5 s5=>⟨F5,s5,g5,(kp'.trans g1.keep).trans k5⟩⟩
        | ct σ2=>exact⟨fun τ2 H2=>∃F2,SR X.K Ge H2 F2 σ2 τ2∧Gr Ge F0 H2 F2∧Keep H F H2 F2,fun τ2 H2 ⟨F2,q1,q2,q3⟩=>⟨m,by omega,F2,σ2,q1,q2,q3,e3⟩,qb Ge F0 H1 F1 σ' τ' (.ct σ2) _ b2 (sr'.grow g1) (gr'.trans g1) fun τ5 H5 F5 k5 g5 s5=>⟨F5,s5,g5,(kp'.trans g1.keep).trans k5⟩⟩
        | bk σ2 =>
          cases e3
          exact⟨λ_ _=>False,λ_ _ z=>z.elim,qb Ge F0 H1 F1 σ' τ' (.bk σ2) _ b2 (sr'.grow g1) (gr'.trans g1) fun τ5 H5 F5 k5 g5 s5=>en τ5 H5 F5 ((kp'.trans g1.keep).trans k5) g5 s5⟩
        | rt r =>
          cases e3
          exact⟨λ_ _=>False,λ_ _ z=>z.elim,qb Ge F0 H1 F1 σ' τ' (.rt r) _ b2 (sr'.grow g1) (gr'.trans g1) en⟩
    | _=>cases e2
theorem snd_ret (hG:∀x∈bltNames,G.defs.lookup x=none) {n:Nat}(g:XG call G k X sc N) {e:Expr}{c:C}{spos:Pos}(h:cE G n sc N e=some c):Snd1 call X (.Return (some e) spos) [.ret c]:=by
  have ok:=(all_ok (call:=call) (k:=k) hG n).e X sc N e c g h
  by_cases hc:∃i,c=.v i
  · obtain⟨i,rfl⟩:=hc
    cases n with
    | zero=>cases h
    | succ n =>
      have hn:∃x p,e=.Name x p∧varOf sc N x=some i:=by
        rcases ok.nv with ⟨x,p,rfl⟩|z
        · exact⟨x,p,rfl,cE_name h⟩
        · exact absurd rfl (z i)
      obtain⟨x,p,rfl,hv⟩:=hn
      obtain⟨h1,h2,h3,h4⟩:=var_of g hv
      refine⟨_,ps_ret (pe_var h1 h2 h3 h4),λGe F0 H F σ τ o Dn hvv hs gr en=>?_⟩
      rw [evSs_one,evS_ret] at hvv
      obtain⟨r,e1,e2⟩:=bind1 hvv
      cases e2
      have e1:(getv σ i).bind rtR=some r:=e1
      obtain⟨⟨b,d⟩,e0,e1⟩:=bind1 e1
      cases b with
      | false =>
        cases e1
        obtain⟨v,q1,q2⟩:=hs.val i d e0
        exact⟨v,q1,en.1 v H F gr q2⟩
      | true =>
        cases d with
        | lst ds0 =>
          cases e1
          obtain⟨a,ds,vs,q1,q2,q3,q4,q5,q6⟩:=hs.own i _ e0 rfl
          exact⟨.ref a,q2,en.1 _ H F gr ⟨a,ds,vs,q1,rfl,q3,q4,q5,q6⟩⟩
        | _=>cases e1
  · obtain⟨te,pe,qe⟩:=ok.he
    refine⟨_,ps_ret pe,λGe F0 H F σ τ o Dn hvv hs gr en=>?_⟩
    rw [evSs_one,evS_ret] at hvv
    obtain⟨r,e1,e2⟩:=bind1 hvv
    cases e2
    have e1':evE call σ c=some r:=by
      cases c with
      | v i=>exact absurd ⟨i,rfl⟩ hc
      | _=>exact e1
    exact qe Ge H F σ τ r _ e1' hs λv H' F' g' rr=>en.1 v H' F' (gr.trans g') (rr.back hs.ent)
theorem snd_rse (g:XG call G k X sc N) {c m:Str}{j:Nat}{np p1 cpos pos:Pos}(hc:c∈G.rse) (hg:glB sc c=true) (hp:plainName c=true):Snd1 call X (.Raise (some (.Call (.Name c np) [.Constant (.str m) j p1] [] cpos)) none pos) [.rse c]:=by
  obtain⟨C,B,nid,iid,bm,FB,O⟩:=(g.rse c hc).ex
  refine⟨_,ps_raise g.calm (g.gl c hg) FB O (plain_of hp).2,λGe F0 H F σ τ o Dn hv hs gr en=>?_⟩
  rw [evSs_one,evS_rse] at hv
  cases hv
  exact en.2 c rfl H F gr
theorem snd_if {n:Nat}(A:AllE call G k n) (g:XG call G k X sc N) {t:Expr}{c:C}{a b:List Stmt}{ca cb:List S}{spos:Pos}(h:cE G n sc N t=some c) (ha:SndS call X a ca) (hb:SndS call X b cb):Snd1 call X (.If t a b spos) [.ite c ca cb]:=by
  obtain⟨tt,pt,qt⟩:=(A.e X sc N t c g h).ht
  obtain⟨ta,pa,qa⟩:=ha
  obtain⟨tb,pb,qb⟩:=hb
  refine⟨_,ps_if pt pa pb,λGe F0 H F σ τ o Dn hvv hs gr en=>?_⟩
  rw [evSs_one,evS_ite] at hvv
  obtain⟨r,e1,e2⟩:=bind1 hvv
  obtain⟨x,d⟩:=r
  cases d with
  | bl bb =>
    refine qt Ge H F σ τ x bb _ e1 hs λH' F' g'=>?_
    cases bb with
    | true=>exact iteT (qa Ge F0 H' F' σ τ o Dn e2 (hs.grow g') (gr.trans g') (en.mv g'.keep))
    | false=>exact iteF (qb Ge F0 H' F' σ τ o Dn e2 (hs.grow g') (gr.trans g') (en.mv g'.keep))
  | _=>cases e2
theorem snd_for (g:XG call G k X sc N) {tg it:Expr}{t:Tg}{b:Bool}{src:En→Option (List D)}{body:List Stmt}{cb:List S}{s:S}{spos:Pos}(ht:tgM sc N tg=some t) (hi:SndI X tg it b src) (hf:∀x,foldedSetIterable it X.env x=pure x) (hb:SndS call X body cb)
    (hv:∀σ o,evS call σ s=some o→∃its,src σ=some its∧evFor call cb t its σ=some o):Snd1 call X (.For tg it body [] spos) [s]:=by
  obtain⟨wi,pi,qi⟩:=hi
  obtain⟨tb,pb,qb⟩:=hb
  have pg:=snd_tgM g ht
  refine⟨_,ps_for g.xe g.calm pi pg pb hf,λGe F0 H F σ τ o Dn hvv hs gr en=>?_⟩
  rw [evSs_one] at hvv
  obtain⟨its,e1,e2⟩:=hv σ o hvv
  refine qi Ge H F σ τ its _ e1 hs λJ H1 F1 g1 ok1 _=>?_
  refine⟨λi m τ' H'=>i≤its.length∧m=its.length - i∧∃F' σ',SR X.K Ge H' F' σ' τ'∧Gr Ge F0 H' F'∧Keep H1 F1 H' F'∧evFor call cb t (its.drop i) σ'=some o,⟨its.length,Nat.zero_le _,rfl,F1,σ,hs.grow g1,gr.trans g1,Keep.refl,by simpa using e2⟩,?_⟩
  rintro i m τ' H' ⟨hi,rfl,F',σ',sr',gr',kp',ev'⟩
  obtain⟨okI,okS⟩:=ok1 H' F' kp' gr'.dom
  by_cases hlt:i<its.length
  · refine .inr ?_
    have hdi:its[i]?=some its[i]:=List.getElem?_eq_getElem hlt
    obtain⟨go,yl⟩:=okI i _ hdi
    have hdr:its.drop i=its[i]::its.drop (i+1):=List.drop_eq_getElem_cons hlt
    rw [hdr,evFor_cons] at ev'
    obtain⟨σ1,b1,ev'⟩:=bind1 ev'
    obtain⟨o1,b2,ev'⟩:=bind1 ev'
    cases o1 with
    | nx σ2 =>
      refine⟨go,fun τ2 H2=>∃F2,SR X.K Ge H2 F2 σ2 τ2∧Gr Ge F0 H2 F2∧Keep H1 F1 H2 F2,fun τ2 H2 ⟨F2,q1,q2,q3⟩=>⟨its.length - (i+1),by omega,hlt,rfl,F2,σ2,q1,q2,q3,ev'⟩,λx H3 y=>?_⟩
      obtain⟨F3,g3,rd3⟩:=yl x H3 y
      refine tg_bindM (sr'.grow g3) b1 rd3 fun τ4 s4=>?_
      exact qb Ge F0 H3 F3 σ1 τ4 (.nx σ2) _ b2 s4 (gr'.trans g3) fun τ5 H5 F5 k5 g5 s5=>⟨F5,s5,g5,(kp'.trans g3.keep).trans k5⟩
    | rt r =>
      cases ev'
      refine⟨go,λ_ _=>False,λ_ _ z=>z.elim,λx H3 y=>?_⟩
      obtain⟨F3,g3,rd3⟩:=yl x H3 y
      refine tg_bindM (sr'.grow g3) b1 rd3 fun τ4 s4=>?_
      exact qb Ge F0 H3 F3 σ1 τ4 (.rt r) _ b2 s4 (gr'.trans g3) en
    | ct σ2 =>
      refine⟨go,fun τ2 H2=>∃F2,SR X.K Ge H2 F2 σ2 τ2∧Gr Ge F0 H2 F2∧Keep H1 F1 H2 F2,fun τ2 H2 ⟨F2,q1,q2,q3⟩=>⟨its.length - (i+1),by omega,hlt,rfl,F2,σ2,q1,q2,q3,ev'⟩,λx H3 y=>?_⟩
      obtain⟨F3,g3,rd3⟩:=yl x H3 y
      refine tg_bindM (sr'.grow g3) b1 rd3 fun τ4 s4=>?_
      exact qb Ge F0 H3 F3 σ1 τ4 (.ct σ2) _ b2 s4 (gr'.trans g3) fun τ5 H5 F5 k5 g5 s5=>⟨F5,s5,g5,(kp'.trans g3.keep).trans k5⟩
    | bk σ2 =>
      cases ev'
      refine⟨go,λ_ _=>False,λ_ _ z=>z.elim,λx H3 y=>?_⟩
      obtain⟨F3,g3,rd3⟩:=yl x H3 y
      refine tg_bindM (sr'.grow g3) b1 rd3 fun τ4 s4=>?_
      exact qb Ge F0 H3 F3 σ1 τ4 (.bk σ2) _ b2 s4 (gr'.trans g3) fun τ5 H5 F5 k5 g5 s5=>en τ5 H5 F5 (((g1.keep.trans kp').trans g3.keep).trans k5) g5 s5
  · have hin:i=its.length:=by omega
    subst hin
    rw [List.drop_of_length_le (Nat.le_refl _)] at ev'
    cases ev'
    exact .inl ⟨okS,en τ' H' F' (g1.keep.trans kp') gr' sr'⟩
end
end Dw
namespace Dw
open PySem PySem.Spec PySem.W PyProof.Rows L2
section
variable {K:PySem.W.Frag}{G0 H:Hp}{F:Fz}{σ:En}{τ:L2.St}{i:Nat}
theorem SR.unset (s:SR K G0 H F σ τ) (h:getv σ i=none):SR K G0 H F σ (τ.set i none):=by
  have ne:∀{j:Nat} {r:R},getv σ j=some r→i≠j:=λ{j r} e z=>by subst z;rw [h] at e;cases e
  have at_:∀{j:Nat} {r:R},getv σ j=some r→(τ.set i none)[j]?=τ[j]?:=λe=>List.getElem?_set_ne (ne e)
  refine⟨by rw [List.length_set];exact s.len,s.ent,s.dom,λj e hj=>?_,λj e hj hd=>?_,λj k e e' hj hk hjk=>?_,λj m ks hj=>?_,λj ns ds hj=>?_,s.tb⟩
  · rw [at_ hj];exact s.val j e hj
  · rw [at_ hj];exact s.own j e hj hd
  · rw [at_ hj,at_ hk] at hjk;exact s.sep j k e e' hj hk hjk
  · rw [at_ hj];exact s.dct j m ks hj
  · rw [at_ hj];exact s.obj j ns ds hj
end
noncomputable def SuOk (X:Cx) (su:List Stmt) (i t:Nat) (tb:List (Str×D)):Prop:=∃tsu:TS,(∀a,PSs (X.hold a) su tsu)∧∀(c:Str) (d:D) (C a:Addr) (τ:L2.St) (H:Hp) (Dn:Ends),tb.lookup c=some d→X.mg c=some (.ref C)→H a=some (.ext (XAt C a))→τ[i]?=some (some (.ref a)) →
  (∀H',Same H H'→Dn.nx (τ.set t (some (kV d))) H')→tsu Dn τ H
section
variable {call:Nat→List D→Option R}{G:Gx}{k:Nat}{X:Cx}{sc:Scope}{N:List Str}
theorem snd_try {m:Nat}(A:AllE call G k m) (g:XG call G k X sc N) {f c n:Str}{fi i t:Nat}{Cc:Addr}{e:Expr}{es:List Expr}{cs:List C}{tb:List (Str×D)}{b₀:Stmt}{suite:List Stmt}{p pos epos np hpos tpos:Pos}
    (gn:XG call G k X.nox sc N) (hf:G.xdf.lookup f=some fi) (hgf:glB sc f=true) (hpf:plainName f=true) (hcs:cEs G m sc N (e::es)=some cs) (hgc:glB sc c=true) (hpc:plainName c=true) (hmc:X.mg c=some (.ref Cc))
    (hex:∀c' d C,tb.lookup c'=some d→X.mg c'=some (.ref C)→exmOne X.K (.ref C) (.ref Cc)=some true) (hkd:∀c' d,tb.lookup c'=some d→isK d=true) (hi:N[i]?=some n) (hn:X.env.scope.names.lookup n=some .local) (hit:i≠t)
    (su:SuOk X (b₀::suite) i t tb) (hst:X.stack=X.env::X.outer∧X.env.frame=some X.env.locals) (hx0:X.ex=[]) :
    Snd1 call X (.Try [.Expr (.Call (.Name f p) (e::es) [] pos) epos] [.ExceptHandler (some (.Name c np)) (some n) (b₀::suite) hpos] [] [] tpos) [.tryB i t fi cs tb]:=by
  obtain⟨a,fd,ps,q1,q2,q3,q4,q5⟩:=(g.xdf f fi hf).ex
  obtain⟨_,_,hns,_⟩:=A.a X sc N (e::es) cs g hcs
  obtain⟨ta,pta,qta⟩:=A.ga X.nox sc N (e::es) cs gn hcs
  obtain⟨tsu,psu,qsu⟩:=su
  rw [List.all_cons,Bool.and_eq_true] at hns
  refine⟨_,ps_try (cond:=λC=>∃c' d,tb.lookup c'=some d∧X.mg c'=some (.ref C)) q4 g.room (g.gl f hgf) q1 q2 q3 pta (plain_of hpf).2 (star_cons hns.1) (star_any hns.2) (g.gl c hgc) hmc (plain_of hpc).2 (λC ⟨c',d,z1,z2⟩=>hex c' d C z1 z2)
    (by rw [g.hN];exact g.nd) (by rw [g.hN];exact hi) hn psu hst hx0,λGe F0 H F σ τ o Dn hv hs gr en=>?_⟩
  rw [evSs_one,evS_tryB] at hv
  split at hv
  · rename_i hnone
    have hlt:i<τ.length:=by rw [←hs.len];exact hnone.2
    have hnone:getv σ i=none:=by simpa using hnone.1
    obtain⟨xs,ed,hv⟩:=bind1 hv
    obtain⟨r,hz,hv⟩:=bind1 hv
    refine qta Ge H F σ τ xs _ ed hs λvs H1 F1 g1 rs=>?_
    refine⟨by rw [RGs.length rs];exact q5 xs r hz,(hs.grow g1).tbH,F1,xs,r,g1.dom,rs,hz,λv H' F' g2 rr=>?_,λc' hr H' F' g2 C hC=>?_⟩
    · obtain⟨b,d⟩:=r
      have ho:o=.nx σ:=by
        cases b with
        | true=>cases d<;>exact (Option.some.inj hv).symm
        | false =>
          cases d with
          | exc c'=>exact absurd rr (by intro z;exact z)
          | _=>exact (Option.some.inj hv).symm
      subst ho
      have g3:=g1.trans g2
      exact en τ H' F' g3.keep (gr.trans g3) (hs.grow g3)
    · subst hr
      have hv:(tb.lookup c').map (λd=>Ou.nx (σ.set t (some (false,d))))=some o:=hv
      cases hl:tb.lookup c' with
      | none=>rw [hl] at hv;cases hv
      | some d =>
        rw [hl] at hv
        cases hv
        refine⟨C,rfl,⟨c',d,hl,hC⟩,λx hx=>?_⟩
        refine qsu c' d C x _ _ _ hl hC upd_same (List.getElem?_set_self hlt) λH2 sm=>?_
        have g3:Gr H F H2 F':=by
          have g4:=g1.trans g2
          refine⟨λb u q=>sm b u (by rw [upd_ne (ne_of_none (g4.same b u q) hx)];exact g4.same b u q),g4.sub,g4.new,λb q=>g4.dom b ?_⟩
          cases z:H' b with
          | none=>rfl
          | some u=>rw [sm b u (by rw [upd_ne (ne_of_none z hx)];exact z)] at q;cases q
        have e1:(((τ.set i (some (V.ref x))).set t (some (kV d))).set i none)=(τ.set t (some (kV d))).set i none:=by
          rw [List.set_comm _ _ hit,List.set_set]
        show Dn.nx (((τ.set i (some (V.ref x))).set t (some (kV d))).set i none) H2
        rw [e1]
        refine en _ H2 F' g3.keep (gr.trans g3) (SR.unset ((hs.grow g3).bind (rd_k (hkd c' d hl))) ?_)
        unfold getv at hnone ⊢
        rw [List.getElem?_set_ne (Ne.symm hit)]
        exact hnone
  · cases hv
end
end Dw
namespace Dw
open PySem PySem.Spec PySem.W PyProof.Rows L2
noncomputable def clV:Value→V
  | .ref a=>.ref a
  | .type T=>.ty T
  | _=>.non
noncomputable def rIsx (K:Frag):List V→Hp→VK→Prop:=λxs H Q=>∃(a C:Addr) (c:Value) (b:Bool),xs=[.ref a,clV c]∧((∃D,c=.ref D)∨∃T,c=.type T)∧H a=some (.ext (XAt C a))∧XCls K C∧kitOne K (.ref C) c=some b∧Q (.bl b) H
noncomputable def rIsxT (K:Frag):List V→Hp→VK→Prop:=λxs H Q=>∃(a C tp:Addr) (cs:List Addr) (b:Bool),xs=[.ref a,.ref tp]∧H tp=some (.tup (cs.map V.ref))∧H a=some (.ext (XAt C a))∧XCls K C∧kitAny K (.ref C) (cs.map Value.ref)=some b∧Q (.bl b) H
theorem bt_isx:bootBuiltins (Str.ofString "isinstance")=some (.builtin "isinstance"):=by decide +kernel
section
variable {X:Cx}
theorem call_isx:CallR X (.builtin "isinstance") (rIsx X.K):=by
  intro pins s σ H xs us Q I r h
  obtain⟨a,C,c,b,rfl,hc,ha,xc,e,q⟩:=h
  have hu:us=[.ref a,c]:=by
    cases r with
    | cons r1 r2 =>
      cases r2 with
      | cons r2 r3 =>
        cases r3
        cases r1
        rcases hc with ⟨D,rfl⟩|⟨T,rfl⟩<;>(cases r2;rfl)
  subst hu
  exact kia_one (kitx_exc xc) I.kIn (I.hok a _ ha).1 e (λz=>nomatch z) λtk=>⟨.bl b,H,I.tok tk,rfl,q⟩
theorem vals_back:∀{cs:List Addr}{its:List Value},Vals (cs.map V.ref) its→its=cs.map Value.ref
  | [],_,.nil=>rfl
  | c::cs,_,.cons r1 r2=>by
    cases r1
    rw [vals_back r2]
    rfl
theorem call_isxT:CallR X (.builtin "isinstance") (rIsxT X.K):=by
  intro pins s σ H xs us Q I r h
  obtain⟨a,C,tp,cs,b,rfl,ht,ha,xc,e,q⟩:=h
  have hu:us=[.ref a,.ref tp]:=by
    cases r with
    | cons r1 r2 =>
      cases r2 with
      | cons r2 r3=>cases r3;cases r1;cases r2;rfl
  subst hu
  obtain⟨its,rv,⟨⟨oc,od,dt,sl⟩,e1,e2,n,e3⟩,_⟩:=I.tuple (SqT.of ht)
  have hi:its=cs.map Value.ref:=vals_back rv
  subst hi
  have e2:oc=.type "tuple":=e2
  have e3:dt=.seq (cs.map Value.ref).toArray n:=e3
  subst e2 e3
  exact kia_tup (kitx_exc xc) I.kIn (I.hok a _ ha).1 e1 e (λz=>nomatch z) λtk=>⟨.bl b,H,I.tok tk,rfl,q⟩
theorem pa_cls:∀(es:List (Str×Pos)) (cs:List Addr),(∀(j:Nat) (x:Str×Pos),es[j]?=some x→Gl X x.1∧(x.1 == ("__debug__":Str))=false∧∃C,cs[j]?=some C∧X.mg x.1=some (.ref C))→cs.length=es.length →
    PA X (es.map λx=>.Name x.1 x.2) (fun σ H Q=>Q (cs.map V.ref) H)
  | [],cs,_,hl=>by
    obtain rfl:cs=[]:=List.length_eq_zero_iff.mp hl
    exact pa_nil
  | x::es,cs,h,hl=>by
    obtain⟨g,d,C,e1,e2⟩:=h 0 x rfl
    cases cs with
    | nil=>cases hl
    | cons C' cs =>
      cases e1
      have:=pa_cons (pe_glob (v:=.ref C) (pos:=x.2) g e2 rfl d) (pa_cls es cs (λj y hy=>by obtain⟨g',d',C2,e3,e4⟩:=h (j+1) y (by simpa using hy);exact⟨g',d',C2,by simpa using e3,e4⟩) (Nat.succ.inj hl))
      exact this
theorem su_not {n tn:Str}{i t kk:Nat}{tb:List (Str×D)}{es:List (Str×Pos)}{cs:List Addr}{p pn pp pos pu pt spos:Pos}(hN:X.N.Nodup) (hi:X.N[i]?=some n) (hvi:Vis X.env.scope n) (hpn:plainName n=true) (ht:X.N[t]?=some tn) (htl:X.env.scope.names.lookup tn=some .local)
    (hgi:Gl X "isinstance") (hmi:X.mg "isinstance"=none) (hes:∀(j:Nat) (x:Str×Pos),es[j]?=some x→Gl X x.1∧(x.1 == ("__debug__":Str))=false∧∃C,cs[j]?=some C∧X.mg x.1=some (.ref C)) (hl:cs.length=es.length) (hl2:cs.length≤1000)
    (hb:∀c d C,tb.lookup c=some d→X.mg c=some (.ref C)→XCls X.K C∧∃b,kitAny X.K (.ref C) (cs.map Value.ref)=some b∧d=.bl (!b)) :
    SuOk X [.Assign [.Name tn pt] (.UnaryOp .Not (.Call (.Name "isinstance" p) [.Name n pn,.Tuple (es.map λx=>.Name x.1 x.2) kk pp] [] pos) pu) spos] i t tb:=by
  have hd:=plain_of hpn
  have hcd:(n == ("__classdict__":Str))=false:=by
    unfold plainName at hpn
    simp only [Bool.and_eq_true,bne_iff_ne,ne_eq] at hpn
    exact beq_eq_false_iff_ne.mpr hpn.1.2
  have h1000:(1000:Nat)≤sizeLine:=by decide
  refine⟨_,λa=>pss_one (ps_set (X:=X.hold a) hN ht (.inl htl) (pe_not (pe_callB (X:=X.hold a) (id:="isinstance") (r:=rIsxT X.K) call_isxT hgi hmi bt_isx (pa_cons (pe_var hi hvi hd.2 hcd) (pa_cons (pe_tup (pa_cls es cs hes hl)) pa_nil)))) rfl (.inr htl)),λc d C a τ H Dn h1 h2 h3 h4 k=>?_⟩
  obtain⟨xc,b,e1,rfl⟩:=hb c d C h1 h2
  refine⟨.ref a,h4,by rw [List.length_map];omega,λtp htp=>⟨a,C,tp,cs,b,rfl,upd_same,by rw [upd_ne (ne_of_none h3 htp)];exact h3,xc,e1,b,rfl,?_⟩⟩
  exact k _ λx u q=>by rw [upd_ne (ne_of_none q htp)];exact q
theorem su_and {n tn a b:Str}{i t:Nat}{tb:List (Str×D)}{ca cb:Value}{p pn pa_ pos p' pn' pb pos' pu pt spos:Pos}(hN:X.N.Nodup) (hi:X.N[i]?=some n) (hvi:Vis X.env.scope n) (hpn:plainName n=true) (ht:X.N[t]?=some tn) (htl:X.env.scope.names.lookup tn=some .local)
    (hgi:Gl X "isinstance") (hmi:X.mg "isinstance"=none) (pea:∀x,PE (X.hold x) (.Name a pa_) (tC (clV ca))) (peb:∀x,PE (X.hold x) (.Name b pb) (tC (clV cb))) (hca:(∃D,ca=.ref D)∨∃T,ca=.type T) (hcb:(∃D,cb=.ref D)∨∃T,cb=.type T)
    (hb:∀c d C,tb.lookup c=some d→X.mg c=some (.ref C)→XCls X.K C∧∃b1 b2,kitOne X.K (.ref C) ca=some b1∧kitOne X.K (.ref C) cb=some b2∧d=.bl (b1&&b2)) :
    SuOk X [.Assign [.Name tn pt] (.BoolOp .And [.Call (.Name "isinstance" p) [.Name n pn,.Name a pa_] [] pos,.Call (.Name "isinstance" p') [.Name n pn',.Name b pb] [] pos'] pu) spos] i t tb:=by
  have hd:=plain_of hpn
  have hcd:(n == ("__classdict__":Str))=false:=by
    unfold plainName at hpn
    simp only [Bool.and_eq_true,bne_iff_ne,ne_eq] at hpn
    exact beq_eq_false_iff_ne.mpr hpn.1.2
  refine⟨_,λx=>pss_one (ps_set (X:=X.hold x) hN ht (.inl htl) (pe_and (pe_callB (X:=X.hold x) (id:="isinstance") (r:=rIsx X.K) call_isx hgi hmi bt_isx (pa_cons (pe_var hi hvi hd.2 hcd) (pa_cons (pea x) pa_nil))) (pe_one (pe_callB (X:=X.hold x) (id:="isinstance") (r:=rIsx X.K) call_isx hgi hmi bt_isx (pa_cons (pe_var hi hvi hd.2 hcd) (pa_cons (peb x) pa_nil))))) rfl (.inr htl)),λc d C x τ H Dn h1 h2 h3 h4 k=>?_⟩
  obtain⟨xc,b1,b2,e1,e2,rfl⟩:=hb c d C h1 h2
  refine⟨.ref x,h4,x,C,ca,b1,rfl,hca,h3,xc,e1,b1,rfl,?_⟩
  cases b1 with
  | false=>exact iteF (k H (Same.refl H))
  | true=>exact iteT ⟨.ref x,h4,x,C,cb,b2,rfl,hcb,h3,xc,e2,k H (Same.refl H)⟩
end
end Dw
namespace Dw
open PySem PySem.Spec PyProof.Rows L2
section
variable {call:Nat→List D→Option R}{G:Gx}{k:Nat}
structure AllS (call:Nat→List D→Option R) (G:Gx) (k n:Nat):Prop where
  o:∀(X:Cx) (sc:Scope) (N:List Str) (mt:List Nat) (st:Stmt) (cs:List S),XG call G k X sc N→cS G n sc N mt st=some cs→Snd1 call X st cs
  s:∀(X:Cx) (sc:Scope) (N:List Str) (mt:List Nat) (st:List Stmt) (cs:List S),XG call G k X sc N→cSs G n sc N mt st=some cs→SndS call X st cs
theorem tgM_two {tg:Expr}{t:Tg}(h:tgM sc N tg=some t) (h2:isTwo t=true):tgOf sc N tg=some t:=by
  unfold tgM at h
  cases ht:tgOf sc N tg with
  | some t'=>rw [ht] at h;exact h
  | none =>
    rw [ht] at h
    cases tg with
    | Tuple es kk pos =>
      have h:(optAll (nmOf sc N) es).map Tg.many=some t:=h
      cases hx:optAll (nmOf sc N) es with
      | none=>rw [hx] at h;cases h
      | some is=>rw [hx] at h;cases h;cases h2
    | _=>cases h
theorem st_succ (hG:∀x∈bltNames,G.defs.lookup x=none) {n:Nat}(B:AllS call G k n):AllS call G k (n+1):=by
  have A:=all_ok (call:=call) (k:=k) hG n
  constructor
  · intro X sc N mt st cs g h
    unfold cS at h
    split at h
    · rename_i x p e pos
      split at h
      · rename_i hx
        obtain⟨i,e1,e2⟩:=bind1 h
        split at e2
        · rename_i hd
          cases e2
          obtain⟨pd,rfl⟩:=isD0_of hd
          exact snd_dnew g hx e1
        · obtain⟨c,e3,e4⟩:=bind1 e2
          cases e4
          exact snd_withF (snd_set hG g e3 hx e1)
      · cases h
    · rename_i x p kx p2 e pos
      obtain⟨i,e1,e2⟩:=bind1 h
      obtain⟨ck,e3,e4⟩:=bind1 e2
      obtain⟨c,e5,e6⟩:=bind1 e4
      cases e6
      exact snd_withF (snd_setIx A g e1 e3 e5)
    · rename_i x p m p2 e p3 pos
      split at h
      · rename_i hm
        rw [Bool.and_eq_true] at hm
        obtain⟨i,e1,e2⟩:=bind1 h
        obtain⟨c,e3,e4⟩:=bind1 e2
        cases e4
        exact snd_withF (snd_app A g (by simpa using hm.1) hm.2 e1 e3)
      · split at h
        · rename_i hm
          rw [Bool.and_eq_true] at hm
          obtain⟨i,e1,e2⟩:=bind1 h
          obtain⟨c,e3,e4⟩:=bind1 e2
          cases e4
          exact snd_withF (snd_ext A g (by simpa using hm.1) hm.2 e1 e3)
        · cases h
    · rename_i t body pos
      obtain⟨c,e1,e2⟩:=bind1 h
      obtain⟨cb,e3,e4⟩:=bind1 e2
      cases e4
      exact snd_withF (snd_while A g e1 (B.s X sc N mt body cb g e3))
    · rename_i x p e pos
      split at h
      · rename_i hx
        obtain⟨i,e1,e2⟩:=bind1 h
        obtain⟨c,e3,e4⟩:=bind1 e2
        cases e4
        exact snd_withF (snd_aug A g e3 hx e1)
      · cases h
    · rename_i x p m p2 p3 pos
      split at h
      · rename_i hm
        rw [Bool.and_eq_true] at hm
        obtain⟨i,e1,e2⟩:=bind1 h
        cases e2
        exact snd_popE g (by simpa using hm.1) hm.2 e1
      · cases h
    · rename_i c np m j p1 cpos pos
      split at h
      · rename_i hm
        rw [Bool.and_eq_true,Bool.and_eq_true] at hm
        cases h
        exact snd_rse g (by simpa using hm.1.1) hm.1.2 hm.2
      · cases h;exact⟨λ_ _ _=>False,(λ_ _ _ _ _ _ z=>False.elim z),λGe F0 H F σ τ o Dn hv _ _ _=>by cases hv⟩
    · cases h;exact⟨λ_ _ _=>False,(λ_ _ _ _ _ _ z=>False.elim z),λGe F0 H F σ τ o Dn hv _ _ _=>by cases hv⟩
    · rename_i e pos
      obtain⟨c,e1,e2⟩:=bind1 h
      cases e2
      exact snd_withF (snd_ret hG g e1)
    · rename_i t a b pos
      obtain⟨c,e1,e2⟩:=bind1 h
      obtain⟨ca,e3,e4⟩:=bind1 e2
      obtain⟨cb,e5,e6⟩:=bind1 e4
      cases e6
      exact snd_withF (snd_if A g e1 (B.s X sc N mt a ca g e3) (B.s X sc N mt b cb g e5))
    · rename_i tg it body pos
      obtain⟨t,e1,e2⟩:=bind1 h
      obtain⟨cb,e3,e4⟩:=bind1 e2
      have hb:=B.s X sc N mt body cb g e3
      have hsr:=srk (sc:=sc) it
      cases hq:srOf sc it with
      | seq s =>
        rw [hq] at e4 hsr
        obtain⟨x,q1,q2⟩:=bind1 e4
        cases q2
        cases hsr
        refine snd_withF (snd_for g e1 (src_seq A g q1) (no_fold q1 X.env) hb fun σ o hv=>?_)
        rw [evS_forS] at hv
        obtain⟨r,r1,r2⟩:=bind1 hv
        obtain⟨its,r3,r4⟩:=bind1 r2
        exact⟨its,by simp only [r1];exact r3,r4⟩
      | rng rs =>
        rw [hq] at e4 hsr
        obtain⟨xs,q1,q2⟩:=bind1 e4
        cases q2
        cases hsr with
        | rng f p as pos2 hg hf hl =>
          refine snd_withF (snd_for g e1 (src_rng (p:=p) (pos:=pos2) A g hG hg hf hl q1) (λ_=>rfl) hb fun σ o hv=>?_)
          rw [evS_forR] at hv
          obtain⟨r,r1,r2⟩:=bind1 hv
          obtain⟨its,r3,r4⟩:=bind1 r2
          exact⟨its,by simp only [r1];exact r3,r4⟩
      | zip a b=>rw [hq] at e4;cases e4
      | enm a =>
        rw [hq] at e4 hsr
        simp only at e4
        split at e4
        · rename_i h2
          obtain⟨x,q1,q2⟩:=bind1 e4
          cases q2
          obtain⟨es,kk,tp,rfl⟩:=two_tup (tgM_two e1 h2) h2
          cases hsr with
          | enm f p a pos2 hg hf =>
            refine snd_withF (snd_for g e1 (src_enm (p:=p) (pos:=pos2) A g hG hg hf q1) (λ_=>rfl) hb fun σ o hv=>?_)
            rw [evS_forE] at hv
            obtain⟨z,r1,r2⟩:=bind1 hv
            obtain⟨xs,r5,r6⟩:=bind1 r2
            exact⟨enumD 0 xs,by simp only [r1,r5,Option.bind_some],r6⟩
        · cases e4
      | rev rs =>
        rw [hq] at e4 hsr
        obtain⟨xs,q1,q2⟩:=bind1 e4
        cases q2
        cases hsr with
        | rev f f' p p' a pos2 pos3 hg hf hg' hf' =>
          refine snd_withF (snd_for g e1 (src_rev (p:=p) (pos:=pos2) (p':=p') (pos':=pos3) A g hG hg hf hg' hf' q1) (λ_=>rfl) hb fun σ o hv=>?_)
          rw [evS_forV] at hv
          obtain⟨r,r1,r2⟩:=bind1 hv
          obtain⟨its,r3,r4⟩:=bind1 r2
          exact⟨its,by simp only [r1];exact r3,r4⟩
    · cases h
  · intro X sc N mt st cs g h
    unfold cSs at h
    split at h
    · cases h;exact snd_nil
    · rename_i a r
      obtain⟨x,e1,e2⟩:=bind1 h
      obtain⟨y,e3,e4⟩:=bind1 e2
      cases e4
      exact snd_cons (B.o X sc N mt a x g e1) (B.s X sc N mt r y g e3)
theorem st_zero:AllS call G k 0:=by
  constructor
  · intro X sc N mt st cs _ h;cases h
  · intro X sc N mt st cs _ h;cases h
theorem all_st (hG:∀x∈bltNames,G.defs.lookup x=none):∀n,AllS call G k n
  | 0=>st_zero
  | n+1=>st_succ hG (all_st hG n)
end
structure FunD (K:PySem.W.Frag) (x qual:Str) (st:Stmt) (f:Addr) (fd:FuncData):Prop where
  ex:∃(oc:Value) (od:Option Addr) (dV kV doc pm:Value) (an:Option Addr) (cdv ct:Value) (osl:Array (Option Value)),
    fd=PySem.W.fnOf x qual (defArgs st) (defBody st) (defScope st) dV kV doc pm an cdv ct∧K.lookup f=some ⟨oc,od,.func fd,osl⟩∧PySem.W.codeIn K cdv qual=true
  kp:PySem.W.keepIn K (.ref f)=true
theorem fun_toD {K:PySem.W.Frag}{x qual:Str}{st:Stmt}{f:Addr}{fd:FuncData}(F:Fun K x qual st f fd):FunD K x qual st f fd:=by
  obtain⟨⟨oc,od,kV,doc,pm,an,cdv,ct,osl,h1,h2,h3⟩,kp⟩:=F
  exact⟨⟨oc,od,.none,kV,doc,pm,an,cdv,ct,osl,h1,h2,h3⟩,kp⟩
theorem FunD.ok {P:Program}{w:World}{K:PySem.W.Frag}{mg:Str→Option Value}{base:Heap}{x qual:Str}{st:Stmt}{f:Addr}{fd:FuncData}{N ps:List Str}{k:Nat}{sp:Sp}(F:FunD K x qual st f fd) (S:FnScope N ps (defScope st)) (len:∀vs H Q E,sp vs H Q E→vs.length=ps.length)
    (body:∀(cdv:Value) (A:Around) (outer:List Env) (s:Shared) (H:Hp) (vs:List V) (Q:VK) (E:XK),Room k (A.deeper (envOfC qual (defScope st) s.heap.objs.size f cdv))→sp vs H Q E →
      ∃t,PSs (cxOf CX0 P w K mg base N qual (defScope st) f cdv A outer s H E).nox (defBody st) t∧t { nx:=λ_ H'=>Q .non H',rt:=Q } (start N vs) H):FnOk P w K mg base CX0 (k+1) f fd ps sp:=by
  obtain⟨oc,od,dV,kV,doc,pm,an,cdv,ct,osl,rfl,lk,hcd⟩:=F.ex
  refine fn_of lk hcd S len λA outer s H vs Q E hr h=>?_
  obtain⟨t,h1,h2⟩:=body cdv A outer s H vs Q E hr h
  exact⟨t,h1.nox,h2⟩
structure DefIn (K:PySem.W.Frag) (mg:Str→Option Value) (G:Gx) (tab:List Fd) (fuel:Nat) (x:Str) (i:Nat):Prop where
  ex:∃(a:Addr) (fdt:FuncData) (st:Stmt) (ps:List Str) (fd:Fd),mg x=some (.ref a)∧FunD K x x st a fdt∧Binds K fdt ps []∧FnScope (namesOf (defScope st)) ps (defScope st) ∧
    cSs G fuel (defScope st) (namesOf (defScope st)) (mutS fuel (namesOf (defScope st)) (defBody st)) (defBody st)=some fd.body∧tab[i]?=some fd∧fd.np=ps.length∧fd.ns=(namesOf (defScope st)).length
structure UseIn (K:PySem.W.Frag) (mg:Str→Option Value) (G:Gx) (tab:List Fd) (fuel:Nat) (u:Uc):Prop where
  ex:∃(a:Addr) (fdt:FuncData) (st:Stmt) (ps:List Str) (fd:Fd) (g:List Value→List Value→List Value) (gV:List V→List V→List V),mg u.f=some (.ref a)∧FunD K u.f u.f st a fdt∧KBinds K fdt ps u.ks g gV∧(∀vs zs,vs.length=u.np→zs.length=u.ks.length→gV vs zs=u.pl.map (arV vs zs))∧(∀j d,Ar.dft j d∈u.pl→isK d=true) ∧
    FnScope (namesOf (defScope st)) ps (defScope st)∧cSs G fuel (defScope st) (namesOf (defScope st)) (mutS fuel (namesOf (defScope st)) (defBody st)) (defBody st)=some fd.body∧tab[u.i]?=some fd∧fd.np=ps.length∧fd.ns=(namesOf (defScope st)).length
structure MthIn (K:PySem.W.Frag) (mg:Str→Option Value) (G:Gx) (tab:List Fd) (fuel:Nat) (c m:Str) (i:Nat):Prop where
  ex:∃(C fi fm:Addr) (fdi fdm:FuncData) (sti stm:Stmt) (psi psm:List Str) (qi qm:Str) (fd:Fd),mg c=some (.ref C)∧Mk K C fi∧Cls K C∧(∀f∈G.flds.map (·.1),NoAttr K C f)∧FunD K "__init__" qi sti fi fdi∧Binds K fdi psi []∧FnScope (namesOf (defScope sti)) psi (defScope sti) ∧
    initB (defScope sti) (namesOf (defScope sti)) 0 (G.flds.map (·.1)) (defBody sti)=true∧psi.length=(G.flds.map (·.1)).length+1∧Meth K C m fm∧FunD K m qm stm fm fdm∧Binds K fdm psm []∧FnScope (namesOf (defScope stm)) psm (defScope stm) ∧
    cSs G fuel (defScope stm) (namesOf (defScope stm)) (mutS fuel (namesOf (defScope stm)) (defBody stm)) (defBody stm)=some fd.body∧tab[i]?=some fd∧fd.np=psm.length∧fd.ns=(namesOf (defScope stm)).length∧m∉G.flds.map (·.1)∧(G.flds.map (·.1)).Nodup∧(G.flds.map (·.1)).length<1000
theorem runX_len {call:Nat→List D→Option R}{fd:Fd}{ds:List D}{r:R}(h:runX call fd ds=some r):ds.length=fd.np:=by
  unfold runX at h
  split at h
  · assumption
  · cases h
theorem callN_len {tab:List Fd}{n i:Nat}{fd:Fd}{ds:List D}{r:R}(ht:tab[i]?=some fd) (h:callN tab n i ds=some r):ds.length=fd.np:=by
  cases n with
  | zero=>cases h
  | succ n =>
    rw [callN_at ht] at h
    obtain⟨r',h1,_⟩:=bind1 (show (runX (callN tab n) fd ds).bind noX=some r from h)
    exact runX_len h1
theorem callX_len {tab:List Fd}{n i:Nat}{fd:Fd}{ds:List D}{r:R}(hl:tab.length≤XO) (ht:tab[i]?=some fd) (h:callN tab n (i+XO) ds=some r):ds.length=fd.np:=by
  cases n with
  | zero=>cases h
  | succ n =>
    rw [callX_at ht hl] at h
    exact runX_len h
theorem XG.nox {call:Nat→List D→Option R}{G:Gx}{k:Nat}{X:Cx}{sc:Scope}{N:List Str}(g:XG call G k X sc N):XG call G k X.nox sc N:=
  ⟨g.hN,g.nd,g.vis,g.loc,g.gl,g.cap,g.calm,PassesOwn.never,g.room,λf i h=>⟨(g.defs f i h).ex⟩,g.blt,g.cons,λu h=>⟨(g.ucal u h).ex⟩,λu h=>⟨(g.meth u h).ex⟩,g.two,λc h=>⟨(g.rse c h).ex⟩,λf i h=>⟨(g.xdf f i h).ex⟩⟩
section
variable {P:Program}{w:World}{K:PySem.W.Frag}{mg:Str→Option Value}{base:Heap}{G:Gx}{tab:List Fd}{fuel:Nat}
theorem agE_get:∀{b:Bool}{ds:List D}{m i:Nat}{r:R},getv (agE b ds++List.replicate m none) i=some r→∃d,ds[i]?=some d∧r=(isDc d,d)
  | b,[],m,i,r,h=>by
    unfold getv at h
    rw [show agE b []=[] by cases b<;>rfl,List.nil_append,List.getElem?_replicate] at h
    split at h<;>cases h
  | b,d::ds,m,i,r,h=>by
    cases i with
    | zero =>
      refine⟨d,rfl,?_⟩
      cases b<;>cases d<;>first|(cases h;rfl)|cases h
    | succ i =>
      have:∃b',getv (agE b' ds++List.replicate m none) i=some r:=by
        cases b<;>cases d<;>first|exact⟨false,h⟩|exact⟨true,h⟩
      obtain⟨b',h'⟩:=this
      obtain⟨d',q1,q2⟩:=agE_get h'
      exact⟨d',by simpa using q1,q2⟩
theorem agE_noT:∀{ds:List D}{m i:Nat}{d:D},getv (agE true ds++List.replicate m none) i=some (true,d)→False
  | [],m,i,d,h=>by
    unfold getv at h
    rw [show agE true []=[] from rfl,List.nil_append,List.getElem?_replicate] at h
    split at h<;>cases h
  | x::ds,m,i,d,h=>by
    cases i with
    | zero=>cases x<;>cases h
    | succ i=>exact agE_noT (ds:=ds) (m:=m) (i:=i) (d:=d) (by cases x<;>exact h)
theorem agE_one:∀{ds:List D}{m i j:Nat}{d e:D},getv (agE false ds++List.replicate m none) i=some (true,d)→getv (agE false ds++List.replicate m none) j=some (true,e)→i=j
  | [],m,i,j,d,e,h,h'=>by
    unfold getv at h
    rw [show agE false []=[] from rfl,List.nil_append,List.getElem?_replicate] at h
    split at h<;>cases h
  | x::ds,m,i,j,d,e,h,h'=>by
    cases hx:isDc x with
    | true =>
      cases x with
      | dct m' ks =>
        cases i with
        | zero =>
          cases j with
          | zero=>rfl
          | succ j=>exact absurd h' (λz=>agE_noT (ds:=ds) (m:=m) (i:=j) z)
        | succ i=>exact absurd h (λz=>agE_noT (ds:=ds) (m:=m) (i:=i) z)
      | obj m' ks =>
        cases i with
        | zero =>
          cases j with
          | zero=>rfl
          | succ j=>exact absurd h' (λz=>agE_noT (ds:=ds) (m:=m) (i:=j) z)
        | succ i=>exact absurd h (λz=>agE_noT (ds:=ds) (m:=m) (i:=i) z)
      | _=>cases hx
    | false =>
      have e1:agE false (x::ds)=some (false,x)::agE false ds:=by cases x<;>first|rfl|cases hx
      rw [e1] at h h'
      cases i with
      | zero=>cases h
      | succ i =>
        cases j with
        | zero=>cases h'
        | succ j=>rw [agE_one (ds:=ds) (m:=m) (i:=i) (j:=j) h h']
theorem agE_len:∀(b:Bool) (ds:List D),(agE b ds).length=ds.length
  | b,[]=>by cases b<;>rfl
  | b,d::ds=>by cases b<;>cases d<;>(show (agE _ ds).length+1=_;rw [agE_len];rfl)
theorem start_sr {H:Hp}{F:Fz}{ds:List D}{vs:List V}{N:List Str}{m:Nat}(tb:TB H) (dom:∀a,H a=none→¬F a) (h:RGs K H F ds vs) (hm:m=N.length - vs.length):SR K H H F (agE false ds++List.replicate m none) (L2.start N vs):=by
  have hl:=RGs.length h
  have at_:∀{i:Nat} {v:V},vs[i]?=some v→(L2.start N vs)[i]?=some (some v):=λ{i v} q1=>by
    unfold L2.start
    obtain⟨hi,_⟩:=List.getElem?_eq_some_iff.mp q1
    rw [List.getElem?_append_left (by simpa using hi),List.getElem?_map,q1]
    rfl
  refine⟨by simp [L2.start,hl,hm,agE_len],Same.refl H,dom,λi d e=>?_,λi d e hd=>?_,λi j d e h1 h2 _=>agE_one h1 h2,λi m' ks e=>?_,λi ns' ds' e=>?_,tb⟩
  · obtain⟨d',e1,e2⟩:=agE_get e
    have hd:isDc d'=false:=(Prod.mk.inj e2).1.symm
    have hd2:d=d':=(Prod.mk.inj e2).2
    subst hd2
    obtain⟨v,q1,q2⟩:=RGs.get h e1
    refine⟨v,at_ q1,q2.elim (λz=>z) λz=>z.elim (λ⟨a,ks,z,_⟩=>?_) λ⟨ns',ds',z,_⟩=>?_⟩
    · subst z
      cases hd
    · subst z
      cases hd
  · obtain⟨d',e1,e2⟩:=agE_get e
    have hd1:true=isDc d':=(Prod.mk.inj e2).1
    have hd2:d=d':=(Prod.mk.inj e2).2
    subst hd2
    rw [hd] at hd1
    cases hd1
  · obtain⟨d',e1,e2⟩:=agE_get e
    have hd2:D.dct m' ks=d':=(Prod.mk.inj e2).2
    subst hd2
    obtain⟨v,q1,q2⟩:=RGs.get h e1
    rcases q2 with z|⟨a,ks',z1,z2,z3,z4⟩|⟨ns',ds',z1,z2⟩
    · exact False.elim z
    · cases z1
      subst z2
      exact⟨a,at_ q1,z3,z4,λz=>nomatch z⟩
    · cases z1
  · obtain⟨d',e1,e2⟩:=agE_get e
    have hd2:D.obj ns' ds'=d':=(Prod.mk.inj e2).2
    subst hd2
    obtain⟨v,q1,q2⟩:=RGs.get h e1
    rcases q2 with z|⟨a,ks',z1,z2,z3,z4⟩|⟨ns2,ds2,z1,z2⟩
    · exact False.elim z
    · cases z1
    · cases z1
      exact⟨v,at_ q1,z2⟩
theorem fn_zero {a:Addr}{fdt:FuncData}{ps:List Str}{i:Nat}:FnOk P w K mg base CX0 2 a fdt ps (spD K ps.length (callN tab 0 i)):=
  ⟨λ_ _ _ _ h=>h.1,λA outer s H args us vs Q E _ _ _ _ h=>by obtain⟨_,_,F,ds,r,_,_,z,_⟩:=h;cases z⟩
theorem init_fn {fi:Addr}{fdi:FuncData}{sti:Stmt}{psi:List Str}{qi:Str}{ns:List Str}(hbl:∀x∈bltNames,mg x=none) (Fn:FunD K "__init__" qi sti fi fdi) (Sc:FnScope (namesOf (defScope sti)) psi (defScope sti)) (hi:initB (defScope sti) (namesOf (defScope sti)) 0 ns (defBody sti)=true) (hl:psi.length=ns.length+1) (hz:ns.length<1000) :
    FnOk P w K mg base CX0 1 fi fdi psi (spI K ns):=by
  refine Fn.ok (k:=0) Sc (λvs H Q E h=>?_) (λcdv A outer s H vs Q E hr h=>?_)
  · obtain⟨x,C,dx,ws,rfl,h1,_⟩:=h
    rw [hl,List.length_cons,h1]
  · obtain⟨x,C,dx,ws,rfl,h1,h2,h3,h4,hq⟩:=h
    have g:XG (λ_ _=>none) ⟨[],[],[],[],[],[],[]⟩ 0 (cxOf CX0 P w K mg base (namesOf (defScope sti)) qi (defScope sti) fi cdv A outer s H E).nox (defScope sti) (namesOf (defScope sti)):=by
      refine⟨rfl,Sc.nd,λy h=>?_,λy h=>?_,λy h=>?_,λy h=>?_,rfl,PassesOwn.never,hr,λy j h=>(nomatch h),λy _ h=>?_,λy i h=>(nomatch h),λu hm=>(nomatch hm),λu hm=>(nomatch hm),λz=>absurd rfl z,λc h=>(nomatch h),λy i h=>(nomatch h)⟩
      · unfold visB at h
        simp only [Bool.or_eq_true,beq_iff_eq] at h
        rcases h with (h|h)|h
        · exact .inl h
        · exact .inr (.inl h)
        · exact .inr (.inr h)
      · simp only [Bool.or_eq_true,beq_iff_eq] at h
        exact⟨h,.inl rfl⟩
      · unfold glB at h
        rw [beq_iff_eq] at h
        exact h
      · unfold capB at h
        simp only [Bool.or_eq_true,beq_iff_eq] at h
        exact h
      · exact hbl y h
    obtain⟨t,pt,qt⟩:=init_body g ns 0 (defBody sti) hi
    refine⟨t,pt,qt _ H x C dx [] ws _ rfl (λi w hw=>?_) h1 h2 h3 h4 (by simpa using hz) hq⟩
    obtain⟨hlt,_⟩:=List.getElem?_eq_some_iff.mp hw
    unfold L2.start
    rw [List.getElem?_append_left (by simp;omega),List.getElem?_map,show 0+1+i=i+1 by omega,List.getElem?_cons_succ,hw]
    rfl
structure SrtB (sc:Scope) (N:List Str) (qual:Str) (Pt:Addr) (body:List Stmt) (b:List S):Prop where
  ex:∃(n:Nat) (e r:Expr) (ce cr:C) (la:Arguments) (p p2 pos2 kpos pos lp rpos:Pos) (y:Str) (sc':Scope) (ks:List Nat),body=[.Return (some (.Call (.Name "sorted" p) [.Call (.Name "range" p2) [r] [] pos2] [⟨some (Str.ofString "key"),.Lambda la e sc' lp,kpos⟩] pos)) rpos]∧b=[.ret (.srtR ce 1 ks [cr])] ∧
    glB sc "sorted"=true∧glB sc "range"=true∧scopeOk sc'=true∧sc'.isCoroutine=false∧sc'.isGenerator=false∧ownN sc'=[y]∧(∀env,defaultsOf la env=([],[])) ∧
    (∀(q:Str) (clos:List (Str×Addr)) (pm:Value) (c:Addr) (ctv uv:Value),bindArgs (PySem.W.kla_fn "<lambda>" q la e sc' clos pm (.ref c) ctv) ⟨[uv],[]⟩=pure [(y,uv)]) ∧
    optAll (capOf sc N) (freeN sc')=some ks∧cE G0 n sc' (ownN sc'++freeN sc') e=some ce∧cE G0 n sc N r=some cr∧(Pt,lp,(qual++".<locals>.")++"<lambda>")∈tbs
noncomputable def SrtIn (K:PySem.W.Frag) (mg:Str→Option Value) (tab:List Fd) (x:Str) (i:Nat):Prop:=False
noncomputable def BodyOk (K:PySem.W.Frag) (mg:Str→Option Value) (G:Gx) (tab:List Fd) (st:Stmt) (b:List S):Prop:=∀(n:Nat) (X:Cx),X.K=K→X.mg=mg→(X.stack=X.env::X.outer∧X.env.frame=some X.env.locals)→X.ex=[]→X.env.scope=defScope st →
  XG (callN tab n) G (n+2) X (defScope st) (namesOf (defScope st))→SndS (callN tab n) X (defBody st) b
structure SpIn (K:PySem.W.Frag) (mg:Str→Option Value) (G:Gx) (tab:List Fd) (x:Str) (i:Nat):Prop where
  ex:∃(a:Addr) (fdt:FuncData) (st:Stmt) (ps:List Str) (fd:Fd),mg x=some (.ref a)∧FunD K x x st a fdt∧Binds K fdt ps []∧FnScope (namesOf (defScope st)) ps (defScope st)∧BodyOk K mg G tab st fd.body∧tab[i]?=some fd∧fd.np=ps.length∧fd.ns=(namesOf (defScope st)).length
theorem body_of (hG:∀x∈bltNames,G.defs.lookup x=none) {st:Stmt}{b:List S}(h:cSs G fuel (defScope st) (namesOf (defScope st)) (mutS fuel (namesOf (defScope st)) (defBody st)) (defBody st)=some b):BodyOk K mg G tab st b:=
  λn X _ _ _ _ _ g=>(all_st (call:=callN tab n) (k:=n+2) hG fuel).s _ _ _ _ _ _ g h
theorem DefIn.sp {x:Str}{i:Nat}(hG:∀x∈bltNames,G.defs.lookup x=none) (d:DefIn K mg G tab fuel x i):SpIn K mg G tab x i:=by
  obtain⟨a,fdt,st,ps,fd,q1,q2,q3,q4,q5,q6,q7,q8⟩:=d.ex
  exact⟨a,fdt,st,ps,fd,q1,q2,q3,q4,body_of hG q5,q6,q7,q8⟩
theorem FunD.okX {CX:CXT}{x qual:Str}{st:Stmt}{f:Addr}{fd:FuncData}{N ps:List Str}{k:Nat}{sp:Sp}(F:FunD K x qual st f fd) (S:FnScope N ps (defScope st)) (len:∀vs H Q E,sp vs H Q E→vs.length=ps.length)
    (body:∀(cdv:Value) (A:Around) (outer:List Env) (s:Shared) (H:Hp) (vs:List V) (Q:VK) (E:XK),Room k (A.deeper (envOfC qual (defScope st) s.heap.objs.size f cdv))→sp vs H Q E →
      ∃t,PSs (cxOf CX P w K mg base N qual (defScope st) f cdv A outer s H E) (defBody st) t∧t { nx:=λ_ H'=>Q .non H',rt:=Q } (start N vs) H):FnOk P w K mg base CX (k+1) f fd ps sp:=by
  obtain⟨oc,od,dV,kV,doc,pm,an,cdv,ct,osl,rfl,lk,hcd⟩:=F.ex
  exact fn_of lk hcd S len λA outer s H vs Q E hr h=>body cdv A outer s H vs Q E hr h
theorem fns (hG:∀x∈bltNames,G.defs.lookup x=none) (hb:∀x∈bltNames,mg x=none) (hc:∀x i,G.cons.lookup x=some i→∃t,mg x=some (.int i t)) (kb:K.In base) (hd:∀x i,G.defs.lookup x=some i→SpIn K mg G tab x i∨SrtIn K mg tab x i) (hu:∀u∈G.ucal,UseIn K mg G tab fuel u) (hmt:∀u∈G.meth,MthIn K mg G tab fuel u.1 u.2.1 u.2.2)
    (hX:tab.length≤XO) (hrs:∀c∈G.rse,∃(C:Addr) (B nid iid:String) (bm:List Value),ExcBaseFacts B nid iid bm∧OwnCls c C bm nid mg base) (hxd:∀x i,G.xdf.lookup x=some i→SpIn K mg G tab x i):∀(n:Nat) (x qn:Str) (i:Nat) (a:Addr) (fdt:FuncData) (st:Stmt) (ps:List Str) (fd:Fd),FunD K x qn st a fdt →
    FnScope (namesOf (defScope st)) ps (defScope st)→BodyOk K mg G tab st fd.body→tab[i]?=some fd→fd.np=ps.length→fd.ns=(namesOf (defScope st)).length →
    FnOk P w K mg base CX0 (n+2) a fdt ps (spD K ps.length (callN tab n i))∧FnOk P w K mg base (CXr P w) (n+2) a fdt ps (spX K mg ps.length (callN tab n (i+XO)))
  | 0,x,qn,i,a,fdt,st,ps,fd,_,_,_,_,_,_=>⟨fn_zero,⟨λ_ _ _ _ h=>h.1,λA outer s H args us vs Q E _ _ _ _ h=>by obtain⟨_,_,F,ds,r,_,_,z,_⟩:=h;cases z⟩⟩
  | n+1,x,qn,i,a,fdt,st,ps,fd,Fn,Sc,hcs,ht,hp,hn=>by
    have gX:∀(CX:CXT) (cdv:Value) (A:Around) (outer:List Env) (s:Shared) (H:Hp) (E:XK),Room (n+2) (A.deeper (envOfC qn (defScope st) s.heap.objs.size a cdv))→XG (callN tab n) G (n+2) (cxOf CX P w K mg base (namesOf (defScope st)) qn (defScope st) a cdv A outer s H E) (defScope st) (namesOf (defScope st)):=by
      intro CX cdv A outer s H E hr
      refine⟨rfl,Sc.nd,λy h=>?_,λy h=>?_,λy h=>?_,λy h=>?_,rfl,PassesOwn.leaving,hr,λy j h=>?_,λy _ h=>hb y h,hc,λu hm=>?_,λu hm=>?_,λ_=>Nat.le_add_left 2 n,λc h=>⟨hrs c h⟩,λy j h=>?_⟩
      · unfold visB at h
        simp only [Bool.or_eq_true,beq_iff_eq] at h
        rcases h with (h|h)|h
        · exact .inl h
        · exact .inr (.inl h)
        · exact .inr (.inr h)
      · simp only [Bool.or_eq_true,beq_iff_eq] at h
        exact⟨h,.inl rfl⟩
      · unfold glB at h
        rw [beq_iff_eq] at h
        exact h
      · unfold capB at h
        simp only [Bool.or_eq_true,beq_iff_eq] at h
        exact h
      · rcases hd y j h with hd1|hd1
        · obtain⟨a2,fdt2,st2,ps2,fd2,q1,q2,q3,q4,q5,q6,q7,q8⟩:=hd1.ex
          exact⟨a2,fdt2,ps2,q1,q2.kp,q3,(fns hG hb hc kb hd hu hmt hX hrs hxd n y y j a2 fdt2 st2 ps2 fd2 q2 q4 q5 q6 q7 q8).1,λds r hr=>(callN_len q6 hr).trans q7⟩
        · exact hd1.elim
      · obtain⟨a2,fdt2,st2,ps2,fd2,g2,gV2,q1,q2,q3,q3b,q3c,q4,q5,q6,q7,q8⟩:=(hu u hm).ex
        exact⟨a2,fdt2,ps2,g2,gV2,q1,q2.kp,q3,q3b,q3c,(fns hG hb hc kb hd hu hmt hX hrs hxd n u.f u.f u.i a2 fdt2 st2 ps2 fd2 q2 q4 (body_of hG q5) q6 q7 q8).1,λds r hr=>(callN_len q6 hr).trans q7⟩
      · obtain⟨C,fi,fm,fdi,fdm,sti,stm,psi,psm,qi,qm,fd2,q1,q2,q3,q4,q5,q6,q7,q8,q9,q10,q11,q12,q13,q14,q15,q16,q17,q18,q19,q20⟩:=(hmt u hm).ex
        exact⟨C,fi,fm,fdi,fdm,psi,psm,q1,q2,q3,q4,q6,init_fn hb q5 q7 q8 q9 q20,q10,q12,(fns hG hb hc kb hd hu hmt hX hrs hxd n u.2.1 qm u.2.2 fm fdm stm psm fd2 q11 q13 (body_of hG q14) q15 q16 q17).1,λds r hr=>(callN_len q15 hr).trans q16,q18,q19⟩
      · obtain⟨a2,fdt2,st2,ps2,fd2,q1,q2,q3,q4,q5,q6,q7,q8⟩:=(hxd y j h).ex
        exact⟨a2,fdt2,ps2,q1,q2.kp,q3,(fns hG hb hc kb hd hu hmt hX hrs hxd n y y j a2 fdt2 st2 ps2 fd2 q2 q4 q5 q6 q7 q8).2,λds r hr=>(callX_len hX q6 hr).trans q7⟩
    refine⟨Fn.ok Sc (λvs H Q E h=>h.1) (λcdv A outer s H vs Q E hr h=>?_),Fn.okX Sc (λvs H Q E h=>h.1) (λcdv A outer s H vs Q E hr h=>?_)⟩
    · obtain⟨hvl,htb,F,ds,r,dom,rds,hcall,hq⟩:=h
      rw [callN_at ht] at hcall
      obtain⟨r0,hcall,hnx⟩:=bind1 (show (runX (callN tab n) fd ds).bind noX=some r from hcall)
      unfold noX at hnx
      split at hnx
      · cases hnx
      · rename_i hx
        cases hnx
        unfold runX at hcall
        split at hcall
        · rename_i hal
          obtain⟨o,e1,e2⟩:=bind1 hcall
          obtain⟨t,pt,qt⟩:=hcs n _ rfl rfl ⟨rfl,rfl⟩ rfl rfl (gX CX0 cdv A outer s H E hr).nox
          refine⟨t,pt,qt H F H F _ _ o _ e1 (start_sr htb dom rds (by rw [hp,hn,hvl])) (Gr.refl dom) ?_⟩
          cases o with
          | nx σ' =>
            cases e2
            exact fun τ' H' F' _ g' _=>hq .non H' F' g' rfl
          | rt r' =>
            cases e2
            exact⟨λv H' F' g' rr=>hq v H' F' g' rr,λc e=>by subst e;exact absurd rfl hx⟩
          | bk _=>cases e2
          | ct _=>cases e2
        · cases hcall
    · obtain⟨hvl,htb,F,ds,r,dom,rds,hcall,hq,hqx⟩:=h
      rw [callX_at ht hX] at hcall
      unfold runX at hcall
      split at hcall
      · rename_i hal
        obtain⟨o,e1,e2⟩:=bind1 hcall
        obtain⟨t,pt,qt⟩:=hcs n _ rfl rfl ⟨rfl,rfl⟩ rfl rfl (gX (CXr P w) cdv A outer s H E hr)
        refine⟨t,pt,qt H F H F _ _ o _ e1 (start_sr htb dom rds (by rw [hp,hn,hvl])) (Gr.refl dom) ?_⟩
        cases o with
        | nx σ' =>
          cases e2
          exact fun τ' H' F' _ g' _=>hq .non H' F' g' rfl
        | rt r' =>
          cases e2
          exact⟨λv H' F' g' rr=>hq v H' F' g' rr,λc e H' F' g'=>wish_of λC hC=>hqx c e H' F' g' C hC⟩
        | bk _=>cases e2
        | ct _=>cases e2
      · cases hcall
theorem law_sp {n i:Nat}(h:∀ns:List Int,ns.length≤63→(∀i∈ns,2 * i.natAbs<huge)→callN tab n i [.lst (ns.map .int)]=some (false,.bl true)) (H:Hp) (tb:TB H) (a:Addr) (ns:List Int) (hl:ns.length≤63) (hw:∀i∈ns,2 * i.natAbs<huge) (hS:SqL K H a (ns.map V.int)) (E:XK):spD K 1 (callN tab n i) [.ref a] H (λv H'=>v=.bl true∧TB H') E:=by
  rcases hS with hS|hS
  · refine⟨rfl,tb,λb=>b=a,[.lst (ns.map .int)],(false,.bl true),λb e z=>?_,⟨.ref a,[],rfl,.inl ⟨a,ns.map V.int,rfl,.inl ⟨rfl,hS⟩,RDs.of_ints ns⟩,rfl⟩,h ns hl hw,λv H' F' g rr=>⟨rr,tb.same g.same⟩⟩
    subst z
    rcases hS with q|⟨o,q⟩<;>(rw [e] at q;cases q)
  · exact⟨rfl,tb,λ_=>False,[.lst (ns.map .int)],(false,.bl true),λ_ _ z=>z,⟨.ref a,[],rfl,.inl ⟨a,ns.map V.int,rfl,.inr hS,RDs.of_ints ns⟩,rfl⟩,h ns hl hw,λv H' F' g rr=>⟨rr,tb.same g.same⟩⟩
end
noncomputable def tabH (b:Addr):Option HO:=(tbs.find? λt=>t.1 == b).map λt=>.tab t.2.1 t.2.2
theorem tabH_some {b:Addr}{u:HO}(h:tabH b=some u):∃t∈tbs,t.1=b∧u=.tab t.2.1 t.2.2:=by
  obtain⟨t,e1,e2⟩:=Option.map_eq_some_iff.mp h
  exact⟨t,List.mem_of_find?_eq_some e1,by simpa using List.find?_some e1,e2.symm⟩
theorem law_callT {P:Program}{w:World}{K:PySem.W.Frag}{mg mb:Str→Option Value}{k:Nat}{fa a:Addr}{fd:FuncData}{x:Str}{sp:Sp}{s₁:Shared}{vs:List Value}{ns:List Int}
    (KX:K.In s₁.heap) (hns:s₁.heap.Ns mainGlobals mg) (hb:s₁.heap.Ns builtinsNs mb) (hbb:∀x:Str,x≠"__name__"→mb x=bootBuiltins x) (hlim:s₁.heap.NoLimit) (hg:s₁.gens=#[])
    (ha:s₁.heap.get? a=some { cls:=.type "list",data:=.seq vs.toArray }) (hi:IntsAre vs ns) (hl:ns.length≤sizeLine) (hr:Room k callerA)
    (htb:TB tabH) (hto:∀t∈tbs,s₁.heap.get? t.1=some (PySem.W.tabObj #[])∧isCodeTable s₁.heap t.1∧K.lookup t.1=none)
    (F:∀base:Heap,K.In base→base.Ns mainGlobals mg→FnOk P w K mg base CX0 k fa fd [x] sp) (hbind:∀(s:Shared) (u:Value),BindsTo s fd ⟨[u],[]⟩ [(x,u)])
    (hsp:∀H:Hp,TB H→SqL K H a (ns.map V.int)→sp [.ref a] H (λv H'=>v=.bl true∧TB H') λ_ _ _=>False) :
    codeAny (model P w) callerA (.call (.ref fa) ⟨[.ref a],[]⟩) (λr s'=>r=.ok (.ret (.bool true))∧OldK s₁.heap s'.heap∧s'.os=s₁.os∧AllBare s'.gens) s₁:=by
  have rv:=vals_ints hi
  have nt:tabH a=none:=by
    cases q:tabH a with
    | none=>rfl
    | some u =>
      obtain⟨t,hm,rfl,_⟩:=tabH_some q
      rw [(hto t hm).1] at ha
      cases ha
  let o0:Obj:={ cls:=.type "list",data:=.seq vs.toArray }
  let H:Hp:=λb=>if b=a∧K.lookup a=none then some (.frz o0 (.lst (ns.map V.int))) else tabH b
  have cs:∀b u,H b=some u→(b=a∧K.lookup a=none∧u=.frz o0 (.lst (ns.map V.int)))∨∃t∈tbs,t.1=b∧u=.tab t.2.1 t.2.2:=λb u e=>by
    by_cases z:b=a∧K.lookup a=none
    · have e':=(if_pos z).symm.trans e
      cases e'
      exact .inl ⟨z.1,z.2,rfl⟩
    · exact .inr (tabH_some ((if_neg z).symm.trans e))
  have tb:TB H:=λt hm=>by
    have:¬(t.1=a∧K.lookup a=none):=λz=>by have:=htb t hm;rw [z.1,nt] at this;cases this
    exact (if_neg this).trans (htb t hm)
  have hok:HOk P w H s₁.heap:=λb u e=>by
    rcases cs b u e with ⟨rfl,_,rfl⟩|⟨t,hm,rfl,rfl⟩
    · exact⟨ha,by rw [List.length_map];exact hl,vs,_,rv,ha⟩
    · exact⟨#[],(hto t hm).1,trivial,.inl rfl⟩
  have nsK:∀{b:Addr} {m:Str→Option Value},s₁.heap.Ns b m→(hidT s₁.heap H).Ns b m:=λ{b m} ⟨o,es,ep,e,d,r⟩=>⟨o,es,ep,hidT_get e (by
    cases q:H b with
    | none=>rfl
    | some u =>
      rcases cs b u q with ⟨rfl,_,_⟩|⟨t,hm,rfl,_⟩
      · rw [ha] at e;cases e;cases d
      · rw [(hto t hm).1] at e;cases e;cases d),d,r⟩
  have hKb:K.In (hidT s₁.heap H):=λb o e=>hidT_get (KX b o e) (by
    cases q:H b with
    | none=>rfl
    | some u =>
      rcases cs b u q with ⟨rfl,z,_⟩|⟨t,hm,rfl,_⟩
      · rw [z] at e;cases e
      · rw [(hto t hm).2.2] at e;cases e)
  have hS:SqL K H a (ns.map V.int):=by
    cases hk:K.lookup a with
    | none=>exact .inl (.inr ⟨o0,if_pos ⟨rfl,hk⟩⟩)
    | some o =>
      have e:=KX a o hk
      rw [ha] at e
      cases e
      exact .inr ⟨_,vs.toArray,_,hk,rfl,rfl,rfl,by rw [List.size_toArray,hi.length];exact hl,by simpa using rv⟩
  have hM:Mod K mg (hidT s₁.heap H):=⟨hKb,nsK hns,⟨mb,nsK hb,hbb⟩,let ⟨mc,h1,h2⟩:=hlim;⟨mc,nsK h1,h2⟩⟩
  have e0:Env0 P w K mg (hidT s₁.heap H) callerA [] s₁ H:=⟨rfl,hM,λb o e=>of_hidT e,Nat.le_of_eq (hidT_size _ _),trivial,λb hb=>absurd (show b∈([]:List Addr) from hb) (by simp),hok,.of_eq hg⟩
  refine codeAny_mono ((F _ hKb (nsK hns)).run callerA [] s₁ H ⟨[.ref a],[]⟩ [.ref a] [.ref a] _ _ hr e0 (hbind s₁ (.ref a)) (.cons rfl .nil) (hsp H tb hS)) λr s' h=>?_
  cases r with
  | error e=>exact False.elim h
  | ok fl =>
    cases fl with
    | next=>exact False.elim h
    | brk=>exact False.elim h
    | cont=>exact False.elim h
    | ret u =>
      obtain⟨v,H',os,bare,un,hok',r',rfl,tb'⟩:=h
      obtain rfl:u=Value.bool true:=r'
      have old:∀b o,s₁.heap.get? b=some o→asItWas s₁.heap s'.heap b o∧∃o',s'.heap.get? b=some o':=λb o e=>by
        cases q:H b with
        | none =>
          have:=un.keep b o e q (by intro z;exact absurd (show b∈([]:List Addr) from z) (by simp)) (by simp)
          exact⟨.inl this,_,this⟩
        | some u =>
          rcases cs b u q with ⟨rfl,_,rfl⟩|⟨t,hm,rfl,rfl⟩
          · have z2:=un.frzs b _ _ q
            obtain⟨e1,_⟩:=hok b _ q
            obtain⟨e2,_⟩:=hok' b _ z2
            rw [e] at e1
            cases e1
            exact⟨.inl e2,_,e2⟩
          · obtain⟨e1,e2,_⟩:=hto t hm
            rw [e] at e1
            cases e1
            obtain⟨ps,e3,_⟩:=hok' t.1 _ (tb' t hm)
            exact⟨.inr (.inl ⟨e2,rfl,#[],ps,rfl,by rw [e3];simp⟩),_,e3⟩
      exact⟨rfl,⟨λb o e=>(old b o e).1,λb o e=>(old b o e).2⟩,os,bare⟩
theorem wt_mem:∀(ns:List Int) (i:Int),i∈ns→PySem.W.WData.weight (.int i)+1≤PySem.W.WData.weightAll (ns.map PySem.W.WData.int)
  | [],i,h=>nomatch h
  | n::ns,i,h=>by
    rw [List.map_cons,PySem.W.WData.weightAll]
    rcases List.mem_cons.mp h with rfl|h
    · omega
    · have:=wt_mem ns i h
      omega
theorem lay_wide {ns:List Int}(h:PySem.W.WData.layableAll [.list (ns.map PySem.W.WData.int)]=true) (i:Int) (hi:i∈ns):2 * i.natAbs<huge:=by
  unfold PySem.W.WData.layableAll at h
  rw [List.all_cons,Bool.and_eq_true] at h
  have h1:=h.1
  unfold PySem.W.WData.layable at h1
  rw [Bool.and_eq_true] at h1
  have h2:PySem.W.WData.weight (.list (ns.map PySem.W.WData.int))≤2^20:=of_decide_eq_true h1.2
  rw [PySem.W.WData.weight] at h2
  have h3:=wt_mem ns i hi
  rw [PySem.W.WData.weight] at h3
  by_cases hz:i=0
  · subst hz
    exact Nat.pow_pos (by decide)
  · rw [if_neg (by simpa using hz)] at h3
    have h4:i.natAbs<2^(i.natAbs.log2+1):=Nat.lt_log2_self
    have h5:2 * i.natAbs<2^(i.natAbs.log2+2):=by rw [Nat.pow_succ];omega
    exact Nat.lt_of_lt_of_le h5 (Nat.pow_le_pow_right (by decide) (by omega))
theorem dw_walk {l:PySem.W.OpenLaw}{q:Program}{loose:List Str}{XP:(Str→Option Value)→Heap→Prop}{YP:World→Heap→Prop}{d:DefRec}{K:Params→PySem.W.Frag}{tab:List Fd}{n i:Nat}(hlaw:∀ns:List Int,ns.length≤63→(∀i∈ns,2 * i.natAbs<huge)→callN tab n i [.lst (ns.map .int)]=some (false,.bl true))
    (hn:l.most=some 63) (hdf:d.params.defaults=[]) (hr:Room (n+2) callerA) (hY:∀(w:World) (h:Heap),YP w h→(K w.params).In h) (htb:TB tabH) (hT:∀(w:World) (h:Heap),YP w h→∀t∈tbs,h.get? t.1=some (PySem.W.tabObj #[])) (hC:∀(w:World),∀t∈tbs,(∃c,PySem.W.codeHdIn (K w.params) c t.1=true)∧(K w.params).lookup t.1=none)
    (F:∀(w:World) (mg:Str→Option Value) (fa:Addr) (h:Heap),(K w.params).In h→h.Ns mainGlobals mg→mg d.name=some (.ref fa) →
      ∃fd:FuncData,(∀(s:Shared) (u:Value),BindsTo s fd ⟨[u],[]⟩ [("script",u)])∧∀base:Heap,(K w.params).In base→base.Ns mainGlobals mg→FnOk l.prog w (K w.params) mg base CX0 (n+2) fa fd ["script"] (spD (K w.params) 1 (callN tab n i))) :
    PySem.W.WalkO q loose XP YP l.row.toRowW d [] (λf vs=>PySem.call f vs):=by
  intro w t₀ t₁ mg mb g y fa o pm cd doc v₁ v₂ ho hd hc e1 e2 e3 args vals as e4 lay e5 e6 e7
  obtain rfl:v₁=.none:=PySem.W.Dflts.none e1 hdf
  obtain rfl:v₂=.none:=PySem.W.Dflts.noKw e1
  obtain⟨a,vs,ns,rfl,rfl,s1,s2,s3⟩:=Att.script_of hn e4 e6
  have kx:=hY w _ y
  obtain⟨fd,hb,hF⟩:=F w mg fa _ kx g.T.g e2
  refine PySem.W.enter_call (codeAny_mono (law_callT kx g.T.g g.T.b g.T.builtins g.T.nolimit e3 s1 s2 (Nat.le_trans s3 (by decide)) hr htb (λt hm=>⟨hT w _ y t hm,?_,(hC w t hm).2⟩) hF hb λH tb hS=>law_sp hlaw H tb a ns s3 (lay_wide lay) hS _) λr s' z=>?_)
  · obtain⟨c,hc⟩:=(hC w t hm).1
    obtain⟨o,vs,_,_,_,_,_,_,_,q1,q2,q3,q4,_⟩:=PySem.W.codeHd_of_K kx hc
    exact⟨c,o,vs,q1,q2,q3,q4⟩
  obtain⟨rfl,z2,z3,z4⟩:=z
  exact⟨.inl ⟨.bool true,.bool true,[],rfl,λ_=>rfl,.bool true,Att.post_true l _,λ_=>⟨List.Pairwise.nil,λ_ hm=>(nomatch hm)⟩⟩,z2,z3,z4⟩
end Dw
namespace Dw
open PySem PySem.Spec PySem.W PyProof.Rows L2
theorem one_tb {c0 c:Str}{d0 d:D}(h:List.lookup c [(c0,d0)]=some d):c=c0∧d=d0:=by
  rw [List.lookup_cons] at h
  cases e:c == c0 with
  | true=>rw [e] at h;cases h;exact⟨beq_iff_eq.mp e,rfl⟩
  | false=>rw [e] at h;cases h
section
variable {call:Nat→List D→Option R}{G:Gx}{k:Nat}{X:Cx}{sc:Scope}{N:List Str}{K:Frag}{mg:Str→Option Value}
structure TryAt (K:Frag) (mg:Str→Option Value) (G:Gx) (sc:Scope) (N:List Str) (f c n tn c0:Str) (fi i t:Nat) (Cc C0:Addr):Prop where
  xdf:G.xdf.lookup f=some fi
  gf:glB sc f=true
  pf:plainName f=true
  gc:glB sc c=true
  pc:plainName c=true
  mc:mg c=some (.ref Cc)
  m0:mg c0=some (.ref C0)
  ex:exmOne K (.ref C0) (.ref Cc)=some true
  xc:XCls K C0
  ni:N[i]?=some n
  nt:N[t]?=some tn
  ln:sc.names.lookup n=some .local
  lt:sc.names.lookup tn=some .local
  pn:plainName n=true
  ne:i≠t
  gi:glB sc "isinstance"=true
theorem snd_tryS {m:Nat}(hG:∀x∈bltNames,G.defs.lookup x=none) (g:XG call G k X sc N) (hK:X.K=K) (hmg:X.mg=mg) (hsc:X.env.scope=sc) (hst:X.stack=X.env::X.outer∧X.env.frame=some X.env.locals) (hx0:X.ex=[]) {f c n tn c0:Str}{fi i t:Nat}{Cc C0:Addr}(T:TryAt K mg G sc N f c n tn c0 fi i t Cc C0)
    {e:Expr} {es:List Expr} {cs:List C} {b:Bool} {b₀:Stmt} {suite:List Stmt} {p pos epos np hpos tpos:Pos} (hcs:cEs G m sc N (e::es)=some cs) (su:SuOk X (b₀::suite) i t [(c0,.bl b)]) :
    Snd1 call X (.Try [.Expr (.Call (.Name f p) (e::es) [] pos) epos] [.ExceptHandler (some (.Name c np)) (some n) (b₀::suite) hpos] [] [] tpos) [.tryB i t fi cs [(c0,.bl b)]]:=by
  subst hK hmg
  exact snd_try (all_ok hG m) g g.nox T.xdf T.gf T.pf hcs T.gc T.pc T.mc (λc' d C h1 h2=>by
      obtain⟨rfl,rfl⟩:=one_tb h1
      rw [T.m0] at h2
      cases h2
      exact T.ex) (λc' d h1=>by obtain⟨rfl,rfl⟩:=one_tb h1;rfl) T.ni (by rw [hsc];exact T.ln) T.ne su hst hx0
theorem snd_tryN {m:Nat}(hG:∀x∈bltNames,G.defs.lookup x=none) (g:XG call G k X sc N) (hK:X.K=K) (hmg:X.mg=mg) (hsc:X.env.scope=sc) (hst:X.stack=X.env::X.outer∧X.env.frame=some X.env.locals) (hx0:X.ex=[]) {f c n tn c0:Str}{fi i t:Nat}{Cc C0:Addr}(T:TryAt K mg G sc N f c n tn c0 fi i t Cc C0)
    {e:Expr} {es:List Expr} {cs:List C} {b:Bool} {ct:List (Str×Pos×Addr)} {kk:Nat} {p pos epos np hpos tpos pt pi pn pp pc pu spos:Pos} (hcs:cEs G m sc N (e::es)=some cs) (hct:∀x∈ct,glB sc x.1=true∧plainName x.1=true∧mg x.1=some (.ref x.2.2)) (hl:ct.length≤1000) (hb:kitAny K (.ref C0) (ct.map λx=>.ref x.2.2)=some b) :
    Snd1 call X (.Try [.Expr (.Call (.Name f p) (e::es) [] pos) epos] [.ExceptHandler (some (.Name c np)) (some n) [.Assign [.Name tn pt] (.UnaryOp .Not (.Call (.Name "isinstance" pi) [.Name n pn,.Tuple (ct.map λx=>.Name x.1 x.2.1) kk pp] [] pc) pu) spos] hpos] [] [] tpos) [.tryB i t fi cs [(c0,.bl (!b))]]:=by
  refine snd_tryS hG g hK hmg hsc hst hx0 T hcs ?_
  have e1:(ct.map λx=>Expr.Name x.1 x.2.1)=(ct.map λx=>(x.1,x.2.1)).map λx=>.Name x.1 x.2:=by rw [List.map_map];rfl
  rw [e1]
  have isi:Str.ofString "isinstance"∈bltNames:=by decide
  subst hK hmg
  refine su_not (cs:=ct.map (·.2.2)) (by rw [g.hN];exact g.nd) (by rw [g.hN];exact T.ni) (.inl (by rw [hsc];exact T.ln)) T.pn (by rw [g.hN];exact T.nt) (by rw [hsc];exact T.lt) (g.gl _ T.gi) (g.blt _ (hG _ isi) isi) (λj x hx=>?_) (by rw [List.length_map,List.length_map]) (by rw [List.length_map];exact hl) λc' d C h1 h2=>?_
  · rw [List.getElem?_map] at hx
    cases hj:ct[j]? with
    | none=>rw [hj] at hx;cases hx
    | some y =>
      rw [hj] at hx
      cases hx
      obtain⟨q1,q2,q3⟩:=hct y (List.mem_of_getElem? hj)
      exact⟨g.gl _ q1,(plain_of q2).2,y.2.2,by rw [List.getElem?_map,hj];rfl,q3⟩
  · obtain⟨rfl,rfl⟩:=one_tb h1
    rw [T.m0] at h2
    cases h2
    exact⟨T.xc,b,by rw [List.map_map];exact hb,rfl⟩
theorem snd_tryA {m:Nat}(hG:∀x∈bltNames,G.defs.lookup x=none) (g:XG call G k X sc N) (hK:X.K=K) (hmg:X.mg=mg) (hsc:X.env.scope=sc) (hst:X.stack=X.env::X.outer∧X.env.frame=some X.env.locals) (hx0:X.ex=[]) {f c n tn c0:Str}{fi i t:Nat}{Cc C0:Addr}(T:TryAt K mg G sc N f c n tn c0 fi i t Cc C0)
    {e:Expr} {es:List Expr} {cs:List C} {b1 b2:Bool} {a b:Str} {Ca:Addr} {Tb:String} {p pos epos np hpos tpos pt pi pn pa pc pi' pn' pb pc' pu spos:Pos} (hcs:cEs G m sc N (e::es)=some cs) (ga:glB sc a=true) (pla:plainName a=true) (ma:mg a=some (.ref Ca)) (gb:glB sc b=true) (plb:plainName b=true) (mb:mg b=none) (bb:bootBuiltins b=some (.type Tb))
    (h1:kitOne K (.ref C0) (.ref Ca)=some b1) (h2:kitOne K (.ref C0) (.type Tb)=some b2) :
    Snd1 call X (.Try [.Expr (.Call (.Name f p) (e::es) [] pos) epos] [.ExceptHandler (some (.Name c np)) (some n) [.Assign [.Name tn pt] (.BoolOp .And [.Call (.Name "isinstance" pi) [.Name n pn,.Name a pa] [] pc,.Call (.Name "isinstance" pi') [.Name n pn',.Name b pb] [] pc'] pu) spos] hpos] [] [] tpos) [.tryB i t fi cs [(c0,.bl (b1&&b2))]]:=by
  refine snd_tryS hG g hK hmg hsc hst hx0 T hcs ?_
  have isi:Str.ofString "isinstance"∈bltNames:=by decide
  have hnb:b≠Str.ofString "__name__":=by
    unfold plainName at plb
    simp only [Bool.and_eq_true,bne_iff_ne,ne_eq] at plb
    exact plb.2
  subst hK hmg
  refine su_and (ca:=.ref Ca) (cb:=.type Tb) (by rw [g.hN];exact g.nd) (by rw [g.hN];exact T.ni) (.inl (by rw [hsc];exact T.ln)) T.pn (by rw [g.hN];exact T.nt) (by rw [hsc];exact T.lt) (g.gl _ T.gi) (g.blt _ (hG _ isi) isi) (λx=>?_) (λx=>?_) (.inl ⟨_,rfl⟩) (.inr ⟨_,rfl⟩) λc' d C z1 z2=>?_
  · exact pe_glob (X:=X.hold x) (v:=.ref Ca) (g.gl _ ga) ma rfl (plain_of pla).2
  · exact pe_bltn (X:=X.hold x) (v:=.ty Tb) (g.gl _ gb) mb bb rfl hnb (plain_of plb).2
  · obtain⟨rfl,rfl⟩:=one_tb z1
    rw [T.m0] at z2
    cases z2
    exact⟨T.xc,b1,b2,h1,h2,rfl⟩
end
end Dw
set_option exponentiation.threshold 6000
namespace Dw.T
open Dw
noncomputable def f_is_leaf:Fd:=⟨1,1,[.ret (.cmp .eq (.ix (.v 0) (.k (.int 0))) (.k (.str (PySem.Str.ofString "leaf"))))]⟩
noncomputable def f_page_parts:Fd:=⟨1,1,[.ret (.ix (.v 0) (.k (.int 2)))]⟩
noncomputable def f_things_in:Fd:=⟨1,3,[.ite (.call 0 [(.v 0)]) [.ret (.call 1 [(.v 0)])] [],
  .set 1 true (.lst []),
  .forS (.one 2) (.call 1 [(.v 0)]) [.ext 1 (.call 2 [(.v 2)])],
  .ret (.bi .tuple [(.v 1)])]⟩
noncomputable def f_page_at:Fd:=⟨2,4,[.set 2 false (.v 0),
  .forS (.one 3) (.v 1) [.ite (.or (.call 0 [(.v 2)]) (.or (.cmp .lt (.v 3) (.k (.int 0))) (.cmp .ge (.v 3) (.bi .len [(.call 1 [(.v 2)])])))) [.rse (PySem.Str.ofString "NoPath")] [],.set 2 false (.ix (.call 1 [(.v 2)]) (.v 3))],
  .ret (.v 2)]⟩
noncomputable def f_paths_from:Fd:=⟨2,5,[.set 2 true (.lst [(.v 1)]),
  .ite (.not (.call 0 [(.v 0)])) [.forE (.two 3 4) (.call 1 [(.v 0)]) [.ext 2 (.call 4 [(.v 4),(.bin .add (.v 1) (.tup [(.v 3)]))])]] [],
  .ret (.v 2)]⟩
noncomputable def f_paths_in:Fd:=⟨1,1,[.ret (.bi .tuple [(.call 4 [(.v 0),(.tup [])])])]⟩
noncomputable def f_page_height:Fd:=⟨1,2,[.set 1 false (.k (.int 0)),
  .whl (.not (.call 0 [(.v 0)])) [.set 0 false (.ix (.call 1 [(.v 0)]) (.k (.int 0))),.aug 1 (.k (.int 1))],
  .ret (.v 1)]⟩
noncomputable def f_law_cell:Fd:=⟨2,2,[.ite (.cmp .lt (.v 1) (.bi .len [(.v 0)])) [.ret (.ix (.v 0) (.v 1))] [],
  .ret (.k (.int 0))]⟩
noncomputable def f_law_even:Fd:=⟨2,3,[.set 2 false (.bin .mod (.v 0) (.bin .add (.bin .mul (.k (.int 2)) (.v 1)) (.k (.int 1)))),
  .ite (.cmp .gt (.v 2) (.v 1)) [.ret (.bin .sub (.v 2) (.bin .add (.bin .mul (.k (.int 2)) (.v 1)) (.k (.int 1))))] [],
  .ret (.v 2)]⟩
noncomputable def f_law_whole:Fd:=⟨1,1,[.ret (.and (.isi (.v 0) .int) (.not (.isi (.v 0) .bool)))]⟩
noncomputable def f_law_thing:Fd:=⟨4,14,[.set 4 false (.bin .sub (.bi .len [(.v 0)]) (.k (.int 2))),
  .set 5 false (.ix (.v 0) (.v 4)),
  .set 6 false (.ix (.v 0) (.bin .add (.v 4) (.k (.int 1)))),
  .set 7 true (.lst []),
  .forR (.one 8) [(.v 4)] [.set 9 false (.call 8 [(.bin .fdiv (.ix (.v 0) (.v 8)) (.k (.int 4))),(.bin .pow (.k (.int 10)) (.k (.int 30)))]),.set 10 false (.v 9),.ite (.cmp .eq (.bin .mod (.ix (.v 0) (.v 8)) (.k (.int 4))) (.k (.int 1))) [.set 10 false (.bi .min [(.bin .pow (.k (.int 10)) (.k (.int 30))),(.bin .add (.v 9) (.k (.int 1)))])] [],.ite (.cmp .eq (.bin .mod (.ix (.v 0) (.v 8)) (.k (.int 4))) (.k (.int 2))) [.set 10 false (.bi .max [(.v 9),(.ix (.ix (.v 1) (.v 8)) (.k (.int 1)))]),.set 9 false (.bi .min [(.v 9),(.ix (.ix (.v 1) (.v 8)) (.k (.int 1)))])] [],.ite (.cmp .eq (.bin .mod (.ix (.v 0) (.v 8)) (.k (.int 4))) (.k (.int 3))) [.set 10 false (.bi .max [(.v 9),(.ix (.ix (.v 1) (.v 8)) (.k (.int 1)))]),.set 9 false (.ix (.ix (.v 1) (.v 8)) (.k (.int 1)))] [],.set 11 false (.call 8 [(.bin .fdiv (.v 5) (.bin .add (.k (.int 1)) (.bin .mul (.k (.int 6)) (.v 8)))),(.bin .pow (.k (.int 10)) (.k (.int 15)))]),.app 7 (.tup [(.v 9),(.v 10),(.v 11),(.v 11)])],
  .set 12 false (.bin .mod (.v 6) (.bin .add (.bin .pow (.k (.int 10)) (.k (.int 18))) (.k (.int 1)))),
  .whl (.inV false (.v 12) 2) [.set 12 false (.bin .mod (.bin .add (.v 12) (.k (.int 1))) (.bin .add (.bin .pow (.k (.int 10)) (.k (.int 18))) (.k (.int 1))))],
  .set 13 false (.bin .bor (.bin .mod (.bin .mod (.bin .mul (.bin .mod (.v 6) (.k (.int 2147483647))) (.k (.int 48271))) (.k (.int 2147483647))) (.k (.int 65536))) (.v 3)),
  .ret (.tup [(.v 12),(.bi .tuple [(.v 7)]),(.v 13),(.call 8 [(.bin .fdiv (.v 6) (.k (.int 3))),(.bin .pow (.k (.int 10)) (.k (.int 30)))])])]⟩
noncomputable def f_law_things:Fd:=⟨3,9,[.set 3 true (.lst []),
  .dnew 4,
  .set 5 false (.compR (.tup [(.k (.int 0)),(.k (.int 0))]) 1 [] (.one 0) [(.v 1)]),
  .set 6 false (.bin .add (.v 1) (.k (.int 2))),
  .forR (.one 7) [(.bin .fdiv (.bin .sub (.bin .add (.bi .len [(.v 0)]) (.v 6)) (.k (.int 1))) (.v 6))] [.set 8 false (.sl (.v 0) (some (.bin .mul (.v 6) (.v 7))) (some (.bin .add (.bin .mul (.v 6) (.v 7)) (.v 6)))),.set 8 false (.bin .add (.v 8) (.bin .mul (.lst [(.k (.int 0))]) (.bin .sub (.v 6) (.bi .len [(.v 8)])))),.frz [4],.app 3 (.call 10 [(.v 8),(.v 5),(.v 4),(.v 2)]),.set 5 false (.ix (.ix (.v 3) (.v 7)) (.k (.int 1))),.setIx 4 (.ix (.ix (.v 3) (.v 7)) (.k (.int 0))) (.k (.bl true))],
  .ret (.v 3)]⟩
noncomputable def f_law_own:Fd:=⟨1,1,[.ret (.tup [(.ix (.v 0) (.k (.int 1))),(.ix (.v 0) (.k (.int 1))),(.ix (.v 0) (.k (.int 2))),(.ix (.v 0) (.k (.int 2))),(.k (.int 1)),(.ix (.v 0) (.k (.int 3))),(.ix (.v 0) (.k (.int 3))),(.ix (.v 0) (.k (.int 3)))])]⟩
noncomputable def f_law_frames:Fd:=⟨2,11,[.set 2 true (.lst []),
  .set 3 true (.lst []),
  .forR (.one 4) [(.v 1)] [.set 5 false (.compS (.ix (.ix (.v 0) (.k (.int 0))) (.v 1)) 1 [4] (.one 0) (.v 0)),.set 6 false (.compS (.ix (.ix (.v 0) (.k (.int 1))) (.v 1)) 1 [4] (.one 0) (.v 0)),.set 7 false (.lst [(.bi .min [(.compS (.ix (.v 0) (.k (.int 0))) 1 [] (.one 0) (.v 5))]),(.bi .max [(.compS (.ix (.v 0) (.k (.int 0))) 1 [] (.one 0) (.v 6))])]),.set 8 false (.lst [(.bi .max [(.compS (.ix (.v 0) (.k (.int 1))) 1 [] (.one 0) (.v 5))]),(.bi .min [(.compS (.ix (.v 0) (.k (.int 1))) 1 [] (.one 0) (.v 6))])]),.set 9 false (.lst [(.bi .min [(.compS (.ix (.v 0) (.k (.int 2))) 1 [] (.one 0) (.v 5))]),(.bi .max [(.compS (.ix (.v 0) (.k (.int 2))) 1 [] (.one 0) (.v 6))])]),.set 10 false (.lst [(.bi .max [(.compS (.ix (.v 0) (.k (.int 3))) 1 [] (.one 0) (.v 5))]),(.bi .min [(.compS (.ix (.v 0) (.k (.int 3))) 1 [] (.one 0) (.v 6))])]),.app 2 (.tup [(.ix (.v 7) (.k (.int 0))),(.ix (.v 8) (.k (.int 0))),(.ix (.v 9) (.k (.int 0))),(.ix (.v 10) (.k (.int 0)))]),.app 3 (.tup [(.ix (.v 7) (.k (.int 1))),(.ix (.v 8) (.k (.int 1))),(.ix (.v 9) (.k (.int 1))),(.ix (.v 10) (.k (.int 1)))])],
  .ret (.tup [(.bi .tuple [(.v 2)]),(.bi .tuple [(.v 3)])])]⟩
noncomputable def f_law_poured:Fd:=⟨1,9,[.set 2 false (.compF (.v 0) (.isC true (.v 0) .non) 1 [] (.one 0) (.v 0)),
  .ite (.cmp .eq (.bi .len [(.v 2)]) (.k (.int 0))) [.ret (.k .non)] [],
  .set 3 false (.k (.int 0)),
  .set 4 false (.k (.int 65535)),
  .forS (.one 1) (.v 2) [.set 3 false (.bin .bor (.v 3) (.ix (.v 1) (.k (.int 2)))),.set 4 false (.bin .band (.v 4) (.ix (.v 1) (.k (.int 3))))],
  .set 5 false (.bi .sum [(.compS (.ix (.v 0) (.k (.int 4))) 1 [] (.one 0) (.v 2))]),
  .set 6 false (.bi .min [(.compS (.ix (.v 0) (.k (.int 5))) 1 [] (.one 0) (.v 2))]),
  .set 7 false (.bi .max [(.compS (.ix (.v 0) (.k (.int 6))) 1 [] (.one 0) (.v 2))]),
  .set 8 false (.bi .sum [(.compS (.ix (.v 0) (.k (.int 7))) 1 [] (.one 0) (.v 2))]),
  .ret (.bin .add (.call 13 [(.v 2),(.bi .len [(.ix (.ix (.v 2) (.k (.int 0))) (.k (.int 0)))])]) (.tup [(.v 3),(.v 4),(.v 5),(.v 6),(.v 7),(.v 8)]))]⟩
noncomputable def f_law_leaves:Fd:=⟨2,7,[.set 2 true (.lst []),
  .set 3 false (.k (.int 0)),
  .set 4 false (.k (.int 0)),
  .whl (.or (.cmp .lt (.v 3) (.bi .len [(.v 1)])) (.cmp .eq (.v 4) (.k (.int 0)))) [.set 5 false (.bin .add (.k (.int 1)) (.bin .mod (.call 7 [(.v 0),(.v 4)]) (.k (.int 5)))),.set 6 false (.bi .tuple [(.sl (.v 1) (some (.v 3)) (some (.bin .add (.v 3) (.v 5))))]),.app 2 (.tup [(.k (.str (PySem.Str.ofString "leaf"))),(.call 14 [(.compS (.call 12 [(.v 0)]) 1 [] (.one 0) (.v 6))]),(.v 6)]),.set 3 false (.bin .add (.v 3) (.v 5)),.set 4 false (.bin .add (.v 4) (.k (.int 1)))],
  .ret (.v 2)]⟩
noncomputable def f_law_fork:Fd:=⟨1,1,[.ret (.tup [(.k (.str (PySem.Str.ofString "fork"))),(.call 14 [(.compS (.ix (.v 0) (.k (.int 1))) 1 [] (.one 0) (.v 0))]),(.bi .tuple [(.v 0)])])]⟩
noncomputable def f_law_tree:Fd:=⟨2,7,[.set 2 false (.call 15 [(.v 0),(.v 1)]),
  .forR (.one 3) [(.k (.int 4))] [.set 4 true (.lst []),.set 5 false (.k (.int 0)),.whl (.cmp .lt (.v 5) (.bi .len [(.v 2)])) [.set 6 false (.bin .add (.k (.int 1)) (.bin .mod (.bin .fdiv (.call 7 [(.v 0),(.bin .add (.v 3) (.v 5))]) (.k (.int 5))) (.k (.int 4)))),.ite (.cmp .eq (.bi .len [(.sl (.v 2) (some (.v 5)) (some (.bin .add (.v 5) (.v 6))))]) (.k (.int 1))) [.app 4 (.ix (.v 2) (.v 5))] [.app 4 (.call 16 [(.sl (.v 2) (some (.v 5)) (some (.bin .add (.v 5) (.v 6))))])],.set 5 false (.bin .add (.v 5) (.v 6))],.frz [4],.set 2 false (.v 4)],
  .ite (.cmp .eq (.bi .len [(.v 2)]) (.k (.int 1))) [.ret (.ix (.v 2) (.k (.int 0)))] [],
  .ret (.call 16 [(.v 2)])]⟩
noncomputable def f_law_walk:Fd:=⟨1,6,[.set 1 true (.lst []),
  .set 2 true (.lst [(.tup [(.tup []),(.v 0)])]),
  .whl (.cmp .gt (.bi .len [(.v 2)]) (.k (.int 0))) [.set 3 false (.ix (.ix (.v 2) (.neg (.k (.int 1)))) (.k (.int 0))),.set 4 false (.ix (.ix (.v 2) (.neg (.k (.int 1)))) (.k (.int 1))),.popE 2,.app 1 (.tup [(.v 3),(.v 4)]),.ite (.cmp .eq (.ix (.v 4) (.k (.int 0))) (.k (.str (PySem.Str.ofString "fork")))) [.forV (.one 5) [(.bi .len [(.ix (.v 4) (.k (.int 2)))])] [.app 2 (.tup [(.bin .add (.v 3) (.tup [(.v 5)])),(.ix (.ix (.v 4) (.k (.int 2))) (.v 5))])]] []],
  .ret (.v 1)]⟩
noncomputable def f_law_high:Fd:=⟨1,2,[.set 1 false (.k (.int 0)),
  .whl (.cmp .eq (.ix (.v 0) (.k (.int 0))) (.k (.str (PySem.Str.ofString "fork")))) [.set 0 false (.ix (.ix (.v 0) (.k (.int 2))) (.k (.int 0))),.set 1 false (.bin .add (.v 1) (.k (.int 1)))],
  .ret (.v 1)]⟩
noncomputable def f_law_by_its_name:Fd:=⟨2,4,[.set 2 false (.k (.bl false)),
  .tryB 3 2 3 [(.v 0),(.v 1)] [(PySem.Str.ofString "NoPath",.bl true)],
  .ret (.v 2)]⟩
noncomputable def f_law_refused:Fd:=⟨3,5,[.set 3 false (.k (.bl false)),
  .ite (.v 2) [.tryB 4 3 3 [(.v 0),(.v 1)] [(PySem.Str.ofString "NoPath",.bl true)],.ret (.v 3)] [],
  .ret (.call 20 [(.v 0),(.v 1)])]⟩
noncomputable def f_law_beneath:Fd:=⟨1,3,[.set 1 false (.lst []),
  .forS (.one 2) (.call 18 [(.v 0)]) [.ite (.cmp .eq (.ix (.ix (.v 2) (.k (.int 1))) (.k (.int 0))) (.k (.str (PySem.Str.ofString "leaf")))) [.set 1 false (.bin .add (.v 1) (.bi .list [(.ix (.ix (.v 2) (.k (.int 1))) (.k (.int 2)))]))] []],
  .ret (.bi .tuple [(.v 1)])]⟩
noncomputable def f_law_path:Fd:=⟨2,3,[.ite (.or (.not (.isi (.v 0) .tuple)) (.cmp .ne (.bi .len [(.v 0)]) (.bi .len [(.v 1)]))) [.ret (.k (.bl false))] [],
  .forS (.one 2) (.v 0) [.ite (.not (.call 9 [(.v 2)])) [.ret (.k (.bl false))] []],
  .ret (.cmp .eq (.v 0) (.v 1))]⟩
noncomputable def f_law_seen:Fd:=⟨4,7,[.ite (.or (.cmp .ne (.call 3 [(.v 0),(.v 1)]) (.v 2)) (.cmp .ne (.call 2 [(.v 2)]) (.call 22 [(.v 2)]))) [.ret (.k (.bl false))] [],
  .set 4 false (.call 6 [(.v 2)]),
  .ite (.or (.not (.call 9 [(.v 4)])) (.cmp .ne (.v 4) (.call 19 [(.v 2)]))) [.ret (.k (.bl false))] [],
  .set 5 false (.lst [(.bi .len [(.ix (.v 2) (.k (.int 2)))]),(.neg (.k (.int 1))),(.neg (.bi .len [(.ix (.v 2) (.k (.int 2)))]))]),
  .ite (.cmp .eq (.ix (.v 2) (.k (.int 0))) (.k (.str (PySem.Str.ofString "leaf")))) [.set 5 false (.lst [(.k (.int 0)),(.k (.int 1)),(.neg (.k (.int 1)))])] [],
  .forS (.one 6) (.v 5) [.ite (.or (.not (.call 21 [(.v 0),(.bin .add (.v 1) (.tup [(.v 6)])),(.v 3)])) (.not (.call 21 [(.v 0),(.bin .add (.v 1) (.tup [(.v 6),(.k (.int 0))])),(.not (.v 3))]))) [.ret (.k (.bl false))] []],
  .ret (.k (.bl true))]⟩
noncomputable def f_law:Fd:=⟨1,7,[.set 1 false (.bin .add (.k (.int 2)) (.bin .mod (.call 7 [(.v 0),(.k (.int 0))]) (.k (.int 2)))),
  .set 2 false (.call 11 [(.sl (.v 0) (some (.k (.int 2))) (some (.k (.int 402)))),(.v 1),(.bin .mod (.call 7 [(.v 0),(.k (.int 1))]) (.k (.int 65536)))]),
  .set 3 false (.call 17 [(.v 0),(.v 2)]),
  .ite (.cmp .eq (.bin .mod (.bin .fdiv (.call 7 [(.v 0),(.k (.int 0))]) (.k (.int 2))) (.k (.int 5))) (.k (.int 1))) [.set 3 false (.call 16 [(.lst [(.v 3)])])] [],
  .set 4 false (.call 18 [(.v 3)]),
  .set 5 false (.call 5 [(.v 3)]),
  .ite (.or (.not (.isi (.v 5) .tuple)) (.cmp .ne (.bi .len [(.v 5)]) (.bi .len [(.v 4)]))) [.ret (.k (.bl false))] [],
  .forR (.one 6) [(.bi .len [(.v 4)])] [.ite (.not (.call 23 [(.ix (.v 5) (.v 6)),(.ix (.ix (.v 4) (.v 6)) (.k (.int 0)))])) [.ret (.k (.bl false))] [],.ite (.not (.call 24 [(.v 3),(.ix (.ix (.v 4) (.v 6)) (.k (.int 0))),(.ix (.ix (.v 4) (.v 6)) (.k (.int 1))),(.cmp .eq (.bin .mod (.v 6) (.k (.int 2))) (.k (.int 0)))])) [.ret (.k (.bl false))] []],
  .ret (.k (.bl true))]⟩
noncomputable def tab:List Fd:=[f_is_leaf,f_page_parts,f_things_in,f_page_at,f_paths_from,f_paths_in,f_page_height,f_law_cell,f_law_even,f_law_whole,f_law_thing,f_law_things,f_law_own,f_law_frames,f_law_poured,f_law_leaves,f_law_fork,f_law_tree,f_law_walk,f_law_high,f_law_by_its_name,f_law_refused,f_law_beneath,f_law_path,f_law_seen,f_law]
theorem t0:tab[0]?=some f_is_leaf:=rfl
theorem t1:tab[1]?=some f_page_parts:=rfl
theorem t2:tab[2]?=some f_things_in:=rfl
theorem t3:tab[3]?=some f_page_at:=rfl
theorem t4:tab[4]?=some f_paths_from:=rfl
theorem t5:tab[5]?=some f_paths_in:=rfl
theorem t6:tab[6]?=some f_page_height:=rfl
theorem t7:tab[7]?=some f_law_cell:=rfl
theorem t8:tab[8]?=some f_law_even:=rfl
theorem t9:tab[9]?=some f_law_whole:=rfl
theorem t10:tab[10]?=some f_law_thing:=rfl
theorem t11:tab[11]?=some f_law_things:=rfl
theorem t12:tab[12]?=some f_law_own:=rfl
theorem t13:tab[13]?=some f_law_frames:=rfl
theorem t14:tab[14]?=some f_law_poured:=rfl
theorem t15:tab[15]?=some f_law_leaves:=rfl
theorem t16:tab[16]?=some f_law_fork:=rfl
theorem t17:tab[17]?=some f_law_tree:=rfl
theorem t18:tab[18]?=some f_law_walk:=rfl
theorem t19:tab[19]?=some f_law_high:=rfl
theorem t20:tab[20]?=some f_law_by_its_name:=rfl
theorem t21:tab[21]?=some f_law_refused:=rfl
theorem t22:tab[22]?=some f_law_beneath:=rfl
theorem t23:tab[23]?=some f_law_path:=rfl
theorem t24:tab[24]?=some f_law_seen:=rfl
theorem t25:tab[25]?=some f_law:=rfl
end Dw.T
namespace Dw
theorem le_lim {n:Nat}(h:n≤16777216):n≤lim:=h
theorem lim0:(0≤lim)=True:=eq_true (Nat.zero_le _)
noncomputable def binP:=binD
noncomputable def cmpP:=cmpD
noncomputable def biP:=biD
noncomputable def ixP:=ixx
noncomputable def slP:=slx
noncomputable def ixQ:=ixD
noncomputable def cutQ:=cutD
noncomputable def isP:=isD
noncomputable def negP:=negD
noncomputable def tyP:=tyD
noncomputable def rngP:=rngD
noncomputable def seqP:=seqD
noncomputable def tupP:=tupD
noncomputable def setIxP:=setIxD
noncomputable def rvP:=rvD
noncomputable def revP:=revD
noncomputable def joinP:=joinD
noncomputable def bitP:=bitD
noncomputable def appP:=appD
section
variable (a b:Int) (x y z:D) (xs ys:List D)
@[simp] theorem binP_add:binP .add (.int a) (.int b)=some (false,.int (a+b)):=rfl
@[simp] theorem binP_sub:binP .sub (.int a) (.int b)=some (false,.int (a - b)):=rfl
@[simp] theorem binP_mul:binP .mul (.int a) (.int b)=if mulOk a b then some (false,.int (a * b)) else none:=rfl
@[simp] theorem binP_fdiv:binP .fdiv (.int a) (.int b)=if divOk b then some (false,.int (a.fdiv b)) else none:=rfl
@[simp] theorem binP_mod:binP .mod (.int a) (.int b)=if divOk b then some (false,.int (a.fmod b)) else none:=rfl
@[simp] theorem binP_pow:binP .pow (.int a) (.int b)=if powOk a b then some (false,.int (a^b.toNat)) else none:=rfl
@[simp] theorem binP_shl:binP .shl (.int a) (.int b)=if shlOk a b then some (false,.int (a * 2^b.toNat)) else none:=rfl
@[simp] theorem binP_shr:binP .shr (.int a) (.int b)=if 0≤b then some (false,.int (a / 2^b.toNat)) else none:=rfl
@[simp] theorem binP_band:binP .band (.int a) (.int b)=if 0≤a∧0≤b then some (false,.int ((a.toNat &&& b.toNat:Nat):Int)) else none:=rfl
@[simp] theorem binP_bor:binP .bor (.int a) (.int b)=if 0≤a∧0≤b then some (false,.int ((a.toNat ||| b.toNat:Nat):Int)) else none:=rfl
@[simp] theorem binP_bxor:binP .bxor (.int a) (.int b)=if 0≤a∧0≤b then some (false,.int (((a.toNat ||| b.toNat:Nat):Int) - ((a.toNat &&& b.toNat:Nat):Int))) else none:=rfl
@[simp] theorem binP_addL:binP .add (.lst xs) (.lst ys)=if xs.length+ys.length≤lim then some (true,.lst (xs++ys)) else none:=rfl
@[simp] theorem binP_addS (u v:PySem.Str):binP .add (.str u) (.str v)=if u.length+v.length≤lim then some (false,.str (u++v)) else none:=rfl
@[simp] theorem binP_addN:binP .add (.tup []) (.tup ys)=some (false,.tup ys):=rfl
@[simp] theorem binP_addT:binP .add (.tup (x::xs)) (.tup ys)=if xs.length+1+ys.length≤lim then some (false,.tup (x::xs++ys)) else none:=rfl
@[simp] theorem binP_mulL:binP .mul (.lst xs) (.int b)=if xs.length * b.toNat≤lim∧-(2^62)<b∧b<2^62 then some (true,.lst (List.replicate b.toNat xs).flatten) else none:=rfl
@[simp] theorem cmpP_eq:cmpP .eq x y=if shal 20 x||shal 20 y then some (false,.bl (eqD x y)) else none:=rfl
@[simp] theorem cmpP_ne:cmpP .ne x y=if shal 20 x||shal 20 y then some (false,.bl (!eqD x y)) else none:=rfl
@[simp] theorem cmpP_eqI:cmpP .eq (.int a) y=some (false,.bl (eqD (.int a) y)):=rfl
@[simp] theorem cmpP_neI:cmpP .ne (.int a) y=some (false,.bl (!eqD (.int a) y)):=rfl
@[simp] theorem cmpP_eqB (c:Bool):cmpP .eq (.bl c) y=some (false,.bl (eqD (.bl c) y)):=rfl
@[simp] theorem cmpP_neB (c:Bool):cmpP .ne (.bl c) y=some (false,.bl (!eqD (.bl c) y)):=rfl
@[simp] theorem cmpP_lt:cmpP .lt (.int a) (.int b)=some (false,.bl (decide (a<b))):=rfl
@[simp] theorem cmpP_le:cmpP .le (.int a) (.int b)=some (false,.bl (decide (a≤b))):=rfl
@[simp] theorem cmpP_gt:cmpP .gt (.int a) (.int b)=some (false,.bl (decide (b<a))):=rfl
@[simp] theorem cmpP_ge:cmpP .ge (.int a) (.int b)=some (false,.bl (decide (b≤a))):=rfl
theorem if_min (i j:Int):(if j<i then j else i)=min i j:=by omega
theorem if_max (i j:Int):(if i<j then j else i)=max i j:=by omega
theorem if_abs (i:Int):(if i<0 then -i else i)=i.natAbs:=by omega
@[simp] theorem biP_lenT:biP .len [.tup xs]=some (false,.int xs.length):=rfl
@[simp] theorem biP_lenL:biP .len [.lst xs]=some (false,.int xs.length):=rfl
@[simp] theorem biP_abs:biP .abs [.int a]=some (false,.int a.natAbs):=by rw [←if_abs];rfl
@[simp] theorem biP_min:biP .min [.int a,.int b]=some (false,.int (min a b)):=by rw [←if_min];rfl
@[simp] theorem biP_max:biP .max [.int a,.int b]=some (false,.int (max a b)):=by rw [←if_max];rfl
@[simp] theorem biP_max3 (c:Int):biP .max [.int a,.int b,.int c]=some (false,.int (max (max a b) c)):=by rw [←if_max,←if_max];rfl
@[simp] theorem biP_min1:biP .min [.lst xs]=minD xs:=rfl
theorem minD_ints {xs:List D}{is:List Int}{m:Int}(h:intsOf xs=some is) (hm:mnL is=some m):minD xs=some (false,.int m):=by
  unfold minD;rw [h];simp only [hm,Option.map_some]
@[simp] theorem biP_max1:biP .max [.lst xs]=(intsOf xs).bind λis=>(mxL is).map λm=>(false,.int m):=rfl
@[simp] theorem bitP_int:bitP (.int a)=some (false,.int (bitL a)):=rfl
@[simp] theorem biP_sum:biP .sum [.lst xs]=(intsOf xs).map λis=>(false,.int is.sum):=rfl
@[simp] theorem biP_any:biP .any [.lst xs]=(blsOf xs).map λbs=>(false,.bl (bs.any id)):=rfl
@[simp] theorem biP_str:biP .str [.int a]=if a.natAbs<2^240 then some (false,.str (istr a)) else none:=rfl
@[simp] theorem revP_T:revP (.tup xs)=some (false,.tup xs.reverse):=rfl
@[simp] theorem joinP_L (u:PySem.Str):joinP (.str u) (.lst xs)=(strsOf xs).bind λts=>if joinOk u ts then some (false,.str (glueS u ts)) else none:=rfl
@[simp] theorem biP_all:biP .all [.lst xs]=(blsOf xs).map λbs=>(false,.bl (bs.all id)):=rfl
@[simp] theorem biP_tupL:biP .tuple [.lst xs]=some (false,.tup xs):=rfl
@[simp] theorem biP_tupT:biP .tuple [.tup xs]=some (false,.tup xs):=rfl
@[simp] theorem biP_lstL:biP .list [.lst xs]=some (true,.lst xs):=rfl
@[simp] theorem biP_lstT:biP .list [.tup xs]=some (true,.lst xs):=rfl
@[simp] theorem biP_intB (c:Bool):biP .int [.bl c]=some (false,.int (if c then 1 else 0)):=rfl
@[simp] theorem biP_intI:biP .int [.int a]=some (false,.int a):=rfl
@[simp] theorem ixP_L:ixP (.lst xs) (.int a)=(ixQ xs a).map (false,·):=rfl
@[simp] theorem ixP_T:ixP (.tup xs) (.int a)=(ixQ xs a).map (false,·):=rfl
@[simp] theorem ixQ_0:ixQ (x::xs) 0=some x:=by simp [ixQ]
@[simp] theorem ixQ_1:ixQ (x::y::xs) 1=some y:=by
  simp only [ixQ,ixD,ixN,List.length_cons];rw [if_pos (by omega),if_pos (by omega)];rfl
@[simp] theorem ixQ_2:ixQ (x::y::z::xs) 2=some z:=by
  simp only [ixQ,ixD,ixN,List.length_cons];rw [if_pos (by omega),if_pos (by omega)];rfl
@[simp] theorem ixQ_3 (u:D):ixQ (x::y::z::u::xs) 3=some u:=by
  simp only [ixQ,ixD,ixN,List.length_cons];rw [if_pos (by omega),if_pos (by omega)];rfl
theorem ixQ_nat (j:Nat):ixQ xs (j:Int)=xs[j]?:=by
  simp only [ixQ,ixD,ixN];rw [if_pos (by omega)]
  by_cases h:j<xs.length
  · rw [if_pos (by omega)];simp
  · rw [if_neg (by omega)];simp;omega
@[simp] theorem slP_L (l h):slP l h (.lst xs)=some (true,.lst (cutQ xs l h)):=rfl
@[simp] theorem slP_T (l h):slP l h (.tup xs)=some (false,.tup (cutQ xs l h)):=rfl
@[simp] theorem isP_nn (n):isP n .non .non=some (false,.bl (!n)):=rfl
@[simp] theorem isP_tn (n):isP n (.tup xs) .non=some (false,.bl n):=rfl
@[simp] theorem isP_ln (n):isP n (.lst xs) .non=some (false,.bl n):=rfl
@[simp] theorem isP_in (n):isP n (.int a) .non=some (false,.bl n):=rfl
@[simp] theorem isP_bn (n c):isP n (.bl c) .non=some (false,.bl n):=rfl
@[simp] theorem isP_bb (n c d):isP n (.bl c) (.bl d)=some (false,.bl (if c == d then !n else n)):=rfl
@[simp] theorem negP_int:negP (.int a)=some (false,.int (-a)):=rfl
@[simp] theorem tyP_ii:tyP .int (.int a)=true:=rfl
@[simp] theorem tyP_bi:tyP .bool (.int a)=false:=rfl
@[simp] theorem tyP_ib (c):tyP .int (.bl c)=true:=rfl
@[simp] theorem tyP_bb (c):tyP .bool (.bl c)=true:=rfl
@[simp] theorem tyP_tt:tyP .tuple (.tup xs)=true:=rfl
@[simp] theorem tyP_tn:tyP .tuple .non=false:=rfl
@[simp] theorem tyP_ti:tyP .tuple (.int a)=false:=rfl
@[simp] theorem rngP_1:rngP [.int a]=if -(2^62)≤a∧a<2^62 then some ((List.range a.toNat).map λi=>.int (i:Nat)) else none:=rfl
@[simp] theorem rngP_2:rngP [.int a,.int b]=some ((List.range (b - a).toNat).map λi=>.int (a+(i:Nat))):=rfl
@[simp] theorem biP_sorted:biP .sorted [.lst xs]=(intsOf xs).bind λis=>if is.length<64 then some (true,.lst ((srtI is).map .int)) else none:=rfl
theorem rvP_1:rvP [.int a]=if -(2^62)≤a∧a<2^62 then some ((List.range a.toNat).map λi=>.int ((a.toNat:Int) - 1 - (i:Nat))) else none:=rfl
theorem rngP_n (n:Nat) (h:n≤10000):rngP [.int n]=some ((List.range n).map λi=>.int (i:Nat)):=by
  rw [rngP_1,if_pos (by omega)];simp
@[simp] theorem tupP_T:tupP (.tup xs)=some xs:=rfl
@[simp] theorem seqP_L:seqP (.lst xs)=some xs:=rfl
@[simp] theorem seqP_T:seqP (.tup xs)=some xs:=rfl
end
section
variable (call:Nat→List D→Option R) (σ:En)
@[simp 5000] theorem vE_v (i):evE call σ (.v i)=noOwn (getv σ i):=rfl
@[simp 5000] theorem vE_k (d):evE call σ (.k d)=some (false,d):=rfl
@[simp 5000] theorem vE_bin (o a b):evE call σ (.bin o a b)=match pk σ a (evE call σ a) with
  | none=>none|some x=>match pk σ b (evE call σ b) with|none=>none|some y=>binP o x y:=by
  rw [evE_bin];cases pk σ a (evE call σ a)<;>first|rfl|(cases pk σ b (evE call σ b)<;>rfl)
@[simp 5000] theorem vE_neg (a):evE call σ (.neg a)=match pk σ a (evE call σ a) with|none=>none|some x=>negP x:=by
  rw [evE_neg];cases pk σ a (evE call σ a)<;>rfl
@[simp 5000] theorem vE_cmp (o a b):evE call σ (.cmp o a b)=match pk σ a (evE call σ a) with
  | none=>none|some x=>match pk σ b (evE call σ b) with|none=>none|some y=>cmpP o x y:=by
  rw [evE_cmp];cases pk σ a (evE call σ a)<;>first|rfl|(cases pk σ b (evE call σ b)<;>rfl)
@[simp 5000] theorem vE_isC (n a d):evE call σ (.isC n a d)=match pk σ a (evE call σ a) with|none=>none|some x=>isP n x d:=by
  rw [evE_isC];cases pk σ a (evE call σ a)<;>rfl
@[simp 5000] theorem vE_and (a b):evE call σ (.and a b)=match evE call σ a with
  | none=>none|some (_,.bl c)=>(if c=true then evE call σ b else some (false,.bl false))|some _=>none:=by
  rw [evE_and];rcases evE call σ a with _|⟨x,d⟩<;>first|rfl|(cases d<;>first|rfl|(rename_i c;cases c<;>rfl))
@[simp 5000] theorem vE_or (a b):evE call σ (.or a b)=match evE call σ a with
  | none=>none|some (_,.bl c)=>(if c=true then some (false,.bl true) else evE call σ b)|some _=>none:=by
  rw [evE_or];rcases evE call σ a with _|⟨x,d⟩<;>first|rfl|(cases d<;>first|rfl|(rename_i c;cases c<;>rfl))
@[simp 5000] theorem vE_not (a):evE call σ (.not a)=match evE call σ a with
  | none=>none|some (_,.bl c)=>some (false,.bl (!c))|some _=>none:=by
  rw [evE_not];rcases evE call σ a with _|⟨x,d⟩<;>first|rfl|(cases d<;>rfl)
@[simp 5000] theorem vE_ix (a b):evE call σ (.ix a b)=match pk σ a (evE call σ a) with
  | none=>none|some x=>match pk σ b (evE call σ b) with|none=>none|some y=>ixP x y:=by
  rw [evE_ix];cases pk σ a (evE call σ a)<;>first|rfl|(cases pk σ b (evE call σ b)<;>rfl)
@[simp 5000] theorem vE_sl (a lo hi):evE call σ (.sl a lo hi)=match pk σ a (evE call σ a) with
  | none=>none|some x=>match evO call σ lo with|none=>none|some l=>match evO call σ hi with|none=>none|some h=>slP l h x:=by
  rw [evE_sl];cases pk σ a (evE call σ a)<;>first|rfl|(cases evO call σ lo<;>first|rfl|(cases evO call σ hi<;>rfl))
@[simp 5000] theorem vE_tup (as):evE call σ (.tup as)=match evA call σ as with|none=>none|some xs=>if xs.length≤lim then some (false,.tup xs) else none:=by
  rw [evE_tup];cases evA call σ as<;>rfl
@[simp 5000] theorem vE_lst (as):evE call σ (.lst as)=match evA call σ as with|none=>none|some xs=>if xs.length≤lim then some (true,.lst xs) else none:=by
  rw [evE_lst];cases evA call σ as<;>rfl
@[simp 5000] theorem vE_call (f as):evE call σ (.call f as)=match evG call σ as with|none=>none|some xs=>call f xs:=by
  rw [evE_call];cases evG call σ as<;>rfl
@[simp 5000] theorem vE_inV (n a i):evE call σ (.inV n a i)=match pk σ a (evE call σ a) with|none=>none|some x=>match getv σ i with|none=>none|some y=>inR n x y:=by
  rw [evE_inV];cases pk σ a (evE call σ a)<;>first|rfl|(cases getv σ i<;>rfl)
@[simp 5000] theorem vE_bi (b as):evE call σ (.bi b as)=match evAP call σ as with|none=>none|some xs=>biP b xs:=by
  rw [evE_bi];cases evAP call σ as<;>rfl
@[simp 5000] theorem vE_isi (a t):evE call σ (.isi a t)=match pk σ a (evE call σ a) with|none=>none|some x=>some (false,.bl (tyP t x)):=by
  rw [evE_isi];cases pk σ a (evE call σ a)<;>rfl
@[simp 5000] theorem vE_bitl (a):evE call σ (.bitl a)=match pk σ a (evE call σ a) with|none=>none|some x=>bitP x:=by
  rw [evE_bitl];cases pk σ a (evE call σ a)<;>rfl
@[simp 5000] theorem vE_ifx (c a b):evE call σ (.ifx c a b)=match evE call σ c with
  | none=>none|some (_,.bl t)=>(if t=true then evE call σ a else evE call σ b)|some _=>none:=by
  rw [evE_ifx];rcases evE call σ c with _|⟨x,d⟩<;>first|rfl|(cases d<;>first|rfl|(rename_i c;cases c<;>rfl))
@[simp 5000] theorem vE_chn (o p a b c):evE call σ (.chn o p a b c)=match pk σ a (evE call σ a) with
  | none=>none|some x=>match pk σ b (evE call σ b) with|none=>none|some y=>match cmpP o x y with
    | none=>none|some (_,.bl t)=>(if t=true then (match pk σ c (evE call σ c) with|none=>none|some z=>cmpP p y z) else some (false,.bl false))|some _=>none:=by
  rw [evE_chn]
  cases pk σ a (evE call σ a) with
  | none=>rfl
  | some x =>
    cases pk σ b (evE call σ b) with
    | none=>rfl
    | some y =>
      show (cmpD o x y).bind _=match cmpD o x y with|none=>none|some (_,.bl t)=>_|some _=>none
      rcases cmpD o x y with _|⟨q,d⟩
      · rfl
      · cases d with
        | bl t =>
          cases t with
          | false=>rfl
          | true =>
            show (pk σ c (evE call σ c)).bind _=(if (true:Bool)=true then _ else _)
            rw [if_pos rfl]
            cases pk σ c (evE call σ c)<;>rfl
        | _=>rfl
@[simp 5000] theorem vE_callP (f as ks pl):evE call σ (.callP f as ks pl)=match evA call σ as with
  | none=>none|some xs=>match evA call σ ks with|none=>none|some zs=>match plD xs zs pl with|none=>none|some ds=>call f ds:=by
  rw [evE_callP]
  cases evA call σ as with
  | none=>rfl
  | some xs =>
    cases evA call σ ks with
    | none=>rfl
    | some zs =>
      show (plD xs zs pl).bind _=match plD xs zs pl with|none=>none|some ds=>_
      cases plD xs zs pl<;>rfl
@[simp 5000] theorem vE_rev (a):evE call σ (.rev a)=match pk σ a (evE call σ a) with|none=>none|some x=>revP x:=by
  rw [evE_rev];cases pk σ a (evE call σ a)<;>rfl
@[simp 5000] theorem vE_join (a b):evE call σ (.join a b)=match pk σ a (evE call σ a) with
  | none=>none|some x=>match pk σ b (evE call σ b) with|none=>none|some y=>joinP x y:=by
  rw [evE_join];cases pk σ a (evE call σ a)<;>first|rfl|(cases pk σ b (evE call σ b)<;>rfl)
@[simp 5000] theorem vE_fstr (as):evE call σ (.fstr as)=match evA call σ as with
  | none=>none|some xs=>match strsOf xs with|none=>none|some ts=>match catS PySem.Str.empty ts with|none=>none|some z=>some (false,.str z):=by
  rw [evE_fstr]
  cases evA call σ as with
  | none=>rfl
  | some xs =>
    show (strsOf xs).bind _=match strsOf xs with|none=>none|some ts=>_
    cases strsOf xs with
    | none=>rfl
    | some ts =>
      show (catS PySem.Str.empty ts).map _=match catS PySem.Str.empty ts with|none=>none|some z=>_
      cases catS PySem.Str.empty ts<;>rfl
@[simp 5000] theorem vE_compS (e nl ks tg src):evE call σ (.compS e nl ks tg src)=match evE call σ src with
  | none=>none|some x=>match seqP x.2 with|none=>none|some its=>match evComp call e (capt σ nl ks) tg its with|none=>none|some ys=>some (true,.lst ys):=by
  rw [evE_compS]
  cases evE call σ src with
  | none=>rfl
  | some x => show (seqD x.2).bind _ = match seqD x.2 with | none => none | some its => _
              cases seqD x.2 with
              | none=>rfl
              | some its => show (evComp call e (capt σ nl ks) tg its).bind _ = match evComp call e (capt σ nl ks) tg its with | none => none | some ys => _
                            cases evComp call e (capt σ nl ks) tg its<;>rfl
@[simp 5000] theorem vE_compR (e nl ks tg rs):evE call σ (.compR e nl ks tg rs)=match evAP call σ rs with
  | none=>none|some x=>match rngP x with|none=>none|some its=>if its.length≤lim then (match evComp call e (capt σ nl ks) tg its with|none=>none|some ys=>some (true,.lst ys)) else none:=by
  rw [evE_compR]
  cases evAP call σ rs with
  | none=>rfl
  | some x => show (rngD x).bind _ = match rngD x with | none => none | some its => _
              cases rngD x with
              | none=>rfl
              | some its => show (if its.length ≤ lim then (evComp call e (capt σ nl ks) tg its).bind _ else none) = if its.length ≤ lim then (match evComp call e (capt σ nl ks) tg its with | none => none | some ys => _) else none
                            cases evComp call e (capt σ nl ks) tg its<;>rfl
@[simp 5000] theorem vE_compZ (e nl ks tg a b):evE call σ (.compZ e nl ks tg a b)=match evE call σ a with
  | none=>none|some x=>match evE call σ b with|none=>none|some y=>match seqP x.2 with|none=>none|some xs=>match tupP y.2 with|none=>none|some ys=>match evComp call e (capt σ nl ks) tg (zipD xs ys) with|none=>none|some zs=>some (true,.lst zs):=by
  rw [evE_compZ]
  cases evE call σ a with
  | none=>rfl
  | some x =>
    cases evE call σ b with
    | none=>rfl
    | some y =>
      show (seqD x.2).bind _=match seqD x.2 with|none=>none|some its=>_
      cases seqD x.2 with
      | none=>rfl
      | some xs =>
        show (tupD y.2).bind _=match tupD y.2 with|none=>none|some its=>_
        cases tupD y.2 with
        | none=>rfl
        | some ys =>
          show (evComp call e (capt σ nl ks) tg (zipD xs ys)).bind _=match evComp call e (capt σ nl ks) tg (zipD xs ys) with|none=>none|some ys=>_
          cases evComp call e (capt σ nl ks) tg (zipD xs ys)<;>rfl
@[simp 5000] theorem vE_fld (i j f):evE call σ (.fld i j f)=match getv σ i with|none=>none|some r=>fldR j f r:=by
  rw [evE_fld];cases getv σ i<;>rfl
@[simp 5000] theorem vE_mm (f ns as bs):evE call σ (.mm f ns as bs)=match evA call σ as with|none=>none|some xs=>match evA call σ bs with|none=>none|some ys=>if xs.length=ns.length then call f (.obj ns xs::ys) else none:=by
  rw [evE_mm];cases evA call σ as<;>first|rfl|(cases evA call σ bs<;>rfl)
@[simp 5000] theorem vA_cons (a r):evA call σ (a::r)=match evE call σ a with|none=>none|some x=>match evA call σ r with|none=>none|some xs=>some (x.2::xs):=by
  rw [evA_cons];cases evE call σ a<;>first|rfl|(cases evA call σ r<;>rfl)
theorem inR_int (n:Bool) (k:Int) (m:Bool) (ks:List Int):inR n (.int k) (true,.dct m ks)=some (false,.bl (if n then !(ks.any (· == k)) else ks.any (· == k))):=rfl
theorem st_dnew {i:Nat}{rest:List S}{z:Option Ou}(k:evSs call (σ.set i (some (true,.dct true []))) rest=z):evSs call σ (.dnew i::rest)=z:=k
theorem st_dput {i:Nat}{ck e:C}{n:Int}{ks:List Int}{rest:List S}{z:Option Ou}(he:evE call σ e=some (false,.bl true)) (hk:pk σ ck (evE call σ ck)=some (.int n)) (ho:getv σ i=some (true,.dct true ks)) (hl:ks.length<lim)
    (k:evSs call (σ.set i (some (true,.dct true (if ks.any (· == n) then ks else ks++[n])))) rest=z):evSs call σ (.setIx i ck e::rest)=z:=by
  rw [evSs_cons,evS_setIx,he,Option.bind_some,hk,Option.bind_some]
  unfold setIxD
  rw [ho]
  simp only
  rw [if_pos hl]
  exact k
@[simp 5000] theorem vG_cons (a r):evG call σ (a::r)=match ag σ a (evE call σ a) with|none=>none|some x=>match evG call σ r with|none=>none|some xs=>some (x::xs):=by
  rw [evG_cons];cases ag σ a (evE call σ a)<;>first|rfl|(cases evG call σ r<;>rfl)
@[simp 5000] theorem vAP_cons (a r):evAP call σ (a::r)=match pk σ a (evE call σ a) with|none=>none|some x=>match evAP call σ r with|none=>none|some xs=>some (x::xs):=by
  rw [evAP_cons];cases pk σ a (evE call σ a)<;>first|rfl|(cases evAP call σ r<;>rfl)
@[simp 5000] theorem vO_some (c):evO call σ (some c)=match pk σ c (evE call σ c) with|none=>none|some x=>oInt x:=by
  rw [evO_some];cases pk σ c (evE call σ c)<;>rfl
variable (rest:List S)
@[simp 5000] theorem vS_nil:evSs call σ []=some (.nx σ):=rfl
@[simp 5000] theorem vS_frz (is):evSs call σ (.frz is::rest)=evSs call (is.foldl frz1 σ) rest:=rfl
@[simp 5000] theorem vS_set (i keep e):evSs call σ (.set i keep e::rest)=match evE call σ e with|none=>none|some r=>evSs call (σ.set i (some (keepR keep r))) rest:=by
  rw [evSs_cons,evS_set];cases evE call σ e<;>rfl
@[simp 5000] theorem vS_setIx (i k e):evSs call σ (.setIx i k e::rest)=match evE call σ e with|none=>none|some x=>match pk σ k (evE call σ k) with|none=>none|some n=>match setIxP σ i n x.2 with|some (.nx σ')=>evSs call σ' rest|some (.rt r)=>some (.rt r)|some (.bk q)=>some (.bk q)|some (.ct q)=>some (.ct q)|none=>none:=by
  rw [evSs_cons,evS_setIx]
  cases evE call σ e with
  | none=>rfl
  | some x =>
    cases pk σ k (evE call σ k) with
    | none=>rfl
    | some n =>
      show (setIxD σ i n x.2).bind _=match setIxD σ i n x.2 with|some (.nx σ')=>_|some (.rt r)=>_|some (.bk q)=>_|some (.ct q)=>_|none=>_
      rcases setIxD σ i n x.2 with _|(_|_|_|_)<;>rfl
@[simp 5000] theorem vS_app (i e):evSs call σ (.app i e::rest)=match evE call σ e with|none=>none|some x=>match appP σ i x.2 with|some (.nx σ')=>evSs call σ' rest|some (.rt r)=>some (.rt r)|some (.bk q)=>some (.bk q)|some (.ct q)=>some (.ct q)|none=>none:=by
  rw [evSs_cons,evS_app]
  cases evE call σ e with
  | none=>rfl
  | some x =>
    show (appD σ i x.2).bind _=match appD σ i x.2 with|some (.nx σ')=>_|some (.rt r)=>_|some (.bk q)=>_|some (.ct q)=>_|none=>_
    rcases appD σ i x.2 with _|(_|_|_|_)<;>rfl
@[simp 5000] theorem vS_ret (e):evSs call σ (.ret e::rest)=match retv σ e (evE call σ e) with|none=>none|some r=>some (.rt r):=by
  rw [evSs_cons,evS_ret];cases retv σ e (evE call σ e)<;>rfl
@[simp 5000] theorem vS_ite (c a b):evSs call σ (.ite c a b::rest)=match evE call σ c with
  | none=>none
  | some (_,.bl t)=>if t=true then (match evSs call σ a with|some (.nx σ')=>evSs call σ' rest|some (.rt r)=>some (.rt r)|some (.bk q)=>some (.bk q)|some (.ct q)=>some (.ct q)|none=>none)
      else (match evSs call σ b with|some (.nx σ')=>evSs call σ' rest|some (.rt r)=>some (.rt r)|some (.bk q)=>some (.bk q)|some (.ct q)=>some (.ct q)|none=>none)
  | some _=>none:=by
  rw [evSs_cons,evS_ite]
  rcases evE call σ c with _|⟨x,d⟩
  · rfl
  · cases d with
    | bl t =>
      cases t with
      | true => show (evSs call σ a).bind _ = match evSs call σ a with | some (.nx σ') => _ | some (.rt r) => _ | some (.bk q) => _ | some (.ct q) => _ | none => _
                rcases evSs call σ a with _|(_|_|_|_)<;>rfl
      | false => show (evSs call σ b).bind _ = match evSs call σ b with | some (.nx σ') => _ | some (.rt r) => _ | some (.bk q) => _ | some (.ct q) => _ | none => _
                 rcases evSs call σ b with _|(_|_|_|_)<;>rfl
    | _=>rfl
noncomputable def aft (o:Option Ou) (k:En→Option Ou):Option Ou:=match o with|some (.nx σ')=>k σ'|some (.rt r)=>some (.rt r)|some (.bk q)=>some (.bk q)|some (.ct q)=>some (.ct q)|none=>none
@[simp] theorem aft_nx (k:En→Option Ou):aft (some (.nx σ)) k=k σ:=rfl
@[simp] theorem aft_rt (r) (k:En→Option Ou):aft (some (.rt r)) k=some (.rt r):=rfl
@[simp 5000] theorem vS_forS (tg src body):evSs call σ (.forS tg src body::rest)=match evE call σ src with|none=>none|some x=>match seqP x.2 with|none=>none|some its=>match evFor call body tg its σ with|some (.nx σ')=>evSs call σ' rest|some (.rt r)=>some (.rt r)|some (.bk q)=>some (.bk q)|some (.ct q)=>some (.ct q)|none=>none:=by
  rw [evSs_cons,evS_forS]
  cases evE call σ src with
  | none=>rfl
  | some x =>
    show ((seqD x.2).bind _).bind _=match seqD x.2 with|none=>none|some its=>_
    cases seqD x.2 with
    | none=>rfl
    | some its =>
      show (evFor call body tg its σ).bind _=match evFor call body tg its σ with|some (.nx σ')=>_|some (.rt r)=>_|some (.bk q)=>_|some (.ct q)=>_|none=>_
      rcases evFor call body tg its σ with _|(_|_|_|_)<;>rfl
@[simp 5000] theorem vS_forR (tg rs body):evSs call σ (.forR tg rs body::rest)=match evAP call σ rs with|none=>none|some x=>match rngP x with|none=>none|some its=>match evFor call body tg its σ with|some (.nx σ')=>evSs call σ' rest|some (.rt r)=>some (.rt r)|some (.bk q)=>some (.bk q)|some (.ct q)=>some (.ct q)|none=>none:=by
  rw [evSs_cons,evS_forR]
  cases evAP call σ rs with
  | none=>rfl
  | some x =>
    show ((rngD x).bind _).bind _=match rngD x with|none=>none|some its=>_
    cases rngD x with
    | none=>rfl
    | some its =>
      show (evFor call body tg its σ).bind _=match evFor call body tg its σ with|some (.nx σ')=>_|some (.rt r)=>_|some (.bk q)=>_|some (.ct q)=>_|none=>_
      rcases evFor call body tg its σ with _|(_|_|_|_)<;>rfl
@[simp 5000] theorem vS_forV (tg rs body):evSs call σ (.forV tg rs body::rest)=match evAP call σ rs with|none=>none|some x=>match rvP x with|none=>none|some its=>match evFor call body tg its σ with|some (.nx σ')=>evSs call σ' rest|some (.rt r)=>some (.rt r)|some (.bk q)=>some (.bk q)|some (.ct q)=>some (.ct q)|none=>none:=by
  rw [evSs_cons,evS_forV]
  cases evAP call σ rs with
  | none=>rfl
  | some x =>
    show ((rvD x).bind _).bind _=match rvD x with|none=>none|some its=>_
    cases rvD x with
    | none=>rfl
    | some its =>
      show (evFor call body tg its σ).bind _=match evFor call body tg its σ with|some (.nx σ')=>_|some (.rt r)=>_|some (.bk q)=>_|some (.ct q)=>_|none=>_
      rcases evFor call body tg its σ with _|(_|_|_|_)<;>rfl
@[simp 5000] theorem vS_brk:evSs call σ (.brk::rest)=some (.bk σ):=rfl
@[simp 5000] theorem vS_cnt:evSs call σ (.cnt::rest)=some (.ct σ):=rfl
@[simp 5000] theorem vS_forZ (tg a b body):evSs call σ (.forZ tg a b body::rest)=match evE call σ a with|none=>none|some x=>match evE call σ b with|none=>none|some y=>match seqP x.2 with|none=>none|some xs=>match tupP y.2 with|none=>none|some ys=>match evFor call body tg (zipD xs ys) σ with|some (.nx σ')=>evSs call σ' rest|some (.rt r)=>some (.rt r)|some (.bk q)=>some (.bk q)|some (.ct q)=>some (.ct q)|none=>none:=by
  rw [evSs_cons,evS_forZ]
  cases evE call σ a with
  | none=>rfl
  | some x =>
    cases evE call σ b with
    | none=>rfl
    | some y =>
      show ((seqD x.2).bind _).bind _=match seqD x.2 with|none=>none|some its=>_
      cases seqD x.2 with
      | none=>rfl
      | some xs =>
        show ((tupD y.2).bind _).bind _=match tupD y.2 with|none=>none|some its=>_
        cases tupD y.2 with
        | none=>rfl
        | some ys =>
          show (evFor call body tg (zipD xs ys) σ).bind _=match evFor call body tg (zipD xs ys) σ with|some (.nx σ')=>_|some (.rt r)=>_|some (.bk q)=>_|some (.ct q)=>_|none=>_
          rcases evFor call body tg (zipD xs ys) σ with _|(_|_|_|_)<;>rfl
theorem appP_own {σ:En}{i:Nat}{xs:List D}{e:D}(h:getv σ i=some (true,.lst xs)) (hl:xs.length<lim):appP σ i e=some (.nx (σ.set i (some (true,.lst (xs++[e]))))):=by
  show appD σ i e=_
  unfold appD;rw [h];simp only;rw [if_pos hl]
section
variable {call:Nat→List D→Option R}{σ:En}{rest:List S}{z:Option Ou}
theorem st_set {i:Nat}{keep:Bool}{e:C}(r:R) (h:evE call σ e=some r) (k:evSs call (σ.set i (some (keepR keep r))) rest=z):evSs call σ (.set i keep e::rest)=z:=by
  rw [vS_set,h];exact k
theorem st_app {i:Nat}{e:C}{xs:List D}(r:R) (h:evE call σ e=some r) (ho:getv σ i=some (true,.lst xs)) (hl:xs.length<lim) (k:evSs call (σ.set i (some (true,.lst (xs++[r.2])))) rest=z):evSs call σ (.app i e::rest)=z:=by
  rw [vS_app,h];show (match appP σ i r.2 with|some (.nx σ')=>evSs call σ' rest|some (.rt r)=>some (.rt r)|some (.bk q)=>some (.bk q)|some (.ct q)=>some (.ct q)|none=>none)=z
  rw [appP_own ho hl];exact k
theorem st_T {c:C}{a b:List S}{x:Bool}{σ':En}(h:evE call σ c=some (x,.bl true)) (ha:evSs call σ a=some (.nx σ')) (k:evSs call σ' rest=z):evSs call σ (.ite c a b::rest)=z:=by
  rw [vS_ite,h];simp only [if_true];rw [ha];exact k
theorem st_F {c:C}{a b:List S}{x:Bool}{σ':En}(h:evE call σ c=some (x,.bl false)) (ha:evSs call σ b=some (.nx σ')) (k:evSs call σ' rest=z):evSs call σ (.ite c a b::rest)=z:=by
  rw [vS_ite,h];simp only [Bool.false_eq_true,if_false];rw [ha];exact k
theorem st_skip {c:C}{a:List S}{x:Bool}(h:evE call σ c=some (x,.bl false)) (k:evSs call σ rest=z):evSs call σ (.ite c a []::rest)=z:=st_F h rfl k
theorem st_TR {c:C}{a b:List S}{x:Bool}{r:R}(h:evE call σ c=some (x,.bl true)) (ha:evSs call σ a=some (.rt r)) (k:some (.rt r)=z):evSs call σ (.ite c a b::rest)=z:=by
  rw [vS_ite,h];simp only [if_true];rw [ha];exact k
theorem st_forR {tg:Tg}{rs:List C}{body:List S}{ds its:List D}{σ':En}(h:evAP call σ rs=some ds) (hr:rngP ds=some its) (hf:evFor call body tg its σ=some (.nx σ')) (k:evSs call σ' rest=z):evSs call σ (.forR tg rs body::rest)=z:=by
  rw [vS_forR,h];simp only;rw [hr];simp only;rw [hf];exact k
theorem st_forV {tg:Tg}{rs:List C}{body:List S}{ds its:List D}{σ':En}(h:evAP call σ rs=some ds) (hr:rvP ds=some its) (hf:evFor call body tg its σ=some (.nx σ')) (k:evSs call σ' rest=z):evSs call σ (.forV tg rs body::rest)=z:=by
  rw [vS_forV,h];simp only;rw [hr];simp only;rw [hf];exact k
theorem st_ext {i:Nat}{e:C}{xs ys:List D}(h:evE call σ e=some (true,.lst ys)) (ho:getv σ i=some (true,.lst xs)) (hl:xs.length+ys.length≤lim) (k:evSs call (σ.set i (some (true,.lst (xs++ys)))) rest=z):evSs call σ (.ext i e::rest)=z:=by
  rw [evSs_cons,evS_ext,h]
  simp only [Option.bind_some,extD]
  rw [ho]
  simp only
  rw [if_pos hl]
  exact k
theorem st_extT {i:Nat}{e:C}{xs ys:List D}(h:evE call σ e=some (false,.tup ys)) (ho:getv σ i=some (true,.lst xs)) (hl:xs.length+ys.length≤lim) (k:evSs call (σ.set i (some (true,.lst (xs++ys)))) rest=z):evSs call σ (.ext i e::rest)=z:=by
  rw [evSs_cons,evS_ext,h]
  simp only [Option.bind_some,extD]
  rw [ho]
  simp only
  rw [if_pos hl]
  exact k
theorem st_whl {c:C}{body:List S}{o:Ou}(h:whlGo (fun σ'=>evE call σ' c) (fun σ'=>evSs call σ' body) big σ=some o) (k:(match o with|.nx σ'=>evSs call σ' rest|.rt r=>some (.rt r)|.bk q=>some (.bk q)|.ct q=>some (.ct q))=z):evSs call σ (.whl c body::rest)=z:=by
  rw [evSs_cons,evS_whl,h]
  cases o<;>exact k
theorem st_forS {tg:Tg}{src:C}{body:List S}{r:R}{its:List D}{σ':En}(h:evE call σ src=some r) (hr:seqP r.2=some its) (hf:evFor call body tg its σ=some (.nx σ')) (k:evSs call σ' rest=z):evSs call σ (.forS tg src body::rest)=z:=by
  rw [vS_forS,h];simp only;rw [hr];simp only;rw [hf];exact k
theorem st_ret {e:C}{r:R}(h:retv σ e (evE call σ e)=some r) (k:some (.rt r)=z):evSs call σ (.ret e::rest)=z:=by
  rw [vS_ret,h];exact k
theorem e_compR {e:C}{nl:Nat}{ks:List Nat}{tg:Tg}{rs:List C}{ds its ys:List D}{σ':En}(h:evAP call σ rs=some ds) (hr:rngP ds=some its) (hl:its.length≤lim) (hc:capt σ nl ks=σ') (hf:evComp call e σ' tg its=some ys):evE call σ (.compR e nl ks tg rs)=some (true,.lst ys):=by
  subst hc
  rw [vE_compR,h];simp only;rw [hr];simp only;rw [if_pos hl,hf]
theorem e_compS {e:C}{nl:Nat}{ks:List Nat}{tg:Tg}{src:C}{r:R}{its ys:List D}{σ':En}(h:evE call σ src=some r) (hr:seqP r.2=some its) (hc:capt σ nl ks=σ') (hf:evComp call e σ' tg its=some ys):evE call σ (.compS e nl ks tg src)=some (true,.lst ys):=by
  subst hc
  rw [vE_compS,h];simp only;rw [hr];simp only;rw [hf]
end
end
theorem call_rt {tab:List Fd}{f:Nat}{fd:Fd}{as:List D}{n:Nat}{r:R}{σ:En}(h:tab[f]?=some fd) (hl:as.length=fd.np) (hσ:agE false as++List.replicate (fd.ns - fd.np) none=σ) (hb:evSs (callN tab n) σ fd.body=some (.rt r)) (hx:isX r=false:=by rfl):callN tab (n+1) f as=some r:=by
  subst hσ
  rw [callN_at h,runF,runX,if_pos hl,hb]
  simp [hx]
theorem call_xt {tab:List Fd}{f:Nat}{fd:Fd}{as:List D}{n:Nat}{r:R}{σ:En}(h:tab[f]?=some fd) (ht:tab.length≤XO) (hl:as.length=fd.np) (hσ:agE false as++List.replicate (fd.ns - fd.np) none=σ) (hb:evSs (callN tab n) σ fd.body=some (.rt r)):callN tab (n+1) (f+XO) as=some r:=by
  subst hσ
  rw [callX_at h ht,runX,if_pos hl,hb]
  rfl
end Dw
namespace Dw.T
open Dw
section
variable {call:Nat→List D→Option R}{body:List S}{tg:Tg}
theorem evFor_inv (I:Nat→En→Prop):∀(its:List D) (a:Nat) (σ:En),I a σ →
    (∀(k:Nat) (d:D) (σ:En),its[k]?=some d→I (a+k) σ→∃σ1 σ2,bindT σ tg d=some σ1∧evSs call σ1 body=some (.nx σ2)∧I (a+k+1) σ2) →
    ∃σ',evFor call body tg its σ=some (.nx σ')∧I (a+its.length) σ'
  | [],a,σ,h,_=>⟨σ,rfl,by simpa using h⟩
  | d::r,a,σ,h,st=>by
    obtain⟨σ1,σ2,h1,h2,h3⟩:=st 0 d σ rfl (by simpa using h)
    obtain⟨σ',e,h'⟩:=evFor_inv I r (a+1) σ2 (by simpa using h3) λk d σ hk hi=>by
      have:=st (k+1) d σ (by simpa using hk) (by rw [show a+(k+1)=a+1+k by omega];exact hi)
      rw [show a+(k+1)+1=a+1+k+1 by omega] at this
      exact this
    refine⟨σ',?_,?_⟩
    · rw [evFor_cons,h1];simp [h2,e]
    · rw [show a+(d::r).length=a+1+r.length by simp;omega];exact h'
theorem evFor_rng (I:Nat→En→Prop) (m:Nat) (f:Nat→D) (σ:En) (h:I 0 σ)
    (st:∀(k:Nat) (σ:En),k<m→I k σ→∃σ1 σ2,bindT σ tg (f k)=some σ1∧evSs call σ1 body=some (.nx σ2)∧I (k+1) σ2) :
    ∃σ',evFor call body tg ((List.range m).map f) σ=some (.nx σ')∧I m σ':=by
  obtain⟨σ',e,h'⟩:=evFor_inv (call:=call) (body:=body) (tg:=tg) I ((List.range m).map f) 0 σ h λk d σ hk hi=>by
    rw [List.getElem?_map] at hk
    cases q:(List.range m)[k]? with
    | none=>rw [q] at hk;cases hk
    | some j =>
      rw [q] at hk
      obtain⟨hl,ej⟩:=List.getElem?_eq_some_iff.mp q
      simp at hl ej
      subst ej
      cases hk
      simpa using st k σ hl (by simpa using hi)
  exact⟨σ',e,by simpa using h'⟩
theorem evFor_any {α:Type}(p:α→Bool) (r:R) (enc:α→D) (I:En→Prop):∀(l:List α) (σ:En),I σ →
    (∀x∈l,∀σ,I σ→∃σ1,bindT σ tg (enc x)=some σ1∧((p x=true→evSs call σ1 body=some (.rt r))∧(p x=false→∃σ2,evSs call σ1 body=some (.nx σ2)∧I σ2))) →
    (l.any p=true→evFor call body tg (l.map enc) σ=some (.rt r))∧(l.any p=false→∃σ',evFor call body tg (l.map enc) σ=some (.nx σ')∧I σ')
  | [],σ,h,_=>⟨λz=>by simp at z,λ_=>⟨σ,rfl,h⟩⟩
  | x::l,σ,h,st=>by
    obtain⟨σ1,h1,h2,h3⟩:=st x List.mem_cons_self σ h
    cases hp:p x with
    | true=>exact⟨λ_=>by rw [List.map_cons,evFor_cons,h1];simp [h2 hp],λz=>by simp [hp] at z⟩
    | false =>
      obtain⟨σ2,h4,h5⟩:=h3 hp
      obtain⟨i1,i2⟩:=evFor_any p r enc I l σ2 h5 λy hy=>st y (List.mem_cons_of_mem _ hy)
      constructor
      · intro z
        simp [hp] at z
        rw [List.map_cons,evFor_cons,h1]
        simp [h4]
        exact i1 (by simpa using z)
      · intro z
        simp [hp] at z
        obtain⟨σ',e,h'⟩:=i2 (by simpa using z)
        exact⟨σ',by rw [List.map_cons,evFor_cons,h1];simp [h4,e],h'⟩
end
noncomputable def bx (m:Nat) (f:Nat→D):List D:=(List.range m).map f
@[simp] theorem bx_length (m f):(bx m f).length=m:=by simp [bx]
theorem bx_get {m:Nat}(f:Nat→D) {j:Nat}(h:j<m):(bx m f)[j]?=some (f j):=by simp [bx,h]
theorem ixQ_bx {m:Nat}(f:Nat→D) {j:Nat}(h:j<m):ixQ (bx m f) (j:Int)=some (f j):=by
  rw [ixQ_nat,bx_get f h]
theorem shal_bx (m n:Nat) (f:Nat→D) (h:∀j,shal n (f j)=true):shals n (bx m f)=true:=by
  rw [bx,shals_map];simp [h]
noncomputable def cellZ (ns:List Int) (k:Nat):Int:=(ns[k]?).getD 0
theorem comp_rng {call:Nat→List D→Option R}{e:C}{m:Nat}{r:List (Option R)}(g:Nat→D) (h:∀j:Nat,j<m→∃b,evE call (some (false,.int (j:Int))::r) e=some (b,g j)) :
    evComp call e (none::r) (.one 0) ((List.range m).map λi=>.int (i:Nat))=some (bx m g):=
  evComp_map call (none::r) (e:=e) (tg:=.one 0) (λi:Nat=>.int (i:Nat)) g (List.range m) λj hj=>by
    obtain⟨b,hb⟩:=h j (List.mem_range.mp hj)
    exact⟨_,b,rfl,hb⟩
theorem cut_nat (xs:List D) (a b:Nat) (h:a≤b):cutQ xs (some (a:Int)) (some (b:Int))=(xs.drop a).take (b - a):=by
  simp only [cutQ,cutD,cutAt]
  rw [if_neg (by omega),if_neg (by omega)]
  simp only [Int.toNat_natCast]
  by_cases h1:a≤xs.length
  · rw [Nat.min_eq_left h1]
    by_cases h2:b≤xs.length
    · rw [Nat.min_eq_left h2]
    · rw [Nat.min_eq_right (by omega)]
      rw [List.take_of_length_le (by simp),List.take_of_length_le (by simp;omega)]
  · rw [Nat.min_eq_right (by omega:xs.length≤a),Nat.min_eq_right (by omega:xs.length≤b)]
    simp [List.drop_eq_nil_of_le (show xs.length≤a by omega)]
theorem cut_ints (ns:List Int) (a b:Nat) (h:a≤b):cutQ (ns.map .int) (some (a:Int)) (some (b:Int))=((ns.drop a).take (b - a)).map .int:=by
  rw [cut_nat _ _ _ h,←List.map_drop,←List.map_take]
section
variable {call:Nat→List D→Option R}{σ:En}
theorem e_cmp {o:COp}{a b:C}{x y:D}{r:Option R}(ha:pk σ a (evE call σ a)=some x) (hb:pk σ b (evE call σ b)=some y) (h:cmpP o x y=r):evE call σ (.cmp o a b)=r:=by
  rw [vE_cmp,ha];simp only;rw [hb];exact h
theorem e_bi1 {o:BI}{a:C}{x:D}{r:Option R}(ha:pk σ a (evE call σ a)=some x) (h:biP o [x]=r):evE call σ (.bi o [a])=r:=by
  rw [vE_bi,vAP_cons,ha];exact h
theorem pk_compS {e nl ks tg rs}{r:R}(h:evE call σ (.compS e nl ks tg rs)=some r):pk σ (.compS e nl ks tg rs) (evE call σ (.compS e nl ks tg rs))=some r.2:=by rw [h];rfl
theorem pk_bi {o as}{r:R}(h:evE call σ (.bi o as)=some r):pk σ (.bi o as) (evE call σ (.bi o as))=some r.2:=by rw [h];rfl
theorem pk_call {o as}{r:R}(h:evE call σ (.call o as)=some r):pk σ (.call o as) (evE call σ (.call o as))=some r.2:=by rw [h];rfl
theorem pk_ix {a b}{r:R}(h:evE call σ (.ix a b)=some r):pk σ (.ix a b) (evE call σ (.ix a b))=some r.2:=by rw [h];rfl
theorem e_ix {a b:C}{x y:D}{r:Option R}(ha:pk σ a (evE call σ a)=some x) (hb:pk σ b (evE call σ b)=some y) (h:ixP x y=r):evE call σ (.ix a b)=r:=by
  rw [vE_ix,ha];simp only;rw [hb];exact h
end
section
variable {call:Nat→List D→Option R}{σ:En}{rest:List S}{z:Option Ou}
theorem st_forSr {tg:Tg}{src:C}{body:List S}{r:R}{its:List D}{q:R}(h:evE call σ src=some r) (hr:seqP r.2=some its) (hf:evFor call body tg its σ=some (.rt q)) (k:some (.rt q)=z):evSs call σ (.forS tg src body::rest)=z:=by
  rw [vS_forS,h];simp only;rw [hr];simp only;rw [hf];exact k
theorem rng_le {m:Nat}(hs:m≤10000):rngP [.int (m:Int)]=some ((List.range m).map λi=>.int (i:Nat)):=rngP_n m hs
end
theorem ixN_nat (l j:Nat) (h:j<l):ixN l (j:Int)=some j:=by
  unfold ixN;rw [if_pos (by omega),if_pos (by omega)];simp
section
variable {call:Nat→List D→Option R}{σ:En}
theorem evFor_all {α:Type}{tg:Tg}{body:List S}(enc:α→D) (I:En→Prop) (l:List α) (σ:En) (h:I σ)
    (st:∀x∈l,∀σ,I σ→∃σ1 σ2,bindT σ tg (enc x)=some σ1∧evSs call σ1 body=some (.nx σ2)∧I σ2) :
    ∃σ',evFor call body tg (l.map enc) σ=some (.nx σ')∧I σ':=
  (evFor_any (call:=call) (tg:=tg) (body:=body) (λ_=>false) (false,.non) enc I l σ h λx hx σ hσ=>by
    obtain⟨σ1,σ2,a,b,c⟩:=st x hx σ hσ
    exact⟨σ1,a,⟨λz=>Bool.noConfusion z,λ_=>⟨σ2,b,c⟩⟩⟩).2 (by simp)
end
end Dw.T
namespace Dw.T
open Dw
theorem mulL (a b:Int) (h:a.natAbs<2^64):mulOk a b=true:=decide_eq_true (.inr (.inl h))
theorem mulR (a b:Int) (h:b.natAbs<2^64):mulOk a b=true:=decide_eq_true (.inr (.inr (.inl h)))
theorem divM (b:Int) (h0:b≠0) (h:b.natAbs<2^240):divOk b=true:=decide_eq_true ⟨h0,.inl h⟩
theorem fm_bd (a m:Int) (h:0<m):0≤a.fmod m∧a.fmod m<m:=by
  rw [Int.fmod_eq_emod_of_nonneg _ (by omega:0≤m)]
  exact⟨Int.emod_nonneg _ (by omega),Int.emod_lt_of_pos _ h⟩
noncomputable abbrev Q4:=Int×Int×Int×Int
structure To where
  c:Nat→Q4
  h:Nat→Q4
  so:Nat
  ev:Nat
  n:Int
  mn:Int
  mx:Int
  su:Int
noncomputable def qj (a b:Q4):Q4:=(min a.1 b.1,max a.2.1 b.2.1,min a.2.2.1 b.2.2.1,max a.2.2.2 b.2.2.2)
noncomputable def qn (a b:Q4):Q4:=(max a.1 b.1,min a.2.1 b.2.1,max a.2.2.1 b.2.2.1,min a.2.2.2 b.2.2.2)
noncomputable def comb (a b:To):To:=⟨λj=>qj (a.c j) (b.c j),λj=>qn (a.h j) (b.h j),a.so ||| b.so,a.ev &&& b.ev,a.n+b.n,min a.mn b.mn,max a.mx b.mx,a.su+b.su⟩
theorem qj_assoc (a b c:Q4):qj (qj a b) c=qj a (qj b c):=by
  unfold qj;simp only [Prod.mk.injEq];refine⟨?_,?_,?_,?_⟩<;>omega
theorem qn_assoc (a b c:Q4):qn (qn a b) c=qn a (qn b c):=by
  unfold qn;simp only [Prod.mk.injEq];refine⟨?_,?_,?_,?_⟩<;>omega
theorem comb_assoc (a b c:To):comb (comb a b) c=comb a (comb b c):=by
  unfold comb
  simp only [To.mk.injEq]
  exact⟨funext λj=>qj_assoc _ _ _,funext λj=>qn_assoc _ _ _,Nat.or_assoc _ _ _,Nat.and_assoc _ _ _,by omega,by omega,by omega,by omega⟩
noncomputable def oc:Option To→Option To→Option To
  | none,b=>b
  | some a,none=>some a
  | some a,some b=>some (comb a b)
theorem oc_none (a:Option To):oc a none=a:=by cases a<;>rfl
theorem oc_assoc (a b c:Option To):oc (oc a b) c=oc a (oc b c):=by
  cases a<;>cases b<;>cases c<;>first|rfl|exact congrArg some (comb_assoc _ _ _)
noncomputable def fo (l:List (Option To)):Option To:=l.foldl oc none
theorem fo_from:∀(l:List (Option To)) (a:Option To),l.foldl oc a=oc a (fo l)
  | [],a=>(oc_none a).symm
  | x::l,a=>by
    show l.foldl oc (oc a x)=oc a (l.foldl oc (oc none x))
    rw [fo_from l (oc a x),fo_from l (oc none x),oc_assoc]
    rfl
theorem fo_cons (x:Option To) (l:List (Option To)):fo (x::l)=oc x (fo l):=fo_from l x
noncomputable def q4 (q:Q4):D:=.tup [.int q.1,.int q.2.1,.int q.2.2.1,.int q.2.2.2]
noncomputable def toD (m:Nat) (t:To):D:=.tup [.tup (bx m λj=>q4 (t.c j)),.tup (bx m λj=>q4 (t.h j)),.int (t.so:Int),.int (t.ev:Int),.int t.n,.int t.mn,.int t.mx,.int t.su]
noncomputable def oD (m:Nat):Option To→D
  | none=>.non
  | some t=>toD m t
section
variable {call:Nat→List D→Option R}
theorem evFor_fd {α β:Type}{tg:Tg}{body:List S}(enc:α→D) (f:β→α→β) (I:β→En→Prop):∀(l:List α) (s:β) (σ:En),I s σ →
    (∀x∈l,∀s σ,I s σ→∃σ1 σ2,bindT σ tg (enc x)=some σ1∧evSs call σ1 body=some (.nx σ2)∧I (f s x) σ2)→∃σ',evFor call body tg (l.map enc) σ=some (.nx σ')∧I (l.foldl f s) σ'
  | [],s,σ,h,_=>⟨σ,rfl,h⟩
  | x::l,s,σ,h,st=>by
    obtain⟨σ1,σ2,h1,h2,h3⟩:=st x List.mem_cons_self s σ h
    obtain⟨σ',e,h'⟩:=evFor_fd enc f I l (f s x) σ2 h3 λy hy=>st y (List.mem_cons_of_mem _ hy)
    exact⟨σ',by rw [List.map_cons,evFor_cons,h1];simp [h2,e],h'⟩
end
structure Th where
  hd:Int
  sw:Nat→Int×Int×Int
  mr:Nat
  wo:Int
  mb:mr<65536
noncomputable def sD (p:Int×Int×Int):D:=.tup [.int p.1,.int p.2.1,.int p.2.2,.int p.2.2]
noncomputable def thD (m:Nat) (t:Th):D:=.tup [.int t.hd,.tup (bx m λj=>sD (t.sw j)),.int (t.mr:Int),.int t.wo]
noncomputable def one (t:Th):To:=⟨λj=>((t.sw j).1,(t.sw j).2.1,(t.sw j).2.2,(t.sw j).2.2),λj=>((t.sw j).1,(t.sw j).2.1,(t.sw j).2.2,(t.sw j).2.2),t.mr,t.mr,1,t.wo,t.wo,t.wo⟩
theorem fold_pr {β:Type}(π:To→β) (op:β→β→β) (h:∀a b,π (comb a b)=op (π a) (π b)):∀(l:List To) (a:To),π (l.foldl comb a)=(l.map π).foldl op (π a)
  | [],_=>rfl
  | x::l,a=>by
    rw [List.foldl_cons,fold_pr π op h l,h]
    rfl
theorem mnL_min (x:Int) (r:List Int):mnL (x::r)=some (r.foldl min x):=by
  have e:(λm x:Int=>if x<m then x else m)=min:=by
    funext m x
    split<;>omega
  show some (List.foldl (λm x:Int=>if x<m then x else m) x r)=_
  rw [e]
theorem mxL_max (x:Int) (r:List Int):mxL (x::r)=some (r.foldl max x):=by
  have e:(λm x:Int=>if m<x then x else m)=max:=by
    funext m x
    split<;>omega
  show some (List.foldl (λm x:Int=>if m<x then x else m) x r)=_
  rw [e]
theorem sum_from:∀(l:List Int) (a:Int),l.foldl (·+·) a=a+l.sum
  | [],a=>by simp
  | x::l,a=>by rw [List.foldl_cons,sum_from l,List.sum_cons];omega
theorem th1 (m:Nat) (t:Th):ixP (thD m t) (.int 1)=some (false,.tup (bx m λj=>sD (t.sw j))):=rfl
theorem th0 (m:Nat) (t:Th):ixP (thD m t) (.int 0)=some (false,.int t.hd):=rfl
theorem th2 (m:Nat) (t:Th):ixP (thD m t) (.int 2)=some (false,.int (t.mr:Int)):=rfl
theorem th3 (m:Nat) (t:Th):ixP (thD m t) (.int 3)=some (false,.int t.wo):=rfl
theorem sD_q4 (p:Int×Int×Int):sD p=q4 (p.1,p.2.1,p.2.2,p.2.2):=rfl
theorem list_bx {α:Type}{xs:List α}{m:Nat}(h:xs.length=m) (d:α) (f:α→D):xs.map f=bx m λj=>f (xs.getD j d):=by
  subst h
  unfold bx
  refine List.ext_getElem (by simp) λi h1 h2=>?_
  have h3:i<xs.length:=by simpa using h1
  simp [h3]
mutual
theorem sh_mono:∀(n:Nat) (d:D),shal n d=true→shal (n+1) d=true
  | 0,.non,_=>rfl
  | 0,.bl _,_=>rfl
  | 0,.int _,_=>rfl
  | 0,.str _,_=>rfl
  | 0,.dct _ _,_=>rfl
  | 0,.obj _ _,_=>rfl
  | 0,.exc _,_=>rfl
  | 0,.tup _,h=>by cases h
  | 0,.lst _,h=>by cases h
  | _+1,.non,_=>rfl
  | _+1,.bl _,_=>rfl
  | _+1,.int _,_=>rfl
  | _+1,.str _,_=>rfl
  | _+1,.dct _ _,_=>rfl
  | _+1,.obj _ _,_=>rfl
  | _+1,.exc _,_=>rfl
  | n+1,.tup ds,h=>shs_mono n ds h
  | n+1,.lst ds,h=>shs_mono n ds h
theorem shs_mono:∀(n:Nat) (ds:List D),shals n ds=true→shals (n+1) ds=true
  | _,[],_=>by simp
  | n,d::ds,h=>by
    rw [shals,Bool.and_eq_true] at h ⊢
    exact⟨sh_mono n d h.1,shs_mono n ds h.2⟩
end
theorem sh_le {n m:Nat}{d:D}(h:shal n d=true) (hm:n≤m):shal m d=true:=by
  induction hm with
  | refl=>exact h
  | step _ ih=>exact sh_mono _ _ ih
mutual
theorem eq_refl':∀d:D,eqD d d=true
  | .non=>by simp
  | .bl _=>by simp
  | .int _=>by simp
  | .str _=>by simp
  | .tup ds=>by simpa using eqs_refl' ds
  | .lst ds=>by simpa using eqs_refl' ds
  | .dct _ _=>by simp
  | .obj _ ds=>by simpa using eqs_refl' ds
  | .exc _=>by simp
theorem eqs_refl':∀ds:List D,eqDs ds ds=true
  | []=>by simp
  | d::ds=>by simp [eq_refl' d,eqs_refl' ds]
end
theorem ne_same {d:D}(h:shal 20 d=true):cmpP .ne d d=some (false,.bl false):=by
  rw [cmpP_ne,h,eq_refl'];rfl
theorem eq_same {d:D}(h:shal 20 d=true):cmpP .eq d d=some (false,.bl true):=by
  rw [cmpP_eq,h,eq_refl'];rfl
theorem sh_map {α:Type}(n:Nat) (f:α→D) (l:List α) (h:∀x∈l,shal n (f x)=true):shals n (l.map f)=true:=by
  rw [shals_map,List.all_eq_true]
  exact h
theorem sh_q4 (q:Q4):shal 1 (q4 q)=true:=by simp [q4]
theorem sh_bx (m n:Nat) (f:Nat→D) (h:∀j,shal n (f j)=true):shals n (bx m f)=true:=shal_bx m n f h
theorem sh_to (m:Nat) (o:Option To):shal 3 (oD m o)=true:=by
  cases o with
  | none=>rfl
  | some t =>
    show shals 2 [_,_,_,_,_,_,_,_]=true
    have h1:shal 2 (.tup (bx m λj=>q4 (t.c j)))=true:=sh_bx m 1 _ λj=>sh_q4 _
    have h2:shal 2 (.tup (bx m λj=>q4 (t.h j)))=true:=sh_bx m 1 _ λj=>sh_q4 _
    simp only [shals,h1,h2,Bool.true_and,Bool.and_true]
    rfl
theorem sh_th (m:Nat) (t:Th):shal 3 (thD m t)=true:=by
  have h1:shal 2 (.tup (bx m λj=>sD (t.sw j)))=true:=sh_bx m 1 _ λj=>by rw [sD_q4];exact sh_q4 _
  show shals 2 [_,_,_,_]=true
  simp only [shals,h1,Bool.true_and,Bool.and_true]
  rfl
noncomputable def lfS:D:=.str (PySem.Str.ofString "leaf")
noncomputable def fkS:D:=.str (PySem.Str.ofString "fork")
theorem q4i0 (q:Q4):ixP (q4 q) (.int 0)=some (false,.int q.1):=rfl
theorem q4i1 (q:Q4):ixP (q4 q) (.int 1)=some (false,.int q.2.1):=rfl
theorem q4i2 (q:Q4):ixP (q4 q) (.int 2)=some (false,.int q.2.2.1):=rfl
theorem q4i3 (q:Q4):ixP (q4 q) (.int 3)=some (false,.int q.2.2.2):=rfl
theorem to0 (m:Nat) (t:To):ixP (toD m t) (.int 0)=some (false,.tup (bx m λj=>q4 (t.c j))):=rfl
theorem to1 (m:Nat) (t:To):ixP (toD m t) (.int 1)=some (false,.tup (bx m λj=>q4 (t.h j))):=rfl
theorem to2 (m:Nat) (t:To):ixP (toD m t) (.int 2)=some (false,.int (t.so:Int)):=rfl
theorem to3 (m:Nat) (t:To):ixP (toD m t) (.int 3)=some (false,.int (t.ev:Int)):=rfl
theorem to4 (m:Nat) (t:To):ixP (toD m t) (.int 4)=some (false,.int t.n):=rfl
theorem to5 (m:Nat) (t:To):ixP (toD m t) (.int 5)=some (false,.int t.mn):=rfl
theorem to6 (m:Nat) (t:To):ixP (toD m t) (.int 6)=some (false,.int t.mx):=rfl
theorem to7 (m:Nat) (t:To):ixP (toD m t) (.int 7)=some (false,.int t.su):=rfl
theorem and_all (x:Nat) (h:x<65536):65535 &&& x=x:=by
  rw [Nat.and_comm]
  exact Nat.and_two_pow_sub_one_of_lt_two_pow (n:=16) h
noncomputable def pot (t:To) (ts:List To):To:=ts.foldl comb t
theorem pt {β:Type}(π:To→β) (op:β→β→β) (h:∀a b,π (comb a b)=op (π a) (π b)) (t:To) (ts:List To):π (pot t ts)=(ts.map π).foldl op (π t):=fold_pr π op h ts t
noncomputable def fl:List To→Option To
  | []=>none
  | t::ts=>some (pot t ts)
theorem fo_flt:∀l:List (Option To),fo l=fl (l.filterMap id)
  | []=>rfl
  | none::l=>by rw [fo_cons,fo_flt l];rfl
  | some t::l=>by
    show fo (some t::l)=fl (t::l.filterMap id)
    rw [fo_cons,fo_flt l]
    cases l.filterMap id with
    | nil=>rfl
    | cons s ss =>
      show some (comb t (pot s ss))=some (pot t (s::ss))
      unfold pot
      rw [List.foldl_cons]
      congr 1
      induction ss generalizing s with
      | nil=>rfl
      | cons x r ih=>rw [List.foldl_cons,List.foldl_cons,ih,comb_assoc]
theorem flt_map (m:Nat):∀l:List (Option To),(l.filter (·.isSome)).map (oD m)=(l.filterMap id).map (toD m)
  | []=>rfl
  | none::l=>by rw [List.filter_cons_of_neg (by simp)];exact flt_map m l
  | some t::l=>by
    rw [List.filter_cons_of_pos rfl,List.map_cons,flt_map m l]
    rfl
section
variable {call:Nat→List D→Option R}
theorem t_own (m:Nat) (t:Th):evSs call [some (false,thD m t)] f_law_own.body=some (.rt (false,toD m (one t))):=by
  have l8:8≤lim:=le_lim (by decide)
  exact st_ret (r:=(false,toD m (one t))) (by simp only [retv,vE_tup,vA_cons,vE_ix,pk,getv,List.getElem?_cons_zero,Option.join_some,Option.bind_some,pkR,vE_k,Option.map_some,th1,th2,th3,evA_nil,List.length_cons,List.length_nil,Nat.reduceAdd,l8,↓reduceIte];rfl) rfl
theorem ag_compS {σ:En} {e nl ks tg rs}{r:R}(h:evE call σ (.compS e nl ks tg rs)=some r):ag σ (.compS e nl ks tg rs) (evE call σ (.compS e nl ks tg rs))=some r.2:=by rw [h];rfl
theorem e_call1 {σ:En}{f:Nat}{a:C}{d:D}{r:Option R}(h:ag σ a (evE call σ a)=some d) (hc:call f [d]=r):evE call σ (.call f [a])=r:=by
  rw [evE_call,evG_cons,h,Option.bind_some,evG_nil,Option.bind_some,Option.bind_some]
  exact hc
theorem e_compF {σ:En}{e c:C}{nl:Nat}{ks:List Nat}{tg:Tg}{src:C}{r:R}{its ys:List D}{σ':En}(h:evE call σ src=some r) (hr:seqP r.2=some its) (hc:capt σ nl ks=σ') (hf:evCompF call c e σ' tg its=some ys):evE call σ (.compF e c nl ks tg src)=some (true,.lst ys):=by
  subst hc
  rw [evE_compF,h,Option.bind_some,show seqD r.2=some its from hr,Option.bind_some,hf]
  rfl
theorem e_lst2 {σ:En}{a b:C}{x y:R}(ha:evE call σ a=some x) (hb:evE call σ b=some y):evE call σ (.lst [a,b])=some (true,.lst [x.2,y.2]):=by
  have l2:2≤lim:=le_lim (by decide)
  rw [evE_lst,evA_cons,ha,Option.bind_some,evA_cons,hb,Option.bind_some,evA_nil,Option.bind_some,Option.bind_some,Option.bind_some]
  exact if_pos l2
theorem e_ixc {α:Type}{σ:En}{i:Nat}{L:List α}(g:α→D) (n:Int) (π:α→Int) (hπ:∀t,ixP (g t) (.int n)=some (false,.int (π t))) (h:evE call σ (.v i)=some (false,.lst (L.map g))) :
    evE call σ (.compS (.ix (.v 0) (.k (.int n))) 1 [] (.one 0) (.v i))=some (true,.lst (L.map λt=>.int (π t))):=
  e_compS (call:=call) (σ:=σ) (e:=(.ix (.v 0) (.k (.int n)))) (nl:=1) (ks:=[]) (tg:=.one 0) (src:=.v i) (r:=(false,.lst (L.map g))) h rfl rfl
    (evComp_map call _ g (λt=>.int (π t)) L λt _=>⟨_,false,rfl,e_ix rfl rfl (hπ t)⟩)
theorem e_minc {α:Type}{σ:En}{i:Nat}{L ts:List α}{t:α}(hL:L=t::ts) (g:α→D) (n:Int) (π:α→Int) (hπ:∀t,ixP (g t) (.int n)=some (false,.int (π t))) (h:evE call σ (.v i)=some (false,.lst (L.map g))) :
    evE call σ (.bi .min [.compS (.ix (.v 0) (.k (.int n))) 1 [] (.one 0) (.v i)])=some (false,.int ((ts.map π).foldl min (π t))):=by
  refine e_bi1 (pk_compS (e_ixc g n π hπ h)) ?_
  show biP .min [.lst (L.map λt=>D.int (π t))]=_
  rw [biP_min1]
  refine minD_ints (intsOf_map π L) ?_
  rw [hL,List.map_cons,mnL_min]
theorem e_maxc {α:Type}{σ:En}{i:Nat}{L ts:List α}{t:α}(hL:L=t::ts) (g:α→D) (n:Int) (π:α→Int) (hπ:∀t,ixP (g t) (.int n)=some (false,.int (π t))) (h:evE call σ (.v i)=some (false,.lst (L.map g))) :
    evE call σ (.bi .max [.compS (.ix (.v 0) (.k (.int n))) 1 [] (.one 0) (.v i)])=some (false,.int ((ts.map π).foldl max (π t))):=by
  refine e_bi1 (pk_compS (e_ixc g n π hπ h)) ?_
  show biP .max [.lst (L.map λt=>D.int (π t))]=_
  rw [biP_max1,intsOf_map,hL,List.map_cons,Option.bind_some,mxL_max]
  rfl
theorem e_sumc {α:Type}{σ:En}{i:Nat}{L ts:List α}{t:α}(hL:L=t::ts) (g:α→D) (n:Int) (π:α→Int) (hπ:∀t,ixP (g t) (.int n)=some (false,.int (π t))) (h:evE call σ (.v i)=some (false,.lst (L.map g))) :
    evE call σ (.bi .sum [.compS (.ix (.v 0) (.k (.int n))) 1 [] (.one 0) (.v i)])=some (false,.int ((ts.map π).foldl (·+·) (π t))):=by
  refine e_bi1 (pk_compS (e_ixc g n π hπ h)) ?_
  show biP .sum [.lst (L.map λt=>D.int (π t))]=_
  rw [biP_sum,intsOf_map,hL,List.map_cons,sum_from]
  show some (false,D.int ((π t::ts.map π).sum))=_
  rw [List.sum_cons]
theorem t_frames (m:Nat) (hm:m≤100) (L ts:List To) (t:To) (hL:L=t::ts) :
    evSs call [some (false,.lst (L.map (toD m))),some (false,.int (m:Int)),none,none,none,none,none,none,none,none,none] f_law_frames.body=some (.rt (false,.tup [.tup (bx m λj=>q4 ((pot t ts).c j)),.tup (bx m λj=>q4 ((pot t ts).h j))])):=by
  have l4:4≤lim:=le_lim (by decide)
  have l2:2≤lim:=le_lim (by decide)
  obtain⟨σ',h',hσ⟩:=evFor_rng (call:=call) (tg:=.one 4) (body:=[.set 5 false (.compS (.ix (.ix (.v 0) (.k (.int 0))) (.v 1)) 1 [4] (.one 0) (.v 0)),.set 6 false (.compS (.ix (.ix (.v 0) (.k (.int 1))) (.v 1)) 1 [4] (.one 0) (.v 0)),.set 7 false (.lst [(.bi .min [(.compS (.ix (.v 0) (.k (.int 0))) 1 [] (.one 0) (.v 5))]),(.bi .max [(.compS (.ix (.v 0) (.k (.int 0))) 1 [] (.one 0) (.v 6))])]),.set 8 false (.lst [(.bi .max [(.compS (.ix (.v 0) (.k (.int 1))) 1 [] (.one 0) (.v 5))]),(.bi .min [(.compS (.ix (.v 0) (.k (.int 1))) 1 [] (.one 0) (.v 6))])]),.set 9 false (.lst [(.bi .min [(.compS (.ix (.v 0) (.k (.int 2))) 1 [] (.one 0) (.v 5))]),(.bi .max [(.compS (.ix (.v 0) (.k (.int 2))) 1 [] (.one 0) (.v 6))])]),.set 10 false (.lst [(.bi .max [(.compS (.ix (.v 0) (.k (.int 3))) 1 [] (.one 0) (.v 5))]),(.bi .min [(.compS (.ix (.v 0) (.k (.int 3))) 1 [] (.one 0) (.v 6))])]),.app 2 (.tup [(.ix (.v 7) (.k (.int 0))),(.ix (.v 8) (.k (.int 0))),(.ix (.v 9) (.k (.int 0))),(.ix (.v 10) (.k (.int 0)))]),.app 3 (.tup [(.ix (.v 7) (.k (.int 1))),(.ix (.v 8) (.k (.int 1))),(.ix (.v 9) (.k (.int 1))),(.ix (.v 10) (.k (.int 1)))])]) (λk σ=>∃o4 o5 o6 o7 o8 o9 o10,σ=[some (false,.lst (L.map (toD m))),some (false,.int (m:Int)),some (true,.lst ((List.range k).map λj=>q4 ((pot t ts).c j))),some (true,.lst ((List.range k).map λj=>q4 ((pot t ts).h j))),o4,o5,o6,o7,o8,o9,o10]) m (λi=>.int (i:Nat))
    [some (false,.lst (L.map (toD m))),some (false,.int (m:Int)),some (true,.lst []),some (true,.lst []),none,none,none,none,none,none,none] ⟨_,_,_,_,_,_,_,rfl⟩ (by
      rintro k σ hk ⟨o4,o5,o6,o7,o8,o9,o10,rfl⟩
      have c1:=e_compS (call:=call) (σ:=[some (false,.lst (L.map (toD m))),some (false,.int (m:Int)),some (true,.lst ((List.range k).map λj=>q4 ((pot t ts).c j))),some (true,.lst ((List.range k).map λj=>q4 ((pot t ts).h j))),some (false,.int (k:Nat)),o5,o6,o7,o8,o9,o10]) (e:=(.ix (.ix (.v 0) (.k (.int 0))) (.v 1))) (nl:=1) (ks:=[4]) (tg:=.one 0) (src:=.v 0) (r:=(false,.lst (L.map (toD m)))) rfl rfl rfl
        (evComp_map call _ (toD m) (λt=>q4 (t.c k)) L λt _=>⟨_,false,rfl,by simp only [capt,List.replicate_succ,List.replicate_zero,getv,List.map_cons,List.getElem?_cons_succ,List.getElem?_cons_zero,Option.join_some,List.map_nil,List.cons_append,List.nil_append,List.set_cons_zero,vE_ix,pk,Option.bind_some,pkR,vE_k,Option.map_some,to0,ixP_T,ixQ_bx (λj=>q4 (t.c j)) hk]⟩)
      have c2:=λv5=>e_compS (call:=call) (σ:=[some (false,.lst (L.map (toD m))),some (false,.int (m:Int)),some (true,.lst ((List.range k).map λj=>q4 ((pot t ts).c j))),some (true,.lst ((List.range k).map λj=>q4 ((pot t ts).h j))),some (false,.int (k:Nat)),v5,o6,o7,o8,o9,o10]) (e:=(.ix (.ix (.v 0) (.k (.int 1))) (.v 1))) (nl:=1) (ks:=[4]) (tg:=.one 0) (src:=.v 0) (r:=(false,.lst (L.map (toD m)))) rfl rfl rfl
        (evComp_map call _ (toD m) (λt=>q4 (t.h k)) L λt _=>⟨_,false,rfl,by simp only [capt,List.replicate_succ,List.replicate_zero,getv,List.map_cons,List.getElem?_cons_succ,List.getElem?_cons_zero,Option.join_some,List.map_nil,List.cons_append,List.nil_append,List.set_cons_zero,vE_ix,pk,Option.bind_some,pkR,vE_k,Option.map_some,to1,ixP_T,ixQ_bx (λj=>q4 (t.h j)) hk]⟩)
      have ec:q4 ((pot t ts).c k)=.tup [.int ((ts.map λt=>(t.c k).1).foldl min (t.c k).1),.int ((ts.map λt=>(t.c k).2.1).foldl max (t.c k).2.1),.int ((ts.map λt=>(t.c k).2.2.1).foldl min (t.c k).2.2.1),.int ((ts.map λt=>(t.c k).2.2.2).foldl max (t.c k).2.2.2)]:=by
        unfold q4
        rw [pt (λa=>(a.c k).1) min (λ_ _=>rfl),pt (λa=>(a.c k).2.1) max (λ_ _=>rfl),pt (λa=>(a.c k).2.2.1) min (λ_ _=>rfl),pt (λa=>(a.c k).2.2.2) max (λ_ _=>rfl)]
      have eh:q4 ((pot t ts).h k)=.tup [.int ((ts.map λt=>(t.h k).1).foldl max (t.h k).1),.int ((ts.map λt=>(t.h k).2.1).foldl min (t.h k).2.1),.int ((ts.map λt=>(t.h k).2.2.1).foldl max (t.h k).2.2.1),.int ((ts.map λt=>(t.h k).2.2.2).foldl min (t.h k).2.2.2)]:=by
        unfold q4
        rw [pt (λa=>(a.h k).1) max (λ_ _=>rfl),pt (λa=>(a.h k).2.1) min (λ_ _=>rfl),pt (λa=>(a.h k).2.2.1) max (λ_ _=>rfl),pt (λa=>(a.h k).2.2.2) min (λ_ _=>rfl)]
      refine⟨_,_,rfl,?_,some (false,.int (k:Nat)),some (false,.lst (L.map λt=>q4 (t.c k))),some (false,.lst (L.map λt=>q4 (t.h k))),some (false,.lst [.int ((ts.map λt=>(t.c k).1).foldl min (t.c k).1),.int ((ts.map λt=>(t.h k).1).foldl max (t.h k).1)]),some (false,.lst [.int ((ts.map λt=>(t.c k).2.1).foldl max (t.c k).2.1),.int ((ts.map λt=>(t.h k).2.1).foldl min (t.h k).2.1)]),some (false,.lst [.int ((ts.map λt=>(t.c k).2.2.1).foldl min (t.c k).2.2.1),.int ((ts.map λt=>(t.h k).2.2.1).foldl max (t.h k).2.2.1)]),some (false,.lst [.int ((ts.map λt=>(t.c k).2.2.2).foldl max (t.c k).2.2.2),.int ((ts.map λt=>(t.h k).2.2.2).foldl min (t.h k).2.2.2)]),rfl⟩
      refine st_set _ c1 ?_
      refine st_set _ (c2 _) ?_
      refine st_set _ (e_lst2 (e_minc hL (λt=>q4 (t.c k)) 0 (λt=>(t.c k).1) (λt=>q4i0 _) rfl) (e_maxc hL (λt=>q4 (t.h k)) 0 (λt=>(t.h k).1) (λt=>q4i0 _) rfl)) ?_
      refine st_set _ (e_lst2 (e_maxc hL (λt=>q4 (t.c k)) 1 (λt=>(t.c k).2.1) (λt=>q4i1 _) rfl) (e_minc hL (λt=>q4 (t.h k)) 1 (λt=>(t.h k).2.1) (λt=>q4i1 _) rfl)) ?_
      refine st_set _ (e_lst2 (e_minc hL (λt=>q4 (t.c k)) 2 (λt=>(t.c k).2.2.1) (λt=>q4i2 _) rfl) (e_maxc hL (λt=>q4 (t.h k)) 2 (λt=>(t.h k).2.2.1) (λt=>q4i2 _) rfl)) ?_
      refine st_set _ (e_lst2 (e_maxc hL (λt=>q4 (t.c k)) 3 (λt=>(t.c k).2.2.2) (λt=>q4i3 _) rfl) (e_minc hL (λt=>q4 (t.h k)) 3 (λt=>(t.h k).2.2.2) (λt=>q4i3 _) rfl)) ?_
      refine st_app (false,q4 ((pot t ts).c k)) (by rw [ec];simp only [List.set_cons_succ,List.set_cons_zero,keepR,Bool.and_true,vE_tup,vA_cons,vE_ix,pk,getv,List.getElem?_cons_succ,List.getElem?_cons_zero,Option.join_some,Option.bind_some,pkR,vE_k,Option.map_some,ixP_L,ixQ_0,evA_nil,List.length_cons,List.length_nil,Nat.reduceAdd,l4,↓reduceIte]) rfl (by simp;exact Nat.lt_of_lt_of_le (by omega:k<101) (le_lim (by decide))) ?_
      refine st_app (false,q4 ((pot t ts).h k)) (by rw [eh];simp only [List.set_cons_succ,List.set_cons_zero,keepR,Bool.and_true,vE_tup,vA_cons,vE_ix,pk,getv,List.getElem?_cons_succ,List.getElem?_cons_zero,Option.join_some,Option.bind_some,pkR,vE_k,Option.map_some,ixP_L,ixQ_1,evA_nil,List.length_cons,List.length_nil,Nat.reduceAdd,l4,↓reduceIte]) rfl (by simp;exact Nat.lt_of_lt_of_le (by omega:k<101) (le_lim (by decide))) ?_
      simp only [List.range_succ,List.map_append,List.map_cons,List.map_nil]
      rfl)
  obtain⟨o4,o5,o6,o7,o8,o9,o10,rfl⟩:=hσ
  refine st_set (true,.lst []) (by simp only [vE_lst,evA_nil,List.length_nil,lim0,↓reduceIte]) ?_
  refine st_set (true,.lst []) (by simp only [keepR,Bool.and_true,List.set_cons_succ,List.set_cons_zero,vE_lst,evA_nil,List.length_nil,lim0,↓reduceIte]) ?_
  refine st_forR (ds:=[.int (m:Int)]) rfl (rng_le (by omega)) h' ?_
  exact st_ret (by simp only [retv,vE_tup,vA_cons,vE_bi,vAP_cons,pk,getv,List.getElem?_cons_succ,List.getElem?_cons_zero,Option.join_some,Option.bind_some,pkR,evAP_nil,biP_tupL,evA_nil,List.length_cons,List.length_nil,Nat.reduceAdd,l2,↓reduceIte];rfl) rfl
theorem t_poured (m:Nat) (hm:m≤100) (l:List (Option To)) (hl:l.length≤10000) (hev:∀t,some t∈l→t.ev<65536) (C30:∀L t ts,L=t::ts→call 13 [.lst (L.map (toD m)),.int (m:Int)]=some (false,.tup [.tup (bx m λj=>q4 ((pot t ts).c j)),.tup (bx m λj=>q4 ((pot t ts).h j))])) :
    evSs call [some (false,.lst (l.map (oD m))),none,none,none,none,none,none,none,none] f_law_poured.body=some (.rt (false,oD m (fo l))):=by
  have hc:=λv2:Option R=>e_compF (call:=call) (σ:=[some (false,.lst (l.map (oD m))),none,v2,none,none,none,none,none,none]) (e:=.v 0) (c:=.isC true (.v 0) .non) (nl:=1) (ks:=[]) (tg:=.one 0) (src:=.v 0) (r:=(false,.lst (l.map (oD m)))) rfl rfl rfl
    (evCompF_filter (oD m) (oD m) (λo=>o.isSome) l λo _=>⟨_,rfl,by cases o<;>rfl,λ_=>⟨false,by cases o<;>rfl⟩⟩)
  rw [flt_map] at hc
  have hfo:=fo_flt l
  have hmem:∀t∈l.filterMap id,t.ev<65536:=λt ht=>by
    obtain⟨o,h1,h2⟩:=List.mem_filterMap.mp ht
    have h2:o=some t:=h2
    subst h2
    exact hev t h1
  have hlen:(l.filterMap id).length≤10000:=Nat.le_trans (List.length_filterMap_le _ _) hl
  rw [hfo]
  clear hfo hev
  generalize l.filterMap id=L at hc hmem hlen
  refine st_set _ (hc _) ?_
  cases hLe:L with
  | nil =>
    subst hLe
    exact st_TR (x:=false) (by simp only [keepR,Bool.and_true,List.map_nil,List.set_cons_succ,List.set_cons_zero,vE_cmp,pk,vE_bi,vAP_cons,getv,List.getElem?_cons_succ,List.getElem?_cons_zero,Option.join_some,Option.bind_some,pkR,evAP_nil,biP_lenL,List.length_nil,Option.map_some,vE_k,cmpP_eqI];rfl) (st_ret (r:=(false,.non)) rfl rfl) rfl
  | cons t ts =>
    rw [←hLe]
    have q30:=C30 L t ts hLe
    have hn0:(((L.length:Nat):Int) == 0)=false:=by rw [hLe];simp;omega
    refine st_skip (x:=false) (by simp only [keepR,Bool.and_true,List.set_cons_succ,List.set_cons_zero,vE_cmp,pk,vE_bi,vAP_cons,getv,List.getElem?_cons_succ,List.getElem?_cons_zero,Option.join_some,Option.bind_some,pkR,evAP_nil,biP_lenL,List.length_map,Option.map_some,vE_k,cmpP_eqI];rw [show eqD (.int ((L.length:Nat):Int)) (.int 0)=false from hn0]) ?_
    refine st_set (false,.int 0) rfl ?_
    refine st_set (false,.int 65535) rfl ?_
    obtain⟨σ2,h2,hσ2⟩:=evFor_fd (call:=call) (tg:=.one 1) (body:=[.set 3 false (.bin .bor (.v 3) (.ix (.v 1) (.k (.int 2)))),.set 4 false (.bin .band (.v 4) (.ix (.v 1) (.k (.int 3))))]) (toD m) (λ(s:Nat×Nat) (t:To)=>(s.1 ||| t.so,s.2 &&& t.ev))
      (λs σ=>∃o1,σ=[some (false,.lst (l.map (oD m))),o1,some (false,.lst (L.map (toD m))),some (false,.int (s.1:Int)),some (false,.int (s.2:Int)),none,none,none,none]) L (0,65535)
      [some (false,.lst (l.map (oD m))),none,some (false,.lst (L.map (toD m))),some (false,.int 0),some (false,.int 65535),none,none,none,none] ⟨_,rfl⟩ (by
        rintro x hx ⟨s1,s2⟩ σ ⟨o1,rfl⟩
        have z1:(0:Int)≤(s1:Int)∧(0:Int)≤(x.so:Int):=by omega
        have z2:(0:Int)≤(s2:Int)∧(0:Int)≤(x.ev:Int):=by omega
        refine⟨_,_,rfl,?_,some (false,toD m x),rfl⟩
        refine st_set (false,.int ((s1 ||| x.so:Nat):Int)) (by simp only [List.set_cons_succ,List.set_cons_zero,vE_bin,pk,getv,List.getElem?_cons_succ,List.getElem?_cons_zero,Option.join_some,Option.bind_some,pkR,vE_ix,vE_k,Option.map_some,to2,binP_bor,z1,and_self,↓reduceIte,Int.toNat_natCast]) ?_
        exact st_set (false,.int ((s2 &&& x.ev:Nat):Int)) (by simp only [List.set_cons_succ,List.set_cons_zero,keepR,Bool.and_false,vE_bin,pk,getv,List.getElem?_cons_succ,List.getElem?_cons_zero,Option.join_some,Option.bind_some,pkR,vE_ix,vE_k,Option.map_some,to3,binP_band,z2,and_self,↓reduceIte,Int.toNat_natCast]) rfl)
    obtain⟨o1,rfl⟩:=hσ2
    have es:(L.foldl (λ(s:Nat×Nat) (t:To)=>(s.1 ||| t.so,s.2 &&& t.ev)) (0,65535))=((pot t ts).so,(pot t ts).ev):=by
      have sp:∀(l:List To) (a b:Nat),l.foldl (λ(s:Nat×Nat) (t:To)=>(s.1 ||| t.so,s.2 &&& t.ev)) (a,b)=(l.foldl (λs t=>s ||| t.so) a,l.foldl (λs t=>s &&& t.ev) b):=by
        intro l
        induction l with
        | nil=>intros;rfl
        | cons x l ih=>intro a b;exact ih _ _
      rw [sp,hLe,pt (λa=>a.so) (· ||| ·) (λ_ _=>rfl),pt (λa=>a.ev) (· &&& ·) (λ_ _=>rfl)]
      congr 1
      · rw [List.foldl_cons,Nat.zero_or,List.foldl_map]
      · rw [List.foldl_cons,and_all _ (hmem t (by rw [hLe];exact List.mem_cons_self)),List.foldl_map]
    rw [es] at h2
    refine st_forS (r:=(false,.lst (L.map (toD m)))) rfl rfl h2 ?_
    refine st_set _ (e_sumc hLe (toD m) 4 (λt=>t.n) (λt=>to4 m _) rfl) ?_
    refine st_set _ (e_minc hLe (toD m) 5 (λt=>t.mn) (λt=>to5 m _) rfl) ?_
    refine st_set _ (e_maxc hLe (toD m) 6 (λt=>t.mx) (λt=>to6 m _) rfl) ?_
    refine st_set _ (e_sumc hLe (toD m) 7 (λt=>t.su) (λt=>to7 m _) rfl) ?_
    have e1:(pot t ts).mn=_:=pt (λa=>a.mn) min (λ_ _=>rfl) t ts
    have e2:(pot t ts).mx=_:=pt (λa=>a.mx) max (λ_ _=>rfl) t ts
    have e3:(pot t ts).su=_:=pt (λa=>a.su) (·+·) (λ_ _=>rfl) t ts
    have e4:(pot t ts).n=_:=pt (λa=>a.n) (·+·) (λ_ _=>rfl) t ts
    have l8:8≤lim:=le_lim (by decide)
    have l6:6≤lim:=le_lim (by decide)
    have h0:ixQ (L.map (toD m)) 0=some (toD m t):=by rw [hLe,List.map_cons,ixQ_0]
    have eT:toD m (pot t ts)=.tup [.tup (bx m λj=>q4 ((pot t ts).c j)),.tup (bx m λj=>q4 ((pot t ts).h j)),.int ((pot t ts).so:Int),.int ((pot t ts).ev:Int),.int ((ts.map λt=>t.n).foldl (·+·) t.n),.int ((ts.map λt=>t.mn).foldl min t.mn),.int ((ts.map λt=>t.mx).foldl max t.mx),.int ((ts.map λt=>t.su).foldl (·+·) t.su)]:=by
      unfold toD
      rw [e1,e2,e3,e4]
    have eL:fl L=some (pot t ts):=by rw [hLe];rfl
    rw [eL]
    refine st_ret (r:=(false,toD m (pot t ts))) ?_ rfl
    rw [eT]
    simp only [retv,keepR,Bool.and_false,List.set_cons_succ,List.set_cons_zero,vE_bin,pk,vE_call,vG_cons,ag,getv,List.getElem?_cons_succ,List.getElem?_cons_zero,Option.join_some,Option.bind_some,agR,vE_bi,vAP_cons,vE_ix,pkR,vE_k,Option.map_some,ixP_L,h0,to0,evAP_nil,biP_lenT,bx_length,evG_nil,q30,vE_tup,vA_cons,vE_v,noOwn,evA_nil,List.length_cons,List.length_nil,Nat.reduceAdd,l6,↓reduceIte,binP_addT,l8,List.cons_append,List.nil_append]
end
section
variable {call:Nat→List D→Option R}{σ:En}{rest:List S}{z:Option Ou}
theorem st_forE {tg:Tg}{a:C}{body:List S}{r:R}{xs:List D}{σ':En}(h:evE call σ a=some r) (hr:seqP r.2=some xs) (hf:evFor call body tg (enumD 0 xs) σ=some (.nx σ')) (k:evSs call σ' rest=z):evSs call σ (.forE tg a body::rest)=z:=by
  rw [evSs_cons,evS_forE,h,Option.bind_some,show seqD r.2=some xs from hr,Option.bind_some,hf]
  exact k
theorem st_aug {i:Nat}{e:C}{a b:Int}(ho:getv σ i=some (false,.int a)) (h:pk σ e (evE call σ e)=some (.int b)) (k:evSs call (σ.set i (some (false,.int (a+b)))) rest=z):evSs call σ (.aug i e::rest)=z:=by
  rw [evSs_cons,evS_aug,h,Option.bind_some]
  unfold augD
  rw [ho]
  exact k
theorem st_popE {i:Nat}{xs:List D}{d:D}(ho:getv σ i=some (true,.lst (xs++[d]))) (k:evSs call (σ.set i (some (true,.lst xs))) rest=z):evSs call σ (.popE i::rest)=z:=by
  rw [evSs_cons,evS_popE]
  unfold popED
  rw [ho]
  simp only [List.getLast?_append,List.getLast?_singleton,Option.bind_some,List.dropLast_concat,Option.some_or]
  exact k
theorem ix_ret {d x:D}{i:Int}(h:ixP d (.int i)=some (false,x)):evSs call [some (false,d)] [.ret (.ix (.v 0) (.k (.int i)))]=some (.rt (false,x)):=st_ret (r:=(false,x)) (e_ix rfl rfl h) rfl
end
inductive Pg where
  | lf (o:Option To) (L:List Th)
  | fk (o:Option To) (ps:List Pg)
noncomputable def Pg.o:Pg→Option To
  | .lf o _=>o
  | .fk o _=>o
noncomputable def Pg.isLf:Pg→Bool
  | .lf _ _=>true
  | .fk _ _=>false
noncomputable def Pg.ks:Pg→List Pg
  | .lf _ _=>[]
  | .fk _ ps=>ps
mutual
noncomputable def pgD (m:Nat):Pg→D
  | .lf o L=>.tup [lfS,oD m o,.tup (L.map (thD m))]
  | .fk o ps=>.tup [fkS,oD m o,.tup (pgDs m ps)]
termination_by structural p=>p
noncomputable def pgDs (m:Nat):List Pg→List D
  | []=>[]
  | p::ps=>pgD m p::pgDs m ps
termination_by structural p=>p
end
theorem pgDs_map (m:Nat):∀ps:List Pg,pgDs m ps=ps.map (pgD m)
  | []=>rfl
  | p::ps=>by rw [List.map_cons,←pgDs_map m ps];rfl
noncomputable def prD (m:Nat):Pg→List D
  | .lf _ L=>L.map (thD m)
  | .fk _ ps=>ps.map (pgD m)
noncomputable def kdS:Pg→D
  | .lf _ _=>lfS
  | .fk _ _=>fkS
theorem pg_eq (m:Nat) (p:Pg):pgD m p=.tup [kdS p,oD m p.o,.tup (prD m p)]:=by
  cases p with
  | lf o L=>rfl
  | fk o ps=>show D.tup [fkS,oD m o,.tup (pgDs m ps)]=_;rw [pgDs_map];rfl
theorem pg0 (m:Nat) (p:Pg):ixP (pgD m p) (.int 0)=some (false,kdS p):=by rw [pg_eq];rfl
theorem pg1 (m:Nat) (p:Pg):ixP (pgD m p) (.int 1)=some (false,oD m p.o):=by rw [pg_eq];rfl
theorem pg2 (m:Nat) (p:Pg):ixP (pgD m p) (.int 2)=some (false,.tup (prD m p)):=by rw [pg_eq];rfl
theorem fk_lf:cmpP .eq fkS lfS=some (false,.bl false):=by
  have h:eqD fkS lfS=false:=by decide
  show some (false,D.bl (eqD fkS lfS))=_
  rw [h]
theorem lf_fk:cmpP .eq lfS fkS=some (false,.bl false):=by
  have h:eqD lfS fkS=false:=by decide
  show some (false,D.bl (eqD lfS fkS))=_
  rw [h]
theorem lf_lf:cmpP .eq lfS lfS=some (false,.bl true):=by
  have h:eqD lfS lfS=true:=by decide
  show some (false,D.bl (eqD lfS lfS))=_
  rw [h]
theorem fk_fk:cmpP .eq fkS fkS=some (false,.bl true):=by
  have h:eqD fkS fkS=true:=by decide
  show some (false,D.bl (eqD fkS fkS))=_
  rw [h]
theorem kd_lf (p:Pg):cmpP .eq (kdS p) lfS=some (false,.bl p.isLf):=by
  cases p with
  | lf _ _=>exact lf_lf
  | fk _ _=>exact fk_lf
theorem kd_fk (p:Pg):cmpP .eq (kdS p) fkS=some (false,.bl (!p.isLf)):=by
  cases p with
  | lf _ _=>exact lf_fk
  | fk _ _=>exact fk_fk
theorem ag_pg (m:Nat) (p:Pg):agE false [pgD m p]=[some (false,pgD m p)]:=by rw [pg_eq];rfl
theorem ag_pg2 (m:Nat) (p:Pg) (ds:List D):agE false (pgD m p::ds)=some (false,pgD m p)::agE false ds:=by rw [pg_eq];rfl
theorem c_leaf (n m:Nat) (p:Pg):callN tab (n+1) 0 [pgD m p]=some (false,.bl p.isLf):=
  call_rt (σ:=[some (false,pgD m p)]) t0 rfl (by rw [ag_pg]<;>rfl) (st_ret (r:=(false,.bl p.isLf)) (e_cmp (pk_ix (e_ix rfl rfl (pg0 m p))) rfl (kd_lf p)) rfl)
theorem c_pr (n m:Nat) (p:Pg):callN tab (n+1) 1 [pgD m p]=some (false,.tup (prD m p)):=call_rt t1 rfl (by rw [ag_pg]<;>rfl) (ix_ret (pg2 m p))
end Dw.T
namespace Dw.T
open Dw
noncomputable def OkT (o:Option To):Prop:=∀t,o=some t→t.ev<65536
noncomputable def Pk:Nat→Pg→Prop
  | 0,.lf o L=>OkT o∧L.length≤100
  | 0,.fk _ _=>False
  | _+1,.lf o L=>OkT o∧L.length≤100
  | h+1,.fk o ps=>OkT o∧ps≠[]∧∀p∈ps,Pk h p
noncomputable def hg:Nat→Pg→Nat
  | 0,_=>0
  | _+1,.lf _ _=>0
  | h+1,.fk _ ps=>match ps with
    | []=>0
    | q::_=>hg h q+1
section
variable {call:Nat→List D→Option R}{σ:En}
theorem whl_h (m:Nat) (c:En→Option R) (b:En→Option Ou) (hc:∀p (k:Int),c [some (false,pgD m p),some (false,.int k)]=some (false,.bl (!p.isLf)))
    (hb:∀o q qs (k:Int),b [some (false,pgD m (.fk o (q::qs))),some (false,.int k)]=some (.nx [some (false,pgD m q),some (false,.int (k+1))])) :
    ∀(h:Nat) (p:Pg) (k:Int) (fuel:Nat),Pk h p→h+1≤fuel→∃q,whlGo c b fuel [some (false,pgD m p),some (false,.int k)]=some (.nx [some (false,pgD m q),some (false,.int (k+hg h p))]):=by
  intro h
  induction h with
  | zero =>
    intro p k fuel hp hf
    obtain⟨f,rfl⟩:∃f,fuel=f+1:=⟨fuel - 1,by omega⟩
    cases p with
    | fk o ps=>exact hp.elim
    | lf o L =>
      refine⟨.lf o L,?_⟩
      rw [whlGo,hc]
      show some (Ou.nx _)=some (Ou.nx _)
      rw [show k+((hg 0 (.lf o L):Nat):Int)=k by simp [hg]]
  | succ h ih =>
    intro p k fuel hp hf
    obtain⟨f,rfl⟩:∃f,fuel=f+1:=⟨fuel - 1,by omega⟩
    cases p with
    | lf o L =>
      refine⟨.lf o L,?_⟩
      rw [whlGo,hc]
      show some (Ou.nx _)=some (Ou.nx _)
      rw [show k+((hg (h+1) (.lf o L):Nat):Int)=k by simp [hg]]
    | fk o ps =>
      obtain⟨h1,h2,h3⟩:=hp
      cases ps with
      | nil=>exact absurd rfl h2
      | cons q qs =>
        obtain⟨r,hr⟩:=ih q (k+1) f (h3 q List.mem_cons_self) (by omega)
        refine⟨r,?_⟩
        rw [whlGo,hc]
        show (b _).bind (loopK (whlGo c b f))=_
        rw [hb]
        show whlGo c b f _=_
        rw [hr,show k+1+((hg h q:Nat):Int)=k+((hg (h+1) (.fk o (q::qs)):Nat):Int) by simp only [hg];omega]
theorem big_ge (n:Nat) (h:n<1024):n≤big:=Nat.le_of_lt (Nat.lt_of_lt_of_le (show n<2^10 from h) (Nat.pow_le_pow_right (by decide) (by decide)))
theorem pr_fk0 (m:Nat) (o q qs):ixP (.tup (prD m (.fk o (q::qs)))) (.int 0)=some (false,pgD m q):=by
  show ixP (.tup (pgD m q::qs.map (pgD m))) (.int 0)=_
  rw [ixP_T,ixQ_0]
  rfl
theorem t_height (m h:Nat) (hh:h<100) (p:Pg) (hp:Pk h p) (C10:∀p,call 0 [pgD m p]=some (false,.bl p.isLf)) (C12:∀p,call 1 [pgD m p]=some (false,.tup (prD m p))) :
    evSs call [some (false,pgD m p),none] f_page_height.body=some (.rt (false,.int (hg h p:Nat))):=by
  refine st_set (false,.int 0) rfl ?_
  obtain⟨q,hq⟩:=whl_h m (fun σ'=>evE call σ' (.not (.call 0 [(.v 0)]))) (fun σ'=>evSs call σ' [.set 0 false (.ix (.call 1 [(.v 0)]) (.k (.int 0))),.aug 1 (.k (.int 1))]) (λp k=>by simp only [vE_not,vE_call,vG_cons,ag,getv,List.getElem?_cons_zero,Option.join_some,Option.bind_some,agR,evG_nil,C10])
    (λo q qs k=>by
      refine st_set (false,pgD m q) (e_ix (pk_call (e_call1 rfl (C12 _))) rfl (pr_fk0 m o q qs)) ?_
      exact st_aug (a:=k) (b:=1) rfl rfl rfl) h p 0 big hp (big_ge _ (by omega))
  rw [Int.zero_add] at hq
  exact st_whl hq (st_ret (r:=(false,.int (hg h p:Nat))) rfl rfl)
theorem t_high (m h:Nat) (hh:h<100) (p:Pg) (hp:Pk h p) :
    evSs call [some (false,pgD m p),none] f_law_high.body=some (.rt (false,.int (hg h p:Nat))):=by
  refine st_set (false,.int 0) rfl ?_
  obtain⟨q,hq⟩:=whl_h m (fun σ'=>evE call σ' (.cmp .eq (.ix (.v 0) (.k (.int 0))) (.k (.str (PySem.Str.ofString "fork"))))) (fun σ'=>evSs call σ' [.set 0 false (.ix (.ix (.v 0) (.k (.int 2))) (.k (.int 0))),.set 1 false (.bin .add (.v 1) (.k (.int 1)))]) (λp k=>e_cmp (pk_ix (e_ix rfl rfl (pg0 m p))) rfl (kd_fk p))
    (λo q qs k=>by
      refine st_set (false,pgD m q) (e_ix (pk_ix (e_ix rfl rfl (pg2 m _))) rfl (pr_fk0 m o q qs)) ?_
      exact st_set (false,.int (k+1)) (by simp only [keepR,Bool.and_false,List.set_cons_zero,vE_bin,pk,getv,List.getElem?_cons_succ,List.getElem?_cons_zero,Option.join_some,Option.bind_some,pkR,vE_k,Option.map_some,binP_add]) rfl) h p 0 big hp (big_ge _ (by omega))
  rw [Int.zero_add] at hq
  exact st_whl hq (st_ret (r:=(false,.int (hg h p:Nat))) rfl rfl)
end
section
variable {call:Nat→List D→Option R}{σ:En}
theorem e_or {a b:C}{x y:Bool}{p q:Bool}(ha:evE call σ a=some (x,.bl p)) (hb:evE call σ b=some (false,.bl q)):evE call σ (.or a b)=some (false,.bl (p||q)):=by
  rw [vE_or,ha]
  cases p with
  | true=>rfl
  | false=>exact hb
theorem e_call3 {f:Nat}{a b c:C}{x y w:D}{r:Option R}(ha:ag σ a (evE call σ a)=some x) (hb:ag σ b (evE call σ b)=some y) (hw:ag σ c (evE call σ c)=some w) (hc:call f [x,y,w]=r):evE call σ (.call f [a,b,c])=r:=by
  rw [evE_call,evG_cons,ha,Option.bind_some,evG_cons,hb,Option.bind_some,evG_cons,hw,Option.bind_some,evG_nil,Option.bind_some,Option.bind_some,Option.bind_some,Option.bind_some]
  exact hc
theorem e_call2 {f:Nat}{a b:C}{x y:D}{r:Option R}(ha:ag σ a (evE call σ a)=some x) (hb:ag σ b (evE call σ b)=some y) (hc:call f [x,y]=r):evE call σ (.call f [a,b])=r:=by
  rw [evE_call,evG_cons,ha,Option.bind_some,evG_cons,hb,Option.bind_some,evG_nil,Option.bind_some,Option.bind_some,Option.bind_some]
  exact hc
end
theorem c_height (n m h:Nat) (hh:h<100) (p:Pg) (hp:Pk h p):callN tab (n+2) 6 [pgD m p]=some (false,.int (hg h p:Nat)):=
  call_rt t6 rfl (by rw [ag_pg]<;>rfl) (t_height m h hh p hp (c_leaf n m) (c_pr n m))
noncomputable def piD (π:List Nat):D:=.tup (π.map λi:Nat=>.int (i:Int))
noncomputable def preL (f:List Nat→Pg→List (List Nat×Pg)) (π:List Nat):Nat→List Pg→List (List Nat×Pg)
  | _,[]=>[]
  | i,p::ps=>f (π++[i]) p++preL f π (i+1) ps
noncomputable def pre:Nat→List Nat→Pg→List (List Nat×Pg)
  | 0,π,p=>[(π,p)]
  | _+1,π,.lf o L=>[(π,.lf o L)]
  | h+1,π,.fk o ps=>(π,.fk o ps)::preL (pre h) π 0 ps
theorem pi_add (π:List Nat) (i:Nat) (h:π.length≤100000):binP .add (piD π) (.tup [.int (i:Int)])=some (false,piD (π++[i])):=by
  cases π with
  | nil=>rfl
  | cons a r =>
    show binP .add (.tup (.int (a:Int)::r.map λi:Nat=>.int (i:Int))) _=_
    rw [binP_addT,if_pos (le_lim (by rw [List.length_map];simp at h ⊢;omega))]
    unfold piD
    rw [List.map_append,List.map_cons]
    rfl
section
variable {call:Nat→List D→Option R}
theorem paths_loop (m h:Nat) (d0:D) (π:List Nat) (hπ:π.length≤1000):∀(ps:List Pg) (i:Nat) (acc:List D) (o3 o4:Option R),(∀q∈ps,∀π',π'.length=π.length+1→(pre h π' q).length≤10000→call 4 [pgD m q,piD π']=some (true,.lst ((pre h π' q).map λx=>piD x.1)))→acc.length+(preL (pre h) π i ps).length≤10000 →
    ∃o3' o4',evFor call [.ext 2 (.call 4 [(.v 4),(.bin .add (.v 1) (.tup [(.v 3)]))])] (.two 3 4) (enumD i (ps.map (pgD m))) [some (false,d0),some (false,piD π),some (true,.lst acc),o3,o4]=some (.nx [some (false,d0),some (false,piD π),some (true,.lst (acc++(preL (pre h) π i ps).map λx=>piD x.1)),o3',o4'])
  | [],i,acc,o3,o4,_,_=>⟨o3,o4,by rw [List.map_nil];show some (Ou.nx _)=_;rw [show preL (pre h) π i []=[] from rfl,List.map_nil,List.append_nil]⟩
  | q::qs,i,acc,o3,o4,hC,hl=>by
    have hl':acc.length+((pre h (π++[i]) q).length+(preL (pre h) π (i+1) qs).length)≤10000:=by
      have:preL (pre h) π i (q::qs)=pre h (π++[i]) q++preL (pre h) π (i+1) qs:=rfl
      rw [this,List.length_append] at hl
      exact hl
    obtain⟨o3',o4',ih⟩:=paths_loop m h d0 π hπ qs (i+1) (acc++(pre h (π++[i]) q).map λx=>piD x.1) (some (false,.int (i:Nat))) (some (false,pgD m q)) (λr hr=>hC r (List.mem_cons_of_mem _ hr)) (by rw [List.length_append,List.length_map];omega)
    refine⟨o3',o4',?_⟩
    have l1:1≤lim:=le_lim (by decide)
    have hq:=hC q List.mem_cons_self (π++[i]) (by simp) (by omega)
    have hcat:evE call [some (false,d0),some (false,piD π),some (true,.lst acc),some (false,.int (i:Nat)),some (false,pgD m q)] (.bin .add (.v 1) (.tup [(.v 3)]))=some (false,piD (π++[i])):=by
      have hpi:=pi_add π i (by omega)
      simp only [vE_bin,pk,getv,List.getElem?_cons_succ,List.getElem?_cons_zero,Option.join_some,Option.bind_some,pkR,vE_tup,vA_cons,vE_v,noOwn,evA_nil,List.length_cons,List.length_nil,Nat.reduceAdd,l1,↓reduceIte,Option.map_some,hpi]
    rw [List.map_cons,show enumD i (pgD m q::qs.map (pgD m))=.tup [.int (i:Nat),pgD m q]::enumD (i+1) (qs.map (pgD m)) from rfl,evFor_cons]
    show ((evSs call [some (false,d0),some (false,piD π),some (true,.lst acc),some (false,.int (i:Nat)),some (false,pgD m q)] [.ext 2 (.call 4 [(.v 4),(.bin .add (.v 1) (.tup [(.v 3)]))])]).bind _)=_
    rw [st_ext (rest:=[]) (z:=some (.nx [some (false,d0),some (false,piD π),some (true,.lst (acc++(pre h (π++[i]) q).map λx=>piD x.1)),some (false,.int (i:Nat)),some (false,pgD m q)])) (e_call2 (x:=pgD m q) (y:=piD (π++[i])) (by rw [pg_eq];rfl) (by rw [hcat];rfl) hq) rfl (le_lim (by rw [List.length_map];omega)) rfl]
    rw [Option.bind_some]
    show evFor call _ _ _ _=_
    rw [ih,List.append_assoc,←List.map_append]
    rfl
theorem t_paths (m h:Nat) (p:Pg) (hp:Pk (h+1) p) (π:List Nat) (hπ:π.length≤1000) (hl:(pre (h+1) π p).length≤10000) (C10:call 0 [pgD m p]=some (false,.bl p.isLf)) (C12:call 1 [pgD m p]=some (false,.tup (prD m p))) (C16:∀q∈p.ks,∀π',π'.length=π.length+1→(pre h π' q).length≤10000→call 4 [pgD m q,piD π']=some (true,.lst ((pre h π' q).map λx=>piD x.1))) :
    evSs call [some (false,pgD m p),some (false,piD π),none,none,none] f_paths_from.body=some (.rt (true,.lst ((pre (h+1) π p).map λx=>piD x.1))):=by
  have l1:1≤lim:=le_lim (by decide)
  refine st_set (true,.lst [piD π]) (by simp only [vE_lst,vA_cons,vE_v,noOwn,getv,List.getElem?_cons_succ,List.getElem?_cons_zero,Option.join_some,evA_nil,List.length_cons,List.length_nil,Nat.reduceAdd,l1,↓reduceIte]) ?_
  cases p with
  | lf o L=>exact st_skip (x:=false) (by simp only [keepR,Bool.and_true,List.set_cons_succ,List.set_cons_zero,vE_not,vE_call,vG_cons,ag,getv,List.getElem?_cons_zero,Option.join_some,Option.bind_some,agR,evG_nil,C10,Pg.isLf,Bool.not_true]) (st_ret (r:=(true,.lst [piD π])) rfl rfl)
  | fk o ps =>
    have hl2:[piD π].length+(preL (pre h) π 0 ps).length≤10000:=by
      have:pre (h+1) π (.fk o ps)=(π,.fk o ps)::preL (pre h) π 0 ps:=rfl
      rw [this,List.length_cons] at hl
      simpa [Nat.add_comm] using hl
    obtain⟨o3,o4,hf⟩:=paths_loop (call:=call) m h (pgD m (.fk o ps)) π hπ ps 0 [piD π] none none C16 hl2
    refine st_T (x:=false) (by simp only [keepR,Bool.and_true,List.set_cons_succ,List.set_cons_zero,vE_not,vE_call,vG_cons,ag,getv,List.getElem?_cons_zero,Option.join_some,Option.bind_some,agR,evG_nil,C10,Pg.isLf,Bool.not_false]) (st_forE (r:=(false,.tup (ps.map (pgD m)))) (e_call1 rfl C12) rfl hf rfl) ?_
    exact st_ret (r:=(true,.lst (piD π::(preL (pre h) π 0 ps).map λx=>piD x.1))) rfl rfl
end
theorem c_paths (m:Nat):∀(h n:Nat) (p:Pg) (π:List Nat),Pk h p→π.length+h≤1000→(pre h π p).length≤10000→callN tab (n+h+2) 4 [pgD m p,piD π]=some (true,.lst ((pre h π p).map λx=>piD x.1))
  | 0,n,p,π,hp,hπ,hl=>by
    cases p with
    | fk o ps=>exact hp.elim
    | lf o L=>exact call_rt t4 rfl (by rw [ag_pg2]<;>rfl) (t_paths (call:=callN tab (n+1)) m 0 (.lf o L) hp π (by omega) hl (c_leaf n m _) (c_pr n m _) λq hq=>nomatch hq)
  | h+1,n,p,π,hp,hπ,hl=>by
    refine call_rt t4 rfl (by rw [ag_pg2]<;>rfl) (t_paths (call:=callN tab (n+h+2)) m h p hp π (by omega) hl (c_leaf (n+h+1) m _) (c_pr (n+h+1) m _) λq hq π' h1 h2=>?_)
    cases p with
    | lf o L=>cases hq
    | fk o ps=>exact c_paths m h n q π' (hp.2.2 q hq) (by omega) h2
theorem Pk_mono:∀{h:Nat}{p:Pg},Pk h p→Pk (h+1) p
  | 0,.lf _ _,hp=>hp
  | 0,.fk _ _,hp=>hp.elim
  | _+1,.lf _ _,hp=>hp
  | _+1,.fk _ _,hp=>⟨hp.1,hp.2.1,λq hq=>Pk_mono (hp.2.2 q hq)⟩
theorem Pk_ok:∀{h:Nat}{p:Pg},Pk h p→OkT p.o
  | 0,.lf _ _,hp=>hp.1
  | 0,.fk _ _,hp=>hp.elim
  | _+1,.lf _ _,hp=>hp.1
  | _+1,.fk _ _,hp=>hp.1
inductive At:Pg→List Nat→Pg→Prop where
  | nil (p:Pg):At p [] p
  | cons {o:Option To} {ps:List Pg} {i:Nat} {q r:Pg} {ρ:List Nat}:ps[i]?=some q→At q ρ r→At (.fk o ps) (i::ρ) r
theorem preL_mem {f:List Nat→Pg→List (List Nat×Pg)}{π:List Nat}{x:List Nat×Pg}:∀(ps:List Pg) (k:Nat),x∈preL f π k ps→∃j q,ps[j]?=some q∧x∈f (π++[k+j]) q
  | [],_,h=>nomatch h
  | p::ps,k,h=>by
    have h:x∈f (π++[k]) p++preL f π (k+1) ps:=h
    rcases List.mem_append.mp h with h|h
    · exact⟨0,p,rfl,h⟩
    · obtain⟨j,q,h1,h2⟩:=preL_mem ps (k+1) h
      exact⟨j+1,q,h1,by rw [show k+(j+1)=k+1+j by omega];exact h2⟩
theorem pre_at:∀(h:Nat) (p:Pg) (π:List Nat) (x:List Nat×Pg),Pk h p→x∈pre h π p→∃ρ,x.1=π++ρ∧At p ρ x.2∧Pk h x.2∧ρ.length≤h
  | 0,p,π,x,hp,hx=>by
    have hx:x∈[(π,p)]:=hx
    rw [List.mem_singleton] at hx
    subst hx
    exact⟨[],by simp,.nil p,hp,Nat.zero_le _⟩
  | h+1,.lf o L,π,x,hp,hx=>by
    have hx:x∈[(π,Pg.lf o L)]:=hx
    rw [List.mem_singleton] at hx
    subst hx
    exact⟨[],by simp,.nil _,hp,Nat.zero_le _⟩
  | h+1,.fk o ps,π,x,hp,hx=>by
    have hx:x∈(π,Pg.fk o ps)::preL (pre h) π 0 ps:=hx
    rcases List.mem_cons.mp hx with rfl|hx
    · exact⟨[],by simp,.nil _,hp,Nat.zero_le _⟩
    · obtain⟨j,q,h1,h2⟩:=preL_mem ps 0 hx
      rw [Nat.zero_add] at h2
      obtain⟨ρ,e1,e2,e3,e4⟩:=pre_at h q (π++[j]) x (hp.2.2 q (List.mem_of_getElem? h1)) h2
      exact⟨j::ρ,by rw [e1,List.append_assoc];rfl,.cons h1 e2,Pk_mono e3,by simp;omega⟩
section
variable {call:Nat→List D→Option R}
theorem at_loop (m:Nat) (d0 d1:D) (C10:∀p,call 0 [pgD m p]=some (false,.bl p.isLf)) (C12:∀p,call 1 [pgD m p]=some (false,.tup (prD m p))) {p q:Pg}{ρ:List Nat}(ha:At p ρ q):∀o3:Option R,
    ∃o3',evFor call [.ite (.or (.call 0 [(.v 2)]) (.or (.cmp .lt (.v 3) (.k (.int 0))) (.cmp .ge (.v 3) (.bi .len [(.call 1 [(.v 2)])])))) [.rse (PySem.Str.ofString "NoPath")] [],.set 2 false (.ix (.call 1 [(.v 2)]) (.v 3))] (.one 3) (ρ.map λi:Nat=>D.int (i:Int)) [some (false,d0),some (false,d1),some (false,pgD m p),o3]=some (.nx [some (false,d0),some (false,d1),some (false,pgD m q),o3']):=by
  induction ha with
  | nil p=>exact λo3=>⟨o3,rfl⟩
  | @cons o ps i q r ρ hi _ ih =>
    intro o3
    obtain⟨o3',ih⟩:=ih (some (false,.int (i:Int)))
    refine⟨o3',?_⟩
    have hlt:i<ps.length:=(List.getElem?_eq_some_iff.mp hi).1
    have h1:evE call [some (false,d0),some (false,d1),some (false,pgD m (.fk o ps)),some (false,.int (i:Int))] (.or (.call 0 [(.v 2)]) (.or (.cmp .lt (.v 3) (.k (.int 0))) (.cmp .ge (.v 3) (.bi .len [(.call 1 [(.v 2)])]))))=some (false,.bl false):=by
      refine e_or (x:=false) (y:=false) (p:=false) (q:=false) (e_call1 rfl (C10 _)) (e_or (x:=false) (y:=false) (p:=false) (q:=false) (e_cmp rfl rfl ?_) (e_cmp rfl (pk_bi (r:=(false,.int ((ps.length:Nat):Int))) (e_bi1 (pk_call (e_call1 rfl (C12 _))) ?_)) ?_))
      · show some (false,D.bl (decide ((i:Int)<0)))=_
        rw [decide_eq_false (by omega)]
      · show some (false,D.int (((ps.map (pgD m)).length:Nat):Int))=_
        rw [List.length_map]
      · show some (false,D.bl (decide (((ps.length:Nat):Int)≤(i:Int))))=_
        rw [decide_eq_false (by omega)]
    have h2:evE call [some (false,d0),some (false,d1),some (false,pgD m (.fk o ps)),some (false,.int (i:Int))] (.ix (.call 1 [(.v 2)]) (.v 3))=some (false,pgD m q):=by
      refine e_ix (pk_call (e_call1 rfl (C12 _))) rfl ?_
      show ixP (.tup (ps.map (pgD m))) (.int ((i:Nat):Int))=_
      rw [ixP_T,ixQ_nat,List.getElem?_map,hi]
      rfl
    rw [List.map_cons,evFor_cons]
    show ((evSs call [some (false,d0),some (false,d1),some (false,pgD m (.fk o ps)),some (false,.int (i:Int))] [.ite (.or (.call 0 [(.v 2)]) (.or (.cmp .lt (.v 3) (.k (.int 0))) (.cmp .ge (.v 3) (.bi .len [(.call 1 [(.v 2)])])))) [.rse (PySem.Str.ofString "NoPath")] [],.set 2 false (.ix (.call 1 [(.v 2)]) (.v 3))]).bind _)=_
    rw [st_skip (z:=some (.nx [some (false,d0),some (false,d1),some (false,pgD m q),some (false,.int (i:Int))])) h1 (st_set (false,pgD m q) h2 rfl)]
    exact ih
theorem t_at (m:Nat) {p q:Pg}{π:List Nat}(ha:At p π q) (C10:∀p,call 0 [pgD m p]=some (false,.bl p.isLf)) (C12:∀p,call 1 [pgD m p]=some (false,.tup (prD m p))) :
    evSs call [some (false,pgD m p),some (false,piD π),none,none] f_page_at.body=some (.rt (false,pgD m q)):=by
  refine st_set (false,pgD m p) (by rw [pg_eq];rfl) ?_
  obtain⟨o3,h⟩:=at_loop m (pgD m p) (piD π) C10 C12 ha none
  exact st_forS (r:=(false,piD π)) rfl rfl h (st_ret (r:=(false,pgD m q)) (by rw [pg_eq];rfl) rfl)
end
theorem c_at (n m:Nat) {p q:Pg}{π:List Nat}(ha:At p π q):callN tab (n+2) 3 [pgD m p,piD π]=some (false,pgD m q):=
  call_rt t3 rfl (by rw [ag_pg2]<;>rfl) (t_at m ha (c_leaf n m) (c_pr n m)) (by rw [pg_eq];rfl)
theorem t_pin {call:Nat→List D→Option R}(m:Nat) (p:Pg) (xs:List D) (C:call 4 [pgD m p,piD []]=some (true,.lst xs)):evSs call [some (false,pgD m p)] f_paths_in.body=some (.rt (false,.tup xs)):=
  st_ret (r:=(false,.tup xs)) (e_bi1 (x:=.lst xs) (pk_call (r:=(true,.lst xs)) (e_call2 (x:=pgD m p) (y:=piD []) rfl rfl C)) rfl) rfl
theorem c_pin (m h n:Nat) (p:Pg) (hp:Pk h p) (hh:h≤1000) (hl:(pre h [] p).length≤10000):callN tab (n+h+3) 5 [pgD m p]=some (false,.tup ((pre h [] p).map λx=>piD x.1)):=
  call_rt t5 rfl (by rw [ag_pg]<;>rfl) (t_pin (call:=callN tab (n+h+2)) m p _ (c_paths m h n p [] hp (by simpa using hh) hl))
theorem preL_congr {f g:List Nat→Pg→List (List Nat×Pg)}{π:List Nat}:∀(ps:List Pg) (k:Nat),(∀q∈ps,∀π,f π q=g π q)→preL f π k ps=preL g π k ps
  | [],_,_=>rfl
  | p::ps,k,h=>by
    show f (π++[k]) p++preL f π (k+1) ps=g (π++[k]) p++preL g π (k+1) ps
    rw [h p List.mem_cons_self,preL_congr ps (k+1) λq hq=>h q (List.mem_cons_of_mem _ hq)]
theorem pre_mono:∀(h:Nat) (p:Pg) (π:List Nat),Pk h p→pre (h+1) π p=pre h π p
  | 0,.lf _ _,_,_=>rfl
  | 0,.fk _ _,_,hp=>hp.elim
  | _+1,.lf _ _,_,_=>rfl
  | h+1,.fk o ps,π,hp=>by
    show (π,Pg.fk o ps)::preL (pre (h+1)) π 0 ps=(π,Pg.fk o ps)::preL (pre h) π 0 ps
    rw [preL_congr ps 0 λq hq π=>pre_mono h q π (hp.2.2 q hq)]
theorem pre_fk {H:Nat}{o:Option To}{ps:List Pg}(hp:Pk H (.fk o ps)) (π:List Nat):pre H π (.fk o ps)=(π,.fk o ps)::preL (pre H) π 0 ps:=by
  cases H with
  | zero=>exact hp.elim
  | succ h =>
    show (π,Pg.fk o ps)::preL (pre h) π 0 ps=_
    rw [preL_congr ps 0 λq hq π=>(pre_mono h q π (hp.2.2 q hq)).symm]
theorem pre_lf (H:Nat) (o:Option To) (L:List Th) (π:List Nat):pre H π (.lf o L)=[(π,.lf o L)]:=by cases H<;>rfl
theorem Pk_kid {H:Nat}{o:Option To}{ps:List Pg}(hp:Pk H (.fk o ps)):∀q∈ps,Pk H q:=by
  cases H with
  | zero=>exact hp.elim
  | succ h=>exact λq hq=>Pk_mono (hp.2.2 q hq)
noncomputable def kd (π:List Nat):Nat→List Pg→List (List Nat×Pg)
  | _,[]=>[]
  | k,p::ps=>(π++[k],p)::kd π (k+1) ps
theorem kd_flat (H:Nat) (π:List Nat):∀(ps:List Pg) (k:Nat),(kd π k ps).flatMap (λx=>pre H x.1 x.2)=preL (pre H) π k ps
  | [],_=>rfl
  | p::ps,k=>by
    show pre H (π++[k]) p++(kd π (k+1) ps).flatMap _=_
    rw [kd_flat H π ps (k+1)]
    rfl
theorem kd_len (π:List Nat):∀(ps:List Pg) (k:Nat),(kd π k ps).length=ps.length
  | [],_=>rfl
  | p::ps,k=>by show (kd π (k+1) ps).length+1=_;rw [kd_len π ps (k+1)];rfl
theorem kd_get (π:List Nat):∀(ps:List Pg) (k j:Nat) (h:j<ps.length),(kd π k ps)[j]?=some (π++[k+j],ps[j])
  | p::ps,k,0,h=>rfl
  | p::ps,k,j+1,h=>by
    show (kd π (k+1) ps)[j]?=_
    rw [kd_get π ps (k+1) j (by simpa using h),show k+1+j=k+(j+1) by omega]
    rfl
theorem kd_mem (π:List Nat):∀(ps:List Pg) (k:Nat) (x:List Nat×Pg),x∈kd π k ps→x.1.length=π.length+1∧x.2∈ps
  | p::ps,k,x,h=>by
    rcases List.mem_cons.mp (show x∈(π++[k],p)::kd π (k+1) ps from h) with rfl|h
    · exact⟨by simp,List.mem_cons_self⟩
    · obtain⟨a,b⟩:=kd_mem π ps (k+1) x h
      exact⟨a,List.mem_cons_of_mem _ b⟩
noncomputable def rwD (m:Nat) (x:List Nat×Pg):D:=.tup [piD x.1,pgD m x.2]
theorem ixQ_last (xs:List D) (x:D):ixQ (xs++[x]) (-1)=some x:=by
  unfold ixQ ixD ixN
  rw [if_neg (by omega),if_pos (by simp;omega),Option.bind_some]
  have:(-1+((xs++[x]).length:Int)).toNat=xs.length:=by simp;omega
  rw [this]
  simp
noncomputable def kidsOf (x:List Nat×Pg):List (List Nat×Pg):=kd x.1 0 x.2.ks
theorem pre_eq {H:Nat}{x:List Nat×Pg}(hp:Pk H x.2):pre H x.1 x.2=x::(kidsOf x).flatMap λy=>pre H y.1 y.2:=by
  obtain⟨π,p⟩:=x
  cases p with
  | lf o L=>rw [pre_lf];rfl
  | fk o ps=>rw [pre_fk hp,←kd_flat];rfl
theorem pre_pos (H:Nat) (π:List Nat) (p:Pg):1≤(pre H π p).length:=by
  cases H with
  | zero=>exact Nat.le_refl _
  | succ h=>cases p with
    | lf o L=>exact Nat.le_refl _
    | fk o ps=>show 1≤(preL (pre h) π 0 ps).length+1;omega
theorem len_flat (H:Nat):∀l:List (List Nat×Pg),l.length≤(l.flatMap λx=>pre H x.1 x.2).length
  | []=>Nat.le_refl _
  | x::l=>by
    rw [List.flatMap_cons,List.length_append,List.length_cons]
    have:=len_flat H l
    have:=pre_pos H x.1 x.2
    omega
section
variable {call:Nat→List D→Option R}
theorem push_loop (m:Nat) (d0:D) (rows base:List D) (π:List Nat) (hπ:π.length≤10000) (o:Option To) (ps:List Pg) (hb:base.length+ps.length≤20000) (o5:Option R) :
    ∃o5',evFor call [.app 2 (.tup [(.bin .add (.v 3) (.tup [(.v 5)])),(.ix (.ix (.v 4) (.k (.int 2))) (.v 5))])] (.one 5) ((List.range ps.length).map λi:Nat=>D.int (((ps.length:Nat):Int) - 1 - (i:Int))) [some (false,d0),some (true,.lst rows),some (true,.lst base),some (false,piD π),some (false,pgD m (.fk o ps)),o5] =
      some (.nx [some (false,d0),some (true,.lst rows),some (true,.lst (base++((kd π 0 ps).map (rwD m)).reverse)),some (false,piD π),some (false,pgD m (.fk o ps)),o5']):=by
  have l2:2≤lim:=le_lim (by decide)
  have l1:1≤lim:=le_lim (by decide)
  obtain⟨σ',h',hσ⟩:=evFor_rng (call:=call) (tg:=.one 5) (body:=[.app 2 (.tup [(.bin .add (.v 3) (.tup [(.v 5)])),(.ix (.ix (.v 4) (.k (.int 2))) (.v 5))])]) (λj σ=>∃o5,σ=[some (false,d0),some (true,.lst rows),some (true,.lst (base++(((kd π 0 ps).drop (ps.length - j)).map (rwD m)).reverse)),some (false,piD π),some (false,pgD m (.fk o ps)),o5]) ps.length (λi:Nat=>D.int (((ps.length:Nat):Int) - 1 - (i:Int)))
    [some (false,d0),some (true,.lst rows),some (true,.lst base),some (false,piD π),some (false,pgD m (.fk o ps)),o5] ⟨o5,by rw [Nat.sub_zero,List.drop_eq_nil_of_le (by rw [kd_len];exact Nat.le_refl _),List.map_nil,List.reverse_nil,List.append_nil]⟩ (by
      rintro j σ hj ⟨o5,rfl⟩
      have ei:((ps.length:Nat):Int) - 1 - (j:Int)=((ps.length - 1 - j:Nat):Int):=by omega
      have hi:ps.length - 1 - j<ps.length:=by omega
      have hg:=kd_get π ps 0 (ps.length - 1 - j) hi
      rw [Nat.zero_add] at hg
      have hd:(kd π 0 ps).drop (ps.length - (j+1))=(π++[ps.length - 1 - j],ps[ps.length - 1 - j])::(kd π 0 ps).drop (ps.length - j):=by
        obtain⟨q1,q2⟩:=List.getElem?_eq_some_iff.mp hg
        rw [show ps.length - (j+1)=ps.length - 1 - j by omega,List.drop_eq_getElem_cons q1,q2,show ps.length - 1 - j+1=ps.length - j by omega]
      have hx:ixP (.tup (prD m (.fk o ps))) (.int ((ps.length - 1 - j:Nat):Int))=some (false,pgD m ps[ps.length - 1 - j]):=by
        show ixP (.tup (ps.map (pgD m))) _=_
        rw [ixP_T,ixQ_nat,List.getElem?_map,List.getElem?_eq_getElem hi]
        rfl
      have hpi:=pi_add π (ps.length - 1 - j) (by omega)
      have h2:=pg2 m (.fk o ps)
      refine⟨_,_,rfl,?_,some (false,.int ((ps.length - 1 - j:Nat):Int)),rfl⟩
      rw [ei]
      refine st_app (false,rwD m (π++[ps.length - 1 - j],ps[ps.length - 1 - j])) (by unfold rwD;simp only [List.set_cons_succ,List.set_cons_zero,vE_tup,vA_cons,vE_bin,pk,getv,List.getElem?_cons_succ,List.getElem?_cons_zero,Option.join_some,Option.bind_some,pkR,vE_v,noOwn,evA_nil,List.length_cons,List.length_nil,Nat.reduceAdd,l1,↓reduceIte,Option.map_some,hpi,vE_ix,vE_k,h2,hx,l2]) rfl (Nat.lt_of_lt_of_le (show _<30000 by rw [List.length_append,List.length_reverse,List.length_map,List.length_drop,kd_len];omega) (le_lim (by decide))) ?_
      rw [hd,List.map_cons,List.reverse_cons,←List.append_assoc]
      rfl)
  obtain⟨o5',rfl⟩:=hσ
  refine⟨o5',?_⟩
  rw [h',Nat.sub_self,List.drop_zero]
theorem walk_step (m:Nat) (d0:D) (rows base:List D) (x:List Nat×Pg) (hπ:x.1.length≤10000) (hr:rows.length≤10000) (hb:base.length+x.2.ks.length≤20000) (o3 o4 o5:Option R) :
    ∃o5',evSs call [some (false,d0),some (true,.lst rows),some (true,.lst (base++[rwD m x])),o3,o4,o5] [.set 3 false (.ix (.ix (.v 2) (.neg (.k (.int 1)))) (.k (.int 0))),.set 4 false (.ix (.ix (.v 2) (.neg (.k (.int 1)))) (.k (.int 1))),.popE 2,.app 1 (.tup [(.v 3),(.v 4)]),.ite (.cmp .eq (.ix (.v 4) (.k (.int 0))) (.k (.str (PySem.Str.ofString "fork")))) [.forV (.one 5) [(.bi .len [(.ix (.v 4) (.k (.int 2)))])] [.app 2 (.tup [(.bin .add (.v 3) (.tup [(.v 5)])),(.ix (.ix (.v 4) (.k (.int 2))) (.v 5))])]] []]=some (.nx [some (false,d0),some (true,.lst (rows++[rwD m x])),some (true,.lst (base++((kidsOf x).map (rwD m)).reverse)),some (false,piD x.1),some (false,pgD m x.2),o5']):=by
  have l2:2≤lim:=le_lim (by decide)
  have hl:ixP (.lst (base++[rwD m x])) (.int (-1))=some (false,rwD m x):=by rw [ixP_L,ixQ_last];rfl
  obtain⟨π,p⟩:=x
  have st:∀o5',(evSs call [some (false,d0),some (true,.lst (rows++[rwD m (π,p)])),some (true,.lst base),some (false,piD π),some (false,pgD m p),o5] [.ite (.cmp .eq (.ix (.v 4) (.k (.int 0))) (.k (.str (PySem.Str.ofString "fork")))) [.forV (.one 5) [(.bi .len [(.ix (.v 4) (.k (.int 2)))])] [.app 2 (.tup [(.bin .add (.v 3) (.tup [(.v 5)])),(.ix (.ix (.v 4) (.k (.int 2))) (.v 5))])]] []]=some (.nx [some (false,d0),some (true,.lst (rows++[rwD m (π,p)])),some (true,.lst (base++((kidsOf (π,p)).map (rwD m)).reverse)),some (false,piD π),some (false,pgD m p),o5'])) →
      evSs call [some (false,d0),some (true,.lst rows),some (true,.lst (base++[rwD m (π,p)])),o3,o4,o5] [.set 3 false (.ix (.ix (.v 2) (.neg (.k (.int 1)))) (.k (.int 0))),.set 4 false (.ix (.ix (.v 2) (.neg (.k (.int 1)))) (.k (.int 1))),.popE 2,.app 1 (.tup [(.v 3),(.v 4)]),.ite (.cmp .eq (.ix (.v 4) (.k (.int 0))) (.k (.str (PySem.Str.ofString "fork")))) [.forV (.one 5) [(.bi .len [(.ix (.v 4) (.k (.int 2)))])] [.app 2 (.tup [(.bin .add (.v 3) (.tup [(.v 5)])),(.ix (.ix (.v 4) (.k (.int 2))) (.v 5))])]] []]=some (.nx [some (false,d0),some (true,.lst (rows++[rwD m (π,p)])),some (true,.lst (base++((kidsOf (π,p)).map (rwD m)).reverse)),some (false,piD π),some (false,pgD m p),o5']):=λo5' h=>by
    refine st_set (false,piD π) (e_ix (pk_ix (e_ix rfl rfl hl)) rfl rfl) ?_
    refine st_set (false,pgD m p) (e_ix (pk_ix (e_ix rfl rfl hl)) rfl rfl) ?_
    refine st_popE (xs:=base) (d:=rwD m (π,p)) rfl ?_
    refine st_app (false,rwD m (π,p)) (by unfold rwD;simp only [keepR,Bool.and_false,List.set_cons_succ,List.set_cons_zero,vE_tup,vA_cons,vE_v,noOwn,getv,List.getElem?_cons_succ,List.getElem?_cons_zero,Option.join_some,evA_nil,List.length_cons,List.length_nil,Nat.reduceAdd,l2,↓reduceIte]) rfl (Nat.lt_of_lt_of_le (show rows.length<10001 by omega) (le_lim (by decide))) ?_
    exact h
  cases p with
  | lf o L =>
    refine⟨o5,st o5 (st_skip (x:=false) (e_cmp (pk_ix (e_ix rfl rfl (pg0 m _))) rfl (kd_fk (.lf o L))) ?_)⟩
    show some (Ou.nx _)=some (Ou.nx _)
    rw [show kidsOf (π,Pg.lf o L)=[] from rfl,List.map_nil,List.reverse_nil,List.append_nil]
  | fk o ps =>
    obtain⟨o5',hf⟩:=push_loop (call:=call) m d0 (rows++[rwD m (π,.fk o ps)]) base π hπ o ps hb o5
    refine⟨o5',st o5' (st_T (x:=false) (e_cmp (pk_ix (e_ix rfl rfl (pg0 m _))) rfl (kd_fk (.fk o ps))) (st_forV (ds:=[.int ((ps.length:Nat):Int)]) ?_ ?_ hf rfl) rfl)⟩
    · have hlen:evE call [some (false,d0),some (true,.lst (rows++[rwD m (π,.fk o ps)])),some (true,.lst base),some (false,piD π),some (false,pgD m (.fk o ps)),o5] (.bi .len [(.ix (.v 4) (.k (.int 2)))])=some (false,.int ((ps.length:Nat):Int)):=by
        refine e_bi1 (pk_ix (e_ix rfl rfl (pg2 m _))) ?_
        show some (false,D.int (((ps.map (pgD m)).length:Nat):Int))=_
        rw [List.length_map]
      rw [vAP_cons,hlen]
      rfl
    · have hb':ps.length≤20000:=Nat.le_trans (Nat.le_add_left _ _) hb
      rw [rvP_1,if_pos (by constructor<;>omega)]
      simp only [Int.toNat_natCast]
theorem whl_w (m H:Nat) (d0:D):∀(N:Nat) (Sk rs:List (List Nat×Pg)) (o3 o4 o5:Option R) (fuel:Nat),(Sk.flatMap λx=>pre H x.1 x.2).length≤N→N+1≤fuel→(∀x∈Sk,Pk H x.2∧x.1.length≤rs.length)→rs.length+N≤10000 →
    ∃o3' o4' o5',whlGo (fun σ'=>evE call σ' (.cmp .gt (.bi .len [(.v 2)]) (.k (.int 0)))) (fun σ'=>evSs call σ' [.set 3 false (.ix (.ix (.v 2) (.neg (.k (.int 1)))) (.k (.int 0))),.set 4 false (.ix (.ix (.v 2) (.neg (.k (.int 1)))) (.k (.int 1))),.popE 2,.app 1 (.tup [(.v 3),(.v 4)]),.ite (.cmp .eq (.ix (.v 4) (.k (.int 0))) (.k (.str (PySem.Str.ofString "fork")))) [.forV (.one 5) [(.bi .len [(.ix (.v 4) (.k (.int 2)))])] [.app 2 (.tup [(.bin .add (.v 3) (.tup [(.v 5)])),(.ix (.ix (.v 4) (.k (.int 2))) (.v 5))])]] []]) fuel [some (false,d0),some (true,.lst (rs.map (rwD m))),some (true,.lst (Sk.map (rwD m)).reverse),o3,o4,o5] =
      some (.nx [some (false,d0),some (true,.lst ((rs++Sk.flatMap λx=>pre H x.1 x.2).map (rwD m))),some (true,.lst []),o3',o4',o5']):=by
  have done:∀(rs:List (List Nat×Pg)) (o3 o4 o5:Option R) (f:Nat),whlGo (fun σ'=>evE call σ' (.cmp .gt (.bi .len [(.v 2)]) (.k (.int 0)))) (fun σ'=>evSs call σ' [.set 3 false (.ix (.ix (.v 2) (.neg (.k (.int 1)))) (.k (.int 0))),.set 4 false (.ix (.ix (.v 2) (.neg (.k (.int 1)))) (.k (.int 1))),.popE 2,.app 1 (.tup [(.v 3),(.v 4)]),.ite (.cmp .eq (.ix (.v 4) (.k (.int 0))) (.k (.str (PySem.Str.ofString "fork")))) [.forV (.one 5) [(.bi .len [(.ix (.v 4) (.k (.int 2)))])] [.app 2 (.tup [(.bin .add (.v 3) (.tup [(.v 5)])),(.ix (.ix (.v 4) (.k (.int 2))) (.v 5))])]] []]) (f+1) [some (false,d0),some (true,.lst (rs.map (rwD m))),some (true,.lst (([]:List (List Nat×Pg)).map (rwD m)).reverse),o3,o4,o5] =
      some (.nx [some (false,d0),some (true,.lst ((rs++([]:List (List Nat×Pg)).flatMap λx=>pre H x.1 x.2).map (rwD m))),some (true,.lst []),o3,o4,o5]):=λrs o3 o4 o5 f=>by
    rw [show (([]:List (List Nat×Pg)).flatMap λx=>pre H x.1 x.2)=[] from rfl,List.append_nil]
    rfl
  intro N
  induction N with
  | zero =>
    intro Sk rs o3 o4 o5 fuel h1 h2 h3 h4
    obtain⟨f,rfl⟩:∃f,fuel=f+1:=⟨fuel - 1,by omega⟩
    cases Sk with
    | nil=>exact⟨o3,o4,o5,done rs o3 o4 o5 f⟩
    | cons x Sk =>
      have:=len_flat H (x::Sk)
      rw [List.length_cons] at this
      omega
  | succ N ih =>
    intro Sk rs o3 o4 o5 fuel h1 h2 h3 h4
    obtain⟨f,rfl⟩:∃f,fuel=f+1:=⟨fuel - 1,by omega⟩
    cases Sk with
    | nil=>exact⟨o3,o4,o5,done rs o3 o4 o5 f⟩
    | cons x Sk =>
      obtain⟨hx,hxl⟩:=h3 x List.mem_cons_self
      have e0:=pre_eq hx
      have e1:((x::Sk).flatMap λx=>pre H x.1 x.2)=x::((kidsOf x++Sk).flatMap λx=>pre H x.1 x.2):=by
        rw [List.flatMap_cons,e0,List.flatMap_append,List.cons_append]
      have h1':((kidsOf x++Sk).flatMap λx=>pre H x.1 x.2).length≤N:=by
        rw [e1,List.length_cons] at h1
        omega
      have hln:=len_flat H (kidsOf x++Sk)
      rw [List.length_append] at hln
      have hkl:(kidsOf x).length=x.2.ks.length:=kd_len _ _ _
      obtain⟨o5',hs⟩:=walk_step (call:=call) m d0 (rs.map (rwD m)) (Sk.map (rwD m)).reverse x (by omega) (by rw [List.length_map];omega) (by rw [List.length_reverse,List.length_map];omega) o3 o4 o5
      obtain⟨p3,p4,p5,hi⟩:=ih (kidsOf x++Sk) (rs++[x]) (some (false,piD x.1)) (some (false,pgD m x.2)) o5' f h1' (by omega) (λy hy=>by
        rw [List.length_append]
        rcases List.mem_append.mp hy with hy|hy
        · obtain⟨a,b⟩:=kd_mem _ _ _ y hy
          refine⟨?_,by rw [a];simp;omega⟩
          obtain⟨π,p⟩:=x
          cases p with
          | lf o L=>cases b
          | fk o ps=>exact Pk_kid hx _ b
        · obtain⟨a,b⟩:=h3 y (List.mem_cons_of_mem _ hy)
          exact⟨a,by omega⟩) (by rw [List.length_append];simp;omega)
      refine⟨p3,p4,p5,?_⟩
      rw [List.map_append,List.map_cons,List.map_nil] at hi
      rw [List.map_append,List.reverse_append] at hi
      rw [List.map_cons,List.reverse_cons,whlGo]
      have hc:evE call [some (false,d0),some (true,.lst (rs.map (rwD m))),some (true,.lst ((Sk.map (rwD m)).reverse++[rwD m x])),o3,o4,o5] (.cmp .gt (.bi .len [(.v 2)]) (.k (.int 0)))=some (false,.bl true):=by
        refine e_cmp (x:=.int ((((Sk.map (rwD m)).reverse++[rwD m x]).length:Nat):Int)) rfl rfl ?_
        show some (false,D.bl (decide ((0:Int)<((((Sk.map (rwD m)).reverse++[rwD m x]).length:Nat):Int))))=_
        rw [decide_eq_true (by rw [List.length_append,List.length_singleton];omega)]
      show (evE call _ _).bind _=_
      rw [hc]
      show (evSs call _ _).bind (loopK _)=_
      rw [hs]
      show whlGo _ _ f _=_
      rw [hi,e1,List.append_assoc]
      rfl
theorem t_walk (m H:Nat) (p:Pg) (hp:Pk H p) (hl:(pre H [] p).length≤1000):evSs call [some (false,pgD m p),none,none,none,none,none] f_law_walk.body=some (.rt (true,.lst ((pre H [] p).map (rwD m)))):=by
  have l1:1≤lim:=le_lim (by decide)
  have l2:2≤lim:=le_lim (by decide)
  have e:([([],p)]:List (List Nat×Pg)).flatMap (λx=>pre H x.1 x.2)=pre H [] p:=by rw [List.flatMap_cons];simp
  obtain⟨o3,o4,o5,hw⟩:=whl_w (call:=call) m H (pgD m p) 1000 [([],p)] [] none none none big (by rw [e];exact hl) (big_ge _ (by decide)) (λx hx=>by rw [List.mem_singleton] at hx;subst hx;exact⟨hp,Nat.le_refl _⟩) (by decide)
  rw [e,List.nil_append] at hw
  refine st_set (true,.lst []) (by simp only [vE_lst,evA_nil,List.length_nil,lim0,↓reduceIte]) ?_
  refine st_set (true,.lst [rwD m ([],p)]) (by unfold rwD;simp only [keepR,Bool.and_true,List.set_cons_succ,List.set_cons_zero,vE_lst,vA_cons,vE_tup,evA_nil,List.length_nil,lim0,↓reduceIte,vE_v,noOwn,getv,List.getElem?_cons_zero,Option.join_some,List.length_cons,Nat.reduceAdd,l2,l1];rfl) ?_
  exact st_whl hw (st_ret (r:=(true,.lst ((pre H [] p).map (rwD m)))) rfl rfl)
end
end Dw.T
namespace Dw.T
open Dw
noncomputable def E30:Int:=1000000000000000000000000000000
noncomputable def ThOk (m:Nat) (t:Th):Prop:=∀j,j<m→(-E30≤(t.sw j).1∧(t.sw j).1≤E30)∧(-E30≤(t.sw j).2.1∧(t.sw j).2.1≤E30)
noncomputable def LastOk (m:Nat) (last:D):Prop:=∀j:Nat,j<m→∃(d:D) (g:Int),ixP last (.int (j:Int))=some (false,d)∧ixP d (.int 1)=some (false,.int g)∧(-E30≤g∧g≤E30)
theorem last_th (m:Nat) (t:Th) (h:ThOk m t):LastOk m (.tup (bx m λj=>sD (t.sw j))):=λj hj =>
  ⟨sD (t.sw j),(t.sw j).2.1,by rw [ixP_T,ixQ_bx (λj=>sD (t.sw j)) hj];rfl,rfl,(h j hj).2⟩
noncomputable def M18:Int:=1000000000000000001
section
variable {call:Nat→List D→Option R}
theorem t_even (c q:Int) (hq:0<q∧q<2^200):∃v:Int,(-q≤v∧v≤q)∧evSs call [some (false,.int c),some (false,.int q),none] f_law_even.body=some (.rt (false,.int v)):=by
  have m2:=mulL 2 q (by decide)
  have dq:=divM (2 * q+1) (by omega) (by omega)
  have b:=fm_bd c (2 * q+1) (by omega)
  by_cases h:q<c.fmod (2 * q+1)
  · refine⟨c.fmod (2 * q+1) - (2 * q+1),by omega,?_⟩
    refine st_set (false,.int (c.fmod (2 * q+1))) (by simp only [vE_bin,pk,getv,List.getElem?_cons_zero,Option.join_some,Option.bind_some,pkR,vE_k,Option.map_some,List.getElem?_cons_succ,binP_mul,m2,↓reduceIte,binP_add,binP_mod,dq]) ?_
    have h1:decide (q<c.fmod (2 * q+1))=true:=decide_eq_true h
    exact st_TR (x:=false) (by simp only [keepR,Bool.and_false,List.set_cons_succ,List.set_cons_zero,vE_cmp,pk,getv,List.getElem?_cons_succ,List.getElem?_cons_zero,Option.join_some,Option.bind_some,pkR,cmpP_gt,h1]) (st_ret (r:=(false,.int (c.fmod (2 * q+1) - (2 * q+1)))) (by simp only [retv,keepR,Bool.and_false,List.set_cons_succ,List.set_cons_zero,vE_bin,pk,getv,List.getElem?_cons_succ,List.getElem?_cons_zero,Option.join_some,Option.bind_some,pkR,vE_k,Option.map_some,binP_mul,m2,↓reduceIte,binP_add,binP_sub]) rfl) rfl
  · refine⟨c.fmod (2 * q+1),by omega,?_⟩
    refine st_set (false,.int (c.fmod (2 * q+1))) (by simp only [vE_bin,pk,getv,List.getElem?_cons_zero,Option.join_some,Option.bind_some,pkR,vE_k,Option.map_some,List.getElem?_cons_succ,binP_mul,m2,↓reduceIte,binP_add,binP_mod,dq]) ?_
    have h1:decide (q<c.fmod (2 * q+1))=false:=decide_eq_false h
    exact st_skip (x:=false) (by simp only [keepR,Bool.and_false,List.set_cons_succ,List.set_cons_zero,vE_cmp,pk,getv,List.getElem?_cons_succ,List.getElem?_cons_zero,Option.join_some,Option.bind_some,pkR,cmpP_gt,h1]) (st_ret (r:=(false,.int (c.fmod (2 * q+1)))) rfl rfl)
theorem any_mem (ks:List Int) (x:Int):ks.any (· == x)=true↔x∈ks:=by simp
theorem whl_end (ks:List Int) (h0:Int) (st:Int→En) (c:En→Option R) (b:En→Option Ou) (hc:∀x,c (st x)=some (false,.bl (ks.any (· == x)))) (hb:∀x,b (st x)=some (.nx (st ((x+1) % M18)))) :
    ∀(n j:Nat) (gs:List Int),gs.length≤n→j+n<1000→(∀x∈ks,x∈gs∨∃i:Nat,i<j∧x=(h0+i) % M18)→∀fuel:Nat,n+1≤fuel→∃x',whlGo c b fuel (st ((h0+j) % M18))=some (.nx (st x')):=by
  intro n
  induction n with
  | zero =>
    intro j gs hg hj inv fuel hf
    obtain⟨f,rfl⟩:∃f,fuel=f+1:=⟨fuel - 1,by omega⟩
    cases ha:ks.any (· == (h0+j) % M18) with
    | false =>
      refine⟨(h0+j) % M18,?_⟩
      rw [whlGo,hc,ha]
      rfl
    | true =>
      exfalso
      rcases inv _ ((any_mem _ _).mp ha) with z|⟨i,hi,e⟩
      · have:gs=[]:=List.length_eq_zero_iff.mp (by omega)
        rw [this] at z
        cases z
      · unfold M18 at e
        omega
  | succ n ih =>
    intro j gs hg hj inv fuel hf
    obtain⟨f,rfl⟩:∃f,fuel=f+1:=⟨fuel - 1,by omega⟩
    cases ha:ks.any (· == (h0+j) % M18) with
    | false =>
      refine⟨(h0+j) % M18,?_⟩
      rw [whlGo,hc,ha]
      rfl
    | true =>
      have hin:(h0+j) % M18∈gs:=by
        rcases inv _ ((any_mem _ _).mp ha) with z|⟨i,hi,e⟩
        · exact z
        · exfalso
          unfold M18 at e
          omega
      have hlt:(gs.filter λx=>decide (x≠(h0+j) % M18)).length<gs.length:=by
        refine List.length_filter_lt_length_iff_exists.mpr ⟨_,hin,?_⟩
        simp
      obtain⟨x',h'⟩:=ih (j+1) (gs.filter λx=>decide (x≠(h0+j) % M18)) (by omega) (by omega) (λx hx=>by
        rcases inv x hx with z|⟨i,hi,e⟩
        · by_cases hxe:x=(h0+j) % M18
          · exact .inr ⟨j,by omega,hxe⟩
          · exact .inl (List.mem_filter.mpr ⟨z,decide_eq_true hxe⟩)
        · exact .inr ⟨i,by omega,e⟩) f (by omega)
      refine⟨x',?_⟩
      have e1:((h0+j) % M18+1) % M18=(h0+(j+1:Nat)) % M18:=by unfold M18;omega
      rw [whlGo,hc,ha]
      show ((b (st ((h0+j) % M18))).bind (loopK (whlGo c b f)))=_
      rw [hb,e1]
      exact h'
theorem t_thing (cs:List Int) (m:Nat) (hm:m≤100) (hcs:cs.length=m+2) (last:D) (hlast:LastOk m last) (ks:List Int) (hks:ks.length≤100) (mk:Nat) (hmk:mk<65536)
    (C4:∀c q:Int,(0<q∧q<2^200)→∃v:Int,(-q≤v∧v≤q)∧call 8 [.int c,.int q]=some (false,.int v)) :
    ∃t:Th,ThOk m t∧evSs call [some (false,.lst (cs.map .int)),some (false,last),some (true,.dct false ks),some (false,.int (mk:Int)),none,none,none,none,none,none,none,none,none,none] f_law_thing.body=some (.rt (false,thD m t)):=by
  have e30:(10:Int)^(30:Int).toNat=E30:=by decide
  have e15:(10:Int)^(15:Int).toNat=1000000000000000:=by decide
  have e18:(10:Int)^(18:Int).toNat+1=M18:=by decide
  have p30:powOk 10 30=true:=by decide
  have p15:powOk 10 15=true:=by decide
  have p18:powOk 10 18=true:=by decide
  have d4:divOk 4=true:=by decide
  have d3:divOk 3=true:=by decide
  have dM:divOk M18=true:=by decide
  have dP:divOk 2147483647=true:=by decide
  have d65:divOk 65536=true:=by decide
  have l4:4≤lim:=le_lim (by decide)
  have hE:E30=1000000000000000000000000000000:=rfl
  have at_:∀j (h:j<cs.length),ixQ (cs.map .int) (j:Int)=some (.int cs[j]):=λj h=>by
    unfold ixQ ixD
    rw [List.length_map,ixN_nat _ _ h]
    simp [h]
  have hlen:(cs.map D.int).length=cs.length:=List.length_map ..
  have e4:((cs.length:Nat):Int) - 2=(m:Int):=by omega
  have e5:(m:Int)+1=((m+1:Nat):Int):=by omega
  have a1:=at_ m (by omega)
  have a2:=at_ (m+1) (by omega)
  generalize cs[m]'(by omega)=pace at a1
  generalize cs[m+1]'(by omega)=more at a2
  obtain⟨σ',h',hσ⟩:=evFor_rng (call:=call) (tg:=.one 8) (body:=[.set 9 false (.call 8 [(.bin .fdiv (.ix (.v 0) (.v 8)) (.k (.int 4))),(.bin .pow (.k (.int 10)) (.k (.int 30)))]),.set 10 false (.v 9),.ite (.cmp .eq (.bin .mod (.ix (.v 0) (.v 8)) (.k (.int 4))) (.k (.int 1))) [.set 10 false (.bi .min [(.bin .pow (.k (.int 10)) (.k (.int 30))),(.bin .add (.v 9) (.k (.int 1)))])] [],.ite (.cmp .eq (.bin .mod (.ix (.v 0) (.v 8)) (.k (.int 4))) (.k (.int 2))) [.set 10 false (.bi .max [(.v 9),(.ix (.ix (.v 1) (.v 8)) (.k (.int 1)))]),.set 9 false (.bi .min [(.v 9),(.ix (.ix (.v 1) (.v 8)) (.k (.int 1)))])] [],.ite (.cmp .eq (.bin .mod (.ix (.v 0) (.v 8)) (.k (.int 4))) (.k (.int 3))) [.set 10 false (.bi .max [(.v 9),(.ix (.ix (.v 1) (.v 8)) (.k (.int 1)))]),.set 9 false (.ix (.ix (.v 1) (.v 8)) (.k (.int 1)))] [],.set 11 false (.call 8 [(.bin .fdiv (.v 5) (.bin .add (.k (.int 1)) (.bin .mul (.k (.int 6)) (.v 8)))),(.bin .pow (.k (.int 10)) (.k (.int 15)))]),.app 7 (.tup [(.v 9),(.v 10),(.v 11),(.v 11)])]) (λj σ=>∃(xs:List (Int×Int×Int)) (o8 o9 o10 o11:Option R),xs.length=j∧(∀x∈xs,(-E30≤x.1∧x.1≤E30)∧(-E30≤x.2.1∧x.2.1≤E30))∧σ=[some (false,.lst (cs.map .int)),some (false,last),some (true,.dct false ks),some (false,.int (mk:Int)),some (false,.int (m:Int)),some (false,.int pace),some (false,.int more),some (true,.lst (xs.map sD)),o8,o9,o10,o11,none,none]) m (λi=>.int (i:Nat))
    [some (false,.lst (cs.map .int)),some (false,last),some (true,.dct false ks),some (false,.int (mk:Int)),some (false,.int (m:Int)),some (false,.int pace),some (false,.int more),some (true,.lst []),none,none,none,none,none,none] ⟨[],_,_,_,_,rfl,(λx h=>nomatch h),rfl⟩ (by
      rintro j σ hj ⟨xs,o8,o9,o10,o11,hx,hxs,rfl⟩
      have aj:=at_ j (by omega)
      generalize cs[j]'(by omega)=c at aj
      obtain⟨d,g,g1,g2,gb⟩:=hlast j hj
      obtain⟨v,vb,q1⟩:=C4 (c.fdiv 4) E30 (by decide)
      obtain⟨sp,sb,q2⟩:=C4 (pace.fdiv (1+6 * (j:Int))) 1000000000000000 (by decide)
      have m6:=mulL 6 (j:Int) (by decide)
      have dj:=divM (1+6 * (j:Int)) (by omega) (by omega)
      have fin:∀low high:Int,(-E30≤low∧low≤E30)→(-E30≤high∧high≤E30)→∀v11:Option R,evSs call [some (false,.lst (cs.map .int)),some (false,last),some (true,.dct false ks),some (false,.int (mk:Int)),some (false,.int (m:Int)),some (false,.int pace),some (false,.int more),some (true,.lst (xs.map sD)),some (false,.int (j:Nat)),some (false,.int low),some (false,.int high),v11,none,none] [.set 11 false (.call 8 [(.bin .fdiv (.v 5) (.bin .add (.k (.int 1)) (.bin .mul (.k (.int 6)) (.v 8)))),(.bin .pow (.k (.int 10)) (.k (.int 15)))]),.app 7 (.tup [(.v 9),(.v 10),(.v 11),(.v 11)])] =
          some (.nx [some (false,.lst (cs.map .int)),some (false,last),some (true,.dct false ks),some (false,.int (mk:Int)),some (false,.int (m:Int)),some (false,.int pace),some (false,.int more),some (true,.lst ((xs++[(low,high,sp)]).map sD)),some (false,.int (j:Nat)),some (false,.int low),some (false,.int high),some (false,.int sp),none,none]):=λlow high h1 h2 v11=>by
        refine st_set (false,.int sp) (by simp only [vE_call,vG_cons,ag,vE_bin,pk,getv,List.getElem?_cons_succ,List.getElem?_cons_zero,Option.join_some,Option.bind_some,pkR,vE_k,Option.map_some,binP_mul,m6,↓reduceIte,binP_add,binP_fdiv,dj,binP_pow,p15,e15,evG_nil,q2]) ?_
        refine st_app (false,sD (low,high,sp)) (by unfold sD;simp only [keepR,Bool.and_false,List.set_cons_succ,List.set_cons_zero,vE_tup,vA_cons,vE_v,noOwn,getv,List.getElem?_cons_succ,List.getElem?_cons_zero,Option.join_some,evA_nil,List.length_cons,List.length_nil,Nat.reduceAdd,l4,↓reduceIte]) rfl (by rw [List.length_map];exact Nat.lt_of_lt_of_le (by omega:xs.length<101) (le_lim (by decide))) ?_
        rw [List.map_append]
        rfl
      have ok:∀low high:Int,(-E30≤low∧low≤E30)→(-E30≤high∧high≤E30)→∀x∈xs++[(low,high,sp)],(-E30≤x.1∧x.1≤E30)∧(-E30≤x.2.1∧x.2.1≤E30):=λlow high h1 h2 x hx=>by
        rcases List.mem_append.mp hx with z|z
        · exact hxs x z
        · rw [List.mem_singleton.mp z];exact⟨h1,h2⟩
      have b4:=fm_bd c 4 (by decide)
      have s9:∀o10 o11 z,evSs call [some (false,.lst (cs.map .int)),some (false,last),some (true,.dct false ks),some (false,.int (mk:Int)),some (false,.int (m:Int)),some (false,.int pace),some (false,.int more),some (true,.lst (xs.map sD)),some (false,.int (j:Nat)),some (false,.int v),some (false,.int v),o11,none,none] [.ite (.cmp .eq (.bin .mod (.ix (.v 0) (.v 8)) (.k (.int 4))) (.k (.int 1))) [.set 10 false (.bi .min [(.bin .pow (.k (.int 10)) (.k (.int 30))),(.bin .add (.v 9) (.k (.int 1)))])] [],.ite (.cmp .eq (.bin .mod (.ix (.v 0) (.v 8)) (.k (.int 4))) (.k (.int 2))) [.set 10 false (.bi .max [(.v 9),(.ix (.ix (.v 1) (.v 8)) (.k (.int 1)))]),.set 9 false (.bi .min [(.v 9),(.ix (.ix (.v 1) (.v 8)) (.k (.int 1)))])] [],.ite (.cmp .eq (.bin .mod (.ix (.v 0) (.v 8)) (.k (.int 4))) (.k (.int 3))) [.set 10 false (.bi .max [(.v 9),(.ix (.ix (.v 1) (.v 8)) (.k (.int 1)))]),.set 9 false (.ix (.ix (.v 1) (.v 8)) (.k (.int 1)))] [],.set 11 false (.call 8 [(.bin .fdiv (.v 5) (.bin .add (.k (.int 1)) (.bin .mul (.k (.int 6)) (.v 8)))),(.bin .pow (.k (.int 10)) (.k (.int 15)))]),.app 7 (.tup [(.v 9),(.v 10),(.v 11),(.v 11)])]=z→evSs call [some (false,.lst (cs.map .int)),some (false,last),some (true,.dct false ks),some (false,.int (mk:Int)),some (false,.int (m:Int)),some (false,.int pace),some (false,.int more),some (true,.lst (xs.map sD)),some (false,.int (j:Nat)),o9,o10,o11,none,none] [.set 9 false (.call 8 [(.bin .fdiv (.ix (.v 0) (.v 8)) (.k (.int 4))),(.bin .pow (.k (.int 10)) (.k (.int 30)))]),.set 10 false (.v 9),.ite (.cmp .eq (.bin .mod (.ix (.v 0) (.v 8)) (.k (.int 4))) (.k (.int 1))) [.set 10 false (.bi .min [(.bin .pow (.k (.int 10)) (.k (.int 30))),(.bin .add (.v 9) (.k (.int 1)))])] [],.ite (.cmp .eq (.bin .mod (.ix (.v 0) (.v 8)) (.k (.int 4))) (.k (.int 2))) [.set 10 false (.bi .max [(.v 9),(.ix (.ix (.v 1) (.v 8)) (.k (.int 1)))]),.set 9 false (.bi .min [(.v 9),(.ix (.ix (.v 1) (.v 8)) (.k (.int 1)))])] [],.ite (.cmp .eq (.bin .mod (.ix (.v 0) (.v 8)) (.k (.int 4))) (.k (.int 3))) [.set 10 false (.bi .max [(.v 9),(.ix (.ix (.v 1) (.v 8)) (.k (.int 1)))]),.set 9 false (.ix (.ix (.v 1) (.v 8)) (.k (.int 1)))] [],.set 11 false (.call 8 [(.bin .fdiv (.v 5) (.bin .add (.k (.int 1)) (.bin .mul (.k (.int 6)) (.v 8)))),(.bin .pow (.k (.int 10)) (.k (.int 15)))]),.app 7 (.tup [(.v 9),(.v 10),(.v 11),(.v 11)])]=z:=λo10 o11 z h =>
        st_set (false,.int v) (by simp only [vE_call,vG_cons,ag,vE_bin,pk,vE_ix,getv,List.getElem?_cons_zero,Option.join_some,Option.bind_some,pkR,List.getElem?_cons_succ,ixP_L,aj,Option.map_some,vE_k,binP_fdiv,d4,↓reduceIte,binP_pow,p30,e30,evG_nil,q1]) (st_set (false,.int v) rfl h)
      have hr:c.fmod 4=0∨c.fmod 4=1∨c.fmod 4=2∨c.fmod 4=3:=by omega
      rcases hr with hr|hr|hr|hr
      · refine⟨_,_,rfl,s9 _ _ _ ?_,xs++[(v,v,sp)],some (false,.int (j:Nat)),some (false,.int v),some (false,.int v),some (false,.int sp),by simp [hx],ok v v vb vb,rfl⟩
        refine st_skip (x:=false) (by simp only [vE_cmp,pk,vE_bin,vE_ix,getv,List.getElem?_cons_zero,Option.join_some,Option.bind_some,pkR,List.getElem?_cons_succ,ixP_L,aj,Option.map_some,vE_k,binP_mod,d4,↓reduceIte,hr,cmpP_eqI];rfl) (st_skip (x:=false) (by simp only [vE_cmp,pk,vE_bin,vE_ix,getv,List.getElem?_cons_zero,Option.join_some,Option.bind_some,pkR,List.getElem?_cons_succ,ixP_L,aj,Option.map_some,vE_k,binP_mod,d4,↓reduceIte,hr,cmpP_eqI];rfl) (st_skip (x:=false) (by simp only [vE_cmp,pk,vE_bin,vE_ix,getv,List.getElem?_cons_zero,Option.join_some,Option.bind_some,pkR,List.getElem?_cons_succ,ixP_L,aj,Option.map_some,vE_k,binP_mod,d4,↓reduceIte,hr,cmpP_eqI];rfl) ?_))
        exact fin v v vb vb _
      · have hb:-E30≤min E30 (v+1)∧min E30 (v+1)≤E30:=by rw [hE] at *;omega
        refine⟨_,_,rfl,s9 _ _ _ ?_,xs++[(v,min E30 (v+1),sp)],some (false,.int (j:Nat)),some (false,.int v),some (false,.int (min E30 (v+1))),some (false,.int sp),by simp [hx],ok v _ vb hb,rfl⟩
        refine st_T (x:=false) (by simp only [vE_cmp,pk,vE_bin,vE_ix,getv,List.getElem?_cons_zero,Option.join_some,Option.bind_some,pkR,List.getElem?_cons_succ,ixP_L,aj,Option.map_some,vE_k,binP_mod,d4,↓reduceIte,hr,cmpP_eqI];rfl) (st_set (false,.int (min E30 (v+1))) (by simp only [vE_bi,vAP_cons,pk,vE_bin,vE_k,Option.map_some,binP_pow,p30,↓reduceIte,e30,getv,List.getElem?_cons_succ,List.getElem?_cons_zero,Option.join_some,Option.bind_some,pkR,binP_add,evAP_nil,biP_min]) rfl) (st_skip (x:=false) (by simp only [keepR,Bool.and_false,List.set_cons_succ,List.set_cons_zero,vE_cmp,pk,vE_bin,vE_ix,getv,List.getElem?_cons_zero,Option.join_some,Option.bind_some,pkR,List.getElem?_cons_succ,ixP_L,aj,Option.map_some,vE_k,binP_mod,d4,↓reduceIte,hr,cmpP_eqI];rfl) (st_skip (x:=false) (by simp only [keepR,Bool.and_false,List.set_cons_succ,List.set_cons_zero,vE_cmp,pk,vE_bin,vE_ix,getv,List.getElem?_cons_zero,Option.join_some,Option.bind_some,pkR,List.getElem?_cons_succ,ixP_L,aj,Option.map_some,vE_k,binP_mod,d4,↓reduceIte,hr,cmpP_eqI];rfl) ?_))
        exact fin v _ vb hb _
      · have hb:-E30≤max v g∧max v g≤E30:=by omega
        have hb2:-E30≤min v g∧min v g≤E30:=by omega
        refine⟨_,_,rfl,s9 _ _ _ ?_,xs++[(min v g,max v g,sp)],some (false,.int (j:Nat)),some (false,.int (min v g)),some (false,.int (max v g)),some (false,.int sp),by simp [hx],ok _ _ hb2 hb,rfl⟩
        refine st_skip (x:=false) (by simp only [vE_cmp,pk,vE_bin,vE_ix,getv,List.getElem?_cons_zero,Option.join_some,Option.bind_some,pkR,List.getElem?_cons_succ,ixP_L,aj,Option.map_some,vE_k,binP_mod,d4,↓reduceIte,hr,cmpP_eqI];rfl) (st_T (x:=false) (by simp only [vE_cmp,pk,vE_bin,vE_ix,getv,List.getElem?_cons_zero,Option.join_some,Option.bind_some,pkR,List.getElem?_cons_succ,ixP_L,aj,Option.map_some,vE_k,binP_mod,d4,↓reduceIte,hr,cmpP_eqI];rfl) (st_set (false,.int (max v g)) (by simp only [vE_bi,vAP_cons,pk,getv,List.getElem?_cons_succ,List.getElem?_cons_zero,Option.join_some,Option.bind_some,pkR,vE_ix,g1,Option.map_some,vE_k,g2,evAP_nil,biP_max]) (st_set (false,.int (min v g)) (by simp only [keepR,Bool.and_false,List.set_cons_succ,List.set_cons_zero,vE_bi,vAP_cons,pk,getv,List.getElem?_cons_succ,List.getElem?_cons_zero,Option.join_some,Option.bind_some,pkR,vE_ix,g1,Option.map_some,vE_k,g2,evAP_nil,biP_min]) rfl)) (st_skip (x:=false) (by simp only [keepR,Bool.and_false,List.set_cons_succ,List.set_cons_zero,vE_cmp,pk,vE_bin,vE_ix,getv,List.getElem?_cons_zero,Option.join_some,Option.bind_some,pkR,List.getElem?_cons_succ,ixP_L,aj,Option.map_some,vE_k,binP_mod,d4,↓reduceIte,hr,cmpP_eqI];rfl) ?_))
        exact fin _ _ hb2 hb _
      · have hb:-E30≤max v g∧max v g≤E30:=by omega
        refine⟨_,_,rfl,s9 _ _ _ ?_,xs++[(g,max v g,sp)],some (false,.int (j:Nat)),some (false,.int g),some (false,.int (max v g)),some (false,.int sp),by simp [hx],ok _ _ gb hb,rfl⟩
        refine st_skip (x:=false) (by simp only [vE_cmp,pk,vE_bin,vE_ix,getv,List.getElem?_cons_zero,Option.join_some,Option.bind_some,pkR,List.getElem?_cons_succ,ixP_L,aj,Option.map_some,vE_k,binP_mod,d4,↓reduceIte,hr,cmpP_eqI];rfl) (st_skip (x:=false) (by simp only [vE_cmp,pk,vE_bin,vE_ix,getv,List.getElem?_cons_zero,Option.join_some,Option.bind_some,pkR,List.getElem?_cons_succ,ixP_L,aj,Option.map_some,vE_k,binP_mod,d4,↓reduceIte,hr,cmpP_eqI];rfl) (st_T (x:=false) (by simp only [vE_cmp,pk,vE_bin,vE_ix,getv,List.getElem?_cons_zero,Option.join_some,Option.bind_some,pkR,List.getElem?_cons_succ,ixP_L,aj,Option.map_some,vE_k,binP_mod,d4,↓reduceIte,hr,cmpP_eqI];rfl) (st_set (false,.int (max v g)) (by simp only [vE_bi,vAP_cons,pk,getv,List.getElem?_cons_succ,List.getElem?_cons_zero,Option.join_some,Option.bind_some,pkR,vE_ix,g1,Option.map_some,vE_k,g2,evAP_nil,biP_max]) (st_set (false,.int g) (by simp only [keepR,Bool.and_false,List.set_cons_succ,List.set_cons_zero,vE_ix,pk,getv,List.getElem?_cons_succ,List.getElem?_cons_zero,Option.join_some,Option.bind_some,pkR,g1,Option.map_some,vE_k,g2]) rfl)) ?_))
        exact fin _ _ gb hb _)
  obtain⟨xs,o8,o9,o10,o11,hx,hxs,rfl⟩:=hσ
  have bM:=fm_bd more M18 (by decide)
  obtain⟨wo,_,qw⟩:=C4 (more.fdiv 3) E30 (by decide)
  have fmM:∀x:Int,x.fmod M18=x % M18:=λx=>Int.fmod_eq_emod_of_nonneg _ (by decide)
  obtain⟨hd,hw⟩:=whl_end ks (more.fmod M18) (λx=>[some (false,.lst (cs.map .int)),some (false,last),some (true,.dct false ks),some (false,.int (mk:Int)),some (false,.int (m:Int)),some (false,.int pace),some (false,.int more),some (true,.lst (xs.map sD)),o8,o9,o10,o11,some (false,.int x),none])
    (fun σ'=>evE call σ' (.inV false (.v 12) 2)) (fun σ'=>evSs call σ' [.set 12 false (.bin .mod (.bin .add (.v 12) (.k (.int 1))) (.bin .add (.bin .pow (.k (.int 10)) (.k (.int 18))) (.k (.int 1))))]) (λx=>by simp only [vE_inV,pk,getv,List.getElem?_cons_succ,List.getElem?_cons_zero,Option.join_some,Option.bind_some,pkR,inR_int,reduceCtorEq,↓reduceIte]) (λx=>st_set (false,.int ((x+1) % M18)) (by simp only [vE_bin,pk,getv,List.getElem?_cons_succ,List.getElem?_cons_zero,Option.join_some,Option.bind_some,pkR,vE_k,Option.map_some,binP_add,binP_pow,p18,↓reduceIte,e18,binP_mod,dM,fmM]) rfl) 100 0 ks hks (by decide) (λx h=>.inl h) big (Nat.le_of_lt (Nat.lt_of_lt_of_le (show 101<2^10 by decide) (Nat.pow_le_pow_right (by decide) (by decide))))
  have e0:(more.fmod M18+((0:Nat):Int)) % M18=more.fmod M18:=by
    rw [show more.fmod M18+((0:Nat):Int)=more.fmod M18 by simp]
    exact Int.emod_eq_of_lt bM.1 bM.2
  rw [e0] at hw
  have m7:=mulR (more.fmod 2147483647) 48271 (by decide)
  have bm:=fm_bd (((more.fmod 2147483647) * 48271).fmod 2147483647) 65536 (by decide)
  have z1:0≤(((more.fmod 2147483647) * 48271).fmod 2147483647).fmod 65536∧0≤(mk:Int):=⟨bm.1,by omega⟩
  refine⟨⟨hd,λj=>xs.getD j (0,0,0),((((more.fmod 2147483647) * 48271).fmod 2147483647).fmod 65536).toNat ||| mk,wo,Nat.or_lt_two_pow (n:=16) (by omega) hmk⟩,λj hj=>?_,?_⟩
  · have hj':j<xs.length:=by omega
    have:=hxs xs[j] (List.getElem_mem hj')
    simp only [List.getD_eq_getElem?_getD,List.getElem?_eq_getElem hj',Option.getD_some]
    exact this
  refine st_set (false,.int (m:Int)) (by simp only [vE_bin,pk,vE_bi,vAP_cons,getv,List.getElem?_cons_zero,Option.join_some,Option.bind_some,pkR,evAP_nil,biP_lenL,hlen,Option.map_some,vE_k,binP_sub,e4]) ?_
  refine st_set (false,.int pace) (by simp only [keepR,Bool.and_false,List.set_cons_succ,List.set_cons_zero,vE_ix,pk,getv,List.getElem?_cons_zero,Option.join_some,Option.bind_some,pkR,List.getElem?_cons_succ,ixP_L,a1,Option.map_some]) ?_
  refine st_set (false,.int more) (by simp only [keepR,Bool.and_false,List.set_cons_succ,List.set_cons_zero,vE_ix,pk,getv,List.getElem?_cons_zero,Option.join_some,Option.bind_some,pkR,vE_bin,List.getElem?_cons_succ,vE_k,Option.map_some,binP_add,e5,ixP_L,a2]) ?_
  refine st_set (true,.lst []) (by simp only [keepR,Bool.and_false,List.set_cons_succ,List.set_cons_zero,vE_lst,evA_nil,List.length_nil,lim0,↓reduceIte]) ?_
  refine st_forR (ds:=[.int (m:Int)]) rfl (rng_le (by omega)) h' ?_
  refine st_set (false,.int (more.fmod M18)) (by simp only [vE_bin,pk,getv,List.getElem?_cons_succ,List.getElem?_cons_zero,Option.join_some,Option.bind_some,pkR,vE_k,Option.map_some,binP_pow,p18,↓reduceIte,binP_add,e18,binP_mod,dM]) ?_
  refine st_whl hw ?_
  refine st_set (false,.int ((((((more.fmod 2147483647) * 48271).fmod 2147483647).fmod 65536).toNat ||| mk:Nat):Int)) (by simp only [vE_bin,pk,getv,List.getElem?_cons_succ,List.getElem?_cons_zero,Option.join_some,Option.bind_some,pkR,vE_k,Option.map_some,binP_mod,dP,↓reduceIte,binP_mul,m7,d65,binP_bor,z1,and_self,Int.toNat_natCast]) ?_
  rw [list_bx hx (0,0,0) sD]
  exact st_ret (by unfold thD;simp only [retv,keepR,Bool.and_false,List.set_cons_succ,List.set_cons_zero,vE_tup,vA_cons,vE_v,noOwn,getv,List.getElem?_cons_succ,List.getElem?_cons_zero,Option.join_some,vE_bi,vAP_cons,pk,Option.bind_some,pkR,evAP_nil,biP_tupL,vE_call,vG_cons,ag,vE_bin,vE_k,Option.map_some,binP_fdiv,d3,↓reduceIte,binP_pow,p30,e30,evG_nil,qw,evA_nil,List.length_cons,List.length_nil,Nat.reduceAdd,l4]) rfl
theorem t_cell (ns:List Int) (k:Nat):evSs call [some (false,.lst (ns.map .int)),some (false,.int (k:Int))] f_law_cell.body=some (.rt (false,.int (cellZ ns k))):=by
  by_cases h:k<ns.length
  · have h1:decide ((k:Int)<((ns.length:Nat):Int))=true:=decide_eq_true (by omega)
    refine st_TR (x:=false) (r:=(false,.int (cellZ ns k))) (by simp only [vE_cmp,pk,getv,List.getElem?_cons_succ,List.getElem?_cons_zero,Option.join_some,Option.bind_some,pkR,vE_bi,vAP_cons,evAP_nil,biP_lenL,List.length_map,Option.map_some,cmpP_lt,h1]) ?_ rfl
    refine st_ret (r:=(false,.int (cellZ ns k))) (e_ix rfl rfl ?_) rfl
    rw [ixP_L]
    unfold ixQ ixD
    rw [List.length_map,ixN_nat _ _ h]
    simp [cellZ,h]
  · have h1:decide ((k:Int)<((ns.length:Nat):Int))=false:=decide_eq_false (by omega)
    have e:cellZ ns k=0:=by simp [cellZ,List.getElem?_eq_none (Nat.le_of_not_lt h)]
    refine st_skip (x:=false) (by simp only [vE_cmp,pk,getv,List.getElem?_cons_succ,List.getElem?_cons_zero,Option.join_some,Option.bind_some,pkR,vE_bi,vAP_cons,evAP_nil,biP_lenL,List.length_map,Option.map_some,cmpP_lt,h1]) ?_
    rw [e]
    exact st_ret (r:=(false,.int 0)) rfl rfl
theorem t_whole (i:Int):evSs call [some (false,.int i)] f_law_whole.body=some (.rt (false,.bl true)):=by
  refine st_ret (r:=(false,.bl true)) ?_ rfl
  simp only [retv,vE_and,vE_isi,pk,getv,List.getElem?_cons_zero,Option.join_some,Option.bind_some,pkR,tyP_ii,↓reduceIte,vE_not,tyP_bi,Bool.not_false]
theorem t_things (cs:List Int) (m:Nat) (hm:m=2∨m=3) (hcs:cs.length≤63) (mk:Nat)
    (C6:∀(part:List Int) (last:D) (ks:List Int),part.length=m+2→LastOk m last→ks.length≤100→∃t:Th,ThOk m t∧call 10 [.lst (part.map .int),last,.dct false ks,.int (mk:Int)]=some (false,thD m t)) :
    ∃ts:List Th,ts.length≤17∧evSs call [some (false,.lst (cs.map .int)),some (false,.int (m:Int)),some (false,.int (mk:Int)),none,none,none,none,none,none] f_law_things.body=some (.rt (true,.lst (ts.map (thD m)))):=by
  have l1:1≤lim:=le_lim (by decide)
  have l2:2≤lim:=le_lim (by decide)
  have d6:divOk ((m+2:Nat):Int)=true:=divM _ (by omega) (by omega)
  have e6:(m:Int)+2=((m+2:Nat):Int):=by omega
  have eN:(((cs.length:Nat):Int)+((m+2:Nat):Int) - 1).fdiv ((m+2:Nat):Int)=(((cs.length+(m+1)) / (m+2):Nat):Int):=by
    rw [show ((cs.length:Nat):Int)+((m+2:Nat):Int) - 1=((cs.length+(m+1):Nat):Int) by omega,Int.fdiv_eq_ediv_of_nonneg _ (by omega)]
    simp
  have hN:(cs.length+(m+1)) / (m+2)≤17:=by
    rcases hm with rfl|rfl<;>omega
  generalize (cs.length+(m+1)) / (m+2)=N at eN hN
  have lc:LastOk m (.lst (bx m λ_=>.tup [.int 0,.int 0])):=λj hj=>⟨.tup [.int 0,.int 0],0,by rw [ixP_L,ixQ_bx (λ_=>.tup [.int 0,.int 0]) hj];rfl,rfl,by decide⟩
  have hc:=λv5:Option R=>e_compR (call:=call) (σ:=[some (false,.lst (cs.map .int)),some (false,.int (m:Int)),some (false,.int (mk:Int)),some (true,.lst []),some (true,.dct true []),v5,none,none,none]) (e:=(.tup [(.k (.int 0)),(.k (.int 0))])) (nl:=1) (ks:=[]) (tg:=.one 0) (rs:=[(.v 1)]) (ds:=[.int (m:Int)]) rfl (rng_le (by omega)) (le_lim (by simp;omega)) rfl
    (comp_rng (r:=[]) (λ_=>.tup [.int 0,.int 0]) λj hj=>⟨false,by simp only [vE_tup,vA_cons,vE_k,evA_nil,List.length_cons,List.length_nil,Nat.reduceAdd,l2,↓reduceIte]⟩)
  obtain⟨σ',h',hσ⟩:=evFor_rng (call:=call) (tg:=.one 7) (body:=[.set 8 false (.sl (.v 0) (some (.bin .mul (.v 6) (.v 7))) (some (.bin .add (.bin .mul (.v 6) (.v 7)) (.v 6)))),.set 8 false (.bin .add (.v 8) (.bin .mul (.lst [(.k (.int 0))]) (.bin .sub (.v 6) (.bi .len [(.v 8)])))),.frz [4],.app 3 (.call 10 [(.v 8),(.v 5),(.v 4),(.v 2)]),.set 5 false (.ix (.ix (.v 3) (.v 7)) (.k (.int 1))),.setIx 4 (.ix (.ix (.v 3) (.v 7)) (.k (.int 0))) (.k (.bl true))]) (λk σ=>∃(ts:List Th) (ks:List Int) (last:D) (o7 o8:Option R),ts.length=k∧(∀t∈ts,ThOk m t)∧ks.length≤k∧LastOk m last∧σ=[some (false,.lst (cs.map .int)),some (false,.int (m:Int)),some (false,.int (mk:Int)),some (true,.lst (ts.map (thD m))),some (true,.dct true ks),some (false,last),some (false,.int ((m+2:Nat):Int)),o7,o8]) N (λi=>.int (i:Nat))
    [some (false,.lst (cs.map .int)),some (false,.int (m:Int)),some (false,.int (mk:Int)),some (true,.lst []),some (true,.dct true []),some (false,.lst (bx m λ_=>.tup [.int 0,.int 0])),some (false,.int ((m+2:Nat):Int)),none,none] ⟨[],[],_,_,_,rfl,(λt h=>nomatch h),Nat.le_refl _,lc,rfl⟩ (by
      rintro k σ hk ⟨ts,ks,last,o7,o8,hts,hok,hks,hlast,rfl⟩
      have ms:=mulR ((m+2:Nat):Int) (k:Int) (by omega)
      have ea:((m+2:Nat):Int) * (k:Int)=(((m+2) * k:Nat):Int):=by simp
      have eb:(((m+2) * k:Nat):Int)+((m+2:Nat):Int)=(((m+2) * k+(m+2):Nat):Int):=by omega
      have hcut:=cut_ints cs ((m+2) * k) ((m+2) * k+(m+2)) (by omega)
      have hp:((cs.drop ((m+2) * k)).take ((m+2) * k+(m+2) - (m+2) * k)).length≤m+2:=by simp;omega
      generalize (cs.drop ((m+2) * k)).take ((m+2) * k+(m+2) - (m+2) * k)=part at hcut hp
      have et:(((m+2:Nat):Int) - ((part.length:Nat):Int)).toNat=m+2 - part.length:=by omega
      have eq1:(1 * (((m+2:Nat):Int) - ((part.length:Nat):Int)).toNat≤lim∧-(2^62)<((m+2:Nat):Int) - ((part.length:Nat):Int)∧((m+2:Nat):Int) - ((part.length:Nat):Int)<2^62):=⟨by rw [et];exact le_lim (by simp;omega),by omega,by omega⟩
      have er:(List.replicate (((m+2:Nat):Int) - ((part.length:Nat):Int)).toNat [D.int 0]).flatten=(List.replicate (m+2 - part.length) (0:Int)).map .int:=by
        rw [et]
        induction m+2 - part.length with
        | zero=>rfl
        | succ n ih=>rw [List.replicate_succ,List.replicate_succ,List.flatten_cons,ih];rfl
      have ll:(part.map D.int).length+((List.replicate (m+2 - part.length) (0:Int)).map D.int).length≤lim:=le_lim (by simp;omega)
      have hlp:(part++List.replicate (m+2 - part.length) 0).length=m+2:=by simp;omega
      obtain⟨t,tok,q6⟩:=C6 (part++List.replicate (m+2 - part.length) 0) last ks hlp hlast (by omega)
      rw [List.map_append] at q6
      have hrow:ixQ ((ts++[t]).map (thD m)) (k:Int)=some (thD m t):=by
        unfold ixQ ixD
        rw [List.length_map,ixN_nat _ _ (by simp;omega)]
        simp [←hts]
      refine⟨_,_,rfl,?_,ts++[t],(if ks.any (· == t.hd) then ks else ks++[t.hd]),.tup (bx m λj=>sD (t.sw j)),some (false,.int (k:Nat)),some (false,.lst (part.map .int++(List.replicate (m+2 - part.length) (0:Int)).map .int)),by simp [hts],λx hx=>?_,?_,last_th m t tok,rfl⟩
      · refine st_set (true,.lst (part.map .int)) (by simp only [List.set_cons_succ,List.set_cons_zero,vE_sl,pk,getv,List.getElem?_cons_zero,Option.join_some,Option.bind_some,pkR,vO_some,vE_bin,List.getElem?_cons_succ,binP_mul,ms,↓reduceIte,ea,Option.map_some,oInt,binP_add,eb,slP_L,hcut]) ?_
        refine st_set (true,.lst (part.map .int++(List.replicate (m+2 - part.length) (0:Int)).map .int)) ?_ ?_
        · rw [vE_bin,vE_bin,vE_bin,vE_lst]
          simp only [pk,getv,List.set_cons_succ,List.set_cons_zero,keepR,Bool.and_true,List.getElem?_cons_succ,List.getElem?_cons_zero,Option.join_some,Option.bind_some,pkR,vA_cons,vE_k,evA_nil,List.length_cons,List.length_nil,Nat.reduceAdd,l1,↓reduceIte,Option.map_some,vE_bi,vAP_cons,evAP_nil,biP_lenL,List.length_map,binP_sub,binP_mulL]
          rw [if_pos eq1]
          show binP .add (.lst (part.map .int)) (.lst (List.replicate (((m+2:Nat):Int) - ((part.length:Nat):Int)).toNat [D.int 0]).flatten)=_
          rw [er,binP_addL,if_pos ll]
        rw [vS_frz]
        refine st_app (false,thD m t) (by simp only [List.set_cons_succ,List.set_cons_zero,keepR,Bool.and_true,List.foldl_cons,frz1,getv,List.getElem?_cons_succ,List.getElem?_cons_zero,Option.join_some,List.foldl_nil,vE_call,vG_cons,ag,Option.bind_some,agR,evG_nil,q6]) rfl (by rw [List.length_map];exact Nat.lt_of_lt_of_le (by omega:ts.length<101) (le_lim (by decide))) ?_
        rw [show ts.map (thD m)++[thD m t]=(ts++[t]).map (thD m) by rw [List.map_append];rfl]
        refine st_set (false,.tup (bx m λj=>sD (t.sw j))) (by simp only [List.set_cons_succ,List.set_cons_zero,keepR,Bool.and_true,List.foldl_cons,frz1,getv,List.getElem?_cons_succ,List.getElem?_cons_zero,Option.join_some,List.foldl_nil,vE_ix,pk,Option.bind_some,pkR,ixP_L,hrow,Option.map_some,vE_k,th1]) ?_
        exact st_dput _ _ (n:=t.hd) (ks:=ks) rfl (by simp only [pk,List.set_cons_succ,List.set_cons_zero,keepR,Bool.and_true,List.foldl_cons,frz1,getv,List.getElem?_cons_succ,List.getElem?_cons_zero,Option.join_some,List.foldl_nil,Bool.and_false,vE_ix,Option.bind_some,pkR,ixP_L,hrow,Option.map_some,vE_k,th0]) rfl (Nat.lt_of_lt_of_le (by omega:ks.length<101) (le_lim (by decide))) rfl
      · rcases List.mem_append.mp hx with z|z
        · exact hok x z
        · rw [List.mem_singleton.mp z];exact tok
      · split
        · omega
        · simp;omega)
  obtain⟨ts,ks,last,o7,o8,hts,hok,hks,hlast,rfl⟩:=hσ
  refine⟨ts,by omega,?_⟩
  refine st_set (true,.lst []) (by simp only [vE_lst,evA_nil,List.length_nil,lim0,↓reduceIte]) ?_
  refine st_dnew _ _ ?_
  refine st_set _ (hc _) ?_
  refine st_set (false,.int ((m+2:Nat):Int)) (by simp only [keepR,Bool.and_true,List.set_cons_succ,List.set_cons_zero,vE_bin,pk,getv,List.getElem?_cons_succ,List.getElem?_cons_zero,Option.join_some,Option.bind_some,pkR,vE_k,Option.map_some,binP_add,e6]) ?_
  refine st_forR (ds:=[.int (N:Int)]) (by simp only [keepR,Bool.and_true,List.set_cons_succ,List.set_cons_zero,Bool.and_false,vAP_cons,pk,vE_bin,vE_bi,getv,List.getElem?_cons_zero,Option.join_some,Option.bind_some,pkR,evAP_nil,biP_lenL,List.length_map,Option.map_some,List.getElem?_cons_succ,binP_add,vE_k,binP_sub,binP_fdiv,d6,↓reduceIte,eN]) (rng_le (by omega)) h' ?_
  exact st_ret (r:=(true,.lst (ts.map (thD m)))) rfl rfl
end
theorem ok_oc {a b:Option To}(ha:OkT a) (hb:OkT b):OkT (oc a b):=by
  cases a with
  | none=>exact hb
  | some x =>
    cases b with
    | none=>exact ha
    | some y =>
      intro t e
      cases e
      exact Nat.lt_of_le_of_lt Nat.and_le_left (ha x rfl)
theorem ok_fo:∀l:List (Option To),(∀o∈l,OkT o)→OkT (fo l)
  | [],_=>λt e=>nomatch e
  | o::l,h=>by
    rw [fo_cons]
    exact ok_oc (h o List.mem_cons_self) (ok_fo l λx hx=>h x (List.mem_cons_of_mem _ hx))
theorem ok_pour (L:List Th):OkT (fo (L.map λt=>some (one t))):=ok_fo _ λo ho=>by
  obtain⟨t,_,rfl⟩:=List.mem_map.mp ho
  intro u e
  cases e
  exact t.mb
noncomputable def sz:Nat→Pg→Nat
  | 0,_=>1
  | _+1,.lf _ _=>1
  | h+1,.fk _ ps=>1+(ps.map (sz h)).sum
theorem preL_len {f:List Nat→Pg→List (List Nat×Pg)}{g:Pg→Nat}{π:List Nat}(h:∀π q,(f π q).length=g q):∀(ps:List Pg) (k:Nat),(preL f π k ps).length=(ps.map g).sum
  | [],_=>rfl
  | p::ps,k=>by
    show (f (π++[k]) p++preL f π (k+1) ps).length=_
    rw [List.length_append,h,preL_len h ps (k+1),List.map_cons,List.sum_cons]
theorem pre_len:∀(h:Nat) (π:List Nat) (p:Pg),(pre h π p).length=sz h p
  | 0,_,_=>rfl
  | _+1,_,.lf _ _=>rfl
  | h+1,π,.fk o ps=>by
    show (preL (pre h) π 0 ps).length+1=1+(ps.map (sz h)).sum
    rw [preL_len (pre_len h),Nat.add_comm]
theorem sz_mono {h:Nat}{p:Pg}(hp:Pk h p):sz (h+1) p=sz h p:=by rw [←pre_len (h+1) [],←pre_len h [],pre_mono h p [] hp]
theorem sz_pos (h:Nat) (p:Pg):1≤sz h p:=by rw [←pre_len h []];exact pre_pos h [] p
theorem sum_len:∀(h:Nat) (ps:List Pg),ps.length≤(ps.map (sz h)).sum
  | _,[]=>Nat.le_refl _
  | h,p::ps=>by
    rw [List.map_cons,List.sum_cons,List.length_cons]
    have:=sz_pos h p
    have:=sum_len h ps
    omega
noncomputable def mkF (ps:List Pg):Pg:=.fk (fo (ps.map (·.o))) ps
theorem Pk_mkF {h:Nat}{ps:List Pg}(hn:ps≠[]) (hp:∀p∈ps,Pk h p):Pk (h+1) (mkF ps):=⟨ok_fo _ λo ho=>by
  obtain⟨p,hp',rfl⟩:=List.mem_map.mp ho
  exact Pk_ok (hp p hp'),hn,hp⟩
section
variable {call:Nat→List D→Option R}
theorem e_poured {σ:En}{m:Nat}{a:C}(C31:∀l:List (Option To),l.length≤10000→(∀t,some t∈l→t.ev<65536)→call 14 [.lst (l.map (oD m))]=some (false,oD m (fo l))) {ps:List Pg}{tp:Bool}(hl:ps.length≤10000) (hp:∀p∈ps,OkT p.o) (hs:evE call σ a=some (false,if tp then .tup (ps.map (pgD m)) else .lst (ps.map (pgD m)))) :
    evE call σ (.call 14 [(.compS (.ix (.v 0) (.k (.int 1))) 1 [] (.one 0) a)])=some (false,oD m (fo (ps.map (·.o)))):=by
  have hc:=e_compS (call:=call) (σ:=σ) (e:=(.ix (.v 0) (.k (.int 1)))) (nl:=1) (ks:=[]) (tg:=.one 0) (src:=a) (its:=ps.map (pgD m)) hs (by cases tp<;>rfl) rfl
    (evComp_map call _ (pgD m) (λp=>oD m p.o) ps λp _=>⟨_,false,rfl,e_ix rfl rfl (pg1 m p)⟩)
  have h31:=C31 (ps.map (·.o)) (by rw [List.length_map];exact hl) (λt ht=>by
    obtain⟨p,h1,h2⟩:=List.mem_map.mp ht
    exact hp p h1 t h2)
  rw [List.map_map] at h31
  exact e_call1 (ag_compS hc) h31
theorem e_tup3 {σ:En}{a b c:C}{x y w:R}(ha:evE call σ a=some x) (hb:evE call σ b=some y) (hc:evE call σ c=some w):evE call σ (.tup [a,b,c])=some (false,.tup [x.2,y.2,w.2]):=by
  have l3:3≤lim:=le_lim (by decide)
  rw [evE_tup,evA_cons,ha,Option.bind_some,evA_cons,hb,Option.bind_some,evA_cons,hc,Option.bind_some,evA_nil,Option.bind_some,Option.bind_some,Option.bind_some,Option.bind_some]
  exact if_pos l3
theorem t_fork (m:Nat) (C31:∀l:List (Option To),l.length≤10000→(∀t,some t∈l→t.ev<65536)→call 14 [.lst (l.map (oD m))]=some (false,oD m (fo l))) (ps:List Pg) (hl:ps.length≤10000) (hp:∀p∈ps,OkT p.o) :
    evSs call [some (false,.lst (ps.map (pgD m)))] f_law_fork.body=some (.rt (false,pgD m (mkF ps))):=by
  have l3:3≤lim:=le_lim (by decide)
  have h1:=e_poured (call:=call) (σ:=[some (false,.lst (ps.map (pgD m)))]) (a:=.v 0) (tp:=false) C31 hl hp rfl
  have h2:evE call [some (false,.lst (ps.map (pgD m)))] (.bi .tuple [(.v 0)])=some (false,.tup (ps.map (pgD m))):=e_bi1 (x:=.lst (ps.map (pgD m))) rfl rfl
  have h3:=e_tup3 (call:=call) (σ:=[some (false,.lst (ps.map (pgD m)))]) (a:=.k (.str (PySem.Str.ofString "fork"))) (x:=(false,fkS)) rfl h1 h2
  rw [pg_eq]
  exact st_ret (r:=(false,.tup [kdS (mkF ps),oD m (mkF ps).o,.tup (prD m (mkF ps))])) h3 rfl
theorem whl_lv (m:Nat) (ns:List Int) (ts:List Th) (hts:ts.length≤64) (C24:∀k:Nat,call 7 [.lst (ns.map .int),.int (k:Int)]=some (false,.int (cellZ ns k))) (C29:∀t,call 12 [thD m t]=some (false,toD m (one t)))
    (C31:∀l:List (Option To),l.length≤10000→(∀t,some t∈l→t.ev<65536)→call 14 [.lst (l.map (oD m))]=some (false,oD m (fo l))) :
    ∀(μ:Nat) (ps:List Pg) (k:Nat) (o5 o6:Option R) (fuel:Nat),(ts.length - k)+(1 - ps.length)≤μ→μ+1≤fuel→(∀p∈ps,Pk 0 p)→ps.length+μ≤200 →
      ∃(ps':List Pg) (o3 o4 o5' o6':Option R),ps'≠[]∧ps'.length≤ps.length+μ∧(∀p∈ps',Pk 0 p)∧whlGo (fun σ'=>evE call σ' (.or (.cmp .lt (.v 3) (.bi .len [(.v 1)])) (.cmp .eq (.v 4) (.k (.int 0))))) (fun σ'=>evSs call σ' [.set 5 false (.bin .add (.k (.int 1)) (.bin .mod (.call 7 [(.v 0),(.v 4)]) (.k (.int 5)))),.set 6 false (.bi .tuple [(.sl (.v 1) (some (.v 3)) (some (.bin .add (.v 3) (.v 5))))]),.app 2 (.tup [(.k (.str (PySem.Str.ofString "leaf"))),(.call 14 [(.compS (.call 12 [(.v 0)]) 1 [] (.one 0) (.v 6))]),(.v 6)]),.set 3 false (.bin .add (.v 3) (.v 5)),.set 4 false (.bin .add (.v 4) (.k (.int 1)))]) fuel
        [some (false,.lst (ns.map .int)),some (false,.lst (ts.map (thD m))),some (true,.lst (ps.map (pgD m))),some (false,.int (k:Int)),some (false,.int (ps.length:Int)),o5,o6] =
          some (.nx [some (false,.lst (ns.map .int)),some (false,.lst (ts.map (thD m))),some (true,.lst (ps'.map (pgD m))),o3,o4,o5',o6']):=by
  have cond:∀(ps:List Pg) (k:Nat) (o5 o6:Option R),evE call [some (false,.lst (ns.map .int)),some (false,.lst (ts.map (thD m))),some (true,.lst (ps.map (pgD m))),some (false,.int (k:Int)),some (false,.int (ps.length:Int)),o5,o6] (.or (.cmp .lt (.v 3) (.bi .len [(.v 1)])) (.cmp .eq (.v 4) (.k (.int 0))))=some (false,.bl (decide (k<ts.length)||decide (ps.length=0))):=λps k o5 o6=>by
    refine e_or (x:=false) (y:=false) (e_cmp (y:=.int ((ts.length:Nat):Int)) rfl (by simp only [pk,vE_bi,vAP_cons,getv,List.getElem?_cons_succ,List.getElem?_cons_zero,Option.join_some,Option.bind_some,pkR,evAP_nil,biP_lenL,List.length_map,Option.map_some]) ?_) (e_cmp rfl rfl ?_)
    · show some (false,D.bl (decide ((k:Int)<((ts.length:Nat):Int))))=_
      rw [decide_eq_decide.mpr (by omega:((k:Int)<((ts.length:Nat):Int))↔k<ts.length)]
    · show some (false,D.bl (((ps.length:Nat):Int) == 0))=_
      rw [show (((ps.length:Nat):Int) == 0)=decide (ps.length=0) by rw [Bool.eq_iff_iff];simp]
  intro μ
  induction μ with
  | zero =>
    intro ps k o5 o6 fuel h1 h2 h3 h4
    obtain⟨f,rfl⟩:∃f,fuel=f+1:=⟨fuel - 1,by omega⟩
    refine⟨ps,some (false,.int (k:Int)),some (false,.int (ps.length:Int)),o5,o6,by intro z;rw [z] at h1;simp at h1,by omega,h3,?_⟩
    rw [whlGo]
    show (evE call _ _).bind _=_
    rw [cond,decide_eq_false (by omega:¬k<ts.length),decide_eq_false (by omega:¬ps.length=0)]
    rfl
  | succ μ ih =>
    intro ps k o5 o6 fuel h1 h2 h3 h4
    obtain⟨f,rfl⟩:∃f,fuel=f+1:=⟨fuel - 1,by omega⟩
    cases hb:(decide (k<ts.length)||decide (ps.length=0)) with
    | false =>
      have hz:¬(k<ts.length)∧ps.length≠0:=by simpa using hb
      refine⟨ps,some (false,.int (k:Int)),some (false,.int (ps.length:Int)),o5,o6,by intro z;rw [z] at hz;exact hz.2 rfl,by omega,h3,?_⟩
      rw [whlGo]
      show (evE call _ _).bind _=_
      rw [cond,hb]
      rfl
    | true =>
      have hz:k<ts.length∨ps.length=0:=by simpa using hb
      have d5:divOk 5=true:=by decide
      have l3:3≤lim:=le_lim (by decide)
      have b5:=fm_bd (cellZ ns ps.length) 5 (by decide)
      have q:=C24 ps.length
      obtain⟨s,hs⟩:∃s:Nat,1+(cellZ ns ps.length).fmod 5=(s:Int):=⟨(1+(cellZ ns ps.length).fmod 5).toNat,by omega⟩
      have e1:(k:Int)+(s:Int)=((k+s:Nat):Int):=by omega
      have hcut:=cut_nat (ts.map (thD m)) k (k+s) (by omega)
      rw [show k+s - k=s by omega,←List.map_drop,←List.map_take] at hcut
      generalize hL:(ts.drop k).take s=L at hcut
      have hLl:L.length≤64:=by rw [←hL];simp;omega
      have hc:=λ(σ:En) (hσ:evE call σ (.v 6)=some (false,.tup (L.map (thD m))))=>e_compS (call:=call) (σ:=σ) (e:=(.call 12 [(.v 0)])) (nl:=1) (ks:=[]) (tg:=.one 0) (src:=.v 6) hσ rfl rfl
        (evComp_map call _ (thD m) (λt=>toD m (one t)) L λt _=>⟨_,false,rfl,e_call1 rfl (C29 t)⟩)
      have h31:=C31 (L.map λt=>some (one t)) (by rw [List.length_map];omega) (λt ht=>by
        obtain⟨x,_,e⟩:=List.mem_map.mp ht
        cases e
        exact x.mb)
      rw [List.map_map] at h31
      have e2:((ps.length:Nat):Int)+1=(((ps++[Pg.lf (fo (L.map λt=>some (one t))) L]).length:Nat):Int):=by simp
      have hb':evSs call [some (false,.lst (ns.map .int)),some (false,.lst (ts.map (thD m))),some (true,.lst (ps.map (pgD m))),some (false,.int (k:Int)),some (false,.int (ps.length:Int)),o5,o6] [.set 5 false (.bin .add (.k (.int 1)) (.bin .mod (.call 7 [(.v 0),(.v 4)]) (.k (.int 5)))),.set 6 false (.bi .tuple [(.sl (.v 1) (some (.v 3)) (some (.bin .add (.v 3) (.v 5))))]),.app 2 (.tup [(.k (.str (PySem.Str.ofString "leaf"))),(.call 14 [(.compS (.call 12 [(.v 0)]) 1 [] (.one 0) (.v 6))]),(.v 6)]),.set 3 false (.bin .add (.v 3) (.v 5)),.set 4 false (.bin .add (.v 4) (.k (.int 1)))] =
          some (.nx [some (false,.lst (ns.map .int)),some (false,.lst (ts.map (thD m))),some (true,.lst ((ps++[Pg.lf (fo (L.map λt=>some (one t))) L]).map (pgD m))),some (false,.int ((k+s:Nat):Int)),some (false,.int (((ps++[Pg.lf (fo (L.map λt=>some (one t))) L]).length:Nat):Int)),some (false,.int (s:Int)),some (false,.tup (L.map (thD m)))]):=by
        refine st_set (false,.int (s:Int)) (by simp only [vE_bin,pk,vE_k,Option.map_some,vE_call,vG_cons,ag,getv,List.getElem?_cons_zero,Option.join_some,Option.bind_some,agR,List.getElem?_cons_succ,evG_nil,q,binP_mod,d5,↓reduceIte,binP_add,hs]) ?_
        refine st_set (false,.tup (L.map (thD m))) (by simp only [keepR,Bool.and_false,List.set_cons_succ,List.set_cons_zero,vE_bi,vAP_cons,pk,vE_sl,getv,List.getElem?_cons_succ,List.getElem?_cons_zero,Option.join_some,Option.bind_some,pkR,vO_some,oInt,vE_bin,binP_add,e1,Option.map_some,slP_L,hcut,evAP_nil,biP_tupL]) ?_
        have hcc:=hc [some (false,.lst (ns.map .int)),some (false,.lst (ts.map (thD m))),some (true,.lst (ps.map (pgD m))),some (false,.int (k:Int)),some (false,.int (ps.length:Int)),some (false,.int (s:Int)),some (false,.tup (L.map (thD m)))] rfl
        have hpo:evE call [some (false,.lst (ns.map .int)),some (false,.lst (ts.map (thD m))),some (true,.lst (ps.map (pgD m))),some (false,.int (k:Int)),some (false,.int (ps.length:Int)),some (false,.int (s:Int)),some (false,.tup (L.map (thD m)))] (.call 14 [(.compS (.call 12 [(.v 0)]) 1 [] (.one 0) (.v 6))])=some (false,oD m (fo (L.map λt=>some (one t)))):=e_call1 (ag_compS hcc) h31
        refine st_app (false,pgD m (.lf (fo (L.map λt=>some (one t))) L)) ?_ rfl (by rw [List.length_map];exact Nat.lt_of_lt_of_le (by omega:ps.length<201) (le_lim (by decide))) ?_
        · exact e_tup3 (x:=(false,lfS)) (w:=(false,.tup (L.map (thD m)))) rfl hpo rfl
        refine st_set (false,.int ((k+s:Nat):Int)) (by simp only [keepR,Bool.and_false,List.set_cons_succ,List.set_cons_zero,vE_bin,pk,getv,List.getElem?_cons_succ,List.getElem?_cons_zero,Option.join_some,Option.bind_some,pkR,binP_add,e1]) ?_
        refine st_set (false,.int (((ps++[Pg.lf (fo (L.map λt=>some (one t))) L]).length:Nat):Int)) (by simp only [keepR,Bool.and_false,List.set_cons_succ,List.set_cons_zero,vE_bin,pk,getv,List.getElem?_cons_succ,List.getElem?_cons_zero,Option.join_some,Option.bind_some,pkR,vE_k,Option.map_some,binP_add,e2]) ?_
        rw [List.map_append]
        rfl
      have s1:1≤s:=by omega
      obtain⟨ps',p3,p4,p5,p6,r1,r2,r3,r4⟩:=ih (ps++[Pg.lf (fo (L.map λt=>some (one t))) L]) (k+s) (some (false,.int (s:Int))) (some (false,.tup (L.map (thD m)))) f (by rw [List.length_append,List.length_singleton];omega) (by omega) (λp hp=>by
        rcases List.mem_append.mp hp with hp|hp
        · exact h3 p hp
        · rw [List.mem_singleton] at hp;subst hp;exact⟨ok_pour L,by omega⟩) (by rw [List.length_append,List.length_singleton];omega)
      refine⟨ps',p3,p4,p5,p6,r1,by rw [List.length_append,List.length_singleton] at r2;omega,r3,?_⟩
      rw [whlGo]
      show (evE call _ _).bind _=_
      rw [cond,hb]
      show (evSs call _ _).bind (loopK _)=_
      rw [hb']
      exact r4
theorem t_leaves (m:Nat) (ns:List Int) (ts:List Th) (hts:ts.length≤17) (C24:∀k:Nat,call 7 [.lst (ns.map .int),.int (k:Int)]=some (false,.int (cellZ ns k))) (C29:∀t,call 12 [thD m t]=some (false,toD m (one t)))
    (C31:∀l:List (Option To),l.length≤10000→(∀t,some t∈l→t.ev<65536)→call 14 [.lst (l.map (oD m))]=some (false,oD m (fo l))) :
    ∃ps:List Pg,ps≠[]∧ps.length≤18∧(∀p∈ps,Pk 0 p)∧evSs call [some (false,.lst (ns.map .int)),some (false,.lst (ts.map (thD m))),none,none,none,none,none] f_law_leaves.body=some (.rt (true,.lst (ps.map (pgD m)))):=by
  obtain⟨ps,o3,o4,o5,o6,h1,h2,h3,h4⟩:=whl_lv (call:=call) m ns ts (by omega) C24 C29 C31 18 [] 0 none none big (by simp;omega) (big_ge _ (by decide)) (λp hp=>nomatch hp) (by simp)
  refine⟨ps,h1,by simpa using h2,h3,?_⟩
  refine st_set (true,.lst []) (by simp only [vE_lst,evA_nil,List.length_nil,lim0,↓reduceIte]) ?_
  refine st_set (false,.int 0) rfl ?_
  refine st_set (false,.int 0) rfl ?_
  exact st_whl h4 (st_ret (r:=(true,.lst (ps.map (pgD m)))) rfl rfl)
end
section
variable {call:Nat→List D→Option R}
theorem whl_tr (m:Nat) (ns:List Int) (d1:D) (r j:Nat) (ps:List Pg) (hps:∀p∈ps,Pk j p) (hpl:ps.length≤900) (C24:∀k:Nat,call 7 [.lst (ns.map .int),.int (k:Int)]=some (false,.int (cellZ ns k)))
    (C33:∀qs:List Pg,qs.length≤10000→(∀p∈qs,OkT p.o)→call 16 [.lst (qs.map (pgD m))]=some (false,pgD m (mkF qs))) :
    ∀(μ i:Nat) (acc:List Pg) (o6:Option R) (fuel:Nat),ps.length - i≤μ→μ+1≤fuel→(∀p∈acc,Pk (j+1) p)→(acc.map (sz (j+1))).sum≤2 * ((ps.take i).map (sz j)).sum→(i=0∨acc≠[])→acc.length+μ≤1000 →
      ∃(acc':List Pg) (o5 o6':Option R),(∀p∈acc',Pk (j+1) p)∧(acc'.map (sz (j+1))).sum≤2 * (ps.map (sz j)).sum∧(ps≠[]→acc'≠[])∧whlGo (fun σ'=>evE call σ' (.cmp .lt (.v 5) (.bi .len [(.v 2)]))) (fun σ'=>evSs call σ' [.set 6 false (.bin .add (.k (.int 1)) (.bin .mod (.bin .fdiv (.call 7 [(.v 0),(.bin .add (.v 3) (.v 5))]) (.k (.int 5))) (.k (.int 4)))),.ite (.cmp .eq (.bi .len [(.sl (.v 2) (some (.v 5)) (some (.bin .add (.v 5) (.v 6))))]) (.k (.int 1))) [.app 4 (.ix (.v 2) (.v 5))] [.app 4 (.call 16 [(.sl (.v 2) (some (.v 5)) (some (.bin .add (.v 5) (.v 6))))])],.set 5 false (.bin .add (.v 5) (.v 6))]) fuel
        [some (false,.lst (ns.map .int)),some (false,d1),some (false,.lst (ps.map (pgD m))),some (false,.int (r:Int)),some (true,.lst (acc.map (pgD m))),some (false,.int (i:Int)),o6] =
          some (.nx [some (false,.lst (ns.map .int)),some (false,d1),some (false,.lst (ps.map (pgD m))),some (false,.int (r:Int)),some (true,.lst (acc'.map (pgD m))),o5,o6']):=by
  have cond:∀(acc:List Pg) (i:Nat) (o6:Option R),evE call [some (false,.lst (ns.map .int)),some (false,d1),some (false,.lst (ps.map (pgD m))),some (false,.int (r:Int)),some (true,.lst (acc.map (pgD m))),some (false,.int (i:Int)),o6] (.cmp .lt (.v 5) (.bi .len [(.v 2)]))=some (false,.bl (decide (i<ps.length))):=λacc i o6=>by
    refine e_cmp (y:=.int ((ps.length:Nat):Int)) rfl (by simp only [pk,vE_bi,vAP_cons,getv,List.getElem?_cons_succ,List.getElem?_cons_zero,Option.join_some,Option.bind_some,pkR,evAP_nil,biP_lenL,List.length_map,Option.map_some]) ?_
    show some (false,D.bl (decide ((i:Int)<((ps.length:Nat):Int))))=_
    rw [decide_eq_decide.mpr (by omega:((i:Int)<((ps.length:Nat):Int))↔i<ps.length)]
  intro μ
  induction μ with
  | zero =>
    intro i acc o6 fuel h1 h2 h3 h4 h5 h6
    obtain⟨f,rfl⟩:∃f,fuel=f+1:=⟨fuel - 1,by omega⟩
    rw [List.take_of_length_le (by omega)] at h4
    refine⟨acc,some (false,.int (i:Int)),o6,h3,h4,λhne=>h5.resolve_left (λz=>hne (List.length_eq_zero_iff.mp (by omega))),?_⟩
    rw [whlGo]
    show (evE call _ _).bind _=_
    rw [cond,decide_eq_false (by omega)]
    rfl
  | succ μ ih =>
    intro i acc o6 fuel h1 h2 h3 h4 h5 h6
    obtain⟨f,rfl⟩:∃f,fuel=f+1:=⟨fuel - 1,by omega⟩
    by_cases hi:i<ps.length
    · have d5:divOk 5=true:=by decide
      have d4:divOk 4=true:=by decide
      have b4:=fm_bd ((cellZ ns (r+i)).fdiv 5) 4 (by decide)
      have q:=C24 (r+i)
      have e0:(r:Int)+(i:Int)=((r+i:Nat):Int):=by omega
      obtain⟨s,hs⟩:∃s:Nat,1+((cellZ ns (r+i)).fdiv 5).fmod 4=(s:Int):=⟨(1+((cellZ ns (r+i)).fdiv 5).fmod 4).toNat,by omega⟩
      have s1:1≤s:=by omega
      have e1:(i:Int)+(s:Int)=((i+s:Nat):Int):=by omega
      have hcut:=cut_nat (ps.map (pgD m)) i (i+s) (by omega)
      rw [show i+s - i=s by omega,←List.map_drop,←List.map_take] at hcut
      have htk:ps.take (i+s)=ps.take i++(ps.drop i).take s:=List.take_add
      have hmem:∀p∈(ps.drop i).take s,Pk j p:=λp hp=>hps p (List.mem_of_mem_drop (List.mem_of_mem_take hp))
      have hcl:((ps.drop i).take s).length≤10000:=by simp;omega
      have hcn:(ps.drop i).take s≠[]:=by
        intro z
        have:=congrArg List.length z
        simp at this
        omega
      generalize hL:(ps.drop i).take s=L at hcut htk hmem hcl hcn
      have hlen:∀v6:Option R,v6=some (false,.int (s:Int))→evE call [some (false,.lst (ns.map .int)),some (false,d1),some (false,.lst (ps.map (pgD m))),some (false,.int (r:Int)),some (true,.lst (acc.map (pgD m))),some (false,.int (i:Int)),v6] (.cmp .eq (.bi .len [(.sl (.v 2) (some (.v 5)) (some (.bin .add (.v 5) (.v 6))))]) (.k (.int 1)))=some (false,.bl (decide (L.length=1))):=by
        rintro _ rfl
        refine e_cmp (x:=.int ((L.length:Nat):Int)) (by simp only [pk,vE_bi,vAP_cons,vE_sl,getv,List.getElem?_cons_succ,List.getElem?_cons_zero,Option.join_some,Option.bind_some,pkR,vO_some,oInt,vE_bin,binP_add,e1,Option.map_some,slP_L,hcut,evAP_nil,biP_lenL,List.length_map]) rfl ?_
        show some (false,D.bl (((L.length:Nat):Int) == 1))=_
        rw [show (((L.length:Nat):Int) == 1)=decide (L.length=1) by rw [Bool.eq_iff_iff];simp;omega]
      have step:∃q:Pg,Pk (j+1) q∧sz (j+1) q≤2 * (L.map (sz j)).sum∧evSs call [some (false,.lst (ns.map .int)),some (false,d1),some (false,.lst (ps.map (pgD m))),some (false,.int (r:Int)),some (true,.lst (acc.map (pgD m))),some (false,.int (i:Int)),o6] [.set 6 false (.bin .add (.k (.int 1)) (.bin .mod (.bin .fdiv (.call 7 [(.v 0),(.bin .add (.v 3) (.v 5))]) (.k (.int 5))) (.k (.int 4)))),.ite (.cmp .eq (.bi .len [(.sl (.v 2) (some (.v 5)) (some (.bin .add (.v 5) (.v 6))))]) (.k (.int 1))) [.app 4 (.ix (.v 2) (.v 5))] [.app 4 (.call 16 [(.sl (.v 2) (some (.v 5)) (some (.bin .add (.v 5) (.v 6))))])],.set 5 false (.bin .add (.v 5) (.v 6))] =
          some (.nx [some (false,.lst (ns.map .int)),some (false,d1),some (false,.lst (ps.map (pgD m))),some (false,.int (r:Int)),some (true,.lst ((acc++[q]).map (pgD m))),some (false,.int ((i+s:Nat):Int)),some (false,.int (s:Int))]):=by
        have hal:(acc.map (pgD m)).length<lim:=by rw [List.length_map];exact Nat.lt_of_lt_of_le (by omega:acc.length<1001) (le_lim (by decide))
        by_cases h1L:L.length=1
        · obtain⟨x,hx⟩:=List.length_eq_one_iff.mp h1L
          have hpx:=hmem x (by rw [hx];exact List.mem_singleton_self x)
          have hix:ixP (.lst (ps.map (pgD m))) (.int (i:Int))=some (false,pgD m x):=by
            rw [ixP_L,ixQ_nat,List.getElem?_map]
            have:ps[i]?=some x:=by
              have h0:((ps.drop i).take s)[0]?=some x:=by rw [hL,hx];rfl
              rw [List.getElem?_take,if_pos (by omega),List.getElem?_drop,Nat.add_zero] at h0
              exact h0
            rw [this]
            rfl
          refine⟨x,Pk_mono hpx,by rw [sz_mono hpx,hx];simp;omega,?_⟩
          refine st_set (false,.int (s:Int)) (by simp only [vE_bin,pk,vE_k,Option.map_some,vE_call,vG_cons,ag,getv,List.getElem?_cons_zero,Option.join_some,Option.bind_some,agR,List.getElem?_cons_succ,pkR,binP_add,e0,evG_nil,q,binP_fdiv,d5,↓reduceIte,binP_mod,d4,hs]) ?_
          refine st_T (x:=false) ((hlen _ rfl).trans (by rw [decide_eq_true h1L])) (st_app (false,pgD m x) (e_ix rfl rfl hix) rfl hal rfl) ?_
          refine st_set (false,.int ((i+s:Nat):Int)) (by simp only [keepR,Bool.and_false,List.set_cons_succ,List.set_cons_zero,vE_bin,pk,getv,List.getElem?_cons_succ,List.getElem?_cons_zero,Option.join_some,Option.bind_some,pkR,binP_add,e1]) ?_
          rw [List.map_append]
          rfl
        · have h33:=C33 L hcl λp hp=>Pk_ok (hmem p hp)
          refine⟨mkF L,Pk_mkF hcn hmem,by show 1+(L.map (sz j)).sum≤_;have:=sum_len j L;have:1≤L.length:=List.length_pos_iff.mpr hcn;omega,?_⟩
          refine st_set (false,.int (s:Int)) (by simp only [vE_bin,pk,vE_k,Option.map_some,vE_call,vG_cons,ag,getv,List.getElem?_cons_zero,Option.join_some,Option.bind_some,agR,List.getElem?_cons_succ,pkR,binP_add,e0,evG_nil,q,binP_fdiv,d5,↓reduceIte,binP_mod,d4,hs]) ?_
          refine st_F (x:=false) ((hlen _ rfl).trans (by rw [decide_eq_false h1L])) (st_app (false,pgD m (mkF L)) (by simp only [keepR,Bool.and_false,List.set_cons_succ,List.set_cons_zero,vE_call,vG_cons,ag,vE_sl,pk,getv,List.getElem?_cons_succ,List.getElem?_cons_zero,Option.join_some,Option.bind_some,pkR,vO_some,oInt,vE_bin,binP_add,e1,Option.map_some,slP_L,hcut,evG_nil,h33]) rfl hal rfl) ?_
          refine st_set (false,.int ((i+s:Nat):Int)) (by simp only [keepR,Bool.and_false,List.set_cons_succ,List.set_cons_zero,vE_bin,pk,getv,List.getElem?_cons_succ,List.getElem?_cons_zero,Option.join_some,Option.bind_some,pkR,binP_add,e1]) ?_
          rw [List.map_append]
          rfl
      obtain⟨x,x1,x2,x3⟩:=step
      obtain⟨acc',p5,p6,r1,r2,r3,r4⟩:=ih (i+s) (acc++[x]) (some (false,.int (s:Int))) f (by omega) (by omega) (λp hp=>by
        rcases List.mem_append.mp hp with hp|hp
        · exact h3 p hp
        · rw [List.mem_singleton] at hp;subst hp;exact x1) (by
        rw [htk,List.map_append,List.map_append,List.sum_append,List.sum_append]
        simp only [List.map_cons,List.map_nil,List.sum_cons,List.sum_nil]
        omega) (.inr (by simp)) (by rw [List.length_append,List.length_singleton];omega)
      refine⟨acc',p5,p6,r1,r2,r3,?_⟩
      rw [whlGo]
      show (evE call _ _).bind _=_
      rw [cond,decide_eq_true hi]
      show (evSs call _ _).bind (loopK _)=_
      rw [x3]
      exact r4
    · rw [List.take_of_length_le (by omega)] at h4
      refine⟨acc,some (false,.int (i:Int)),o6,h3,h4,λhne=>h5.resolve_left (λz=>hne (List.length_eq_zero_iff.mp (by omega))),?_⟩
      rw [whlGo]
      show (evE call _ _).bind _=_
      rw [cond,decide_eq_false hi]
      rfl
theorem t_tree (m:Nat) (ns:List Int) (d1:D) (p0:List Pg) (h0:p0≠[]) (hl0:p0.length≤18) (hp0:∀p∈p0,Pk 0 p) (C32:call 15 [.lst (ns.map .int),d1]=some (true,.lst (p0.map (pgD m)))) (hd1:∃xs,d1=.lst xs)
    (C24:∀k:Nat,call 7 [.lst (ns.map .int),.int (k:Int)]=some (false,.int (cellZ ns k))) (C33:∀qs:List Pg,qs.length≤10000→(∀p∈qs,OkT p.o)→call 16 [.lst (qs.map (pgD m))]=some (false,pgD m (mkF qs))) :
    ∃p:Pg,Pk 5 p∧sz 5 p≤576∧evSs call [some (false,.lst (ns.map .int)),some (false,d1),none,none,none,none,none] f_law_tree.body=some (.rt (false,pgD m p)):=by
  obtain⟨xs,rfl⟩:=hd1
  obtain⟨σ',h',ps,o3,o4,o5,o6,q1,q2,q3,rfl⟩:=evFor_rng (call:=call) (tg:=.one 3) (body:=[.set 4 true (.lst []),.set 5 false (.k (.int 0)),.whl (.cmp .lt (.v 5) (.bi .len [(.v 2)])) [.set 6 false (.bin .add (.k (.int 1)) (.bin .mod (.bin .fdiv (.call 7 [(.v 0),(.bin .add (.v 3) (.v 5))]) (.k (.int 5))) (.k (.int 4)))),.ite (.cmp .eq (.bi .len [(.sl (.v 2) (some (.v 5)) (some (.bin .add (.v 5) (.v 6))))]) (.k (.int 1))) [.app 4 (.ix (.v 2) (.v 5))] [.app 4 (.call 16 [(.sl (.v 2) (some (.v 5)) (some (.bin .add (.v 5) (.v 6))))])],.set 5 false (.bin .add (.v 5) (.v 6))],.frz [4],.set 2 false (.v 4)]) (λj σ=>∃(ps:List Pg) (o3 o4 o5 o6:Option R),(∀p∈ps,Pk j p)∧(ps.map (sz j)).sum≤2^j * 18∧ps≠[]∧σ=[some (false,.lst (ns.map .int)),some (false,.lst xs),some (false,.lst (ps.map (pgD m))),o3,o4,o5,o6]) 4 (λi:Nat=>.int (i:Nat))
    [some (false,.lst (ns.map .int)),some (false,.lst xs),some (false,.lst (p0.map (pgD m))),none,none,none,none] ⟨p0,_,_,_,_,hp0,by
      have:∀l:List Pg,(l.map (sz 0)).sum=l.length:=λl=>by
        induction l with
        | nil=>rfl
        | cons x l ih=>rw [List.map_cons,List.sum_cons,ih,List.length_cons];show 1+l.length=_;omega
      rw [this]
      omega,h0,rfl⟩ (by
      rintro j σ hj ⟨ps,o3,o4,o5,o6,q1,q2,q3,rfl⟩
      have hb:2^j * 18≤144:=by
        have:j=0∨j=1∨j=2∨j=3:=by omega
        rcases this with rfl|rfl|rfl|rfl<;>decide
      have hl:=sum_len j ps
      obtain⟨acc,p5,p6,r1,r2,r3,r4⟩:=whl_tr (call:=call) m ns (.lst xs) j j ps q1 (by omega) C24 C33 144 0 [] o6 big (by omega) (big_ge _ (by decide)) (λp hp=>nomatch hp) (Nat.zero_le _) (.inl rfl) (by decide)
      refine⟨_,_,rfl,?_,acc,some (false,.int (j:Nat)),some (false,.lst (acc.map (pgD m))),p5,p6,r1,by rw [Nat.pow_succ];omega,r3 q3,rfl⟩
      refine st_set (true,.lst []) (by simp only [List.set_cons_succ,List.set_cons_zero,vE_lst,evA_nil,List.length_nil,lim0,↓reduceIte]) ?_
      refine st_set (false,.int 0) rfl ?_
      refine st_whl r4 ?_
      rfl)
  have hl:=sum_len 4 ps
  refine (?_:∃p:Pg,_)
  by_cases h1:ps.length=1
  · obtain⟨x,rfl⟩:=List.length_eq_one_iff.mp h1
    refine⟨x,Pk_mono (q1 x (List.mem_singleton_self x)),?_,?_⟩
    · rw [sz_mono (q1 x (List.mem_singleton_self x))]
      simp at q2
      omega
    · refine st_set (true,.lst (p0.map (pgD m))) (e_call2 rfl rfl C32) ?_
      refine st_forR (ds:=[.int ((4:Nat):Int)]) rfl (rng_le (by decide)) h' ?_
      exact st_TR (x:=false) (by simp only [List.map_cons,List.map_nil,vE_cmp,pk,vE_bi,vAP_cons,getv,List.getElem?_cons_succ,List.getElem?_cons_zero,Option.join_some,Option.bind_some,pkR,evAP_nil,biP_lenL,List.length_cons,List.length_nil,Nat.reduceAdd,Option.map_some,vE_k,cmpP_eqI];rfl) (st_ret (r:=(false,pgD m x)) (by simp only [retv,List.map_cons,List.map_nil,vE_ix,pk,getv,List.getElem?_cons_succ,List.getElem?_cons_zero,Option.join_some,Option.bind_some,pkR,vE_k,Option.map_some,ixP_L,ixQ_0]) rfl) rfl
  · refine⟨mkF ps,Pk_mkF q3 q1,?_,?_⟩
    · show 1+(ps.map (sz 4)).sum≤576
      omega
    · refine st_set (true,.lst (p0.map (pgD m))) (e_call2 rfl rfl C32) ?_
      refine st_forR (ds:=[.int ((4:Nat):Int)]) rfl (rng_le (by decide)) h' ?_
      refine st_skip (x:=false) (e_cmp (x:=.int ((ps.length:Nat):Int)) (by simp only [pk,vE_bi,vAP_cons,getv,List.getElem?_cons_succ,List.getElem?_cons_zero,Option.join_some,Option.bind_some,pkR,evAP_nil,biP_lenL,List.length_map,Option.map_some]) rfl ?_) (st_ret (r:=(false,pgD m (mkF ps))) (e_call1 rfl (C33 ps (by omega) λp hp=>Pk_ok (q1 p hp))) rfl)
      show some (false,D.bl (((ps.length:Nat):Int) == 1))=_
      rw [show (((ps.length:Nat):Int) == 1)=false by rw [beq_eq_false_iff_ne];omega]
end
theorem tup_add (a b:List D) (h:a.length+b.length≤100000):binP .add (.tup a) (.tup b)=some (false,.tup (a++b)):=by
  cases a with
  | nil=>rfl
  | cons x r=>rw [binP_addT,if_pos (le_lim (by rw [List.length_cons] at h;omega))]
section
variable {call:Nat→List D→Option R}
theorem e_bin {σ:En}{o:BOp}{a b:C}{x y:D}{r:Option R}(ha:pk σ a (evE call σ a)=some x) (hb:pk σ b (evE call σ b)=some y) (h:binP o x y=r):evE call σ (.bin o a b)=r:=by
  rw [vE_bin,ha];simp only;rw [hb];exact h
end
section
variable {call:Nat→List D→Option R}
theorem e_call4 {σ:En}{f:Nat}{a b c d:C}{x y w v:D}{r:Option R}(ha:ag σ a (evE call σ a)=some x) (hb:ag σ b (evE call σ b)=some y) (hw:ag σ c (evE call σ c)=some w) (hv:ag σ d (evE call σ d)=some v) (hc:call f [x,y,w,v]=r):evE call σ (.call f [a,b,c,d])=r:=by
  rw [evE_call,evG_cons,ha,Option.bind_some,evG_cons,hb,Option.bind_some,evG_cons,hw,Option.bind_some,evG_cons,hv,Option.bind_some,evG_nil,Option.bind_some,Option.bind_some,Option.bind_some,Option.bind_some,Option.bind_some]
  exact hc
end
theorem c_poured (n m:Nat) (hm:m≤100) (l:List (Option To)) (hl:l.length≤10000) (hev:∀t,some t∈l→t.ev<65536):callN tab (n+2) 14 [.lst (l.map (oD m))]=some (false,oD m (fo l)):=
  call_rt t14 rfl rfl (t_poured m hm l hl hev λL t ts hL=>call_rt t13 rfl rfl (t_frames m hm L ts t hL)) (by cases fo l<;>rfl)
theorem c_fork (n m:Nat) (hm:m≤100) (ps:List Pg) (hl:ps.length≤10000) (hp:∀p∈ps,OkT p.o):callN tab (n+3) 16 [.lst (ps.map (pgD m))]=some (false,pgD m (mkF ps)):=
  call_rt t16 rfl rfl (t_fork m (λl h1 h2=>c_poured n m hm l h1 h2) ps hl hp)
theorem sum_mem {f:Pg→Nat}:∀{ps:List Pg}{q:Pg},q∈ps→f q≤(ps.map f).sum
  | p::ps,q,h=>by
    rw [List.map_cons,List.sum_cons]
    rcases List.mem_cons.mp h with rfl|h
    · omega
    · have:=sum_mem (f:=f) h
      omega
theorem Pk_at {p q:Pg}{ρ:List Nat}(ha:At p ρ q):∀h,Pk h p→ρ.length≤h:=by
  induction ha with
  | nil p=>exact λh _=>Nat.zero_le _
  | @cons o ps i q r ρ hi _ ih =>
    intro h hp
    cases h with
    | zero=>exact hp.elim
    | succ h =>
      have:=ih h (hp.2.2 q (List.mem_of_getElem? hi))
      simp
      omega
theorem row_ix {m:Nat}{l:List (List Nat×Pg)}{j:Nat}{x:List Nat×Pg}(h:l[j]?=some x):ixP (.lst (l.map (rwD m))) (.int (j:Int))=some (false,rwD m x):=by
  rw [ixP_L,ixQ_nat,List.getElem?_map,h]
  rfl
theorem rw0 (m:Nat) (x:List Nat×Pg):ixP (rwD m x) (.int 0)=some (false,piD x.1):=rfl
theorem rw1 (m:Nat) (x:List Nat×Pg):ixP (rwD m x) (.int 1)=some (false,pgD m x.2):=rfl
section
variable {call:Nat→List D→Option R}
theorem ag_cmp {σ:En} {o a b}{r:R}(h:evE call σ (.cmp o a b)=some r):ag σ (.cmp o a b) (evE call σ (.cmp o a b))=some r.2:=by rw [h];rfl
end
theorem c_walk (n m H:Nat) (p:Pg) (hp:Pk H p) (hs:sz H p≤1000):callN tab (n+1) 18 [pgD m p]=some (true,.lst ((pre H [] p).map (rwD m))):=
  call_rt t18 rfl (by rw [ag_pg]<;>rfl) (t_walk m H p hp (by rw [pre_len];exact hs))
theorem sz_at {p q:Pg}{ρ:List Nat}(ha:At p ρ q):∀h,Pk h p→sz h q≤sz h p:=by
  induction ha with
  | nil p=>exact λh _=>Nat.le_refl _
  | @cons o ps i q r ρ hi h2 ih =>
    intro h hp
    cases h with
    | zero=>exact hp.elim
    | succ h =>
      have hq:q∈ps:=List.mem_of_getElem? hi
      have h3:=ih h (hp.2.2 q hq)
      have h4:Pk h r:=by
        have:∀{p q:Pg} {ρ:List Nat},At p ρ q→∀h,Pk h p→Pk h q:=λ{p q ρ} ha=>by
          induction ha with
          | nil p=>exact λh hp=>hp
          | @cons o ps i q r ρ hi _ ih =>
            intro h hp
            cases h with
            | zero=>exact hp.elim
            | succ h=>exact Pk_mono (ih h (hp.2.2 q (List.mem_of_getElem? hi)))
        exact this h2 h (hp.2.2 q hq)
      have h5:=sum_mem (f:=sz h) hq
      rw [sz_mono h4]
      show _≤1+(ps.map (sz h)).sum
      omega
theorem c_cell (n:Nat) (ns:List Int) (k:Nat):callN tab (n+1) 7 [.lst (ns.map .int),.int (k:Int)]=some (false,.int (cellZ ns k)):=call_rt t7 rfl rfl (t_cell ns k)
theorem c_things (n m:Nat) (hm:m=2∨m=3) (cs:List Int) (mk:Nat) (h1:cs.length≤63) (h2:mk<65536):∃ts:List Th,ts.length≤17∧callN tab (n+4) 11 [.lst (cs.map .int),.int (m:Int),.int (mk:Int)]=some (true,.lst (ts.map (thD m))):=by
  obtain⟨ts,h3,h4⟩:=t_things (call:=callN tab (n+3)) cs m hm h1 mk λpart last ks q1 q2 q3=>by
    have hla:agE false [.lst (part.map .int),last,.dct false ks,.int (mk:Int)]=[some (false,.lst (part.map .int)),some (false,last),some (true,.dct false ks),some (false,.int (mk:Int))]:=by
      obtain⟨d,g,e,_⟩:=q2 0 (by omega)
      cases last<;>first|rfl|cases e
    obtain⟨t,h4,h5⟩:=t_thing (call:=callN tab (n+2)) part m (by omega) q1 last q2 ks q3 mk h2 λc q hq=>by
      obtain⟨v,b,h⟩:=t_even (call:=callN tab (n+1)) c q hq
      exact⟨v,b,call_rt t8 rfl rfl h⟩
    exact⟨t,h4,call_rt t10 rfl (by rw [hla];rfl) h5⟩
  exact⟨ts,h3,call_rt t11 rfl rfl h4⟩
theorem c_tree (n m:Nat) (hm:m≤100) (ns:List Int) (ts:List Th) (hts:ts.length≤17):∃p:Pg,Pk 5 p∧sz 5 p≤576∧callN tab (n+5) 17 [.lst (ns.map .int),.lst (ts.map (thD m))]=some (false,pgD m p):=by
  obtain⟨ps,h1,h2,h3,h4⟩:=t_leaves (call:=callN tab (n+3)) m ns ts hts (λk=>c_cell (n+2) ns k) (λt=>call_rt t12 rfl rfl (t_own m t)) (λl a b=>c_poured (n+1) m hm l a b)
  obtain⟨p,q1,q2,q3⟩:=t_tree (call:=callN tab (n+4)) m ns (.lst (ts.map (thD m))) ps h1 h2 h3 (call_rt t15 rfl rfl h4) ⟨_,rfl⟩ (λk=>c_cell (n+3) ns k) λqs a b=>c_fork (n+1) m hm qs a b
  exact⟨p,q1,q2,call_rt t17 rfl rfl q3 (by rw [pg_eq];rfl)⟩
end Dw.T
namespace Dw.T
open Dw
noncomputable def npS:PySem.Str:=PySem.Str.ofString "NoPath"
theorem np_at:List.lookup npS [(PySem.Str.ofString "NoPath",D.bl true)]=some (D.bl true):=by
  show List.lookup npS [(npS,D.bl true)]=_
  rw [List.lookup_cons,beq_self_eq_true]
noncomputable def stD (ss:List Int):List D:=ss.map .int
noncomputable def Bad (q:Pg) (s:Int):Prop:=q.isLf=true∨s<0∨((q.ks.length:Nat):Int)≤s
noncomputable def raw (π:List Nat) (ss:List Int):D:=.tup ((π.map λi:Nat=>D.int (i:Int))++stD ss)
section
variable {call:Nat→List D→Option R}
theorem bad_step (m:Nat) (d0 d1:D) (C10:∀p,call 0 [pgD m p]=some (false,.bl p.isLf)) (C12:∀p,call 1 [pgD m p]=some (false,.tup (prD m p))) (q:Pg) (s:Int) (hb:Bad q s) :
    evSs call [some (false,d0),some (false,d1),some (false,pgD m q),some (false,.int s)] [.ite (.or (.call 0 [(.v 2)]) (.or (.cmp .lt (.v 3) (.k (.int 0))) (.cmp .ge (.v 3) (.bi .len [(.call 1 [(.v 2)])])))) [.rse (PySem.Str.ofString "NoPath")] [],.set 2 false (.ix (.call 1 [(.v 2)]) (.v 3))]=some (.rt (false,.exc npS)):=by
  refine st_TR (x:=false) (r:=(false,.exc npS)) ?_ rfl rfl
  cases q with
  | lf o L=>rw [vE_or,e_call1 (d:=pgD m (.lf o L)) (r:=some (false,.bl true)) rfl (C10 _)];rfl
  | fk o ps =>
    have hh:(decide (s<0)||decide (((ps.length:Nat):Int)≤s))=true:=by
      rcases hb with h|h|h
      · cases h
      · rw [decide_eq_true h];rfl
      · rw [Bool.or_eq_true];exact .inr (decide_eq_true h)
    have:=e_or (call:=call) (σ:=[some (false,d0),some (false,d1),some (false,pgD m (.fk o ps)),some (false,.int s)]) (a:=.call 0 [(.v 2)]) (b:=.or (.cmp .lt (.v 3) (.k (.int 0))) (.cmp .ge (.v 3) (.bi .len [(.call 1 [(.v 2)])]))) (x:=false) (y:=false) (p:=false) (q:=decide (s<0)||decide (((ps.length:Nat):Int)≤s)) (e_call1 rfl (C10 _))
      (e_or (x:=false) (y:=false) (e_cmp rfl rfl rfl) (e_cmp rfl (pk_bi (r:=(false,.int ((ps.length:Nat):Int))) (e_bi1 (pk_call (e_call1 rfl (C12 _))) (by show some (false,D.int (((ps.map (pgD m)).length:Nat):Int))=_;rw [List.length_map]))) rfl))
    rw [hh] at this
    exact this
theorem at_bad (m:Nat) (d0 d1:D) (C10:∀p,call 0 [pgD m p]=some (false,.bl p.isLf)) (C12:∀p,call 1 [pgD m p]=some (false,.tup (prD m p))) {p q:Pg}{ρ:List Nat}(ha:At p ρ q) (s:Int) (hb:Bad q s) (rs:List D):∀o3:Option R,
    evFor call [.ite (.or (.call 0 [(.v 2)]) (.or (.cmp .lt (.v 3) (.k (.int 0))) (.cmp .ge (.v 3) (.bi .len [(.call 1 [(.v 2)])])))) [.rse (PySem.Str.ofString "NoPath")] [],.set 2 false (.ix (.call 1 [(.v 2)]) (.v 3))] (.one 3) ((ρ.map λi:Nat=>D.int (i:Int))++.int s::rs) [some (false,d0),some (false,d1),some (false,pgD m p),o3]=some (.rt (false,.exc npS)):=by
  induction ha with
  | nil p =>
    intro o3
    rw [List.map_nil,List.nil_append,evFor_cons]
    show ((evSs call [some (false,d0),some (false,d1),some (false,pgD m p),some (false,.int s)] [.ite (.or (.call 0 [(.v 2)]) (.or (.cmp .lt (.v 3) (.k (.int 0))) (.cmp .ge (.v 3) (.bi .len [(.call 1 [(.v 2)])])))) [.rse (PySem.Str.ofString "NoPath")] [],.set 2 false (.ix (.call 1 [(.v 2)]) (.v 3))]).bind _)=_
    rw [bad_step m d0 d1 C10 C12 p s hb]
    rfl
  | @cons o ps i q r ρ hi _ ih =>
    intro o3
    have ih:=ih hb (some (false,.int (i:Int)))
    have hlt:i<ps.length:=(List.getElem?_eq_some_iff.mp hi).1
    have h1:evE call [some (false,d0),some (false,d1),some (false,pgD m (.fk o ps)),some (false,.int (i:Int))] (.or (.call 0 [(.v 2)]) (.or (.cmp .lt (.v 3) (.k (.int 0))) (.cmp .ge (.v 3) (.bi .len [(.call 1 [(.v 2)])]))))=some (false,.bl false):=by
      refine e_or (x:=false) (y:=false) (p:=false) (q:=false) (e_call1 rfl (C10 _)) (e_or (x:=false) (y:=false) (p:=false) (q:=false) (e_cmp rfl rfl ?_) (e_cmp rfl (pk_bi (r:=(false,.int ((ps.length:Nat):Int))) (e_bi1 (pk_call (e_call1 rfl (C12 _))) ?_)) ?_))
      · show some (false,D.bl (decide ((i:Int)<0)))=_
        rw [decide_eq_false (by omega)]
      · show some (false,D.int (((ps.map (pgD m)).length:Nat):Int))=_
        rw [List.length_map]
      · show some (false,D.bl (decide (((ps.length:Nat):Int)≤(i:Int))))=_
        rw [decide_eq_false (by omega)]
    have h2:evE call [some (false,d0),some (false,d1),some (false,pgD m (.fk o ps)),some (false,.int (i:Int))] (.ix (.call 1 [(.v 2)]) (.v 3))=some (false,pgD m q):=by
      refine e_ix (pk_call (e_call1 rfl (C12 _))) rfl ?_
      show ixP (.tup (ps.map (pgD m))) (.int ((i:Nat):Int))=_
      rw [ixP_T,ixQ_nat,List.getElem?_map,hi]
      rfl
    rw [List.map_cons,List.cons_append,evFor_cons]
    show ((evSs call [some (false,d0),some (false,d1),some (false,pgD m (.fk o ps)),some (false,.int (i:Int))] [.ite (.or (.call 0 [(.v 2)]) (.or (.cmp .lt (.v 3) (.k (.int 0))) (.cmp .ge (.v 3) (.bi .len [(.call 1 [(.v 2)])])))) [.rse (PySem.Str.ofString "NoPath")] [],.set 2 false (.ix (.call 1 [(.v 2)]) (.v 3))]).bind _)=_
    rw [st_skip (z:=some (.nx [some (false,d0),some (false,d1),some (false,pgD m q),some (false,.int (i:Int))])) h1 (st_set (false,pgD m q) h2 rfl)]
    exact ih
theorem t_off (m:Nat) {p q:Pg}{π:List Nat}(ha:At p π q) (s:Int) (hb:Bad q s) (ss:List Int) (C10:∀p,call 0 [pgD m p]=some (false,.bl p.isLf)) (C12:∀p,call 1 [pgD m p]=some (false,.tup (prD m p))) :
    evSs call [some (false,pgD m p),some (false,raw π (s::ss)),none,none] f_page_at.body=some (.rt (false,.exc npS)):=by
  refine st_set (false,pgD m p) (by rw [pg_eq];rfl) ?_
  exact st_forSr (r:=(false,raw π (s::ss))) rfl rfl (at_bad m (pgD m p) _ C10 C12 ha s hb _ none) rfl
end
theorem ag_raw (m:Nat) (p:Pg) (π:List Nat) (ss:List Int):agE false [pgD m p,raw π ss]=[some (false,pgD m p),some (false,raw π ss)]:=by rw [pg_eq];rfl
theorem c_off (n m:Nat) {p q:Pg}{π:List Nat}(ha:At p π q) (s:Int) (hb:Bad q s) (ss:List Int):callN tab (n+2) (3+XO) [pgD m p,raw π (s::ss)]=some (false,.exc npS):=
  call_xt t3 (by decide) rfl (by rw [ag_raw];rfl) (t_off m ha s hb ss (c_leaf n m) (c_pr n m))
section
variable {call:Nat→List D→Option R}
theorem st_try {σ:En}{i t f:Nat}{as:List C}{tb:List (PySem.Str×D)}{xs:List D}{c:PySem.Str}{d:D}{rest:List S}{z:Option Ou}(hi:(getv σ i).isNone∧i<σ.length) (ha:evG call σ as=some xs) (hc:call (f+XO) xs=some (false,.exc c)) (ht:tb.lookup c=some d) (k:evSs call (σ.set t (some (false,d))) rest=z):evSs call σ (.tryB i t f as tb::rest)=z:=by
  rw [evSs_cons,evS_tryB,if_pos hi,ha,Option.bind_some,hc,Option.bind_some]
  show ((tb.lookup c).map _).bind _=_
  rw [ht]
  exact k
theorem t_by (d0 d1:D) (h0:agE false [d0,d1]=[some (false,d0),some (false,d1)]) (hg:evG call [some (false,d0),some (false,d1),some (false,.bl false),none] [(.v 0),(.v 1)]=some [d0,d1]) (C3:call (3+XO) [d0,d1]=some (false,.exc npS)) :
    evSs call [some (false,d0),some (false,d1),none,none] f_law_by_its_name.body=some (.rt (false,.bl true)):=by
  refine st_set (false,.bl false) rfl ?_
  refine st_try (xs:=[d0,d1]) (c:=npS) (d:=.bl true) ⟨rfl,by simp⟩ hg C3 np_at ?_
  exact st_ret (r:=(false,.bl true)) rfl rfl
theorem t_ref (d0 d1:D) (w:Bool) (hg:∀x y z,evG call [some (false,d0),some (false,d1),x,y,z] [(.v 0),(.v 1)]=some [d0,d1]) (C3:call (3+XO) [d0,d1]=some (false,.exc npS)) (C20:call 20 [d0,d1]=some (false,.bl true)) :
    evSs call [some (false,d0),some (false,d1),some (false,.bl w),none,none] f_law_refused.body=some (.rt (false,.bl true)):=by
  refine st_set (false,.bl false) rfl ?_
  cases w with
  | true =>
    refine st_TR (x:=false) (r:=(false,.bl true)) rfl ?_ rfl
    refine st_try (xs:=[d0,d1]) (c:=npS) (d:=.bl true) ⟨rfl,by simp⟩ (hg _ _ _) C3 np_at ?_
    exact st_ret (r:=(false,.bl true)) rfl rfl
  | false =>
    refine st_skip (x:=false) rfl ?_
    refine st_ret (r:=(false,.bl true)) ?_ rfl
    have:evE call [some (false,d0),some (false,d1),some (false,.bl false),some (false,.bl false),none] (.call 20 [(.v 0),(.v 1)])=some (false,.bl true):=by
      rw [evE_call]
      have q:=hg (some (false,.bl false)) (some (false,.bl false)) none
      rw [q,Option.bind_some]
      exact C20
    exact this
end
theorem c_by (n m:Nat) {p q:Pg}{π:List Nat}(ha:At p π q) (s:Int) (hb:Bad q s) (ss:List Int):callN tab (n+3) 20 [pgD m p,raw π (s::ss)]=some (false,.bl true):=
  call_rt t20 rfl (by rw [ag_raw];rfl) (t_by (call:=callN tab (n+2)) _ _ (ag_raw m p π _) (by rw [pg_eq];rfl) (c_off n m ha s hb ss))
theorem c_ref (n m:Nat) {p q:Pg}{π:List Nat}(ha:At p π q) (s:Int) (hb:Bad q s) (ss:List Int) (w:Bool):callN tab (n+4) 21 [pgD m p,raw π (s::ss),.bl w]=some (false,.bl true):=
  call_rt t21 rfl (by rw [show agE false [pgD m p,raw π (s::ss),.bl w]=[some (false,pgD m p),some (false,raw π (s::ss)),some (false,.bl w)] by rw [pg_eq];rfl];rfl) (t_ref (call:=callN tab (n+3)) _ _ w (λ_ _ _=>by rw [pg_eq];rfl) (c_off (n+1) m ha s hb ss) (c_by n m ha s hb ss))
end Dw.T
namespace Dw.T
open Dw
noncomputable def lfT:Pg→List Th
  | .lf _ L=>L
  | .fk _ _=>[]
noncomputable def bn:Nat→Pg→List Th
  | 0,p=>lfT p
  | _+1,.lf _ L=>L
  | h+1,.fk _ ps=>ps.flatMap (bn h)
theorem len_fm (f:Pg→List Th):∀ps:List Pg,(ps.flatMap f).length=(ps.map λp=>(f p).length).sum
  | []=>rfl
  | p::ps=>by rw [List.flatMap_cons,List.length_append,len_fm f ps,List.map_cons,List.sum_cons]
theorem bn_kid {h:Nat}{o:Option To}{ps:List Pg}{q:Pg}(hq:q∈ps):(bn h q).length≤(bn (h+1) (.fk o ps)).length:=by
  show _≤(ps.flatMap (bn h)).length
  rw [len_fm]
  exact sum_mem (f:=λp=>(bn h p).length) hq
theorem sum_le100 {f g:Pg→Nat}:∀ps:List Pg,(∀p∈ps,f p≤100 * g p)→(ps.map f).sum≤100 * (ps.map g).sum
  | [],_=>Nat.le_refl _
  | p::ps,h=>by
    rw [List.map_cons,List.map_cons,List.sum_cons,List.sum_cons]
    have:=h p List.mem_cons_self
    have:=sum_le100 ps λq hq=>h q (List.mem_cons_of_mem _ hq)
    omega
theorem bn_len:∀(h:Nat) (p:Pg),Pk h p→(bn h p).length≤100 * sz h p
  | 0,.lf o L,hp=>hp.2
  | 0,.fk o ps,hp=>hp.elim
  | _+1,.lf o L,hp=>hp.2
  | h+1,.fk o ps,hp=>by
    show (ps.flatMap (bn h)).length≤100 * (1+(ps.map (sz h)).sum)
    rw [len_fm]
    have:=sum_le100 (f:=λp=>(bn h p).length) (g:=sz h) ps λp hq=>bn_len h p (hp.2.2 p hq)
    omega
theorem preL_bn {h:Nat}{π:List Nat}:∀(ps:List Pg) (k:Nat),(∀p∈ps,∀π,(pre h π p).flatMap (λx=>lfT x.2)=bn h p)→(preL (pre h) π k ps).flatMap (λx=>lfT x.2)=ps.flatMap (bn h)
  | [],_,_=>rfl
  | p::ps,k,H=>by
    show (pre h (π++[k]) p++preL (pre h) π (k+1) ps).flatMap _=_
    rw [List.flatMap_append,H p List.mem_cons_self,preL_bn ps (k+1) λq hq=>H q (List.mem_cons_of_mem _ hq),List.flatMap_cons]
theorem pre_bn:∀(h:Nat) (p:Pg) (π:List Nat),(pre h π p).flatMap (λx=>lfT x.2)=bn h p
  | 0,p,π=>by
    show [(π,p)].flatMap _=_
    rw [List.flatMap_cons,List.flatMap_nil,List.append_nil]
    rfl
  | h+1,.lf o L,π=>by
    show [(π,Pg.lf o L)].flatMap _=_
    rw [List.flatMap_cons,List.flatMap_nil,List.append_nil]
    rfl
  | h+1,.fk o ps,π=>by
    show ((π,Pg.fk o ps)::preL (pre h) π 0 ps).flatMap _=_
    rw [List.flatMap_cons,preL_bn ps 0 λp _ π=>pre_bn h p π]
    rfl
section
variable {call:Nat→List D→Option R}
theorem tin_loop (m h:Nat) (d0:D):∀(ps:List Pg) (acc:List Th) (o2:Option R),(∀q∈ps,call 2 [pgD m q]=some (false,.tup ((bn h q).map (thD m))))→acc.length+(ps.flatMap (bn h)).length≤1000000 →
    ∃o2',evFor call [.ext 1 (.call 2 [(.v 2)])] (.one 2) (ps.map (pgD m)) [some (false,d0),some (true,.lst (acc.map (thD m))),o2]=some (.nx [some (false,d0),some (true,.lst ((acc++ps.flatMap (bn h)).map (thD m))),o2'])
  | [],acc,o2,_,_=>⟨o2,by rw [List.map_nil,List.flatMap_nil,List.append_nil];rfl⟩
  | q::qs,acc,o2,hC,hl=>by
    rw [List.flatMap_cons,List.length_append] at hl
    obtain⟨o2',ih⟩:=tin_loop m h d0 qs (acc++bn h q) (some (false,pgD m q)) (λr hr=>hC r (List.mem_cons_of_mem _ hr)) (by rw [List.length_append];omega)
    refine⟨o2',?_⟩
    rw [List.map_cons,evFor_cons]
    show ((evSs call [some (false,d0),some (true,.lst (acc.map (thD m))),some (false,pgD m q)] [.ext 1 (.call 2 [(.v 2)])]).bind _)=_
    rw [st_extT (rest:=[]) (ys:=(bn h q).map (thD m)) (z:=some (.nx [some (false,d0),some (true,.lst (acc.map (thD m)++(bn h q).map (thD m))),some (false,pgD m q)])) (e_call1 (by rw [pg_eq];rfl) (hC q List.mem_cons_self)) rfl (le_lim (by rw [List.length_map,List.length_map];omega)) rfl]
    rw [Option.bind_some]
    show evFor call _ _ _ _=_
    rw [←List.map_append,ih,List.flatMap_cons,List.append_assoc]
theorem t_tin (m h:Nat) (p:Pg) (hp:Pk (h+1) p) (hl:(bn (h+1) p).length≤1000000) (C10:call 0 [pgD m p]=some (false,.bl p.isLf)) (C12:call 1 [pgD m p]=some (false,.tup (prD m p))) (C2:∀q∈p.ks,call 2 [pgD m q]=some (false,.tup ((bn h q).map (thD m)))) :
    evSs call [some (false,pgD m p),none,none] f_things_in.body=some (.rt (false,.tup ((bn (h+1) p).map (thD m)))):=by
  cases p with
  | lf o L=>exact st_TR (x:=false) (r:=(false,.tup (L.map (thD m)))) (e_call1 rfl C10) (st_ret (r:=(false,.tup (L.map (thD m)))) (by show retv _ _ (evE call _ (.call 1 [(.v 0)]))=_;rw [e_call1 (d:=pgD m (.lf o L)) rfl C12];rfl) rfl) rfl
  | fk o ps =>
    refine st_skip (x:=false) (e_call1 rfl C10) ?_
    refine st_set (true,.lst []) (by simp only [vE_lst,evA_nil,List.length_nil,lim0,↓reduceIte]) ?_
    obtain⟨o2,hf⟩:=tin_loop (call:=call) m h (pgD m (.fk o ps)) ps [] none C2 (by rw [List.length_nil,Nat.zero_add];exact hl)
    refine st_forS (r:=(false,.tup (ps.map (pgD m)))) (e_call1 rfl C12) rfl hf ?_
    exact st_ret (r:=(false,.tup ((ps.flatMap (bn h)).map (thD m)))) rfl rfl
theorem ben_loop (m:Nat) (d0:D):∀(l:List (List Nat×Pg)) (acc:List Th) (o2:Option R),acc.length+(l.flatMap λx=>lfT x.2).length≤1000000 →
    ∃o2',evFor call [.ite (.cmp .eq (.ix (.ix (.v 2) (.k (.int 1))) (.k (.int 0))) (.k (.str (PySem.Str.ofString "leaf")))) [.set 1 false (.bin .add (.v 1) (.bi .list [(.ix (.ix (.v 2) (.k (.int 1))) (.k (.int 2)))]))] []] (.one 2) (l.map (rwD m)) [some (false,d0),some (false,.lst (acc.map (thD m))),o2]=some (.nx [some (false,d0),some (false,.lst ((acc++l.flatMap λx=>lfT x.2).map (thD m))),o2'])
  | [],acc,o2,_=>⟨o2,by rw [List.map_nil,List.flatMap_nil,List.append_nil];rfl⟩
  | (π,q)::l,acc,o2,hl=>by
    rw [List.flatMap_cons,List.length_append] at hl
    replace hl:acc.length+((lfT q).length+(l.flatMap λx=>lfT x.2).length)≤1000000:=hl
    obtain⟨o2',ih⟩:=ben_loop m d0 l (acc++lfT q) (some (false,rwD m (π,q))) (by rw [List.length_append];omega)
    refine⟨o2',?_⟩
    rw [List.map_cons,evFor_cons]
    show ((evSs call [some (false,d0),some (false,.lst (acc.map (thD m))),some (false,rwD m (π,q))] [.ite (.cmp .eq (.ix (.ix (.v 2) (.k (.int 1))) (.k (.int 0))) (.k (.str (PySem.Str.ofString "leaf")))) [.set 1 false (.bin .add (.v 1) (.bi .list [(.ix (.ix (.v 2) (.k (.int 1))) (.k (.int 2)))]))] []]).bind _)=_
    have st:evSs call [some (false,d0),some (false,.lst (acc.map (thD m))),some (false,rwD m (π,q))] [.ite (.cmp .eq (.ix (.ix (.v 2) (.k (.int 1))) (.k (.int 0))) (.k (.str (PySem.Str.ofString "leaf")))) [.set 1 false (.bin .add (.v 1) (.bi .list [(.ix (.ix (.v 2) (.k (.int 1))) (.k (.int 2)))]))] []]=some (.nx [some (false,d0),some (false,.lst ((acc++lfT q).map (thD m))),some (false,rwD m (π,q))]):=by
      have ht:=e_cmp (call:=call) (σ:=[some (false,d0),some (false,.lst (acc.map (thD m))),some (false,rwD m (π,q))]) (o:=.eq) (a:=.ix (.ix (.v 2) (.k (.int 1))) (.k (.int 0))) (b:=.k lfS) (pk_ix (e_ix (pk_ix (e_ix rfl rfl (rw1 m (π,q)))) rfl (pg0 m q))) rfl (kd_lf q)
      cases q with
      | fk o ps =>
        refine st_skip (x:=false) ht ?_
        rw [show acc++lfT (.fk o ps)=acc from List.append_nil _]
        rfl
      | lf o L =>
        refine st_T (x:=false) ht (st_set (true,.lst (acc.map (thD m)++L.map (thD m))) ?_ rfl) ?_
        · have h2:=pg2 m (.lf o L)
          have h3:=rw1 m (π,.lf o L)
          have hle:(acc.map (thD m)).length+(L.map (thD m)).length≤lim:=le_lim (by
            rw [List.length_map,List.length_map]
            have:acc.length+(L.length+(l.flatMap λx=>lfT x.2).length)≤1000000:=hl
            omega)
          refine e_bin (x:=.lst (acc.map (thD m))) (y:=.lst (L.map (thD m))) rfl (pk_bi (r:=(true,.lst (L.map (thD m)))) (e_bi1 (x:=.tup (L.map (thD m))) (pk_ix (e_ix (pk_ix (e_ix rfl rfl h3)) rfl h2)) rfl)) ?_
          rw [binP_addL,if_pos hle]
        · show some (Ou.nx _)=some (Ou.nx _)
          rw [List.map_append]
          rfl
    rw [st,Option.bind_some]
    show evFor call _ _ _ _=_
    rw [ih,List.flatMap_cons,List.append_assoc]
theorem t_ben (m H:Nat) (p:Pg) (hl:(bn H p).length≤1000000) (C18:call 18 [pgD m p]=some (true,.lst ((pre H [] p).map (rwD m)))) :
    evSs call [some (false,pgD m p),none,none] f_law_beneath.body=some (.rt (false,.tup ((bn H p).map (thD m)))):=by
  have e:=pre_bn H p []
  obtain⟨o2,hf⟩:=ben_loop (call:=call) m (pgD m p) (pre H [] p) [] none (by rw [e,List.length_nil,Nat.zero_add];exact hl)
  rw [e,List.nil_append] at hf
  refine st_set (true,.lst []) (by simp only [vE_lst,evA_nil,List.length_nil,lim0,↓reduceIte]) ?_
  refine st_forS (r:=(true,.lst ((pre H [] p).map (rwD m)))) (e_call1 (by rw [pg_eq];rfl) C18) rfl hf ?_
  exact st_ret (r:=(false,.tup ((bn H p).map (thD m)))) rfl rfl
end
theorem c_tin (m:Nat):∀(h n:Nat) (p:Pg),Pk h p→(bn h p).length≤1000000→callN tab (n+h+2) 2 [pgD m p]=some (false,.tup ((bn h p).map (thD m)))
  | 0,n,p,hp,hl=>by
    cases p with
    | fk o ps=>exact hp.elim
    | lf o L=>exact call_rt t2 rfl (by rw [ag_pg]<;>rfl) (t_tin (call:=callN tab (n+1)) m 0 (.lf o L) hp hl (c_leaf n m _) (c_pr n m _) λq hq=>nomatch hq)
  | h+1,n,p,hp,hl=>by
    refine call_rt t2 rfl (by rw [ag_pg]<;>rfl) (t_tin (call:=callN tab (n+h+2)) m h p hp hl (c_leaf (n+h+1) m _) (c_pr (n+h+1) m _) λq hq=>?_)
    cases p with
    | lf o L=>cases hq
    | fk o ps=>exact c_tin m h n q (hp.2.2 q hq) (Nat.le_trans (bn_kid hq) hl)
theorem c_ben (n m H:Nat) (p:Pg) (hp:Pk H p) (hs:sz H p≤1000):callN tab (n+2) 22 [pgD m p]=some (false,.tup ((bn H p).map (thD m))):=
  call_rt t22 rfl (by rw [ag_pg]<;>rfl) (t_ben (call:=callN tab (n+1)) m H p (by have:=bn_len H p hp;omega) (c_walk n m H p hp hs))
theorem c_high (n m h:Nat) (hh:h<100) (p:Pg) (hp:Pk h p):callN tab (n+1) 19 [pgD m p]=some (false,.int (hg h p:Nat)):=
  call_rt t19 rfl (by rw [ag_pg]<;>rfl) (t_high m h hh p hp)
theorem sh_pi (π:List Nat):shal 20 (piD π)=true:=by
  show shals 19 (π.map λi:Nat=>D.int (i:Int))=true
  exact sh_map 19 _ π λi _=>rfl
theorem sh_pg (m:Nat):∀(h:Nat) (p:Pg),Pk h p→shal (5+2 * h) (pgD m p)=true:=by
  intro h
  have lf:∀(n:Nat) (o:Option To) (L:List Th),shal (5+n) (pgD m (.lf o L))=true:=λn o L=>by
    rw [pg_eq,show 5+n=4+n+1 by omega]
    show shals (4+n) [lfS,oD m o,.tup (L.map (thD m))]=true
    have h1:shal (4+n) (oD m o)=true:=sh_le (sh_to m o) (by omega)
    have h2:shal (4+n) (.tup (L.map (thD m)))=true:=by
      rw [show 4+n=3+n+1 by omega]
      exact sh_map (3+n) (thD m) L λt _=>sh_le (sh_th m t) (by omega)
    rw [shals,shals,shals,shals,h1,h2]
    rw [show 4+n=(3+n)+1 by omega]
    rfl
  induction h with
  | zero =>
    intro p hp
    cases p with
    | lf o L=>exact lf 0 o L
    | fk o ps=>exact hp.elim
  | succ h ih =>
    intro p hp
    cases p with
    | lf o L=>exact lf _ o L
    | fk o ps =>
      rw [pg_eq,show 5+2 * (h+1)=6+2 * h+1 by omega]
      show shals (6+2 * h) [fkS,oD m o,.tup (ps.map (pgD m))]=true
      have h1:shal (6+2 * h) (oD m o)=true:=sh_le (sh_to m o) (by omega)
      have h2:shal (6+2 * h) (.tup (ps.map (pgD m)))=true:=by
        rw [show 6+2 * h=5+2 * h+1 by omega]
        exact sh_map (5+2 * h) (pgD m) ps λq hq=>ih q (hp.2.2 q hq)
      rw [shals,shals,shals,shals,h1,h2]
      rw [show 6+2 * h=(5+2 * h)+1 by omega]
      rfl
end Dw.T
namespace Dw.T
open Dw
section
variable {call:Nat→List D→Option R}
theorem ag_ix {σ:En} {a b}{r:R}(h:evE call σ (.ix a b)=some r):ag σ (.ix a b) (evE call σ (.ix a b))=some r.2:=by rw [h];rfl
theorem ag_lst {σ:En} {a}{r:R}(h:evE call σ (.lst a)=some r):ag σ (.lst a) (evE call σ (.lst a))=some r.2:=by rw [h];rfl
theorem ag_bin {σ:En} {o a b}{r:R}(h:evE call σ (.bin o a b)=some r):ag σ (.bin o a b) (evE call σ (.bin o a b))=some r.2:=by rw [h];rfl
theorem ag_not {σ:En} {a}{r:R}(h:evE call σ (.not a)=some r):ag σ (.not a) (evE call σ (.not a))=some r.2:=by rw [h];rfl
theorem e_not {σ:En}{a:C}{x b:Bool}(h:evE call σ a=some (x,.bl b)):evE call σ (.not a)=some (false,.bl (!b)):=by
  rw [vE_not,h]
theorem t_path (π:List Nat) (C9:∀i:Int,call 9 [.int i]=some (false,.bl true)):evSs call [some (false,piD π),some (false,piD π),none] f_law_path.body=some (.rt (false,.bl true)):=by
  refine st_skip (x:=false) ?_ ?_
  · refine e_or (x:=false) (y:=false) (p:=false) (q:=false) rfl (e_cmp (x:=.int (((π.map λi:Nat=>D.int (i:Int)).length:Nat):Int)) (y:=.int (((π.map λi:Nat=>D.int (i:Int)).length:Nat):Int)) rfl rfl ?_)
    rw [cmpP_neI,eqD,beq_self_eq_true]
    rfl
  obtain⟨σ',h',o2,rfl⟩:=evFor_all (call:=call) (tg:=.one 2) (body:=[.ite (.not (.call 9 [(.v 2)])) [.ret (.k (.bl false))] []]) (λi:Nat=>D.int (i:Int)) (fun σ=>∃o2,σ=[some (false,piD π),some (false,piD π),o2]) π [some (false,piD π),some (false,piD π),none] ⟨none,rfl⟩ (by
    rintro i _ σ ⟨o2,rfl⟩
    exact⟨_,_,rfl,st_skip (x:=false) (e_not (x:=false) (b:=true) (e_call1 rfl (C9 i))) rfl,some (false,.int (i:Int)),rfl⟩)
  refine st_forS (r:=(false,piD π)) rfl rfl h' ?_
  exact st_ret (r:=(false,.bl true)) (e_cmp rfl rfl (eq_same (sh_pi π))) rfl
theorem cat1 (π:List Nat) (hπ:π.length≤1000) (s:Int):binP .add (piD π) (.tup [.int s])=some (false,raw π [s]):=tup_add _ _ (by rw [List.length_map];show _+1≤_;omega)
theorem cat2 (π:List Nat) (hπ:π.length≤1000) (s:Int):binP .add (piD π) (.tup [.int s,.int 0])=some (false,raw π [s,0]):=tup_add _ _ (by rw [List.length_map];show _+2≤_;omega)
theorem steps_loop (m:Nat) (p q:Pg) (π:List Nat) (hπ:π.length≤1000) (w:Bool) (o4 o5:Option R) (C21:∀(s:Int) (ss:List Int) (w:Bool),Bad q s→call 21 [pgD m p,raw π (s::ss),.bl w]=some (false,.bl true)) (L:List Int) (hL:∀s∈L,Bad q s) :
    ∃o6,evFor call [.ite (.or (.not (.call 21 [(.v 0),(.bin .add (.v 1) (.tup [(.v 6)])),(.v 3)])) (.not (.call 21 [(.v 0),(.bin .add (.v 1) (.tup [(.v 6),(.k (.int 0))])),(.not (.v 3))]))) [.ret (.k (.bl false))] []] (.one 6) (L.map .int) [some (false,pgD m p),some (false,piD π),some (false,pgD m q),some (false,.bl w),o4,o5,none]=some (.nx [some (false,pgD m p),some (false,piD π),some (false,pgD m q),some (false,.bl w),o4,o5,o6]):=by
  obtain⟨σ',h',o6,rfl⟩:=evFor_all (call:=call) (tg:=.one 6) (body:=[.ite (.or (.not (.call 21 [(.v 0),(.bin .add (.v 1) (.tup [(.v 6)])),(.v 3)])) (.not (.call 21 [(.v 0),(.bin .add (.v 1) (.tup [(.v 6),(.k (.int 0))])),(.not (.v 3))]))) [.ret (.k (.bl false))] []]) D.int (fun σ=>∃o6,σ=[some (false,pgD m p),some (false,piD π),some (false,pgD m q),some (false,.bl w),o4,o5,o6]) L [some (false,pgD m p),some (false,piD π),some (false,pgD m q),some (false,.bl w),o4,o5,none] ⟨none,rfl⟩ (by
    rintro s hs σ ⟨o6,rfl⟩
    refine⟨_,[some (false,pgD m p),some (false,piD π),some (false,pgD m q),some (false,.bl w),o4,o5,some (false,.int s)],rfl,?_,some (false,.int s),rfl⟩
    have l1:1≤lim:=le_lim (by decide)
    have l2:2≤lim:=le_lim (by decide)
    have c1:evE call [some (false,pgD m p),some (false,piD π),some (false,pgD m q),some (false,.bl w),o4,o5,some (false,.int s)] (.bin .add (.v 1) (.tup [(.v 6)]))=some (false,raw π [s]):=by
      have:=cat1 π hπ s
      simp only [vE_bin,pk,getv,List.getElem?_cons_succ,List.getElem?_cons_zero,Option.join_some,Option.bind_some,pkR,vE_tup,vA_cons,vE_v,noOwn,evA_nil,List.length_cons,List.length_nil,Nat.reduceAdd,l1,↓reduceIte,Option.map_some,this]
    have c2:evE call [some (false,pgD m p),some (false,piD π),some (false,pgD m q),some (false,.bl w),o4,o5,some (false,.int s)] (.bin .add (.v 1) (.tup [(.v 6),(.k (.int 0))]))=some (false,raw π [s,0]):=by
      have:=cat2 π hπ s
      simp only [vE_bin,pk,getv,List.getElem?_cons_succ,List.getElem?_cons_zero,Option.join_some,Option.bind_some,pkR,vE_tup,vA_cons,vE_v,noOwn,vE_k,evA_nil,List.length_cons,List.length_nil,Nat.reduceAdd,l2,↓reduceIte,Option.map_some,this]
    refine st_skip (x:=false) (e_or (x:=false) (y:=false) (p:=false) (q:=false) (e_not (x:=false) (b:=true) ?_) (e_not (x:=false) (b:=true) ?_)) rfl
    · exact e_call3 (x:=pgD m p) (by rw [pg_eq];rfl) (ag_bin c1) rfl (C21 s [] w (hL s hs))
    · exact e_call3 (x:=pgD m p) (by rw [pg_eq];rfl) (ag_bin c2) (ag_not (e_not (x:=false) (b:=w) rfl)) (C21 s [0] (!w) (hL s hs)))
  exact⟨o6,h'⟩
theorem t_seen (m h:Nat) (hh:h≤6) (p q:Pg) (hq:Pk h q) (π:List Nat) (hπ:π.length≤1000) (w:Bool) (B:List Th) (k:Nat) (C3:call 3 [pgD m p,piD π]=some (false,pgD m q)) (C2:call 2 [pgD m q]=some (false,.tup (B.map (thD m)))) (C22:call 22 [pgD m q]=some (false,.tup (B.map (thD m))))
    (C6:call 6 [pgD m q]=some (false,.int (k:Int))) (C19:call 19 [pgD m q]=some (false,.int (k:Int))) (C9:∀i:Int,call 9 [.int i]=some (false,.bl true)) (C21:∀(s:Int) (ss:List Int) (w:Bool),Bad q s→call 21 [pgD m p,raw π (s::ss),.bl w]=some (false,.bl true)) :
    evSs call [some (false,pgD m p),some (false,piD π),some (false,pgD m q),some (false,.bl w),none,none,none] f_law_seen.body=some (.rt (false,.bl true)):=by
  have n1:cmpP .ne (pgD m q) (pgD m q)=some (false,.bl false):=ne_same (sh_le (sh_pg m h q hq) (by omega))
  have n2:cmpP .ne (.tup (B.map (thD m))) (.tup (B.map (thD m)))=some (false,.bl false):=ne_same (sh_le (n:=4) (sh_map 3 (thD m) B λt _=>sh_th m t) (by decide))
  have gp:∀σ:En,ag (some (false,pgD m p)::σ) (.v 0) (evE call (some (false,pgD m p)::σ) (.v 0))=some (pgD m p):=fun σ=>by rw [pg_eq];rfl
  have gq:∀(a b:Option R) (σ:En),ag (a::b::some (false,pgD m q)::σ) (.v 2) (evE call (a::b::some (false,pgD m q)::σ) (.v 2))=some (pgD m q):=λa b σ=>by rw [pg_eq];rfl
  have kq:∀(a b:Option R) (σ:En),pk (a::b::some (false,pgD m q)::σ) (.v 2) (evE call (a::b::some (false,pgD m q)::σ) (.v 2))=some (pgD m q):=λa b σ=>by rw [pg_eq];rfl
  refine st_skip (x:=false) (e_or (x:=false) (y:=false) (p:=false) (q:=false) (e_cmp (pk_call (e_call2 (gp _) rfl C3)) (kq _ _ _) n1) (e_cmp (pk_call (e_call1 (gq _ _ _) C2)) (pk_call (e_call1 (gq _ _ _) C22)) n2)) ?_
  refine st_set (false,.int (k:Int)) (e_call1 (gq _ _ _) C6) ?_
  refine st_skip (x:=false) (e_or (x:=false) (y:=false) (p:=false) (q:=false) (e_not (x:=false) (b:=true) (e_call1 rfl (C9 _))) (e_cmp (x:=.int (k:Int)) rfl (pk_call (e_call1 (gq _ _ _) C19)) (by rw [cmpP_neI,eqD,beq_self_eq_true];rfl))) ?_
  have hlen:∀σ:En,evE call (some (false,pgD m p)::some (false,piD π)::some (false,pgD m q)::σ) (.bi .len [(.ix (.v 2) (.k (.int 2)))])=some (false,.int (((prD m q).length:Nat):Int)):=fun σ=>e_bi1 (x:=.tup (prD m q)) (pk_ix (e_ix (kq _ _ _) rfl (pg2 m q))) rfl
  have l3:3≤lim:=le_lim (by decide)
  refine st_set (true,.lst [.int (((prD m q).length:Nat):Int),.int (-1),.int (-(((prD m q).length:Nat):Int))]) ?_ ?_
  · have h1:=hlen [some (false,.bl w),some (false,.int (k:Int)),none,none]
    simp only [keepR,Bool.and_false,List.set_cons_succ,List.set_cons_zero,vE_lst,vA_cons,h1,vE_neg,pk,vE_k,Option.map_some,negP_int,evA_nil,List.length_cons,List.length_nil,Nat.reduceAdd,l3,↓reduceIte]
  have ht:evE call [some (false,pgD m p),some (false,piD π),some (false,pgD m q),some (false,.bl w),some (false,.int (k:Int)),some (false,.lst [.int (((prD m q).length:Nat):Int),.int (-1),.int (-(((prD m q).length:Nat):Int))]),none] (.cmp .eq (.ix (.v 2) (.k (.int 0))) (.k lfS))=some (false,.bl q.isLf):=e_cmp (pk_ix (e_ix (kq _ _ _) rfl (pg0 m q))) rfl (kd_lf q)
  cases q with
  | lf o L =>
    obtain⟨o6,hf⟩:=steps_loop (call:=call) m p (.lf o L) π hπ w (some (false,.int (k:Int))) (some (false,.lst [.int 0,.int 1,.int (-1)])) C21 [0,1,-1] λs _=>.inl rfl
    refine st_T (x:=false) ht (st_set (true,.lst [.int 0,.int 1,.int (-1)]) (by simp only [keepR,Bool.and_false,List.set_cons_succ,List.set_cons_zero,Bool.and_true,vE_lst,vA_cons,vE_k,vE_neg,pk,Option.map_some,negP_int,evA_nil,List.length_cons,List.length_nil,Nat.reduceAdd,l3,↓reduceIte]) rfl) ?_
    refine st_forS (r:=(false,.lst [.int 0,.int 1,.int (-1)])) rfl rfl hf ?_
    exact st_ret (r:=(false,.bl true)) rfl rfl
  | fk o ps =>
    have hps:ps≠[]:=by
      cases h with
      | zero=>exact hq.elim
      | succ h=>exact hq.2.1
    have hpl:0<ps.length:=List.length_pos_iff.mpr hps
    have hpr:(prD m (.fk o ps)).length=ps.length:=List.length_map _
    refine st_skip (x:=false) ht ?_
    rw [hpr]
    obtain⟨o6,hf⟩:=steps_loop (call:=call) m p (.fk o ps) π hπ w (some (false,.int (k:Int))) (some (false,.lst [.int ((ps.length:Nat):Int),.int (-1),.int (-((ps.length:Nat):Int))])) C21 [((ps.length:Nat):Int),-1,-((ps.length:Nat):Int)] (by
      intro s hs
      simp only [List.mem_cons,List.not_mem_nil,or_false] at hs
      rcases hs with rfl|rfl|rfl
      · exact .inr (.inr (Int.le_refl _))
      · exact .inr (.inl (by decide))
      · exact .inr (.inl (by omega)))
    refine st_forS (r:=(false,.lst [.int ((ps.length:Nat):Int),.int (-1),.int (-((ps.length:Nat):Int))])) rfl rfl hf ?_
    exact st_ret (r:=(false,.bl true)) rfl rfl
end
theorem c_seen (n m:Nat) (p q:Pg) (π:List Nat) (hp:Pk 6 p) (ha:At p π q) (hq:Pk 6 q) (hs:sz 6 q≤1000) (w:Bool):callN tab (n+9) 24 [pgD m p,piD π,pgD m q,.bl w]=some (false,.bl true):=by
  have hπ:=Pk_at ha 6 hp
  have hb:=bn_len 6 q hq
  refine call_rt t24 rfl (by rw [pg_eq m p,pg_eq m q];rfl) (t_seen (call:=callN tab (n+8)) m 6 (by decide) p q hq π (by omega) w (bn 6 q) (hg 6 q) (c_at (n+6) m ha) (c_tin m 6 n q hq (by omega)) (c_ben (n+6) m 6 q hq hs) (c_height (n+6) m 6 (by decide) q hq) (c_high (n+7) m 6 (by decide) q hq) (λi=>call_rt t9 rfl rfl (t_whole i)) λs ss w hb=>c_ref (n+4) m ha s hb ss w)
section
variable {call:Nat→List D→Option R}
theorem t_law (ns:List Int) (hl:ns.length≤63) (m:Nat) (hm:2+(cellZ ns 0).fmod 2=(m:Int)) (C7:∀k:Nat,call 7 [.lst (ns.map .int),.int (k:Int)]=some (false,.int (cellZ ns k)))
    (C11:∀(cs:List Int) (mk:Nat),cs.length≤63→mk<65536→∃ts:List Th,ts.length≤17∧call 11 [.lst (cs.map .int),.int (m:Int),.int (mk:Int)]=some (true,.lst (ts.map (thD m))))
    (C17:∀ts:List Th,ts.length≤17→∃p:Pg,Pk 5 p∧sz 5 p≤576∧call 17 [.lst (ns.map .int),.lst (ts.map (thD m))]=some (false,pgD m p))
    (C16:∀p:Pg,Pk 5 p→call 16 [.lst [pgD m p]]=some (false,pgD m (mkF [p])))
    (C18:∀p:Pg,Pk 6 p→sz 6 p≤1000→call 18 [pgD m p]=some (true,.lst ((pre 6 [] p).map (rwD m))))
    (C5:∀p:Pg,Pk 6 p→sz 6 p≤1000→call 5 [pgD m p]=some (false,.tup ((pre 6 [] p).map λx=>piD x.1)))
    (C23:∀π:List Nat,call 23 [piD π,piD π]=some (false,.bl true))
    (C24:∀(p:Pg) (x:List Nat×Pg) (w:Bool),Pk 6 p→sz 6 p≤1000→x∈pre 6 [] p→call 24 [pgD m p,piD x.1,pgD m x.2,.bl w]=some (false,.bl true)) :
    evSs call [some (false,.lst (ns.map .int)),none,none,none,none,none,none] f_law.body=some (.rt (false,.bl true)):=by
  have d2:divOk 2=true:=by decide
  have d5:divOk 5=true:=by decide
  have d65:divOk 65536=true:=by decide
  have l1:1≤lim:=le_lim (by decide)
  have q0:call 7 [.lst (ns.map .int),.int 0]=some (false,.int (cellZ ns 0)):=C7 0
  have q1:call 7 [.lst (ns.map .int),.int 1]=some (false,.int (cellZ ns 1)):=C7 1
  obtain⟨mk,hmk,hmk2⟩:∃mk:Nat,(cellZ ns 1).fmod 65536=(mk:Int)∧mk<65536:=by
    have:=fm_bd (cellZ ns 1) 65536 (by decide)
    exact⟨((cellZ ns 1).fmod 65536).toNat,by omega,by omega⟩
  obtain⟨ts,hts,h11⟩:=C11 ((ns.drop 2).take 400) mk (by rw [List.length_take,List.length_drop];omega) hmk2
  obtain⟨p1,hp1,hsz1,h17⟩:=C17 ts hts
  have h16:=C16 p1 hp1
  have hcut:cutQ (ns.map .int) (some 2) (some 402)=((ns.drop 2).take 400).map .int:=cut_ints ns 2 402 (by decide)
  have main:∀p:Pg,Pk 6 p→sz 6 p≤1000→evSs call [some (false,.lst (ns.map .int)),some (false,.int (m:Int)),some (false,.lst (ts.map (thD m))),some (false,pgD m p),none,none,none] [.set 4 false (.call 18 [(.v 3)]),.set 5 false (.call 5 [(.v 3)]),.ite (.or (.not (.isi (.v 5) .tuple)) (.cmp .ne (.bi .len [(.v 5)]) (.bi .len [(.v 4)]))) [.ret (.k (.bl false))] [],.forR (.one 6) [(.bi .len [(.v 4)])] [.ite (.not (.call 23 [(.ix (.v 5) (.v 6)),(.ix (.ix (.v 4) (.v 6)) (.k (.int 0)))])) [.ret (.k (.bl false))] [],.ite (.not (.call 24 [(.v 3),(.ix (.ix (.v 4) (.v 6)) (.k (.int 0))),(.ix (.ix (.v 4) (.v 6)) (.k (.int 1))),(.cmp .eq (.bin .mod (.v 6) (.k (.int 2))) (.k (.int 0)))])) [.ret (.k (.bl false))] []],.ret (.k (.bl true))]=some (.rt (false,.bl true)):=λp hp hs=>by
    have h18:=C18 p hp hs
    have h5:=C5 p hp hs
    have h24:=λx w hx=>C24 p x w hp hs hx
    have hle:(pre 6 [] p).length≤10000:=by rw [pre_len];omega
    generalize pre 6 [] p=l at h18 h5 h24 hle
    have gp:∀(a b c:Option R) (σ:En),ag (a::b::c::some (false,pgD m p)::σ) (.v 3) (evE call (a::b::c::some (false,pgD m p)::σ) (.v 3))=some (pgD m p):=λa b c σ=>by rw [pg_eq];rfl
    refine st_set (true,.lst (l.map (rwD m))) (e_call1 (gp _ _ _ _) h18) ?_
    refine st_set (false,.tup (l.map λx=>piD x.1)) (e_call1 (gp _ _ _ _) h5) ?_
    refine st_skip (x:=false) ?_ ?_
    · refine e_or (x:=false) (y:=false) (p:=false) (q:=false) rfl (e_cmp (x:=.int (((l.map λx=>piD x.1).length:Nat):Int)) (y:=.int (((l.map (rwD m)).length:Nat):Int)) rfl rfl ?_)
      rw [List.length_map,List.length_map,cmpP_neI,eqD,beq_self_eq_true]
      rfl
    obtain⟨σ',h',o6,rfl⟩:=evFor_rng (call:=call) (tg:=.one 6) (body:=[.ite (.not (.call 23 [(.ix (.v 5) (.v 6)),(.ix (.ix (.v 4) (.v 6)) (.k (.int 0)))])) [.ret (.k (.bl false))] [],.ite (.not (.call 24 [(.v 3),(.ix (.ix (.v 4) (.v 6)) (.k (.int 0))),(.ix (.ix (.v 4) (.v 6)) (.k (.int 1))),(.cmp .eq (.bin .mod (.v 6) (.k (.int 2))) (.k (.int 0)))])) [.ret (.k (.bl false))] []]) (λk σ=>∃o6,σ=[some (false,.lst (ns.map .int)),some (false,.int (m:Int)),some (false,.lst (ts.map (thD m))),some (false,pgD m p),some (false,.lst (l.map (rwD m))),some (false,.tup (l.map λx=>piD x.1)),o6]) l.length (λi=>.int (i:Nat)) [some (false,.lst (ns.map .int)),some (false,.int (m:Int)),some (false,.lst (ts.map (thD m))),some (false,pgD m p),some (false,.lst (l.map (rwD m))),some (false,.tup (l.map λx=>piD x.1)),none] ⟨none,rfl⟩ (by
      rintro k σ hk ⟨o6,rfl⟩
      obtain⟨x,hx⟩:∃x,l[k]?=some x:=⟨l[k],List.getElem?_eq_getElem hk⟩
      have hr:=row_ix (m:=m) hx
      have hf:ixP (.tup (l.map λx=>piD x.1)) (.int (k:Int))=some (false,piD x.1):=by
        rw [ixP_T,ixQ_nat,List.getElem?_map,hx]
        rfl
      have e0:evE call [some (false,.lst (ns.map .int)),some (false,.int (m:Int)),some (false,.lst (ts.map (thD m))),some (false,pgD m p),some (false,.lst (l.map (rwD m))),some (false,.tup (l.map λx=>piD x.1)),some (false,.int (k:Int))] (.ix (.ix (.v 4) (.v 6)) (.k (.int 0)))=some (false,piD x.1):=e_ix (pk_ix (e_ix rfl rfl hr)) rfl (rw0 m x)
      have e1:evE call [some (false,.lst (ns.map .int)),some (false,.int (m:Int)),some (false,.lst (ts.map (thD m))),some (false,pgD m p),some (false,.lst (l.map (rwD m))),some (false,.tup (l.map λx=>piD x.1)),some (false,.int (k:Int))] (.ix (.ix (.v 4) (.v 6)) (.k (.int 1)))=some (false,pgD m x.2):=e_ix (pk_ix (e_ix rfl rfl hr)) rfl (rw1 m x)
      have e2:evE call [some (false,.lst (ns.map .int)),some (false,.int (m:Int)),some (false,.lst (ts.map (thD m))),some (false,pgD m p),some (false,.lst (l.map (rwD m))),some (false,.tup (l.map λx=>piD x.1)),some (false,.int (k:Int))] (.cmp .eq (.bin .mod (.v 6) (.k (.int 2))) (.k (.int 0)))=some (false,.bl (((k:Int).fmod 2) == 0)):=by
        simp only [vE_cmp,pk,vE_bin,getv,List.getElem?_cons_succ,List.getElem?_cons_zero,Option.join_some,Option.bind_some,pkR,vE_k,Option.map_some,binP_mod,d2,↓reduceIte,cmpP_eqI]
        rfl
      refine⟨_,_,rfl,?_,some (false,.int (k:Int)),rfl⟩
      refine st_skip (x:=false) (e_not (x:=false) (b:=true) (e_call2 (ag_ix (e_ix rfl rfl hf)) (ag_ix e0) (C23 x.1))) ?_
      refine st_skip (x:=false) (e_not (x:=false) (b:=true) ?_) rfl
      exact e_call4 (gp _ _ _ _) (ag_ix e0) (ag_ix e1) (ag_cmp e2) (h24 x _ (List.mem_of_getElem? hx)))
    refine st_forR (ds:=[.int ((l.length:Nat):Int)]) (by
      rw [vAP_cons,e_bi1 (call:=call) (x:=.lst (l.map (rwD m))) (r:=some (false,.int (((l.map (rwD m)).length:Nat):Int))) rfl rfl,List.length_map]
      rfl) (rng_le hle) h' ?_
    exact st_ret (r:=(false,.bl true)) rfl rfl
  refine st_set (false,.int (m:Int)) (by simp only [vE_bin,pk,vE_k,Option.map_some,vE_call,vG_cons,ag,getv,List.getElem?_cons_zero,Option.join_some,Option.bind_some,agR,evG_nil,q0,binP_mod,d2,↓reduceIte,binP_add,hm]) ?_
  refine st_set (true,.lst (ts.map (thD m))) (by simp only [keepR,Bool.and_false,List.set_cons_succ,List.set_cons_zero,vE_call,vG_cons,ag,vE_sl,pk,getv,List.getElem?_cons_zero,Option.join_some,Option.bind_some,pkR,vO_some,vE_k,Option.map_some,oInt,slP_L,hcut,List.getElem?_cons_succ,agR,vE_bin,evG_nil,q1,binP_mod,d65,↓reduceIte,hmk,h11]) ?_
  refine st_set (false,pgD m p1) (e_call2 rfl rfl h17) ?_
  by_cases h3:((cellZ ns 0).fdiv 2).fmod 5=1
  · refine st_T (x:=false) (by simp only [keepR,Bool.and_false,List.set_cons_succ,List.set_cons_zero,Bool.and_true,vE_cmp,pk,vE_bin,vE_call,vG_cons,ag,getv,List.getElem?_cons_zero,Option.join_some,Option.bind_some,agR,vE_k,Option.map_some,evG_nil,q0,binP_fdiv,d2,↓reduceIte,binP_mod,d5,h3,cmpP_eqI];rfl) (st_set (false,pgD m (mkF [p1])) ?_ rfl) ?_
    · have e3:evE call [some (false,.lst (ns.map .int)),some (false,.int (m:Int)),some (false,.lst (ts.map (thD m))),some (false,pgD m p1),none,none,none] (.lst [(.v 3)])=some (true,.lst [pgD m p1]):=by
        simp only [vE_lst,vA_cons,vE_v,noOwn,getv,List.getElem?_cons_succ,List.getElem?_cons_zero,Option.join_some,evA_nil,List.length_cons,List.length_nil,Nat.reduceAdd,l1,↓reduceIte]
      exact e_call1 (ag_lst e3) h16
    · refine main (mkF [p1]) (Pk_mkF (by simp) λq hq=>by rw [List.mem_singleton] at hq;subst hq;exact hp1) ?_
      show 1+([p1].map (sz 5)).sum≤1000
      simp
      omega
  · refine st_skip (x:=false) (e_cmp (x:=.int (((cellZ ns 0).fdiv 2).fmod 5)) (by simp only [pk,keepR,Bool.and_false,List.set_cons_succ,List.set_cons_zero,Bool.and_true,vE_bin,vE_call,vG_cons,ag,getv,List.getElem?_cons_zero,Option.join_some,Option.bind_some,agR,vE_k,Option.map_some,evG_nil,q0,binP_fdiv,d2,↓reduceIte,binP_mod,d5]) rfl ?_) ?_
    · rw [cmpP_eqI,eqD,show (((cellZ ns 0).fdiv 2).fmod 5 == 1)=false by rw [beq_eq_false_iff_ne];exact h3]
    exact main p1 (Pk_mono hp1) (by have:sz 6 p1=sz 5 p1:=sz_mono hp1;omega)
end
theorem c_law27 (n:Nat) (ns:List Int) (hl:ns.length≤63):callN tab (n+12) 25 [.lst (ns.map .int)]=some (false,.bl true):=by
  obtain⟨m,hm,hm0⟩:∃m:Nat,(m=2∨m=3)∧2+(cellZ ns 0).fmod 2=(m:Int):=by
    have:=fm_bd (cellZ ns 0) 2 (by decide)
    exact⟨(2+(cellZ ns 0).fmod 2).toNat,by omega,by omega⟩
  have hm1:m≤100:=by omega
  refine call_rt t25 rfl rfl (t_law (call:=callN tab (n+11)) ns hl m hm0 (λk=>c_cell (n+10) ns k) (λcs mk h1 h2=>c_things (n+7) m hm cs mk h1 h2) (λts hts=>c_tree (n+6) m hm1 ns ts hts) (λp hp=>c_fork (n+8) m hm1 [p] (by simp) λq hq=>by rw [List.mem_singleton] at hq;subst hq;exact Pk_ok hp) (λp hp hs=>c_walk (n+10) m 6 p hp hs) (λp hp hs=>c_pin m 6 (n+2) p hp (by decide) (by rw [pre_len];omega)) (fun π=>call_rt t23 rfl rfl (t_path π λi=>call_rt t9 rfl rfl (t_whole i))) λp x w hp hs hx=>?_)
  obtain⟨ρ,e1,e2,e3,_⟩:=pre_at 6 p [] x hp hx
  rw [List.nil_append] at e1
  rw [e1]
  exact c_seen (n+2) m p x.2 ρ hp e2 e3 (Nat.le_trans (sz_at e2 6 hp) hs) w
end Dw.T
namespace Dw.K27
open PySem L2 Dw Dw.T PyProof.Rows
open PySem.W (nsIn fnOf codeIn keepIn findIn mg_of mg_none_of Frag)
noncomputable def gx:Gx:=⟨("is_leaf",0)::("page_parts",1)::("things_in",2)::("page_at",3)::("paths_from",4)::("paths_in",5)::("page_height",6)::("_law_cell",7)::("_law_even",8)::("_law_whole",9)::("_law_thing",10)::("_law_things",11)::("_law_own",12)::("_law_frames",13)::("_law_poured",14)::("_law_leaves",15)::("_law_fork",16)::("_law_tree",17)::("_law_walk",18)::("_law_high",19)::("_law_by_its_name",20)::("_law_refused",21)::("_law_beneath",22)::("_law_path",23)::("_law_seen",24)::("law",25)::[],[],[],[],[],["NoPath"],[("page_at",3)]⟩
theorem gx_free:∀x∈bltNames,gx.defs.lookup x=none:=by decide +kernel
noncomputable abbrev cq (s:Stmt):=cSs gx 60 (defScope s) (namesOf (defScope s)) (mutS 60 (namesOf (defScope s)) (defBody s)) (defBody s)
noncomputable def scB (s:Stmt) (ps:List Str):Bool:=(defScope s).kind == .function&&!(defScope s).isCoroutine&&!(defScope s).isGenerator&&decide (namesOf (defScope s)).Nodup&&decide ((namesOf (defScope s)).take ps.length=ps)&&ps.all (λx=>(defScope s).names.lookup x == some .local||(defScope s).names.lookup x == some .cell)&&(defScope s).names.all λy=>y.2 != .free
theorem sc_of {s:Stmt}{ps:List Str}(h:scB s ps=true):FnScope (namesOf (defScope s)) ps (defScope s):=by
  unfold scB at h
  simp only [Bool.and_eq_true,List.all_eq_true,Bool.or_eq_true,beq_iff_eq,bne_iff_ne,Bool.not_eq_true',decide_eq_true_eq] at h
  obtain⟨⟨⟨⟨⟨⟨h1,h2⟩,h3⟩,h4⟩,h5⟩,h6⟩,h7⟩:=h
  exact⟨h1,h2,h3,h4,h5,h6,h7⟩
theorem us1 {P:List Value→Prop}(h:∀a,P [a]) (us:List Value) (hl:us.length=1):P us:=by
  obtain⟨a,rfl⟩:=List.length_eq_one_iff.mp hl
  exact h a
theorem us2 {P:List Value→Prop}(h:∀a0 a1,P [a0,a1]) (us:List Value) (hl:us.length=2):P us:=by
  cases us with
  | nil=>cases hl
  | cons a r=>exact us1 (P:=λr=>P (a::r)) (h a) r (Nat.succ.inj hl)
theorem us3 {P:List Value→Prop}(h:∀a0 a1 a2,P [a0,a1,a2]) (us:List Value) (hl:us.length=3):P us:=by
  cases us with
  | nil=>cases hl
  | cons a r=>exact us2 (P:=λr=>P (a::r)) (h a) r (Nat.succ.inj hl)
theorem us4 {P:List Value→Prop}(h:∀a0 a1 a2 a3,P [a0,a1,a2,a3]) (us:List Value) (hl:us.length=4):P us:=by
  cases us with
  | nil=>cases hl
  | cons a r=>exact us3 (P:=λr=>P (a::r)) (h a) r (Nat.succ.inj hl)
theorem bd1 {fd:FuncData}{ps:List Str}(hp:ps.length=1) (h:∀a0,bindArgs fd ⟨[a0],[]⟩=pure (ps.zip [a0])) (us:List Value) (hl:us.length=ps.length):bindArgs fd ⟨us,[]⟩=pure (ps.zip us):=us1 (P:=λus=>bindArgs fd ⟨us,[]⟩=pure (ps.zip us)) h us (hl.trans hp)
theorem bd2 {fd:FuncData}{ps:List Str}(hp:ps.length=2) (h:∀a0 a1,bindArgs fd ⟨[a0,a1],[]⟩=pure (ps.zip [a0,a1])) (us:List Value) (hl:us.length=ps.length):bindArgs fd ⟨us,[]⟩=pure (ps.zip us):=us2 (P:=λus=>bindArgs fd ⟨us,[]⟩=pure (ps.zip us)) h us (hl.trans hp)
theorem bd3 {fd:FuncData}{ps:List Str}(hp:ps.length=3) (h:∀a0 a1 a2,bindArgs fd ⟨[a0,a1,a2],[]⟩=pure (ps.zip [a0,a1,a2])) (us:List Value) (hl:us.length=ps.length):bindArgs fd ⟨us,[]⟩=pure (ps.zip us):=us3 (P:=λus=>bindArgs fd ⟨us,[]⟩=pure (ps.zip us)) h us (hl.trans hp)
theorem bd4 {fd:FuncData}{ps:List Str}(hp:ps.length=4) (h:∀a0 a1 a2 a3,bindArgs fd ⟨[a0,a1,a2,a3],[]⟩=pure (ps.zip [a0,a1,a2,a3])) (us:List Value) (hl:us.length=ps.length):bindArgs fd ⟨us,[]⟩=pure (ps.zip us):=us4 (P:=λus=>bindArgs fd ⟨us,[]⟩=pure (ps.zip us)) h us (hl.trans hp)
theorem fc {α:Type}{p:α→Prop}{a:α}{l:List α}(h:p a) (t:∀x∈l,p x):∀x∈a::l,p x:=List.forall_mem_cons.mpr ⟨h,t⟩
section
variable {K:Frag}{h:Heap}{mg:Str→Option Value}
noncomputable abbrev Bd (x q:Str) (s:Stmt) (ps:List Str):Prop:=∀(kV doc pm:Value) (an:Option Addr) (cdv ct:Value) (us:List Value),us.length=ps.length→bindArgs (fnOf x q (defArgs s) (defBody s) (defScope s) .none kV doc pm an cdv ct) ⟨us,[]⟩=pure (ps.zip us)
theorem mkD (X:K.In h) (G:h.Ns mainGlobals mg) {x:Str}(m:Str) (t:Tok) (i f c:Nat) {g:Nat}(ps:List Str) (fd:Fd) (tt:tab[g]?=some fd) (a:nsIn K mainGlobals x=some (some (.ref f))) (l:K.lookup f=some (fo x x (top i) m t c)) (cc:codeIn K (.ref c) x=true) (k:keepIn K (.ref f)=true) (b:Bd x x (top i) ps) (sc:scB (top i) ps=true) (cs:cq (top i)=some fd.body) (np:fd.np=ps.length) (ns:fd.ns=(namesOf (defScope (top i))).length):DefIn K mg gx tab 60 x g:=
  ⟨⟨f,_,top i,ps,fd,mg_of X G a,fun_toD (fun_mk (st:=top i) l cc k),(fun_mk (st:=top i) l cc k).binds b,sc_of sc,cs,tt,np,ns⟩⟩
theorem mkX (X:K.In h) (G:h.Ns mainGlobals mg) {x:Str}(m:Str) (t:Tok) (i f c:Nat) {g:Nat}(ps:List Str) (fd:Fd) (tt:tab[g]?=some fd) (a:nsIn K mainGlobals x=some (some (.ref f))) (l:K.lookup f=some (fo x x (top i) m t c)) (cc:codeIn K (.ref c) x=true) (k:keepIn K (.ref f)=true) (b:Bd x x (top i) ps) (sc:scB (top i) ps=true) (bo:BodyOk K mg gx tab (top i) fd.body) (np:fd.np=ps.length) (ns:fd.ns=(namesOf (defScope (top i))).length):SpIn K mg gx tab x g:=
  ⟨⟨f,_,top i,ps,fd,mg_of X G a,fun_toD (fun_mk (st:=top i) l cc k),(fun_mk (st:=top i) l cc k).binds b,sc_of sc,bo,tt,np,ns⟩⟩
end
section
variable {h:Heap}{mg:Str→Option Value}{P:Params}(X:(heap P).In h) (G:h.Ns mainGlobals mg)
include X G
theorem xcl:XCls (heap P) 61:=⟨by kernel_rfl,by kernel_rfl,by kernel_rfl,by kernel_rfl,by kernel_rfl,by kernel_rfl⟩
theorem ok_law_by_its_name:BodyOk (heap P) mg gx tab (top 33) f_law_by_its_name.body:=by
  intro n Y hK hmg hst hex hsc g
  have e:defBody (top 33)=[ (.Assign ([(.Name "told" ⟨179,4,179,8⟩)]) (.Constant (.bool false) 0 ⟨179,11,179,16⟩) ⟨179,4,179,16⟩),(.Try ([ (.Expr ((.Call (.Name "page_at" ⟨181,8,181,15⟩) ([(.Name "top" ⟨181,16,181,19⟩),(.Name "path" ⟨181,21,181,25⟩)]) [] ⟨181,8,181,26⟩)) ⟨181,8,181,26⟩)]) ([ (.ExceptHandler (some (.Name "NoPath" ⟨182,11,182,17⟩)) (some "error") ([ (.Assign ([(.Name "told" ⟨183,8,183,12⟩)]) ((.UnaryOp .Not ((.Call (.Name "isinstance" ⟨183,19,183,29⟩) ([ (.Name "error" ⟨183,30,183,35⟩),(.Tuple ([ (.Name "NoHandle" ⟨183,38,183,46⟩),(.Name "NoRoom" ⟨183,48,183,54⟩),(.Name "NoText" ⟨183,56,183,62⟩),(.Name "NoThing" ⟨183,64,183,71⟩),(.Name "NoView" ⟨183,73,183,79⟩),(.Name "NoWant" ⟨183,81,183,87⟩),(.Name "NoWatch" ⟨183,89,183,96⟩),(.Name "Twice" ⟨183,98,183,103⟩)]) 0 ⟨183,37,183,104⟩)]) [] ⟨183,19,183,105⟩)) ⟨183,15,183,105⟩)) ⟨183,8,183,105⟩)]) ⟨182,4,183,105⟩)]) [] [] ⟨180,4,183,105⟩),(.Return (some (.Name "told" ⟨184,11,184,15⟩)) ⟨184,4,184,15⟩)]:=by kernel_rfl
  rw [e]
  have T:TryAt (heap P) mg gx (defScope (top 33)) (namesOf (defScope (top 33))) "page_at" "NoPath" "error" "told" "NoPath" 3 3 2 61 61:=⟨by kernel_rfl,by kernel_rfl,by kernel_rfl,by kernel_rfl,by kernel_rfl,mg_of X G (by kernel_rfl),mg_of X G (by kernel_rfl),by kernel_rfl,xcl X G,by kernel_rfl,by kernel_rfl,by kernel_rfl,by kernel_rfl,by kernel_rfl,by decide,by kernel_rfl⟩
  exact snd_cons (cx:=[.set 2 false (.k (.bl false))]) ((all_st gx_free 60).o Y _ _ [] _ _ g (by kernel_rfl)) (snd_cons (cx:=[.tryB 3 2 3 [.v 0,.v 1] [("NoPath",.bl true)]]) (snd_tryN (m:=60) (b:=false) (ct:=[("NoHandle",⟨183,38,183,46⟩,73),("NoRoom",⟨183,48,183,54⟩,85),("NoText",⟨183,56,183,62⟩,133),("NoThing",⟨183,64,183,71⟩,37),("NoView",⟨183,73,183,79⟩,109),("NoWant",⟨183,81,183,87⟩,49),("NoWatch",⟨183,89,183,96⟩,121),("Twice",⟨183,98,183,103⟩,97)]) gx_free g hK hmg hsc hst hex T (by kernel_rfl) (fc ⟨by kernel_rfl,by kernel_rfl,mg_of X G (by kernel_rfl)⟩ (fc ⟨by kernel_rfl,by kernel_rfl,mg_of X G (by kernel_rfl)⟩ (fc ⟨by kernel_rfl,by kernel_rfl,mg_of X G (by kernel_rfl)⟩ (fc ⟨by kernel_rfl,by kernel_rfl,mg_of X G (by kernel_rfl)⟩ (fc ⟨by kernel_rfl,by kernel_rfl,mg_of X G (by kernel_rfl)⟩ (fc ⟨by kernel_rfl,by kernel_rfl,mg_of X G (by kernel_rfl)⟩ (fc ⟨by kernel_rfl,by kernel_rfl,mg_of X G (by kernel_rfl)⟩ (fc ⟨by kernel_rfl,by kernel_rfl,mg_of X G (by kernel_rfl)⟩ (λ_ h=>nomatch h))))))))) (by decide) (by kernel_rfl)) (snd_cons (cx:=[.ret (.v 2)]) ((all_st gx_free 60).o Y _ _ [] _ _ g (by kernel_rfl)) snd_nil))
theorem ok_law_refused:BodyOk (heap P) mg gx tab (top 34) f_law_refused.body:=by
  intro n Y hK hmg hst hex hsc g
  have e:defBody (top 34)=[ (.Assign ([(.Name "told" ⟨186,4,186,8⟩)]) (.Constant (.bool false) 0 ⟨186,11,186,16⟩) ⟨186,4,186,16⟩),(.If (.Name "wide" ⟨187,7,187,11⟩) ([ (.Try ([ (.Expr ((.Call (.Name "page_at" ⟨189,12,189,19⟩) ([(.Name "top" ⟨189,20,189,23⟩),(.Name "path" ⟨189,25,189,29⟩)]) [] ⟨189,12,189,30⟩)) ⟨189,12,189,30⟩)]) ([ (.ExceptHandler (some (.Name "DriftError" ⟨190,15,190,25⟩)) (some "error") ([ (.Assign ([(.Name "told" ⟨191,12,191,16⟩)]) ((.BoolOp .And ([ (.Call (.Name "isinstance" ⟨191,19,191,29⟩) ([(.Name "error" ⟨191,30,191,35⟩),(.Name "NoPath" ⟨191,37,191,43⟩)]) [] ⟨191,19,191,44⟩),(.Call (.Name "isinstance" ⟨191,49,191,59⟩) ([(.Name "error" ⟨191,60,191,65⟩),(.Name "ValueError" ⟨191,67,191,77⟩)]) [] ⟨191,49,191,78⟩)]) ⟨191,19,191,78⟩)) ⟨191,12,191,78⟩)]) ⟨190,8,191,78⟩)]) [] [] ⟨188,8,191,78⟩),(.Return (some (.Name "told" ⟨192,15,192,19⟩)) ⟨192,8,192,19⟩)]) [] ⟨187,4,192,19⟩),(.Return ((some (.Call (.Name "_law_by_its_name" ⟨193,11,193,27⟩) ([(.Name "top" ⟨193,28,193,31⟩),(.Name "path" ⟨193,33,193,37⟩)]) [] ⟨193,11,193,38⟩))) ⟨193,4,193,38⟩)]:=by kernel_rfl
  rw [e]
  have T:TryAt (heap P) mg gx (defScope (top 34)) (namesOf (defScope (top 34))) "page_at" "DriftError" "error" "told" "NoPath" 3 4 3 24 61:=⟨by kernel_rfl,by kernel_rfl,by kernel_rfl,by kernel_rfl,by kernel_rfl,mg_of X G (by kernel_rfl),mg_of X G (by kernel_rfl),by kernel_rfl,xcl X G,by kernel_rfl,by kernel_rfl,by kernel_rfl,by kernel_rfl,by kernel_rfl,by decide,by kernel_rfl⟩
  exact snd_cons (cx:=[.set 3 false (.k (.bl false))]) ((all_st gx_free 60).o Y _ _ [] _ _ g (by kernel_rfl)) (snd_cons (cx:=[.ite (.v 2) [.tryB 4 3 3 [.v 0,.v 1] [("NoPath",.bl true)],.ret (.v 3)] []]) (snd_if (all_ok gx_free 60) g (by kernel_rfl) (snd_cons (cx:=[.tryB 4 3 3 [.v 0,.v 1] [("NoPath",.bl true)]]) (snd_tryA (m:=60) (b1:=true) (b2:=true) (cs:=[.v 0,.v 1]) (a:="NoPath") (b:="ValueError") (Ca:=61) (Tb:="ValueError") gx_free g hK hmg hsc hst hex T (by kernel_rfl) (by kernel_rfl) (by kernel_rfl) (mg_of X G (by kernel_rfl)) (by kernel_rfl) (by kernel_rfl) (mg_none_of X G (by kernel_rfl)) (by decide +kernel) (by kernel_rfl) (by kernel_rfl)) (snd_cons (cx:=[.ret (.v 3)]) ((all_st gx_free 60).o Y _ _ [] _ _ g (by kernel_rfl)) snd_nil)) snd_nil) (snd_cons (cx:=[.ret (.call 20 [.v 0,.v 1])]) ((all_st gx_free 60).o Y _ _ [] _ _ g (by kernel_rfl)) snd_nil))
theorem hxd:∀p∈gx.xdf,SpIn (heap P) mg gx tab p.1 p.2:=by
  refine fc (DefIn.sp gx_free (mkD X G mA 351 15 163 162 ["top","path"] f_page_at t3 ?_ ?_ ?_ ?_ ?_ ?_ ?_ ?_ ?_)) (λ_ h=>nomatch h)
  all_goals first|kernel_rfl|decide|exact λ_ _ _ _ _ _=>bd1 rfl λ_=>rfl|exact λ_ _ _ _ _ _=>bd2 rfl λ_ _=>rfl|exact λ_ _ _ _ _ _=>bd3 rfl λ_ _ _=>rfl|exact λ_ _ _ _ _ _=>bd4 rfl λ_ _ _ _=>rfl
theorem hrs:∀c∈gx.rse,∃(C:Addr) (B nid iid:String) (bm:List Value),ExcBaseFacts B nid iid bm∧OwnCls c C bm nid mg h:=by
  refine fc ⟨61,_,_,_,_,F.excBase_ValueError,mg_of X G ?_,_,_,_,_,_,_,_,_,_,_,_,_,_,_,_,_,_,X 61 (kl "NoPath" 61 60 [.ref 24] (.ref 24::vb) [] 52 239 247) ?_,.of_isNs (PySem.W.isNs_of_in X ?_),PySem.W.nsMap_none_of_in X ?_ ?_,PySem.W.tail_of_in X ?_⟩ (λ_ h=>nomatch h)
  all_goals kernel_rfl
theorem hd:∀p∈gx.defs,SpIn (heap P) mg gx tab p.1 p.2∨SrtIn (heap P) mg tab p.1 p.2:=by
  refine fc (.inl (DefIn.sp gx_free (mkD X G mA 351 12 142 141 ["page"] f_is_leaf t0 ?_ ?_ ?_ ?_ ?_ ?_ ?_ ?_ ?_))) (
    fc (.inl (DefIn.sp gx_free (mkD X G mA 351 13 149 148 ["page"] f_page_parts t1 ?_ ?_ ?_ ?_ ?_ ?_ ?_ ?_ ?_))) (
    fc (.inl (DefIn.sp gx_free (mkD X G mA 351 14 156 155 ["page"] f_things_in t2 ?_ ?_ ?_ ?_ ?_ ?_ ?_ ?_ ?_))) (
    fc (.inl (DefIn.sp gx_free (mkD X G mA 351 15 163 162 ["top","path"] f_page_at t3 ?_ ?_ ?_ ?_ ?_ ?_ ?_ ?_ ?_))) (
    fc (.inl (DefIn.sp gx_free (mkD X G mA 351 16 170 169 ["page","path"] f_paths_from t4 ?_ ?_ ?_ ?_ ?_ ?_ ?_ ?_ ?_))) (
    fc (.inl (DefIn.sp gx_free (mkD X G mA 351 17 177 176 ["top"] f_paths_in t5 ?_ ?_ ?_ ?_ ?_ ?_ ?_ ?_ ?_))) (
    fc (.inl (DefIn.sp gx_free (mkD X G mA 351 18 184 183 ["page"] f_page_height t6 ?_ ?_ ?_ ?_ ?_ ?_ ?_ ?_ ?_))) (
    fc (.inl (DefIn.sp gx_free (mkD X G mB 412 20 191 190 ["script","k"] f_law_cell t7 ?_ ?_ ?_ ?_ ?_ ?_ ?_ ?_ ?_))) (
    fc (.inl (DefIn.sp gx_free (mkD X G mB 412 21 198 197 ["cell","most"] f_law_even t8 ?_ ?_ ?_ ?_ ?_ ?_ ?_ ?_ ?_))) (
    fc (.inl (DefIn.sp gx_free (mkD X G mB 412 22 205 204 ["found"] f_law_whole t9 ?_ ?_ ?_ ?_ ?_ ?_ ?_ ?_ ?_))) (
    fc (.inl (DefIn.sp gx_free (mkD X G mB 412 23 212 211 ["cells","last","used","mask"] f_law_thing t10 ?_ ?_ ?_ ?_ ?_ ?_ ?_ ?_ ?_))) (
    fc (.inl (DefIn.sp gx_free (mkD X G mB 412 24 217 216 ["cells","sides","mask"] f_law_things t11 ?_ ?_ ?_ ?_ ?_ ?_ ?_ ?_ ?_))) (
    fc (.inl (DefIn.sp gx_free (mkD X G mB 412 25 224 223 ["thing"] f_law_own t12 ?_ ?_ ?_ ?_ ?_ ?_ ?_ ?_ ?_))) (
    fc (.inl (DefIn.sp gx_free (mkD X G mB 412 26 229 228 ["tolds","sides"] f_law_frames t13 ?_ ?_ ?_ ?_ ?_ ?_ ?_ ?_ ?_))) (
    fc (.inl (DefIn.sp gx_free (mkD X G mB 412 27 234 233 ["row"] f_law_poured t14 ?_ ?_ ?_ ?_ ?_ ?_ ?_ ?_ ?_))) (
    fc (.inl (DefIn.sp gx_free (mkD X G mB 412 28 239 238 ["script","row"] f_law_leaves t15 ?_ ?_ ?_ ?_ ?_ ?_ ?_ ?_ ?_))) (
    fc (.inl (DefIn.sp gx_free (mkD X G mB 412 29 244 243 ["pages"] f_law_fork t16 ?_ ?_ ?_ ?_ ?_ ?_ ?_ ?_ ?_))) (
    fc (.inl (DefIn.sp gx_free (mkD X G mB 412 30 251 250 ["script","row"] f_law_tree t17 ?_ ?_ ?_ ?_ ?_ ?_ ?_ ?_ ?_))) (
    fc (.inl (DefIn.sp gx_free (mkD X G mB 412 31 258 257 ["top"] f_law_walk t18 ?_ ?_ ?_ ?_ ?_ ?_ ?_ ?_ ?_))) (
    fc (.inl (DefIn.sp gx_free (mkD X G mB 412 32 265 264 ["page"] f_law_high t19 ?_ ?_ ?_ ?_ ?_ ?_ ?_ ?_ ?_))) (
    fc (.inl (mkX X G mB 412 33 272 271 ["top","path"] f_law_by_its_name t20 ?_ ?_ ?_ ?_ ?_ ?_ (ok_law_by_its_name X G) ?_ ?_)) (
    fc (.inl (mkX X G mB 412 34 279 278 ["top","path","wide"] f_law_refused t21 ?_ ?_ ?_ ?_ ?_ ?_ (ok_law_refused X G) ?_ ?_)) (
    fc (.inl (DefIn.sp gx_free (mkD X G mB 412 35 286 285 ["page"] f_law_beneath t22 ?_ ?_ ?_ ?_ ?_ ?_ ?_ ?_ ?_))) (
    fc (.inl (DefIn.sp gx_free (mkD X G mB 412 36 293 292 ["found","due"] f_law_path t23 ?_ ?_ ?_ ?_ ?_ ?_ ?_ ?_ ?_))) (
    fc (.inl (DefIn.sp gx_free (mkD X G mB 412 37 300 299 ["top","path","page","wide"] f_law_seen t24 ?_ ?_ ?_ ?_ ?_ ?_ ?_ ?_ ?_))) (
    fc (.inl (DefIn.sp gx_free (mkD X G mB 412 38 307 306 ["script"] f_law t25 ?_ ?_ ?_ ?_ ?_ ?_ ?_ ?_ ?_))) (
    λ_ h=>nomatch h))))))))))))))))))))))))))
  all_goals first|kernel_rfl|decide|exact λ_ _ _ _ _ _=>bd1 rfl λ_=>rfl|exact λ_ _ _ _ _ _=>bd2 rfl λ_ _=>rfl|exact λ_ _ _ _ _ _=>bd3 rfl λ_ _ _=>rfl|exact λ_ _ _ _ _ _=>bd4 rfl λ_ _ _ _=>rfl|exact λ_ _ _ _ _ _ _ _ _=>rfl
theorem hb:∀x∈bltNames,mg x=none:=by
  refine fc (mg_none_of X G ?_) (fc (mg_none_of X G ?_) (fc (mg_none_of X G ?_) (fc (mg_none_of X G ?_) (fc (mg_none_of X G ?_) (fc (mg_none_of X G ?_) (fc (mg_none_of X G ?_) (fc (mg_none_of X G ?_) (fc (mg_none_of X G ?_) (fc (mg_none_of X G ?_) (fc (mg_none_of X G ?_) (fc (mg_none_of X G ?_) (fc (mg_none_of X G ?_) (fc (mg_none_of X G ?_) (fc (mg_none_of X G ?_) (fc (mg_none_of X G ?_) (fc (mg_none_of X G ?_) (fc (mg_none_of X G ?_) (λ_ h=>nomatch h))))))))))))))))))
  all_goals kernel_rfl
theorem fin {l:PySem.W.OpenLaw}{w:World}{fa:Addr}(hfa:mg "law"=some (.ref fa)):∃fd:FuncData,(∀(s:Shared) (v:Value),BindsTo s fd ⟨[v],[]⟩ [("script",v)])∧∀base:Heap,(heap P).In base→base.Ns mainGlobals mg→FnOk l.prog w (heap P) mg base CX0 14 fa fd ["script"] (spD (heap P) 1 (callN tab 12 25)):=by
  have e:=hfa.symm.trans (mg_of X G (n:="law") (v:=.ref 307) (by kernel_rfl))
  cases e
  have l0:(heap P).lookup 307=some (fo "law" "law" (top 38) mB 412 306):=by kernel_rfl
  exact⟨_,λs v=>.of_eq rfl,λbase kb gb=>(fns (fuel:=60) gx_free (hb X G) (λx i h=>nomatch h) kb (λx i h=>hd X G (x,i) (PySem.mem_of_lookup h)) (λ_ h=>nomatch h) (λ_ h=>nomatch h) (by decide) (hrs kb gb) (λx i h=>hxd X G (x,i) (PySem.mem_of_lookup h)) 12 "law" "law" 25 _ _ (top 38) ["script"] f_law (fun_toD (fun_mk (st:=top 38) l0 (by kernel_rfl) (by kernel_rfl))) (sc_of (by kernel_rfl)) (body_of (fuel:=60) gx_free (by kernel_rfl)) t25 rfl (by kernel_rfl)).1⟩
end
end Dw.K27
open PySem PySem.W PyProof.Rows
set_option maxRecDepth 100000 in
set_option maxHeartbeats 0 in
theorem PySem.Challenge.cw_driftwood_k27_paths_and_pages_holds : PySem.Challenge.rw_driftwood_k27_paths_and_pages.Holds := by
  rw [Dw.K27.lw_eq]
  w_on
  refine holds_law Dw.K27.said λsaid=>?_
  refine holds_open (q:=Dw.K27.q) (loose:=[]) (Xt:=λs=>xlAt Dw.K27.q [] s&&recOk (RowW.records Dw.K27.lw.row.toRowW) s) (XP:=XL Dw.K27.q []) (Yf:=Hook.obs Dw.K27.hk) (Ya:=Hook.val Dw.K27.hk) (YP:=Hook.says Dw.K27.hk) (N:=5000) Dw.K27.hl (Hook.of Dw.K27.hk) (Hook.keeps Dw.K27.hk) (λs e=>xl_of s (Bool.and_eq_true_iff.mp e).1) XL.keeps (by rfl) (by rfl) (by rfl) (λs e=>recFacts_of (Bool.and_eq_true_iff.mp e).2) (by rfl) (by assumption) (by kernel_rfl) ⟨rfl,rfl,rfl,rfl,rfl,by kernel_rfl⟩ ?hw ?hc
  case hw=>w_witness2
  exact Dw.dw_walk (l:=Dw.K27.lw) (tab:=Dw.T.tab) (n:=12) (i:=25) (λns h _=>Dw.T.c_law27 0 ns h) rfl rfl ⟨rfl,by decide,by decide⟩ (λw h Y=>PySem.W.km_in_of Y) (λt hm=>nomatch hm) (λw h Y t hm=>nomatch hm) (λw t hm=>nomatch hm) λw mg fa h KX G hmg=>Dw.K27.fin KX G hmg

