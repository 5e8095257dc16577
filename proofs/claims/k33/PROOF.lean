import PyProof.Rows.All
import Wide.All
import OpenK.AllK
import Wide.FinOn
import Lean
import PyProof.EqAt
import PyProof.EqKinds
import PyProof.TupleCall
import KE.KSortAsk
import KE.KSortKey
import KE.KSortTup
import KE.KLam
import KE.KNestM
import KE.KDictSum
import PyProof.TupleOfSeq
import KE.KTryMore
import KE.KIsAll
import PyProof.ExcAttrAll.ValueError
import PyProof.Rows.Own
import PyProof.NsDelKeeps
import PySem.Challenge.RW_driftwood_k33_one_thing_put
set_option linter.all false
set_option Elab.async false
set_option maxRecDepth 100000
set_option maxHeartbeats 4000000
namespace L2
open PySem PySem.Spec PyProof.Rows
noncomputable def qBq (s:Stmt):Arguments:=match s with
 | .FunctionDef _ a _ _ _ _ _ _ _ _=>a
 | _=>{ posonlyargs:=[],args:=[],vararg:=none,kwonlyargs:=[],kw_defaults:=[],kwarg:=none,defaults:=[] }
noncomputable def qAv (s:Stmt):List Stmt:=match s with
 | .FunctionDef _ _ b _ _ _ _ _ _ _=>b
 | _=>[]
noncomputable def qAa (s:Stmt):Scope:=match s with
 | .FunctionDef _ _ _ _ _ _ sc _ _ _=>sc
 | _=>{ kind:=.function,names:=[],isGenerator:=false,isCoroutine:=false }
end L2
namespace Dw.K33
open PySem L2 PyProof.Rows
open PySem.W (nsIn fnOf codeIn keepIn findIn mg_of mg_none_of Frag)
def top (i:Nat):Stmt:=PySem.Challenge.pw_driftwood_k33_one_thing_put.main.body.getD i (.Pass ⟨0,0,0,0⟩)
noncomputable def mA:Str:="driftwood.boxes"
noncomputable def mB:Str:="driftwood.swaths"
noncomputable def mC:Str:="driftwood.things"
noncomputable def mD:Str:="driftwood.choose"
noncomputable def mE:Str:="driftwood.pages"
noncomputable def mF:Str:="driftwood.grow"
noncomputable def mG:Str:="law_driftwood_k33_one_thing_put"
noncomputable def en (P:Params) (n:Str) (t:Tok) (v:Value):DictEntry:=⟨PyData.keyHash P n,.str n t,v⟩
noncomputable def er (P:Params) (n:Str) (t:Tok) (a:Nat):DictEntry:=en P n t (.ref a)
noncomputable def dc (es:List DictEntry) (n:Nat):Obj:={ cls:=.type "dict",data:=.dict es.toArray n }
noncomputable def fo (n q:Str) (s:Stmt) (m:Str) (t:Tok) (c:Nat):Obj:={ cls:=.type "function",data:=.func (fnOf n q (qBq s) (qAv s) (qAa s) .none .none .none (.str m t) none (.ref c) .none) }
noncomputable def co (n q:Str) (t u x:Tok) (a b c d e r f s:Nat) (g h i:Value) (j k:Nat) (y:Tok):Obj:={ cls:=.type "code",data:=.fields #[.str n t,.str q u,.str "/claim/cut.py" x,.int a 0,.int b 0,.int c 0,.int d 0,.int e 0,.ref r,.bool true,.int f 0,.ref s,.none,g,h,i,.int j 0,.int k 0,.str "/claim/cut.py" y] }
noncomputable def ca (n q:Str) (t a b r j:Nat):Obj:=co n q t (t+1) (t+2) a b 0 0 3 r 181 (r+1) (.ref (r+2)) (.ref (r+3)) (.ref (r+4)) j a (j+1)
noncomputable def cn (n q:Str) (t a b r j:Nat):Obj:=co n q t (t+1) (t+2) a b 0 0 3 r 181 (r+1) .none .none (.ref (r+2)) j a (j+1)
noncomputable def heap (P:Params):Frag:=(nat_lit 3,dc (en P "__name__" 165 (.str ("law_driftwood_k33_one_thing_put") 456)::en P "__doc__" 166 .none::en P "__package__" 167 .none::en P "__loader__" 168 (.builtin "__main__.__loader__#opaque")::en P "__spec__" 169 .none::er P "__annotations__" 170 6::er P "__builtins__" 171 4::en P "__file__" 173 (.str ("/claim/cut.py") 172)::en P "__cached__" 174 .none::er P "side_cover" 196 21::er P "box_cover" 202 26::er P "box_rim" 208 31::er P "side_at" 218 38::er P "side_joined" 226 45::er P "side_narrowed" 234 52::er P "frame_at" 240 57::er P "frames_joined" 246 62::er P "frames_narrowed" 252 67::er P "thing_swath" 261 74::er P "thing_marks" 268 81::er P "thing_worth" 275 88::er P "told_cover" 282 95::er P "thing_told" 292 102::er P "told_poured" 300 109::er P "tolds_poured" 309 116::er P "first_box" 318 123::er P "stir_of" 327 130::er P "chosen_page" 333 135::er P "rim_of" 342 142::er P "order_along" 352 149::er P "cut_rim" 358 154::er P "parted" 364 159::er P "is_leaf" 373 166::er P "page_told" 380 173::er P "page_parts" 387 180::er P "things_tolds" 393 185::er P "pages_tolds" 399 190::er P "make_leaf" 406 197::er P "make_fork" 413 204::er P "parted_rows" 421 209::er P "leaves_of" 427 214::er P "forks_of" 433 219::er P "pages_with" 445 226::er P "put_thing" 455 233::er P "_law_cell_at" 465 240::er P "_law_alike" 474 247::er P "_law_draw" 483 254::er P "_law_thing" 503 261::er P "_law_told" 509 266::er P "_law_cuts" 515 271::er P "_law_tree" 521 276::er P "_law_looked" 535 283::er P "_law_healthy_with" 545 290::er P "law" 551 295::[]) 54) ::
 (nat_lit 4,{ cls:=.type "module",dict:=some 0,data:=.plain }) ::
 (nat_lit 20,ca "side_cover" "side_cover" 189 2 2 15 194) ::
 (nat_lit 21,fo "side_cover" "side_cover" (top 1) mA 187 20) ::
 (nat_lit 25,cn "box_cover" "box_cover" 197 4 2 22 200) ::
 (nat_lit 26,fo "box_cover" "box_cover" (top 2) mA 187 25) ::
 (nat_lit 30,cn "box_rim" "box_rim" 203 6 1 27 206) ::
 (nat_lit 31,fo "box_rim" "box_rim" (top 3) mA 187 30) ::
 (nat_lit 37,ca "side_at" "side_at" 211 9 2 32 216) ::
 (nat_lit 38,fo "side_at" "side_at" (top 5) mB 209 37) ::
 (nat_lit 44,ca "side_joined" "side_joined" 219 11 2 39 224) ::
 (nat_lit 45,fo "side_joined" "side_joined" (top 6) mB 209 44) ::
 (nat_lit 51,ca "side_narrowed" "side_narrowed" 227 13 2 46 232) ::
 (nat_lit 52,fo "side_narrowed" "side_narrowed" (top 7) mB 209 51) ::
 (nat_lit 56,cn "frame_at" "frame_at" 235 15 2 53 238) ::
 (nat_lit 57,fo "frame_at" "frame_at" (top 8) mB 209 56) ::
 (nat_lit 61,cn "frames_joined" "frames_joined" 241 17 2 58 244) ::
 (nat_lit 62,fo "frames_joined" "frames_joined" (top 9) mB 209 61) ::
 (nat_lit 66,cn "frames_narrowed" "frames_narrowed" 247 19 2 63 250) ::
 (nat_lit 67,fo "frames_narrowed" "frames_narrowed" (top 10) mB 209 66) ::
 (nat_lit 73,ca "thing_swath" "thing_swath" 255 22 1 68 259) ::
 (nat_lit 74,fo "thing_swath" "thing_swath" (top 12) mC 253 73) ::
 (nat_lit 80,ca "thing_marks" "thing_marks" 262 24 1 75 266) ::
 (nat_lit 81,fo "thing_marks" "thing_marks" (top 13) mC 253 80) ::
 (nat_lit 87,ca "thing_worth" "thing_worth" 269 26 1 82 273) ::
 (nat_lit 88,fo "thing_worth" "thing_worth" (top 14) mC 253 87) ::
 (nat_lit 94,ca "told_cover" "told_cover" 276 28 1 89 280) ::
 (nat_lit 95,fo "told_cover" "told_cover" (top 15) mC 253 94) ::
 (nat_lit 101,ca "thing_told" "thing_told" 283 30 1 96 290) ::
 (nat_lit 102,fo "thing_told" "thing_told" (top 16) mC 253 101) ::
 (nat_lit 108,ca "told_poured" "told_poured" 293 35 2 103 298) ::
 (nat_lit 109,fo "told_poured" "told_poured" (top 17) mC 253 108) ::
 (nat_lit 115,ca "tolds_poured" "tolds_poured" 301 41 1 110 307) ::
 (nat_lit 116,fo "tolds_poured" "tolds_poured" (top 18) mC 253 115) ::
 (nat_lit 122,ca "first_box" "first_box" 312 47 1 117 316) ::
 (nat_lit 123,fo "first_box" "first_box" (top 20) mD 310 122) ::
 (nat_lit 129,ca "stir_of" "stir_of" 319 49 2 124 325) ::
 (nat_lit 130,fo "stir_of" "stir_of" (top 21) mD 310 129) ::
 (nat_lit 134,cn "chosen_page" "chosen_page" 328 52 2 131 331) ::
 (nat_lit 135,fo "chosen_page" "chosen_page" (top 22) mD 310 134) ::
 (nat_lit 141,ca "rim_of" "rim_of" 334 55 1 136 340) ::
 (nat_lit 142,fo "rim_of" "rim_of" (top 23) mD 310 141) ::
 (nat_lit 148,ca "order_along" "order_along" 343 60 2 143 350) ::
 (nat_lit 149,fo "order_along" "order_along" (top 24) mD 310 148) ::
 (nat_lit 153,cn "cut_rim" "cut_rim" 353 62 3 150 356) ::
 (nat_lit 154,fo "cut_rim" "cut_rim" (top 25) mD 310 153) ::
 (nat_lit 158,cn "parted" "parted" 359 64 2 155 362) ::
 (nat_lit 159,fo "parted" "parted" (top 26) mD 310 158) ::
 (nat_lit 165,ca "is_leaf" "is_leaf" 367 76 1 160 371) ::
 (nat_lit 166,fo "is_leaf" "is_leaf" (top 28) mE 365 165) ::
 (nat_lit 172,ca "page_told" "page_told" 374 78 1 167 378) ::
 (nat_lit 173,fo "page_told" "page_told" (top 29) mE 365 172) ::
 (nat_lit 179,ca "page_parts" "page_parts" 381 80 1 174 385) ::
 (nat_lit 180,fo "page_parts" "page_parts" (top 30) mE 365 179) ::
 (nat_lit 184,cn "things_tolds" "things_tolds" 388 82 1 181 391) ::
 (nat_lit 185,fo "things_tolds" "things_tolds" (top 31) mE 365 184) ::
 (nat_lit 189,cn "pages_tolds" "pages_tolds" 394 84 1 186 397) ::
 (nat_lit 190,fo "pages_tolds" "pages_tolds" (top 32) mE 365 189) ::
 (nat_lit 196,ca "make_leaf" "make_leaf" 400 86 1 191 404) ::
 (nat_lit 197,fo "make_leaf" "make_leaf" (top 33) mE 365 196) ::
 (nat_lit 203,ca "make_fork" "make_fork" 407 88 1 198 411) ::
 (nat_lit 204,fo "make_fork" "make_fork" (top 34) mE 365 203) ::
 (nat_lit 208,cn "parted_rows" "parted_rows" 416 91 3 205 419) ::
 (nat_lit 209,fo "parted_rows" "parted_rows" (top 36) mF 414 208) ::
 (nat_lit 213,cn "leaves_of" "leaves_of" 422 95 2 210 425) ::
 (nat_lit 214,fo "leaves_of" "leaves_of" (top 37) mF 414 213) ::
 (nat_lit 218,cn "forks_of" "forks_of" 428 97 2 215 431) ::
 (nat_lit 219,fo "forks_of" "forks_of" (top 38) mF 414 218) ::
 (nat_lit 225,ca "pages_with" "pages_with" 434 99 3 220 443) ::
 (nat_lit 226,fo "pages_with" "pages_with" (top 39) mF 414 225) ::
 (nat_lit 232,ca "put_thing" "put_thing" 446 106 3 227 453) ::
 (nat_lit 233,fo "put_thing" "put_thing" (top 40) mF 414 232) ::
 (nat_lit 239,ca "_law_cell_at" "_law_cell_at" 458 110 2 234 463) ::
 (nat_lit 240,fo "_law_cell_at" "_law_cell_at" (top 42) mG 456 239) ::
 (nat_lit 246,ca "_law_alike" "_law_alike" 466 114 2 241 472) ::
 (nat_lit 247,fo "_law_alike" "_law_alike" (top 43) mG 456 246) ::
 (nat_lit 253,ca "_law_draw" "_law_draw" 475 127 3 248 481) ::
 (nat_lit 254,fo "_law_draw" "_law_draw" (top 44) mG 456 253) ::
 (nat_lit 260,ca "_law_thing" "_law_thing" 484 129 4 255 501) ::
 (nat_lit 261,fo "_law_thing" "_law_thing" (top 45) mG 456 260) ::
 (nat_lit 265,cn "_law_told" "_law_told" 504 144 1 262 507) ::
 (nat_lit 266,fo "_law_told" "_law_told" (top 46) mG 456 265) ::
 (nat_lit 270,cn "_law_cuts" "_law_cuts" 510 162 3 267 513) ::
 (nat_lit 271,fo "_law_cuts" "_law_cuts" (top 47) mG 456 270) ::
 (nat_lit 275,cn "_law_tree" "_law_tree" 516 167 3 272 519) ::
 (nat_lit 276,fo "_law_tree" "_law_tree" (top 48) mG 456 275) ::
 (nat_lit 282,ca "_law_looked" "_law_looked" 522 182 3 277 533) ::
 (nat_lit 283,fo "_law_looked" "_law_looked" (top 49) mG 456 282) ::
 (nat_lit 289,ca "_law_healthy_with" "_law_healthy_with" 536 207 3 284 543) ::
 (nat_lit 290,fo "_law_healthy_with" "_law_healthy_with" (top 50) mG 456 289) ::
 (nat_lit 294,cn "law" "law" 546 212 1 291 549) ::
 (nat_lit 295,fo "law" "law" (top 51) mG 456 294)::[]
def c0:Stmt:=top 0
def c1:Stmt:=top 1
def c2:Stmt:=top 2
def c3:Stmt:=top 3
def c4:Stmt:=top 4
def c5:Stmt:=top 5
def c6:Stmt:=top 6
def c7:Stmt:=top 7
def c8:Stmt:=top 8
def c9:Stmt:=top 9
def c10:Stmt:=top 10
def c11:Stmt:=top 11
def c12:Stmt:=top 12
def c13:Stmt:=top 13
def c14:Stmt:=top 14
def c15:Stmt:=top 15
def c16:Stmt:=top 16
def c17:Stmt:=top 17
def c18:Stmt:=top 18
def c19:Stmt:=top 19
def c20:Stmt:=top 20
def c21:Stmt:=top 21
def c22:Stmt:=top 22
def c23:Stmt:=top 23
def c24:Stmt:=top 24
def c25:Stmt:=top 25
def c26:Stmt:=top 26
def c27:Stmt:=top 27
def c28:Stmt:=top 28
def c29:Stmt:=top 29
def c30:Stmt:=top 30
def c31:Stmt:=top 31
def c32:Stmt:=top 32
def c33:Stmt:=top 33
def c34:Stmt:=top 34
def c35:Stmt:=top 35
def c36:Stmt:=top 36
def c37:Stmt:=top 37
def c38:Stmt:=top 38
def c39:Stmt:=top 39
def c40:Stmt:=top 40
def c41:Stmt:=top 41
def c42:Stmt:=top 42
def c43:Stmt:=top 43
def c44:Stmt:=top 44
def c45:Stmt:=top 45
def c46:Stmt:=top 46
def c47:Stmt:=top 47
def c48:Stmt:=top 48
def c49:Stmt:=top 49
def c50:Stmt:=top 50
def c51:Stmt:=top 51
def pw:Program:={ PySem.Challenge.pw_driftwood_k33_one_thing_put with main:={ PySem.Challenge.pw_driftwood_k33_one_thing_put.main with body:=c0::c1::c2::c3::c4::c5::c6::c7::c8::c9::c10::c11::c12::c13::c14::c15::c16::c17::c18::c19::c20::c21::c22::c23::c24::c25::c26::c27::c28::c29::c30::c31::c32::c33::c34::c35::c36::c37::c38::c39::c40::c41::c42::c43::c44::c45::c46::c47::c48::c49::c50::c51::[] } }
def lw:PySem.W.OpenLaw:={ PySem.Challenge.rw_driftwood_k33_one_thing_put with prog:=pw }
theorem lw_eq:PySem.Challenge.rw_driftwood_k33_one_thing_put=lw:=by kernel_rfl
end Dw.K33
section
open PySem PySem.W PyProof.Rows
namespace Dw.K33
noncomputable def hk:Hook:=kmHook heap (3::4::20::21::25::26::30::31::37::38::44::45::51::52::56::57::61::62::66::67::73::74::80::81::87::88::94::95::101::102::108::109::115::116::122::123::129::130::134::135::141::142::148::149::153::154::158::159::165::166::172::173::179::180::184::185::189::190::196::197::203::204::208::209::213::214::218::219::225::226::232::233::239::240::246::247::253::254::260::261::265::266::270::271::275::276::282::283::289::290::294::295::[]) (λ_=>by kernel_rfl) (144::[])
noncomputable def q:Program:={ lw.prog with main:={ lw.prog.main with body:=c1::c2::c3::c5::c6::c7::c8::c9::c10::c12::c13::c14::c15::c16::c17::c18::c20::c21::c22::c23::c24::c25::c26::c28::c29::c30::c31::c32::c33::c34::c36::c37::c38::c39::c40::c42::c43::c44::c45::c46::c47::c48::c49::c50::c51::[] } }
theorem hl:LeftO lw.row.toRowW.prog q [] (λs=>xlAt q [] s&&recOk (RowW.records lw.row.toRowW) s) (Hook.obs hk) (Hook.val hk) 5000:=λw=>by kernel_rfl
theorem said:lw.wellSaid=true:=by kernel_rfl
end Dw.K33
end
namespace Dw
open PySem PySem.W PyProof.Rows
noncomputable def qAW {α:Type}(c:Nat->Nat->Bool):KasT α->α
 | .ret a=>a
 | .ask i j k=>qAW c (k (c i j))
theorem qAT {α β:Type}(c:Nat->Nat->Bool) (f:α->KasT β):∀t:KasT α,qAW c (t.bind f)=qAW c (f (qAW c t))
 | .ret a=>rfl
 | .ask i j k=>qAT c f (k (c i j))
theorem qBs {α:Type}(c:Nat->Nat->Bool) (i j:Nat) (k:Bool->KasT α):qAW c (.ask i j k)=qAW c (k (c i j)):=rfl
theorem qJs {α:Type}(c:Nat->Nat->Bool) (a:α):qAW c (.ret a)=a:=rfl
noncomputable def qCA (is:List Int):List Nat:=if is.length<2 then List.range is.length else (qAW (λi j=>decide (is.getD i 0<is.getD j 0)) (kas_sort is.length)).toList
theorem qBt (p:Array Nat) (i j:Nat):(kas_rev p i j).Perm p:=mirror_perm _ _ _ _
theorem qBV (c:Nat->Nat->Bool):∀(f:Nat) (p:Array Nat) (n q:Nat),(qAW c (kas_desc f p n q)).1.Perm p
 | 0,p,n,q=>.refl _
 | f+1,p,n,q=>by
  rw [kas_desc,qBs]
  split
  ·split
   ·exact (qBV c f _ _ _).trans (qBt _ _ _)
   ·exact qBV c f _ _ _
  ·rw [qBs]
   split
   ·exact .refl _
   ·exact qBV c f _ _ _
theorem qEf (c:Nat->Nat->Bool) (n m:Nat) (p:Array Nat):(qAW c (kas_tail3 n m p)).2.Perm p:=by
 rw [kas_tail3,qAT]
 exact qBt _ _ _
theorem qEr (c:Nat->Nat->Bool) (n m:Nat) (p:Array Nat):(qAW c (kas_descPart n m p)).2.Perm p:=by
 rw [kas_descPart,qAT]
 have h:=qBV c (m - (n+1)) p (n+1) 0
 split
 ·exact (qEf c _ _ _).trans ((qBt _ _ _).trans h)
 ·exact (qEf c _ _ _).trans h
theorem qDy (c:Nat->Nat->Bool) (m:Nat) (p:Array Nat):(qAW c (kas_count m p)).2.Perm p:=by
 rw [kas_count,qAT]
 split
 ·exact .refl _
 ·split
  ·rw [qBs]
   split
   ·exact .refl _
   ·exact (qEr c _ _ _).trans (qBt _ _ _)
  ·exact qEr c _ _ _
theorem qGg (c:Nat->Nat->Bool):∀(f:Nat) (p:Array Nat) (k:Nat),(qAW c (kas_bin f p k)).Perm p
 | 0,p,k=>.refl _
 | f+1,p,k=>by
  rw [kas_bin,qAT]
  exact (qGg c f _ _).trans (bubble_perm _ _ _)
theorem qCf (c:Nat->Nat->Bool) (n:Nat):(qAW c (kas_sort n)).toList.Perm (List.range n):=by
 rw [kas_sort,qAT]
 have h:=qDy c n (List.range n).toArray
 split
 ·exact ((qGg c _ _ _).trans h).toList
 ·exact Array.Perm.toList h
theorem qCe (is:List Int):(qCA is).Perm (List.range is.length):=by
 unfold qCA
 split
 ·exact .refl _
 ·exact qCf _ _
end Dw
namespace Dw
open PySem
inductive D where
 | non|bl (b:Bool)|int (i:Int)|str (x:Str)|tup (ds:List D)|lst (ds:List D)
  | dct (m:Bool) (ks:List Int)
  | obj (ns:List Str) (ds:List D)
  | exc (c:Str)
 deriving Inhabited
inductive BOp where|add|sub|mul|fdiv|mod|pow|shl|shr|band|bor|bxor
 deriving DecidableEq,Inhabited
inductive COp where|eq|ne|lt|le|gt|ge|isin|notin
 deriving DecidableEq,Inhabited
inductive BI where|len|abs|min|max|sum|all|tuple|list|int|any|str|sorted
 deriving DecidableEq,Inhabited
inductive Ty where|int|bool|tuple|list|str
 deriving DecidableEq,Inhabited
inductive Tg where|one (i:Nat)|two (i j:Nat)|many (is:List Nat)
 deriving DecidableEq,Inhabited
inductive Ar where|pos (i:Nat)|kw (i:Nat)|dft (j:Nat) (d:D)
 deriving Inhabited
inductive C where
 | v (i:Nat)
 | k (d:D)
 | bin (o:BOp) (a b:C)
 | neg (a:C)
 | cmp (o:COp) (a b:C)
 | isC (neg:Bool) (a:C) (d:D)
 | inV (neg:Bool) (a:C) (i:Nat)
 | and (a b:C)|or (a b:C)|not (a:C)
 | ix (a b:C)
 | sl (a:C) (lo hi:Option C)
 | tup (as:List C)|lst (as:List C)
 | call (f:Nat) (as:List C)
 | bi (b:BI) (as:List C)
 | isi (a:C) (t:Ty)
 | bitl (a:C)
 | ifx (c a b:C)
 | rev (a:C)
 | join (a b:C)
 | fstr (as:List C)
 | chn (o p:COp) (a b c:C)
 | callP (f:Nat) (as ks:List C) (pl:List Ar)
 | compS (e:C) (nl:Nat) (ks:List Nat) (tg:Tg) (src:C)
 | compR (e:C) (nl:Nat) (ks:List Nat) (tg:Tg) (rs:List C)
 | compZ (e:C) (nl:Nat) (ks:List Nat) (tg:Tg) (a b:C)
 | compE (e:C) (nl:Nat) (ks:List Nat) (tg:Tg) (a:C)
 | compF (e c:C) (nl:Nat) (ks:List Nat) (tg:Tg) (src:C)
 | srtR (e:C) (nl:Nat) (ks:List Nat) (rs:List C)
 | fld (i j:Nat) (f:Str)
 | mm (f:Nat) (ns:List Str) (as bs:List C)
 deriving Inhabited
inductive S where
 | frz (is:List Nat)
 | set (i:Nat) (keep:Bool) (e:C)
 | dnew (i:Nat)
 | aug (i:Nat) (e:C)
 | popE (i:Nat)
 | setIx (i:Nat) (k e:C)
 | app (i:Nat) (e:C)
 | ret (e:C)
 | ite (c:C) (a b:List S)
 | forS (tg:Tg) (src:C) (body:List S)
 | forR (tg:Tg) (rs:List C) (body:List S)
 | forZ (tg:Tg) (a b:C) (body:List S)
 | forE (tg:Tg) (a:C) (body:List S)
 | forV (tg:Tg) (rs:List C) (body:List S)
 | ext (i:Nat) (e:C)
 | asgT (tg:Tg) (e:C)
 | pop (tg:Tg) (i:Nat)
 | whl (c:C) (body:List S)
 | brk
 | cnt
 | stk
 | rse (c:Str)
 | tryB (i t f:Nat) (as:List C) (tb:List (Str×D))
 deriving Inhabited
noncomputable abbrev R:=Bool×D
noncomputable abbrev En:=List (Option R)
mutual
@[simp] noncomputable def eqD:D->D->Bool
 | .non,.non=>true
 | .bl a,.bl b=>a == b
 | .bl a,.int b=>(if a then (1:Int) else 0) == b
 | .int a,.bl b=>a == (if b then (1:Int) else 0)
 | .int a,.int b=>a == b
 | .str a,.str b=>a == b
 | .tup xs,.tup ys=>qMS xs ys
 | .lst xs,.lst ys=>qMS xs ys
 | .dct a ks,.dct b js=>a == b&&ks == js
 | .obj a xs,.obj b ys=>a == b&&qMS xs ys
 | .exc a,.exc b=>a == b
 | _,_=>false
@[simp] noncomputable def qMS:List D->List D->Bool
 | [],[]=>true
 | x::xs,y::ys=>eqD x y&&qMS xs ys
 | _,_=>false
end
mutual
@[simp] noncomputable def qDh:Nat->D->Bool
 | 0,.tup _=>false
 | 0,.lst _=>false
 | n+1,.tup ds=>qJo n ds
 | n+1,.lst ds=>qJo n ds
 | _,_=>true
@[simp] noncomputable def qJo:Nat->List D->Bool
 | _,[]=>true
 | n,d::ds=>qDh n d&&qJo n ds
end
mutual
noncomputable def qBh:D->Bool
 | .lst _=>false
 | .tup ds=>qB4 ds
 | .dct _ _=>false
 | .obj _ _=>false
 | .exc _=>false
 | _=>true
noncomputable def qB4:List D->Bool
 | []=>true
 | d::r=>qBh d&&qB4 r
end
noncomputable def nlR:R->Option R
 | (false,d)=>if qBh d then some (false,d) else none
 | _=>none
noncomputable def lim:Nat:=2^24
noncomputable def big:Nat:=2^4000
noncomputable def qJX:Nat:=2^1048576
noncomputable def qEs (a b:Int):Bool:=decide ((a.natAbs<2^240/\b.natAbs<2^240)∨a.natAbs<2^64∨b.natAbs<2^64∨(a.natAbs<qJX/\b.natAbs<qJX))
noncomputable def qBr (b:Int):Bool:=decide (b≠0/\(b.natAbs<2^240∨b.natAbs<big))
noncomputable def qP1 (a b:Int):Bool:=decide (0<=b/\b<=1000/\a.natAbs<2^64)
noncomputable def qEn (a b:Int):Bool:=decide (a.natAbs<2^240/\0<=b/\b<=200)
noncomputable def qE2 (is:List Int):List Int:=is.mergeSort (λa b=>decide (a<=b))
noncomputable def qQ7 (i:Int):Str:=Str.ofString (toString i)
noncomputable def qOV (sep:Str) (ts:List Str):Str:=⟨(ts.drop 1).foldl (λacc p=>acc++sep.cps++p.cps) (ts.headD Str.empty).cps⟩
@[simp] noncomputable def qFw:List D->Option (List Str)
 | []=>some []
 | .str i::r=>(qFw r).map (i::·)
 | _=>none
noncomputable def qOJ (sep:Str) (ts:List Str):Bool:=decide (ts.toArray.foldl (λn t=>n+t.length+sep.length) 0<=lim/\(qOV sep ts).length<=lim)
@[simp] noncomputable def qQw:D->D->Option R
 | .str sep,.lst xs=>(qFw xs).bind λts=>if qOJ sep ts then some (false,.str (qOV sep ts)) else none
 | _,_=>none
noncomputable def qPF (acc:Str):List Str->Option Str
 | []=>some acc
 | t::r=>if (acc++t).length<=lim then qPF (acc++t) r else none
@[simp] noncomputable def qRE:D->Option R
 | .tup xs=>some (false,.tup xs.reverse)
 | _=>none
noncomputable def qGG:BOp->D->D->Option R
 | .add,.int a,.int b=>some (false,.int (a+b))
 | .sub,.int a,.int b=>some (false,.int (a - b))
 | .mul,.int a,.int b=>if qEs a b then some (false,.int (a * b)) else none
 | .fdiv,.int a,.int b=>if qBr b then some (false,.int (a.fdiv b)) else none
 | .mod,.int a,.int b=>if qBr b then some (false,.int (a.fmod b)) else none
 | .pow,.int a,.int b=>if qEn a b then some (false,.int (a^b.toNat)) else none
 | .shl,.int a,.int b=>if qP1 a b then some (false,.int (a * 2^b.toNat)) else none
 | .shr,.int a,.int b=>if 0<=b then some (false,.int (a / 2^b.toNat)) else none
 | .band,.int a,.int b=>if 0<=a/\0<=b then some (false,.int ((a.toNat &&& b.toNat:Nat):Int)) else none
 | .bor,.int a,.int b=>if 0<=a/\0<=b then some (false,.int ((a.toNat ||| b.toNat:Nat):Int)) else none
 | .bxor,.int a,.int b=>if 0<=a/\0<=b then some (false,.int (((a.toNat ||| b.toNat:Nat):Int) - ((a.toNat &&& b.toNat:Nat):Int))) else none
 | .add,.lst a,.lst b=>if a.length+b.length<=lim then some (true,.lst (a++b)) else none
 | .add,.str a,.str b=>if a.length+b.length<=lim then some (false,.str (a++b)) else none
 | .add,.tup [],.tup b=>some (false,.tup b)
 | .add,.tup (x::a),.tup b=>if a.length+1+b.length<=lim then some (false,.tup (x::a++b)) else none
 | .mul,.lst a,.int b=>if a.length * b.toNat<=lim/\-(2^62)<b/\b<2^62 then some (true,.lst (List.replicate b.toNat a).flatten) else none
 | _,_,_=>none
@[simp] noncomputable def qAK:List D->Option (List Int)
 | []=>some []
 | .int i::r=>(qAK r).map (i::·)
 | _=>none
@[simp] noncomputable def inD (n:Bool):D->D->Option R
 | .int i,.tup ys=>(qAK ys).map λis=>(false,.bl (if n then !(is.any (· == i)) else is.any (· == i)))
 | _,_=>none
@[simp] noncomputable def qKc:COp->D->D->Option R
 | .isin,a,b=>inD false a b
 | .notin,a,b=>inD true a b
 | .eq,a,b=>if qDh 20 a||qDh 20 b then some (false,.bl (eqD a b)) else none
 | .ne,a,b=>if qDh 20 a||qDh 20 b then some (false,.bl (!eqD a b)) else none
 | .lt,.int a,.int b=>some (false,.bl (decide (a<b)))
 | .le,.int a,.int b=>some (false,.bl (decide (a<=b)))
 | .gt,.int a,.int b=>some (false,.bl (decide (b<a)))
 | .ge,.int a,.int b=>some (false,.bl (decide (b<=a)))
 | _,_,_=>none
@[simp] noncomputable def ixN (n:Nat) (i:Int):Option Nat:=if 0<=i then (if i<n then some i.toNat else none) else if -(n:Int)<=i then some (i+n).toNat else none
@[simp] noncomputable def ixD (xs:List D) (i:Int):Option D:=(ixN xs.length i).bind λj=>xs[j]?
@[simp] noncomputable def cutAt (n d:Nat):Option Int->Nat
 | none=>d
 | some v=>if v<0 then (v+n).toNat else min v.toNat n
@[simp] noncomputable def qJ9 (xs:List D) (lo hi:Option Int):List D:=(xs.drop (cutAt xs.length 0 lo)).take (cutAt xs.length xs.length hi - cutAt xs.length 0 lo)
@[simp] noncomputable def qKg:List D->Option (List Bool)
 | []=>some []
 | .bl i::r=>(qKg r).map (i::·)
 | _=>none
noncomputable def mnL:List Int->Option Int
 | []=>none
 | a::r=>some (r.foldl (λm x=>if x<m then x else m) a)
noncomputable def mxL:List Int->Option Int
 | []=>none
 | a::r=>some (r.foldl (λm x=>if m<x then x else m) a)
noncomputable def lxL:List Int->List Int->Bool
 | [],[]=>false
 | [],_::_=>true
 | _::_,[]=>false
 | x::xs,y::ys=>if x=y then lxL xs ys else decide (x<y)
noncomputable def qEd:List D->Option (List (List Int))
 | []=>some []
 | .tup ds::r=>(qAK ds).bind λis=>(qEd r).map (is::·)
 | _=>none
noncomputable def mnT:List (List Int)->Option (List Int)
 | []=>none
 | a::r=>some (r.foldl (λm x=>if lxL x m then x else m) a)
noncomputable def qMy (xs:List D):Option R:=match qAK xs with
 | some is=>(mnL is).map λm=>(false,.int m)
 | none=>(qEd xs).bind λts=>(mnT ts).map λm=>(false,.tup (m.map .int))
noncomputable def qEB:List D->Option (List Int)
 | []=>some []
 | .tup (.int i::_)::r=>(qEB r).map (i::·)
 | _=>none
noncomputable def qLq (xs:List D):Option R:=match qAK xs with
 | some is=>if is.length<64 then some (true,.lst ((qE2 is).map .int)) else none
 | none=>(qEB xs).bind λhs=>if hs.Nodup/\hs.length<64 then some (true,.lst ((qCA hs).map λk=>xs.getD k .non)) else none
noncomputable def biD:BI->List D->Option R
 | .len,[.tup xs]=>some (false,.int xs.length)
 | .len,[.lst xs]=>some (false,.int xs.length)
 | .abs,[.int i]=>some (false,.int (if i<0 then -i else i))
 | .min,[.int i,.int j]=>some (false,.int (if j<i then j else i))
 | .max,[.int i,.int j]=>some (false,.int (if j > i then j else i))
 | .max,[.int i,.int j,.int k]=>some (false,.int (if k > (if j > i then j else i) then k else (if j > i then j else i)))
 | .min,[.lst xs]=>qMy xs
 | .max,[.lst xs]=>(qAK xs).bind λis=>(mxL is).map λm=>(false,.int m)
 | .sum,[.lst xs]=>(qAK xs).map λis=>(false,.int is.sum)
 | .all,[.lst xs]=>(qKg xs).map λbs=>(false,.bl (bs.all id))
 | .sorted,[.lst xs]=>qLq xs
 | .sorted,[.tup xs]=>(qAK xs).bind λis=>if is.length<64 then some (true,.lst ((qE2 is).map .int)) else none
 | .any,[.lst xs]=>(qKg xs).map λbs=>(false,.bl (bs.any id))
 | .str,[.int i]=>if i.natAbs<2^240 then some (false,.str (qQ7 i)) else none
 | .tuple,[.lst xs]=>some (false,.tup xs)
 | .tuple,[.tup xs]=>some (false,.tup xs)
 | .list,[.lst xs]=>some (true,.lst xs)
 | .list,[.tup xs]=>some (true,.lst xs)
 | .int,[.bl b]=>some (false,.int (if b then 1 else 0))
 | .int,[.int i]=>some (false,.int i)
 | _,_=>none
@[simp] noncomputable def tyD:Ty->D->Bool
 | .int,.int _=>true
 | .int,.bl _=>true
 | .bool,.bl _=>true
 | .tuple,.tup _=>true
 | .list,.lst _=>true
 | .str,.str _=>true
 | _,_=>false
@[simp] noncomputable def isD (neg:Bool):D->D->Option R
 | .non,.non=>some (false,.bl (!neg))
 | _,.non=>some (false,.bl neg)
 | .bl a,.bl b=>some (false,.bl (if a == b then !neg else neg))
 | _,.bl _=>some (false,.bl neg)
 | _,_=>none
@[simp] noncomputable def qAg (σ:En) (i:Nat):Option R:=(σ[i]?).join
noncomputable def qEm (σ:En):List Nat->List D->Option En
 | [],[]=>some σ
 | i::is,d::ds=>qEm (σ.set i (some (false,d))) is ds
 | _,_=>none
noncomputable def qBz (σ:En):Tg->D->Option En
 | .one i,d=>some (σ.set i (some (false,d)))
 | .two i j,.tup [x,y]=>some ((σ.set i (some (false,x))).set j (some (false,y)))
 | .many is,.tup ds=>qEm σ is ds
 | _,_=>none
@[simp] noncomputable def qEX:List D->Option (List D)
 | [.int n]=>if -(2^62)<=n/\n<2^62 then some ((List.range n.toNat).map λi=>.int (i:Nat)) else none
 | [.int a,.int b]=>some ((List.range (b - a).toNat).map λi=>.int (a+(i:Nat)))
 | _=>none
@[simp] noncomputable def rvD:List D->Option (List D)
 | [.int n]=>if -(2^62)<=n/\n<2^62 then some ((List.range n.toNat).map λi=>.int ((n.toNat:Int) - 1 - (i:Nat))) else none
 | _=>none
@[simp] noncomputable def qB7:D->Option (List D)
 | .lst xs=>some xs
 | .tup xs=>some xs
 | _=>none
@[simp] noncomputable def qGT:D->Option (List D)
 | .tup xs=>some xs
 | .lst xs=>some xs
 | _=>none
noncomputable def qBP:Nat->List D->List D
 | _,[]=>[]
 | n,x::r=>.tup [.int (n:Nat),x]::qBP (n+1) r
noncomputable def qCn (a b:List D):List D:=List.zipWith (λx y=>.tup [x,y]) a b
noncomputable def qDa (f:En->Option R) (σ:En) (tg:Tg):List D->Option (List D)
 | []=>some []
 | x::r=>(qBz σ tg x).bind fun σ'=>(f σ').bind λy=>(qDa f σ tg r).bind λys=>some (y.2::ys)
noncomputable def qRU (a b:Option (List D)):R->Option (List D)
 | (_,.bl true)=>a
 | (_,.bl false)=>b
 | _=>none
noncomputable def qFm (c f:En->Option R) (σ:En) (tg:Tg):List D->Option (List D)
 | []=>some []
 | x::r=>(qBz σ tg x).bind fun σ'=>(c σ').bind (qRU ((f σ').bind λy=>(qFm c f σ tg r).bind λys=>some (y.2::ys)) (qFm c f σ tg r))
@[simp] noncomputable def qBm (σ:En) (nl:Nat) (ks:List Nat):En:=List.replicate nl none++ks.map λj=>qAg σ j
@[simp] noncomputable def pkR:R->Option D
 | (false,d)=>some d
 | (true,.lst ds)=>some (.lst ds)
 | _=>none
@[simp] noncomputable def pk (σ:En) (c:C) (r:Option R):Option D:=match c with
 | .v i=>(qAg σ i).bind pkR
 | _=>r.map (·.2)
@[simp] noncomputable def agR:R->Option D
 | (false,d)=>some d
 | (true,.dct _ ks)=>some (.dct false ks)
 | _=>none
@[simp] noncomputable def ag (σ:En) (c:C) (r:Option R):Option D:=match c with
 | .v i=>(qAg σ i).bind agR
 | _=>r.map (·.2)
@[simp] noncomputable def inR (n:Bool):D->R->Option R
 | .int k,(true,.dct _ ks)=>some (false,.bl (if n then !(ks.any (· == k)) else ks.any (· == k)))
 | .bl b,(true,.lst ds)=>(qKg ds).map λbs=>(false,.bl (if n then !(bs.any (· == b)) else bs.any (· == b)))
 | x,(false,d)=>inD n x d
 | _,_=>none
noncomputable def qRV (j:Nat) (f:Str):R->Option R
 | (true,.obj ns ds)=>if ns[j]?=some f then (ds[j]?).map (false,·) else none
 | _=>none
@[simp] noncomputable def qMn:D->Option (Option Int)
 | .int i=>some (some i)
 | _=>none
@[simp] noncomputable def qQ4:D->Option R
 | .int i=>some (false,.int (-i))
 | _=>none
@[simp] noncomputable def ixx:D->D->Option R
 | .lst xs,.int i=>(ixD xs i).map (false,·)
 | .tup xs,.int i=>(ixD xs i).map (false,·)
 | _,_=>none
@[simp] noncomputable def slx (l h:Option Int):D->Option R
 | .lst xs=>some (true,.lst (qJ9 xs l h))
 | .tup xs=>some (false,.tup (qJ9 xs l h))
 | _=>none
@[simp] noncomputable def qQT (k:Option R):R->Option R
 | (_,.bl true)=>k
 | (_,.bl false)=>some (false,.bl false)
 | _=>none
@[simp] noncomputable def orK (k:Option R):R->Option R
 | (_,.bl true)=>some (false,.bl true)
 | (_,.bl false)=>k
 | _=>none
@[simp] noncomputable def qQ3:R->Option R
 | (_,.bl c)=>some (false,.bl (!c))
 | _=>none
noncomputable def qR3 (i:Int):Int:=if i=0 then 0 else ((i.natAbs.log2+1:Nat):Int)
@[simp] noncomputable def qR4:D->Option R
 | .int i=>some (false,.int (qR3 i))
 | _=>none
@[simp] noncomputable def ifK (a b:Option R):R->Option R
 | (_,.bl true)=>a
 | (_,.bl false)=>b
 | _=>none
@[simp] noncomputable def qCp:Option R->Option R
 | some (false,d)=>some (false,d)
 | _=>none
noncomputable def arD (xs zs:List D):Ar->Option D
 | .pos i=>xs[i]?
 | .kw i=>zs[i]?
 | .dft _ d=>some d
noncomputable def plD (xs zs:List D):List Ar->Option (List D)
 | []=>some []
 | a::r=>(arD xs zs a).bind λx=>(plD xs zs r).bind λys=>some (x::ys)
section
variable (call:Nat->List D->Option R)
mutual
noncomputable def evE (σ:En):C->Option R
 | .v i=>qCp (qAg σ i)
 | .k d=>some (false,d)
 | .bin o a b=>(pk σ a (evE σ a)).bind λx=>(pk σ b (evE σ b)).bind λy=>qGG o x y
 | .neg a=>(pk σ a (evE σ a)).bind qQ4
 | .cmp o a b=>(pk σ a (evE σ a)).bind λx=>(pk σ b (evE σ b)).bind λy=>qKc o x y
 | .isC n a d=>(pk σ a (evE σ a)).bind λx=>isD n x d
 | .and a b=>(evE σ a).bind (qQT (evE σ b))
 | .or a b=>(evE σ a).bind (orK (evE σ b))
 | .not a=>(evE σ a).bind qQ3
 | .ix a b=>(pk σ a (evE σ a)).bind λx=>(pk σ b (evE σ b)).bind λy=>ixx x y
 | .sl a lo hi=>(pk σ a (evE σ a)).bind λx=>(evO σ lo).bind λl=>(evO σ hi).bind λh=>slx l h x
 | .tup as=>(evA σ as).bind λxs=>if xs.length<=lim then some (false,.tup xs) else none
 | .lst as=>(evA σ as).bind λxs=>if xs.length<=lim then some (true,.lst xs) else none
 | .call f as=>match evG σ as with
  | some xs=>call f xs
  | none=>(qBO σ as).bind λxs=>(call f xs).bind nlR
 | .inV n a i=>(pk σ a (evE σ a)).bind λx=>(qAg σ i).bind λy=>inR n x y
 | .bi b as=>(qBO σ as).bind λxs=>biD b xs
 | .isi a t=>(pk σ a (evE σ a)).bind λx=>some (false,.bl (tyD t x))
 | .bitl a=>(pk σ a (evE σ a)).bind qR4
 | .ifx c a b=>(evE σ c).bind (ifK (evE σ a) (evE σ b))
 | .rev a=>(pk σ a (evE σ a)).bind qRE
 | .join a b=>(pk σ a (evE σ a)).bind λx=>(pk σ b (evE σ b)).bind λy=>qQw x y
 | .fstr as=>(evA σ as).bind λxs=>(qFw xs).bind λts=>(qPF Str.empty ts).map λz=>(false,.str z)
 | .chn o p a b c=>(pk σ a (evE σ a)).bind λx=>(pk σ b (evE σ b)).bind λy=>(qKc o x y).bind (qQT ((pk σ c (evE σ c)).bind λz=>qKc p y z))
 | .callP f as ks pl=>(evA σ as).bind λxs=>(evA σ ks).bind λzs=>(plD xs zs pl).bind λds=>call f ds
 | .compS e nl ks tg src=>(evE σ src).bind λx=>(qB7 x.2).bind λits=>(qDa (fun σ'=>evE σ' e) (qBm σ nl ks) tg its).bind λys=>some (true,.lst ys)
 | .compR e nl ks tg rs=>(qBO σ rs).bind λx=>(qEX x).bind λits=>if its.length<=lim then (qDa (fun σ'=>evE σ' e) (qBm σ nl ks) tg its).bind λys=>some (true,.lst ys) else none
 | .compZ e nl ks tg a b=>(evE σ a).bind λx=>(evE σ b).bind λy=>(qB7 x.2).bind λxs=>(qGT y.2).bind λys =>
   (qDa (fun σ'=>evE σ' e) (qBm σ nl ks) tg (qCn xs ys)).bind λzs=>some (true,.lst zs)
 | .compE e nl ks tg a=>(evE σ a).bind λx=>(qB7 x.2).bind λxs=>(qDa (fun σ'=>evE σ' e) (qBm σ nl ks) tg (qBP 0 xs)).bind λzs=>some (true,.lst zs)
 | .compF e c nl ks tg src=>(evE σ src).bind λx=>(qB7 x.2).bind λits=>(qFm (fun σ'=>evE σ' c) (fun σ'=>evE σ' e) (qBm σ nl ks) tg its).bind λys=>some (true,.lst ys)
 | .srtR e nl ks rs=>(qBO σ rs).bind λx=>(qEX x).bind λits=>(qDa (fun σ'=>evE σ' e) (qBm σ nl ks) (.one 0) its).bind λys=>(qAK ys).bind λis=>if 2<=is.length/\is.length<64 then some (true,.lst ((qCA is).map λk=>its.getD k .non)) else none
 | .fld i j f=>(qAg σ i).bind (qRV j f)
 | .mm f ns as bs=>(evA σ as).bind λxs=>(evA σ bs).bind λys=>if xs.length=ns.length then call f (.obj ns xs::ys) else none
termination_by structural c=>c
noncomputable def evA (σ:En):List C->Option (List D)
 | []=>some []
 | a::r=>(evE σ a).bind λx=>(evA σ r).bind λxs=>some (x.2::xs)
termination_by structural c=>c
noncomputable def qBO (σ:En):List C->Option (List D)
 | []=>some []
 | a::r=>(pk σ a (evE σ a)).bind λx=>(qBO σ r).bind λxs=>some (x::xs)
termination_by structural c=>c
noncomputable def evG (σ:En):List C->Option (List D)
 | []=>some []
 | a::r=>(ag σ a (evE σ a)).bind λx=>(evG σ r).bind λxs=>some (x::xs)
termination_by structural c=>c
noncomputable def evO (σ:En):Option C->Option (Option Int)
 | none=>some none
 | some c=>(pk σ c (evE σ c)).bind qMn
termination_by structural c=>c
end
inductive Ou where|nx (σ:En)|rt (r:R)|bk (σ:En)|ct (σ:En)
@[simp] noncomputable def frz1 (σ:En) (i:Nat):En:=match qAg σ i with|some (true,.lst ds)=>σ.set i (some (false,.lst ds))|_=>σ
@[simp] noncomputable def qAM (keep:Bool) (r:R):R:=(keep&&r.1,r.2)
noncomputable def qEC (f:En->Option Ou) (tg:Tg):List D->En->Option Ou
 | [],σ=>some (.nx σ)
 | x::r,σ=>(qBz σ tg x).bind fun σ1=>(f σ1).bind λo=>match o with
   | .nx σ2=>qEC f tg r σ2
   | .ct σ2=>qEC f tg r σ2
   | .bk σ2=>some (.nx σ2)
   | .rt v=>some (.rt v)
@[simp] noncomputable def qQ6 (a b:Option Ou):R->Option Ou
 | (_,.bl true)=>a
 | (_,.bl false)=>b
 | _=>none
@[simp] noncomputable def qNS (σ:En) (i:Nat) (k e:D):Option Ou:=match qAg σ i,k with
 | some (true,.lst xs),.int n=>(ixN xs.length n).bind λj=>some (.nx (σ.set i (some (true,.lst (xs.set j e)))))
 | some (true,.dct true ks),.int n=>match e with
  | .bl true=>if ks.length<lim then some (.nx (σ.set i (some (true,.dct true (if ks.any (· == n) then ks else ks++[n]))))) else none
  | _=>none
 | _,_=>none
@[simp] noncomputable def qKo (σ:En) (i:Nat) (e:D):Option Ou:=match qAg σ i with
 | some (true,.lst xs)=>if xs.length<lim then some (.nx (σ.set i (some (true,.lst (xs++[e]))))) else none
 | _=>none
@[simp] noncomputable def rtR:R->Option R
 | (false,d)=>some (false,d)
 | (true,.lst ds)=>some (true,.lst ds)
 | _=>none
@[simp] noncomputable def qDj (σ:En) (c:C) (r:Option R):Option R:=match c with
 | .v i=>(qAg σ i).bind rtR
 | _=>r
@[simp] noncomputable def qLc (k:En->Option Ou):Ou->Option Ou
 | .nx σ=>k σ
 | .rt r=>some (.rt r)
 | .bk σ=>some (.bk σ)
 | .ct σ=>some (.ct σ)
@[simp] noncomputable def qHD (k:En->Option Ou):Ou->Option Ou
 | .nx σ=>k σ
 | .ct σ=>k σ
 | .bk σ=>some (.nx σ)
 | .rt r=>some (.rt r)
@[simp] noncomputable def qQW (σ:En) (k:Option Ou):R->Option Ou
 | (_,.bl true)=>k
 | (_,.bl false)=>some (.nx σ)
 | _=>none
noncomputable def qDi (c:En->Option R) (b:En->Option Ou):Nat->En->Option Ou
 | 0,_=>none
 | n+1,σ=>(c σ).bind (qQW σ ((b σ).bind (qHD (qDi c b n))))
@[simp] noncomputable def qPE (σ:En) (i:Nat):R->Option Ou
 | (true,.lst ys)=>match qAg σ i with
  | some (true,.lst xs)=>if xs.length+ys.length<=lim then some (.nx (σ.set i (some (true,.lst (xs++ys))))) else none
  | _=>none
 | (false,.tup ys)=>match qAg σ i with
  | some (true,.lst xs)=>if xs.length+ys.length<=lim then some (.nx (σ.set i (some (true,.lst (xs++ys))))) else none
  | _=>none
 | (false,.lst ys)=>match qAg σ i with
  | some (true,.lst xs)=>if xs.length+ys.length<=lim then some (.nx (σ.set i (some (true,.lst (xs++ys))))) else none
  | _=>none
 | _=>none
@[simp] noncomputable def qR6 (σ:En) (tg:Tg):R->Option Ou
 | (false,d)=>(qBz σ tg d).map .nx
 | _=>none
@[simp] noncomputable def qRK (σ:En) (tg:Tg) (i:Nat):Option Ou:=match qAg σ i with
 | some (true,.lst xs)=>(xs.getLast?).bind λd=>(qBz (σ.set i (some (true,.lst xs.dropLast))) tg d).map .nx
 | _=>none
@[simp] noncomputable def qR5 (σ:En) (i:Nat) (y:D):Option Ou:=match qAg σ i,y with
 | some (false,.int a),.int b=>some (.nx (σ.set i (some (false,.int (a+b)))))
 | _,_=>none
@[simp] noncomputable def qQc (σ:En) (i:Nat):Option Ou:=match qAg σ i with
 | some (true,.lst xs)=>(xs.getLast?).bind λ_=>some (.nx (σ.set i (some (true,.lst xs.dropLast))))
 | _=>none
noncomputable def XO:Nat:=1000000
noncomputable def qRe (σ:En) (t:Nat) (tb:List (Str×D)):R->Option Ou
 | (false,.exc c)=>(tb.lookup c).map λd=>.nx (σ.set t (some (false,d)))
 | _=>some (.nx σ)
mutual
noncomputable def evS (σ:En):S->Option Ou
 | .frz is=>some (.nx (is.foldl frz1 σ))
 | .set i keep e=>(evE call σ e).bind λr=>some (.nx (σ.set i (some (qAM keep r))))
 | .aug i e=>(pk σ e (evE call σ e)).bind (qR5 σ i)
 | .popE i=>qQc σ i
 | .dnew i=>some (.nx (σ.set i (some (true,.dct true []))))
 | .setIx i k e=>(evE call σ e).bind λx=>(pk σ k (evE call σ k)).bind λn=>qNS σ i n x.2
 | .app i e=>(evE call σ e).bind λx=>qKo σ i x.2
 | .ret e=>(qDj σ e (evE call σ e)).bind λr=>some (.rt r)
 | .ite c a b=>(evE call σ c).bind (qQ6 (qAr σ a) (qAr σ b))
 | .forS tg src body=>(evE call σ src).bind λx=>(qB7 x.2).bind λits=>qEC (fun σ'=>qAr σ' body) tg its σ
 | .forR tg rs body=>(qBO call σ rs).bind λx=>(qEX x).bind λits=>qEC (fun σ'=>qAr σ' body) tg its σ
 | .forV tg rs body=>(qBO call σ rs).bind λx=>(rvD x).bind λits=>qEC (fun σ'=>qAr σ' body) tg its σ
 | .ext i e=>(evE call σ e).bind (qPE σ i)
 | .asgT tg e=>(evE call σ e).bind (qR6 σ tg)
 | .pop tg i=>qRK σ tg i
 | .whl c body=>qDi (fun σ'=>evE call σ' c) (fun σ'=>qAr σ' body) big σ
 | .brk=>some (.bk σ)
 | .cnt=>some (.ct σ)
 | .stk=>none
 | .rse c=>some (.rt (false,.exc c))
 | .tryB i t f as tb=>if (qAg σ i).isNone/\i<σ.length then (evG call σ as).bind λxs=>(call (f+XO) xs).bind (qRe σ t tb) else none
 | .forZ tg a b body=>(evE call σ a).bind λx=>(evE call σ b).bind λy=>(qB7 x.2).bind λxs=>(qGT y.2).bind λys=>qEC (fun σ'=>qAr σ' body) tg (qCn xs ys) σ
 | .forE tg a body=>(evE call σ a).bind λx=>(qB7 x.2).bind λxs=>qEC (fun σ'=>qAr σ' body) tg (qBP 0 xs) σ
termination_by structural c=>c
noncomputable def qAr (σ:En):List S->Option Ou
 | []=>some (.nx σ)
 | a::r=>(evS σ a).bind (qLc fun σ'=>qAr σ' r)
termination_by structural c=>c
end
end
section
variable (call:Nat->List D->Option R) (σ:En)
noncomputable def qAz (e:C) (σ:En) (tg:Tg) (its:List D):Option (List D):=qDa (fun σ'=>evE call σ' e) σ tg its
noncomputable def qA2 (body:List S) (tg:Tg) (its:List D) (σ:En):Option Ou:=qEC (fun σ'=>qAr call σ' body) tg its σ
@[simp] theorem qIc (o a b):evE call σ (.bin o a b)=(pk σ a (evE call σ a)).bind λx=>(pk σ b (evE call σ b)).bind λy=>qGG o x y:=rfl
@[simp] theorem qMQ (a):evE call σ (.neg a)=(pk σ a (evE call σ a)).bind qQ4:=rfl
@[simp] theorem qFj (o a b):evE call σ (.cmp o a b)=(pk σ a (evE call σ a)).bind λx=>(pk σ b (evE call σ b)).bind λy=>qKc o x y:=rfl
@[simp] theorem qFh (n a d):evE call σ (.isC n a d)=(pk σ a (evE call σ a)).bind λx=>isD n x d:=rfl
@[simp] theorem qId (a b):evE call σ (.and a b)=(evE call σ a).bind (qQT (evE call σ b)):=rfl
@[simp] theorem qKN (a b):evE call σ (.or a b)=(evE call σ a).bind (orK (evE call σ b)):=rfl
@[simp] theorem qH9 (a):evE call σ (.not a)=(evE call σ a).bind qQ3:=rfl
@[simp] theorem qKO (a b):evE call σ (.ix a b)=(pk σ a (evE call σ a)).bind λx=>(pk σ b (evE call σ b)).bind λy=>ixx x y:=rfl
@[simp] theorem qH8 (a lo hi):evE call σ (.sl a lo hi)=(pk σ a (evE call σ a)).bind λx=>(evO call σ lo).bind λl=>(evO call σ hi).bind λh=>slx l h x:=rfl
@[simp] theorem qC2 (as):evE call σ (.tup as)=(evA call σ as).bind λxs=>if xs.length<=lim then some (false,.tup xs) else none:=rfl
@[simp] theorem qIa (as):evE call σ (.lst as)=(evA call σ as).bind λxs=>if xs.length<=lim then some (true,.lst xs) else none:=rfl
theorem qBk (f as):evE call σ (.call f as)=match evG call σ as with|some xs=>call f xs|none=>(qBO call σ as).bind λxs=>(call f xs).bind nlR:=rfl
@[simp] theorem qAm:evG call σ []=some []:=rfl
@[simp] theorem qAH (a r):evG call σ (a::r)=(ag σ a (evE call σ a)).bind λx=>(evG call σ r).bind λxs=>some (x::xs):=rfl
@[simp] theorem qF0 (b as):evE call σ (.bi b as)=(qBO call σ as).bind λxs=>biD b xs:=rfl
@[simp] theorem qIb (a t):evE call σ (.isi a t)=(pk σ a (evE call σ a)).bind λx=>some (false,.bl (tyD t x)):=rfl
@[simp] theorem qFi (c a b):evE call σ (.ifx c a b)=(evE call σ c).bind (ifK (evE call σ a) (evE call σ b)):=rfl
@[simp] theorem qC4 (e nl ks tg src):evE call σ (.compS e nl ks tg src)=(evE call σ src).bind λx=>(qB7 x.2).bind λits=>(qAz call e (qBm σ nl ks) tg its).bind λys=>some (true,.lst ys):=rfl
@[simp] theorem qC5 (e nl ks tg rs):evE call σ (.compR e nl ks tg rs)=(qBO call σ rs).bind λx=>(qEX x).bind λits=>if its.length<=lim then (qAz call e (qBm σ nl ks) tg its).bind λys=>some (true,.lst ys) else none:=rfl
@[simp] theorem qC3 (e nl ks tg a b):evE call σ (.compZ e nl ks tg a b)=(evE call σ a).bind λx=>(evE call σ b).bind λy=>(qB7 x.2).bind λxs=>(qGT y.2).bind λys =>
   (qAz call e (qBm σ nl ks) tg (qCn xs ys)).bind λzs=>some (true,.lst zs):=rfl
@[simp] theorem qC6 (e nl ks tg a):evE call σ (.compE e nl ks tg a)=(evE call σ a).bind λx=>(qB7 x.2).bind λxs=>(qAz call e (qBm σ nl ks) tg (qBP 0 xs)).bind λzs=>some (true,.lst zs):=rfl
theorem qFZ (e nl ks rs):evE call σ (.srtR e nl ks rs)=(qBO call σ rs).bind λx=>(qEX x).bind λits=>(qAz call e (qBm σ nl ks) (.one 0) its).bind λys=>(qAK ys).bind λis=>if 2<=is.length/\is.length<64 then some (true,.lst ((qCA is).map λk=>its.getD k .non)) else none:=rfl
@[simp] theorem qAq:evA call σ []=some []:=rfl
@[simp] theorem qBb (a r):evA call σ (a::r)=(evE call σ a).bind λx=>(evA call σ r).bind λxs=>some (x.2::xs):=rfl
@[simp] theorem qAl:qBO call σ []=some []:=rfl
@[simp] theorem qA3 (a r):qBO call σ (a::r)=(pk σ a (evE call σ a)).bind λx=>(qBO call σ r).bind λxs=>some (x::xs):=rfl
@[simp] theorem qDZ:evO call σ none=some none:=rfl
@[simp] theorem qFW (c):evO call σ (some c)=(pk σ c (evE call σ c)).bind qMn:=rfl
@[simp] theorem qH4 (i keep e):evS call σ (.set i keep e)=(evE call σ e).bind λr=>some (.nx (σ.set i (some (qAM keep r)))):=rfl
@[simp] theorem qH7 (i e):evS call σ (.app i e)=(evE call σ e).bind λx=>qKo σ i x.2:=rfl
@[simp] theorem qDY (e):evS call σ (.ret e)=(qDj σ e (evE call σ e)).bind λr=>some (.rt r):=rfl
@[simp] theorem qH5 (c a b):evS call σ (.ite c a b)=(evE call σ c).bind (qQ6 (qAr call σ a) (qAr call σ b)):=rfl
@[simp] theorem qFU (tg src body):evS call σ (.forS tg src body)=(evE call σ src).bind λx=>(qB7 x.2).bind λits=>qA2 call body tg its σ:=rfl
@[simp] theorem qFV (tg rs body):evS call σ (.forR tg rs body)=(qBO call σ rs).bind λx=>(qEX x).bind λits=>qA2 call body tg its σ:=rfl
@[simp] theorem qH6 (i e):evS call σ (.ext i e)=(evE call σ e).bind (qPE σ i):=rfl
@[simp] theorem qH3 (c body):evS call σ (.whl c body)=qDi (fun σ'=>evE call σ' c) (fun σ'=>qAr call σ' body) big σ:=rfl
@[simp] theorem qFT (tg a b body):evS call σ (.forZ tg a b body)=(evE call σ a).bind λx=>(evE call σ b).bind λy=>(qB7 x.2).bind λxs=>(qGT y.2).bind λys=>qA2 call body tg (qCn xs ys) σ:=rfl
@[simp] theorem qAP (a r):qAr call σ (a::r)=(evS call σ a).bind (qLc fun σ'=>qAr call σ' r):=rfl
@[simp] theorem qEE (body tg):qA2 call body tg [] σ=some (.nx σ):=rfl
theorem qBa (body tg x r):qA2 call body tg (x::r) σ=(qBz σ tg x).bind fun σ1=>(qAr call σ1 body).bind λo=>qHD (qA2 call body tg r) o:=by
 show (qBz σ tg x).bind _=(qBz σ tg x).bind _
 congr
theorem qC7 (e tg x r):qAz call e σ tg (x::r)=(qBz σ tg x).bind fun σ1=>(evE call σ1 e).bind λy=>(qAz call e σ tg r).bind λys=>some (y.2::ys):=rfl
theorem qAs {α:Type}{e:C}{tg:Tg}(enc g:α->D):∀(l:List α),(∀x∈l,∃σ' b,qBz σ tg (enc x)=some σ'/\evE call σ' e=some (b,g x))->qAz call e σ tg (l.map enc)=some (l.map g)
 | [],_=>rfl
 | x::r,h=>by
  obtain⟨σ',b,h1,h2⟩:=h x List.mem_cons_self
  simp [qC7,h1,h2,qAs enc g r λy hy=>h y (List.mem_cons_of_mem _ hy)]
end
theorem qAQ {α:Type}(f:α->Int):∀l:List α,qAK (l.map λx=>.int (f x))=some (l.map f)
 | []=>rfl
 | x::r=>by simp [qAQ f r]
theorem qIf (xs:List D):∀(n i:Nat),(qBP n xs)[i]?=xs[i]?.map λx=>.tup [.int ((n+i:Nat):Int),x]:=by
 induction xs with
 | nil=>intro n i;rfl
 | cons x r ih =>
  intro n i
  cases i with
  | zero=>rfl
  | succ i=>show (qBP (n+1) r)[i]?=_;rw [ih,List.getElem?_cons_succ,show n+1+i=n+(i+1) by omega]
theorem qBU (xs:List D):∀n,(qBP n xs).length=xs.length:=by
 induction xs with
 | nil=>intro n;rfl
 | cons x r ih=>intro n;show (qBP (n+1) r).length+1=_;rw [ih];rfl
theorem qDq {α:Type}(f:α->List Int):∀l:List α,qEd (l.map λx=>.tup ((f x).map .int))=some (l.map f)
 | []=>rfl
 | x::r=>by simp only [List.map_cons,qEd,qDq f r,qAQ (λi=>i) (f x)];simp
structure Fd where
 np:Nat
 ns:Nat
 body:List S
@[simp] noncomputable def qRW:Ou->Option R
 | .nx _=>some (false,.non)
 | .rt r=>some r
 | _=>none
@[simp] noncomputable def agE:Bool->List D->En
 | _,[]=>[]
 | true,.dct _ _::r=>none::agE true r
 | false,.dct m ks::r=>some (true,.dct m ks)::agE true r
 | true,.obj _ _::r=>none::agE true r
 | false,.obj ns ds::r=>some (true,.obj ns ds)::agE true r
 | b,d::r=>some (false,d)::agE b r
noncomputable def qGJ (call:Nat->List D->Option R) (fd:Fd) (as:List D):Option R:=
 if as.length=fd.np then (qAr call (agE false as++List.replicate (fd.ns - fd.np) none) fd.body).bind qRW else none
noncomputable def isX:R->Bool
 | (false,.exc _)=>true
 | _=>false
@[simp] noncomputable def noX (r:R):Option R:=if isX r then none else some r
noncomputable def qP3 (call:Nat->List D->Option R) (fd:Fd) (as:List D):Option R:=(qGJ call fd as).bind noX
noncomputable def qAi (tab:List Fd):Nat->Nat->List D->Option R
 | 0,_,_=>none
 | n+1,f,as=>match tab[f]? with|some fd=>qP3 (qAi tab n) fd as|none=>match tab[f - XO]? with|some fd=>qGJ (qAi tab n) fd as|none=>none
theorem qCH {tab:List Fd}{f:Nat}{fd:Fd}(h:tab[f]?=some fd) (n:Nat) (as:List D):qAi tab (n+1) f as=qP3 (qAi tab n) fd as:=by
 rw [qAi,h]
theorem qGe {tab:List Fd}{f:Nat}{fd:Fd}(h:tab[f]?=some fd) (hl:tab.length<=XO) (n:Nat) (as:List D):qAi tab (n+1) (f+XO) as=qGJ (qAi tab n) fd as:=by
 rw [qAi,List.getElem?_eq_none (by omega),Nat.add_sub_cancel,h]
end Dw
namespace Dw
open PySem
structure Uc where
 f:Str
 i:Nat
 np:Nat
 ks:List Str
 pl:List Ar
structure Gx where
 defs:List (Str×Nat)
 cons:List (Str×Int):=[]
 ucal:List Uc:=[]
 meth:List (Str×Str×Nat):=[]
 flds:List (Str×Nat):=[]
 rse:List Str:=[]
 xdf:List (Str×Nat):=[]
noncomputable def qPr (x:Str) (n:Nat):Option BI:=
 if x=Str.ofString "sorted" then (if n=1 then some .sorted else none) else none
noncomputable def qQR (x:Str) (n:Nat):Option BI:=
 if x=Str.ofString "len" then (if n=1 then some .len else none) else
 if x=Str.ofString "min" then (if n=2∨n=1 then some .min else none) else
 if x=Str.ofString "max" then (if n=2∨n=3∨n=1 then some .max else none) else
 if x=Str.ofString "sum" then (if n=1 then some .sum else none) else
 if x=Str.ofString "tuple" then (if n=1 then some .tuple else none) else
 if x=Str.ofString "list" then (if n=1 then some .list else none) else
 if x=Str.ofString "int" then (if n=1 then some .int else none) else qPr x n
noncomputable def qPx (x:Str):Option Ty:=
 if x=Str.ofString "int" then some .int else
 if x=Str.ofString "bool" then some .bool else
 if x=Str.ofString "tuple" then some .tuple else
 if x=Str.ofString "list" then some .list else
 if x=Str.ofString "str" then some .str else none
noncomputable def qPj:Operator->Option BOp
 | .Add=>some .add|.Sub=>some .sub|.Mult=>some .mul|.FloorDiv=>some .fdiv|.Mod=>some .mod|.Pow=>some .pow|.BitAnd=>some .band|.BitOr=>some .bor|_=>none
noncomputable def qO2:CmpOp->Option COp
 | .Eq=>some .eq|.NotEq=>some .ne|.Lt=>some .lt|.LtE=>some .le|.Gt=>some .gt|.GtE=>some .ge|_=>none
noncomputable def kOf:Const->Option D
 | .int i=>some (.int i)|.bool b=>some (.bl b)|.none=>some .non|.str x=>some (.str x)|_=>none
noncomputable def qAN (N:List Str) (x:Str):Option Nat:=N.findIdx? (· == x)
noncomputable def qKw (sc:Scope) (x:Str):Bool:=sc.names.lookup x == some .local||sc.names.lookup x == some .cell||sc.names.lookup x == some .free
noncomputable def glB (sc:Scope) (x:Str):Bool:=sc.names.lookup x == some .globalImplicit
noncomputable def qAO (x:Str):Bool:=x != Str.ofString "__debug__"&&x != Str.ofString "__classdict__"&&x != Str.ofString "__name__"
noncomputable def qBA (sc:Scope) (N:List Str) (x:Str):Option Nat:=if qKw sc x&&qAO x then qAN N x else none
noncomputable def qKS (sc:Scope) (x:Str):Bool:=sc.names.lookup x == some .cell||sc.names.lookup x == some .free
noncomputable def qCk (sc:Scope) (N:List Str) (x:Str):Option Nat:=if qKS sc x then qBA sc N x else none
noncomputable def qA1 (sc:Scope):List Str:=(sc.names.filter λp=>p.2 == .local&&p.1 != Str.ofString ".0").map (·.1)
noncomputable def qAD (sc:Scope):List Str:=(sc.names.filter λp=>p.2 == .free).map (·.1)
noncomputable def qCQ (sc:Scope):Bool:=sc.kind == .function&&sc.names.all (λp=>p.2 != .cell)&&decide ((sc.names.map (·.1)).Nodup)&&(qA1 sc++qAD sc).all qAO
noncomputable def qAU {α β:Type}(f:α->Option β):List α->Option (List β)
 | []=>some []
 | a::r=>(f a).bind λx=>(qAU f r).bind λxs=>some (x::xs)
noncomputable def qIX (sc:Scope) (N:List Str):Expr->Option Nat
 | .Name x _=>if sc.names.lookup x == some .local||sc.names.lookup x == some .cell then qAN N x else none
 | _=>none
noncomputable def qEe (sc:Scope) (N:List Str):Expr->Option Tg
 | .Name x _=>if sc.names.lookup x == some .local||sc.names.lookup x == some .cell then (qAN N x).map .one else none
 | .Tuple [.Name x _,.Name y _] _ _=>if (sc.names.lookup x == some .local||sc.names.lookup x == some .cell)&&(sc.names.lookup y == some .local||sc.names.lookup y == some .cell)&&x != y then
   (qAN N x).bind λi=>(qAN N y).bind λj=>some (.two i j) else none
 | _=>none
noncomputable def tgM (sc:Scope) (N:List Str) (e:Expr):Option Tg:=match qEe sc N e with
 | some t=>some t
 | none=>match e with
  | .Tuple es _ _=>(qAU (qIX sc N) es).map .many
  | _=>none
inductive Sr where|seq (e:Expr)|rng (es:List Expr)|zip (a b:Expr)|rev (es:List Expr)|enm (a:Expr)
noncomputable def qLs (sc:Scope):Expr->Sr
 | .Call (.Name f p) as [] pos =>
  if glB sc f&&f == Str.ofString "range"&&(as.length == 1||as.length == 2) then .rng as else
  if glB sc f&&f == Str.ofString "zip" then (match as with|[a,b]=>.zip a b|_=>.seq (.Call (.Name f p) as [] pos)) else
  if glB sc f&&f == Str.ofString "reversed" then (match as with
   | [.Call (.Name h _) [a] [] _]=>if glB sc h&&h == Str.ofString "range" then .rev [a] else .seq (.Call (.Name f p) as [] pos)
   | _=>.seq (.Call (.Name f p) as [] pos)) else
  if glB sc f&&f == Str.ofString "enumerate" then (match as with|[a]=>.enm a|_=>.seq (.Call (.Name f p) as [] pos)) else .seq (.Call (.Name f p) as [] pos)
 | e=>.seq e
noncomputable def qHN:Tg->Bool
 | .two _ _=>true
 | _=>false
variable (G:Gx)
noncomputable def cGl (sc:Scope) (x:Str):Option C:=if glB sc x&&qAO x then (G.cons.lookup x).map λi=>.k (.int i) else none
mutual
noncomputable def cE:Nat->Scope->List Str->Expr->Option C
 | 0,_,_,_=>none
 | n+1,sc,N,e=>match e with
  | .Name x _=>match qBA sc N x with|some i=>some (.v i)|none=>cGl G sc x
  | .Constant c _ _=>(kOf c).map .k
  | .BinOp a op b _=>(qPj op).bind λo=>(cE n sc N a).bind λx=>(cE n sc N b).bind λy=>some (.bin o x y)
  | .UnaryOp .USub a _=>(cE n sc N a).map .neg
  | .UnaryOp .Not a _=>(cE n sc N a).map .not
  | .BoolOp .And es _=>if 2<=es.length then qNf n sc N es else none
  | .BoolOp .Or es _=>if 2<=es.length then cOr n sc N es else none
  | .Compare a [.Is] [.Constant c _ _] _=>(kOf c).bind λd=>(cE n sc N a).bind λx=>some (.isC false x d)
  | .Compare a [.IsNot] [.Constant c _ _] _=>(kOf c).bind λd=>(cE n sc N a).bind λx=>some (.isC true x d)
  | .Compare a [op] [b] _=>(qO2 op).bind λo=>(cE n sc N a).bind λx=>(cE n sc N b).bind λy=>some (.cmp o x y)
  | .Subscript a (.Slice lo hi none _) _=>(cE n sc N a).bind λx=>(cO n sc N lo).bind λl=>(cO n sc N hi).bind λh=>some (.sl x l h)
  | .Subscript a b _=>(cE n sc N a).bind λx=>(cE n sc N b).bind λy=>some (.ix x y)
  | .Tuple es _ _=>(cEs n sc N es).map .tup
  | .List es _=>(cEs n sc N es).map .lst
  | .Call (.Name f _) as [] _=>if glB sc f&&qAO f then qM4 n sc N f as else none
  | .IfExp t a b _=>(cE n sc N t).bind λc=>(cE n sc N a).bind λx=>(cE n sc N b).bind λy=>some (.ifx c x y)
  | .ListComp e [⟨tg,it,[],0⟩] sc' _ =>
   if qCQ sc' then
    (qEe sc' (qA1 sc'++qAD sc') tg).bind λt=>(qAU (qCk sc N) (qAD sc')).bind λks=>(cE n sc' (qA1 sc'++qAD sc') e).bind λc =>
     match qLs sc it with
     | .seq s=>(cE n sc N s).bind λx=>some (.compS c (qA1 sc').length ks t x)
     | .rng rs=>(cEs n sc N rs).bind λxs=>some (.compR c (qA1 sc').length ks t xs)
     | .zip a b=>if qHN t then (cE n sc N a).bind λx=>(cE n sc N b).bind λy=>some (.compZ c (qA1 sc').length ks t x y) else none
     | .rev _=>none
     | .enm a=>if qHN t then (cE n sc N a).bind λx=>some (.compE c (qA1 sc').length ks t x) else none
   else none
  | e=>cX n sc N e
noncomputable def cX:Nat->Scope->List Str->Expr->Option C
 | 0,_,_,_=>none
 | _+1,_,_,_=>none
noncomputable def qM4:Nat->Scope->List Str->Str->List Expr->Option C
 | 0,_,_,_,_=>none
 | n+1,sc,N,f,as=>match G.defs.lookup f with
  | some i=>if as.isEmpty then none else (cEs n sc N as).map (.call i)
  | none=>match f == Str.ofString "isinstance",as with
   | true,[a,.Name t _]=>if glB sc t&&(G.defs.lookup t).isNone then (qPx t).bind λty=>(cE n sc N a).bind λx=>some (.isi x ty) else none
   | false,as=>(qQR f as.length).bind λb=>(cEs n sc N as).map (.bi b)
   | _,_=>none
noncomputable def cEs:Nat->Scope->List Str->List Expr->Option (List C)
 | 0,_,_,_=>none
 | n+1,sc,N,es=>match es with
  | []=>some []
  | a::r=>(cE n sc N a).bind λx=>(cEs n sc N r).bind λxs=>some (x::xs)
noncomputable def cO:Nat->Scope->List Str->Option Expr->Option (Option C)
 | 0,_,_,_=>none
 | n+1,sc,N,o=>match o with
  | none=>some none
  | some e=>(cE n sc N e).map some
noncomputable def cJ:Nat->Scope->List Str->List Expr->Option (List C)
 | 0,_,_,_=>none
 | n+1,sc,N,es=>match es with
  | []=>some []
  | .Constant (.str x) _ _::r=>(cJ n sc N r).map λxs=>.k (.str x)::xs
  | .FormattedValue e (-1) none _::r=>(cE n sc N e).bind λx=>(cJ n sc N r).bind λxs=>some (.bi .str [x]::xs)
  | _=>none
noncomputable def qNf:Nat->Scope->List Str->List Expr->Option C
 | 0,_,_,_=>none
 | n+1,sc,N,es=>match es with
  | [a]=>cE n sc N a
  | a::b::r=>(cE n sc N a).bind λx=>(qNf n sc N (b::r)).bind λy=>some (.and x y)
  | []=>none
noncomputable def cOr:Nat->Scope->List Str->List Expr->Option C
 | 0,_,_,_=>none
 | n+1,sc,N,es=>match es with
  | [a]=>cE n sc N a
  | a::b::r=>(cE n sc N a).bind λx=>(cOr n sc N (b::r)).bind λy=>some (.or x y)
  | []=>none
end
noncomputable def qIY:Nat->List Str->List Stmt->List Nat
 | 0,_,_=>[]
 | _+1,_,[]=>[]
 | n+1,N,st::r=>(match st with
  | .Assign [.Subscript (.Name x _) _ _] _ _=>(qAN N x).toList
  | .Expr (.Call (.Attribute (.Name x _) m _) _ _ _) _=>if m == Str.ofString "append"||m == Str.ofString "extend"||m == Str.ofString "pop" then (qAN N x).toList else []
  | .Assign _ (.Call (.Attribute (.Name x _) m _) _ _ _) _=>if m == Str.ofString "pop" then (qAN N x).toList else []
  | .If _ a b _=>qIY n N a++qIY n N b
  | .For _ _ b _ _=>qIY n N b
  | .While _ b _ _=>qIY n N b
  | _=>[])++qIY n N r
noncomputable def alK (c:C) (r:List Nat):List Nat:=match c with
 | .v _=>[]
 | _=>r
mutual
noncomputable def alC:C->List Nat
 | .v i=>[i]
 | .k _=>[]
 | .bin _ a b=>alK a (alC a)++alK b (alC b)
 | .neg a=>alK a (alC a)
 | .cmp _ a b=>alK a (alC a)++alK b (alC b)
 | .isC _ a _=>alK a (alC a)
 | .inV _ a _=>alK a (alC a)
 | .and a b=>alC a++alC b
 | .or a b=>alC a++alC b
 | .not a=>alC a
 | .ix a b=>alK a (alC a)++alK b (alC b)
 | .sl a _ _=>alK a (alC a)
 | .tup as=>qKZ as
 | .lst as=>qKZ as
 | .call _ as=>qNg as
 | .bi _ as=>qNg as
 | .isi a _=>alK a (alC a)
 | .bitl a=>alK a (alC a)
 | .ifx c a b=>alC c++alC a++alC b
 | .rev a=>alK a (alC a)
 | .join a b=>alK a (alC a)++alK b (alC b)
 | .fstr as=>qKZ as
 | .callP _ as ks _=>qKZ as++qKZ ks
 | .chn _ _ a b c=>alK a (alC a)++alK b (alC b)++alK c (alC c)
 | .compS e nl ks _ s=>alC s++(alC e).filterMap λj=>if nl<=j then ks[j - nl]? else none
 | .compR e nl ks _ rs=>qNg rs++(alC e).filterMap λj=>if nl<=j then ks[j - nl]? else none
 | .compZ e nl ks _ a b=>alC a++alC b++(alC e).filterMap λj=>if nl<=j then ks[j - nl]? else none
 | .compE e nl ks _ a=>alC a++(alC e).filterMap λj=>if nl<=j then ks[j - nl]? else none
 | .compF e c nl ks _ a=>alC a++(alC e++alC c).filterMap λj=>if nl<=j then ks[j - nl]? else none
 | .srtR e nl ks rs=>qNg rs++(alC e).filterMap λj=>if nl<=j then ks[j - nl]? else none
 | .fld _ _ _=>[]
 | .mm _ _ as bs=>qKZ as++qKZ bs
termination_by structural c=>c
noncomputable def qKZ:List C->List Nat
 | []=>[]
 | a::r=>alC a++qKZ r
termination_by structural c=>c
noncomputable def qNg:List C->List Nat
 | []=>[]
 | a::r=>alK a (alC a)++qNg r
termination_by structural c=>c
end
noncomputable def qCI (mt:List Nat) (is:List Nat) (s:S):List S:=match is.filter (mt.contains ·) with
 | []=>[s]
 | js=>[.frz js,s]
mutual
noncomputable def cS:Nat->Scope->List Str->List Nat->Stmt->Option (List S)
 | 0,_,_,_,_=>none
 | n+1,sc,N,mt,st=>match st with
  | .Assign [.Name x _] e _=>if sc.names.lookup x == some .local||sc.names.lookup x == some .cell then (qAN N x).bind λi=>(cE G n sc N e).bind λc=>some (qCI mt (alC c) (.set i (mt.contains i) c)) else none
  | .Expr (.Call (.Attribute (.Name x _) m p2) [e] [] p3) _=>if m == Str.ofString "append"&&p2.endLine == p3.line then (qBA sc N x).bind λi=>(cE G n sc N e).bind λc=>some (qCI mt (alC c) (.app i c)) else
   if m == Str.ofString "extend"&&p2.endLine == p3.line then (qBA sc N x).bind λi=>(cE G n sc N e).bind λc=>some (qCI mt (alC c) (.ext i c)) else none
  | .While t body [] _=>(cE G n sc N t).bind λc=>(cSs n sc N mt body).bind λb=>some (qCI mt (alC c) (.whl c b))
  | .Return (some e) _=>(cE G n sc N e).bind λc=>some (qCI mt (alK c (alC c)) (.ret c))
  | .If t a b _=>(cE G n sc N t).bind λc=>(cSs n sc N mt a).bind λx=>(cSs n sc N mt b).bind λy=>some (qCI mt (alC c) (.ite c x y))
  | .For tg it body [] _=>(tgM sc N tg).bind λt=>(cSs n sc N mt body).bind λb=>match qLs sc it with
   | .seq s=>(cE G n sc N s).bind λx=>some (qCI mt (alC x) (.forS t x b))
   | .rng rs=>(cEs G n sc N rs).bind λxs=>some (qCI mt (qNg xs) (.forR t xs b))
   | .zip a z=>if qHN t then (cE G n sc N a).bind λx=>(cE G n sc N z).bind λy=>some (qCI mt (alC x++alC y) (.forZ t x y b)) else none
   | .rev _=>none
   | .enm _=>none
  | _=>none
noncomputable def cSs:Nat->Scope->List Str->List Nat->List Stmt->Option (List S)
 | 0,_,_,_,_=>none
 | n+1,sc,N,mt,st=>match st with
  | []=>some []
  | a::r=>(cS n sc N mt a).bind λx=>(cSs n sc N mt r).bind λy=>some (x++y)
end
noncomputable def qAj (sc:Scope):List Str:=(sc.names.filter λp=>p.2 == .local||p.2 == .cell).map (·.1)
end Dw
namespace L2
open PySem PySem.Spec PyProof.Rows
noncomputable abbrev Key:=Sum Int Str
noncomputable def qOI:Key->Value->Bool
 | .inl k,v=>Value.isInt k v
 | .inr x,v=>Value.isStrOf x v
noncomputable def qRP (w:World):Key->Int
 | .inl k=>hashInt k
 | .inr x=>hashStr w x
theorem qAL:∀{k:Key}{v:Value},qOI k v=true->(∃i t,k=Sum.inl i/\v=Value.int i t)∨(∃x t,k=Sum.inr x/\v=Value.str x t)
 | .inl i,v,h=>by
  obtain⟨t,e⟩:=Value.isInt_shape (k:=i) (v:=v) h
  exact .inl ⟨i,t,rfl,e⟩
 | .inr x,v,h=>by
  obtain⟨t,e⟩:=Value.isStrOf_shape (x:=x) (v:=v) h
  exact .inr ⟨x,t,rfl,e⟩
theorem qOH (a b:Int):decide ((Sum.inl a:Key)=Sum.inl b)=(a == b):=by
 by_cases e:a=b
 ·subst e;simp
 ·have h:¬(Sum.inl a:Key)=Sum.inl b:=λq=>e (Sum.inl.inj q)
  rw [decide_eq_false h]
  exact (beq_eq_false_iff_ne.mpr e).symm
theorem qOE (a b:Str):decide ((Sum.inr a:Key)=Sum.inr b)=decide (a=b):=by
 by_cases e:a=b
 ·subst e;simp
 ·have h:¬(Sum.inr a:Key)=Sum.inr b:=λq=>e (Sum.inr.inj q)
  rw [decide_eq_false h,decide_eq_false e]
theorem qOG (a:Int) (b:Str):decide ((Sum.inl a:Key)=Sum.inr b)=false:=decide_eq_false (λq=>nomatch q)
theorem qOF (a:Str) (b:Int):decide ((Sum.inr a:Key)=Sum.inl b)=false:=decide_eq_false (λq=>nomatch q)
noncomputable def qHC (prog:Program) (w:World):PySem.KeyKind prog w Key where
 is:=qOI
 hash:=qRP w
 inj:=λv a b ha hb=>by
  rcases qAL ha with ⟨i,t,rfl,rfl⟩|⟨x,t,rfl,rfl⟩
  ·rcases qAL hb with ⟨j,u,rfl,e⟩|⟨y,u,rfl,e⟩
   ·injection e with e1 _;rw [e1]
   ·exact nomatch e
  ·rcases qAL hb with ⟨j,u,rfl,e⟩|⟨y,u,rfl,e⟩
   ·exact nomatch e
   ·injection e with e1 _;rw [e1]
 byValue:=λk v h=>by
  rcases qAL h with ⟨i,t,rfl,rfl⟩|⟨x,t,rfl,rfl⟩<;>rfl
 pyHash:=λhv h=>by
  rcases qAL hv with ⟨i,t,rfl,rfl⟩|⟨x,t,rfl,rfl⟩
  ·exact wpAny_pyHash_int h
  ·exact wpAny_pyHash_str h
 eqBool:=λhu hv h=>by
  rcases qAL hu with ⟨i,t,rfl,rfl⟩|⟨x,t,rfl,rfl⟩
  ·rcases qAL hv with ⟨j,u,rfl,rfl⟩|⟨y,u,rfl,rfl⟩
   ·rw [qOH] at h;exact wpAny_eqBool_int h
   ·rw [qOG] at h;exact SeqAt.EqAt.int_str i t y u _ _ _ _ h
  ·rcases qAL hv with ⟨j,u,rfl,rfl⟩|⟨y,u,rfl,rfl⟩
   ·rw [qOF] at h;exact SeqAt.EqAt.str_int x t j u _ _ _ _ h
   ·rw [qOE] at h;exact wpAny_eqBool_str h
 «strs»:=λk x t v h=>by
  rcases qAL h with ⟨i,u,rfl,e⟩|⟨y,u,rfl,e⟩
  ·exact nomatch e
  ·injection e with e1 _
   subst e1
   cases v<;>rfl
end L2
namespace L2
open PySem PySem.Spec PyProof.Rows
inductive V where
 | non|bl (b:Bool)|int (i:Int)|str (x:Str)|byt (b:Array UInt8)|flt (b:UInt64)|ref (a:Addr)|ty (n:String)
 deriving DecidableEq
noncomputable def RelV:V->Value->Prop
 | .non,u=>u=Value.none
 | .bl b,u=>u=Value.bool b
 | .int i,u=>∃t,u=Value.int i t
 | .str x,u=>∃t,u=Value.str x t
 | .byt b,u=>∃t,u=Value.bytes b t
 | .flt b,u=>∃t,u=Value.float b t
 | .ref a,u=>u=Value.ref a
 | .ty n,u=>u=Value.type n
noncomputable abbrev Vals:List V->List Value->Prop:=Paired RelV
theorem Vals.length {xs:List V}{us:List Value}(r:Vals xs us):xs.length=us.length:=Paired.length r
theorem Vals.get:∀{xs:List V}{us:List Value}{i:Nat}{x:V},Vals xs us->xs[i]?=some x->∃u,us[i]?=some u/\RelV x u
 | _,_,_,_,.nil,e=>by simp at e
 | _,_,0,_,.cons r _,e=>by simp at e;subst e;exact⟨_,rfl,r⟩
 | _,_,i+1,x,.cons _ t,e=>by
  obtain⟨u,h1,h2⟩:=Vals.get (i:=i) (x:=x) t (by simpa using e)
  exact⟨u,by simpa using h1,h2⟩
theorem Vals.append:∀{xs ys:List V}{us ws:List Value},Vals xs us->Vals ys ws->Vals (xs++ys) (us++ws)
 | _,_,_,_,.nil,s=>s
 | _,_,_,_,.cons r t,s=>.cons r (Vals.append t s)
theorem Vals.take:∀{xs:List V}{us:List Value}(n:Nat),Vals xs us->Vals (xs.take n) (us.take n)
 | _,_,0,_=>.nil
 | _,_,_+1,.nil=>.nil
 | _,_,n+1,.cons r t=>.cons r (Vals.take n t)
theorem Vals.drop:∀{xs:List V}{us:List Value}(n:Nat),Vals xs us->Vals (xs.drop n) (us.drop n)
 | _,_,0,r=>r
 | _,_,_+1,.nil=>.nil
 | _,_,n+1,.cons _ t=>Vals.drop n t
noncomputable def qPI:Option V->Option Value->Prop
 | some v,some u=>RelV v u
 | none,none=>True
 | _,_=>False
noncomputable def KV {κ:Type}:List (κ×V)->List (κ×Value)->Prop:=Paired λ(p:κ×V) (q:κ×Value)=>p.1=q.1/\RelV p.2 q.2
noncomputable def kV:Key->V
 | .inl i=>.int i
 | .inr x=>.str x
inductive HO where
  | lst (xs:List V)
  | tup (xs:List V)
  | dK (kvs:List (Key×V))|dT (kvs:List (List Key×V))
  | set (S:Int->Bool) (n:Nat)
  | ins (C dx:Addr) (fs:List (Str×V))
  | own (x:Addr)
  | xd (fs:List (Str×V))
  | met (f x:Addr)
  | rng (lo hi:Int)
  | frz (o:Obj) (u:HO)
  | tbl (ps:Array Value)
 | tab (pos:Pos) (q:Str)
  | ext (φ:Heap->Prop)
noncomputable abbrev Hp:=Addr->Option HO
noncomputable def upd (H:Hp) (a:Addr) (o:HO):Hp:=λb=>if b=a then some o else H b
theorem qAw {H:Hp}{a:Addr}{o:HO}:upd H a o a=some o:=by unfold upd;rw [if_pos rfl]
theorem qAc {H:Hp}{a b:Addr}{o:HO}(h:b≠a):upd H a o b=H b:=by unfold upd;rw [if_neg h]
theorem qK8 {H:Hp}{a:Addr}{o u:HO}:upd (upd H a o) a u=upd H a u:=by
 funext b;unfold upd;split<;>rfl
theorem qAd {H:Hp}{a b:Addr}{o:HO}(h:H a=some o) (h':H b=none):a≠b:=by
 intro e;subst e;rw [h] at h';cases h'
section
variable (P:Program) (w:World)
noncomputable def ObjOk (H:Hp) (h:Heap) (a:Addr):HO->Prop
 | .lst xs=>xs.length<=sizeLine/\∃(its:List Value) (n:Nat),Vals xs its/\h.get? a=some { cls:=.type "list",data:=.seq its.toArray n }
 | .tup xs=>xs.length<=sizeLine/\∃its:List Value,Vals xs its/\IsTup h a its.toArray
 | .dK kvs=>kvs.length<=sizeLine/\(a == sysModules)=false/\∃vs,KV kvs vs/\h.DictOf (qHC P w) a vs
 | .dT kvs=>kvs.length<=sizeLine/\(a == sysModules)=false/\∃xs:List (List Key×Addr×Value),
   Paired (λ(p:List Key×V) (q:List Key×Addr×Value)=>p.1=q.1/\H q.2.1=some (.tup (p.1.map kV))/\RelV p.2 q.2.2) kvs xs /\
   ∃o es ep,h.get? a=some o/\o.ExactDict/\o.data=.dict es ep/\es.toList=xs.map (entryOfKey (tupleKind (qHC P w)))/\(xs.map (·.1)).Nodup
 | .set S n=>h.SetOf (intKind P w) a S n
 | .ins C dx fs=>H dx=some (.own a)/\fs.length<=1000/\dx≠a/\h.get? a=some (PySem.W.instObj C dx) /\
   ∃mA,h.Ns1 dx mA/\(∀f,qPI (fs.lookup f) (mA f))/\PySem.Within mA (fs.map (·.1))
 | .own _=>∃o,h.get? a=some o
 | .xd fs=>∃mA,h.Ns1 a mA/\∀f,qPI (fs.lookup f) (mA f)
 | .rng lo hi=>∃t u v,h.get? a=some { cls:=.type "range",data:=.fields #[.int lo t,.int hi u,.int 1 v] }
 | .frz o u=>h.get? a=some o/\ObjOk H h a u
 | .tbl ps=>h.get? a=some { cls:=.none,data:=.fields ps }
 | .met f x=>h.get? a=some (PySem.W.methodObj (.ref f) (.ref x))
 | .tab pos q=>∃ps:Array Value,h.get? a=some { cls:=.none,data:=.fields ps }/\PySem.TriplesOk ps.toList/\(PySem.codeAmong pos ps.toList=none ∨
   ∃(c:Addr) (oc:Obj) (u:HO) (vs:Array Value) (t:Tok),PySem.codeAmong pos ps.toList=some (.ref c)/\H c=some (.frz oc u)/\oc.data=.fields vs/\vs[1]?=some (.str q t))
 | .ext φ=>φ h/\(∃o,h.get? a=some o)/\∀h1 h2:Heap,φ h1->(∀o,h1.get? a=some o->h2.get? a=some o)->φ h2
noncomputable def HOk (H:Hp) (h:Heap):Prop:=∀a o,H a=some o->ObjOk P w H h a o
end
section
variable {P:Program}{w:World}{H H':Hp}{h h':Heap}{a:Addr}{o:HO}
theorem ObjOk.lt (x:ObjOk P w H h a o):a<h.objs.size:=by
 cases o with
 | lst xs=>obtain⟨_,_,_,_,e⟩:=x;exact Heap.lt_size e
 | tup xs=>obtain⟨_,_,_,p⟩:=x;exact p.lt
 | dK kvs=>obtain⟨_,_,_,_,o,_,_,e,_⟩:=x;exact Heap.lt_size e
 | dT kvs=>obtain⟨_,_,_,_,o,_,_,e,_⟩:=x;exact Heap.lt_size e
 | set S n=>obtain⟨o,_,_,_,e,_⟩:=x;exact Heap.lt_size e
 | ins C dx fs=>obtain⟨_,_,_,e,_⟩:=x;exact Heap.lt_size e
 | own y=>obtain⟨_,e⟩:=x;exact Heap.lt_size e
 | xd fs=>obtain⟨_,⟨_,_,_,e,_⟩,_⟩:=x;exact Heap.lt_size e
 | rng lo hi=>obtain⟨_,_,_,e⟩:=x;exact Heap.lt_size e
 | frz ob u=>obtain⟨e,_⟩:=x;exact Heap.lt_size e
 | tbl ps=>exact Heap.lt_size (show h.get? a=some _ from x)
 | met f y=>exact Heap.lt_size (show h.get? a=some _ from x)
 | tab pos q=>obtain⟨_,e,_⟩:=x;exact Heap.lt_size e
 | ext φ=>obtain⟨_,⟨_,e⟩,_⟩:=x;exact Heap.lt_size e
theorem Paired.mapP {α β:Type}{F G:α->β->Prop}:∀{l₁:List α}{l₂:List β},Paired F l₁ l₂->(∀a b,F a b->G a b)->Paired G l₁ l₂
 | _,_,.nil,_=>.nil
 | _,_,.cons r t,f=>.cons (f _ _ r) (Paired.mapP t f)
theorem ObjOk.stay (x:ObjOk P w H h a o) (k:∀b u,(b=a∨H b=some (.own a))->h.get? b=some u->h'.get? b=some u)
  (ho:∀b,H b=some (.own a)->H' b=some (.own a)) (ht:∀b xs,H b=some (.tup xs)->H' b=some (.tup xs)) (hf:∀b ob u,H b=some (.frz ob u)->H' b=some (.frz ob u)):ObjOk P w H' h' a o:=by
 induction o with
 | lst xs=>obtain⟨z,its,n,r,e⟩:=x;exact⟨z,its,n,r,k _ _ (.inl rfl) e⟩
 | tup xs=>obtain⟨z,its,r,ob,e,c⟩:=x;exact⟨z,its,r,ob,k _ _ (.inl rfl) e,c⟩
 | dK kvs=>obtain⟨z,y,vs,r,ob,es,ep,e,c⟩:=x;exact⟨z,y,vs,r,ob,es,ep,k _ _ (.inl rfl) e,c⟩
 | dT kvs =>
  obtain⟨z,y,xs,r,ob,es,ep,e,c⟩:=x
  exact⟨z,y,xs,Paired.mapP r λp q z=>⟨z.1,ht _ _ z.2.1,z.2.2⟩,ob,es,ep,k _ _ (.inl rfl) e,c⟩
 | set S n=>obtain⟨ob,es,ep,t,e,c⟩:=x;exact⟨ob,es,ep,t,k _ _ (.inl rfl) e,c⟩
 | ins C dx fs =>
  obtain⟨d,z,ne,e,mA,⟨od,es,ep,e2,c⟩,r⟩:=x
  exact⟨ho _ d,z,ne,k _ _ (.inl rfl) e,mA,⟨od,es,ep,k _ _ (.inr d) e2,c⟩,r⟩
 | own y=>obtain⟨ob,e⟩:=x;exact⟨ob,k _ _ (.inl rfl) e⟩
 | xd fs=>obtain⟨mA,⟨od,es,ep,e,c⟩,r⟩:=x;exact⟨mA,⟨od,es,ep,k _ _ (.inl rfl) e,c⟩,r⟩
 | rng lo hi=>obtain⟨t,u,v,e⟩:=x;exact⟨t,u,v,k _ _ (.inl rfl) e⟩
 | frz ob u ih=>obtain⟨e,q⟩:=x;exact⟨k _ _ (.inl rfl) e,ih q⟩
 | tbl ps =>
  have e:h.get? a=some { cls:=.none,data:=.fields ps }:=x
  show h'.get? a=some { cls:=.none,data:=.fields ps }
  exact k a _ (.inl rfl) e
 | met f y =>
  have e:h.get? a=some (PySem.W.methodObj (.ref f) (.ref y)):=x
  show h'.get? a=some (PySem.W.methodObj (.ref f) (.ref y))
  exact k a _ (.inl rfl) e
 | tab pos q =>
  obtain⟨ps,e,ok,r⟩:=x
  refine⟨ps,k _ _ (.inl rfl) e,ok,r.imp id ?_⟩
  rintro⟨c,oc,u,vs,t,e1,e2,e4,e5⟩
  exact⟨c,oc,u,vs,t,e1,hf _ _ _ e2,e4,e5⟩
 | ext φ=>obtain⟨p,⟨o,e⟩,st⟩:=x;exact⟨st _ _ p λo q=>k _ _ (.inl rfl) q,⟨o,k _ _ (.inl rfl) e⟩,st⟩
theorem HOk.lt (x:HOk P w H h) (e:H a=some o):a<h.objs.size:=(x a o e).lt
theorem HOk.fresh (x:HOk P w H h) (e:h.objs.size<=a):H a=none:=by
 cases q:H a with
 | none=>rfl
 | some u=>exact absurd (Nat.lt_of_lt_of_le (x.lt q) e) (Nat.lt_irrefl _)
theorem HOk.kept (x:HOk P w H h) (k:∀b u,h.get? b=some u->h'.get? b=some u):HOk P w H h':=λa o e =>
 (x a o e).stay (λb u _ q=>k b u q) (λ_ q=>q) (λ_ _ q=>q) λ_ _ _ q=>q
theorem HOk.laid (x:HOk P w H h) (k:∀b u,h.get? b=some u->h'.get? b=some u) (hp:h.objs.size<=a) (new:ObjOk P w (upd H a o) h' a o):HOk P w (upd H a o) h':=λb u e=>by
 have hn:=x.fresh hp
 by_cases hb:b=a
 ·subst hb;rw [qAw] at e;cases e;exact new
 ·rw [qAc hb] at e
  exact (x b u e).stay (λc v _ q=>k c v q) (λc q=>by rw [qAc (qAd q hn)];exact q) (λc xs q=>by rw [qAc (qAd q hn)];exact q) λc ob u q=>by rw [qAc (qAd q hn)];exact q
end
noncomputable def Rd (H:Hp) (a:Addr) (u:HO):Prop:=H a=some u∨∃o,H a=some (.frz o u)
theorem Rd.ok {P:Program}{w:World}{H:Hp}{h:Heap}{a:Addr}{u:HO}(r:Rd H a u) (x:HOk P w H h):ObjOk P w H h a u:=by
 rcases r with r|⟨o,r⟩
 ·exact x a u r
 ·obtain⟨_,q⟩:=x a _ r
  exact q
noncomputable def Mut:Option HO->Prop
 | some (.lst _)=>True
 | some (.dK _)=>True
 | some (.dT _)=>True
 | some (.set _ _)=>True
 | some (.ins _ _ _)=>True
 | some (.ext _)=>True
 | _=>False
section
variable {P:Program}{w:World}{H:Hp}{h h':Heap}{x e:Addr}{o':HO}
theorem HOk.write (ok:HOk P w H h) (mu:Mut (H x)) (he:e=x∨H e=some (.own x)) (k:∀b u,b≠e->h.get? b=some u->h'.get? b=some u) (heo:∃u,h'.get? e=some u)
  (new:ObjOk P w (upd H x o') h' x o'):HOk P w (upd H x o') h':=λb u q=>by
 have nown:∀c y,H c=some (.own y)->c≠x:=λc y r z=>by subst z;rw [r] at mu;exact mu
 have ntup:∀c xs,H c=some (.tup xs)->c≠x:=λc xs r z=>by subst z;rw [r] at mu;exact mu
 by_cases hb:b=x
 ·subst hb;rw [qAw] at q;cases q;exact new
 ·rw [qAc hb] at q
  by_cases hbe:b=e
  ·have q':H b=some (.own x):=by
    rcases he with z|z
    ·exact absurd (hbe.trans z) hb
    ·rw [hbe];exact z
   rw [q] at q';cases q'
   obtain⟨v,hv⟩:=heo
   exact⟨v,by rw [hbe];exact hv⟩
  ·refine (ok b u q).stay (λc v hc r=>k c v ?_ r) (λc r=>by rw [qAc (nown c b r)];exact r) (λc xs r=>by rw [qAc (ntup c xs r)];exact r) λc ob u r=>by rw [qAc (λz=>by subst z;rw [r] at mu;exact mu)];exact r
   rcases hc with rfl|hc
   ·exact hbe
   ·rintro rfl
    rcases he with z|z
    ·exact nown c b hc z
    ·rw [hc] at z;cases z;exact hb rfl
end
structure Un (fs ex:List Addr) (H H':Hp) (h h':Heap):Prop where
 keep:∀b o,h.get? b=some o->H b=none->b∉fs->b∉ex->h'.get? b=some o
 slot:∀b o,h.get? b=some o->H b=none->b∈fs->b∉ex->∃sl,h'.get? b=some { o with slots:=sl }
 free:∀b o,h.get? b=some o->H b=none->b∉ex->H' b=none
 there:∀b o,h.get? b=some o->b∉ex->∃o',h'.get? b=some o'
 tups:∀b xs,H b=some (.tup xs)->H' b=some (.tup xs)
 frzs:∀b o u,H b=some (.frz o u)->H' b=some (.frz o u)
 tbls:∀b ps,H b=some (.tbl ps)->∃more,H' b=some (.tbl (ps++more))
section
variable {fs fs' ex ex':List Addr}{H H1 H2:Hp}{h h1 h2 h':Heap}{a x e:Addr}{o:HO}
theorem Un.any (u:Un fs ex H H1 h h1) {b:Addr}{ob:Obj}(q:h.get? b=some ob) (n:H b=none) (hx:b∉ex):∃sl,h1.get? b=some { ob with slots:=sl }:=by
 by_cases hb:b∈fs
 ·exact u.slot b ob q n hb hx
 ·exact⟨ob.slots,u.keep b ob q n hb hx⟩
theorem Un.kept (k:∀b u,h.get? b=some u->h'.get? b=some u):Un fs ex H H h h':=
 ⟨λb ob q _ _ _=>k b ob q,λb ob q _ _ _=>⟨ob.slots,k b ob q⟩,λ_ _ _ n _=>n,λb ob q _=>⟨ob,k b ob q⟩,λ_ _ q=>q,λ_ _ _ q=>q,λ_ ps q=>⟨#[],by rw [q];simp⟩⟩
theorem Un.refl:Un fs ex H H h h:=Un.kept λ_ _ q=>q
theorem Un.laid (k:∀b u,h.get? b=some u->h'.get? b=some u) (hp:h.objs.size<=a) (hn:H a=none):Un fs ex H (upd H a o) h h' where
 keep:=λb u q _ _ _=>k b u q
 slot:=λb u q _ _ _=>⟨u.slots,k b u q⟩
 free:=λb u q n _=>by rw [qAc (Nat.ne_of_lt (Nat.lt_of_lt_of_le (Heap.lt_size q) hp))];exact n
 there:=λb u q _=>⟨u,k b u q⟩
 tups:=λb xs q=>by rw [qAc (qAd q hn)];exact q
 frzs:=λb u xs q=>by rw [qAc (qAd q hn)];exact q
 tbls:=λb ps q=>⟨#[],by rw [qAc (qAd q hn),q];simp⟩
theorem Un.write (mu:Mut (H x)) (he:e=x∨H e=some (.own x)) (k:∀b u,b≠e->h.get? b=some u->h'.get? b=some u) (heo:∃u,h'.get? e=some u):Un fs ex H (upd H x o) h h':=by
 have hx:∀b,H b=none->b≠x:=λb n z=>by subst z;rw [n] at mu;exact mu
 have hb:∀b,H b=none->b≠e:=λb n z=>by
  subst z
  rcases he with r|r
  ·exact hx b n r
  ·rw [n] at r;cases r
 have hm:∀b u,H b=some u->¬Mut (some u)->b≠x:=λb u q nm z=>by subst z;rw [q] at mu;exact nm mu
 refine⟨λb u q n _ _=>k b u (hb b n) q,λb u q n _ _=>⟨u.slots,k b u (hb b n) q⟩,λb u q n _=>by rw [qAc (hx b n)];exact n,λb u q _=>?_,
  λb xs q=>by rw [qAc (hm b _ q λz=>z)];exact q,λb u xs q=>by rw [qAc (hm b _ q λz=>z)];exact q,λb ps q=>⟨#[],by rw [qAc (hm b _ q λz=>z),q];simp⟩⟩
 by_cases hbe:b=e
 ·subst hbe;exact heo
 ·exact⟨u,k b u hbe q⟩
end
noncomputable def trk (h:Heap) (H:Hp):List Addr:=(List.range h.objs.size).filter λa=>(H a).isSome
noncomputable def qKL (h:Heap) (H:Hp):Heap:=PySem.W.hideAll h (trk h H)
theorem qHS (h:Heap) (H:Hp):(qKL h H).objs.size=h.objs.size:=PySem.W.hideAll_size _ _
theorem qFR {h:Heap}{H:Hp}{b:Addr}{o:Obj}(e:h.get? b=some o) (n:H b=none):(qKL h H).get? b=some o:=
 PySem.W.hideAll_get _ e λhm=>by
  have q:(H b).isSome=true:=(List.mem_filter.mp hm).2
  rw [n] at q;simp at q
theorem qMl {h:Heap}{H:Hp}{b:Addr}{o:Obj}(e:(qKL h H).get? b=some o):h.get? b=some o/\H b=none:=by
 have e':h.get? b=some o:=PySem.W.of_hideAll (trk h H) e
 refine⟨e',?_⟩
 cases q:H b with
 | none=>rfl
 | some x =>
  have hm:b∈trk h H:=List.mem_filter.mpr ⟨List.mem_range.mpr (Heap.lt_size e'),by simp [q]⟩
  have z:(qKL h H).get? b=none:=PySem.W.hideAll_none (trk h H) hm
  rw [z] at e;cases e
noncomputable def qNa (g h:Heap) (L:Addr):List (Addr×Obj):=(List.range h.objs.size).filterMap λa=>if a=L∨(g.get? a).isSome=true then none else (h.get? a).map λo=>(a,o)
noncomputable def qAV (g h:Heap) (L d:Addr):List (Addr×Obj):=(qNa g h L).filter λp=>decide (p.1≠d)
end L2
namespace L2
open PySem PySem.Spec PyProof.Rows
structure Mod (K:PySem.W.Frag) (mg:Str->Option Value) (base:Heap):Prop where
 kin:K.In base
 glob:base.Ns mainGlobals mg
 blt:∃mb,base.Ns builtinsNs mb/\∀x:Str,x≠"__name__"->mb x=bootBuiltins x
 nolimit:base.NoLimit
structure Cx where
 prog:Program
 w:World
 K:PySem.W.Frag
 mg:Str->Option Value
 base:Heap
 A:Around
 N:List Str
 s₀:Shared
 H₀:Hp
 env:Env
 outer:List Env
 stack:List Env
 ex:List Addr
 fn:Str->Bool
 calm:Bool
 pn:List (Addr×Obj)
 xe:Value->Shared->Prop
noncomputable def frs (l:List Env):List Addr:=l.filterMap (·.frame)
noncomputable abbrev Cx.fs (X:Cx):List Addr:=frs X.outer
noncomputable def Vis (sc:Scope) (x:Str):Prop:=sc.names.lookup x=some .local∨sc.names.lookup x=some .cell∨sc.names.lookup x=some .free
noncomputable def Loc (sc:Scope) (x:Str):Prop:=sc.names.lookup x=some .local∨sc.names.lookup x=some .cell
noncomputable def qR8 (env:Env) (h:Heap) (m:Str->Option Value) (x:Str) (u:Value):Prop:=
 (env.kindOf x=some .local/\m x=some u)∨((env.kindOf x=some .cell∨env.kindOf x=some .free)/\∃c,env.cells.lookup x=some c/\h.IsCell c (some u))
structure Cx.Ok (X:Cx):Prop where
 mod:Mod X.K X.mg X.base
 kind:X.env.scope.kind=.function
 glob:X.env.globals=mainGlobals
 blt:X.env.builtins=builtinsNs
 above:X.s₀.heap.objs.size<=X.env.locals
 inj:∀x y c,X.env.cells.lookup x=some c->X.env.cells.lookup y=some c->x=y
 has:∀x,(X.env.kindOf x=some .cell∨X.env.kindOf x=some .free)->∃c,X.env.cells.lookup x=some c
 cab:∀x c,X.fn x=true->X.env.cells.lookup x=some c->X.s₀.heap.objs.size<=c
 hd:X.calm=true->X.A.handled=none
 frames:X.A.frames=some X.stack
 stk:X.stack=X.outer∨(X.stack=X.env::X.outer/\X.env.frame=some X.env.locals)
 exf:∀b∈X.ex,b≠X.env.locals/\∀x c,X.env.cells.lookup x=some c->c≠b
 bs:∀b o,X.base.get? b=some o->X.s₀.heap.get? b=some o/\X.H₀ b=none
 bsz:X.base.objs.size<=X.s₀.heap.objs.size
 noex:∀b o,X.base.get? b=some o->b∉X.ex
 exfs:∀b∈X.ex,b∉X.fs
 funs:X.s₀.heap.FunFrames X.base X.outer
 frf:∀b∈X.fs,X.H₀ b=none
structure Inv (X:Cx) (pins:List (Addr×Obj)) (σ:List (Option V)) (H:Hp) (s:Shared):Prop where
 ok:X.Ok
 os:s.os=X.s₀.os
 bare:AllBare s.gens
 base:Un X.fs X.ex X.H₀ H X.s₀.heap s.heap
 loc:∃m,s.heap.Ns X.env.locals m/\∀(i:Nat) (x:Str) (v:V),X.N[i]?=some x->σ[i]?=some (some v)->Vis X.env.scope x->∃u,RelV v u/\qR8 X.env s.heap m x u
 cell:∀x c,X.env.cells.lookup x=some c->∃v,s.heap.IsCell c v
 free:H X.env.locals=none
 freeC:∀x c,X.env.cells.lookup x=some c->H c=none
 pin:∀p∈X.pn++pins,s.heap.get? p.1=some p.2/\H p.1=none/\p.1≠X.env.locals/\p.1∉X.fs/\∀v,p.2.data≠.cell v
 hok:HOk X.prog X.w H s.heap
 len:σ.length=X.N.length
section
variable {X:Cx}{pins:List (Addr×Obj)}{σ:List (Option V)}{H H':Hp}{s:Shared}{h':Heap}
theorem Cx.Ok.nofr (ok:X.Ok) {b:Addr}{o:Obj}(e:X.base.get? b=some o):b∉X.fs:=λhb=>by
 have:=(ok.funs.mem hb).1
 rw [e] at this;cases this
theorem Inv.bs (I:Inv X pins σ H s):∀b o,X.base.get? b=some o->s.heap.get? b=some o/\H b=none:=λb o e =>
 ⟨I.base.keep b o (I.ok.bs b o e).1 (I.ok.bs b o e).2 (I.ok.nofr e) (I.ok.noex b o e),I.base.free b o (I.ok.bs b o e).1 (I.ok.bs b o e).2 (I.ok.noex b o e)⟩
theorem Inv.bk (I:Inv X pins σ H s):∀b o,X.base.get? b=some o->s.heap.get? b=some o:=λb o e=>(I.bs b o e).1
theorem Inv.mod (I:Inv X pins σ H s):Mod X.K X.mg X.base:=I.ok.mod
theorem Inv.kIn (I:Inv X pins σ H s):X.K.In s.heap:=I.ok.mod.kin.keeps I.bk
theorem Inv.lt (I:Inv X pins σ H s):X.env.locals<s.heap.objs.size:=let ⟨_,hn,_⟩:=I.loc;hn.lt
theorem Inv.sz (I:Inv X pins σ H s):X.s₀.heap.objs.size<=s.heap.objs.size:=Nat.le_trans I.ok.above (Nat.le_of_lt I.lt)
theorem Inv.nofs (I:Inv X pins σ H s) {a:Addr}(h:s.heap.objs.size<=a):a∉X.fs:=λhb=>by
 obtain⟨_,o,ho,_⟩:=I.ok.funs.mem hb
 exact absurd (Nat.lt_of_lt_of_le (Heap.lt_size ho) (Nat.le_trans I.sz h)) (Nat.lt_irrefl _)
theorem Inv.cne (I:Inv X pins σ H s):∀x c,X.env.cells.lookup x=some c->c≠X.env.locals:=λx c e z=>by
 obtain⟨v,o,ho,hd⟩:=I.cell x c e
 obtain⟨m,⟨o',es,ep,ho',hd',_⟩,_⟩:=I.loc
 rw [z,ho'] at ho;cases ho;rw [hd'] at hd;cases hd
theorem Inv.funs (I:Inv X pins σ H s):s.heap.FunFrames X.base X.outer:=by
 have all:∀(l:List Env),(∀b∈frs l,b∈X.fs)->X.s₀.heap.FunFrames X.base l->s.heap.FunFrames X.base l:=by
  intro l
  induction l with
  | nil=>intro _ _;trivial
  | cons env r ih =>
   intro hs hl
   obtain⟨hk,⟨L,o,hf,hn,ho,hd⟩,hr⟩:=hl
   have hL:L∈X.fs:=hs L (by unfold frs;rw [List.filterMap_cons,hf];exact List.mem_cons_self)
   obtain⟨sl,e⟩:=I.base.slot L o ho (I.ok.frf L hL) hL λz=>I.ok.exfs L z hL
   exact⟨hk,⟨L,_,hf,hn,e,hd⟩,ih (λb hb=>hs b (by unfold frs;rw [List.filterMap_cons,hf];exact List.mem_cons_of_mem _ hb)) hr⟩
 exact all X.outer (λ_ hb=>hb) I.ok.funs
theorem Inv.stack (I:Inv X pins σ H s):s.heap.FunFrames X.base X.stack:=by
 rcases I.ok.stk with e|⟨e,hf⟩
 ·rw [e];exact I.funs
 ·rw [e]
  obtain⟨m,hn,_⟩:=I.loc
  refine .cons (by rw [I.ok.kind];decide) hf hn ?_ I.funs
  exact Heap.get?_none_of_le (Nat.le_trans I.ok.bsz I.ok.above)
theorem Inv.stkSub (I:Inv X pins σ H s):∀b∈frs X.stack,b∈X.env.locals::X.fs:=λb hb=>by
 rcases I.ok.stk with e|⟨e,hf⟩
 ·rw [e] at hb;exact List.mem_cons_of_mem _ hb
 ·rw [e] at hb
  unfold frs at hb
  rw [List.filterMap_cons,hf] at hb
  exact hb
theorem Inv.stkFree (I:Inv X pins σ H s):∀b∈frs X.stack,H b=none:=λb hb=>by
 rcases List.mem_cons.mp (I.stkSub b hb) with e|hb
 ·rw [e];exact I.free
 ·obtain⟨_,o,ho,_⟩:=I.ok.funs.mem hb
  exact I.base.free b o ho (I.ok.frf b hb) λz=>I.ok.exfs b z hb
theorem Inv.step {g':Array GenState}{t':Nat}{d':Drawn}{ch:List Addr}(I:Inv X pins σ H s)
  (hch:∀b∈ch,(b∈X.ex∨X.s₀.heap.objs.size<=b)/\b≠X.env.locals/\(∀x c,X.env.cells.lookup x=some c->c≠b)/\∀p∈X.pn++pins,p.1≠b)
  (keep:∀b o,b≠X.env.locals->b∉X.fs->b∉ch->s.heap.get? b=some o->H b=none->h'.get? b=some o)
  (slot:∀b o,b≠X.env.locals->b∈X.fs->b∉ch->s.heap.get? b=some o->H b=none->∃sl,h'.get? b=some { o with slots:=sl }) (free:∀b o,b∉ch->s.heap.get? b=some o->H b=none->H' b=none)
  (there:∀b o,b∉ch->s.heap.get? b=some o->∃o',h'.get? b=some o')
  (tups:∀b xs,H b=some (.tup xs)->H' b=some (.tup xs)) (frzs:∀b o u,H b=some (.frz o u)->H' b=some (.frz o u)) (tbls:∀b ps,H b=some (.tbl ps)->∃more,H' b=some (.tbl (ps++more)))
  (ns:∀m,s.heap.Ns X.env.locals m->h'.Ns X.env.locals m) (hok:HOk X.prog X.w H' h') (hg:AllBare g') :
  Inv X pins σ H' { s with heap:=h',gens:=g',drawn:=d',toks:=t' }:=by
 have neL:∀b o,X.s₀.heap.get? b=some o->b≠X.env.locals:=λb o e=>Nat.ne_of_lt (Nat.lt_of_lt_of_le (Heap.lt_size e) I.ok.above)
 have neC:∀b o,X.s₀.heap.get? b=some o->b∉X.ex->b∉ch:=λb o e hx hb=>by
  rcases (hch b hb).1 with z|z
  ·exact hx z
  ·exact absurd (Nat.lt_of_lt_of_le (Heap.lt_size e) z) (Nat.lt_irrefl _)
 have cellK:∀x c,X.env.cells.lookup x=some c->∀v,s.heap.IsCell c v->h'.IsCell c v:=λx c e v ⟨o,ho,hd⟩=>by
  have nch:c∉ch:=λz=>(hch c z).2.2.1 x c e rfl
  by_cases hc:c∈X.fs
  ·obtain⟨sl,q⟩:=slot c o (I.cne x c e) hc nch ho (I.freeC x c e)
   exact⟨_,q,hd⟩
  ·exact⟨o,keep c o (I.cne x c e) hc nch ho (I.freeC x c e),hd⟩
 refine⟨I.ok,I.os,hg,⟨λb o e n hb hx=>?_,λb o e n hb hx=>?_,λb o e n hx=>?_,λb o e hx=>?_,λb xs e=>tups b xs (I.base.tups b xs e),λb o xs e=>frzs b o xs (I.base.frzs b o xs e),λb ps e=>?_⟩,?_,λx c e=>?_,?_,λx c e=>?_,λp hp=>?_,hok,I.len⟩
 ·exact keep b o (neL b o e) hb (neC b o e hx) (I.base.keep b o e n hb hx) (I.base.free b o e n hx)
 ·obtain⟨sl,e1⟩:=I.base.slot b o e n hb hx
  obtain⟨sl',e2⟩:=slot b _ (neL b o e) hb (neC b o e hx) e1 (I.base.free b o e n hx)
  exact⟨sl',e2⟩
 ·obtain⟨o',e1⟩:=I.base.there b o e hx
  exact free b o' (neC b o e hx) e1 (I.base.free b o e n hx)
 ·obtain⟨o',e1⟩:=I.base.there b o e hx
  exact there b o' (neC b o e hx) e1
 ·obtain⟨m1,e1⟩:=I.base.tbls b ps e
  obtain⟨m2,e2⟩:=tbls b _ e1
  exact⟨m1++m2,by rw [e2,Array.append_assoc]⟩
 ·obtain⟨m,hn,hl⟩:=I.loc
  refine⟨m,ns m hn,λi x v e1 e2 e3=>?_⟩
  obtain⟨u,r,l⟩:=hl i x v e1 e2 e3
  refine⟨u,r,?_⟩
  rcases l with l|⟨k,c,e,z⟩
  ·exact .inl l
  ·exact .inr ⟨k,c,e,cellK x c e _ z⟩
 ·obtain⟨v,z⟩:=I.cell x c e
  exact⟨v,cellK x c e v z⟩
 ·obtain⟨m,⟨o,_,_,ho,_⟩,_⟩:=I.loc
  exact free _ o (λz=>(hch _ z).2.1 rfl) ho I.free
 ·obtain⟨v,o,ho,hd⟩:=I.cell x c e
  exact free c o (λz=>(hch c z).2.2.1 x c e rfl) ho (I.freeC x c e)
 ·obtain⟨e,n,ne,nf,d⟩:=I.pin p hp
  have nch:p.1∉ch:=λz=>(hch p.1 z).2.2.2 p hp rfl
  exact⟨keep p.1 p.2 ne nf nch e n,free p.1 p.2 nch e n,ne,nf,d⟩
theorem Inv.un {t':Nat}(I:Inv X pins σ H s) (u:Un X.fs [] H H' s.heap h') (hok:HOk X.prog X.w H' h'):Inv X pins σ H' { s with heap:=h',toks:=t' }:=by
 obtain⟨m,⟨o,es,ep,ho,r⟩,_⟩:=id I.loc
 obtain⟨sl,hL⟩:=u.any ho I.free (by simp)
 exact I.step (g':=s.gens) (d':=s.drawn) (ch:=[]) (λ_ z=>nomatch z) (λb o _ hb _ e n=>u.keep b o e n hb (by simp)) (λb o _ hb _ e n=>u.slot b o e n hb (by simp)) (λb o _ e n=>u.free b o e n (by simp)) (λb o _ e=>u.there b o e (by simp)) u.tups u.frzs u.tbls (λm' hm=>by
  obtain⟨o',es',ep',ho',r'⟩:=hm
  rw [ho] at ho';cases ho'
  exact⟨_,es',ep',hL,r'⟩) hok I.bare
theorem Inv.call {g':Array GenState}{t':Nat}{d':Drawn}{ch:List Addr}(I:Inv X pins σ H s) (u:Un (frs X.stack) ch H H' s.heap h') (hok:HOk X.prog X.w H' h') (hg:AllBare g')
  (hch:∀b∈ch,(b∈X.ex∨X.s₀.heap.objs.size<=b)/\b≠X.env.locals/\(∀x c,X.env.cells.lookup x=some c->c≠b)/\∀p∈X.pn++pins,p.1≠b) :
  Inv X pins σ H' { s with heap:=h',gens:=g',drawn:=d',toks:=t' }:=by
 obtain⟨m,⟨o,es,ep,ho,r⟩,_⟩:=id I.loc
 obtain⟨sl,hL⟩:=u.any ho I.free λz=>(hch _ z).2.1 rfl
 exact I.step (ch:=ch) hch (λb o hL hb hc e n=>u.keep b o e n (λz=>(List.mem_cons.mp (I.stkSub b z)).elim hL hb) hc) (λb o _ _ hc e n=>u.any e n hc) (λb o hc e n=>u.free b o e n hc) (λb o hc e=>u.there b o e hc) u.tups u.frzs u.tbls (λm' hm=>by
  obtain⟨o',es',ep',ho',r'⟩:=hm
  rw [ho] at ho';cases ho'
  exact⟨_,es',ep',hL,r'⟩) hok hg
theorem Inv.turned {t':Nat}{it:Addr}(I:Inv X pins σ H s) (k:∀b o,b≠it->s.heap.get? b=some o->h'.get? b=some o) (hn:H it=none) (hL:it≠X.env.locals)
  (h1:it∈X.ex∨X.s₀.heap.objs.size<=it) (h2:∀x c,X.env.cells.lookup x=some c->c≠it) (h3:∀p∈X.pn++pins,p.1≠it):Inv X pins σ H { s with heap:=h',toks:=t' }:=by
 have nit:∀b u,H b=some u->b≠it:=λb u e z=>by rw [z,hn] at e;cases e
 refine I.step (g':=s.gens) (d':=s.drawn) (ch:=[it]) (λb hb=>?_) (λb o _ _ hc e _=>k b o (λz=>hc (by simp [z])) e) (λb o _ _ hc e _=>⟨o.slots,k b o (λz=>hc (by simp [z])) e⟩) (λ_ _ _ _ n=>n)
  (λb o hc e=>⟨o,k b o (λz=>hc (by simp [z])) e⟩) (λ_ _ e=>e) (λ_ _ _ e=>e) (λb ps e=>⟨#[],by rw [e];simp⟩) (λm hm=>?_) (λb u e=>?_) I.bare
 ·have e:b=it:=by simpa using hb
  subst e
  exact⟨h1,hL,h2,h3⟩
 ·obtain⟨o,es,ep,ho,r⟩:=hm
  exact⟨o,es,ep,k _ o (Ne.symm hL) ho,r⟩
 ·refine (I.hok b u e).stay (λc v hc q=>k c v ?_ q) (λ_ q=>q) (λ_ _ q=>q) λ_ _ _ q=>q
  rcases hc with z|z
  ·rw [z];exact nit b u e
  ·exact nit c _ z
theorem Inv.tok (I:Inv X pins σ H s) (t:Nat):Inv X pins σ H { s with toks:=t }:=I.un (h':=s.heap) (t':=t) Un.refl I.hok
theorem Inv.kept {t':Nat}(I:Inv X pins σ H s) (k:∀b u,s.heap.get? b=some u->h'.get? b=some u):Inv X pins σ H { s with heap:=h',toks:=t' }:=I.un (Un.kept k) (I.hok.kept k)
theorem Inv.laid {a:Addr}{o:HO}{t':Nat}(I:Inv X pins σ H s) (k:∀b u,s.heap.get? b=some u->h'.get? b=some u) (hp:s.heap.objs.size<=a) (new:ObjOk X.prog X.w (upd H a o) h' a o) :
  Inv X pins σ (upd H a o) { s with heap:=h',toks:=t' }:=I.un (Un.laid k hp (I.hok.fresh hp)) (I.hok.laid k hp new)
theorem Inv.write {x e:Addr}{o:HO}{t':Nat}(I:Inv X pins σ H s) (mu:Mut (H x)) (he:e=x∨H e=some (.own x)) (k:∀b u,b≠e->s.heap.get? b=some u->h'.get? b=some u) (heo:∃u,h'.get? e=some u)
  (new:ObjOk X.prog X.w (upd H x o) h' x o):Inv X pins σ (upd H x o) { s with heap:=h',toks:=t' }:=I.un (Un.write mu he k heo) (I.hok.write mu he k heo new)
theorem Inv.pins_of {pins':List (Addr×Obj)}(I:Inv X pins σ H s) (h:∀p∈pins',s.heap.get? p.1=some p.2/\H p.1=none/\p.1≠X.env.locals/\p.1∉X.fs/\∀v,p.2.data≠.cell v):Inv X pins' σ H s:=
 ⟨I.ok,I.os,I.bare,I.base,I.loc,I.cell,I.free,I.freeC,λp hp=>(List.mem_append.mp hp).elim (λz=>I.pin p (List.mem_append_left _ z)) (h p),I.hok,I.len⟩
theorem qDQ {N:List Str}(hN:N.Nodup) {i j:Nat}{x:Str}(a:N[i]?=some x) (b:N[j]?=some x):i=j:=by
 obtain⟨h1,e1⟩:=List.getElem?_eq_some_iff.mp a
 obtain⟨h2,e2⟩:=List.getElem?_eq_some_iff.mp b
 exact (List.getElem_inj hN).mp (e1.trans e2.symm)
theorem qEh {M:Model}{A:Around}{E:Value->Shared->Prop}{i:Nat}{x:Str}{v:V}{u:Value}{Q:Unit->Shared->Prop}(I:Inv X pins σ H s) (hN:X.N.Nodup) (hi:X.N[i]?=some x) (hx:Loc X.env.scope x) (r:RelV v u)
  (h:∀s',Inv X pins (σ.set i (some v)) H s'->(∃a,Heap.SameBut a s.heap s'.heap/\(a=X.env.locals∨X.env.cells.lookup x=some a))->Q () s') (hf:X.fn x=true∨X.env.scope.names.lookup x=some .local:=by first|exact .inl rfl|exact .inr rfl|assumption):wpAny M A (storeName X.env x u) Q E s:=by
 obtain⟨m,hn,hl⟩:=id I.loc
 have hcls:(X.env.scope.kind == .class||(X.env.scope.kind == .module&&X.env.locals != X.env.globals))=false:=by rw [I.ok.kind];rfl
 have hiσ:i<σ.length:=by rw [I.len];exact (List.getElem?_eq_some_iff.mp hi).1
 have cne:=I.cne
 have tracked:∀{a:Addr} {h':Heap},(∃o,s.heap.get? a=some o/\H a=none)->Heap.SameBut a s.heap h'->HOk X.prog X.w H h':=λ{a h'} ha hs b ob e=>by
  obtain⟨_,_,hfree⟩:=ha
  refine (I.hok b ob e).stay (λc w' hc q=>(hs.2 c ?_).trans q) (λ_ q=>q) (λ_ _ q=>q) λ_ _ _ q=>q
  rintro rfl
  rcases hc with rfl|hc
  ·rw [hfree] at e;cases e
  ·rw [hfree] at hc;cases hc
 rcases hx with hk|hk
 ·refine wpAny_storeName_local hk hn (λh' hn' hs=>?_) hcls
  obtain⟨oL,_,_,hoL,_⟩:=id hn
  refine h _ ⟨I.ok,I.os,I.bare,⟨λb o e n hb hx=>?_,λb o e n hb hx=>?_,I.base.free,λb o e hx=>?_,I.base.tups,I.base.frzs,I.base.tbls⟩,⟨_,hn',λj y v' e1 e2 e3=>?_⟩,λy c e=>?_,I.free,I.freeC,λp hp=>?_,tracked ⟨oL,hoL,I.free⟩ hs,by simpa using I.len⟩ ⟨_,hs,.inl rfl⟩
  ·exact (hs.2 b (Nat.ne_of_lt (Nat.lt_of_lt_of_le (Heap.lt_size e) I.ok.above))).trans (I.base.keep b o e n hb hx)
  ·obtain⟨sl,e1⟩:=I.base.slot b o e n hb hx
   exact⟨sl,(hs.2 b (Nat.ne_of_lt (Nat.lt_of_lt_of_le (Heap.lt_size e) I.ok.above))).trans e1⟩
  ·obtain⟨o',e1⟩:=I.base.there b o e hx
   exact⟨o',(hs.2 b (Nat.ne_of_lt (Nat.lt_of_lt_of_le (Heap.lt_size e) I.ok.above))).trans e1⟩
  ·by_cases hj:j=i
   ·subst hj
    rw [hi] at e1;cases e1
    rw [List.getElem?_set_self hiσ] at e2
    cases e2
    exact⟨u,r,.inl ⟨hk,by simp⟩⟩
   ·rw [List.getElem?_set_ne (Ne.symm hj)] at e2
    obtain⟨u',r',q⟩:=hl j y v' e1 e2 e3
    refine⟨u',r',?_⟩
    rcases q with ⟨k,e⟩|⟨k,c,e,z⟩
    ·refine .inl ⟨k,?_⟩
     have:y≠x:=λe=>hj (qDQ hN e1 (e▸hi))
     simp [this,e]
    ·exact .inr ⟨k,c,e,z.sameBut hs (cne y c e)⟩
  ·obtain⟨w',z⟩:=I.cell y c e
   exact⟨w',z.sameBut hs (cne y c e)⟩
  ·obtain⟨e,n,ne,nf,d⟩:=I.pin p hp
   exact⟨(hs.2 p.1 ne).trans e,n,ne,nf,d⟩
 ·have hfn:X.fn x=true:=by
   rcases hf with z|z
   ·exact z
   ·rw [z] at hk;cases hk
  obtain⟨c,hc⟩:=I.ok.has x (.inl hk)
  obtain⟨w',z⟩:=I.cell x c hc
  refine wpAny_storeName_cell I.ok.kind hk hc z (λh' hc' hs=>?_)
  obtain⟨oc,hoc,hocd⟩:=id z
  refine h { s with heap:=h' } ⟨I.ok,I.os,I.bare,⟨λb o e n hb hx=>?_,λb o e n hb hx=>?_,I.base.free,λb o e hx=>?_,I.base.tups,I.base.frzs,I.base.tbls⟩,⟨m,hn.sameBut hs (Ne.symm (cne x c hc)),λj y v' e1 e2 e3=>?_⟩,λy c' e=>?_,I.free,I.freeC,λp hp=>?_,tracked ⟨oc,hoc,I.freeC x c hc⟩ hs,by simpa using I.len⟩ ⟨c,hs,.inr hc⟩
  ·exact (hs.2 b (Nat.ne_of_lt (Nat.lt_of_lt_of_le (Heap.lt_size e) (I.ok.cab x c hfn hc)))).trans (I.base.keep b o e n hb hx)
  ·obtain⟨sl,e1⟩:=I.base.slot b o e n hb hx
   exact⟨sl,(hs.2 b (Nat.ne_of_lt (Nat.lt_of_lt_of_le (Heap.lt_size e) (I.ok.cab x c hfn hc)))).trans e1⟩
  ·obtain⟨o',e1⟩:=I.base.there b o e hx
   exact⟨o',(hs.2 b (Nat.ne_of_lt (Nat.lt_of_lt_of_le (Heap.lt_size e) (I.ok.cab x c hfn hc)))).trans e1⟩
  ·by_cases hj:j=i
   ·subst hj
    rw [hi] at e1;cases e1
    rw [List.getElem?_set_self hiσ] at e2
    cases e2
    exact⟨u,r,.inr ⟨.inl hk,c,hc,hc'⟩⟩
   ·rw [List.getElem?_set_ne (Ne.symm hj)] at e2
    obtain⟨u',r',q⟩:=hl j y v' e1 e2 e3
    refine⟨u',r',?_⟩
    rcases q with q|⟨k,c',e,z'⟩
    ·exact .inl q
    ·refine .inr ⟨k,c',e,z'.sameBut hs ?_⟩
     rintro rfl
     exact hj (qDQ hN e1 (I.ok.inj _ _ _ e hc▸hi))
  ·by_cases hcc:c'=c
   ·subst hcc;exact⟨_,hc'⟩
   ·obtain⟨w2,z2⟩:=I.cell y c' e
    exact⟨w2,z2.sameBut hs hcc⟩
  ·obtain⟨e,n,ne,nf,d⟩:=I.pin p hp
   refine⟨(hs.2 p.1 ?_).trans e,n,ne,nf,d⟩
   intro q
   rw [q,hoc] at e
   have q':oc=p.2:=Option.some.inj e
   exact d w' (by rw [<-q'];exact hocd)
theorem qFx {M:Model}{A:Around}{E:Value->Shared->Prop}{i:Nat}{x:Str}{v:V}{u:Value}{Q:Unit->Shared->Prop}(I:Inv X pins σ H s) (hN:X.N.Nodup) (hi:X.N[i]?=some x) (hx:Loc X.env.scope x) (r:RelV v u)
  (h:∀s',Inv X pins (σ.set i (some v)) H s'->Q () s') (hf:X.fn x=true∨X.env.scope.names.lookup x=some .local:=by first|exact .inl rfl|exact .inr rfl|assumption):wpAny M A (storeName X.env x u) Q E s:=
 qEh I hN hi hx r (λs' I' _=>h s' I') hf
theorem Inv.call' {s':Shared}{ch:List Addr}(I:Inv X pins σ H s) (ho:s'.os=s.os) (u:Un (frs X.stack) ch H H' s.heap s'.heap) (hok:HOk X.prog X.w H' s'.heap) (hg:AllBare s'.gens)
  (hch:∀b∈ch,(b∈X.ex∨X.s₀.heap.objs.size<=b)/\b≠X.env.locals/\(∀x c,X.env.cells.lookup x=some c->c≠b)/\∀p∈X.pn++pins,p.1≠b):Inv X pins σ H' s':=by
 obtain⟨h',g',d',t',o'⟩:=s'
 have e:o'=s.os:=ho
 subst e
 exact I.call (g':=g') (t':=t') (d':=d') u hok hg hch
end
noncomputable abbrev XK:=Value->Option Addr->Hp->Prop
noncomputable abbrev St:=List (Option V)
noncomputable abbrev VK:=V->Hp->Prop
noncomputable abbrev TE:=St->Hp->VK->Prop
noncomputable abbrev TT:=St->Hp->(Bool->Hp->Prop)->Prop
noncomputable abbrev TA:=St->Hp->(List V->Hp->Prop)->Prop
structure Ends where
 nx:St->Hp->Prop
 rt:VK
 bk:St->Hp->Prop:=λ_ _=>False
 ct:St->Hp->Prop:=λ_ _=>False
noncomputable abbrev TS:=Ends->St->Hp->Prop
noncomputable def EP (X:Cx) (pins:List (Addr×Obj)) (σ:St) (Q:VK) (u:Value) (s':Shared):Prop:=∃v H',Inv X pins σ H' s'/\RelV v u/\Q v H'
noncomputable def TP (X:Cx) (pins:List (Addr×Obj)) (σ:St) (Q:Bool->Hp->Prop) (b:Bool) (s':Shared):Prop:=∃H',Inv X pins σ H' s'/\Q b H'
noncomputable def AP (X:Cx) (pins:List (Addr×Obj)) (σ:St) (Q:List V->Hp->Prop) (us:List Value) (s':Shared):Prop:=∃vs H',Inv X pins σ H' s'/\Vals vs us/\Q vs H'
noncomputable def SP (X:Cx) (pins:List (Addr×Obj)) (D:Ends) (f:Flow) (s':Shared):Prop:=
 match f with
 | .next=>∃σ' H',Inv X pins σ' H' s'/\D.nx σ' H'
 | .brk=>∃σ' H',Inv X pins σ' H' s'/\D.bk σ' H'
 | .cont=>∃σ' H',Inv X pins σ' H' s'/\D.ct σ' H'
 | .ret u=>∃v σ' H',Inv X pins σ' H' s'/\RelV v u/\D.rt v H'
noncomputable def PE (X:Cx) (e:Expr) (t:TE):Prop:=
 ∀(pins:List (Addr×Obj)) (s:Shared) (σ:St) (H:Hp) (Q:VK),Inv X pins σ H s->t σ H Q->wpAny (model X.prog X.w) X.A (eval e X.env) (EP X pins σ Q) X.xe s
noncomputable def PT (X:Cx) (e:Expr) (t:TT):Prop:=
 ∀(pins:List (Addr×Obj)) (s:Shared) (σ:St) (H:Hp) (Q:Bool->Hp->Prop),Inv X pins σ H s->t σ H Q->wpAny (model X.prog X.w) X.A (isTrue e X.env (eval e X.env)) (TP X pins σ Q) X.xe s
noncomputable def PW (X:Cx) (e:Expr) (t:TT):Prop:=
 ∀(whole:Sem Value) (pins:List (Addr×Obj)) (s:Shared) (σ:St) (H:Hp) (Q:Bool->Hp->Prop),Inv X pins σ H s->t σ H Q->wpAny (model X.prog X.w) X.A (isTrue e X.env whole) (TP X pins σ Q) X.xe s
theorem PW.pt {X:Cx}{e:Expr}{t:TT}(h:PW X e t):PT X e t:=h _
noncomputable def PA (X:Cx) (es:List Expr) (t:TA):Prop:=
 ∀(pos:Pos) (pins:List (Addr×Obj)) (s:Shared) (σ:St) (H:Hp) (Q:List V->Hp->Prop),Inv X pins σ H s->t σ H Q->wpAny (model X.prog X.w) X.A (spliced (backTo pos (starEach es X.env))) (AP X pins σ Q) X.xe s
noncomputable def PS (X:Cx) (st:Stmt) (t:TS):Prop:=
 ∀(pins:List (Addr×Obj)) (s:Shared) (σ:St) (H:Hp) (D:Ends),Inv X pins σ H s->t D σ H->wpAny (model X.prog X.w) X.A (exec st X.env) (SP X pins D) X.xe s
noncomputable def PSs (X:Cx) (st:List Stmt) (t:TS):Prop:=
 ∀(pins:List (Addr×Obj)) (s:Shared) (σ:St) (H:Hp) (D:Ends),Inv X pins σ H s->t D σ H->wpAny (model X.prog X.w) X.A (execs st X.env) (SP X pins D) X.xe s
theorem thn {α:Type}{t:Sem α}{Q Q':α->Shared->Prop}{M:Model}{A:Around}{E:Value->Shared->Prop}{s:Shared}(h:wpAny M A t Q E s) (hQ:∀a s,Q a s->Q' a s):wpAny M A t Q' E s:=wpAny_mono h hQ λ_ _ x=>x
end L2
namespace L2
open PySem PySem.Spec PyProof.Rows
section
variable {X:Cx}
theorem bin {a b:Expr}{ta tb:TE}(ha:PE X a ta) (hb:PE X b tb) {pins:List (Addr×Obj)}{s:Shared}{σ:St}{H:Hp}{R:V->V->Hp->Prop}(I:Inv X pins σ H s) (h:ta σ H λx H1=>tb σ H1 λy H2=>R x y H2)
  {α:Type} {Q:α->Shared->Prop} {f:Value->Value->Sem α}
  (hf:∀v u s2 x y H2,Inv X pins σ H2 s2->RelV x v->RelV y u->R x y H2->wpAny (model X.prog X.w) X.A (f v u) Q X.xe s2) :
  wpAny (model X.prog X.w) X.A (eval a X.env) (λv s₁=>wpAny (model X.prog X.w) X.A (eval b X.env) (λu s₂=>wpAny (model X.prog X.w) X.A (f v u) Q X.xe s₂) X.xe s₁) X.xe s:=by
 refine thn (ha pins s σ H _ I h) λv s1 ⟨x,H1,I1,r1,q1⟩=>?_
 refine thn (hb pins s1 σ H1 _ I1 q1) λu s2 ⟨y,H2,I2,r2,q2⟩=>?_
 exact hf v u s2 x y H2 I2 r1 r2 q2
noncomputable def qPT (i:Nat):TE:=fun σ H Q=>∃v,σ[i]?=some (some v)/\Q v H
noncomputable def tC (v:V):TE:=λ_ H Q=>Q v H
theorem qCs {i:Nat}{x:Str}{pos:Pos}(hN:X.N[i]?=some x) (hv:Vis X.env.scope x) (hd:(x == ("__debug__":Str))=false:=by decide) (hcd:(x == ("__classdict__":Str))=false:=by decide):PE X (.Name x pos) (qPT i):=by
 intro pins s σ H Q I h
 obtain⟨v,e,h⟩:=h
 obtain⟨m,hn,hl⟩:=I.loc
 obtain⟨u,r,l⟩:=hl i x v hN e hv
 have fin:EP X pins σ Q u s:=⟨v,H,I,r,h⟩
 rcases l with ⟨hk,hm⟩|⟨hk,c,hc,hcell⟩
 ·exact wpAny_Name (wpAny_loadName_local I.ok.kind hk hn hm fin) hd
 ·rcases hk with hk|hk
  ·exact wpAny_Name (wpAny_loadName_cell I.ok.kind hk hc hcell fin) hd
  ·exact wpAny_Name (wpAny_loadName_free I.ok.kind hk hc hcell fin hcd) hd
theorem qOj {i j pos}:PE X (.Constant (.int i) j pos) (tC (.int i)):=λ_ _ _ H _ I h=>wpAny_Constant_int ⟨.int i,H,I.tok _,⟨_,rfl⟩,h⟩
theorem qQj {b j pos}:PE X (.Constant (.bool b) j pos) (tC (.bl b)):=λ_ _ _ H _ I h=>Constant_bool ⟨.bl b,H,I,rfl,h⟩
theorem qOg {j pos}:PE X (.Constant .none j pos) (tC .non):=λ_ _ _ H _ I h=>Constant_none ⟨.non,H,I,rfl,h⟩
theorem qOd {x j pos}:PE X (.Constant (.str x) j pos) (tC (.str x)):=λ_ _ _ H _ I h=>Calls.Constant_str ⟨.str x,H,I.tok _,⟨_,rfl⟩,h⟩
noncomputable def Gl (X:Cx) (x:Str):Prop:=X.env.kindOf x=some .globalImplicit
theorem qHH {E:Value->Shared->Prop}{pins:List (Addr×Obj)}{s:Shared}{σ:St}{H:Hp}{x:Str}{u:Value}{pos:Pos}{Q:Value->Shared->Prop}(I:Inv X pins σ H s) (hg:Gl X x) (hm:X.mg x=some u) (h:Q u s)
  (hd:(x == ("__debug__":Str))=false:=by decide):wpAny (model X.prog X.w) X.A (eval (.Name x pos) X.env) Q E s:=
 Calls.Name_function_global I.ok.kind hg (Calls.loadGlobal_global (by rw [I.ok.glob];exact I.mod.glob.keeps I.bk) hm h) hd
theorem qCu {E:Value->Shared->Prop}{pins:List (Addr×Obj)}{s:Shared}{σ:St}{H:Hp}{x:Str}{u:Value}{pos:Pos}{Q:Value->Shared->Prop}(I:Inv X pins σ H s) (hg:Gl X x) (hm:X.mg x=none) (hv:bootBuiltins x=some u) (h:Q u s)
  (hn:x≠"__name__":=by decide) (hd:(x == ("__debug__":Str))=false:=by decide):wpAny (model X.prog X.w) X.A (eval (.Name x pos) X.env) Q E s:=by
 obtain⟨mb,h1,h2⟩:=I.mod.blt
 exact Calls.Name_function_global I.ok.kind hg (Calls.loadGlobal_builtin (by rw [I.ok.glob];exact I.mod.glob.keeps I.bk) hm (by rw [I.ok.blt];exact h1.keeps I.bk) ((h2 x hn).trans hv) h) hd
theorem qL7 {x:Str}{v:V}{u:Value}{pos:Pos}(hg:Gl X x) (hm:X.mg x=some u) (r:RelV v u) (hd:(x == ("__debug__":Str))=false:=by decide):PE X (.Name x pos) (tC v):=
 λ_ _ _ H _ I h=>qHH I hg hm ⟨v,H,I,r,h⟩ hd
theorem qL9 {x:Str}{v:V}{u:Value}{pos:Pos}(hg:Gl X x) (hm:X.mg x=none) (hv:bootBuiltins x=some u) (r:RelV v u) (hn:x≠"__name__":=by decide) (hd:(x == ("__debug__":Str))=false:=by decide):PE X (.Name x pos) (tC v):=
 λ_ _ _ H _ I h=>qCu I hg hm hv ⟨v,H,I,r,h⟩ hn hd
variable {a b:Expr}{ta tb:TE}{pos:Pos}
noncomputable def tB (t:TE):TT:=fun σ H Q=>t σ H λx H1=>∃c,x=.bl c/\Q c H1
theorem qNZ {e:Expr}{t:TE}(h:PE X e t) (he:∀whole,isTrue e X.env whole=(do let v <-whole;standAt e.pos;holding [v] (truthy v)):=by intro _;rfl):PT X e (tB t):=by
 intro pins s σ H Q I hw
 refine isTrue_plain (thn (h pins s σ H _ I hw) λv s1 ⟨x,H1,I1,r1,q1⟩=>?_) (he _)
 obtain⟨d,rfl,q⟩:=q1
 cases r1
 exact wpAny_truthy_bool ⟨H1,I1,q⟩
variable {tA tB':TT}{qAV:List Expr}
noncomputable def qRA (t u:TT):TT:=fun σ H Q=>t σ H λc H1=>if c=true then u σ H1 Q else Q false H1
noncomputable def tOr (t u:TT):TT:=fun σ H Q=>t σ H λc H1=>if c=true then Q true H1 else u σ H1 Q
noncomputable def qRt (t:TT):TT:=fun σ H Q=>t σ H λc H1=>Q (!c) H1
theorem qLX (ha:PT X a tA):PW X (.BoolOp .And [a] pos) tA:=by
 intro wh pins s σ H Q I h
 refine isTrue_and (thn (ha pins s σ H Q I h) λc s1 e=>?_)
 cases c with
 | true=>exact isTrue_and_nil e
 | false=>exact e
theorem qNX (ha:PT X a tA):PW X (.BoolOp .Or [a] pos) tA:=by
 intro wh pins s σ H Q I h
 refine isTrue_or (thn (ha pins s σ H Q I h) λc s1 e=>?_)
 cases c with
 | false=>exact isTrue_or_nil e
 | true=>exact e
theorem qNY (ha:PT X a tA) (hb:PW X (.BoolOp .And (b::qAV) pos) tB'):PW X (.BoolOp .And (a::b::qAV) pos) (qRA tA tB'):=by
 intro wh pins s σ H Q I h
 refine isTrue_and (thn (ha pins s σ H _ I h) λc s1 ⟨H1,I1,q1⟩=>?_)
 cases c with
 | true=>exact hb wh pins s1 σ H1 Q I1 q1
 | false=>exact⟨H1,I1,q1⟩
theorem qP8 (ha:PT X a tA) (hb:PW X (.BoolOp .Or (b::qAV) pos) tB'):PW X (.BoolOp .Or (a::b::qAV) pos) (tOr tA tB'):=by
 intro wh pins s σ H Q I h
 refine isTrue_or (thn (ha pins s σ H _ I h) λc s1 ⟨H1,I1,q1⟩=>?_)
 cases c with
 | true=>exact⟨H1,I1,q1⟩
 | false=>exact hb wh pins s1 σ H1 Q I1 q1
theorem qN0 (ha:PT X a tA):PT X (.UnaryOp .Not a pos) (qRt tA):=by
 intro pins s σ H Q I h
 exact isTrue_not (ha pins s σ H (λc H1=>Q (!c) H1) I h)
noncomputable def qP0 (ta tb:TE):TE:=fun σ H Q=>ta σ H λx H1=>∃c,x=.bl c/\if c=true then tb σ H1 Q else Q (.bl false) H1
noncomputable def qRs (ta tb:TE):TE:=fun σ H Q=>ta σ H λx H1=>∃c,x=.bl c/\if c=true then Q (.bl true) H1 else tb σ H1 Q
noncomputable def qPW (ta:TE):TE:=fun σ H Q=>ta σ H λx H1=>∃c,x=.bl c/\Q (.bl (!c)) H1
theorem qOe {op}{t:TE}(h:PE X a t):PE X (.BoolOp op [a] pos) t:=λpins s σ H Q I hw=>BoolOp_one (h pins s σ H Q I hw)
theorem qOl (ha:PE X a ta) (hb:PE X (.BoolOp .And (b::qAV) pos) tb):PE X (.BoolOp .And (a::b::qAV) pos) (qP0 ta tb):=by
 intro pins s σ H Q I h
 refine BoolOp_and (thn (ha pins s σ H _ I h) λv s1 ⟨x,H1,I1,r1,q1⟩=>?_)
 obtain⟨c,rfl,q1⟩:=q1
 cases r1
 refine wpAny_truthy_bool ?_
 cases c with
 | true=>exact hb pins s1 σ H1 Q I1 q1
 | false=>exact⟨.bl false,H1,I1,rfl,q1⟩
theorem qQf (ha:PE X a ta) (hb:PE X (.BoolOp .Or (b::qAV) pos) tb):PE X (.BoolOp .Or (a::b::qAV) pos) (qRs ta tb):=by
 intro pins s σ H Q I h
 refine BoolOp_or (thn (ha pins s σ H _ I h) λv s1 ⟨x,H1,I1,r1,q1⟩=>?_)
 obtain⟨c,rfl,q1⟩:=q1
 cases r1
 refine wpAny_truthy_bool ?_
 cases c with
 | false=>exact hb pins s1 σ H1 Q I1 q1
 | true=>exact⟨.bl true,H1,I1,rfl,q1⟩
theorem qOf (ha:PE X a ta):PE X (.UnaryOp .Not a pos) (qPW ta):=by
 intro pins s σ H Q I h
 refine UnaryOp_ (thn (ha pins s σ H _ I h) λv s1 ⟨x,H1,I1,r1,q1⟩=>?_)
 obtain⟨c,rfl,q1⟩:=q1
 cases r1
 exact not_of (wpAny_truthy_bool ⟨.bl (!c),H1,I1,rfl,q1⟩)
noncomputable def tIf (t:TT) (ta tb:TE):TE:=fun σ H Q=>t σ H λc H1=>if c=true then ta σ H1 Q else tb σ H1 Q
theorem qJF {c:Expr}(hc:PT X c tA) (ha:PE X a ta) (hb:PE X b tb):PE X (.IfExp c a b pos) (tIf tA ta tb):=by
 intro pins s σ H Q I h
 refine wpAny_IfExp (thn (hc pins s σ H _ I h) λd s1 ⟨H1,I1,q1⟩=>?_)
 cases d with
 | true=>exact ha pins s1 σ H1 Q I1 q1
 | false=>exact hb pins s1 σ H1 Q I1 q1
end
end L2
namespace L2
open PySem PySem.Spec PyProof.Rows
noncomputable def SqL (K:PySem.W.Frag) (H:Hp) (a:Addr) (xs:List V):Prop:=
 Rd H a (.lst xs) ∨
  ∃(o:Obj) (its:Array Value) (n:Nat),K.lookup a=some o/\o.cls=.type "list"/\o.dict=none/\o.data=.seq its n/\its.size<=sizeLine/\Vals xs its.toList
noncomputable def SqT (K:PySem.W.Frag) (H:Hp) (a:Addr) (xs:List V):Prop:=
 Rd H a (.tup xs) ∨
  ∃(o:Obj) (its:Array Value) (n:Nat),K.lookup a=some o/\o.cls=.type "tuple"/\o.data=.seq its n/\its.size<=sizeLine/\Vals xs its.toList
noncomputable def qR7:Value->Option V
 | .none=>some .non
 | .bool b=>some (.bl b)
 | .int i _=>some (.int i)
 | .str x _=>some (.str x)
 | .bytes b _=>some (.byt b)
 | .float b _=>some (.flt b)
 | .ref a=>some (.ref a)
 | .type n=>some (.ty n)
 | _=>none
theorem RelV.abs {x:V}{u:Value}(r:RelV x u):qR7 u=some x:=by
 cases x with
 | non=>cases r;rfl
 | bl _=>cases r;rfl
 | int _=>obtain⟨t,rfl⟩:=r;rfl
 | str _=>obtain⟨t,rfl⟩:=r;rfl
 | byt _=>obtain⟨t,rfl⟩:=r;rfl
 | flt _=>obtain⟨t,rfl⟩:=r;rfl
 | ref _=>cases r;rfl
 | ty _=>cases r;rfl
theorem RelV.inj {x y:V}{u:Value}(r:RelV x u) (q:RelV y u):x=y:=Option.some.inj (r.abs.symm.trans q.abs)
theorem Vals.inj:∀{xs ys:List V}{us:List Value},Vals xs us->Vals ys us->xs=ys
 | _,_,_,.nil,.nil=>rfl
 | _,_,_,.cons r t,.cons r' t'=>by rw [r.inj r',Vals.inj t t']
section
variable {X:Cx}{pins:List (Addr×Obj)}{σ:St}{H:Hp}{s:Shared}{a:Addr}{xs ys:List V}
theorem SqL.of {K:PySem.W.Frag}(h:H a=some (.lst xs)):SqL K H a xs:=.inl (.inl h)
theorem SqT.of {K:PySem.W.Frag}(h:H a=some (.tup xs)):SqT K H a xs:=.inl (.inl h)
theorem Inv.list (I:Inv X pins σ H s) (h:SqL X.K H a xs):∃its:List Value,Vals xs its/\PlainL s.heap a its.toArray/\xs.length<=sizeLine:=by
 rcases h with h|⟨o,its,n,hk,hc,hd,hs,hz,r⟩
 ·obtain⟨z,its,n,r,e⟩:=h.ok I.hok
  exact⟨its,r,⟨_,n,e,rfl,rfl,rfl⟩,z⟩
 ·refine⟨its.toList,r,⟨o,n,I.kIn a o hk,hc,hd,by simpa using hs⟩,?_⟩
  have e:=r.length
  simp only [Array.length_toList] at e
  omega
theorem Inv.tuple (I:Inv X pins σ H s) (h:SqT X.K H a xs):∃its:List Value,Vals xs its/\IsTup s.heap a its.toArray/\xs.length<=sizeLine:=by
 rcases h with h|⟨o,its,n,hk,hc,hs,hz,r⟩
 ·obtain⟨z,its,r,p⟩:=h.ok I.hok
  exact⟨its,r,p,z⟩
 ·refine⟨its.toList,r,⟨o,I.kIn a o hk,hc,n,by simpa using hs⟩,?_⟩
  have e:=r.length
  simp only [Array.length_toList] at e
  omega
theorem Inv.list_inj (I:Inv X pins σ H s) (h:SqL X.K H a xs) (h':SqL X.K H a ys):xs=ys:=by
 obtain⟨its,r,⟨o,n,e,_,_,d⟩,_⟩:=I.list h
 obtain⟨its',r',⟨o',n',e',_,_,d'⟩,_⟩:=I.list h'
 rw [e] at e';cases e'
 rw [d] at d'
 injection d' with d1 _
 have:its=its':=by simpa using congrArg Array.toList d1
 subst this
 exact r.inj r'
theorem Inv.tuple_inj (I:Inv X pins σ H s) (h:SqT X.K H a xs) (h':SqT X.K H a ys):xs=ys:=by
 obtain⟨its,r,⟨o,e,_,n,d⟩,_⟩:=I.tuple h
 obtain⟨its',r',⟨o',e',_,n',d'⟩,_⟩:=I.tuple h'
 rw [e] at e';cases e'
 rw [d] at d'
 injection d' with d1 _
 have:its=its':=by simpa using congrArg Array.toList d1
 subst this
 exact r.inj r'
end
noncomputable abbrev Cx.wish (X:Cx) (E:Value->Shared->Prop):Cx:={ X with xe:=E }
noncomputable abbrev Cx.nox (X:Cx):Cx:=X.wish λ_ _=>False
theorem Cx.Ok.wish {X:Cx}(ok:X.Ok) (E:Value->Shared->Prop):(X.wish E).Ok:=
 ⟨ok.mod,ok.kind,ok.glob,ok.blt,ok.above,ok.inj,ok.has,ok.cab,ok.hd,ok.frames,ok.stk,ok.exf,ok.bs,ok.bsz,ok.noex,ok.exfs,ok.funs,ok.frf⟩
theorem Cx.Ok.unwish {X:Cx}{E:Value->Shared->Prop}(ok:(X.wish E).Ok):X.Ok:=
 ⟨ok.mod,ok.kind,ok.glob,ok.blt,ok.above,ok.inj,ok.has,ok.cab,ok.hd,ok.frames,ok.stk,ok.exf,ok.bs,ok.bsz,ok.noex,ok.exfs,ok.funs,ok.frf⟩
section
variable {X:Cx}{pins:List (Addr×Obj)}{σ:St}{H:Hp}{s:Shared}{E:Value->Shared->Prop}
theorem Inv.wish (I:Inv X pins σ H s) (E:Value->Shared->Prop):Inv (X.wish E) pins σ H s:=⟨I.ok.wish E,I.os,I.bare,I.base,I.loc,I.cell,I.free,I.freeC,I.pin,I.hok,I.len⟩
theorem Inv.unwish (I:Inv (X.wish E) pins σ H s):Inv X pins σ H s:=⟨I.ok.unwish,I.os,I.bare,I.base,I.loc,I.cell,I.free,I.freeC,I.pin,I.hok,I.len⟩
theorem SP.unwish {D:Ends}{f:Flow}{s':Shared}(h:SP (X.wish E) pins D f s'):SP X pins D f s':=by
 cases f with
 | next=>obtain⟨σ',H',I,q⟩:=h;exact⟨σ',H',I.unwish,q⟩
 | brk=>obtain⟨σ',H',I,q⟩:=h;exact⟨σ',H',I.unwish,q⟩
 | cont=>obtain⟨σ',H',I,q⟩:=h;exact⟨σ',H',I.unwish,q⟩
 | ret u=>obtain⟨v,σ',H',I,r,q⟩:=h;exact⟨v,σ',H',I.unwish,r,q⟩
theorem PSs.nox {st:List Stmt}{t:TS}(h:PSs X.nox st t):PSs X st t:=λpins s σ H D I hw =>
 wpAny_mono (h pins s σ H D (I.wish _) hw) (λ_ _ q=>q.unwish) λ_ _ z=>False.elim z
end
section
variable {X:Cx}{st:Stmt}{qAV:List Stmt}{t u:TS}{e:Expr}{te:TE}{pos:Pos}
noncomputable def qPX:TS:=λD σ H=>D.nx σ H
noncomputable def qRq (t u:TS):TS:=λD σ H=>t { D with nx:=u D } σ H
theorem qHn:PSs X [] qPX:=λ_ _ σ H _ I h=>wpAny_execs_nil ⟨σ,H,I,h⟩
theorem qFG (h1:PS X st t) (h2:PSs X qAV u):PSs X (st::qAV) (qRq t u):=by
 intro pins s σ H D I h
 refine wpAny_execs_cons (thn (h1 pins s σ H { D with nx:=u D } I h) λf s1 q=>?_)
 cases f with
 | next =>
  obtain⟨σ',H',I',q⟩:=q
  exact h2 pins s1 σ' H' D I' q
 | ret v=>exact q
 | brk=>exact q
 | cont=>exact q
theorem qLY (h1:PS X st t):PSs X [st] t:=by
 intro pins s σ H D I h
 refine wpAny_execs_cons (thn (h1 pins s σ H D I h) λf s1 q=>?_)
 cases f with
 | next=>exact wpAny_execs_nil q
 | ret v=>exact q
 | brk=>exact q
 | cont=>exact q
theorem Inv.quiet {pins:List (Addr×Obj)}{σ:St}{H:Hp}{s:Shared}(I:Inv X pins σ H s):interactive X.env=false:=by simp [interactive,I.ok.kind]
noncomputable def qPY (te:TE):TS:=λD σ H=>te σ H λ_ H1=>D.nx σ H1
theorem qHp (he:PE X e te) (hs:swapsWith e none pos.line X.env=pure false:=by rfl):PS X (.Expr e pos) (qPY te):=by
 intro pins s σ H D I h
 exact wpAny_Expr_any (thn (he pins s σ H _ I h) λv s1 ⟨x,H1,I1,r1,q1⟩=>⟨σ,H1,I1,q1⟩) I.quiet hs
noncomputable def qRr (te:TE):TS:=λD σ H=>te σ H D.rt
theorem qHo (he:PE X e te):PS X (.Return (some e) pos) (qRr te):=by
 intro pins s σ H D I h
 exact wpAny_Return_some (thn (he pins s σ H _ I h) λv s1 ⟨x,H1,I1,r1,q1⟩=>⟨x,σ,H1,I1,r1,q1⟩)
noncomputable def qRw (c:TT) (t u:TS):TS:=λD σ H=>c σ H λb H1=>if b=true then t D σ H1 else u D σ H1
theorem qQa {c:Expr}{a b:List Stmt}{tc:TT}(hc:PT X c tc) (ha:PSs X a t) (hb:PSs X b u):PS X (.If c a b pos) (qRw tc t u):=by
 intro pins s σ H D I h
 refine wpAny_If (thn (hc pins s σ H _ I h) λd s1 ⟨H1,I1,q1⟩=>?_)
 cases d with
 | true=>exact ha pins s1 σ H1 D I1 q1
 | false=>exact hb pins s1 σ H1 D I1 q1
end
noncomputable abbrev TG:=V->St->Hp->(St->Hp->Prop)->Prop
noncomputable abbrev TGs:=List V->St->Hp->(St->Hp->Prop)->Prop
noncomputable def PG (X:Cx) (target:Expr) (t:TG):Prop:=
 ∀(pins:List (Addr×Obj)) (s:Shared) (σ:St) (H:Hp) (v:V) (u:Value) (Q:St->Hp->Prop),Inv X pins σ H s->RelV v u->t v σ H Q ->
   wpAny (model X.prog X.w) X.A (assign target X.env u) (λ_ s'=>∃σ' H',Inv X pins σ' H' s'/\Q σ' H') X.xe s
noncomputable def PGs (X:Cx) (ts:List Expr) (t:TGs):Prop:=
 ∀(pins:List (Addr×Obj)) (s:Shared) (σ:St) (H:Hp) (vs:List V) (us:List Value) (Q:St->Hp->Prop),Inv X pins σ H s->Vals vs us->t vs σ H Q ->
   wpAny (model X.prog X.w) X.A (assignInOrder ((assignEach ts X.env).map (·.2)) us) (λ_ s'=>∃σ' H',Inv X pins σ' H' s'/\Q σ' H') X.xe s
section
variable {X:Cx}{pos:Pos}
noncomputable def qFf (i:Nat):TG:=λv σ H Q=>Q (σ.set i (some v)) H
theorem qDO {i:Nat}{x:Str}(hN:X.N.Nodup) (hi:X.N[i]?=some x) (hx:Loc X.env.scope x) (hf:X.fn x=true∨X.env.scope.names.lookup x=some .local:=by first|exact .inl rfl|exact .inr rfl|assumption):PG X (.Name x pos) (qFf i):=by
 intro pins s σ H v u Q I r h
 exact wpAny_assign_Name (qFx I hN hi hx r (λs' I'=>⟨_,H,I',h⟩) hf)
noncomputable def qQC:TGs:=λvs σ H Q=>vs=[]/\Q σ H
noncomputable def qJZ (t:TG) (u:TGs):TGs:=λvs σ H Q=>∃v r,vs=v::r/\t v σ H fun σ' H'=>u r σ' H' Q
theorem qHt:PGs X [] qQC:=by
 intro pins s σ H vs us Q I r h
 obtain⟨e,h⟩:=h
 subst e
 cases r
 exact assignInOrder_nil ⟨σ,H,I,h⟩
theorem qDN {e:Expr}{es:List Expr}{t:TG}{u:TGs}(h1:PG X e t) (h2:PGs X es u)
  (hs:(assignEach (e::es) X.env).map (·.2)=assign e X.env::(assignEach es X.env).map (·.2):=by rfl):PGs X (e::es) (qJZ t u):=by
 intro pins s σ H vs us Q I r h
 obtain⟨v,vr,e1,h⟩:=h
 subst e1
 cases r with
 | cons r rr =>
  rw [hs]
  refine assignInOrder_cons (thn (h1 pins s σ H _ _ _ I r h) λ_ s1 ⟨σ1,H1,I1,q1⟩=>?_)
  exact h2 pins s1 σ1 H1 _ _ Q I1 rr q1
noncomputable def qQB (K:PySem.W.Frag) (n:Nat) (t:TGs):TG:=λv σ H Q=>∃a xs,v=.ref a/\SqT K H a xs/\xs.length=n/\t xs σ H Q
theorem qKE {es:List Expr}{k:Nat}{t:TGs}{n:Nat}(hc:X.calm=true) (h:PGs X es t)
  (hn:(assignEach es X.env).length=n:=by rfl) (hst:(assignEach es X.env).findIdx? (·.1)=none:=by rfl):PG X (.Tuple es k pos) (qQB X.K n t):=by
 intro pins s σ H v u Q I r hw
 obtain⟨a,xs,e1,hq,hl,hw⟩:=hw
 subst e1
 cases r
 obtain⟨its,rv,ht,hz⟩:=I.tuple hq
 refine assign_Tuple_tuple (I.ok.hd hc) ht (by simp [hn,<-hl,rv.length]) hst λh' hx=>?_
 have I1:Inv X pins σ H { s with heap:=h' }:=I.kept (t':=s.toks) λb o e=>hx b o (Nat.ne_of_lt (Heap.lt_size e)) e
 exact h pins _ σ H xs _ Q I1 (by simpa using rv) hw
noncomputable def qRz (te:TE) (g:TG):TS:=λD σ H=>te σ H λx H1=>g x σ H1 D.nx
theorem qN2 {i:Nat}{x:Str}{e:Expr}{te:TE}{pos':Pos}(hN:X.N.Nodup) (hi:X.N[i]?=some x) (hx:Loc X.env.scope x) (he:PE X e te) (hs:swapsWith e (some (.Name x pos')) pos.line X.env=pure false:=by rfl) (hf:X.fn x=true∨X.env.scope.names.lookup x=some .local:=by first|exact .inl rfl|exact .inr rfl|assumption) :
  PS X (.Assign [.Name x pos'] e pos) (qRz te (qFf i)):=by
 intro pins s σ H D I h
 refine wpAny_Assign_Name (thn (he pins s σ H _ I h) λv s1 ⟨y,H1,I1,r1,q1⟩=>?_) hs
 exact qFx I1 hN hi hx r1 (λs2 I2=>⟨_,H1,I2,q1⟩) hf
end
section
variable {X:Cx}{pos:Pos}
noncomputable def qNE (c:TT) (tb:TS):TS:=λD σ H=>∃W:Nat->St->Hp->Prop,(∃m,W m σ H)/\∀m σ H,W m σ H ->
 c σ H λb H1=>if b=true then ∃N:St->Hp->Prop,(∀σ' H',N σ' H'->∃m',m'<m/\W m' σ' H')/\tb { D with nx:=N,ct:=N,bk:=D.nx } σ H1 else D.nx σ H1
theorem qJz {c:Expr}{body:List Stmt}{tc:TT}{tb:TS}(hp:PassesOwn (model X.prog X.w) X.A X.env X.xe) (hc:PT X c tc) (hb:PSs X body tb):PS X (.While c body [] pos) (qNE tc tb):=by
 intro pins s σ H D I h
 obtain⟨W,⟨m0,w0⟩,turn⟩:=h
 refine wpAny_While (codeAny_whileLoop (λn s'=>∃σ' H',Inv X pins σ' H' s'/\W n σ' H') ?_ m0 ⟨σ,H,I,w0⟩)
 rintro n s1 ⟨σ1,H1,I1,w1⟩
 refine wpAny_passesOwn hp (thn (hc pins s1 σ1 H1 _ I1 (turn n σ1 H1 w1)) λb s2 ⟨H2,I2,q2⟩=>?_)
 cases b with
 | true =>
  obtain⟨N,hN,q2⟩:=q2
  rw [if_pos rfl]
  refine wpAny_passesOwn hp (thn (hb pins s2 σ1 H2 _ I2 q2) λf s3 q3=>?_)
  cases f with
  | next =>
   obtain⟨σ3,H3,I3,n3⟩:=q3
   obtain⟨m',hm,w3⟩:=hN σ3 H3 n3
   exact⟨m',hm,σ3,H3,I3,w3⟩
  | cont =>
   obtain⟨σ3,H3,I3,n3⟩:=q3
   obtain⟨m',hm,w3⟩:=hN σ3 H3 n3
   exact⟨m',hm,σ3,H3,I3,w3⟩
  | brk=>exact q3
  | ret v=>exact q3
 | false =>
  rw [if_neg Bool.false_ne_true]
  exact wpAny_execs_nil ⟨σ1,H2,I2,q2⟩
end
structure It where
 go:Nat->Hp->Prop
 yld:Nat->Hp->V->Hp->Prop
 stop:Nat->Hp->Prop
noncomputable def qEW (X:Cx) (pins:List (Addr×Obj)) (H:Hp) (b:Addr):Prop:=
 H b=none/\b≠X.env.locals/\b∉X.fs/\(b∈X.ex∨X.s₀.heap.objs.size<=b)/\(∀x c,X.env.cells.lookup x=some c->c≠b)/\∀p∈X.pn++pins,p.1≠b
theorem Inv.fpOk {X:Cx}{pins:List (Addr×Obj)}{σ:St}{H H':Hp}{s:Shared}{b:Addr}(I:Inv X pins σ H s) (hb:s.heap.objs.size<=b) (hn:H' b=none):qEW X pins H' b:=by
 refine⟨hn,Nat.ne_of_gt (Nat.lt_of_lt_of_le I.lt hb),I.nofs hb,.inr (Nat.le_trans I.sz hb),λx c e z=>?_,λp hp z=>?_⟩
 ·obtain⟨v,q⟩:=I.cell x c e
  exact absurd (Nat.lt_of_lt_of_le q.lt (by rw [z];exact hb)) (Nat.lt_irrefl _)
 ·exact absurd (Nat.lt_of_lt_of_le (Heap.lt_size (I.pin p hp).1) (by rw [z];exact hb)) (Nat.lt_irrefl _)
structure Turn (P:Program) (w:World) (K:PySem.W.Frag) (tg:Expr) (J:It) (fp:List Addr) (it:Addr) (tn:Nat->Heap->Prop):Prop where
 mem:it∈fp
 obj:∀i h,tn i h->∀b∈fp,∃o,h.get? b=some o/\∀v,o.data≠.cell v
 keep:∀i h h',tn i h->(∀b∈fp,∀o,h.get? b=some o->h'.get? b=some o)->tn i h'
 item:∀(X:Cx),X.prog=P->X.w=w->X.K=K->X.calm=true->∀(i:Nat) (pins:List (Addr×Obj)) (s:Shared) (σ:St) (H:Hp) (E:Value->Shared->Prop),Inv X pins σ H s->(∀b∈fp,qEW X pins H b)->tn i s.heap->J.go i H ->
  wpAny (model P w) X.A (pyNext (.ref it)) (λr s1=>∃u,r=some u /\
   wpAny (model P w) X.A (letOwnedTupleGo tg (.ref it) u) (λ_ s2=>∃x H',Inv X pins σ H' s2/\RelV x u/\J.yld i H x H'/\tn (i+1) s2.heap/\∀b∈fp,H' b=none) E s1) E s
 done:∀(X:Cx),X.prog=P->X.w=w->X.K=K->X.calm=true->∀(i:Nat) (pins:List (Addr×Obj)) (s:Shared) (σ:St) (H:Hp) (E:Value->Shared->Prop),Inv X pins σ H s->(∀b∈fp,qEW X pins H b)->tn i s.heap->J.stop i H ->
  wpAny (model P w) X.A (pyNext (.ref it)) (λr s1=>r=none/\Inv X pins σ H s1) E s
 self:∀(A:Around) (i:Nat) (s:Shared) (Q:Value->Shared->Prop) (E:Value->Shared->Prop),tn i s.heap->Q (.ref it) s->wpAny (model P w) A (pyIter (.ref it)) Q E s
noncomputable abbrev TI:=St->Hp->(It->Hp->Prop)->Prop
noncomputable def PIE (X:Cx) (pins:List (Addr×Obj)) (σ:St) (tg:Expr) (R:It->Hp->Prop) (itv:Value) (s2:Shared):Prop:=
 ∃(it:Addr) (fp:List Addr) (tn:Nat->Heap->Prop) (J:It) (H':Hp),itv=.ref it/\Inv X pins σ H' s2/\Turn X.prog X.w X.K tg J fp it tn/\tn 0 s2.heap/\(∀b∈fp,qEW X pins H' b)/\R J H'
noncomputable def PI (X:Cx) (tg iter:Expr) (wi:TI):Prop:=
 ∀(pins:List (Addr×Obj)) (s:Shared) (σ:St) (H:Hp) (R:It->Hp->Prop),Inv X pins σ H s->wi σ H R ->
   wpAny (model X.prog X.w) X.A (eval iter X.env) (λv s1=>wpAny (model X.prog X.w) X.A (pyIter v) (PIE X pins σ tg R) X.xe s1) X.xe s
theorem qHU {M:Model}{A:Around}{E:Value->Shared->Prop}{s:Shared}{tg:Expr}{it:Addr}{u:Value}{o:Obj}{n:String}{vs:Array Value}{Q:Unit->Shared->Prop}(ho:s.heap.get? it=some o) (hc:o.cls=.type n) (hd:o.data=.fields vs)
  (hn:["enumerate","zip","dict_itemiterator","dict_reverseitemiterator","odict_iterator","itertools.zip_longest","itertools.pairwise"].contains n=false) (hQ:Q () s):wpAny M A (letOwnedTupleGo tg (.ref it) u) Q E s:=by
 unfold letOwnedTupleGo
 cases tg<;>first
  | exact wpAny_pure hQ
  | (cases u<;>first
    | exact wpAny_pure hQ
    | (refine wpAny_bind (wpAny_load ho ?_)
       rw [hc,hd]
       show wpAny M A (if (["enumerate","zip","dict_itemiterator","dict_reverseitemiterator","odict_iterator","itertools.zip_longest","itertools.pairwise"].contains n&&vs[0]? == some (rawInt _))=true then _ else _) Q E s
       rw [if_neg (by intro h;rw [hn,Bool.false_and] at h;cases h)]
       exact wpAny_pure hQ))
noncomputable def Itl (K:PySem.W.Frag) (a:Addr):It:=
 ⟨λi H=>∃xs x,SqL K H a xs/\xs[i]?=some x,λi H x H'=>H'=H/\∀xs,SqL K H a xs->xs[i]?=some x,λi H=>∃xs,SqL K H a xs/\xs.length<=i⟩
noncomputable def Itt (K:PySem.W.Frag) (a:Addr):It:=
 ⟨λi H=>∃xs x,SqT K H a xs/\xs[i]?=some x,λi H x H'=>H'=H/\∀xs,SqT K H a xs->xs[i]?=some x,λi H=>∃xs,SqT K H a xs/\xs.length<=i⟩
noncomputable def Itr (lo:Int) (n:Nat):It:=⟨λi _=>i<n,λi H x H'=>H'=H/\x=.int (lo+i),λi _=>n<=i⟩
theorem qGR {P:Program}{w:World}{K:PySem.W.Frag}{tg:Expr}(a it:Addr):Turn P w K tg (Itl K a) [it] it (λi h=>h.IsListIter it a i) where
 mem:=by simp
 obj:=λi h st b hb=>by
  have e:b=it:=by simpa using hb
  subst e
  obtain⟨o,e,c,d⟩:=st
  exact⟨o,e,λv z=>by rw [d] at z;cases z⟩
 keep:=λi h h' st k=>st.at λo e=>k it (by simp) o e
 item:=by
  intro X hP hw hK hc i pins s σ H E I hf st hg
  subst hP hw hK
  obtain⟨xs,x,hq,hx⟩:=hg
  obtain⟨its,rv,p,hz⟩:=I.list hq
  obtain⟨u,hu,ru⟩:=rv.get hx
  obtain⟨f0,f1,f2,f3,f4,f5⟩:=hf it (by simp)
  refine wpAny_pyNext_list_item st p.isList (x:=u) (by simpa using hu) λh' st' sb=>?_
  have I1:Inv X pins σ H { s with heap:=h' }:=I.turned (t':=s.toks) (λb o hb e=>(sb.2 b hb).trans e) f0 f1 f3 f4 f5
  obtain⟨o,e,c,d⟩:=id st'
  exact⟨u,rfl,qHU (s:={ s with heap:=h' }) e c d (by decide) ⟨x,H,I1,ru,⟨rfl,λys hy=>by rw [I.list_inj hy hq];exact hx⟩,st',λb hb=>(hf b hb).1⟩⟩
 done:=by
  intro X hP hw hK hc i pins s σ H E I hf st hg
  subst hP hw hK
  obtain⟨xs,hq,hx⟩:=hg
  obtain⟨its,rv,p,hz⟩:=I.list hq
  obtain⟨f0,f1,f2,f3,f4,f5⟩:=hf it (by simp)
  have hl:=rv.length
  exact wpAny_pyNext_list_end (I.ok.hd hc) st p.isList (by simp;omega) λh' eb=>⟨rfl,I.turned (t':=s.toks) (λb o hb e=>eb b o hb e) f0 f1 f3 f4 f5⟩
 self:=λ_ _ _ _ _ st h=>wpAny_pyIter_listiter st h
theorem qGk {P:Program}{w:World}{K:PySem.W.Frag}{tg:Expr}(a it:Addr):Turn P w K tg (Itt K a) [it] it (λi h=>h.IsTupleIter it a i) where
 mem:=by simp
 obj:=λi h st b hb=>by
  have e:b=it:=by simpa using hb
  subst e
  obtain⟨o,e,c,d⟩:=st
  exact⟨o,e,λv z=>by rw [d] at z;cases z⟩
 keep:=λi h h' st k=>st.at λo e=>k it (by simp) o e
 item:=by
  intro X hP hw hK hc i pins s σ H E I hf st hg
  subst hP hw hK
  obtain⟨xs,x,hq,hx⟩:=hg
  obtain⟨its,rv,p,hz⟩:=I.tuple hq
  obtain⟨u,hu,ru⟩:=rv.get hx
  obtain⟨f0,f1,f2,f3,f4,f5⟩:=hf it (by simp)
  refine wpAny_pyNext_tuple_item st (show s.heap.IsTuple a its.toArray from p) (x:=u) (by simpa using hu) λh' st' sb=>?_
  have I1:Inv X pins σ H { s with heap:=h' }:=I.turned (t':=s.toks) (λb o hb e=>(sb.2 b hb).trans e) f0 f1 f3 f4 f5
  obtain⟨o,e,c,d⟩:=id st'
  exact⟨u,rfl,qHU (s:={ s with heap:=h' }) e c d (by decide) ⟨x,H,I1,ru,⟨rfl,λys hy=>by rw [I.tuple_inj hy hq];exact hx⟩,st',λb hb=>(hf b hb).1⟩⟩
 done:=by
  intro X hP hw hK hc i pins s σ H E I hf st hg
  subst hP hw hK
  obtain⟨xs,hq,hx⟩:=hg
  obtain⟨its,rv,p,hz⟩:=I.tuple hq
  obtain⟨f0,f1,f2,f3,f4,f5⟩:=hf it (by simp)
  have hl:=rv.length
  exact wpAny_pyNext_tuple_end (I.ok.hd hc) st (show s.heap.IsTuple a its.toArray from p) (by simp;omega) λh' eb=>⟨rfl,I.turned (t':=s.toks) (λb o hb e=>eb b o hb e) f0 f1 f3 f4 f5⟩
 self:=λ_ _ _ _ _ st h=>wpAny_pyIter_tupleiter st h
theorem qGl {P:Program}{w:World}{K:PySem.W.Frag}{tg:Expr}(it:Addr) (lo:Int) (n:Nat):Turn P w K tg (Itr lo n) [it] it (λi h=>IsRangeIter h it (lo+(i:Nat) * 1) ((n:Int) - (i:Nat)) 1) where
 mem:=by simp
 obj:=λi h st b hb=>by
  have e:b=it:=by simpa using hb
  subst e
  exact⟨_,st,λv z=>by
   have z':Data.fields _=Data.cell v:=z
   cases z'⟩
 keep:=λi h h' st k=>k it (by simp) _ st
 item:=by
  intro X hP hw hK hc i pins s σ H E I hf st hg
  subst hP hw hK
  obtain⟨f0,f1,f2,f3,f4,f5⟩:=hf it (by simp)
  have W:=Walks.range (prog:=X.prog) (w:=X.w) (I.ok.hd hc) it lo 1 n
  refine W.item i s _ _ hg st λv h' tk hv st' kk=>?_
  obtain⟨t,rfl⟩:=hv
  have I1:Inv X pins σ H { s with heap:=h',toks:=tk }:=I.turned (λb o hb e=>kk b o (by simpa using hb) e) f0 f1 f3 f4 f5
  refine⟨_,rfl,qHU (s:={ s with heap:=h',toks:=tk }) (n:="range_iterator") st' rfl rfl (by decide) ⟨.int (lo+i),H,I1,⟨t,?_⟩,⟨rfl,rfl⟩,st',λb hb=>(hf b hb).1⟩⟩
  rw [Int.mul_one]
 done:=by
  intro X hP hw hK hc i pins s σ H E I hf st hg
  subst hP hw hK
  obtain⟨f0,f1,f2,f3,f4,f5⟩:=hf it (by simp)
  exact wpAny_pyNext_range_end (I.ok.hd hc) st (by have:n<=i:=hg;omega) λh' eb=>⟨rfl,I.turned (t':=s.toks) (λb o hb e=>eb b o hb e) f0 f1 f3 f4 f5⟩
 self:=λ_ _ _ _ _ st h=>wpAny_pyIter_rangeiter st h
end L2
namespace L2
open PySem PySem.Spec PyProof.Rows
section
variable {X:Cx}{tg:Expr}
theorem qJw {pins:List (Addr×Obj)}{σ:St}{H:Hp}{s:Shared}{R:It->Hp->Prop}{E:Value->Shared->Prop}{lo hi:Int}{t u v:Tok}{tk:Nat}(I:Inv X pins σ H s) (h1:-(2^62)<=lo) (h2:lo<2^62) (h3:-(2^62)<=hi) (h4:hi<2^62)
  (q:R (Itr lo (hi - lo).toNat) H):wpAny (model X.prog X.w) X.A (pyIter (.ref s.heap.objs.size)) (PIE X pins σ tg R) E { s with heap:=s.heap.push { cls:=.type "range",data:=.fields #[.int lo t,.int hi u,.int 1 v] },toks:=tk }:=by
 refine wpAny_pyIter_range (IsRange.new ..) (small_one h1 h2 h3 h4) ?_
 have I1:Inv X pins σ H { s with heap:=s.heap.push { cls:=.type "range",data:=.fields #[.int lo t,.int hi u,.int 1 v] },toks:=tk }:=I.kept λb o e=>Heap.get?_push_of_some _ e
 refine⟨(s.heap.push { cls:=.type "range",data:=.fields #[.int lo t,.int hi u,.int 1 v] }).objs.size,[(s.heap.push { cls:=.type "range",data:=.fields #[.int lo t,.int hi u,.int 1 v] }).objs.size],_,_,H,rfl,
  I1.kept (t':=tk) λb o e=>Heap.get?_push_of_some _ e,qGl _ lo (hi - lo).toNat,?_,λb hb=>?_,q⟩
 ·have e1:lo+((0:Nat):Int) * 1=lo:=by simp
  have e2:(((hi - lo).toNat:Nat):Int) - ((0:Nat):Int)=Builtin.Range.rangeSize lo hi 1:=by rw [rangeSize_one];split<;>omega
  show IsRangeIter _ _ (lo+((0:Nat):Int) * 1) ((((hi - lo).toNat:Nat):Int) - ((0:Nat):Int)) 1
  rw [e1,e2]
  exact Heap.get?_push_size _ rfl
 ·have e:b=(s.heap.push { cls:=.type "range",data:=.fields #[.int lo t,.int hi u,.int 1 v] }).objs.size:=by simpa using hb
  subst e
  exact I1.fpOk (Nat.le_refl _) (I1.hok.fresh (Nat.le_refl _))
noncomputable def qQA (ta:TA):TI:=fun σ H R=>ta σ H λvs H1=>∃j:Int,vs=[.int j]/\-(2^62)<=j/\j<2^62/\R (Itr 0 j.toNat) H1
theorem qHs {a:Expr}{ta:TA}{p pos:Pos}(hg:Gl X "range") (hm:X.mg "range"=none) (ha:PA X [a] ta) (hs:starEach [a] X.env=[(false,eval a X.env)]:=by rfl):PI X tg (.Call (.Name "range" p) [a] [] pos) (qQA ta):=by
 intro pins s σ H R I h
 refine Call_ (qCu I hg hm boot_range (PyProof.Rows.callWith_type1 (thn (ha pos pins s σ H _ I h) λus s1 ⟨vs,H1,I1,r1,q1⟩=>?_) hs rfl))
 obtain⟨j,e,q1,q2,q⟩:=q1
 subst e
 cases r1 with
 | cons r rr =>
  cases rr
  obtain⟨t,rfl⟩:=r
  exact call_range_1 (qJw I1 (by omega) (by omega) q1 q2 (by simpa using q))
noncomputable def qRx (wi:TI) (g:TG) (tb:TS):TS:=λD σ H=>wi σ H λJ H1=>∃W:Nat->Nat->St->Hp->Prop,(∃m,W 0 m σ H1)/\∀i m σ H,W i m σ H ->
 (J.stop i H/\D.nx σ H)∨(J.go i H/\∃N:St->Hp->Prop,(∀σ' H',N σ' H'->∃m',m'<m/\W (i+1) m' σ' H')/\∀x H',J.yld i H x H'->g x σ H' fun σ2 H2=>tb { D with nx:=N,ct:=N,bk:=D.nx } σ2 H2)
noncomputable def qFI (fp:List Addr) (h:Heap):List (Addr×Obj):=fp.filterMap λb=>(h.get? b).map λo=>(b,o)
theorem qBX {fp:List Addr}{h:Heap}{b:Addr}{o:Obj}(hb:b∈fp) (e:h.get? b=some o):(b,o)∈qFI fp h:=List.mem_filterMap.mpr ⟨b,hb,by rw [e];rfl⟩
theorem qHx {fp:List Addr}{h:Heap}{p:Addr×Obj}(hp:p∈qFI fp h):p.1∈fp/\h.get? p.1=some p.2:=by
 obtain⟨b,hb,e⟩:=List.mem_filterMap.mp hp
 cases q:h.get? b with
 | none=>rw [q] at e;cases e
 | some o =>
  rw [q] at e
  have e':(b,o)=p:=Option.some.inj e
  subst e'
  exact⟨hb,q⟩
theorem Inv.pinned {pins:List (Addr×Obj)}{σ:St}{H:Hp}{s:Shared}{fp:List Addr}(I:Inv X pins σ H s) (hf:∀b∈fp,qEW X pins H b) (ho:∀b∈fp,∃o,s.heap.get? b=some o/\∀v,o.data≠.cell v):Inv X (pins++qFI fp s.heap) σ H s:=
 I.pins_of λp hp=>(List.mem_append.mp hp).elim (λz=>I.pin p (List.mem_append_right _ z)) λz=>by
  obtain⟨hb,e⟩:=qHx z
  obtain⟨f0,f1,f2,_⟩:=hf p.1 hb
  obtain⟨o,e',d⟩:=ho p.1 hb
  rw [e] at e';cases e'
  exact⟨e,f0,f1,f2,d⟩
theorem Inv.unpinned {pins pl:List (Addr×Obj)}{σ:St}{H:Hp}{s:Shared}(I:Inv X (pins++pl) σ H s):Inv X pins σ H s:=I.pins_of λp hp=>I.pin p (List.mem_append_right _ (List.mem_append_left _ hp))
theorem qN3 {iter:Expr}{body:List Stmt}{wi:TI}{g:TG}{tb:TS}{pos:Pos}(hp:PassesOwn (model X.prog X.w) X.A X.env X.xe) (hc:X.calm=true) (hi:PI X tg iter wi) (hg:PG X tg g) (hb:PSs X body tb)
  (hs:∀x,foldedSetIterable iter X.env x=pure x:=by intro _;rfl):PS X (.For tg iter body [] pos) (qRx wi g tb):=by
 intro pins s σ H D I h
 refine wpAny_For (thn (hi pins s σ H _ I h) λv s1 h1=>thn h1 λitv s2 h2=>?_) hs
 obtain⟨it,fp,tn,J,H2,e,I2,T,st2,f2,W,⟨m0,w0⟩,turn⟩:=h2
 subst e
 have stat:∀{H':Hp},(∀b∈fp,H' b=none)->∀b∈fp,qEW X pins H' b:=λhn b hb=>⟨hn b hb,(f2 b hb).2⟩
 refine codeAny_forLoop_any (λn s'=>∃i σ' H',Inv X pins σ' H' s'/\tn i s'.heap/\(∀b∈fp,H' b=none)/\W i n σ' H') ?_ m0 ⟨0,σ,H2,I2,st2,λb hb=>(f2 b hb).1,w0⟩
 rintro n s3 ⟨i,σ3,H3,I3,st3,fr3,w3⟩
 rcases turn i n σ3 H3 w3 with ⟨stop,qn⟩|⟨go,N,hN,step⟩
 ·refine wpAny_passesOwn hp (thn (T.done X rfl rfl rfl hc i pins s3 σ3 H3 X.xe I3 (stat fr3) st3 stop) λr s4 ⟨hr,I4⟩=>?_)
  subst hr
  exact wpAny_execs_nil ⟨σ3,H3,I4,qn⟩
 ·refine wpAny_passesOwn hp (thn (T.item X rfl rfl rfl hc i pins s3 σ3 H3 X.xe I3 (stat fr3) st3 go) λr s4 ⟨u,hr,h4⟩=>?_)
  subst hr
  refine wpAny_passesOwn hp (thn h4 λ_ s5 ⟨x,H5,I5,r5,y5,st5,fr5⟩=>?_)
  have I5':=I5.pinned (stat fr5) (T.obj _ _ st5)
  refine wpAny_passesOwn hp (thn (hg _ s5 σ3 H5 x u _ I5' r5 (step x H5 y5)) λ_ s6 ⟨σ6,H6,I6,q6⟩=>?_)
  refine wpAny_passesOwn hp (thn (hb _ s6 σ6 H6 _ I6 q6) λf s7 q7=>?_)
  have again:∀{σ7:St} {H7:Hp},Inv X (pins++qFI fp s5.heap) σ7 H7 s7->N σ7 H7->∃m,m<n/\∃i σ' H',Inv X pins σ' H' s7/\tn i s7.heap/\(∀b∈fp,H' b=none)/\W i m σ' H':=λ{σ7 H7} I7 n7=>by
   obtain⟨m',hm,w7⟩:=hN σ7 H7 n7
   refine⟨m',hm,i+1,σ7,H7,I7.unpinned,T.keep _ _ _ st5 λb hb o e=>(I7.pin (b,o) (List.mem_append_right _ (List.mem_append_right _ (qBX hb e)))).1,λb hb=>?_,w7⟩
   obtain⟨o,e,d⟩:=T.obj _ _ st5 b hb
   exact (I7.pin (b,o) (List.mem_append_right _ (List.mem_append_right _ (qBX hb e)))).2.1
  cases f with
  | next=>obtain⟨σ7,H7,I7,n7⟩:=q7;exact again I7 n7
  | cont=>obtain⟨σ7,H7,I7,n7⟩:=q7;exact again I7 n7
  | brk=>obtain⟨σ7,H7,I7,q7⟩:=q7;exact⟨σ7,H7,I7.unpinned,q7⟩
  | ret v=>obtain⟨x7,σ7,H7,I7,r7,q7⟩:=q7;exact⟨x7,σ7,H7,I7.unpinned,r7,q7⟩
end
end L2
namespace L2
open PySem PySem.Spec PyProof.Rows
noncomputable abbrev R2:=V->V->Hp->VK->Prop
noncomputable def OpR (X:Cx) (f:Value->Value->Sem Value) (r:R2):Prop:=
 ∀(pins:List (Addr×Obj)) (s:Shared) (σ:St) (H:Hp) (x y:V) (v u:Value) (Q:VK),Inv X pins σ H s->RelV x v->RelV y u->r x y H Q ->
   wpAny (model X.prog X.w) X.A (f v u) (EP X pins σ Q) X.xe s
noncomputable def UnR (X:Cx) (f:Value->Sem Value) (r:V->Hp->VK->Prop):Prop:=
 ∀(pins:List (Addr×Obj)) (s:Shared) (σ:St) (H:Hp) (x:V) (v:Value) (Q:VK),Inv X pins σ H s->RelV x v->r x H Q ->
   wpAny (model X.prog X.w) X.A (f v) (EP X pins σ Q) X.xe s
noncomputable def CallR (X:Cx) (f:Value) (r:List V->Hp->VK->Prop):Prop:=
 ∀(pins:List (Addr×Obj)) (s:Shared) (σ:St) (H:Hp) (xs:List V) (us:List Value) (Q:VK),Inv X pins σ H s->Vals xs us->r xs H Q ->
   wpAny (model X.prog X.w) X.A (call f us) (EP X pins σ Q) X.xe s
noncomputable def tOp (r:R2) (ta tb:TE):TE:=fun σ H Q=>ta σ H λx H1=>tb σ H1 λy H2=>r x y H2 Q
noncomputable def tUn (r:V->Hp->VK->Prop) (ta:TE):TE:=fun σ H Q=>ta σ H λx H1=>r x H1 Q
noncomputable def rI (C:Int->Int->Prop) (g:Int->Int->V):R2:=λx y H Q=>∃i j,x=.int i/\y=.int j/\C i j/\Q (g i j) H
noncomputable def rI0 (g:Int->Int->V):R2:=λx y H Q=>∃i j,x=.int i/\y=.int j/\Q (g i j) H
noncomputable def rU (g:Int->V):V->Hp->VK->Prop:=λx H Q=>∃i,x=.int i/\Q (g i) H
section
variable {X:Cx}{a b c:Expr}{ta tb tc:TE}{pos:Pos}
theorem qQQ (ha:PE X a ta) (hb:PE X b tb) {pins:List (Addr×Obj)}{s:Shared}{σ:St}{H:Hp}{R:V->V->Hp->Prop}(I:Inv X pins σ H s)
  (h:ta σ H λx H1=>tb σ H1 λy H2=>R x y H2) {Q:Value->Shared->Prop}{f:Value->Value->Sem Value}
  (hf:∀v u s2 x y H2,Inv X pins σ H2 s2->RelV x v->RelV y u->R x y H2->wpAny (model X.prog X.w) X.A (f v u) Q X.xe s2) :
  wpAny (model X.prog X.w) X.A (eval a X.env) (λv s₁=>wpAny (model X.prog X.w) X.A (eval b X.env) (λu s₂=>wpAny (model X.prog X.w) X.A (f v u) Q X.xe s₂) X.xe s₁) X.xe s:=by
 refine thn (ha pins s σ H _ I h) λv s1 ⟨x,H1,I1,r1,q1⟩=>?_
 refine thn (hb pins s1 σ H1 _ I1 q1) λu s2 ⟨y,H2,I2,r2,q2⟩=>?_
 exact hf v u s2 x y H2 I2 r1 r2 q2
theorem qQg {op:Operator}{r:R2}(ho:OpR X (binaryOp op) r) (ha:PE X a ta) (hb:PE X b tb):PE X (.BinOp a op b pos) (tOp r ta tb):=by
 intro pins s σ H Q I h
 exact wpAny_BinOp (qQQ ha hb I h λv u s2 x y H2 I2 rx ry q=>ho pins s2 σ H2 x y v u Q I2 rx ry q)
theorem qQe {op:UnaryOp}{r:V->Hp->VK->Prop}(ho:UnR X (unaryOp op) r) (ha:PE X a ta):PE X (.UnaryOp op a pos) (tUn r ta):=by
 intro pins s σ H Q I h
 exact UnaryOp_ (thn (ha pins s σ H _ I h) λv s1 ⟨x,H1,I1,r1,q1⟩=>ho pins s1 σ H1 x v Q I1 r1 q1)
theorem opI {f:Value->Value->Sem Value}{C:Int->Int->Prop}{g:Int->Int->Int}
  (rule:∀(i j:Int) (t u:Tok) (s:Shared) (Q:Value->Shared->Prop) (E:Value->Shared->Prop),C i j->Q (.int (g i j) s.toks) { s with toks:=s.toks+1 }->wpAny (model X.prog X.w) X.A (f (.int i t) (.int j u)) Q E s) :
  OpR X f (rI C λi j=>.int (g i j)):=by
 intro pins s σ H x y v u Q I rx ry h
 obtain⟨i,j,rfl,rfl,hc,q⟩:=h
 obtain⟨t,rfl⟩:=rx
 obtain⟨t',rfl⟩:=ry
 exact rule i j t t' s _ _ hc ⟨.int (g i j),H,I.tok _,⟨_,rfl⟩,q⟩
theorem qQ2 {f:Value->Value->Sem Value}{g:Int->Int->Int}
  (rule:∀(i j:Int) (t u:Tok) (s:Shared) (Q:Value->Shared->Prop) (E:Value->Shared->Prop),Q (.int (g i j) s.toks) { s with toks:=s.toks+1 }->wpAny (model X.prog X.w) X.A (f (.int i t) (.int j u)) Q E s) :
  OpR X f (rI0 λi j=>.int (g i j)):=by
 intro pins s σ H x y v u Q I rx ry h
 obtain⟨i,j,rfl,rfl,q⟩:=h
 obtain⟨t,rfl⟩:=rx
 obtain⟨t',rfl⟩:=ry
 exact rule i j t t' s _ _ ⟨.int (g i j),H,I.tok _,⟨_,rfl⟩,q⟩
theorem qPz {f:Value->Value->Sem Value}{g:Int->Int->Bool}
  (rule:∀(i j:Int) (t u:Tok) (s:Shared) (Q:Value->Shared->Prop) (E:Value->Shared->Prop),Q (.bool (g i j)) s->wpAny (model X.prog X.w) X.A (f (.int i t) (.int j u)) Q E s) :
  OpR X f (rI0 λi j=>.bl (g i j)):=by
 intro pins s σ H x y v u Q I rx ry h
 obtain⟨i,j,rfl,rfl,q⟩:=h
 obtain⟨t,rfl⟩:=rx
 obtain⟨t',rfl⟩:=ry
 exact rule i j t t' s _ _ ⟨.bl (g i j),H,I,rfl,q⟩
theorem op_add:OpR X (binaryOp .Add) (rI0 λi j=>.int (i+j)):=qQ2 λ_ _ _ _ _ _ _ q=>add_int q
theorem qOn:OpR X (binaryOp .Sub) (rI0 λi j=>.int (i - j)):=qQ2 λ_ _ _ _ _ _ _ q=>sub_int q
theorem unI {f:Value->Sem Value}{g:Int->Int}
  (rule:∀(i:Int) (t:Tok) (s:Shared) (Q:Value->Shared->Prop) (E:Value->Shared->Prop),Q (.int (g i) s.toks) { s with toks:=s.toks+1 }->wpAny (model X.prog X.w) X.A (f (.int i t)) Q E s) :
  UnR X f (rU λi=>.int (g i)):=by
 intro pins s σ H x v Q I rx h
 obtain⟨i,rfl,q⟩:=h
 obtain⟨t,rfl⟩:=rx
 exact rule i t s _ _ ⟨.int (g i),H,I.tok _,⟨_,rfl⟩,q⟩
theorem qNo:UnR X (unaryOp .USub) (rU λi=>.int (-i)):=unI λ_ _ _ _ _ q=>neg_int q
end
section
variable {X:Cx}{a b c:Expr}{ta tb tc:TE}{pos:Pos}
theorem qQm:OpR X (compareOp .Lt) (rI0 λi j=>.bl (decide (i<j))):=qPz λ_ _ _ _ _ _ _ q=>lt_int q
theorem qQn:OpR X (compareOp .LtE) (rI0 λi j=>.bl (decide (i<=j))):=qPz λ_ _ _ _ _ _ _ q=>le_int q
theorem qQo:OpR X (compareOp .Gt) (rI0 λi j=>.bl (decide (j<i))):=qPz λ_ _ _ _ _ _ _ q=>gt_int q
theorem qQp:OpR X (compareOp .GtE) (rI0 λi j=>.bl (decide (j<=i))):=qPz λ_ _ _ _ _ _ _ q=>ge_int q
theorem OpR.or {f:Value->Value->Sem Value}{r r':R2}(h:OpR X f r) (h':OpR X f r'):OpR X f (λx y H Q=>r x y H Q∨r' x y H Q):=by
 intro pins s σ H x y v u Q I rx ry q
 rcases q with q|q
 ·exact h pins s σ H x y v u Q I rx ry q
 ·exact h' pins s σ H x y v u Q I rx ry q
theorem qOt (b:Expr) {op:CmpOp}(h:op≠.In:=by decide) (h2:op≠.NotIn:=by decide):behindInMarks op b=false:=by
 have e1:(op == CmpOp.In)=false:=by cases op<;>first|rfl|exact absurd rfl h
 have e2:(op == CmpOp.NotIn)=false:=by cases op<;>first|rfl|exact absurd rfl h2
 cases b<;>simp [behindInMarks,e1,e2]
theorem qHu {op:CmpOp}{r:R2}(ho:OpR X (compareOp op) r) (ha:PE X a ta) (hb:PE X b tb) (hm:behindInMarks op b=false):PE X (.Compare a [op] [b] pos) (tOp r ta tb):=by
 intro pins s σ H Q I h
 exact wpAny_Compare1 (qQQ ha hb I h λv u s2 x y H2 I2 rx ry q=>ho pins s2 σ H2 x y v u Q I2 rx ry q) hm
noncomputable def qPU (t:TE):TT:=fun σ H Q=>t σ H λx H'=>∃k,x=.bl k/\Q k H'
theorem qHm {op:CmpOp}{r:R2}(ho:OpR X (compareOp op) r) (ha:PE X a ta) (hb:PE X b tb) (hm:behindInMarks op b=false):PT X (.Compare a [op] [b] pos) (qPU (tOp r ta tb)):=by
 intro pins s σ H Q I h
 refine wpAny_isTrue_Compare1 (thn (ha pins s σ H _ I h) λv s1 ⟨x,H1,I1,r1,q1⟩=>thn (hb pins s1 σ H1 _ I1 q1) λu s2 ⟨y,H2,I2,r2,q2⟩ =>
  thn (ho pins s2 σ H2 x y v u _ I2 r1 r2 q2) λc s3 ⟨z,H3,I3,r3,k,e,q3⟩=>?_) hm
 subst e
 cases r3
 exact wpAny_truthy_bool ⟨H3,I3,q3⟩
theorem qHF:(sizeLine:Nat)<2^63:=by rw [sizeLine_eq];decide
theorem qGu:OpR X (binaryOp .Add) (λx y H Q=>∃i j,x=.str i/\y=.str j/\i.length+j.length<=sizeLine/\Q (.str (i++j)) H):=by
 intro pins s σ H x y v u Q I rx ry h
 obtain⟨i,j,rfl,rfl,hz,q⟩:=h
 obtain⟨t,rfl⟩:=rx
 obtain⟨t',rfl⟩:=ry
 exact add_str (λt' tk=>⟨.str (i++j),H,I.tok _,⟨_,rfl⟩,q⟩) hz
theorem qB1 {x:V}{us:List Value}(r:Vals [x] us):∃u,us=[u]/\RelV x u:=by
 cases r with
 | cons r1 r2=>cases r2;exact⟨_,rfl,r1⟩
theorem qK5 {x y:V}{us:List Value}(r:Vals [x,y] us):∃u w',us=[u,w']/\RelV x u/\RelV y w':=by
 cases r with
 | cons r1 r2 =>
  cases r2 with
  | cons r3 r4=>cases r4;exact⟨_,_,rfl,r1,r3⟩
theorem qIz (hc:X.calm=true):CallR X (.builtin "max") (λxs H Q=>∃i j,xs=[.int i,.int j]/\Q (.int (if j > i then j else i)) H):=by
 intro pins s σ H xs us Q I r h
 obtain⟨i,j,rfl,q⟩:=h
 obtain⟨u,w',rfl,⟨t,rfl⟩,⟨t',rfl⟩⟩:=qK5 r
 refine max_two_ints (I.ok.hd hc) λh' tk k=>⟨_,H,I.kept k,?_,q⟩
 by_cases hj:j > i
 ·rw [if_pos hj,if_pos hj];exact⟨_,rfl⟩
 ·rw [if_neg hj,if_neg hj];exact⟨_,rfl⟩
theorem qIw (hc:X.calm=true):CallR X (.builtin "min") (λxs H Q=>∃i j,xs=[.int i,.int j]/\Q (.int (if j<i then j else i)) H):=by
 intro pins s σ H xs us Q I r h
 obtain⟨i,j,rfl,q⟩:=h
 obtain⟨u,w',rfl,⟨t,rfl⟩,⟨t',rfl⟩⟩:=qK5 r
 refine min_two_ints (I.ok.hd hc) λh' tk k=>⟨_,H,I.kept k,?_,q⟩
 by_cases hj:j<i
 ·rw [if_pos hj,if_pos hj];exact⟨_,rfl⟩
 ·rw [if_neg hj,if_neg hj];exact⟨_,rfl⟩
theorem qIC:CallR X (.type "int") (λxs H Q=>(∃i,xs=[.int i]/\Q (.int i) H)∨∃k,xs=[.bl k]/\Q (.int (if k then 1 else 0)) H):=by
 intro pins s σ H xs us Q I r h
 rcases h with ⟨i,rfl,q⟩|⟨k,rfl,q⟩
 ·obtain⟨u,rfl,t,rfl⟩:=qB1 r
  exact call_int_int ⟨.int i,H,I,⟨_,rfl⟩,q⟩
 ·obtain⟨u,rfl,r1⟩:=qB1 r
  cases r1
  exact call_int_bool ⟨.int (if k then 1 else 0),H,I.tok _,⟨_,rfl⟩,q⟩
end
end L2
namespace L2
open PySem PySem.Spec PyProof.Rows
structure ObjM (h:Heap) (x dx C:Addr) (mA:Str->Option Value):Prop where
 obj:h.get? x=some (PySem.W.instObj C dx)
 ns:h.Ns1 dx mA
 ne:dx≠x
theorem qHE {h:Heap}{dx:Addr}{mA:Str->Option Value}(n:h.Ns1 dx mA):∃od,h.get? dx=some od/\∀name,PySem.W.lookIn name od=some (mA name):=by
 obtain⟨o,es,ep,ho,hd,hk,_,hm⟩:=n
 refine⟨o,ho,λname=>?_⟩
 have e:=hm name
 unfold nsFind findBy at e
 rw [<-Array.find?_toList] at e
 unfold PySem.W.lookIn
 rw [hd]
 dsimp only
 split
 ·rename_i y q
  rw [q] at e
  exact congrArg some e
 ·rename_i q
  rw [q] at e
  have a:es.toList.any (·.refKey)=false:=by
   rw [List.any_eq_false]
   intro y hy
   obtain⟨z,t,hkey⟩:=hk y (Array.mem_toList_iff.mp hy)
   simp [DictEntry.refKey,hkey]
  have a':¬es.toList.any (·.refKey)=true:=by rw [a];exact Bool.false_ne_true
  rw [if_neg a']
  exact congrArg some e
theorem ObjM.look {h:Heap}{x dx C:Addr}{mA:Str->Option Value}(I:ObjM h x dx C mA):∃od,PySem.W.InstAt h x (PySem.W.instObj C dx) C (some od)/\∀name,PySem.W.lookIn name od=some (mA name):=
 let ⟨od,ho,hl⟩:=qHE I.ns
 ⟨od,⟨I.obj,rfl,rfl,ho⟩,hl⟩
section
variable {prog:Program}{w:World}{A:Around}{E:Value->Shared->Prop}{s:Shared}{K:PySem.W.Frag}{x dx C f:Addr}{mA:Str->Option Value}{name:Str}{v:Value}
theorem qLP {ns:List Str}{Q:Unit->Shared->Prop}(X:K.In s.heap) (I:ObjM s.heap x dx C mA)
  (hs:PySem.W.findIn K (.ref C) "__setattr__"=some (some (.builtin "object.__setattr__"))) (hp:PySem.W.plainOver K C=true) (ht:PySem.W.takerIn K C name=some none) (hh:PySem.W.hasDictIn K C=true)
  (hw:PySem.Within mA ns) (hsz:ns.length<=sizeLine)
  (h:∀h',ObjM h' x dx C (λy=>if y=name then some v else mA y)->Heap.SameBut dx s.heap h'->Q () { s with heap:=h',toks:=s.toks+2 }) :
  wpAny (model prog w) A (setAttr (.ref x) name v) Q E s:=by
 obtain⟨od,J,hl⟩:=I.look
 refine PySem.W.set_plain X J hs (PySem.W.osa_open (s:={ s with toks:=s.toks+1 }) (r:=none) X J hp ht λb=>?_)
 obtain⟨cd,hc,hd'⟩:=PySem.W.any_some hh
 have hx:s.heap.get? x=some ⟨.ref C,some dx,.plain,#[]⟩:=I.obj
 refine wpAny_bind (wpAny_pure (wpAny_bind (wpAny_bind (wpAny_loadPart hx (wpAny_bind (PySem.W.Looks.here (s:={ s with toks:=s.toks+1 }) (PySem.W.looks_clsIn X hc) ?_))))))
 rw [hd']
 refine wpAny_pure (a:=some dx) (wpAny_bind (wpAny_pure (wpAny_bind ?_)))
 refine wpAny_nsSet1 (s:={ s with toks:=s.toks+1 }) I.ns λh' hn2 hs2=>?_
 obtain⟨oD,esD,epD,hoD,hdD,hcD⟩:=hn2.count (PySem.Within.cons name v hw)
 refine wpAny_bind (wpAny_lookBehind hoD (by rw [hdD];exact pastItsLine_dict (Nat.le_trans hcD (by rw [List.length_cons];omega))) ?_)
 exact wpAny_pure (h _ ⟨(hs2.2 _ (Ne.symm I.ne)).trans I.obj,hn2,I.ne⟩ hs2)
end
noncomputable def qDk (f:Str) (v:V):List (Str×V)->List (Str×V)
 | []=>[(f,v)]
 | (g,x)::r=>if g=f then (g,v)::r else (g,x)::qDk f v r
theorem qCX (f g:Str) (v:V):∀fs:List (Str×V),(qDk f v fs).lookup g=if g=f then some v else fs.lookup g
 | []=>by
  show List.lookup g [(f,v)]=_
  by_cases h:g=f
  ·have hb:(g == f)=true:=beq_iff_eq.mpr h
   simp only [List.lookup,hb,if_pos h]
  ·have hb:(g == f)=false:=beq_eq_false_iff_ne.mpr h
   simp only [List.lookup,hb,if_neg h]
 | (k,x)::r=>by
  have ih:=qCX f g v r
  rw [show qDk f v ((k,x)::r)=(if k=f then (k,v)::r else (k,x)::qDk f v r) from rfl]
  by_cases hk:k=f
  ·rw [if_pos hk]
   by_cases h:g=k
   ·have hb:(g == k)=true:=beq_iff_eq.mpr h
    simp only [List.lookup,hb,if_pos (h.trans hk)]
   ·have hb:(g == k)=false:=beq_eq_false_iff_ne.mpr h
    simp only [List.lookup,hb,if_neg (λe:g=f=>h (e.trans hk.symm))]
  ·rw [if_neg hk]
   by_cases h:g=k
   ·have hb:(g == k)=true:=beq_iff_eq.mpr h
    simp only [List.lookup,hb,if_neg (λe:g=f=>hk (h.symm.trans e))]
   ·have hb:(g == k)=false:=beq_eq_false_iff_ne.mpr h
    simp only [List.lookup,hb]
    exact ih
theorem qCZ (f:Str) (v:V):∀fs:List (Str×V),f∈(qDk f v fs).map (·.1)/\∀g,g∈fs.map (·.1)->g∈(qDk f v fs).map (·.1)
 | []=>⟨by simp [qDk],λg h=>by simp at h⟩
 | (k,x)::r=>by
  obtain⟨i1,i2⟩:=qCZ f v r
  rw [show qDk f v ((k,x)::r)=(if k=f then (k,v)::r else (k,x)::qDk f v r) from rfl]
  by_cases hk:k=f
  ·rw [if_pos hk]
   subst hk
   exact⟨by simp,λg h=>by simpa using h⟩
  ·rw [if_neg hk]
   refine⟨?_,λg h=>?_⟩
   ·rw [List.map_cons]
    exact List.mem_cons_of_mem _ i1
   ·rw [List.map_cons] at h ⊢
    rcases List.mem_cons.mp h with e|e
    ·exact List.mem_cons.mpr (.inl e)
    ·exact List.mem_cons_of_mem _ (i2 g e)
theorem qCY (f:Str) (v:V):∀fs:List (Str×V),(qDk f v fs).length<=fs.length+1
 | []=>by simp [qDk]
 | (k,x)::r=>by
  have ih:=qCY f v r
  rw [show qDk f v ((k,x)::r)=(if k=f then (k,v)::r else (k,x)::qDk f v r) from rfl]
  by_cases hk:k=f
  ·rw [if_pos hk,List.length_cons,List.length_cons];omega
  ·rw [if_neg hk,List.length_cons,List.length_cons];omega
section
variable {P:Program}{w:World}{H H':Hp}{h h':Heap}{a C dx:Addr}{fs fs':List (Str×V)}
theorem qMK (hok:HOk P w H h) (e:H a=some (.ins C dx fs)):∃mA,ObjM h a dx C mA/\(∀f,qPI (fs.lookup f) (mA f))/\PySem.Within mA (fs.map (·.1))/\fs.length<=1000/\H dx=some (.own a):=by
 obtain⟨d,z,ne,ob,mA,n,r,q⟩:=(show ObjOk P w H h a (.ins C dx fs) from hok a _ e)
 exact⟨mA,⟨ob,n,ne⟩,r,q,z,d⟩
end
structure Cls (K:PySem.W.Frag) (C:Addr):Prop where
 pg:PySem.W.plainGet K C Str.empty=true
 hd:PySem.W.hasDictIn K C=true
 po:PySem.W.plainOver K C=true
 sa:PySem.W.findIn K (.ref C) "__setattr__"=some (some (.builtin "object.__setattr__"))
noncomputable def NoAttr (K:PySem.W.Frag) (C:Addr) (f:Str):Prop:=PySem.W.findIn K (.ref C) f=some none
theorem NoAttr.taker {K:PySem.W.Frag}{C:Addr}{f:Str}(n:NoAttr K C f):PySem.W.takerIn K C f=some none:=by
 unfold PySem.W.takerIn
 rw [show PySem.W.findIn K (.ref C) f=some none from n]
 rfl
structure Con (K:PySem.W.Frag) (C:Addr) (f:Str) (v:V) (u:Value):Prop where
 at_:PySem.W.findIn K (.ref C) f=some (some u)
 rel:RelV v u
 get:PySem.W.specialIn K u "__get__"=some none
 cp:PySem.W.copiedNames.contains f=false
structure Meth (K:PySem.W.Frag) (C:Addr) (m:Str) (f:Addr):Prop where
 at_:PySem.W.findIn K (.ref C) m=some (some (.ref f))
 fn:PySem.W.isFn K (.ref f)=true
 kp:PySem.W.keepIn K (.ref f)=true
section
variable {X:Cx}{pins:List (Addr×Obj)}{σ:St}{H:Hp}{s:Shared}{a C dx:Addr}{fs:List (Str×V)}{f:Str}{v:V}{A:Around}{E:Value->Shared->Prop}
theorem qGq {y:V}{u:Value}{Q:Unit->Shared->Prop}(I:Inv X pins σ H s) (e:H a=some (.ins C dx fs)) (c:Cls X.K C) (n:NoAttr X.K C f) (hl:fs.length<1000) (ry:RelV y u)
  (h:∀s',Inv X pins σ (upd H a (.ins C dx (qDk f y fs))) s'->Q () s'):wpAny (model X.prog X.w) A (setAttr (.ref a) f u) Q E s:=by
 obtain⟨mA,O,r,wi,_,ho⟩:=qMK I.hok e
 have hz:(fs.map (·.1)).length<=sizeLine:=by rw [List.length_map,sizeLine_eq];omega
 refine qLP I.kIn O c.sa c.po n.taker c.hd wi hz λh' O' sb=>h _ ?_
 have hd:∃o,h'.get? dx=some o:=let ⟨o,_,_,e',_⟩:=O'.ns;⟨o,e'⟩
 refine I.write (x:=a) (e:=dx) (by rw [e];exact True.intro) (.inr ho) (λb q hb z=>(sb.2 b hb).trans z) hd ?_
 refine⟨by rw [qAc O.ne];exact ho,?_,O.ne,O'.obj,_,O'.ns,λg=>?_,λg hg=>?_⟩
 ·have:=qCY f y fs;omega
 ·show qPI ((qDk f y fs).lookup g) (if g=f then some u else mA g)
  rw [qCX]
  by_cases q:g=f
  ·rw [if_pos q,if_pos q];exact ry
  ·rw [if_neg q,if_neg q];exact r g
 ·by_cases q:g=f
  ·rw [q];exact (qCZ f y fs).1
  ·refine (qCZ f y fs).2 g (wi g λz=>hg ?_)
   show (if g=f then some u else mA g)=none
   rw [if_neg q];exact z
end
noncomputable def qRD (K:PySem.W.Frag) (ta tv:TE) (f:Str):TS:=λD σ H=>tv σ H λy H1=>ta σ H1 λx H2=>∃a C dx fs,x=.ref a/\H2 a=some (.ins C dx fs)/\Cls K C/\NoAttr K C f/\fs.length<1000 /\
 D.nx σ (upd H2 a (.ins C dx (qDk f y fs)))
section
variable {X:Cx}{o e value:Expr}{f:Str}{pos pos' tpos:Pos}{ta tv:TE}
theorem qN4 (ha:PE X o ta) (hv:PE X value tv) (hs:swapsWith value (some (.Attribute o f pos')) pos.line X.env=pure false):PS X (.Assign [.Attribute o f pos'] value pos) (qRD X.K ta tv f):=by
 intro pins s σ H D I h
 refine plainObj_wpAny_Assign_Attribute (thn (hv pins s σ H _ I h) λu s1 ⟨y,H1,I1,ry,q⟩=>thn (ha pins s1 σ H1 _ I1 q) λov s2 ⟨x,H2,I2,rx,a,C,dx,fs,ex,ea,c,n,l,q2⟩=>?_) hs
 subst ex
 obtain rfl:ov=Value.ref a:=rx
 exact qGq I2 ea c n l ry λs3 I3=>⟨σ,_,I3,q2⟩
end
section
variable {X:Cx}{pins:List (Addr×Obj)}{σ:St}{H:Hp}{s:Shared}{A:Around}{E:Value->Shared->Prop}{Q:Value->Shared->Prop}{c:Value}{b:Bool}
inductive TyOf (K:PySem.W.Frag) (H:Hp):V->Value->Prop where
 | non:TyOf K H .non (.type "NoneType")
 | bl (x:Bool):TyOf K H (.bl x) (.type "bool")
 | int (i:Int):TyOf K H (.int i) (.type "int")
 | str (x:Str):TyOf K H (.str x) (.type "str")
 | flt (x:UInt64):TyOf K H (.flt x) (.type "float")
 | lst {a:Addr} {xs:List V} (e:H a=some (.lst xs)):TyOf K H (.ref a) (.type "list")
 | frz {a:Addr} {o:Obj} {xs:List V} (e:H a=some (.frz o (.lst xs))):TyOf K H (.ref a) (.type "list")
 | tup {a:Addr} {xs:List V} (e:H a=some (.tup xs)):TyOf K H (.ref a) (.type "tuple")
 | dK {a:Addr} {kvs:List (Key×V)} (e:H a=some (.dK kvs)):TyOf K H (.ref a) (.type "dict")
 | dT {a:Addr} {kvs:List (List Key×V)} (e:H a=some (.dT kvs)):TyOf K H (.ref a) (.type "dict")
 | ins {a C dx:Addr} {fs:List (Str×V)} (e:H a=some (.ins C dx fs)) (cl:Cls K C) (ha:PySem.W.findIn K (.ref C) "__class__"=some (some (.builtin "object.__class__")))
   (hn:PySem.W.specialIn K (.builtin "object.__class__") "__get__"=some (some (.builtin "getset_descriptor.__get__"))) (htk:PySem.W.takesIn K (.builtin "object.__class__")=some true)
   (hm:PySem.W.mroIn K C (.type "object")=some true):TyOf K H (.ref a) (.ref C)
end
end L2
namespace L2
open PySem PySem.Spec PyProof.Rows
structure Room (k:Nat) (A:Around):Prop where
 hd:A.handled=none
 dp:A.depth+3 * k+5<recursionLimit
 un:A.units+16 * k+200<cLine
theorem Room.deeper {k:Nat}{A:Around}(r:Room (k+1) A) (env:Env):Room k (A.deeper env):=
 ⟨r.hd,by have:=r.dp;show A.depth+1+3 * k+5<_;omega,by have:=r.un;show A.units+3+16 * k+200<_;omega⟩
theorem Room.depth {k:Nat}{A:Around}(r:Room k A):A.depth<recursionLimit:=by have:=r.dp;omega
theorem Room.units {k:Nat}{A:Around}(r:Room k A):A.units+64<cLine:=by have:=r.un;omega
noncomputable def qQ0:TA:=λ_ H Q=>Q [] H
noncomputable def qNF (ta:TE) (tr:TA):TA:=fun σ H Q=>ta σ H λx H1=>tr σ H1 λxs H2=>Q (x::xs) H2
section
variable {X:Cx}{e:Expr}{es:List Expr}{te:TE}{t:TA}{pos:Pos}
theorem qB3:PA X [] qQ0:=λ_ _ _ _ H Q I h=>Calls.spliced_nil ⟨[],H,I,.nil,h⟩
theorem qBe (ha:PE X e te) (hr:PA X es t) (hs:starEach (e::es) X.env=(false,eval e X.env)::starEach es X.env:=by rfl):PA X (e::es) (qNF te t):=by
 intro pos pins s σ H Q I h
 rw [hs]
 show wpAny _ _ (spliced ((false,eval e X.env)::backTo pos (starEach es X.env))) _ _ s
 refine Calls.spliced_cons (thn (ha pins s σ H _ I h) λu s1 ⟨x,H1,I1,r1,q1⟩=>?_)
 exact thn (hr pos pins s1 σ H1 _ I1 q1) λus s2 ⟨xs,H2,I2,r2,q2⟩=>⟨x::xs,H2,I2,.cons r1 r2,q2⟩
noncomputable def qRp (t:TA):TE:=fun σ H Q=>t σ H λxs H1=>xs.length<=sizeLine/\∀p,H1 p=none->Q (.ref p) (upd H1 p (.tup xs))
noncomputable def qRu (t:TA):TE:=fun σ H Q=>t σ H λxs H1=>xs.length<=sizeLine/\∀p,H1 p=none->Q (.ref p) (upd H1 p (.lst xs))
theorem qOc {x1}(h:PA X es t):PE X (.Tuple es x1 pos) (qRp t):=by
 intro pins s σ H Q I hq
 refine wpAny_Tuple_spliced (thn (h pos pins s σ H _ I hq) λus s1 ⟨xs,H1,I1,r,z,q⟩=>⟨by rw [<-r.length];exact z,?_⟩)
 have hf:H1 s1.heap.objs.size=none:=I1.hok.fresh (Nat.le_refl _)
 refine⟨.ref s1.heap.objs.size,upd H1 s1.heap.objs.size (.tup xs),I1.laid (t':=s1.toks) (λb u e=>Heap.get?_push_of_some _ e) (Nat.le_refl _) ?_,rfl,q _ hf⟩
 exact⟨z,us,r,⟨_,Heap.get?_push_size _ rfl,rfl,_,rfl⟩⟩
theorem qOh (h:PA X es t):PE X (.List es pos) (qRu t):=by
 intro pins s σ H Q I hq
 refine wpAny_List_spliced (thn (h pos pins s σ H _ I hq) λus s1 ⟨xs,H1,I1,r,z,q⟩=>⟨by rw [<-r.length];exact z,?_⟩)
 have hf:H1 s1.heap.objs.size=none:=I1.hok.fresh (Nat.le_refl _)
 refine⟨.ref s1.heap.objs.size,upd H1 s1.heap.objs.size (.lst xs),I1.laid (t':=s1.toks) (λb u e=>Heap.get?_push_of_some _ e) (Nat.le_refl _) ?_,rfl,q _ hf⟩
 exact⟨z,us,0,r,Heap.get?_push_size _ rfl⟩
end
noncomputable abbrev Sp:=List V->Hp->VK->XK->Prop
noncomputable abbrev CXT:=List Env->Hp->Shared->XK->Value->Shared->Prop
structure Env0 (P:Program) (w:World) (K:PySem.W.Frag) (mg:Str->Option Value) (base:Heap) (A:Around) (outer:List Env) (s:Shared) (H:Hp):Prop where
 frames:A.frames=some outer
 mod:Mod K mg base
 bs:∀b o,base.get? b=some o->s.heap.get? b=some o/\H b=none
 bsz:base.objs.size<=s.heap.objs.size
 funs:s.heap.FunFrames base outer
 frf:∀b∈frs outer,H b=none
 hok:HOk P w H s.heap
 bare:AllBare s.gens
noncomputable def CE (outer:List Env) (P:Program) (w:World) (H:Hp) (s:Shared) (Q:VK) (u:Value) (s':Shared):Prop:=
 ∃v H',s'.os=s.os/\AllBare s'.gens/\Un (frs outer) [] H H' s.heap s'.heap/\HOk P w H' s'.heap/\RelV v u/\Q v H'
noncomputable def CR (CX:CXT) (outer:List Env) (P:Program) (w:World) (H:Hp) (s:Shared) (Q:VK) (E:XK) (r:Result) (s':Shared):Prop:=
 match r with
 | .ok (.ret u)=>CE outer P w H s Q u s'
 | .ok _=>False
 | .error e=>CX outer H s E e s'
structure FnOk (P:Program) (w:World) (K:PySem.W.Frag) (mg:Str->Option Value) (base:Heap) (CX:CXT) (k:Nat) (f:Addr) (fd:FuncData) (ps:List Str) (sp:Sp):Prop where
 len:∀vs H Q E,sp vs H Q E->vs.length=ps.length
 run:∀(A:Around) (outer:List Env) (s:Shared) (H:Hp) (args:Args) (us:List Value) (vs:List V) (Q:VK) (E:XK),Room k A->Env0 P w K mg base A outer s H->BindsTo s fd args (ps.zip us)->Vals vs us->sp vs H Q E ->
  codeAny (model P w) A (.call (.ref f) args) (CR CX outer P w H s Q E) s
section
variable {X:Cx}{pins:List (Addr×Obj)}{σ:St}{H:Hp}{s s':Shared}
theorem Inv.env0 (I:Inv X pins σ H s):Env0 X.prog X.w X.K X.mg X.base X.A X.stack s H:=
 ⟨I.ok.frames,I.ok.mod,I.bs,Nat.le_trans I.ok.bsz I.sz,I.stack,I.stkFree,I.hok,I.bare⟩
theorem Inv.after {Q:VK}{u:Value}(I:Inv X pins σ H s) (h:CE X.stack X.prog X.w H s Q u s'):EP X pins σ Q u s':=by
 obtain⟨v,H',os,bare,un,hok,r,q⟩:=h
 obtain⟨hh,g,d,t,os'⟩:=s'
 obtain rfl:os'=s.os:=os
 exact⟨v,H',I.call (h':=hh) (g':=g) (d':=d) (t':=t) (ch:=[]) un hok bare (λb z=>absurd z (by simp)),r,q⟩
end
noncomputable def qPZ (sp:Sp) (dvs:List V) (E:XK) (t:TA):TE:=fun σ H Q=>t σ H λvs H1=>sp (vs++dvs) H1 Q E
noncomputable def Binds (K:PySem.W.Frag) (fd:FuncData) (ps:List Str) (ds:List Value):Prop:=
 ∀(s:Shared) (us:List Value),K.In s.heap->(us++ds).length=ps.length->BindsTo s fd ⟨us,[]⟩ (ps.zip (us++ds))
theorem Binds.all {K:PySem.W.Frag}{fd:FuncData}{ps:List Str}(h:∀us:List Value,us.length=ps.length->bindArgs fd ⟨us,[]⟩=pure (ps.zip us)):Binds K fd ps []:=λs us _ hl=>by
 rw [List.append_nil] at hl ⊢
 exact .of_eq (h us hl)
noncomputable def qIT (CX:CXT) (X:Cx) (E:XK):Prop:=∀(pins:List (Addr×Obj)) (σ:St) (H:Hp) (s:Shared) (e:Value) (s':Shared),Inv X pins σ H s->CX X.stack H s E e s'->X.xe e s'
section
variable {X:Cx}{CX:CXT}{k:Nat}{f C:Addr}{fd:FuncData}{ps:List Str}{sp:Sp}{dvs:List V}{ds:List Value}{E:XK}{x m:Str}{p pos apos:Pos}{e o:Expr}{es:List Expr}{ta:TE}{t:TA}
theorem qNU {pins:List (Addr×Obj)}{σ:St}{H:Hp}{s:Shared}{Q:VK}{us:List Value}{vs:List V}(F:FnOk X.prog X.w X.K X.mg X.base CX k f fd ps sp) (hr:Room k X.A) (hb:Binds X.K fd ps ds) (hd:Vals dvs ds) (hx:qIT CX X E)
  (I:Inv X pins σ H s) (r:Vals vs us) (h:sp (vs++dvs) H Q E):wpAny (model X.prog X.w) X.A (call (.ref f) us) (EP X pins σ Q) X.xe s:=by
 have r2:Vals (vs++dvs) (us++ds):=r.append hd
 have hl:(us++ds).length=ps.length:=by rw [<-r2.length];exact F.len _ _ _ _ h
 refine wpAny_call (codeAny_mono (F.run X.A X.stack s H ⟨us,[]⟩ (us++ds) (vs++dvs) Q E hr I.env0 (hb s us I.kIn hl) r2 h) λr s' hq=>?_)
 cases r with
 | error e=>exact hx pins σ H s e s' I hq
 | ok fl =>
  cases fl with
  | ret u=>exact I.after hq
  | next=>exact False.elim hq
  | brk=>exact False.elim hq
  | cont=>exact False.elim hq
theorem qL8 (F:FnOk X.prog X.w X.K X.mg X.base CX k f fd ps sp) (hr:Room k X.A) (hg:Gl X x) (hm:X.mg x=some (.ref f)) (hk:PySem.W.keepIn X.K (.ref f)=true) (hb:Binds X.K fd ps ds) (hd:Vals dvs ds) (hx:qIT CX X E)
  (ha:PA X (e::es) t) (hdb:(x == ("__debug__":Str))=false:=by decide) (he:starEach (e::es) X.env=(false,eval e X.env)::starEach es X.env:=by rfl) (hpl:(backTo pos (starEach es X.env)).any (·.1)=false:=by rfl) :
  PE X (.Call (.Name x p) (e::es) [] pos) (qPZ sp dvs E t):=by
 intro pins s σ H Q I h
 refine wpAny_Call_Name_kw (qHH I hg hm ?_ hdb)
 refine PySem.W.callWith_K (h₀:=X.base) I.ok.mod.kin hk (thn (ha pos pins s σ H _ I h) λus s1 ⟨vs,H1,I1,r,q⟩=>⟨I1.kIn,?_⟩) he hpl
 exact qNU F hr hb hd hx I1 r q
structure Mk (K:PySem.W.Frag) (C f:Addr):Prop where
 makes:PySem.W.makesIn K C=true
 init:PySem.W.findIn K (.ref C) "__init__"=some (some (.ref f))
 fn:PySem.W.isFn K (.ref f)=true
 kp:PySem.W.keepIn K (.ref C)=true
end
noncomputable def PK (X:Cx) (kws:List Keyword) (t:TA):Prop:=
 ∀(pos:Pos) (pins:List (Addr×Obj)) (s:Shared) (σ:St) (H:Hp) (Q:List V->Hp->Prop),Inv X pins σ H s->t σ H Q->wpAny (model X.prog X.w) X.A (evalAll ((backToKw pos (keywordEach kws X.env)).map (·.2))) (AP X pins σ Q) X.xe s
section
variable {X:Cx}{CX:CXT}{k:Nat}{f C:Addr}{fd:FuncData}{ps ks:List Str}{sp:Sp}{E:XK}{x m:Str}{p pos apos kpos:Pos}{e o:Expr}{es:List Expr}{kws:List Keyword}{te ta:TE}{t tk:TA}{nm:Option Str}
theorem qKD:PK X [] qQ0:=λ_ _ _ _ H Q I h=>wpAny_evalAll_nil ⟨[],H,I,.nil,h⟩
theorem qHq (ha:PE X e te) (hr:PK X kws t):PK X (⟨nm,e,kpos⟩::kws) (qNF te t):=by
 intro pos pins s σ H Q I h
 show wpAny _ _ (evalAll ((do let v <-eval e X.env;standAt pos;pure v)::(backToKw pos (keywordEach kws X.env)).map (·.2))) _ _ s
 refine wpAny_evalAll_cons (wpAny_bind (thn (ha pins s σ H _ I h) λu s1 ⟨x,H1,I1,r1,q1⟩=>wpAny_bind (wpAny_standAt (wpAny_pure ?_))))
 exact thn (hr pos pins s1 σ H1 _ I1 q1) λus s2 ⟨xs,H2,I2,r2,q2⟩=>⟨x::xs,H2,I2,.cons r1 r2,q2⟩
structure KBinds (K:PySem.W.Frag) (fd:FuncData) (ps ks:List Str) (g:List Value->List Value->List Value) (gV:List V->List V->List V):Prop where
 to:∀(s:Shared) (us ws:List Value),K.In s.heap->(g us ws).length=ps.length->BindsTo s fd ⟨us,ks.zip ws⟩ (ps.zip (g us ws))
 rel:∀{vs:List V} {us:List Value} {zs:List V} {ws:List Value},Vals vs us->Vals zs ws->Vals (gV vs zs) (g us ws)
variable {g:List Value->List Value->List Value}{gV:List V->List V->List V}
end
structure FnScope (N P:List Str) (sc:Scope):Prop where
 kind:sc.kind=.function
 co:sc.isCoroutine=false
 gen:sc.isGenerator=false
 nd:N.Nodup
 pre:N.take P.length=P
 par:∀x∈P,sc.names.lookup x=some .local∨sc.names.lookup x=some .cell
 nofree:∀y∈sc.names,y.2≠.free
theorem qEP {kindOf:Str->Option NameKind}{x:Str}:∀{binds:List (Str×Value)}{m:Str->Option Value},(∀v,(x,v)∉binds)->bindL kindOf binds m x=m x
 | [],_,_=>rfl
 | (n,v)::r,m,h=>by
  unfold bindL
  rw [qEP λw hw=>h w (List.mem_cons_of_mem _ hw)]
  split
  ·have:x≠n:=by rintro rfl;exact h v List.mem_cons_self
   simp [this]
  ·rfl
theorem qER {kindOf:Str->Option NameKind}{x:Str}:∀{binds:List (Str×Value)}{m:Str->Option Value},(∀v,(x,v)∉binds)->bindC kindOf binds m x=m x
 | [],_,_=>rfl
 | (n,v)::r,m,h=>by
  unfold bindC
  rw [qER λw hw=>h w (List.mem_cons_of_mem _ hw)]
  split
  ·rfl
  ·have:x≠n:=by rintro rfl;exact h v List.mem_cons_self
   simp [this]
theorem qEQ {kindOf:Str->Option NameKind}{x:Str}{v:Value}:∀{P:List Str}{vs:List Value}{i:Nat}{m:Str->Option Value},P.Nodup->P[i]?=some x->vs[i]?=some v->kindOf x=some .local ->
  bindL kindOf (P.zip vs) m x=some v
 | [],_,_,_,_,h,_,_=>by simp at h
 | _::_,[],_,_,_,_,h,_=>by simp at h
 | p::P,w::vs,0,m,nd,h1,h2,hk=>by
  simp at h1 h2;subst h1;subst h2
  show bindL kindOf ((p,w)::P.zip vs) m p=_
  unfold bindL
  rw [qEP λv hv=>(List.nodup_cons.mp nd).1 (List.of_mem_zip hv).1,if_pos hk]
  simp
 | p::P,w::vs,i+1,m,nd,h1,h2,hk=>by
  show bindL kindOf ((p,w)::P.zip vs) m x=_
  unfold bindL
  exact qEQ (i:=i) (List.nodup_cons.mp nd).2 (by simpa using h1) (by simpa using h2) hk
theorem qES {kindOf:Str->Option NameKind}{x:Str}{v:Value}:∀{P:List Str}{vs:List Value}{i:Nat}{m:Str->Option Value},P.Nodup->P[i]?=some x->vs[i]?=some v->kindOf x≠some .local ->
  bindC kindOf (P.zip vs) m x=some v
 | [],_,_,_,_,h,_,_=>by simp at h
 | _::_,[],_,_,_,_,h,_=>by simp at h
 | p::P,w::vs,0,m,nd,h1,h2,hk=>by
  simp at h1 h2;subst h1;subst h2
  show bindC kindOf ((p,w)::P.zip vs) m p=_
  unfold bindC
  rw [qER λv hv=>(List.nodup_cons.mp nd).1 (List.of_mem_zip hv).1,if_neg hk]
  simp
 | p::P,w::vs,i+1,m,nd,h1,h2,hk=>by
  show bindC kindOf ((p,w)::P.zip vs) m x=_
  unfold bindC
  exact qES (i:=i) (List.nodup_cons.mp nd).2 (by simpa using h1) (by simpa using h2) hk
noncomputable def start (N:List Str) (vs:List V):St:=vs.map some++List.replicate (N.length - vs.length) none
noncomputable def qIk (CX:CXT) (P:Program) (w:World) (K:PySem.W.Frag) (mg:Str->Option Value) (base:Heap) (N:List Str) (qual:Str) (scope:Scope) (f:Addr) (cd:Value) (A:Around) (outer:List Env) (s:Shared) (H:Hp) (E:XK):Cx where
 prog:=P
 w:=w
 K:=K
 mg:=mg
 base:=base
 A:=A.deeper (envOfC qual scope s.heap.objs.size f cd)
 N:=N
 s₀:=s
 H₀:=H
 env:=envOfC qual scope s.heap.objs.size f cd
 outer:=outer
 stack:=envOfC qual scope s.heap.objs.size f cd::outer
 ex:=[]
 calm:=true
 fn:=λ_=>true
 pn:=[]
 xe:=λe s'=>wpAny (model P w) (A.deeper (envOfC qual scope s.heap.objs.size f cd)) (leaving (envOfC qual scope s.heap.objs.size f cd) e) (λ_ s''=>CX outer H s E e s'') (λe' s''=>CX outer H s E e' s'') s'
theorem qGd {sc:Scope}{n:Nat}{x:Str}(h:sc.names.lookup x=some .cell):∃c,(cellsFrom n sc.names []).lookup x=some c:=by
 have q:=PySem.W.cellsFrom_some sc.names n [] (.inl h)
 exact Option.isSome_iff_exists.mp q
theorem qHO {CX:CXT}{P:Program}{w:World}{K:PySem.W.Frag}{mg:Str->Option Value}{base:Heap}{N ps:List Str}{qual:Str}{scope:Scope}{f:Addr}{cd:Value}{A:Around}{outer:List Env}{s s1:Shared}{H:Hp}{E:XK}{us:List Value}{vs:List V}
  (S:FnScope N ps scope) (hd:A.handled=none) (e0:Env0 P w K mg base A outer s H) (hl:vs.length=ps.length) (r:Vals vs us)
  (x:InCallC s s.heap.objs.size (bindL (envOfC qual scope s.heap.objs.size f cd).kindOf (ps.zip us) λ_=>none) (cellsFrom (s.heap.objs.size+1) scope.names []) (bindC (envOfC qual scope s.heap.objs.size f cd).kindOf (ps.zip us) λ_=>none) s1) :
  Inv (qIk CX P w K mg base N qual scope f cd A outer s H E) [] (start N vs) H s1:=by
 have hpl:ps.length<=N.length:=by have:=congrArg List.length S.pre;rw [List.length_take] at this;omega
 obtain⟨h1,tk,rfl,hk⟩:=x.done
 have noA:∀b:Addr,b∉(qIk CX P w K mg base N qual scope f cd A outer s H E).ex:=λb z=>absurd (show b∈([]:List Addr) from z) (by simp)
 refine⟨⟨e0.mod,S.kind,rfl,rfl,Nat.le_refl _,λy z c h1 h2=>?_,λy hy=>?_,λy c _ h=>?_,λ_=>hd,Around.frames_deeper e0.frames,.inr ⟨rfl,rfl⟩,λb z=>absurd z (noA b),e0.bs,e0.bsz,λb _ _=>noA b,λb z=>absurd z (noA b),e0.funs,e0.frf⟩,
  rfl,e0.bare,Un.kept hk,⟨_,x.toInCall.ns,λi y v h1 h2 h3=>?_⟩,λy c h=>⟨_,x.cell y c h⟩,e0.hok.fresh (Nat.le_refl _),λy c h=>?_,λp hp=>absurd (show p∈([]:List (Addr×Obj)) from hp) (by simp),e0.hok.kept hk,?_⟩
 ·exact name_of_addr x.apart (PySem.mem_of_lookup h1) (PySem.mem_of_lookup h2)
 ·have hy:scope.names.lookup y=some .cell∨scope.names.lookup y=some .free:=hy
  rcases hy with hy|hy
  ·exact qGd hy
  ·exact absurd rfl (S.nofree _ (PySem.mem_of_lookup hy))
 ·exact Nat.le_of_lt (x.above y c (PySem.mem_of_lookup h))
 ·have hi:i<vs.length:=by
   unfold start at h2
   by_cases hi:i<vs.length
   ·exact hi
   ·rw [List.getElem?_append_right (by simpa using hi)] at h2
    rw [List.getElem?_replicate] at h2
    split at h2<;>cases h2
  have ha:vs[i]?=some v:=by
   unfold start at h2
   rw [List.getElem?_append_left (by simpa using hi),List.getElem?_map] at h2
   cases e:vs[i]? with
   | none=>rw [e] at h2;cases h2
   | some a=>rw [e] at h2;cases h2;rfl
  obtain⟨u,hu,rv⟩:=r.get ha
  have hp:ps[i]?=some y:=by
   rw [<-S.pre,List.getElem?_take_of_lt (by omega)];exact h1
  have ndP:ps.Nodup:=by rw [<-S.pre];exact S.nd.sublist (List.take_sublist _ _)
  refine⟨u,rv,?_⟩
  rcases S.par y (List.mem_of_getElem? hp) with k|k
  ·exact .inl ⟨k,qEQ ndP hp hu k⟩
  ·obtain⟨c,e⟩:=qGd (n:=s.heap.objs.size+1) k
   refine .inr ⟨.inl k,c,e,?_⟩
   have q:=x.cell y c e
   rw [qES ndP hp hu (by show scope.names.lookup y≠_;rw [k];decide)] at q
   exact q
 ·exact e0.hok.fresh (Nat.le_of_lt (x.above y c (PySem.mem_of_lookup h)))
 ·unfold start
  show _=N.length
  rw [List.length_append,List.length_map,List.length_replicate]
  omega
theorem qMN {CX:CXT}{P:Program}{w:World}{K:PySem.W.Frag}{mg:Str->Option Value}{base:Heap}{k:Nat}{f:Addr}{name qual:Str}{params:Arguments}{body:List Stmt}{scope:Scope}{dV kV doc pm cdv ct oc:Value}{an od:Option Addr}
  {osl:Array (Option Value)} {N ps:List Str} {sp:Sp} (lk:K.lookup f=some ⟨oc,od,.func (PySem.W.fnOf name qual params body scope dV kV doc pm an cdv ct),osl⟩) (hcd:PySem.W.codeIn K cdv qual=true) (S:FnScope N ps scope)
  (len:∀vs H Q E,sp vs H Q E->vs.length=ps.length)
  (hbody:∀(A:Around) (outer:List Env) (s:Shared) (H:Hp) (vs:List V) (Q:VK) (E:XK),Room k (A.deeper (envOfC qual scope s.heap.objs.size f cdv))->sp vs H Q E ->
   ∃t,PSs (qIk CX P w K mg base N qual scope f cdv A outer s H E) body t/\t { nx:=λ_ H'=>Q .non H',rt:=Q } (start N vs) H) :
  FnOk P w K mg base CX (k+1) f (PySem.W.fnOf name qual params body scope dV kV doc pm an cdv ct) ps sp:=by
 refine⟨len,λA outer s H args us vs Q E hr e0 hb r hsp=>?_⟩
 have hl:=len _ _ _ _ hsp
 have KX:K.In s.heap:=e0.mod.kin.keeps λb o e=>(e0.bs b o e).1
 have lim:s.heap.NoLimit:=e0.mod.nolimit.keeps λb o e=>(e0.bs b o e).1
 have hkind:∀y∈ps.zip us,scope.names.lookup y.1=some .local∨(scope.names.lookup y.1=some .cell/\((cellsFrom (s.heap.objs.size+1) scope.names []).lookup y.1).isSome=true):=λ⟨n,v⟩ hy=>by
  rcases S.par n (List.of_mem_zip hy).1 with q|q
  ·exact .inl q
  ·exact .inr ⟨q,PySem.W.cellsFrom_some _ _ _ (.inl q)⟩
 refine codeAny_call_function hr.depth (KX _ _ lk) rfl S.co S.gen rfl (PySem.W.codeRec_of KX hcd) (hb _ _ _ _ ?_)
 refine wpAny_newFunctionEnv_cells S.kind hkind λenv he s1 x=>?_
 subst he
 refine⟨lim.keeps x.toInCall.keep,codeAny_func ?_⟩
 obtain⟨t,ht,hq⟩:=hbody A outer s H vs Q E (hr.deeper _) hsp
 have I:Inv (qIk CX P w K mg base N qual scope f cdv A outer s H E) [] (start N vs) H s1:=qHO S hr.hd e0 hl r x
 refine wpAny_mono (ht [] s1 (start N vs) H _ I hq) (λfl s' hs=>?_) λe s' hs=>hs
 have fin:∀{σ':St} {H':Hp} {v:V} {u:Value},Inv (qIk CX P w K mg base N qual scope f cdv A outer s H E) [] σ' H' s'->RelV v u->Q v H'->CE outer P w H s Q u s':=
  λ{σ' H' v u} J rv q=>⟨v,H',J.os,J.bare,J.base,J.hok,rv,q⟩
 cases fl with
 | ret u =>
  obtain⟨v,σ',H',J,rv,q⟩:=hs
  exact fin J rv q
 | next =>
  obtain⟨σ',H',J,q⟩:=hs
  exact fin (v:=V.non) (u:=Value.none) J rfl q
 | brk =>
  obtain⟨_,_,_,q⟩:=hs
  exact False.elim q
 | cont =>
  obtain⟨_,_,_,q⟩:=hs
  exact False.elim q
end L2
namespace L2
open PySem PySem.Spec PyProof.Rows
section
variable {X:Cx}{x:Str}{p pos:Pos}{e:Expr}{es:List Expr}{t:TA}{id T:String}{r:List V->Hp->VK->Prop}
noncomputable def tCB (r:List V->Hp->VK->Prop) (t:TA):TE:=fun σ H Q=>t σ H λvs H1=>r vs H1 Q
theorem qFK (hc:CallR X (.builtin id) r) (hg:Gl X x) (hm:X.mg x=none) (hv:bootBuiltins x=some (.builtin id)) (ha:PA X (e::es) t) (hn:x≠"__name__":=by decide) (hdb:(x == ("__debug__":Str))=false:=by decide)
  (he:starEach (e::es) X.env=(false,eval e X.env)::starEach es X.env:=by rfl) (hpl:(backTo pos (starEach es X.env)).any (·.1)=false:=by rfl):PE X (.Call (.Name x p) (e::es) [] pos) (tCB r t):=by
 intro pins s σ H Q I h
 refine wpAny_Call_Name_kw (qCu I hg hm hv ?_ hn hdb)
 exact PyProof.Rows.callWith_builtin1 (thn (ha pos pins s σ H _ I h) λus s1 ⟨vs,H1,I1,r1,q1⟩=>hc pins s1 σ H1 vs us Q I1 r1 q1) he hpl
theorem qEq (hc:CallR X (.type T) r) (hg:Gl X x) (hm:X.mg x=none) (hv:bootBuiltins x=some (.type T)) (ha:PA X (e::es) t) (hn:x≠"__name__":=by decide) (hdb:(x == ("__debug__":Str))=false:=by decide)
  (he:starEach (e::es) X.env=(false,eval e X.env)::starEach es X.env:=by rfl) (hpl:(backTo pos (starEach es X.env)).any (·.1)=false:=by rfl):PE X (.Call (.Name x p) (e::es) [] pos) (tCB r t):=by
 intro pins s σ H Q I h
 refine wpAny_Call_Name_kw (qCu I hg hm hv ?_ hn hdb)
 exact PyProof.Rows.callWith_type1 (thn (ha pos pins s σ H _ I h) λus s1 ⟨vs,H1,I1,r1,q1⟩=>hc pins s1 σ H1 vs us Q I1 r1 q1) he hpl
end
end L2
namespace HT
open PySem PyProof.Rows
noncomputable def lexLt:List Int->List Int->Bool
 | [],[]=>false
 | [],_::_=>true
 | _::_,[]=>false
 | x::xs,y::ys=>if x=y then lexLt xs ys else decide (x<y)
theorem lexLt_cons (x y:Int) (xs ys:List Int):lexLt (x::xs) (y::ys)=if x=y then lexLt xs ys else decide (x<y):=rfl
theorem qDS:lexLt [] []=false:=rfl
theorem qDl (y:Int) (ys:List Int):lexLt [] (y::ys)=true:=rfl
theorem qDm (x:Int) (xs:List Int):lexLt (x::xs) []=false:=rfl
theorem qJ3 (A:Around) (s:Shared) (a:Int) (t:Tok) (c:Int) (u:Tok):∃e,SeqAt.EqAt A s (.int a t) (.int c u) e/\(e=true↔a=c):=
 ⟨(a == c),SeqAt.EqAt.int_int a t c u,by simp⟩
theorem qJv (A:Around) (s:Shared) (a:Int) (t:Tok) (c:Int) (u:Tok) (prog:Program) (w:World) (E:Value->Shared->Prop) (Q:Value->Shared->Prop) (h:Q (.bool (decide (a<c))) s) :
  wpAny (model prog w) A (richCompare .Lt (.int a t) (.int c u)) Q E s:=
 (PyProof.Rows.lt_int h:wpAny (model prog w) A (compareOp .Lt (.int a t) (.int c u)) Q E s)
section
open PySem.SeqAt
open PySem.AutoSeq1 (wpAny_loadPart')
open PySem.MeetsSeq PySem.MeetsSeq2 PySem.MeetsSeq3
theorem qDC (l b:Addr) (items items2:Array Value) (n n2:Nat) (dd dd2:Option Addr) (sl sl2:Array (Option Value)) (ns ms:List Int) (hi:IntsAre items.toList ns) (hj:IntsAre items2.toList ms) :
  Meets (Builtin.«tuple.__lt__» ⟨[.ref l,.ref b],[]⟩)
   (λ_ R s=>s.heap.get? l=some { cls:=.type "tuple",dict:=dd,data:=.seq items n,slots:=sl }/\s.heap.get? b=some { cls:=.type "tuple",dict:=dd2,data:=.seq items2 n2,slots:=sl2 } /\
    R (.ok (.ret (.bool (lexLt ns ms)))) s):=
 .of_wp λprog w A R s h=>by
  obtain⟨hp,g,d,tk,os⟩:=s;obtain⟨hl,hb,h⟩:=h
  have f2:=AutoSeq1.sub_tuple_tuple
  have z1:items.size=ns.length:=by rw [<-hi.length];simp
  have z2:items2.size=ms.length:=by rw [<-hj.length];simp
  wp_walk using wpAny_loadPart' hl,wpAny_loadPart' hb,wpAny_forIn_list _ (λqAV b s'=>b.1=none/\s'=⟨hp,g,d,tk,os⟩/\∃(vs ws:List Value) (ns' ms':List Int),qAV=vs.zip ws /\
   IntsAre vs ns'/\IntsAre ws ms'/\ns'.length+items2.size=ms'.length+items.size/\R (.ok (.ret (.bool (lexLt ns' ms')))) ⟨hp,g,d,tk,os⟩) _
  case turn =>
   rintro⟨y,x⟩ qAV b s' ⟨hb',rfl,vs,ws,ns',ms',hz,hvi,hwi,hlen,hR⟩
   cases hvi with
   | nil=>rw [List.zip_nil_left] at hz;cases hz
   | cons a t hvi' =>
    cases hwi with
    | nil=>rw [List.zip_nil_right] at hz;cases hz
    | cons c u hwi' =>
     rw [List.zip_cons_cons] at hz
     injection hz with hyx hrest
     injection hyx with hy hx
     subst hy hx
     rw [lexLt_cons] at hR
     simp only [List.length_cons] at hlen
     obtain⟨e,he,hiff⟩:=qJ3 A.in1 ⟨hp,g,d,tk,os⟩ a t c u
     refine wpAny_bind (he prog w _ _ ?_)
     cases e with
     | true =>
      rw [if_pos (hiff.mp rfl)] at hR
      wp_walk
      exact⟨rfl,rfl,_,_,_,_,hrest,hvi',hwi',by omega,hR⟩
     | false =>
      rw [if_neg (λq=>absurd (hiff.mpr q) Bool.false_ne_true)] at hR
      have hri:=qJv A.in1 ⟨hp,g,d,tk,os⟩ a t c u prog w
      wp_walk using hri
      exact⟨_,rfl,by simpa using hR⟩
  case fin =>
   rintro⟨b1,b2⟩ s' ⟨hb',rfl,vs,ws,ns',ms',hz,hvi,hwi,hlen,hR⟩
   simp only at hb'
   subst hb'
   have hv:lexLt ns' ms'=decide (items.size<items2.size):=by
    cases hvi with
    | nil =>
     cases hwi with
     | nil =>
      simp only [List.length_nil] at hlen
      rw [qDS]
      exact (decide_eq_false (by omega)).symm
     | cons c u hw =>
      simp only [List.length_nil,List.length_cons] at hlen
      rw [qDl]
      exact (decide_eq_true (by omega)).symm
    | cons a t hv =>
     cases hwi with
     | nil =>
      simp only [List.length_nil,List.length_cons] at hlen
      rw [qDm]
      exact (decide_eq_false (by omega)).symm
     | cons c u hw =>
      rw [List.zip_cons_cons] at hz
      cases hz
   rw [hv] at hR
   wp_walk
   exact⟨_,rfl,by simpa [Builtin.Tuple.tupleCompareSizes] using hR⟩
  case h =>
   exact⟨rfl,rfl,items.toList,items2.toList,ns,ms,rfl,hi,hj,by omega,h⟩
end
section
variable {prog:Program}{w:World}{A:Around}{E:Value->Shared->Prop}{s:Shared}
theorem lt_tupInts {l b:Addr}{items items2:Array Value}{ns ms:List Int}{Q:Value->Shared->Prop}(hl:IsTup s.heap l items) (hb:IsTup s.heap b items2) (hi:IntsAre items.toList ns) (hj:IntsAre items2.toList ms)
  (hu:A.units<cLine) (h:Q (.bool (lexLt ns ms)) s):wpAny (model prog w) A (compareOp .Lt (.ref l) (.ref b)) Q E s:=by
 obtain⟨⟨cls,dd,data,sl⟩,ho,hc,n,hd⟩:=id hl
 obtain⟨⟨cls2,dd2,data2,sl2⟩,ho2,hc2,n2,hd2⟩:=id hb
 simp only at hc hd hc2 hd2
 subst hc hd hc2 hd2
 exact richCompare_meets_room (op:=.Lt) ⟨_,ho,rfl⟩ ⟨_,ho2,rfl⟩ PySem.F.slot_tuple_lt PySem.F.entry_tuple_lt (PySem.F.args_tuple_lt_2 _ _) (qDC l b items items2 n n2 dd dd2 sl sl2 ns ms hi hj)
  ⟨ho,ho2,show Value.bool (lexLt ns ms)≠Value.notImplemented/\Q (.bool (lexLt ns ms)) s from ⟨(λx=>nomatch x),h⟩⟩ hu
theorem cat_tup {t b:Addr}{vs ws:List Value}{Q:Value->Shared->Prop}(ht:IsTup s.heap t vs.toArray) (hb:IsTup s.heap b ws.toArray) (hv:vs≠[])
  (h1:ws=[]->Q (.ref t) s) (h2:ws≠[]->Q (.ref s.heap.objs.size) { s with heap:=s.heap.push { cls:=.type "tuple",data:=.seq (vs++ws).toArray } })
  (hsz:vs.length+ws.length<=sizeLine):wpAny (model prog w) A (binaryOp .Add (.ref t) (.ref b)) Q E s:=by
 obtain⟨⟨cls,dd,data,sl⟩,ho,hc,n,hd⟩:=id ht
 obtain⟨⟨cls2,dd2,data2,sl2⟩,ho2,hc2,n2,hd2⟩:=id hb
 simp only at hc hd hc2 hd2
 subst hc hd hc2 hd2
 have e:vs.toArray++ws.toArray=(vs++ws).toArray:=by simp
 by_cases hw:ws=[]
 ·exact concat_meets ⟨_,ho,rfl⟩ ⟨_,ho2,rfl⟩ noFill_tuple_add seq_tuple_add PySem.F.slot_tuple_add PySem.F.entry_tuple_add (PySem.F.args_tuple_add_2 _ _)
   (tuple_addW1 t b vs.toArray ws.toArray n n2 dd dd2 sl sl2 (by simpa using hv) (by simp [hw])) ⟨ho,ho2,h1 hw⟩
 ·refine concat_meets ⟨_,ho,rfl⟩ ⟨_,ho2,rfl⟩ noFill_tuple_add seq_tuple_add PySem.F.slot_tuple_add PySem.F.entry_tuple_add (PySem.F.args_tuple_add_2 _ _)
   (tuple_addW2 t b vs.toArray ws.toArray n n2 dd dd2 sl sl2 (by simpa using hv) (by simpa using hw) (by rw [List.size_toArray,List.size_toArray];exact hsz)) ⟨ho,ho2,?_⟩
  rw [e]
  exact h2 hw
noncomputable def sIx (n d:Nat):Option Int->Nat
 | none=>d
 | some v=>if v<0 then (v+(n:Int)).toNat else min v.toNat n
theorem qNT (n d:Nat) (hd:d<=n) (o:Option Int):sIx n d o<=n:=by
 cases o with
 | none=>exact hd
 | some v =>
  show (if v<0 then (v+(n:Int)).toNat else min v.toNat n)<=n
  by_cases hv:v<0
  ·rw [if_pos hv];omega
  ·rw [if_neg hv];exact Nat.min_le_right _ _
theorem clip_eq (v:Int) (n d:Nat):(if v<0 then max (v+(n:Int)) 0 else min v (n:Int))=((sIx n d (some v):Nat):Int):=by
 show (if v<0 then max (v+(n:Int)) 0 else min v (n:Int))=(((if v<0 then (v+(n:Int)).toNat else min v.toNat n):Nat):Int)
 by_cases hv:v<0
 ·simp only [if_pos hv];omega
 ·simp only [if_neg hv];omega
theorem qGH (lo hi:Option Int) (n:Nat):Builtin.Slice.sliceAdjust lo hi 1 (n:Int)=(((sIx n 0 lo:Nat):Int),((sIx n n hi:Nat):Int)):=by
 have h1:¬((1:Int)<0):=by omega
 unfold Builtin.Slice.sliceAdjust
 simp only [h1,if_false]
 refine Prod.ext ?_ ?_
 ·cases lo with
  | none=>rfl
  | some v=>exact clip_eq v n 0
 ·cases hi with
  | none=>rfl
  | some v=>exact clip_eq v n n
theorem qGs (i j:Nat):Builtin.Slice.slicePlaces (i:Int) (j:Int) 1=j - i:=by
 unfold Builtin.Slice.slicePlaces
 have h1:(1:Int) > 0:=by omega
 simp only [h1,if_true,Int.ediv_one]
 split<;>omega
theorem qDt {v:Value}{o:Option Int}{Q:Option Int->Shared->Prop}(p:IsPart v o) (h:Q o s):wpAny (model prog w) A (Builtin.Slice.slicePartIndex v) Q E s:=by
 cases p with
 | none=>exact slicePart_none h
 | int i t=>exact slicePart_int h
theorem qBM {sl:Addr}{vl vu:Value}{lo hi:Option Int}{n:Nat}{Q:Int×Int×Nat->Shared->Prop}(hs:s.heap.IsSliceOf sl vl vu .none) (pl:IsPart vl lo) (pu:IsPart vu hi)
  (h:Q (((sIx n 0 lo:Nat):Int),1,sIx n n hi - sIx n 0 lo) s):wpAny (model prog w) A (Builtin.Slice.sliceApplied (.ref sl) (pure (n:Int))) Q E s:=by
 obtain⟨os,hos,hcs,hds⟩:=id hs
 unfold Builtin.Slice.sliceApplied Builtin.Slice.sliceFields
 refine wpAny_bind (wpAny_bind (wpAny_field hos hds (x:=vl) rfl (wpAny_bind (wpAny_field hos hds (x:=vu) rfl (wpAny_bind (wpAny_field hos hds (x:=.none) rfl (wpAny_pure ?_)))))))
 refine wpAny_bind (slicePart_none ?_)
 show wpAny _ _ (if ((1:Int) == 0)=true then _ else _) _ _ s
 rw [if_neg (by decide)]
 refine wpAny_bind (qDt pl (wpAny_bind (qDt pu (wpAny_bind (wpAny_pure ?_)))))
 show wpAny _ _ (match Builtin.Slice.sliceAdjust lo hi 1 (n:Int) with|(lo,hi)=>pure (lo,(1:Int),Builtin.Slice.slicePlaces lo hi 1)) _ _ s
 rw [qGH lo hi n]
 show wpAny _ _ (pure (((sIx n 0 lo:Nat):Int),(1:Int),Builtin.Slice.slicePlaces ((sIx n 0 lo:Nat):Int) ((sIx n n hi:Nat):Int) 1)) _ _ s
 rw [qGs]
 exact wpAny_pure h
theorem qJD (xs:Array Value) (i k:Nat):((List.range k).filterMap λ(m:Nat)=>xs[((i:Int)+(m:Int) * 1).toNat]?).toArray=((xs.toList.drop i).take k).toArray:=by
 have e:(λ(m:Nat)=>xs[((i:Int)+(m:Int) * 1).toNat]?)=λm=>xs[i+m]?:=by
  funext m
  have:((i:Int)+(m:Int) * 1).toNat=i+m:=by omega
  rw [this]
 rw [e]
 have:=pick_run xs i k
 rw [List.filterMap_map] at this
 have e2:((λx=>xs[x]?) ∘ λx=>i+x)=λm=>xs[i+m]?:=rfl
 rw [e2] at this
 rw [this]
theorem getItem_tuple_cut {t sl:Addr}{items:Array Value}{vl vu:Value}{lo hi:Option Int}{Q:Value->Shared->Prop}(ht:IsTup s.heap t items) (hs:s.heap.IsSliceOf sl vl vu .none) (pl:IsPart vl lo) (pu:IsPart vu hi)
  (hw:¬(sIx items.size 0 lo=0/\sIx items.size items.size hi=items.size))
  (h:Q (.ref s.heap.objs.size) { s with heap:=s.heap.push { cls:=.type "tuple",data:=.seq ((items.toList.drop (sIx items.size 0 lo)).take (sIx items.size items.size hi - sIx items.size 0 lo)).toArray } })
  (hsz:items.size<=sizeLine):wpAny (model prog w) A (getItem (.ref t) (.ref sl)) Q E s:=by
 have htake:sizeOk (.seq ((items.toList.drop (sIx items.size 0 lo)).take (sIx items.size items.size hi - sIx items.size 0 lo)).toArray):=by
  show ((items.toList.drop (sIx items.size 0 lo)).take (sIx items.size items.size hi - sIx items.size 0 lo)).toArray.size<=sizeLine
  rw [List.size_toArray,List.length_take,List.length_drop,Array.length_toList]
  omega
 have hj:sIx items.size items.size hi<=items.size:=qNT _ _ (Nat.le_refl _) hi
 obtain⟨os,hos,hcs,hds⟩:=id hs
 have hTs:s.TypeIs (.ref sl) "slice":=⟨os,hos,hcs⟩
 unfold getItem
 try with_reducible refine wpAny_holding ?_
 first|refine wpAny_bind (wpAny_pure ?_)|skip
 refine wpAny_bind (wpAny_sequenceKey ht.typeIs (by decide) ?_)
 refine wpAny_bind (wpAny_callSpecial?_slot (name:=Str.ofString "__getitem__") ht.typeIs PyProof.Rows.slot_tuple_getitem
  (wpAny_call_entry PyProof.Rows.slot_tuple_getitem ht.typeIs entry_tuple_getitem ?_ (args_tuple_getitem _ _)))
 show wpAny _ _ (Builtin.Tuple.tupleItemsOf (.ref t) >>= _) _ _ s
 refine wpAny_bind (tupleItemsOf_ ht ?_)
 refine wpAny_bind (wpAny_typeOf hTs ?_)
 rw [if_pos (by decide)]
 refine wpAny_bind (qBM hs pl pu ?_)
 have hno:¬((((sIx items.size 0 lo:Nat):Int) == 0&&(1:Int) == 1&&(sIx items.size items.size hi - sIx items.size 0 lo) == items.size)=true):=by
  intro q
  rw [Bool.and_eq_true,Bool.and_eq_true] at q
  have q1:((sIx items.size 0 lo:Nat):Int)=0:=eq_of_beq q.1.1
  have q2:sIx items.size items.size hi - sIx items.size 0 lo=items.size:=eq_of_beq q.2
  exact hw ⟨by omega,by omega⟩
 show wpAny _ _ (if (((sIx items.size 0 lo:Nat):Int) == 0&&(1:Int) == 1&&(sIx items.size items.size hi - sIx items.size 0 lo) == items.size)=true then _ else _) _ _ s
 rw [if_neg hno,qJD]
 first
  | exact wpAny_bind (m:=Builtin.Tuple.tupleExact _) (wpAny_newObj_type (wpAny_pure ⟨_,rfl,wpAny_pure h⟩) htake)
  | exact wpAny_bind (m:=Builtin.Tuple.tupleExact _) (wpAny_newObj_type (wpAny_bind (wpAny_pure (wpAny_pure ⟨_,rfl,wpAny_pure h⟩))) htake)
  | exact wpAny_bind (wpAny_bind (m:=Builtin.Tuple.tupleExact _) (wpAny_newObj_type (wpAny_pure (wpAny_pure ⟨_,rfl,wpAny_pure h⟩)) htake))
  | exact wpAny_bind (wpAny_bind (m:=Builtin.Tuple.tupleExact _) (wpAny_newObj_type (wpAny_pure ⟨_,rfl,wpAny_pure h⟩) htake))
end
end HT
namespace L2
open PySem PySem.Spec PyProof.Rows
noncomputable abbrev TO:=St->Hp->(Option Int->Hp->Prop)->Prop
noncomputable def PO (X:Cx) (e:Option Expr) (t:TO):Prop:=
 ∀(pins:List (Addr×Obj)) (s:Shared) (σ:St) (H:Hp) (Q:Option Int->Hp->Prop),Inv X pins σ H s->t σ H Q ->
   wpAny (model X.prog X.w) X.A (evalPart e X.env) (λu s'=>∃o H',Inv X pins σ H' s'/\IsPart u o/\Q o H') X.xe s
noncomputable def qLl:TO:=λ_ H Q=>Q none H
noncomputable def qPV (t:TE):TO:=fun σ H Q=>t σ H λx H1=>∃i,x=.int i/\Q (some i) H1
theorem qGy {ns:List Int}:∀{us:List Value},Vals (ns.map V.int) us->IntsAre us ns:=by
 induction ns with
 | nil=>intro us r;rw [List.map_nil] at r;cases r;exact .nil
 | cons n ns ih =>
  intro us r
  rw [List.map_cons] at r
  cases r with
  | cons r1 r2 =>
   obtain⟨t,e⟩:=r1
   subst e
   exact .cons n t (ih r2)
section
variable {X:Cx}{e:Expr}{te:TE}{lo hi:Option Expr}{tl th:TO}{pos p2:Pos}
theorem qL0:PO X none qLl:=by
 intro pins s σ H Q I h
 rw [evalPart_none]
 exact wpAny_pure ⟨none,H,I,.none,h⟩
theorem qLZ (h:PE X e te):PO X (some e) (qPV te):=by
 intro pins s σ H Q I hw
 rw [evalPart_some]
 refine thn (h pins s σ H _ I hw) λu s1 ⟨x,H1,I1,r1,q1⟩=>?_
 obtain⟨i,rfl,q⟩:=q1
 obtain⟨t,rfl⟩:=r1
 exact⟨some i,H1,I1,.int i t,q⟩
noncomputable def SlR (X:Cx) (r:V->Option Int->Option Int->Hp->VK->Prop):Prop:=
 ∀(pins:List (Addr×Obj)) (s:Shared) (σ:St) (H:Hp) (x:V) (v vl vu:Value) (lo hi:Option Int) (sl:Addr) (Q:VK),Inv X pins σ H s->RelV x v->s.heap.IsSliceOf sl vl vu .none->IsPart vl lo->IsPart vu hi->r x lo hi H Q ->
   ∃T id,typeLookup (.type T) "__getitem__"=pure (some (.builtin id))/\s.TypeIs v T/\wpAny (model X.prog X.w) X.A (getItem v (.ref sl)) (EP X pins σ Q) X.xe s
theorem SlR.or {r r':V->Option Int->Option Int->Hp->VK->Prop}(h:SlR X r) (h':SlR X r'):SlR X (λx lo hi H Q=>r x lo hi H Q∨r' x lo hi H Q):=by
 intro pins s σ H x v vl vu lo hi sl Q I rx hs pl pu q
 rcases q with q|q
 ·exact h pins s σ H x v vl vu lo hi sl Q I rx hs pl pu q
 ·exact h' pins s σ H x v vl vu lo hi sl Q I rx hs pl pu q
noncomputable def tSl (r:V->Option Int->Option Int->Hp->VK->Prop) (te:TE) (tl th:TO):TE:=fun σ H Q=>te σ H λx H1=>tl σ H1 λl H2=>th σ H2 λu H3=>r x l u H3 Q
theorem qJE {r:V->Option Int->Option Int->Hp->VK->Prop}(hr:SlR X r) (he:PE X e te) (hl:PO X lo tl) (hu:PO X hi th):PE X (.Subscript e (.Slice lo hi none p2) pos) (tSl r te tl th):=by
 intro pins s σ H Q I h
 refine Subscript_ (thn (he pins s σ H _ I h) λv s1 ⟨x,H1,I1,r1,q1⟩=>?_)
 refine wpAny_Slice (thn (hl pins s1 σ H1 _ I1 q1) λvl s2 ⟨l,H2,I2,pl,q2⟩=>thn (hu pins s2 σ H2 _ I2 q2) λvu s3 ⟨u,H3,I3,pu,q3⟩=>?_)
 rw [evalPart_none]
 refine wpAny_pure ?_
 have I4:Inv X pins σ H3 { s3 with heap:=s3.heap.push { cls:=.type "slice",data:=.fields #[vl,vu,.none] } }:=I3.kept (t':=s3.toks) λb ob q=>Heap.get?_push_of_some _ q
 obtain⟨T,id,hT,ht,hg⟩:=hr pins { s3 with heap:=s3.heap.push { cls:=.type "slice",data:=.fields #[vl,vu,.none] } } σ H3 x v vl vu l u s3.heap.objs.size Q I4 r1 (Heap.IsSliceOf.new ..) pl pu q3
 show wpAny (model X.prog X.w) X.A (subscriptTail e (.Slice lo hi none p2) v (.ref s3.heap.objs.size)) (EP X pins σ Q) X.xe { s3 with heap:=s3.heap.push { cls:=.type "slice",data:=.fields #[vl,vu,.none] } }
 exact tail_any (ops:=[.ref s3.heap.objs.size,v]) ht hT hg (by with_unfolding_all rfl)
noncomputable def qKQ (xs:List V) (lo hi:Option Int):List V:=(xs.drop (HT.sIx xs.length 0 lo)).take (HT.sIx xs.length xs.length hi - HT.sIx xs.length 0 lo)
theorem qC9 (xs:List V) (lo hi:Option Int):(qKQ xs lo hi).length<=xs.length:=by
 unfold qKQ
 rw [List.length_take,List.length_drop]
 omega
noncomputable def qRF (K:PySem.W.Frag):V->Option Int->Option Int->Hp->VK->Prop:=λx lo hi H Q=>∃a xs,x=.ref a/\SqT K H a xs /\
 ¬(HT.sIx xs.length 0 lo=0/\HT.sIx xs.length xs.length hi=xs.length)/\∀p,H p=none->Q (.ref p) (upd H p (.tup (qKQ xs lo hi)))
theorem qNP:SlR X (qRF X.K):=by
 intro pins s σ H x v vl vu lo hi sl Q I rx hs pl pu h
 obtain⟨a,xs,rfl,hx,hw,q⟩:=h
 cases rx
 obtain⟨its,r,ht,hz⟩:=I.tuple hx
 have hlen:its.toArray.size=xs.length:=by rw [List.size_toArray];exact r.length.symm
 refine⟨"tuple",_,PyProof.Rows.slot_tuple_getitem.lookup,ht.typeIs,?_⟩
 refine HT.getItem_tuple_cut ht hs pl pu (by rw [hlen];exact hw) ?_ (by rw [hlen];exact hz)
 rw [hlen]
 refine⟨.ref s.heap.objs.size,_,I.laid (t':=s.toks) (o:=.tup (qKQ xs lo hi)) (λb ob q=>Heap.get?_push_of_some _ q) (Nat.le_refl _) ?_,rfl,q _ (I.hok.fresh (Nat.le_refl _))⟩
 exact⟨Nat.le_trans (qC9 xs lo hi) hz,_,(r.drop (HT.sIx xs.length 0 lo)).take (HT.sIx xs.length xs.length hi - HT.sIx xs.length 0 lo),IsTup.new _ _⟩
noncomputable def qP6 (K:PySem.W.Frag):R2:=λx y H Q=>∃a b xs ys,x=.ref a/\y=.ref b/\SqT K H a xs/\SqT K H b ys/\xs≠[]/\xs.length+ys.length<=sizeLine /\
 (ys=[]->Q (.ref a) H)/\(ys≠[]->∀p,H p=none->Q (.ref p) (upd H p (.tup (xs++ys))))
theorem Vals.nil_iff {xs:List V}{us:List Value}(r:Vals xs us):us=[]↔xs=[]:=by
 cases r with
 | nil=>simp
 | cons _ _=>simp
theorem qMj:OpR X (binaryOp .Add) (qP6 X.K):=by
 intro pins s σ H x y v u Q I rx ry h
 obtain⟨a,b,xs,ys,rfl,rfl,ha,hb,hx,hz,q1,q2⟩:=h
 cases rx
 cases ry
 obtain⟨its,r1,p1,_⟩:=I.tuple ha
 obtain⟨its2,r2,p2,_⟩:=I.tuple hb
 refine HT.cat_tup p1 p2 (λz=>hx (r1.nil_iff.mp z)) (λz=>⟨.ref a,H,I,rfl,q1 (r2.nil_iff.mp z)⟩) (λz=>?_) (by rw [<-r1.length,<-r2.length];exact hz)
 refine⟨.ref s.heap.objs.size,_,I.laid (t':=s.toks) (o:=.tup (xs++ys)) (λb ob q=>Heap.get?_push_of_some _ q) (Nat.le_refl _) ?_,rfl,q2 (λw=>z (r2.nil_iff.mpr w)) _ (I.hok.fresh (Nat.le_refl _))⟩
 exact⟨by rw [List.length_append];exact hz,_,r1.append r2,IsTup.new _ _⟩
end
end L2
namespace L2
open PySem PySem.Spec PyProof.Rows
noncomputable def ixN (n:Nat) (i:Int):Option Nat:=if 0<=i then (if i<n then some i.toNat else none) else if -(n:Int)<=i then some (i+n).toNat else none
noncomputable def atI {α:Type}(xs:List α) (i:Int):Option α:=(ixN xs.length i).bind λj=>xs[j]?
theorem qMF {n:Nat}{i:Int}{j:Nat}(h:ixN n i=some j):seqIndex? i n=some j/\j<n/\-(n:Int)<=i/\i<n:=by
 unfold ixN at h
 by_cases h0:0<=i
 ·rw [if_pos h0] at h
  by_cases h1:i<n
  ·rw [if_pos h1] at h
   have e:i.toNat=j:=Option.some.inj h
   exact⟨by rw [seqIndex_of h0 h1,e],by omega,by omega,h1⟩
  ·rw [if_neg h1] at h;cases h
 ·rw [if_neg h0] at h
  by_cases h1:-(n:Int)<=i
  ·rw [if_pos h1] at h
   have e:(i+n).toNat=j:=Option.some.inj h
   exact⟨by rw [seqIndex_neg (by omega) h1,e],by omega,h1,by omega⟩
  ·rw [if_neg h1] at h;cases h
theorem qIL {α:Type}{xs:List α}{i:Int}{v:α}(h:atI xs i=some v):∃j,seqIndex? i xs.length=some j/\xs[j]?=some v/\j<xs.length/\-(xs.length:Int)<=i/\i<xs.length:=by
 unfold atI at h
 cases e:ixN xs.length i with
 | none=>rw [e] at h;cases h
 | some j =>
  rw [e] at h
  obtain⟨h1,h2,h3,h4⟩:=qMF e
  exact⟨j,h1,h,h2,h3,h4⟩
noncomputable def qFp (b:Expr):Prop:=∀o i,subscripted b false o i=operate [o,i] (getItem o i)
noncomputable def IxR (X:Cx) (r:R2):Prop:=
 ∀(value slice:Expr) (pins:List (Addr×Obj)) (s:Shared) (σ:St) (H:Hp) (x y:V) (v u:Value) (Q:VK),Inv X pins σ H s->RelV x v->RelV y u->r x y H Q ->
   subscripted slice false v u=operate [v,u] (getItem v u)->wpAny (model X.prog X.w) X.A (subscriptTail value slice v u) (EP X pins σ Q) X.xe s
noncomputable def MtR (X:Cx) (id:String) (r:V->List V->Hp->VK->Prop):Prop:=
 ∀(pins:List (Addr×Obj)) (s:Shared) (σ:St) (H:Hp) (x:V) (xs:List V) (v:Value) (us:List Value) (Q:VK),Inv X pins σ H s->RelV x v->Vals xs us->r x xs H Q ->
   wpAny (model X.prog X.w) X.A (call (.builtin id) (v::us)) (EP X pins σ Q) X.xe s
section
variable {X:Cx}{a b:Expr}{ta tb:TE}{pos:Pos}
theorem IxR.or {r r':R2}(h:IxR X r) (h':IxR X r'):IxR X (λx y H Q=>r x y H Q∨r' x y H Q):=by
 intro value slice pins s σ H x y v u Q I rx ry q hs
 rcases q with q|q
 ·exact h value slice pins s σ H x y v u Q I rx ry q hs
 ·exact h' value slice pins s σ H x y v u Q I rx ry q hs
theorem qQh {r:R2}(hr:IxR X r) (ha:PE X a ta) (hb:PE X b tb) (hs:qFp b):PE X (.Subscript a b pos) (tOp r ta tb):=by
 intro pins s σ H Q I h
 exact Subscript_ (qQQ ha hb I h λv u s2 x y H2 I2 rx ry q=>hr a b pins s2 σ H2 x y v u Q I2 rx ry q (hs _ _))
noncomputable def qRJ (K:PySem.W.Frag):R2:=λx y H Q=>∃p xs i v,x=.ref p/\y=.int i/\SqL K H p xs/\atI xs i=some v/\Q v H
noncomputable def qRI (K:PySem.W.Frag):R2:=λx y H Q=>∃p xs i v,x=.ref p/\y=.int i/\SqT K H p xs/\atI xs i=some v/\Q v H
theorem ix_list:IxR X (qRJ X.K):=by
 intro value slice pins s σ H x y v u Q I rx ry h hs
 obtain⟨p,xs,i,z,rfl,rfl,hq,he,q⟩:=h
 cases rx
 obtain⟨t,rfl⟩:=ry
 obtain⟨its,r,pl,hz⟩:=I.list hq
 obtain⟨j,h1,h2,h3,h4,h5⟩:=qIL he
 obtain⟨w,ew,rw'⟩:=r.get h2
 have hl:=r.length
 have hn:=qHF
 have fin:EP X pins σ Q w s:=⟨z,H,I,rw',q⟩
 by_cases h0:0<=i
 ·have hj:i.toNat=j:=by
   rw [seqIndex_of h0 h5] at h1
   exact Option.some.inj h1
  exact item_listR pl.isList h0 (by omega) (by rw [hj];simpa using ew) fin hs
 ·have hj:(i+(its.toArray.size:Int)).toNat=j:=by
   rw [seqIndex_neg (by omega) h4] at h1
   rw [List.size_toArray,<-hl]
   exact Option.some.inj h1
  exact subscriptTail_builtinR (x:=w) pl.isList.typeIs slot_list_getitem.lookup
   (wpAny_getItem_list_neg (Q:=λr s'=>r=w/\EP X pins σ Q r s') pl.isList (by omega) (by rw [List.size_toArray]<;>omega) (by omega) (by rw [hj];simpa using ew) ⟨rfl,fin⟩) hs
theorem qOK:IxR X (qRI X.K):=by
 intro value slice pins s σ H x y v u Q I rx ry h hs
 obtain⟨p,xs,i,z,rfl,rfl,hq,he,q⟩:=h
 cases rx
 obtain⟨t,rfl⟩:=ry
 obtain⟨its,r,pl,hz⟩:=I.tuple hq
 obtain⟨j,h1,h2,h3,h4,h5⟩:=qIL he
 obtain⟨w,ew,rw'⟩:=r.get h2
 have hl:=r.length
 have hn:=qHF
 have fin:EP X pins σ Q w s:=⟨z,H,I,rw',q⟩
 exact subscriptTail_builtinR (x:=w) pl.typeIs slot_tuple_getitem.lookup
  (getItem_tuple (j:=j) (Q:=λr s'=>r=w/\EP X pins σ Q r s') pl (by omega) (by omega) (by rw [List.size_toArray,<-hl];exact h1) (by simpa using ew) ⟨rfl,fin⟩) hs
theorem qEl (lo hi:Option Int) (n:Nat):(sliceBounds lo hi none n).1=((HT.sIx n 0 lo:Nat):Int)/\(sliceBounds lo hi none n).2.1=((HT.sIx n n hi:Nat):Int)/\(sliceBounds lo hi none n).2.2=1:=by
 refine⟨?_,?_,rfl⟩
 ·cases lo with
  | none=>simp [sliceBounds,HT.sIx]
  | some i =>
   simp only [sliceBounds,HT.sIx,Option.getD_none,show (1:Int) > 0 by decide,if_true]
   by_cases h:i<0
   ·simp only [h,if_true]<;>omega
   ·simp only [h,if_false]<;>omega
 ·cases hi with
  | none=>simp [sliceBounds,HT.sIx]
  | some i =>
   simp only [sliceBounds,HT.sIx,Option.getD_none,show (1:Int) > 0 by decide,if_true]
   by_cases h:i<0
   ·simp only [h,if_true]<;>omega
   ·simp only [h,if_false]<;>omega
theorem qDG (its:List Value) (lo hi:Option Int):slicePick its.toArray lo hi none=((its.drop (HT.sIx its.length 0 lo)).take (HT.sIx its.length its.length hi - HT.sIx its.length 0 lo)).toArray:=by
 obtain⟨h1,h2,h3⟩:=qEl lo hi its.toArray.size
 unfold slicePick
 rw [h1,h2,h3]
 simp only [sliceRange_one,pick_run,List.size_toArray]<;>rfl
noncomputable def qRG (K:PySem.W.Frag):V->Option Int->Option Int->Hp->VK->Prop:=λx lo hi H Q=>∃a xs,x=.ref a/\SqL K H a xs/\∀p,H p=none->Q (.ref p) (upd H p (.lst (qKQ xs lo hi)))
theorem sl_list:SlR X (qRG X.K):=by
 intro pins s σ H x v vl vu lo hi sl Q I rx hs pl pu h
 obtain⟨a,xs,rfl,hx,q⟩:=h
 cases rx
 obtain⟨its,r,ht,hz⟩:=I.list hx
 have hlen:=r.length
 refine⟨"list",_,slot_list_getitem.lookup,ht.isList.typeIs,?_⟩
 refine wpAny_getItem_list_slice ht.isList hs pl pu .none (by simp) ?_ (by rw [List.size_toArray]<;>omega)
 rw [qDG,<-hlen]
 refine⟨.ref s.heap.objs.size,_,I.laid (t':=s.toks) (o:=.lst (qKQ xs lo hi)) (λb ob q=>Heap.get?_push_of_some _ q) (Nat.le_refl _) ?_,rfl,q _ (I.hok.fresh (Nat.le_refl _))⟩
 exact⟨Nat.le_trans (qC9 xs lo hi) hz,_,0,(r.drop (HT.sIx xs.length 0 lo)).take (HT.sIx xs.length xs.length hi - HT.sIx xs.length 0 lo),Heap.get?_push_size _ rfl⟩
noncomputable def eqV:V->V->Bool
 | .non,.non=>true
 | .bl a,.bl b=>a == b
 | .bl a,.int b=>(if a then 1 else 0) == b
 | .int a,.bl b=>a == (if b then 1 else 0)
 | .int a,.int b=>a == b
 | .str a,.str b=>a == b
 | _,_=>false
noncomputable def inV (x:V) (xs:List V):Bool:=xs.any λy=>eqV y x
theorem qEN:CallR X (.builtin "len") (λxs H Q=>∃p ys,xs=[.ref p]/\(SqL X.K H p ys∨SqT X.K H p ys)/\Q (.int ys.length) H):=by
 intro pins s σ H xs us Q I r h
 obtain⟨p,ys,rfl,hq,q⟩:=h
 obtain⟨u,rfl,rx⟩:=qB1 r
 cases rx
 have hn:=qHF
 rcases hq with hq|hq
 ·obtain⟨its,r',pl,hz⟩:=I.list hq
  have hlen:=r'.length
  exact Calls.call_len_list pl.isList (by simp only [List.size_toArray]<;>omega) ⟨.int ys.length,H,I.tok _,⟨s.toks+1,by rw [List.size_toArray,hlen]⟩,q⟩
 ·obtain⟨its,r',pl,hz⟩:=I.tuple hq
  have hlen:=r'.length
  exact len_tuple pl (by simp only [List.size_toArray]<;>omega) ⟨.int ys.length,H,I.tok _,⟨s.toks+1,by rw [List.size_toArray,hlen]⟩,q⟩
theorem CallR.or {f:Value}{r r':List V->Hp->VK->Prop}(h:CallR X f r) (h':CallR X f r'):CallR X f (λxs H Q=>r xs H Q∨r' xs H Q):=by
 intro pins s σ H xs us Q I rs q
 rcases q with q|q
 ·exact h pins s σ H xs us Q I rs q
 ·exact h' pins s σ H xs us Q I rs q
theorem qEM:CallR X (.type "list") (λxs H Q=>∃p ys,xs=[.ref p]/\(SqL X.K H p ys∨SqT X.K H p ys)/\∀l,H l=none->Q (.ref l) (upd H l (.lst ys))):=by
 intro pins s σ H xs us Q I r h
 obtain⟨p,ys,rfl,hq,q⟩:=h
 obtain⟨u,rfl,rx⟩:=qB1 r
 cases rx
 have fin:∀(its:List Value),Vals ys its->ys.length<=sizeLine->∀(h':Heap) (c':Nat),(∀b o',s.heap.get? b=some o'->h'.get? b=some o') ->
   h'.get? s.heap.objs.size=some { cls:=.type "list",dict:=none,data:=.seq its.toArray c',slots:=#[] }->EP X pins σ Q (.ref s.heap.objs.size) { s with heap:=h' }:=λits r' hz h' c' kp e =>
  ⟨.ref s.heap.objs.size,_,I.laid (t':=s.toks) kp (Nat.le_refl _) (show ObjOk X.prog X.w _ h' _ (.lst ys) from ⟨hz,its,c',r',e⟩),rfl,q _ (I.hok.fresh (Nat.le_refl _))⟩
 rcases hq with hq|hq
 ·obtain⟨its,r',pl,hz⟩:=I.list hq
  have hlen:=r'.length
  obtain⟨o,ho,hc,n,hd⟩:=pl.isList
  exact call_list_seq p (.inl rfl) ho hc hd (λh' c' kp e=>fin its r' hz h' c' kp e) (by simp only [List.size_toArray]<;>omega)
 ·obtain⟨its,r',pl,hz⟩:=I.tuple hq
  have hlen:=r'.length
  obtain⟨o,ho,hc,n,hd⟩:=pl
  exact call_list_seq p (.inr rfl) ho hc hd (λh' c' kp e=>fin its r' hz h' c' kp e) (by simp only [List.size_toArray]<;>omega)
theorem qD5:CallR X (.type "tuple") (λxs H Q=>∃p ys,xs=[.ref p]/\((SqL X.K H p ys/\∀l,H l=none->Q (.ref l) (upd H l (.tup ys)))∨(SqT X.K H p ys/\Q (.ref p) H))):=by
 intro pins s σ H xs us Q I r h
 obtain⟨p,ys,rfl,h⟩:=h
 obtain⟨u,rfl,rx⟩:=qB1 r
 cases rx
 rcases h with ⟨hq,q⟩|⟨hq,q⟩
 ·obtain⟨its,r',pl,hz⟩:=I.list hq
  have hlen:=r'.length
  refine call_tuple_list pl.isList (λh' kp=>?_) (by simp only [List.size_toArray]<;>omega)
  have I1:Inv X pins σ H { s with heap:=h' }:=I.kept (t':=s.toks) kp
  have I2:Inv X pins σ (upd H h'.objs.size (.tup ys)) { s with heap:=h'.push { cls:=.type "tuple",data:=.seq its.toArray } }:=
   I1.laid (t':=s.toks) (λb o e=>Heap.get?_push_of_some _ e) (Nat.le_refl _) (show ObjOk X.prog X.w _ _ _ (.tup ys) from ⟨hz,its,r',IsTup.new _ _⟩)
  exact⟨.ref h'.objs.size,_,I2,rfl,q _ (I1.hok.fresh (Nat.le_refl _))⟩
 ·obtain⟨its,r',pl,hz⟩:=I.tuple hq
  exact call_tuple_same pl ⟨.ref p,H,I,rfl,q⟩
noncomputable def tyV (K:PySem.W.Frag) (T:String) (x:V) (H:Hp):Prop:=match x with
 | .str _=>T="str"
 | .int _=>T="int"
 | .ref p=>(T="list"/\∃xs,SqL K H p xs)∨(T="tuple"/\∃o,K.lookup p=some o/\o.cls=.type "tuple"/\o.dict=none) ∨
   (T="dict"/\((∃kvs,H p=some (.dK kvs))∨∃kvs,H p=some (.dT kvs)))∨(T="set"/\∃S n,H p=some (.set S n))
 | _=>False
theorem qNp {pins:List (Addr×Obj)}{σ:St}{H:Hp}{s:Shared}{T:String}{x:V}{v:Value}(I:Inv X pins σ H s) (r:RelV x v) (ty:tyV X.K T x H) :
  s.TypeIs v T/\∀a,v=.ref a->∃ob,s.heap.get? a=some ob/\ob.dict=none:=by
 cases x with
 | str z =>
  obtain⟨t,rfl⟩:=r
  cases (show T="str" from ty)
  exact⟨typeIs_str s z t,λ_ e=>nomatch e⟩
 | int i =>
  obtain⟨t,rfl⟩:=r
  cases (show T="int" from ty)
  exact⟨typeIs_int s i t,λ_ e=>nomatch e⟩
 | ref p =>
  cases r
  rcases ty with ⟨rfl,xs,hq⟩|⟨rfl,o,hk,hc,hd⟩|⟨rfl,hk⟩|⟨rfl,S,n,hk⟩
  ·obtain⟨its,_,pl,_⟩:=I.list hq
   refine⟨pl.isList.typeIs,λa e=>?_⟩
   cases e
   obtain⟨o,n,e,c,hd,_⟩:=pl
   exact⟨o,e,hd⟩
  ·refine⟨⟨o,I.kIn p o hk,hc⟩,λa e=>?_⟩
   cases e
   exact⟨o,I.kIn _ o hk,hd⟩
  ·have z:∃o,s.heap.get? p=some o/\o.ExactDict:=by
    rcases hk with ⟨kvs,hk⟩|⟨kvs,hk⟩
    ·obtain⟨_,_,_,_,o,_,_,e,ex,_⟩:=I.hok p _ hk
     exact⟨o,e,ex⟩
    ·obtain⟨_,_,_,_,o,_,_,e,ex,_⟩:=I.hok p _ hk
     exact⟨o,e,ex⟩
   obtain⟨o,e,ex⟩:=z
   refine⟨⟨o,e,ex.1⟩,λa e2=>?_⟩
   cases e2
   exact⟨o,e,ex.2.1⟩
  ·obtain⟨o,_,_,_,e,ex,_⟩:=I.hok p _ hk
   refine⟨⟨o,e,ex.1⟩,λa e2=>?_⟩
   cases e2
   exact⟨o,e,ex.2.1⟩
 | _=>exact False.elim ty
noncomputable def tBM (K:PySem.W.Frag) (T:String) (r:V->List V->Hp->VK->Prop) (to:TE) (t:TA):TE:=fun σ H Q=>to σ H λx H1=>tyV K T x H1/\t σ H1 λxs H2=>r x xs H2 Q
variable {o e:Expr}{es:List Expr}{to:TE}{t:TA}{name:Str}{apos cpos:Pos}{T id:String}{r:V->List V->Hp->VK->Prop}
theorem qOk (pa:PlainAttrs T) (slot:Slot T name id) (hty:typeOf (.builtin id)=pure (.type "method_descriptor")) (hm:MtR X id r) (ho:PE X o to) (ha:PA X (e::es) t)
  (hbase:attributeBase o name X.env (eval o X.env)=eval o X.env:=by rfl)
  (hfew:((backTo cpos (starEach (e::es) X.env)).all (λx=>!x.1)&&(backToKw cpos (keywordEach [] X.env)).all (λx=>x.1.isSome)
   && decide ((e::es).length+([]:List Keyword).length+(if ([]:List Keyword).isEmpty then 0 else 1)<30))=true:=by rfl)
  (hline:(apos.endLine == cpos.line)=true:=by rfl) (hs:starEach (e::es) X.env=(false,eval e X.env)::starEach es X.env:=by rfl) (hplain:(backTo cpos (starEach es X.env)).any (·.1)=false:=by rfl) :
  PE X (.Call (.Attribute o name apos) (e::es) [] cpos) (tBM X.K T r to t):=by
 intro pins s σ H Q I h
 refine wpAny_Call_method_late hbase hfew hline rfl (thn (ho pins s σ H _ I h) λv s1 ⟨x,H1,I1,r1,ty,q1⟩=>?_)
 obtain⟨h1,h2⟩:=qNp I1 r1 ty
 refine⟨T,id,pa,slot,hty,h1,h2,?_⟩
 have hA:=ha cpos pins s1 σ H1 _ I1 q1
 rw [hs] at hA ⊢
 refine Calls.callWith_builtin (by show (false||(backTo cpos (starEach es X.env)).any (·.1))=false;rw [hplain]<;>rfl) (Calls.evalArgs_plain ?_)
 exact thn hA λus s2 ⟨vs,H2,I2,r2,q2⟩=>hm pins s2 σ H2 x vs v us Q I2 r1 r2 q2
end
end L2
namespace L2
open PySem PySem.Spec PyProof.Rows
noncomputable def MtM (X:Cx) (id:String) (r:V->List V->Hp->VK->Prop):Prop:=
 ∀(pins:List (Addr×Obj)) (s:Shared) (σ:St) (H:Hp) (x:V) (xs:List V) (v:Value) (us:List Value) (Q:VK),Inv X pins σ H s->RelV x v->Vals xs us->r x xs H Q ->
   wpAny (model X.prog X.w) X.A (call (.builtin id) (v::us)) (EP X pins σ Q) X.xe s
theorem Vals.one:∀{x:V}{us:List Value},Vals [x] us->∃u,us=[u]/\RelV x u
 | _,_,.cons r .nil=>⟨_,rfl,r⟩
theorem Vals.rep {xs:List V}{us:List Value}(h:Vals xs us):∀k:Nat,Vals (List.replicate k xs).flatten (List.replicate k us).flatten
 | 0=>.nil
 | k+1=>by
  rw [List.replicate_succ,List.replicate_succ,List.flatten_cons,List.flatten_cons]
  exact Vals.append h (Vals.rep h k)
theorem qED (its:List Value):∀(k:Nat) (acc:List Value),
  List.foldl (λx1 x2=>x1++x2) acc.toArray (List.replicate k its.toArray)=(acc++(List.replicate k its).flatten).toArray
 | 0,acc=>by simp
 | k+1,acc=>by
  have e:acc.toArray++its.toArray=(acc++its).toArray:=by simp
  have e2:(acc++its)++(List.replicate k its).flatten=acc++(List.replicate (k+1) its).flatten:=by
   rw [List.replicate_succ,List.flatten_cons,List.append_assoc]
  rw [<-e2,<-qED its k (acc++its),<-e,List.replicate_succ,List.foldl_cons]
section
variable {X:Cx}{pins:List (Addr×Obj)}{σ:St}{H:Hp}{s:Shared}{l b:Addr}{xs ys zs:List V}
theorem Inv.lset {its its':List Value}{n:Nat}{f:Array Value->Array Value}{t':Nat}(I:Inv X pins σ H s) (hH:H l=some (.lst xs))
  (e:s.heap.get? l=some { cls:=.type "list",data:=.seq its.toArray n }) (hf:f its.toArray=its'.toArray) (hv:Vals ys its') (hz:ys.length<=sizeLine) :
  Inv X pins σ (upd H l (.lst ys)) { s with heap:=s.heap.update l (Obj.mapSeq f),toks:=t' }:=by
 have q:=PySem.IsL.update e f
 rw [hf] at q
 refine I.write (x:=l) (e:=l) (by rw [hH];exact trivial) (.inl rfl) (λb' u hb hu=>(Heap.get?_update_other s.heap (Obj.mapSeq f) (Ne.symm hb)).trans hu) ⟨_,q⟩ ?_
 exact⟨hz,its',_,hv,q⟩
theorem Inv.lnew {its:List Value}{t':Nat}(I:Inv X pins σ H s) (hv:Vals ys its) (hz:ys.length<=sizeLine) :
  Inv X pins σ (upd H s.heap.objs.size (.lst ys)) { s with heap:=s.heap.push { cls:=.type "list",data:=.seq its.toArray },toks:=t' }:=
 I.laid (λ_ _ q=>Heap.get?_push_of_some _ q) (Nat.le_refl _) ⟨hz,its,0,hv,Heap.get?_push_size _ rfl⟩
theorem Inv.fresh (I:Inv X pins σ H s):H s.heap.objs.size=none:=I.hok.fresh (Nat.le_refl _)
theorem Inv.lstM (I:Inv X pins σ H s) (hH:H l=some (.lst xs)):xs.length<=sizeLine/\∃(its:List Value) (n:Nat),Vals xs its/\xs.length=its.length/\s.heap.get? l=some { cls:=.type "list",data:=.seq its.toArray n }:=by
 obtain⟨z,its,n,r,e⟩:=I.hok l _ hH
 exact⟨z,its,n,r,r.length,e⟩
theorem qCD {n:Nat}(h:n<=sizeLine):Builtin.List.listTooLong n=false:=by
 unfold Builtin.List.listTooLong
 exact decide_eq_false (by omega)
end
section
variable {X:Cx}
noncomputable def qLW:V->List V->Hp->VK->Prop:=λx vs H Q=>∃l xs y,x=.ref l/\vs=[y]/\H l=some (.lst xs)/\xs.length<sizeLine/\Q .non (upd H l (.lst (xs++[y])))
theorem qEt:MtM X "list.append" qLW:=by
 intro pins s σ H x vs v us Q I rx rv h
 obtain⟨l,xs,y,rfl,rfl,hH,hz,q⟩:=h
 cases rx
 obtain⟨u,rfl,ru⟩:=rv.one
 obtain⟨z,its,n,r,hl,e⟩:=I.lstM hH
 refine call_meets F.slot_list_append ⟨_,e,rfl⟩ F.entry_list_append (F.args_list_append_2 _ _) (PySem.list_append l its.toArray n u (by rw [List.size_toArray];omega)) ⟨e,?_⟩
 refine⟨.non,_,I.lset (its':=its++[u]) hH e (by simp) (r.append (.cons ru .nil)) ?_,rfl,q⟩
 rw [List.length_append,List.length_singleton]
 omega
noncomputable def qLV:V->List V->Hp->VK->Prop:=λx vs H Q=>∃l b xs zs,x=.ref l/\vs=[.ref b]/\H l=some (.lst xs)/\H b=some (.lst zs)/\xs.length+zs.length<=sizeLine/\Q .non (upd H l (.lst (xs++zs)))
theorem qHz:MtM X "list.extend" qLV:=by
 intro pins s σ H x vs v us Q I rx rv h
 obtain⟨l,b,xs,zs,rfl,rfl,hH,hB,hz,q⟩:=h
 cases rx
 obtain⟨u,rfl,ru⟩:=rv.one
 cases ru
 obtain⟨z,its,n,r,hl,e⟩:=I.lstM hH
 obtain⟨z2,its2,n2,r2,hl2,e2⟩:=I.lstM hB
 have hsz:its.toArray.size+its2.toArray.size<=sizeLine:=by rw [List.size_toArray,List.size_toArray];omega
 have hlong:¬(!its.toArray.isEmpty&&Builtin.List.listTooLong (its.toArray.size+its2.toArray.size))=true:=by
  rw [qCD hsz,Bool.and_false]
  exact Bool.false_ne_true
 refine call_meets F.slot_list_extend ⟨_,e,rfl⟩ F.entry_list_extend (F.args_list_extend_2 _ _)
  (AutoSeq1.list_extend_list_list_0 l its.toArray n b its2.toArray n2 hlong (by rw [List.size_toArray];omega) (by omega)) ⟨e,e2,?_⟩
 refine⟨.non,_,I.lset (its':=its++its2) hH e (by simp) (r.append r2) ?_,rfl,q⟩
 rw [List.length_append]
 omega
theorem qMz {α:Type}(xs:List α) (k:Nat):(List.replicate k xs).flatten.length=k * xs.length:=by
 induction k with
 | zero=>simp
 | succ k ih=>rw [List.replicate_succ,List.flatten_cons,List.length_append,ih,Nat.succ_mul,Nat.add_comm]
end
end L2
namespace Att
open PySem PySem.W PySem.Calls PyProof.Rows
theorem qC0 {P:Params}{h:Heap}:∀(ns:List Int) (vs:List Value),WellAll P h vs (ns.map WData.int)->IntsAre vs ns:=by
 intro ns
 induction ns with
 | nil =>
  intro vs w
  rw [List.map_nil] at w
  cases w
  exact .nil
 | cons n ns ih =>
  intro vs w
  rw [List.map_cons] at w
  cases w with
  | cons a b =>
   cases a
   exact .cons _ _ (ih _ b)
theorem script_of {l:OpenLaw}{n:Nat}(hn:l.most=some n) {P:Params}{h:Heap}{args:List WData}{vals:List Value}
  (hpre:l.row.toRowW.claim.pre args=true) (hwl:WellAll P h vals args) :
  ∃a vs ns,vals=[Value.ref a]/\args=[WData.list (ns.map WData.int)]/\h.get? a=some { cls:=.type "list",data:=.seq vs.toArray }/\IntsAre vs ns/\ns.length<=n:=by
 have hsh:WShape.hasAll [] args [.list .int]=true:=(pre_splitW hpre).1
 have hc:l.pre.holds [] { args:=args }=true:=(pre_splitW hpre).2
 obtain⟨d,r,rfl,h1,h2⟩:=hasAllW_cons hsh
 obtain rfl:=hasAllW_nil h2
 obtain⟨xs,rfl,h3⟩:=hasW_list h1
 obtain⟨ns,rfl⟩:=items_int h3
 have hlen:ns.length<=n:=by
  unfold OpenLaw.pre at hc
  have h4:(WTm.not (.lt (.lit (.int (n:Int))) (.len (.arg 0)))).holds [] { args:=[.list (ns.map .int)] }=true:=by
   have h4:=(holds_andW hc).1
   rw [hn] at h4
   exact h4
  have h5:=condW_of h4 (w_not (w_lt w_lit (w_len_list (w_arg rfl))))
  rw [List.length_map] at h5
  refine Nat.le_of_not_lt λq=>?_
  have q':(n:Int)<((ns.length:Nat):Int):=by omega
  first
   | (rw [decide_eq_true q'] at h5;exact absurd h5 (by decide))
   | (simp at h5;omega)
 cases hwl with
 | cons w1 w2 =>
  cases w2
  cases w1 with
  | list ho hall=>exact⟨_,_,ns,rfl,rfl,ho,qC0 ns _ hall,hlen⟩
theorem post_true (l:OpenLaw) (args:List WData):l.row.toRowW.claim.post args (.bool true) args=true:=
 postW_of (r:=l.row.toRowW) (X:=(true == true))
  (show WShape.has [] (.bool true) .bool=true by first|rfl|decide|simp [WShape.has,WShape.arms,WShape.armsAll])
  (show (WTm.eq .res (.lit (.bool true))).value [] { args:=args,res:=some (.bool true),after:=args }=some (.bool (true == true)) from w_eq_bool (w_res rfl) w_lit) rfl
end Att
namespace L2
open PySem PySem.Spec PyProof.Rows
theorem qCJ:∀{vs:List Value}{ns:List Int},IntsAre vs ns->Vals (ns.map V.int) vs
 | _,_,.nil=>.nil
 | _,_,.cons n t h=>.cons ⟨t,rfl⟩ (qCJ h)
end L2
namespace L2
open PySem PySem.Spec PyProof.Rows
noncomputable abbrev CX0:CXT:=λ_ _ _ _ _ _=>False
noncomputable abbrev E0:XK:=λ_ _ _=>False
theorem qQk {X:Cx}:qIT CX0 X E0:=λ_ _ _ _ _ _ _ h=>h.elim
structure Fun (K:PySem.W.Frag) (x qual:Str) (st:Stmt) (f:Addr) (fd:FuncData):Prop where
 ex:∃(oc:Value) (od:Option Addr) (kV doc pm:Value) (an:Option Addr) (cdv ct:Value) (osl:Array (Option Value)),
  fd=PySem.W.fnOf x qual (qBq st) (qAv st) (qAa st) .none kV doc pm an cdv ct/\K.lookup f=some ⟨oc,od,.func fd,osl⟩/\PySem.W.codeIn K cdv qual=true
 kp:PySem.W.keepIn K (.ref f)=true
section
variable {P:Program}{w:World}{K:PySem.W.Frag}{mg:Str->Option Value}{base:Heap}
theorem Fun.binds {x qual:Str}{st:Stmt}{f:Addr}{fd:FuncData}{ps:List Str}(F:Fun K x qual st f fd)
  (h:∀(kV doc pm:Value) (an:Option Addr) (cdv ct:Value) (us:List Value),us.length=ps.length->bindArgs (PySem.W.fnOf x qual (qBq st) (qAv st) (qAa st) .none kV doc pm an cdv ct) ⟨us,[]⟩=pure (ps.zip us)):Binds K fd ps []:=by
 obtain⟨oc,od,kV,doc,pm,an,cdv,ct,osl,rfl,lk,hcd⟩:=F.ex
 exact .all (h kV doc pm an cdv ct)
theorem qFS {x qual:Str}{st:Stmt}{f:Addr}{oc:Value}{od an:Option Addr}{osl:Array (Option Value)}{kV doc pm cdv ct:Value}(l:K.lookup f=some ⟨oc,od,.func (PySem.W.fnOf x qual (qBq st) (qAv st) (qAa st) .none kV doc pm an cdv ct),osl⟩)
  (c:PySem.W.codeIn K cdv qual=true) (k:PySem.W.keepIn K (.ref f)=true):Fun K x qual st f (PySem.W.fnOf x qual (qBq st) (qAv st) (qAa st) .none kV doc pm an cdv ct):=⟨⟨oc,od,kV,doc,pm,an,cdv,ct,osl,rfl,l,c⟩,k⟩
end
theorem qPD {A B:Prop}(h:B):if false=true then A else B:=by
 rw [if_neg Bool.false_ne_true]
 exact h
theorem qPC {A B:Prop}(h:A):if true=true then A else B:=by
 rw [if_pos rfl]
 exact h
noncomputable def Same (H H':Hp):Prop:=∀b o,H b=some o->H' b=some o
theorem Same.refl (H:Hp):Same H H:=λ_ _ h=>h
theorem Same.trans {H H1 H2:Hp}(a:Same H H1) (b:Same H1 H2):Same H H2:=λc o h=>b c o (a c o h)
theorem Same.free {H H':Hp}(e:Same H H') {l:Addr}(h:H' l=Option.none):H l=Option.none:=by
 cases q:H l with
 | none=>rfl
 | some o =>
  rw [e l o q] at h
  cases h
end L2
namespace L2
open PySem PySem.Spec PyProof.Rows
noncomputable def Nr (fr:List Addr) (g h:Heap):Prop:=∀b o,g.get? b=some o->(b∉fr->h.get? b=some o)/\∃sl,h.get? b=some { o with slots:=sl }
structure Lot (g h:Heap) (e:Addr) (C fl:Value):Prop where
 new:g.get? e=none
 ex:∃oe vs T oT ts,h.get? e=some oe/\(oe.cls=C/\oe.dict=none)/\oe.data=.fields vs/\vs[1]?=some (.ref T)/\T≠e/\g.get? T=none/\h.get? T=some oT/\oT.data=.fields ts/\ts[3]?=some fl
theorem Nr.of_keep {fr:List Addr}{g h:Heap}(k:∀b o,g.get? b=some o->h.get? b=some o):Nr fr g h:=λb o q=>⟨λ_=>k b o q,o.slots,k b o q⟩
theorem Nr.trans {fr:List Addr}{g h h':Heap}(x:Nr fr g h) (y:Nr fr h h'):Nr fr g h':=λb o q=>by
 obtain⟨x1,sl,x2⟩:=x b o q
 obtain⟨_,sl',y2⟩:=y b _ x2
 exact⟨λhb=>(y b o (x1 hb)).1 hb,sl',y2⟩
theorem Nr.of_but {fr:List Addr}{g h h':Heap}{e:Addr}(x:Nr fr g h) (he:g.get? e=none) (k:∀b o,b≠e->h.get? b=some o->h'.get? b=some o):Nr fr g h':=λb o q=>by
 have ne:b≠e:=λz=>by rw [z,he] at q;cases q
 obtain⟨x1,sl,x2⟩:=x b o q
 exact⟨λhb=>k b o ne (x1 hb),sl,k b _ ne x2⟩
theorem Nr.frames {fr:List Addr}{g h base:Heap}{l:List Env}(x:Nr fr g h) (f:g.FunFrames base l):h.FunFrames base l:=
 f.of_keeps λb o q _=>by
  obtain⟨_,sl,e⟩:=x b o q
  exact⟨_,e,rfl⟩
theorem qMW (o:Obj) (f:Array Value->Array Value):(o.mapFields f).dict=o.dict:=by
 obtain⟨c,d,dt,sl⟩:=o
 cases dt<;>rfl
section
variable {fr:List Addr}
variable {M:Model}{A:Around}{E:Value->Shared->Prop}{s:Shared}{base g:Heap}{env:Env}{outer:List Env}{L e:Addr}{C:Value}{Q:Unit->Shared->Prop}
theorem qJ4 {oe:Obj}{vs:Array Value}{hd:Value}{b:Bool}(hfr:A.frames=some (env::outer)) (fun_:g.FunFrames base (env::outer)) (hf:env.frame=some L) (sub:∀b∈(env::outer).filterMap (·.frame),b∈fr) (nr:Nr fr g s.heap) (ge:g.get? e=none)
  (he:s.heap.get? e=some oe) (hdt:oe.data=.fields vs) (hsz:1<vs.size) (hc:oe.cls=C/\oe.dict=none) (k:∀h',Nr fr g h'->Lot g h' e C (rawInt L)->Q () { s with heap:=h' }) :
  wpAny M A (do setField (.ref e) 1 (<-EntryCells.newEntry hd (<-frameOf env) .none (rawInt L) .none (<-entryPlaceOf L b))) Q E s:=by
 have fs:=nr.frames fun_
 have enf:e∉(env::outer).filterMap (·.frame):=λhm=>by
  obtain⟨_,o,ho,nf⟩:=fs.mem hm
  rw [he] at ho;cases ho
  exact nf vs hdt
 refine wpAny_bind (wpAny_frameOf_fun hfr fs hf λh1 so=>?_)
 refine wpAny_bind (wpAny_entryPlaceOf λpl ip=>?_)
 unfold EntryCells.newEntry newFields
 refine wpAny_bind (wpAny_newObj_type ?_ (ip.sizeOk5 _ _ _ _ _))
 generalize hto:([hd,Value.ref L,.none,rawInt L,.none]++(if pl.isEmpty then List.replicate 6 Value.none else pl)).toArray=ts
 have t3:ts[3]?=some (rawInt L):=by rw [<-hto];simp
 have e1:h1.get? e=some oe:=(so.2.1 e enf).trans he
 have e2:=Heap.get?_push_of_some (h:=h1) { cls:=.type "traceback",dict:=none,data:=.fields ts } e1
 have tne:h1.objs.size≠e:=Nat.ne_of_gt (Heap.lt_size e1)
 have nr1:Nr fr g h1:=λc o q=>by
  obtain⟨x1,sl,x2⟩:=nr c o q
  obtain⟨sl',y⟩:=so.2.2 c _ x2
  exact⟨λhb=>(so.2.1 c λz=>hb (sub c z)).trans (x1 hb),sl',y⟩
 have nr2:Nr fr g (h1.push { cls:=.type "traceback",dict:=none,data:=.fields ts }):=nr1.trans (.of_keep λc o q=>Heap.get?_push_of_some _ q)
 refine wpAny_setField e2 hdt hsz (k _ (nr2.of_but ge λc o nc q=>?_) ⟨ge,?_⟩)
 ·rw [Heap.get?_update_other _ _ (Ne.symm nc)];exact q
 ·have e3:=Obj.data_mapFields hdt (·.setIfInBounds 1 (Value.ref h1.objs.size))
  refine⟨_,_,h1.objs.size,{ cls:=.type "traceback",dict:=none,data:=.fields ts },ts,Heap.get?_update_self _ e2 (Obj.isFreed_of_fields e3),⟨(Obj.cls_mapFields _ _).trans hc.1,(qMW _ _).trans hc.2⟩,e3,by simp [hsz],tne,?_,?_,rfl,t3⟩
  ·cases q:g.get? h1.objs.size with
   | none=>rfl
   | some o =>
    obtain⟨_,sl,z⟩:=nr1 _ o q
    exact absurd (Heap.lt_size z) (Nat.lt_irrefl _)
  ·rw [Heap.get?_update_other _ _ (Ne.symm tne)]
   exact Heap.get?_push_size h1 rfl
theorem qGv {oe:Obj}{vs:Array Value}(hfr:A.frames=some (env::outer)) (fun_:g.FunFrames base (env::outer)) (hf:env.frame=some L) (sub:∀b∈(env::outer).filterMap (·.frame),b∈fr) (nr:Nr fr g s.heap) (ge:g.get? e=none)
  (he:s.heap.get? e=some oe) (hdt:oe.data=.fields vs) (h1:vs[1]?=some .none) (hc:oe.cls=C/\oe.dict=none) (k:∀h',Nr fr g h'->Lot g h' e C (rawInt L)->Q () { s with heap:=h' }) :
  wpAny M A (noteFrame (.ref e) env) Q E s:=by
 unfold noteFrame
 rw [hf]
 refine wpAny_bind (wpAny_field he hdt h1 ?_)
 rw [if_neg (by decide)]
 exact qJ4 hfr fun_ hf sub nr ge he hdt (Array.getElem?_eq_some_iff.mp h1).1 hc k
theorem qGA {fl:Value}(nr:Nr fr g s.heap) (lot:Lot g s.heap e C fl) (k:∀h',Nr fr g h'->Lot g h' e C .none->Q () { s with heap:=h' }):wpAny M A (setFlight (.ref e) none) Q E s:=by
 obtain⟨ge,oe,vs,T,oT,ts,a1,a2,a3,a4,a5,a6,a7,a8,a9⟩:=lot
 have sz:3<ts.size:=(Array.getElem?_eq_some_iff.mp a9).1
 unfold setFlight
 refine wpAny_bind (wpAny_field a1 a3 a4 ?_)
 rw [if_pos (show (Value.ref T != Value.none)=true by simp)]
 have d3:=Obj.data_mapFields a8 (·.setIfInBounds 3 ((none:Option Addr).elim Value.none λf=>rawInt f))
 exact wpAny_setField a7 a8 sz (k _ (nr.of_but a6 λc o nc q=>by rw [Heap.get?_update_other _ _ (Ne.symm nc)];exact q) ⟨ge,oe,vs,T,_,_,by rw [Heap.get?_update_other _ _ a5];exact a1,a2,a3,a4,a5,a6,Heap.get?_update_self _ a7 (Obj.isFreed_of_fields d3),d3,by simp [sz]⟩)
theorem qFc {oe:Obj}{vs:Array Value}(hfr:A.frames=some (env::outer)) (fun_:g.FunFrames base (env::outer)) (hf:env.frame=some L) (sub:∀b∈(env::outer).filterMap (·.frame),b∈fr) (nr:Nr fr g s.heap) (ge:g.get? e=none)
  (he:s.heap.get? e=some oe) (hdt:oe.data=.fields vs) (h1:vs[1]?=some .none) (hc:oe.cls=C/\oe.dict=none) (k:∀h',Nr fr g h'->Lot g h' e C .none->Q () { s with heap:=h' }) :
  wpAny M A (leaving env (.ref e)) Q E s:=by
 unfold leaving
 exact wpAny_bind (qGv hfr fun_ hf sub nr ge he hdt h1 hc λh' nr' lot=>qGA (s:={ s with heap:=h' }) nr' lot λh2 n2 l2=>k h2 n2 l2)
end
end L2
namespace L2
open PySem PySem.W PySem.Spec PySem.Calls PyProof.Rows
structure XCls (K:Frag) (D:Addr):Prop where
 ga:findIn K (.ref D) "__getattribute__"=some (some (.builtin "BaseException.__getattribute__"))
 no:findIn K (.ref D) "__getattr__"=some none
 fo:findObj K D none "__class__"=some (.bind (.builtin "getset_descriptor.__get__") (.builtin "object.__class__"))
 ob:mroIn K D (.type "object")=some true
 be:subIn K (.ref D) (.type "BaseException")=some true
 cl:(clsIn K D).isSome=true
end L2
namespace L2
open PySem PySem.W PySem.Spec PySem.Calls PyProof.Rows
noncomputable def CXr (P:Program) (w:World):CXT:=λouter H s E e s'=>∃(a C:Addr) (H':Hp) (g:Heap) (fr:List Addr),e=.ref a/\s'.os=s.os/\AllBare s'.gens/\Un (frs outer) [] H H' s.heap g/\HOk P w H' g /\
 (∀b∈fr,(b∈frs outer∨s.heap.get? b=none)/\H' b=none)/\(∀b∈frs outer,b∈fr)/\Nr fr g s'.heap/\Lot g s'.heap a (.ref C) .none/\E (.ref C) none H'
noncomputable def qRc (X:Cx) (c:Str) (H:Hp):Prop:=∀(pins:List (Addr×Obj)) (σ:St) (s:Shared) (h':Heap) (e C:Addr) (vs:List Value),Inv X pins σ H s->X.mg c=some (.ref C)->Heap.MadeExcOf s.heap h' e (.ref C) vs->X.xe (.ref e) { s with heap:=h' }
section
variable {P:Program}{w:World}{K:Frag}{mg:Str->Option Value}{base:Heap}{N:List Str}{qual:Str}{scope:Scope}{f:Addr}{cd:Value}{A:Around}{outer:List Env}{s₀:Shared}{H₀:Hp}{E:XK}
theorem qK4 {c:Str}{H:Hp}(hE:∀C,mg c=some (.ref C)->E (.ref C) none H):qRc (qIk (CXr P w) P w K mg base N qual scope f cd A outer s₀ H₀ E) c H:=by
 intro pins σ s h' e C vs I hm mk
 obtain⟨t,he,_,_⟩:=mk.there
 have hfr:=I.ok.frames
 have sub:∀b∈frs (envOfC qual scope s₀.heap.objs.size f cd::outer),(b∈frs outer∨s₀.heap.get? b=none)/\H b=none:=λb hb=>by
  refine⟨?_,I.stkFree b hb⟩
  rcases List.mem_cons.mp (show b∈s₀.heap.objs.size::frs outer from hb) with z|z
  ·exact .inr (by rw [z];exact Heap.get?_none_of_le (Nat.le_refl _))
  ·exact .inl z
 refine qFc (base:=base) (g:=s.heap) (fr:=frs (envOfC qual scope s₀.heap.objs.size f cd::outer)) (L:=s₀.heap.objs.size) (C:=.ref C) (outer:=outer) hfr I.stack rfl (λb hb=>hb) (.of_keep mk.keeps) mk.new he rfl rfl ⟨rfl,rfl⟩ λh2 n2 l2=>?_
 exact⟨e,C,H,s.heap,_,rfl,I.os,I.bare,I.base,I.hok,sub,λb hb=>List.mem_cons_of_mem _ hb,n2,l2,hE C hm⟩
end
end L2
namespace L2
open PySem PySem.W PySem.Calls PyProof.Rows
section
variable {X:Cx}{pins:List (Addr×Obj)}{σ:St}{H:Hp}{s:Shared}{h':Heap}
theorem Inv.tabGrow {P c:Addr}{pos:Pos}{q:Str}{ps:Array Value}{oc:Obj}{vs:Array Value}{t:Tok}{t':Nat}(I:Inv X pins σ H s) (hP:H P=some (.tab pos q)) (hx:Heap.ExtBut P s.heap h') (hc:s.heap.objs.size<=c)
  (ho:h'.get? c=some oc) (hd:oc.data=.fields vs) (hv:vs[1]?=some (.str q t)) (hp:h'.get? P=some (tabObj ps)) (ht:TriplesOk ps.toList) (hf:codeAmong pos ps.toList=some (.ref c)) :
  Inv X pins σ (upd H c (.frz oc (.own c))) { s with heap:=h',toks:=t' }:=by
 have hn:H c=none:=I.hok.fresh hc
 have nP:∀b,H b=none->b≠P:=λb n z=>by subst z;rw [hP] at n;cases n
 have u:Un X.fs [] H (upd H c (.frz oc (.own c))) s.heap h':=⟨λb o e n _ _=>hx b o (nP b n) e,λb o e n _ _=>⟨o.slots,hx b o (nP b n) e⟩,
  λb o e n _=>by rw [qAc (Nat.ne_of_lt (Nat.lt_of_lt_of_le (Heap.lt_size e) hc))];exact n,λb o e _=>by
   by_cases z:b=P
   ·subst z;exact⟨_,hp⟩
   ·exact⟨o,hx b o z e⟩,
  λb xs e=>by rw [qAc (qAd e hn)];exact e,λb o v e=>by rw [qAc (qAd e hn)];exact e,λb xs e=>⟨#[],by rw [qAc (qAd e hn),e];simp⟩⟩
 refine I.un u λa o e=>?_
 by_cases z:a=c
 ·subst z
  rw [qAw] at e;cases e
  exact⟨ho,_,ho⟩
 ·rw [qAc z] at e
  by_cases zP:a=P
  ·subst zP
   rw [hP] at e;cases e
   exact⟨ps,hp,ht,.inr ⟨c,oc,_,vs,t,hf,qAw,hd,hv⟩⟩
  ·refine (I.hok a o e).stay (λb v hb q=>hx b v ?_ q) (λb q=>by rw [qAc (qAd q hn)];exact q) (λb xs q=>by rw [qAc (qAd q hn)];exact q) λb ob v q=>by rw [qAc (qAd q hn)];exact q
   rcases hb with rfl|hb
   ·exact zP
   ·rintro rfl;rw [hP] at hb;cases hb
noncomputable def qRv (X:Cx) (la:Arguments) (e:Expr) (sc:Scope) (clos:List (Str×Addr)) (pos:Pos) (P:Addr):TE:=λ_ H Q=>H P=some (.tab pos (X.env.qual++"<lambda>")) /\
 ∀(f c:Addr) (oc:Obj) (vs:Array Value) (t:Tok) (ctv:Value) (H':Hp),(∀b o,H b=some o->H' b=some o)->H f=none->H' f=some (.frz (kla_obj "<lambda>" (X.env.qual++"<lambda>") la e sc clos ((X.mg "__name__").getD .none) c ctv) (.own f)) ->
   (∃u,H' c=some (.frz oc u))->oc.data=.fields vs->vs[1]?=some (.str (X.env.qual++"<lambda>") t)->(∀b o,H' b=some o->H b=some o∨∃ob u,o=.frz ob u)->Q (.ref f) H'
theorem qOi {c P:Addr}{la:Arguments}{e:Expr}{sc:Scope}{pos:Pos}{clos:List (Str×Addr)}(hdef:defaultsOf la X.env=([],[])) (hcl:closureFor sc X.env=pure clos) (hcode:X.env.code=.ref c) (C:CodeHd X.base c P) (hb:X.base.BuiltinsAt X.mg P) :
  PE X (.Lambda la e sc pos) (qRv X la e sc clos pos P):=by
 intro pins s σ H Q I ⟨hP,k⟩
 refine kla_eval hdef ?_
 obtain⟨ps,hp,ht,r⟩:=I.hok P _ hP
 have hg:=I.mod.glob.keeps I.bk
 obtain⟨bm,ob,b1,b2,b3,b4,b5,b6⟩:=hb
 have hb':s.heap.BuiltinsAt X.mg P:=⟨bm,ob,b1,b2,b3,b4,I.bk _ _ b5,b6⟩
 have hgP:mainGlobals≠P:=λz=>by
  obtain⟨o,es,ep,ho,_⟩:=I.mod.glob
  have:=(I.bs _ _ ho).2
  rw [z,hP] at this;cases this
 rcases r with hn|⟨c',oc,u,vs,t,hf,hc,hd,hv⟩
 ·refine kla_makeFunction (mg:=X.mg) hcl I.ok.glob hg hcode (C.keeps I.bk) hp ht hn hgP hb' λc' ctv h' tk hx hge hlt hrec htb=>?_
  obtain⟨c₂,oc,vs,t,e2,hoc,hd,hv⟩:=hrec
  cases e2
  have hnc:H c'=none:=I.hok.fresh hge
  have I1:=I.tabGrow (t':=tk) hP hx hge hoc hd hv htb (by rw [Array.toList_append];exact TriplesOk_snoc _ _ _ _ ht) (by rw [Array.toList_append];exact codeAmong_snoc _ ht hn)
  have hsz:s.heap.objs.size<=h'.objs.size:=Nat.le_trans hge (Nat.le_of_lt hlt)
  have hfn:H h'.objs.size=none:=I.hok.fresh hsz
  have ne:c'≠h'.objs.size:=Nat.ne_of_lt hlt
  have I2:=I1.laid (a:=h'.objs.size) (o:=.frz (kla_obj "<lambda>" (X.env.qual++"<lambda>") la e sc clos ((X.mg "__name__").getD .none) c' ctv) (.own h'.objs.size)) (t':=tk) (λb u e=>Heap.get?_push_of_some _ e) (Nat.le_refl _) ⟨Heap.get?_push_size _ rfl,_,Heap.get?_push_size _ rfl⟩
  refine⟨.ref h'.objs.size,_,I2,rfl,k _ c' oc vs t ctv _ (λb o e=>?_) hfn qAw ⟨_,(by rw [qAc ne];exact qAw)⟩ hd hv λb o e=>?_⟩
  ·rw [qAc (qAd e hfn),qAc (qAd e hnc)];exact e
  ·by_cases z:b=h'.objs.size
   ·subst z;rw [qAw] at e;cases e;exact .inr ⟨_,_,rfl⟩
   ·rw [qAc z] at e
    by_cases z:b=c'
    ·subst z;rw [qAw] at e;cases e;exact .inr ⟨_,_,rfl⟩
    ·rw [qAc z] at e;exact .inl e
 ·refine kla_makeFunctionHit (mg:=X.mg) hcl I.ok.glob hg hcode (C.keeps I.bk) hp ht hf hb' λctv h' tk hk hsz=>?_
  have hfn:H h'.objs.size=none:=I.hok.fresh hsz
  have I2:=I.laid (a:=h'.objs.size) (h':=h'.push { cls:=.type "function",data:=.func (kla_fn "<lambda>" (X.env.qual++"<lambda>") la e sc clos ((X.mg "__name__").getD .none) (.ref c') ctv) }) (o:=.frz (kla_obj "<lambda>" (X.env.qual++"<lambda>") la e sc clos ((X.mg "__name__").getD .none) c' ctv) (.own h'.objs.size)) (t':=tk) (λb u e=>Heap.get?_push_of_some _ (hk b u e)) hsz ⟨Heap.get?_push_size _ rfl,_,Heap.get?_push_size _ rfl⟩
  refine⟨.ref h'.objs.size,_,I2,rfl,k _ c' oc vs t ctv _ (λb o e=>?_) hfn qAw ⟨u,?_⟩ hd hv λb o e=>?_⟩
  ·rw [qAc (qAd e hfn)];exact e
  ·rw [qAc (qAd hc hfn)];exact hc
  ·by_cases z:b=h'.objs.size
   ·subst z;rw [qAw] at e;cases e;exact .inr ⟨_,_,rfl⟩
   ·rw [qAc z] at e;exact .inl e
end
end L2
namespace L2
open PySem PySem.W PySem.Calls PyProof.Rows
noncomputable def qJ7 (P:Program) (w:World) (K:Frag) (mg:Str->Option Value) (base:Heap) (N:List Str) (qual:Str) (scope:Scope) (f:Addr) (cd:Value) (clos:List (Str×Addr)) (A:Around) (outer:List Env) (s:Shared) (H:Hp):Cx where
 prog:=P
 w:=w
 K:=K
 mg:=mg
 base:=base
 A:=A.deeper (envX qual scope s.heap.objs.size f cd clos)
 N:=N
 s₀:=s
 H₀:=H
 env:=envX qual scope s.heap.objs.size f cd clos
 outer:=outer
 stack:=envX qual scope s.heap.objs.size f cd clos::outer
 ex:=[]
 calm:=true
 fn:=λ_=>false
 pn:=[]
 xe:=λ_ _=>False
section
variable {P:Program}{w:World}{K:Frag}{mg:Str->Option Value}{base:Heap}{N:List Str}{name qual:Str}{params:Arguments}{body:Expr}{scope:Scope}{f c:Addr}{clos:List (Str×Addr)}{pm ctv:Value}{A:Around}{outer:List Env}{s:Shared}{H:Hp}
theorem qMA {x:Str}{v:V}{uv:Value}{t:TE}{Q:VK}{σ:St}(hf:s.heap.get? f=some (kla_obj name qual params body scope clos pm c ctv)) (hcd:s.heap.CodeRec (.ref c) qual) (hdep:A.depth<recursionLimit) (hh:A.handled=none)
  (e0:Env0 P w K mg base A outer s H) (hk:scope.kind=.function) (hco:scope.isCoroutine=false) (hgen:scope.isGenerator=false) (hcell:∀y∈scope.names,y.2≠.cell)
  (hbind:bindArgs (kla_fn name qual params body scope clos pm (.ref c) ctv) ⟨[uv],[]⟩=pure [(x,uv)]) (hloc:scope.names.lookup x=some .local) (rv:RelV v uv) (hlen:σ.length=N.length)
  (hσ:∀(i:Nat) (y:Str) (v':V),N[i]?=some y->σ[i]?=some (some v')->(y=x/\v'=v)∨(scope.names.lookup y=some .free/\∃c u,clos.lookup y=some c/\s.heap.IsCell c (some u)/\RelV v' u))
  (inj:∀y z c,clos.lookup y=some c->clos.lookup z=some c->y=z) (has:∀y,scope.names.lookup y=some .free->∃c,clos.lookup y=some c)
  (cells:∀y c,clos.lookup y=some c->(∃v,s.heap.IsCell c v)/\H c=none)
  (ht:PE (qJ7 P w K mg base N qual scope f (.ref c) clos A outer s H) body t) (hq:t σ H Q) :
  codeAny (model P w) A (.call (.ref f) ⟨[uv],[]⟩) (λr s'=>match r with|.ok (.ret u)=>CE outer P w H s Q u s'|_=>False) s:=by
 have lim:s.heap.NoLimit:=e0.mod.nolimit.keeps λb o e=>(e0.bs b o e).1
 refine kla_callFunE hdep hf rfl hco hgen rfl hcd ?_
 rw [hbind]
 refine wpAny_pure (wpAny_newFunctionEnv hcell (λy hy=>by obtain rfl:=List.mem_singleton.mp hy;exact hloc) (λh₁ hns hsb=>?_) hk)
 have kp:∀b o,s.heap.get? b=some o->h₁.get? b=some o:=λb o e=>hsb.extBut b o (Nat.ne_of_lt (Heap.lt_size e)) (Heap.get?_push_of_some _ e)
 refine⟨lim.keeps kp,?_⟩
 show codeAny _ _ (.expr body (envX qual scope s.heap.objs.size f (.ref c) clos)) _ _
 have I:Inv (qJ7 P w K mg base N qual scope f (.ref c) clos A outer s H) [] σ H { s with heap:=h₁,toks:=s.toks+[(x,uv)].length }:=by
  refine⟨⟨e0.mod,hk,rfl,rfl,Nat.le_refl _,inj,λy hy=>?_,λy c hy=>(nomatch hy),λ_=>hh,Around.frames_deeper e0.frames,.inr ⟨rfl,rfl⟩,λb z=>(nomatch z),e0.bs,e0.bsz,λb _ _ z=>(nomatch z),λb z=>(nomatch z),e0.funs,e0.frf⟩,
   rfl,e0.bare,Un.kept kp,⟨_,hns,λi y v' h1 h2 h3=>?_⟩,λy c h=>?_,e0.hok.fresh (Nat.le_refl _),λy c h=>(cells y c h).2,λp hp=>(nomatch hp),e0.hok.kept kp,hlen⟩
  ·have hy:scope.names.lookup y=some .cell∨scope.names.lookup y=some .free:=hy
   rcases hy with hy|hy
   ·exact absurd rfl (hcell _ (PySem.mem_of_lookup hy))
   ·exact has y hy
  ·rcases hσ i y v' h1 h2 with ⟨rfl,rfl⟩|⟨hy,c,u,e1,e2,e3⟩
   ·exact⟨uv,rv,.inl ⟨hloc,by simp⟩⟩
   ·obtain⟨o,ho,hd⟩:=e2
    exact⟨u,e3,.inr ⟨.inr hy,c,e1,o,kp _ _ ho,hd⟩⟩
  ·obtain⟨v,o,ho,hd⟩:=(cells y c h).1
   exact⟨v,o,kp _ _ ho,hd⟩
 exact kla_codeExpr (wpAny_mono (ht [] _ σ H Q I hq) (λu s' ⟨v',H',J,r,q⟩=>⟨v',H',J.os,J.bare,J.base,J.hok,r,q⟩) λ_ _ z=>z.elim)
end
end L2
namespace Dw
open PySem PySem.W PyProof.Rows
structure Ord (c:Nat->Nat->Bool):Prop where
 as:∀i j,c i j=true->c j i=false
 nt:∀i j k,c i j=false->c j k=false->c i k=false
noncomputable abbrev gt0 (p:Array Nat) (i:Nat):Nat:=p.getD i 0
theorem qFe (p:Array Nat) (i:Nat):gt0 p i=(p[i]?).getD 0:=by
 unfold gt0
 rw [Array.getD_eq_getD_getElem?]
theorem qCT {p:Array Nat}{i j:Nat}(hj:j<=p.size) (k:Nat):gt0 (kas_rev p i j) k=if i<=k/\k<j then gt0 p (i+j - 1 - k) else gt0 p k:=by
 rw [qFe,qFe,qFe]
 unfold kas_rev
 rw [getElem?_mirror hj _ (by omega)]
 by_cases h:i<=k/\k<j
 ·rw [if_pos h]
  by_cases h':(i<=k/\k<i+(j - i) / 2)∨(j - (j - i) / 2<=k/\k<j)
  ·rw [if_pos h']
  ·rw [if_neg h',show i+j - 1 - k=k by omega]
 ·rw [if_neg h,if_neg (by omega)]
theorem qKV {p:Array Nat}{k d:Nat}(hk:k<p.size) (hd:d<=k) (i:Nat):gt0 (bubble p k d) i=if i=k - d then gt0 p k else if k - d<i/\i<=k then gt0 p (i - 1) else gt0 p i:=by
 rw [qFe,getElem?_bubble hk d hd,qFe p k,qFe p (i - 1),qFe p i]
 split
 ·rfl
 ·split<;>rfl
theorem qBB (p:Array Nat) (i j:Nat):(kas_rev p i j).size=p.size:=mirror_size _ _ _ _
section
variable {c:Nat->Nat->Bool}
noncomputable def Up (c:Nat->Nat->Bool) (p:Array Nat) (n:Nat):Prop:=∀a b,a<b->b<n->c (gt0 p b) (gt0 p a)=false
noncomputable def Dn (c:Nat->Nat->Bool) (p:Array Nat) (n:Nat):Prop:=∀a b,a<b->b<n->c (gt0 p a) (gt0 p b)=false
noncomputable def Eqv (c:Nat->Nat->Bool) (p:Array Nat) (u v:Nat):Prop:=∀a b,u<=a->a<v->u<=b->b<v->c (gt0 p a) (gt0 p b)=false
theorem Ord.rf (o:Ord c) (i:Nat):c i i=false:=by
 cases h:c i i with
 | false=>rfl
 | true=>rw [o.as _ _ h] at h;cases h
theorem qK9 (o:Ord c) {p:Array Nat}{n:Nat}(h:Up c p n) (hn:n=0∨c (gt0 p n) (gt0 p (n - 1))=false):Up c p (n+1):=by
 intro a b hab hb
 by_cases e:b<n
 ·exact h a b hab e
 obtain rfl:b=n:=by omega
 rcases hn with z|z
 ·omega
 by_cases e:a=b - 1
 ·rw [e];exact z
 ·exact o.nt _ _ _ z (h a (b - 1) (by omega) (by omega))
theorem qC8 (o:Ord c) {p:Array Nat}{n:Nat}(h:Dn c p n) (hn:n=0∨c (gt0 p (n - 1)) (gt0 p n)=false):Dn c p (n+1):=by
 intro a b hab hb
 by_cases e:b<n
 ·exact h a b hab e
 obtain rfl:b=n:=by omega
 rcases hn with z|z
 ·omega
 by_cases e:a=b - 1
 ·rw [e];exact z
 ·exact o.nt _ _ _ (h a (b - 1) (by omega) (by omega)) z
theorem qIM (o:Ord c) (p:Array Nat):∀(f n:Nat),0<n->Up c p n->n<=qAW c (kas_asc p f n)/\qAW c (kas_asc p f n)<=n+f/\Up c p (qAW c (kas_asc p f n))/\(qAW c (kas_asc p f n)<n+f->c (gt0 p (qAW c (kas_asc p f n))) (gt0 p (qAW c (kas_asc p f n) - 1))=true)
 | 0,n,h0,h=>⟨Nat.le_refl _,Nat.le_refl _,h,λz=>absurd z (Nat.lt_irrefl _)⟩
 | f+1,n,h0,h=>by
  rw [kas_asc,qBs]
  cases q:c (p.getD n 0) (p.getD (n - 1) 0) with
  | true=>exact⟨Nat.le_refl _,by show n<=_;omega,h,λ_=>q⟩
  | false =>
   obtain⟨h1,h2,h3,h4⟩:=qIM o p f (n+1) (by omega) (qK9 o h (.inr q))
   rw [if_neg (by decide)]
   exact⟨by omega,by omega,h3,λz=>h4 (by omega)⟩
theorem qIj (o:Ord c) {p:Array Nat}{n u:Nat}(hs:n<=p.size) (hu:u<=n) (h:Dn c p n) (he:Eqv c p u n):Dn c (kas_rev p u n) n/\∀b,u<=b->b<n->∀x,(c (gt0 p (n - 1)) x=false->c (gt0 (kas_rev p u n) b) x=false):=by
 constructor
 ·intro a b hab hb
  rw [qCT hs,qCT hs]
  by_cases ha:u<=a
  ·rw [if_pos (by omega),if_pos (by omega)]
   exact he _ _ (by omega) (by omega) (by omega) (by omega)
  ·rw [if_neg (by omega)]
   split
   ·by_cases hb':u<=b
    ·exact h _ _ (by omega) (by omega)
    ·omega
   ·exact h _ _ hab hb
 ·intro b h1 h2 x hx
  rw [qCT hs,if_pos ⟨h1,h2⟩]
  exact o.nt _ _ _ (he _ (n - 1) (by omega) (by omega) (by omega) (by omega)) hx
theorem qD2 (o:Ord c):∀(f:Nat) (p:Array Nat) (n q:Nat),n+f<=p.size->q+1<=n->Dn c p n->Eqv c p (n - (q+1)) n ->
  (qAW c (kas_desc f p n q)).1.size=p.size/\n<=(qAW c (kas_desc f p n q)).2.1/\(qAW c (kas_desc f p n q)).2.1<=n+f/\(qAW c (kas_desc f p n q)).2.2+1<=(qAW c (kas_desc f p n q)).2.1/\Dn c (qAW c (kas_desc f p n q)).1 (qAW c (kas_desc f p n q)).2.1 /\
   Eqv c (qAW c (kas_desc f p n q)).1 ((qAW c (kas_desc f p n q)).2.1 - ((qAW c (kas_desc f p n q)).2.2+1)) (qAW c (kas_desc f p n q)).2.1
 | 0,p,n,q,hs,hq,hd,he=>⟨rfl,Nat.le_refl _,Nat.le_refl _,hq,hd,he⟩
 | f+1,p,n,q,hs,hq,hd,he=>by
  rw [kas_desc,qBs]
  cases q1:c (p.getD n 0) (p.getD (n - 1) 0) with
  | true =>
   rw [if_pos rfl]
   have hlt:c (gt0 p (n - 1)) (gt0 p n)=false:=o.as _ _ q1
   by_cases hq0:q > 0
   ·rw [if_pos hq0]
    obtain⟨r1,r2⟩:=qIj o (n:=n) (u:=n - (q+1)) (by omega) (by omega) hd he
    have e1:gt0 (kas_rev p (n - (q+1)) n) n=gt0 p n:=by rw [qCT (by omega),if_neg (by omega)]
    obtain⟨a1,a2,a3,a4,a5,a6⟩:=qD2 o f (kas_rev p (n - (q+1)) n) (n+1) 0 (by rw [qBB];omega) (by omega) (qC8 o r1 (.inr (by rw [e1];exact r2 (n - 1) (by omega) (by omega) _ hlt))) (λa b h1 h2 h3 h4=>by
     obtain rfl:a=n:=by omega
     obtain rfl:b=a:=by omega
     exact o.rf _)
    exact⟨by rw [a1,qBB],by omega,by omega,a4,a5,a6⟩
   ·rw [if_neg hq0]
    obtain⟨a1,a2,a3,a4,a5,a6⟩:=qD2 o f p (n+1) 0 (by omega) (by omega) (qC8 o hd (.inr hlt)) (λa b h1 h2 h3 h4=>by
     obtain rfl:a=n:=by omega
     obtain rfl:b=a:=by omega
     exact o.rf _)
    exact⟨a1,by omega,by omega,a4,a5,a6⟩
  | false =>
   rw [if_neg (by decide),qBs]
   cases q2:c (p.getD (n - 1) 0) (p.getD n 0) with
   | true=>exact⟨rfl,Nat.le_refl _,by show n<=_;omega,hq,hd,he⟩
   | false =>
    rw [if_neg (by decide)]
    obtain⟨a1,a2,a3,a4,a5,a6⟩:=qD2 o f p (n+1) (q+1) (by omega) (by omega) (qC8 o hd (.inr q2)) (λa b h1 h2 h3 h4=>by
     by_cases ea:a=n
     ·subst ea
      by_cases eb:b=a
      ·subst eb;exact o.rf _
      ·exact o.nt _ _ _ q1 (he (a - 1) b (by omega) (by omega) (by omega) (by omega))
     ·by_cases eb:b=n
      ·subst eb
       exact o.nt _ _ _ (he a (b - 1) (by omega) (by omega) (by omega) (by omega)) q2
      ·exact he a b (by omega) (by omega) (by omega) (by omega))
    exact⟨a1,by omega,by omega,a4,a5,a6⟩
theorem qGW (o:Ord c) {p:Array Nat}{k m:Nat}(hk:0<k) (hkm:k<=m) (hm:m<=p.size) (h:Dn c p k):Up c (qAW c (kas_tail3 k m p)).2 (qAW c (kas_tail3 k m p)).1/\(qAW c (kas_tail3 k m p)).1<=m/\0<(qAW c (kas_tail3 k m p)).1/\(qAW c (kas_tail3 k m p)).2.size=p.size:=by
 rw [kas_tail3,qAT,qJs]
 have hu:Up c (kas_rev p 0 k) k:=λa b hab hb=>by
  rw [qCT (by omega),qCT (by omega),if_pos (by omega),if_pos (by omega)]
  exact h _ _ (by omega) (by omega)
 obtain⟨h1,h2,h3,h4⟩:=qIM o (kas_rev p 0 k) (m - k) k hk hu
 exact⟨h3,by show qAW c (kas_asc (kas_rev p 0 k) (m - k) k)<=m;omega,by show 0<qAW c (kas_asc (kas_rev p 0 k) (m - k) k);omega,qBB _ _ _⟩
theorem qHw (o:Ord c) {p:Array Nat}{n m:Nat}(hn:n<m) (hm:m<=p.size) (h:Dn c p (n+1)):Up c (qAW c (kas_descPart n m p)).2 (qAW c (kas_descPart n m p)).1/\(qAW c (kas_descPart n m p)).1<=m/\0<(qAW c (kas_descPart n m p)).1/\(qAW c (kas_descPart n m p)).2.size=p.size:=by
 rw [kas_descPart,qAT]
 obtain⟨a1,a2,a3,a4,a5,a6⟩:=qD2 o (m - (n+1)) p (n+1) 0 (by omega) (by omega) h (λa b h1 h2 h3 h4=>by
  obtain rfl:a=n:=by omega
  obtain rfl:b=a:=by omega
  exact o.rf _)
 generalize qAW c (kas_desc (m - (n+1)) p (n+1) 0)=r at *
 obtain⟨r1,r2,r3⟩:=r
 dsimp only at *
 split
 ·obtain⟨b1,b2⟩:=qIj o (n:=r2) (u:=r2 - (r3+1)) (by omega) (by omega) a5 a6
  have:=qGW o (k:=r2) (m:=m) (by omega) (by omega) (by rw [qBB];omega) b1
  rw [qBB,a1] at this
  exact this
 ·have:=qGW o (k:=r2) (m:=m) (p:=r1) (by omega) (by omega) (by omega) a5
  rw [a1] at this
  exact this
theorem qKa (o:Ord c) {p:Array Nat}{m:Nat}(hm0:0<m) (hm:m<=p.size):Up c (qAW c (kas_count m p)).2 (qAW c (kas_count m p)).1/\(qAW c (kas_count m p)).1<=m/\0<(qAW c (kas_count m p)).1/\(qAW c (kas_count m p)).2.size=p.size:=by
 rw [kas_count,qAT]
 obtain⟨h1,h2,h3,h4⟩:=qIM o p (m - 1) 1 (by omega) (λa b hab hb=>by omega)
 generalize qAW c (kas_asc p (m - 1) 1)=n at *
 by_cases e:n=m
 ·rw [if_pos (by simpa using e)]
  exact⟨h3,by show n<=m;omega,by show 0<n;omega,rfl⟩
 rw [if_neg (by simpa using e)]
 have hlt:c (gt0 p (n - 1)) (gt0 p n)=false:=o.as _ _ (h4 (by omega))
 by_cases e1:n > 1
 ·rw [if_pos e1,qBs]
  cases q:c (p.getD 0 0) (p.getD (n - 1) 0) with
  | true=>exact⟨h3,by show n<=m;omega,by show 0<n;omega,rfl⟩
  | false =>
   rw [if_neg (by decide)]
   have he:Eqv c p 0 n:=λa b _ ha _ hb=>by
    have s1:c (gt0 p a) (gt0 p 0)=false:=by
     by_cases z:a=0
     ·rw [z];exact o.rf _
     ·exact h3 0 a (by omega) ha
    have s2:c (gt0 p (n - 1)) (gt0 p b)=false:=by
     by_cases z:b=n - 1
     ·rw [z];exact o.rf _
     ·exact h3 b (n - 1) (by omega) (by omega)
    exact o.nt _ _ _ s1 (o.nt _ _ _ q s2)
   obtain⟨r1,r2⟩:=qIj o (n:=n) (u:=0) (by omega) (by omega) (λa b _ hb=>he a b (by omega) (by omega) (by omega) hb) he
   have e3:gt0 (kas_rev p 0 n) n=gt0 p n:=by rw [qCT (by omega),if_neg (by omega)]
   have:=qHw o (p:=kas_rev p 0 n) (n:=n) (m:=m) (by omega) (by rw [qBB];exact hm) (qC8 o r1 (.inr (by rw [e3];exact r2 (n - 1) (by omega) (by omega) _ hlt)))
   rw [qBB] at this
   exact this
 ·rw [if_neg e1]
  obtain rfl:n=1:=by omega
  exact qHw o (by omega) hm (qC8 o (λa b hab hb=>by omega) (.inr hlt))
theorem qDL (o:Ord c) {p:Array Nat}{k:Nat}(h:Up c p k):∀(f l r:Nat),r - l<=f->l<=r->r<=k->(∀i,i<l->c (gt0 p k) (gt0 p i)=false)->(∀i,r<=i->i<k->c (gt0 p k) (gt0 p i)=true) ->
  qAW c (kas_place p k f l r)<=k/\(∀i,i<qAW c (kas_place p k f l r)->c (gt0 p k) (gt0 p i)=false)/\(∀i,qAW c (kas_place p k f l r)<=i->i<k->c (gt0 p k) (gt0 p i)=true)
 | 0,l,r,hf,hl,hr,h1,h2=>⟨by show l<=k;omega,h1,λi hi=>h2 i (by have:l<=i:=hi;omega)⟩
 | f+1,l,r,hf,hl,hr,h1,h2=>by
  rw [kas_place]
  by_cases e:l ≥ r
  ·rw [if_pos e]
   exact⟨by show l<=k;omega,h1,λi hi=>h2 i (by have:l<=i:=hi;omega)⟩
  rw [if_neg e,qBs]
  cases q:c (p.getD k 0) (p.getD ((l+r) / 2) 0) with
  | true =>
   rw [if_pos rfl]
   refine qDL o h f l ((l+r) / 2) (by omega) (by omega) (by omega) h1 λi hi hik=>?_
   cases z:c (gt0 p k) (gt0 p i) with
   | true=>rfl
   | false =>
    have:c (gt0 p k) (gt0 p ((l+r) / 2))=false:=by
     by_cases e':i=(l+r) / 2
     ·rw [<-e'];exact z
     ·exact o.nt _ _ _ z (h _ i (by omega) hik)
    rw [show c (gt0 p k) (gt0 p ((l+r) / 2))=true from q] at this
    cases this
  | false =>
   rw [if_neg (by decide)]
   refine qDL o h f ((l+r) / 2+1) r (by omega) (by omega) hr (λi hi=>?_) h2
   by_cases e':i=(l+r) / 2
   ·rw [e'];exact q
   ·exact o.nt _ _ _ q (h i ((l+r) / 2) (by omega) (by omega))
theorem qKX (o:Ord c):∀(f:Nat) (p:Array Nat) (k:Nat),k+f<=p.size->Up c p k->Up c (qAW c (kas_bin f p k)) (k+f)
 | 0,p,k,_,h=>h
 | f+1,p,k,hs,h=>by
  rw [kas_bin,qAT]
  obtain⟨a1,a2,a3⟩:=qDL o h k 0 k (by omega) (by omega) (Nat.le_refl _) (λi hi=>absurd hi (by omega)) (λi h1 h2=>absurd h1 (by omega))
  generalize qAW c (kas_place p k k 0 k)=l at *
  have:=qKX o f (bubble p k (k - l)) (k+1) (by rw [bubble_size];omega) (λa b hab hb=>by
   rw [qKV (by omega) (by omega),qKV (by omega) (by omega)]
   have el:k - (k - l)=l:=by omega
   rw [el]
   by_cases hbl:b=l
   ·rw [if_pos hbl,if_neg (by omega),if_neg (by omega)]
    exact a2 a (by omega)
   ·rw [if_neg hbl]
    by_cases hb1:l<b/\b<=k
    ·rw [if_pos hb1]
     by_cases hal:a=l
     ·rw [if_pos hal]
      exact o.as _ _ (a3 (b - 1) (by omega) (by omega))
     ·rw [if_neg hal]
      by_cases ha1:l<a/\a<=k
      ·rw [if_pos ha1];exact h _ _ (by omega) (by omega)
      ·rw [if_neg ha1]
       by_cases e:a=b - 1
       ·omega
       ·exact h _ _ (by omega) (by omega)
    ·rw [if_neg hb1,if_neg (by omega),if_neg (by omega)]
     exact h _ _ hab (by omega))
  rw [show k+(f+1)=k+1+f by omega]
  exact this
theorem qLu (o:Ord c) (n:Nat):Up c (qAW c (kas_sort n)) n:=by
 by_cases h0:n=0
 ·subst h0;exact λa b _ hb=>absurd hb (by omega)
 rw [kas_sort,qAT]
 obtain⟨a1,a2,a3,a4⟩:=qKa o (p:=(List.range n).toArray) (m:=n) (by omega) (by simp)
 generalize qAW c (kas_count n (List.range n).toArray)=r at *
 obtain⟨m,p⟩:=r
 dsimp only at *
 have hsz:p.size=n:=by rw [a4];simp
 by_cases e:m<n
 ·rw [if_pos e]
  have hm:max m 1=m:=by omega
  rw [hm]
  have:=qKX o (n - m) p m (by omega) a1
  rw [show m+(n - m)=n by omega] at this
  exact this
 ·rw [if_neg e]
  obtain rfl:m=n:=by omega
  exact a1
end
end Dw
namespace Dw
open PySem PySem.W PyProof.Rows
theorem qMJ (is:List Int):Ord λi j=>decide (is.getD i 0<is.getD j 0):=
 ⟨λi j h=>by simp only [decide_eq_true_eq,decide_eq_false_iff_not] at *;omega,λi j k h1 h2=>by simp only [decide_eq_false_iff_not] at *;omega⟩
theorem qLp (is:List Int):(qCA is).Pairwise λi j=>is.getD i 0<=is.getD j 0:=by
 unfold qCA
 split
 ·rename_i h
  match is,h with
  | [],_=>exact .nil
  | [_],_=>exact List.pairwise_singleton ..
 ·have hu:=qLu (qMJ is) is.length
  have hz:(qAW (λi j=>decide (is.getD i 0<is.getD j 0)) (kas_sort is.length)).size=is.length:=by
   have:=(qCf (λi j=>decide (is.getD i 0<is.getD j 0)) is.length).length_eq
   simpa using this
  rw [List.pairwise_iff_getElem]
  intro a b ha hb hab
  rw [Array.length_toList] at ha hb
  have:=hu a b hab (by omega)
  simp only [gt0,decide_eq_false_iff_not] at this
  rw [Array.getElem_toList,Array.getElem_toList]
  simp only [Array.getD_eq_getD_getElem?,Array.getElem?_eq_getElem ha,Array.getElem?_eq_getElem hb,Option.getD_some] at this
  omega
end Dw
namespace Dw
open PySem PySem.W PySem.Calls PyProof.Rows
noncomputable def Pth {α:Type}(c:Nat->Nat->Bool) (n:Nat):KasT α->Prop
 | .ret _=>True
 | .ask i j k=>i<n/\j<n/\Pth c n (k (c i j))
section
variable {c:Nat->Nat->Bool}{n:Nat}
theorem qBW {α β:Type}{f:α->KasT β}:∀{t:KasT α},Pth c n t->Pth c n (f (qAW c t))->Pth c n (t.bind f)
 | .ret _,_,h=>h
 | .ask i j k,h,h'=>⟨h.1,h.2.1,qBW (t:=k (c i j)) h.2.2 h'⟩
theorem qHj {α:Type}{cmp:Nat->Nat->(Bool->Shared->Prop)->Shared->Prop}{s:Shared}(hc:∀i j C,i<n->j<n->C (c i j) s->cmp i j C s) {Q:α->Shared->Prop}:∀t:KasT α,Pth c n t->Q (qAW c t) s->t.kasWp cmp Q s
 | .ret _,_,h=>h
 | .ask i j k,h,h'=>hc i j _ h.1 h.2.1 (qHj hc (k (c i j)) h.2.2 h')
noncomputable def Bd (n:Nat) (p:Array Nat):Prop:=∀i,p.getD i 0<n
theorem Bd.mv {p q:Array Nat}(h0:0<n) (h:Bd n p) (e:q.Perm p):Bd n q:=λi=>by
 rw [Array.getD_eq_getD_getElem?]
 cases z:q[i]? with
 | none=>exact h0
 | some x =>
  have hx:x∈p:=e.mem_iff.mp (Array.mem_of_getElem? z)
  obtain⟨j,hj⟩:=Array.getElem?_of_mem hx
  have:=h j
  rw [Array.getD_eq_getD_getElem?,hj] at this
  exact this
theorem qE8 {p:Array Nat}(h:Bd n p):∀f k,Pth c n (kas_asc p f k)
 | 0,k=>trivial
 | f+1,k=>by
  rw [kas_asc]
  refine⟨h _,h _,?_⟩;dsimp only
  split
  ·trivial
  ·exact qE8 h f (k+1)
theorem qCC (h0:0<n):∀f (p:Array Nat) k q,Bd n p->Pth c n (kas_desc f p k q)
 | 0,p,k,q,h=>trivial
 | f+1,p,k,q,h=>by
  rw [kas_desc]
  refine⟨h _,h _,?_⟩;dsimp only
  split
  ·split
   ·exact qCC h0 f _ _ _ (h.mv h0 (qBt _ _ _))
   ·exact qCC h0 f _ _ _ h
  ·refine⟨h _,h _,?_⟩;dsimp only
   split
   ·trivial
   ·exact qCC h0 f _ _ _ h
theorem qFD (h0:0<n) {p:Array Nat}(h:Bd n p) (k m:Nat):Pth c n (kas_tail3 k m p):=by
 rw [kas_tail3]
 exact qBW (qE8 (h.mv h0 (qBt _ _ _)) _ _) trivial
theorem qFF (h0:0<n) {p:Array Nat}(h:Bd n p) (k m:Nat):Pth c n (kas_descPart k m p):=by
 rw [kas_descPart]
 refine qBW (qCC h0 _ _ _ _ h) ?_
 have e:=qBV c (m - (k+1)) p (k+1) 0
 split
 ·exact qFD h0 (h.mv h0 ((qBt _ _ _).trans e)) _ _
 ·exact qFD h0 (h.mv h0 e) _ _
theorem qHk (h0:0<n) {p:Array Nat}(h:Bd n p) (m:Nat):Pth c n (kas_count m p):=by
 rw [kas_count]
 refine qBW (qE8 h _ _) ?_
 split
 ·trivial
 ·split
  ·refine⟨h _,h _,?_⟩;dsimp only
   split
   ·trivial
   ·exact qFF h0 (h.mv h0 (qBt _ _ _)) _ _
  ·exact qFF h0 h _ _
theorem qCU {p:Array Nat}(h:Bd n p) (k:Nat):∀f l r,Pth c n (kas_place p k f l r)
 | 0,l,r=>trivial
 | f+1,l,r=>by
  rw [kas_place]
  split
  ·trivial
  ·refine⟨h _,h _,?_⟩;dsimp only
   split
   ·exact qCU h k f _ _
   ·exact qCU h k f _ _
theorem qHl (h0:0<n):∀f (p:Array Nat) k,Bd n p->Pth c n (kas_bin f p k)
 | 0,p,k,h=>trivial
 | f+1,p,k,h=>by
  rw [kas_bin]
  exact qBW (qCU h _ _ _ _) (qHl h0 f _ _ (h.mv h0 (bubble_perm _ _ _)))
theorem qFE (h0:0<n):Pth c n (kas_sort n):=by
 have hb:Bd n (List.range n).toArray:=λi=>by
  rw [Array.getD_eq_getD_getElem?]
  by_cases h:i<n
  ·simp [h]
  ·simp [h0,Nat.le_of_not_lt h]
 rw [kas_sort]
 refine qBW (qHk h0 hb _) ?_
 have e:=qDy c n (List.range n).toArray
 split
 ·exact qHl h0 _ _ _ (hb.mv h0 e)
 ·trivial
end
section
variable {prog:Program}{w:World}{A:Around}{E:Value->Shared->Prop}{s:Shared}
noncomputable def qDs (c:Nat->Nat->Bool) (vs:List Value):List Value:=(qAW c (kas_sort vs.length)).toList.map λi=>vs.getD i Value.none
theorem qG3 {a:Addr}{vs:List Value}{n:Nat}{κ:SortKind}{c:Nat->Nat->Bool}{P:PySem.Fin->Shared->Prop}(ho:s.heap.get? a=some (seqObj "list" vs.toArray n)) (h2:2<=vs.length) (h64:vs.length<64)
  (hk:∀s':Shared,(∀b o,b≠a->s.heap.get? b=some o->s'.heap.get? b=some o)->wpAny (model prog w) A (keyKind' vs.toArray) (fun κ' s0=>κ'=κ/\s0=s') (λ_ _=>False) s')
  (hc:∀s':Shared,(∀b o,b≠a->s.heap.get? b=some o->s'.heap.get? b=some o)->∀i j C,i<vs.length->j<vs.length->C (c i j) s'->kas_ask prog w A κ vs i j C s')
  (k:∀h' m,(∀b o,b≠a->s.heap.get? b=some o->h'.get? b=some o)->h'.get? a=some (seqObj "list" (qDs c vs).toArray m)->P (.done (.ret .none)) { s with heap:=h' }) :
  wpAny (model prog w) A (Builtin.«list.sort» ⟨[.ref a],[]⟩) P E s:=by
 have s1:=Heap.SameBut.update s.heap a (Obj.mapSeq λ_=>(#[]:Array Value))
 obtain⟨e1,ho1⟩:∃e1,(s.heap.update a (Obj.mapSeq λ_=>(#[]:Array Value))).get? a=some (seqObj "list" #[] e1):=⟨_,get?_update_seq ho λ_=>#[]⟩
 generalize hH:((s.heap.update a (Obj.mapSeq λ_=>(#[]:Array Value))).push (seqObj "tuple" vs.toArray 0)).push (seqObj "list" #[] 0)=H3
 have kp:∀b o,b≠a->s.heap.get? b=some o->H3.get? b=some o:=λb o hb e=>by
  rw [<-hH];exact Heap.get?_push_of_some _ (Heap.get?_push_of_some _ (s1.extBut b o hb e))
 have ha3:H3.get? a=some (seqObj "list" #[] e1):=by rw [<-hH];exact Heap.get?_push_of_some _ (Heap.get?_push_of_some _ ho1)
 rw [list_sort_plain]
 refine wpAny_bind (listItems_at ho rfl (wpAny_bind (listUpdate_at ho rfl ?_ (by rw [List.size_toArray,sizeLine_eq];omega) (Nat.zero_le _))))
 refine wpAny_bind (seqEpoch_at ho1 rfl (wpAny_bind (wpAny_newTuple ?_ (by show vs.length<=_;rw [sizeLine_eq];omega))))
 refine wpAny_bind (wpAny_newList (wpAny_holding ?_) (Nat.zero_le _))
 show wpAny (model prog w) A _ P E { s with heap:=((s.heap.update a (Obj.mapSeq λ_=>(#[]:Array Value))).push (seqObj "tuple" vs.toArray 0)).push (seqObj "list" #[] 0) }
 rw [hH];dsimp only
 have hn2:¬vs.toArray.size<2:=by rw [List.size_toArray];omega
 rw [if_neg hn2,if_neg hn2]
 refine wpAny_bind (wpAny_mono (hk { s with heap:=H3 } kp) (fun κ' s0 e=>?_) λ_ _ x=>x.elim)
 obtain⟨rfl,rfl⟩:=e
 have run:=kat_run (E:=E) (prog:=prog) (w:=w) (A:=A) (κ:=κ') (ks:=vs) (vs:=vs) (s:={ s with heap:=H3 }) (Q:=λst' s'=>∃p:Array Nat,p.size=vs.length/\arrOf st'=p.map (kas_item (vs.toArray.zip vs.toArray))/\failedOf st'=none/\p=qAW c (kas_sort vs.length)/\s'={ s with heap:=H3 }) (G:=λp s'=>p=qAW c (kas_sort vs.length)/\s'={ s with heap:=H3 })
  rfl h2 h64 (λp' st' s' a1 a2 a3 a4=>⟨p',a1,a2,a3,a4⟩) (qHj (λi j C hi hj hC=>hc { s with heap:=H3 } kp i j C hi hj hC) _ (qFE (by omega)) ⟨rfl,rfl⟩)
 refine wpAny_bind (wpAny_mono run ?_ λ_ _ e=>e)
 rintro⟨⟨⟩,st'⟩ s' ⟨p,hp,har,hf,rfl,rfl⟩
 dsimp only
 have hout:(arrOf st').map (·.2)=(qDs c vs).toArray:=kat_snds rfl har
 have hsz:(qDs c vs).toArray.size=vs.length:=by rw [List.size_toArray,qDs,List.length_map,Array.length_toList,hp]
 rw [hout]
 obtain⟨c2,hc2⟩:∃c2,(H3.update a (Obj.mapSeq λ_=>(qDs c vs).toArray)).get? a=some (seqObj "list" (qDs c vs).toArray c2):=⟨_,get?_update_seq ha3 λ_=>(qDs c vs).toArray⟩
 refine wpAny_bind (seqEpoch_at ha3 rfl (wpAny_bind (listUpdate_at ha3 rfl ?_ (Nat.zero_le _) (Nat.le_trans (Nat.le_of_eq hsz) (by rw [sizeLine_eq];omega)))))
 rw [hf];simp only [bne_self_eq_false,Bool.false_eq_true,if_false]
 exact wpAny_pure (k _ c2 (λb o hb e=>(Heap.SameBut.update H3 a _).extBut b o hb (kp b o hb e)) hc2)
end
end Dw
namespace Dw
open PySem PySem.W PySem.Calls PyProof.Rows
section
variable {prog:Program}{w:World}{A:Around}{E:Value->Shared->Prop}{s:Shared}{a kS:Addr}{vs ks:List Value}{κ:SortKind}{c:Nat->Nat->Bool}
theorem qEv {body:Value->PUnit->Sem (ForInStep PUnit)}(St:Nat->Shared->Prop)
  (hb:∀j s',j<vs.length->St j s'->wpAny (model prog w) A (body (vs.getD j .none) ⟨⟩) (λr s''=>r=.yield ⟨⟩/\St (j+1) s'') E s'):∀(r:List Value) (j:Nat) (s':Shared),vs.drop j=r->j+r.length=vs.length->St j s' ->
   wpAny (model prog w) A (forIn r PUnit.unit body) (λ_ s''=>St vs.length s'') E s'
 | [],j,s',hr,hl,h=>by
  rw [List.forIn_nil]
  have:j=vs.length:=by simpa using hl
  subst this
  exact wpAny_pure h
 | x::r,j,s',hr,hl,h=>by
  have hj:j<vs.length:=by simp at hl;omega
  have e:=List.drop_eq_getElem_cons hj
  rw [e] at hr
  obtain⟨hx,hr'⟩:=List.cons.inj hr
  have hx':vs.getD j .none=x:=by rw [<-hx];simp [hj]
  rw [List.forIn_cons,<-hx']
  refine wpAny_bind (wpAny_mono (hb j s' hj h) (λq s'' hq=>?_) λ_ _ x=>x)
  obtain⟨rfl,h2⟩:=hq
  show wpAny (model prog w) A (forIn r PUnit.unit body) _ E s''
  exact qEv St hb r (j+1) s'' hr' (by simp at hl;omega) h2
theorem qGx {st:SortSt}{e e1:Nat}{out:List Value}{P:PySem.Fin->Shared->Prop}(hout:(arrOf st).map (·.2)=List.toArray out) (hz:out.length<64) (hkz:ks.length<64) (hf:failedOf st=none) (hne:a≠kS)
  (hk:s.heap.get? kS=some (seqObj "list" ks.toArray e)) (ha:s.heap.get? a=some (seqObj "list" #[] e1))
  (h:P (.done (.ret .none)) { s with heap:=(s.heap.update kS (Obj.mapSeq λ_=>(#[]:Array Value))).update a (Obj.mapSeq λ_=>out.toArray) }):wpAny (model prog w) A (ksk_tail a false e1 (.ref kS) st) P E s:=by
 have up1:=Heap.SameBut.update s.heap kS (Obj.mapSeq λ_=>(#[]:Array Value))
 have ha1:=up1.extBut a _ hne ha
 unfold ksk_tail
 dsimp only
 rw [hout]
 simp only [Bool.false_eq_true,if_false]
 refine wpAny_bind (listUpdate_at hk rfl ?_ (by rw [List.size_toArray,sizeLine_eq];omega) (Nat.zero_le _))
 refine wpAny_bind (wpAny_letGo ?_)
 refine wpAny_bind (seqEpoch_at ha1 rfl ?_)
 refine wpAny_bind (listUpdate_at ha1 rfl ?_ (Nat.zero_le _) (by show out.toArray.size<=_;rw [List.size_toArray,sizeLine_eq];omega))
 rw [hf]
 simp only [bne_self_eq_false,Bool.false_eq_true,if_false]
 exact wpAny_pure h
theorem qGm {f:Value}{n:Nat}{P:PySem.Fin->Shared->Prop}(ho:s.heap.get? a=some (seqObj "list" vs.toArray n)) (h2:2<=vs.length) (h64:vs.length<64)
  (St:List Value->Addr->Nat->Shared->Prop)
  (h0:∀e1,(s.heap.update a (Obj.mapSeq λ_=>(#[]:Array Value))).get? a=some (seqObj "list" #[] e1) ->
   St [] ((s.heap.update a (Obj.mapSeq λ_=>(#[]:Array Value))).push (seqObj "tuple" vs.toArray 0)).objs.size e1 { s with heap:=((s.heap.update a (Obj.mapSeq λ_=>(#[]:Array Value))).push (seqObj "tuple" vs.toArray 0)).push (seqObj "list" #[] 0) })
  (hcall:∀ks kS e1 s',ks.length<vs.length->St ks kS e1 s'->wpAny (model prog w) A (call f [vs.getD ks.length .none]) (λk s''=>(∃e,s''.heap.get? kS=some (seqObj "list" ks.toArray e))/\St (ks++[k]) kS e1 { s'' with heap:=s''.heap.update kS (Obj.mapSeq (·.push k)) }) (λ_ _=>False) s')
  (hend:∀ks kS e1 s',ks.length=vs.length->St ks kS e1 s'->a≠kS/\(∃e,s'.heap.get? kS=some (seqObj "list" ks.toArray e))/\s'.heap.get? a=some (seqObj "list" #[] e1) /\
   wpAny (model prog w) A (keyKind' ks.toArray) (fun κ' s0=>κ'=κ/\s0=s') (λ_ _=>False) s'/\(∀i j C,i<vs.length->j<vs.length->C (c i j) s'->kas_ask prog w A κ ks i j C s') /\
   P (.done (.ret .none)) { s' with heap:=(s'.heap.update kS (Obj.mapSeq λ_=>(#[]:Array Value))).update a (Obj.mapSeq λ_=>(qDs c vs).toArray) }) :
  wpAny (model prog w) A (ksk_tree a f false) P E s:=by
 obtain⟨e1,hE⟩:∃e1,(s.heap.update a (Obj.mapSeq λ_=>(#[]:Array Value))).get? a=some (seqObj "list" #[] e1):=⟨_,get?_update_seq ho λ_=>#[]⟩
 unfold ksk_tree
 refine wpAny_bind (listItems_at ho rfl (wpAny_bind (listUpdate_at ho rfl ?_ (by rw [List.size_toArray,sizeLine_eq];omega) (Nat.zero_le _))))
 refine wpAny_bind (seqEpoch_at hE rfl (wpAny_bind (wpAny_newTuple ?_ (by show vs.length<=_;rw [sizeLine_eq];omega))))
 refine wpAny_bind (wpAny_newList (wpAny_holding ?_) (Nat.zero_le _))
 have S0:=h0 e1 hE
 show wpAny (model prog w) A (ksk_rest a f false vs.toArray e1 (.ref ((s.heap.update a (Obj.mapSeq λ_=>(#[]:Array Value))).push (seqObj "tuple" vs.toArray 0)).objs.size)) P E { s with heap:=((s.heap.update a (Obj.mapSeq λ_=>(#[]:Array Value))).push (seqObj "tuple" vs.toArray 0)).push (seqObj "list" #[] 0) }
 generalize hkS:((s.heap.update a (Obj.mapSeq λ_=>(#[]:Array Value))).push (seqObj "tuple" vs.toArray 0)).objs.size=kS at S0 ⊢
 generalize { s with heap:=((s.heap.update a (Obj.mapSeq λ_=>(#[]:Array Value))).push (seqObj "tuple" vs.toArray 0)).push (seqObj "list" #[] 0) }=s3 at S0 ⊢
 unfold ksk_rest
 refine wpAny_bind (wpAny_rule ?_)
 rw [<-Array.forIn_toList]
 refine wpAny_bind (wpAny_mono (qEv (vs:=vs) (λj s'=>∃ks:List Value,ks.length=j/\St ks kS e1 s') (λj s' hj hS=>?_) vs 0 s3 rfl (by simp) ⟨[],rfl,S0⟩) (λ_ s' hd=>?_) λ_ _ x=>x)
 ·obtain⟨ks,rfl,hS⟩:=hS
  refine wpAny_bind (wpAny_attempt (wpAny_mono (hcall ks kS e1 s' hj hS) (λk s'' hk=>?_) λ_ _ hF=>hF.elim))
  obtain⟨⟨e,he⟩,hS'⟩:=hk
  dsimp only
  have hm:ks.length<64:=by omega
  refine wpAny_bind (listUpdate_at he rfl ?_ (by rw [List.size_toArray,sizeLine_eq];omega) (Nat.le_trans (Nat.le_of_eq (Array.size_push ..)) (by rw [List.size_toArray,sizeLine_eq];omega)))
  exact wpAny_pure ⟨rfl,ks++[k],by simp,hS'⟩
 ·obtain⟨ks,hl,hd⟩:=hd
  obtain⟨hne,⟨e,he⟩,ha,hk,hc,hP⟩:=hend ks kS e1 s' hl hd
  try dsimp only
  refine wpAny_bind (listItems_at he rfl ?_)
  have two:¬vs.toArray.size<2:=by rw [List.size_toArray];omega
  unfold ksk_end
  dsimp only
  simp only [Bool.false_eq_true,if_false]
  rw [if_neg two,if_neg two]
  refine wpAny_bind (wpAny_mono hk (fun κ' s0 e=>?_) λ_ _ x=>x.elim)
  obtain⟨rfl,rfl⟩:=e
  have run:=kat_run (E:=E) (prog:=prog) (w:=w) (A:=A) (κ:=κ') (ks:=ks) (vs:=vs) (s:=s0) (Q:=λst' s'=>∃p:Array Nat,p.size=vs.length/\arrOf st'=p.map (kas_item (ks.toArray.zip vs.toArray))/\failedOf st'=none/\p=qAW c (kas_sort vs.length)/\s'=s0) (G:=λp s'=>p=qAW c (kas_sort vs.length)/\s'=s0)
   hl h2 h64 (λp' st' s' a1 a2 a3 a4=>⟨p',a1,a2,a3,a4⟩) (qHj (λi j C hi hj hC=>hc i j C hi hj hC) _ (qFE (by omega)) ⟨rfl,rfl⟩)
  refine wpAny_bind (wpAny_mono run ?_ λ_ _ e=>e)
  rintro⟨⟨⟩,st'⟩ s' ⟨p,hp,har,hf,rfl,rfl⟩
  dsimp only
  have hout:(arrOf st').map (·.2)=(qDs c vs).toArray:=kat_snds hl har
  have hsz:(qDs c vs).length=vs.length:=by rw [qDs,List.length_map,Array.length_toList,hp]
  exact qGx hout (by omega) (by omega) hf hne he ha hP
end
end Dw
namespace Dw
open PySem PySem.W PySem.Calls PyProof.Rows
section
variable {prog:Program}{w:World}{A:Around}{E:Value->Shared->Prop}{s:Shared}
noncomputable def Got (s:Shared) (a c:Int) (n:Nat) (q:Result) (z:Shared):Prop:=q=.ok (.ret (.ref s.heap.objs.size))/\∃(hp:Heap) (k:Nat) (row:Array Value) (m:Nat),z={ s with heap:=hp,toks:=k }/\(∀b o,s.heap.get? b=some o->hp.get? b=some o) /\
 hp.get? s.heap.objs.size=some { cls:=.type "list",dict:=none,data:=.seq row m,slots:=#[] }/\ItemsOf (λi v=>∃t,v=.int (a+i * c) t) row n
theorem qD4 {Q:List Value->Shared->Prop}{r:Addr}{a b c:Int}{t u v:Tok}{n:Nat}(hh:A.handled=none) (hr:IsRange s.heap r a b c t u v) (hs:Builtin.Range.small a b c=true) (hn:Builtin.Range.rangeSize a b c=n) (h24:n<=2^24)
  (hQ:∀hp k (row:Array Value),(∀b o,s.heap.get? b=some o->hp.get? b=some o)->s.heap.objs.size<hp.objs.size->ItemsOf (λi v=>∃t,v=.int (a+i * c) t) row n->Q row.toList { s with heap:=hp,toks:=k }) :
  wpAny (model prog w) A (collect (.ref r)) Q E s:=by
 have last:∀q z,Got s a c n q z->q=.ok (.ret (.ref s.heap.objs.size))/\wpAny (model prog w) A (load s.heap.objs.size >>= λo=>match o.data with|.seq row _=>pure row.toList|_=>unsupported "internal:collect") Q E z:=by
  rintro q z ⟨hq,hp,k,row,m,rfl,keep,at_,its⟩
  exact⟨hq,wpAny_bind (wpAny_load at_ (wpAny_pure (hQ hp k row keep (Heap.lt_size at_) its)))⟩
 have laid:∀b o,s.heap.get? b=some o->(s.heap.push { cls:=.type "list",data:=.seq ([]:List Value).toArray }).get? b=some o:=λb o e=>Heap.get?_push_of_some _ e
 have run:=wpAny_extend_range (prog:=prog) (w:=w) (A:=A) (R:=Got s a c n) (s:={ s with heap:=s.heap.push { cls:=.type "list",data:=.seq ([]:List Value).toArray } }) hh (laid _ _ hr) hs hn h24 s.heap.objs.size (.ref s.heap.objs.size) 0 (Heap.get?_push_size _ rfl)
  λhp k row m keep at_ its=>⟨rfl,hp,k,row,m,rfl,λb o e=>keep b o (Nat.ne_of_lt (Heap.lt_size e)) (laid b o e),at_,its⟩
 unfold collect
 refine wpAny_bind (wpAny_runValue (codeAny_builtin entry_proto_collect' (by
  rw [Around.under_plainId PySem.F.plain_proto_collect]
  refine wpAny_bind (m:=newList []) (wpAny_newObj_type (wpAny_pure ⟨plainId_quiet PySem.F.plain_list_iadd _,codeAny_builtin entry_list_iadd' ?_⟩))
  rw [Around.under_plainId PySem.F.plain_list_iadd]
  refine wpAny_mono run (λfin z g=>?_) λe z g=>(nomatch g.1)
  cases fin with
  | again cd=>exact⟨g.1,codeAny_mono g.2 λq y gy=>by obtain⟨rfl,l⟩:=last q y gy;exact l⟩
  | done fl=>obtain⟨hq,l⟩:=last _ z g;cases hq;exact l)))
noncomputable def qPu (prog:Program) (w:World) (A:Around) (a:Addr) (f:Value) (vs:List Value) (P:Shared->Prop) (s:Shared):Prop:=
 ∃(κ:SortKind) (c:Nat->Nat->Bool) (St:List Value->Addr->Nat->Shared->Prop),
   (∀e1,(s.heap.update a (Obj.mapSeq λ_=>(#[]:Array Value))).get? a=some (seqObj "list" #[] e1) ->
     St [] ((s.heap.update a (Obj.mapSeq λ_=>(#[]:Array Value))).push (seqObj "tuple" vs.toArray 0)).objs.size e1 { s with heap:=((s.heap.update a (Obj.mapSeq λ_=>(#[]:Array Value))).push (seqObj "tuple" vs.toArray 0)).push (seqObj "list" #[] 0) }) /\
   (∀ks kS e1 s',ks.length<vs.length->St ks kS e1 s'->wpAny (model prog w) A (call f [vs.getD ks.length .none]) (λk s''=>(∃e,s''.heap.get? kS=some (seqObj "list" ks.toArray e))/\St (ks++[k]) kS e1 { s'' with heap:=s''.heap.update kS (Obj.mapSeq (·.push k)) }) (λ_ _=>False) s') /\
   (∀ks kS e1 s',ks.length=vs.length->St ks kS e1 s'->a≠kS/\(∃e,s'.heap.get? kS=some (seqObj "list" ks.toArray e))/\s'.heap.get? a=some (seqObj "list" #[] e1) /\
     wpAny (model prog w) A (keyKind' ks.toArray) (fun κ' s0=>κ'=κ/\s0=s') (λ_ _=>False) s'/\(∀i j C,i<vs.length->j<vs.length->C (c i j) s'->kas_ask prog w A κ ks i j C s') /\
     P { s' with heap:=(s'.heap.update kS (Obj.mapSeq λ_=>(#[]:Array Value))).update a (Obj.mapSeq λ_=>(qDs c vs).toArray) })
theorem qD6 {Q:Value->Shared->Prop}{r f:Addr}{lo hi:Int}{t u v:Tok}{n:Nat}(hh:A.handled=none) (hr:IsRange s.heap r lo hi 1 t u v) (hsmall:Builtin.Range.small lo hi 1=true) (hn:Builtin.Range.rangeSize lo hi 1=n) (h2:2<=n) (h64:n<64)
  (h:∀(h1:Heap) (tk:Nat) (vs:List Value),(∀b o,s.heap.get? b=some o->h1.get? b=some o)->s.heap.objs.size<h1.objs.size->vs.length=n->(∀(i:Nat) v,vs[i]?=some v->∃t,v=.int (lo+i) t) ->
   qPu prog w A.in1.in1 h1.objs.size (.ref f) vs (λs'=>Q (.ref h1.objs.size) s') { s with heap:=h1.push (seqObj "list" vs.toArray 0),toks:=tk }) :
  wpAny (model prog w) A (call (.builtin "sorted") [.ref r] [(Str.ofString "key",.ref f)]) Q E s:=by
 refine call_function_entry_kw kind_sorted plain_sorted entry_sorted (ksk_s1 _ _) ?_
 unfold Builtin.«sorted»
 refine wpAny_bind (m:=checkCount "sorted" 1 1 _) (wpAny_pure ?_)
 refine wpAny_bind (qD4 hh hr hsmall hn (by omega) λh1 tk row hk hlt its=>?_)
 have hl:row.toList.length=n:=Array.length_toList.trans its.1
 refine wpAny_bind (wpAny_newList ?_ (by rw [hl,sizeLine_eq];omega))
 have K:=h h1 tk row.toList hk hlt hl λi v e=>by
  obtain⟨t,q⟩:=its.2 i v (by rw [<-e,Array.getElem?_toList])
  exact⟨t,by rw [q];simp⟩
 obtain⟨κ,c,St,k2,k3,k4⟩:=K
 have hoL:(h1.push (seqObj "list" row.toList.toArray 0)).get? h1.objs.size=some (seqObj "list" row.toList.toArray 0):=Heap.get?_push_size _ rfl
 show wpAny _ _ _ _ _ { s with heap:=h1.push (seqObj "list" row.toList.toArray 0),toks:=tk }
 refine wpAny_bind (wpAny_holding (wpAny_call_entry_kw slot_list_sort ⟨_,hoL,rfl⟩ entry_list_sort ?body (ksk_l1 _ _)))
 case body =>
  show wpAny (model prog w) A.in1.in1 (Builtin.«list.sort» ⟨[.ref h1.objs.size],[(Str.ofString "key",.ref f)]⟩) _ _ _
  rw [ksk_t1]
  refine qGm (κ:=κ) (c:=c) hoL (by omega) (by omega) St k2 k3 λks kS e1 s' hl hS=>?_
  obtain⟨q1,q2,q3,q4,q5,q6⟩:=k4 ks kS e1 s' hl hS
  exact⟨q1,q2,q3,q4,q5,_,rfl,wpAny_pure ⟨_,rfl,q6⟩⟩
end
end Dw
namespace L2
open PySem PySem.W PySem.Calls PyProof.Rows Dw
section
variable {X:Cx}{pins:List (Addr×Obj)}{σ:St}{H:Hp}{s:Shared}
structure Ours (X:Cx) (pins:List (Addr×Obj)) (b:Addr):Prop where
 loc:b≠X.env.locals
 new:X.s₀.heap.objs.size<=b
 cel:∀x c,X.env.cells.lookup x=some c->c≠b
 pin:∀p∈X.pn++pins,p.1≠b
 stk:b∉frs X.stack
theorem Ours.of {b:Addr}(I:Inv X pins σ H s) (hb:s.heap.objs.size<=b):Ours X pins b where
 loc:=Nat.ne_of_gt (Nat.lt_of_lt_of_le I.lt hb)
 new:=Nat.le_trans I.sz hb
 cel:=λx c e=>by
  obtain⟨v,o,ho,_⟩:=I.cell x c e
  exact Nat.ne_of_lt (Nat.lt_of_lt_of_le (Heap.lt_size ho) hb)
 pin:=λp hp=>Nat.ne_of_lt (Nat.lt_of_lt_of_le (Heap.lt_size (I.pin p hp).1) hb)
 stk:=λhs=>by
  rcases List.mem_cons.mp (I.stkSub b hs) with z|z
  ·exact absurd (Nat.lt_of_lt_of_le I.lt hb) (by rw [z];exact Nat.lt_irrefl _)
  ·obtain⟨_,o,ho,_⟩:=I.ok.funs.mem z
   exact absurd (Nat.lt_of_lt_of_le (Heap.lt_size ho) (Nat.le_trans I.sz hb)) (Nat.lt_irrefl _)
theorem Inv.ours {b:Addr}{f:Obj->Obj}(I:Inv X pins σ H s) (o:Ours X pins b) (hn:H b=none):Inv X pins σ H { s with heap:=s.heap.update b f }:=
 I.turned (t':=s.toks) (λc u hc e=>(Heap.SameBut.update s.heap b f).extBut c u hc e) hn o.loc (.inr o.new) o.cel o.pin
theorem Inv.keptT {h':Heap}{t':Nat}(I:Inv X pins σ H s) (k:∀b u,s.heap.get? b=some u->h'.get? b=some u):Inv X pins σ H { s with heap:=h',toks:=t' }:=I.un (Un.kept k) (I.hok.kept k)
theorem Inv.adopt {b:Addr}{o:HO}(I:Inv X pins σ H s) (ou:Ours X pins b) (hn:H b=none) (new:ObjOk X.prog X.w (upd H b o) s.heap b o):Inv X pins σ (upd H b o) s:=by
 refine⟨I.ok,I.os,I.bare,⟨I.base.keep,I.base.slot,λc u e n hx=>?_,I.base.there,λc xs e=>?_,λc ob u e=>?_,λc ps e=>?_⟩,I.loc,I.cell,?_,λx c e=>?_,λp hp=>?_,λc u e=>?_,I.len⟩
 ·rw [qAc (Nat.ne_of_lt (Nat.lt_of_lt_of_le (Heap.lt_size e) ou.new))];exact I.base.free c u e n hx
 ·have:=I.base.tups c xs e
  rw [qAc (qAd this hn)];exact this
 ·have:=I.base.frzs c ob u e
  rw [qAc (qAd this hn)];exact this
 ·obtain⟨m,q⟩:=I.base.tbls c ps e
  exact⟨m,by rw [qAc (qAd q hn)];exact q⟩
 ·rw [qAc ou.loc.symm];exact I.free
 ·rw [qAc (ou.cel x c e)];exact I.freeC x c e
 ·obtain⟨e,n,r⟩:=I.pin p hp
  exact⟨e,by rw [qAc (ou.pin p hp)];exact n,r⟩
 ·by_cases hc:c=b
  ·subst hc;rw [qAw] at e;cases e;exact new
  ·rw [qAc hc] at e
   exact (I.hok c u e).stay (λ_ _ _ q=>q) (λd q=>by rw [qAc (qAd q hn)];exact q) (λd xs q=>by rw [qAc (qAd q hn)];exact q) λd ob u q=>by rw [qAc (qAd q hn)];exact q
theorem qHP {f:Nat->Int}:∀(ks:List Value) (m:Nat),(∀(i:Nat) k,ks[i]?=some k->∃t,k=.int (f (m+i)) t)->∃kz,IntsAre ks kz
 | [],_,_=>⟨[],IntsAre.nil⟩
 | k::r,m,h=>by
  obtain⟨t,rfl⟩:=h 0 k rfl
  obtain⟨kz,q⟩:=qHP r (m+1) λi k e=>by
   obtain⟨t,rfl⟩:=h (i+1) k e
   exact⟨t,by rw [show m+1+i=m+(i+1) by omega]⟩
  exact⟨_::kz,IntsAre.cons _ _ q⟩
theorem qFq {vs:List Value}{lo:Int}{n:Nat}(hl:vs.length=n) (hvs:∀(i:Nat) v,vs[i]?=some v->∃t,v=.int (lo+i) t):∀l:List Nat,(∀i∈l,i<n)->Vals (l.map λi:Nat=>V.int (lo+(i:Int))) (l.map λi=>vs.getD i Value.none)
 | [],_=>.nil
 | i::l,h=>by
  refine .cons ?_ (qFq hl hvs l λj hj=>h j (List.mem_cons_of_mem _ hj))
  have hi:i<vs.length:=by rw [hl];exact h i List.mem_cons_self
  obtain⟨t,ht⟩:=hvs i _ (List.getElem?_eq_getElem hi)
  have e:vs.getD i Value.none=.int (lo+(i:Int)) t:=by rw [List.getD_eq_getElem?_getD,List.getElem?_eq_getElem hi];exact ht
  show RelV (V.int (lo+(i:Int))) (vs.getD i Value.none)
  rw [e]
  exact⟨t,rfl⟩
noncomputable def Ext (H H':Hp):Prop:=∀b o,H b=some o->H' b=some o
theorem qLt {Q:VK}{r f:Addr}{lo hi:Int}{n:Nat}{key:Nat->Int}(I:Inv X pins σ H s) (hh:X.A.handled=none) (hr:H r=some (.rng lo hi)) (hsmall:Builtin.Range.small lo hi 1=true) (hn:Builtin.Range.rangeSize lo hi 1=n) (h2:2<=n) (h64:n<64)
  (hlam:∀(j:Nat) (t:Tok) (s':Shared) (H':Hp),j<n->Inv X pins σ H' s'->Ext H H'->wpAny (model X.prog X.w) X.A.in1.in1 (call (.ref f) [.int (lo+j) t])
   (λu s''=>∃H'' t',u=.int (key j) t'/\Inv X pins σ H'' s''/\Ext H' H''/\Un (frs X.stack) [] H' H'' s'.heap s''.heap) (λ_ _=>False) s')
  (hQ:∀D H',Ext H H'->H D=none->H' D=some (.lst ((qAW (λi j=>decide (key i<key j)) (kas_sort n)).toList.map λi:Nat=>.int (lo+(i:Int))))->Q (.ref D) H') :
  wpAny (model X.prog X.w) X.A (call (.builtin "sorted") [.ref r] [(Str.ofString "key",.ref f)]) (EP X pins σ Q) X.xe s:=by
 obtain⟨t1,t2,t3,hro⟩:=I.hok r _ hr
 refine qD6 hh hro hsmall hn h2 h64 λh1 tk vs hk hlt hl hvs=>?_
 have oD:Ours X pins h1.objs.size:=.of I (Nat.le_of_lt hlt)
 have nD:H h1.objs.size=none:=I.hok.fresh (Nat.le_of_lt hlt)
 refine⟨oneType',λi j=>decide (key i<key j),λks kS e1 s'=>∃H',Inv X pins σ H' s'/\Ext H H'/\H' h1.objs.size=none/\H' kS=none/\Ours X pins kS/\h1.objs.size≠kS/\s'.heap.get? h1.objs.size=some (seqObj "list" #[] e1) /\
  (∃e,s'.heap.get? kS=some (seqObj "list" ks.toArray e))/\(∀(i:Nat) k,ks[i]?=some k->∃t,k=.int (key i) t),λe1 he1=>?_,λks kS e1 s' hj hS=>?_,λks kS e1 s' hl' hS=>?_⟩
 ·have I1:Inv X pins σ H { s with heap:=h1.push (seqObj "list" vs.toArray 0),toks:=tk }:=I.keptT λb u e=>Heap.get?_push_of_some _ (hk b u e)
  have I2:=I1.ours (f:=Obj.mapSeq λ_=>(#[]:Array Value)) oD nD
  have I3:=I2.keptT (h':=(((h1.push (seqObj "list" vs.toArray 0)).update h1.objs.size (Obj.mapSeq λ_=>(#[]:Array Value))).push (seqObj "tuple" vs.toArray 0)).push (seqObj "list" #[] 0)) (t':=tk) λb u e=>Heap.get?_push_of_some _ (Heap.get?_push_of_some _ e)
  have sz:h1.objs.size<(((h1.push (seqObj "list" vs.toArray 0)).update h1.objs.size (Obj.mapSeq λ_=>(#[]:Array Value))).push (seqObj "tuple" vs.toArray 0)).objs.size:=by
   rw [Heap.size_push,Heap.size_update,Heap.size_push];omega
  have sz2:s.heap.objs.size<=(((h1.push (seqObj "list" vs.toArray 0)).update h1.objs.size (Obj.mapSeq λ_=>(#[]:Array Value))).push (seqObj "tuple" vs.toArray 0)).objs.size:=Nat.le_of_lt (Nat.lt_trans hlt sz)
  exact⟨H,I3,λ_ _ e=>e,nD,I.hok.fresh sz2,.of I sz2,Nat.ne_of_lt sz,Heap.get?_push_of_some _ (Heap.get?_push_of_some _ he1),⟨0,Heap.get?_push_size _ rfl⟩,λi k e=>(nomatch e)⟩
 ·obtain⟨H',I',x,n1,n2,oK,ne,g1,⟨e,g2⟩,kk⟩:=hS
  obtain⟨v,hv⟩:∃v,vs[ks.length]?=some v:=⟨_,List.getElem?_eq_getElem hj⟩
  obtain⟨t,rfl⟩:=hvs _ _ hv
  have hgd:vs.getD ks.length Value.none=.int (lo+(ks.length:Int)) t:=by rw [List.getD_eq_getElem?_getD,hv];rfl
  rw [hgd]
  refine wpAny_mono (hlam ks.length t s' H' (by omega) I' x) (λu s'' hu=>?_) λ_ _ z=>z
  obtain⟨H'',t',rfl,I'',x',un⟩:=hu
  have m1:=un.keep _ _ g1 n1 oD.stk (by simp)
  have m2:=un.keep _ _ g2 n2 oK.stk (by simp)
  have f1:=un.free _ _ g1 n1 (by simp)
  have f2:=un.free _ _ g2 n2 (by simp)
  have sb:=Heap.SameBut.update s''.heap kS (Obj.mapSeq (·.push (Value.int (key ks.length) t')))
  obtain⟨e',he'⟩:∃e',(s''.heap.update kS (Obj.mapSeq (·.push (Value.int (key ks.length) t')))).get? kS=some (seqObj "list" ((ks++[Value.int (key ks.length) t']).toArray) e'):=⟨_,by
   have ea:(List.toArray ks).push (Value.int (key ks.length) t')=List.toArray (ks++[Value.int (key ks.length) t']):=by simp
   rw [<-ea];exact get?_update_seq m2 (·.push _)⟩
  refine⟨⟨e,m2⟩,H'',I''.ours oK f2,λb o q=>x' b o (x b o q),f1,f2,oK,ne,sb.extBut _ _ ne m1,⟨e',he'⟩,λi k hi=>?_⟩
  by_cases hi':i<ks.length
  ·rw [List.getElem?_append_left hi'] at hi;exact kk i k hi
  ·rw [List.getElem?_append_right (by omega)] at hi
   have:i=ks.length:=by
    by_cases q:i - ks.length=0
    ·omega
    ·rw [List.getElem?_singleton,if_neg (by omega)] at hi;cases hi
   subst this
   simp at hi
   exact⟨t',hi.symm⟩
 ·obtain⟨H',I',x,n1,n2,oK,ne,g1,⟨e,g2⟩,kk⟩:=hS
  refine⟨ne,⟨e,g2⟩,g1,?_,λi j C hi hj hC=>?_,?_⟩
  ·obtain⟨kz,hz⟩:=qHP (f:=key) ks 0 λi k e=>by rw [Nat.zero_add];exact kk i k e
   rw [ksk_kind (keys:=ks.toArray) (kz:=kz) (by simpa using hz) (by rw [List.size_toArray];omega)]
   exact wpAny_pure ⟨rfl,rfl⟩
  ·obtain⟨a,ha⟩:∃a,ks[i]?=some a:=⟨_,List.getElem?_eq_getElem (by omega)⟩
   obtain⟨b,hb⟩:∃b,ks[j]?=some b:=⟨_,List.getElem?_eq_getElem (by omega)⟩
   obtain⟨ta,rfl⟩:=kk i a ha
   obtain⟨tb,rfl⟩:=kk j b hb
   unfold kas_ask
   rw [List.getD_eq_getElem?_getD,ha,List.getD_eq_getElem?_getD,hb]
   exact kat_lt_int hC
  ·have I1:=I'.ours (f:=Obj.mapSeq λ_=>(#[]:Array Value)) oK n2
   have I2:=I1.ours (f:=Obj.mapSeq λ_=>(qDs (λi j=>decide (key i<key j)) vs).toArray) oD n1
   have g1':=(Heap.SameBut.update s'.heap kS (Obj.mapSeq λ_=>(#[]:Array Value))).extBut _ _ ne g1
   obtain⟨e2,he2⟩:∃e2,((s'.heap.update kS (Obj.mapSeq λ_=>(#[]:Array Value))).update h1.objs.size (Obj.mapSeq λ_=>(qDs (λi j=>decide (key i<key j)) vs).toArray)).get? h1.objs.size=some (seqObj "list" (qDs (λi j=>decide (key i<key j)) vs).toArray e2):=⟨_,get?_update_seq g1' λ_=>(qDs (λi j=>decide (key i<key j)) vs).toArray⟩
   have pm:=qCf (λi j=>decide (key i<key j)) n
   have I3:=I2.adopt (o:=.lst ((qAW (λi j=>decide (key i<key j)) (kas_sort n)).toList.map λi:Nat=>.int (lo+(i:Int)))) oD n1 ⟨by rw [List.length_map,pm.length_eq,List.length_range,sizeLine_eq];omega,
    qDs (λi j=>decide (key i<key j)) vs,e2,by rw [qDs,hl];exact qFq hl hvs _ λi hi=>List.mem_range.mp (pm.mem_iff.mp hi),he2⟩
   exact⟨.ref h1.objs.size,_,I3,rfl,hQ _ _ (λb o q=>by rw [qAc (λz=>by subst z;rw [nD] at q;cases q)];exact x b o q) nD qAw⟩
end
end L2
namespace L2
open PySem PySem.W PySem.Calls PyProof.Rows Dw
noncomputable def qPw (X:Cx) (f:Value) (ks:List Str) (r:List V->List V->Hp->VK->St->Prop):Prop:=
 ∀(pins:List (Addr×Obj)) (s:Shared) (σ:St) (H:Hp) (xs zs:List V) (us ws:List Value) (Q:VK),Inv X pins σ H s->Vals xs us->Vals zs ws->r xs zs H Q σ ->
   wpAny (model X.prog X.w) X.A (call f us (ks.zip ws)) (EP X pins σ Q) X.xe s
noncomputable def qRy (r:List V->List V->Hp->VK->St->Prop) (t tk:TA):TE:=fun σ H Q=>t σ H λxs H1=>tk σ H1 λzs H2=>r xs zs H2 Q σ
section
variable {X:Cx}{id:String}{ks:List Str}{r:List V->List V->Hp->VK->St->Prop}{x:Str}{p pos:Pos}{e:Expr}{es:List Expr}{kws:List Keyword}{t tk:TA}
theorem qHv (hc:qPw X (.builtin id) ks r) (hg:Gl X x) (hm:X.mg x=none) (hv:bootBuiltins x=some (.builtin id)) (ha:PA X (e::es) t) (hk:PK X kws tk) (hn:x≠"__name__":=by decide) (hdb:(x == ("__debug__":Str))=false:=by decide)
  (he:backTo pos (starEach (e::es) X.env)=(false,eval e X.env)::backTo pos (starEach es X.env):=by rfl) (hpl:(backTo pos (starEach (e::es) X.env)).any (·.1)=false:=by rfl)
  (hall:(backToKw pos (keywordEach kws X.env)).all (·.1.isSome)=true:=by rfl) (hkw:(backToKw pos (keywordEach kws X.env)).any (·.1.isNone)=false:=by rfl) (hks:(backToKw pos (keywordEach kws X.env)).filterMap (·.1)=ks:=by rfl) :
  PE X (.Call (.Name x p) (e::es) kws pos) (qRy r t tk):=by
 intro pins s σ H Q I h
 refine wpAny_Call_Name_kw (qCu I hg hm hv ?_ hn hdb)
 refine callWith_kw (thn (ha pos pins s σ H _ I h) λus s1 ⟨vs,H1,I1,r1,q1⟩=>?_) he hpl hall hkw
 refine thn (hk pos pins s1 σ H1 _ I1 q1) λws s2 ⟨zs,H2,I2,r2,q2⟩=>?_
 rw [hks]
 exact hc pins s2 σ H2 vs zs us ws Q I2 r1 r2 q2
end
section
variable {X:Cx}{pins:List (Addr×Obj)}{σ:St}{H:Hp}{s:Shared}
theorem qMB {name qual:Str}{params:Arguments}{body:Expr}{scope:Scope}{f c:Addr}{clos:List (Str×Addr)}{pm ctv:Value}{u u':HO}{oc:Obj}{ov:Array Value}{ot:Tok}{N:List Str}{x:Str}{a:Int}{tok:Tok}{τ:St}{t:TE}{Q:VK}
  (I:Inv X pins σ H s) (hf:H f=some (.frz (kla_obj name qual params body scope clos pm c ctv) u)) (hc:H c=some (.frz oc u')) (hd:oc.data=.fields ov) (hv:ov[1]?=some (.str qual ot)) (hdep:X.A.depth<recursionLimit) (hh:X.A.handled=none)
  (hk:scope.kind=.function) (hco:scope.isCoroutine=false) (hgen:scope.isGenerator=false) (hcell:∀y∈scope.names,y.2≠.cell)
  (hbind:bindArgs (kla_fn name qual params body scope clos pm (.ref c) ctv) ⟨[.int a tok],[]⟩=pure [(x,.int a tok)]) (hloc:scope.names.lookup x=some .local) (hlen:τ.length=N.length)
  (hcl:∀y c,clos.lookup y=some c->X.env.cells.lookup y=some c) (has:∀y,scope.names.lookup y=some .free->∃c,clos.lookup y=some c)
  (hσ:∀(i:Nat) (y:Str) (v':V),N[i]?=some y->τ[i]?=some (some v')->(y=x/\v'=.int a)∨(scope.names.lookup y=some .free/\(X.env.kindOf y=some .cell∨X.env.kindOf y=some .free)/\∃j:Nat,X.N[j]?=some y/\σ[j]?=some (some v')))
  (ht:PE (qJ7 X.prog X.w X.K X.mg X.base N qual scope f (.ref c) clos X.A.in1.in1 X.stack s H) body t) (hq:t τ H Q) :
  wpAny (model X.prog X.w) X.A.in1.in1 (call (.ref f) [.int a tok]) (λw' s''=>∃v H'',RelV v w'/\Q v H''/\Inv X pins σ H'' s''/\Un (frs X.stack) [] H H'' s.heap s''.heap) (λ_ _=>False) s:=by
 obtain⟨e1,_⟩:=I.hok f _ hf
 obtain⟨e2,_⟩:=I.hok c _ hc
 have e0:=I.env0
 refine wpAny_call (codeAny_mono (qMA (t:=t) (Q:=Q) (v:=V.int a) e1 ⟨c,oc,ov,ot,rfl,e2,hd,hv⟩ hdep hh ⟨e0.frames,e0.mod,e0.bs,e0.bsz,e0.funs,e0.frf,e0.hok,e0.bare⟩ hk hco hgen hcell hbind hloc ⟨tok,rfl⟩ hlen (λi y v' h1 h2=>?_)
  (λy z c h1 h2=>I.ok.inj y z c (hcl _ _ h1) (hcl _ _ h2)) has (λy c h=>⟨I.cell y c (hcl _ _ h),I.freeC y c (hcl _ _ h)⟩) ht hq) λr s' hr=>?_)
 ·rcases hσ i y v' h1 h2 with z|⟨z1,z2,j,z3,z4⟩
  ·exact .inl z
  ·refine .inr ⟨z1,?_⟩
   obtain⟨cc,hcc⟩:=has y z1
   obtain⟨m,hm,hl⟩:=I.loc
   obtain⟨uu,ru,lk⟩:=hl j y v' z3 z4 (by rcases z2 with z|z;exact .inr (.inl z);exact .inr (.inr z))
   rcases lk with ⟨k1,_⟩|⟨_,c2,k2,k3⟩
   ·rcases z2 with z|z<;>(rw [k1] at z;cases z)
   ·rw [hcl _ _ hcc] at k2
    cases k2
    exact⟨cc,uu,hcc,k3,ru⟩
 ·cases r with
  | error e=>exact hr.elim
  | ok fl =>
   cases fl with
   | ret w' =>
    obtain⟨v,H',os,bare,un,hok,r,q⟩:=hr
    obtain⟨h2,g,d,tk,os'⟩:=s'
    obtain rfl:os'=s.os:=os
    exact⟨v,H',r,q,I.call (h':=h2) (g':=g) (d':=d) (t':=tk) (ch:=[]) un hok bare (λb z=>absurd z (by simp)),un⟩
   | next=>exact hr.elim
   | brk=>exact hr.elim
   | cont=>exact hr.elim
end
end L2
namespace L2
open PySem
theorem clos_of {sc:Scope}{env:Env}(h:∀y,(y,NameKind.free)∈sc.names->∃c,env.cells.lookup y=some c) :
  ∃clos,closureFor sc env=pure clos/\(∀y c,clos.lookup y=some c->env.cells.lookup y=some c)/\∀y,(y,NameKind.free)∈sc.names->∃c,clos.lookup y=some c:=by
 unfold closureFor
 have go:∀(l:List (Str×NameKind)) (cs:List (Str×Addr)),(∀y,(y,NameKind.free)∈l->∃c,env.cells.lookup y=some c)->(∀y c,cs.lookup y=some c->env.cells.lookup y=some c) ->
   ∃cs',(forIn l cs (λx (cs:List (Str×Addr))=>(match x with
    | (name,kind)=>if (kind == NameKind.free)=true then do let a <-cellOf env name;pure (ForInStep.yield ((name,a)::cs)) else pure (ForInStep.yield cs):Sem (ForInStep (List (Str×Addr))))))=(pure cs':Sem (List (Str×Addr))) /\
    (∀y c,cs'.lookup y=some c->env.cells.lookup y=some c)/\(∀y,(y,NameKind.free)∈l->∃c,cs'.lookup y=some c)/\∀y c,cs.lookup y=some c->∃c,cs'.lookup y=some c:=by
  intro l
  induction l with
  | nil=>intro cs _ hc;exact⟨cs,rfl,hc,λ_ z=>(nomatch z),λy c e=>⟨c,e⟩⟩
  | cons x l ih =>
   intro cs hl hc
   obtain⟨nm,kd⟩:=x
   rw [List.forIn_cons]
   by_cases hk:kd=.free
   ·subst hk
    obtain⟨a,ha⟩:=hl nm List.mem_cons_self
    obtain⟨cs',e1,e2,e3,e4⟩:=ih ((nm,a)::cs) (λy hy=>hl y (List.mem_cons_of_mem _ hy)) λy c e=>by
     rw [List.lookup_cons] at e
     split at e
     ·rename_i hq;cases e;rw [beq_iff_eq.mp hq];exact ha
     ·exact hc y c e
    refine⟨cs',?_,e2,λy hy=>?_,λy c e=>?_⟩
    ·simp only [beq_self_eq_true,if_true,cellOf,ha,pure_bind]
     exact e1
    ·rcases List.mem_cons.mp hy with q|q
     ·cases q;exact e4 nm a (by rw [List.lookup_cons,beq_self_eq_true])
     ·exact e3 y q
    ·by_cases q:y=nm
     ·subst q;exact e4 y a (by rw [List.lookup_cons,beq_self_eq_true])
     ·exact e4 y c (by rw [List.lookup_cons,show (y == nm)=false by simpa using q];exact e)
   ·obtain⟨cs',e1,e2,e3,e4⟩:=ih cs (λy hy=>hl y (List.mem_cons_of_mem _ hy)) hc
    refine⟨cs',?_,e2,λy hy=>?_,e4⟩
    ·have:(kd == NameKind.free)=false:=by simpa using hk
     simp only [this,Bool.false_eq_true,if_false,pure_bind]
     exact e1
    ·rcases List.mem_cons.mp hy with q|q
     ·cases q;exact absurd rfl hk
     ·exact e3 y q
 obtain⟨cs',e1,e2,e3,_⟩:=go sc.names [] h λ_ _ z=>(nomatch z)
 refine⟨cs',?_,e2,e3⟩
 have e:=congrArg (λm=>m >>= λcs=>(pure cs:Sem (List (Str×Addr)))) e1
 simp only [pure_bind] at e
 exact e
end L2
namespace Dw
open PySem L2
noncomputable def tbs:List (Addr×Pos×Str):=[(144,⟨61,41,61,109⟩,Str.ofString "order_along.<locals>.<lambda>")]
noncomputable def TB (H:Hp):Prop:=∀t∈tbs,H t.1=some (.tab t.2.1 t.2.2)
theorem TB.same {H H':Hp}(h:TB H) (s:Same H H'):TB H':=λt m=>s _ _ (h t m)
end Dw
namespace Dw
open PySem PySem.Spec PyProof.Rows L2
noncomputable def Its (lo st:Int) (n:Nat):It:={ go:=λi _=>i<n,yld:=λi H x H'=>H'=H/\x=V.int (lo+(i:Nat) * st),stop:=λi _=>n<=i }
theorem qI8 {P:Program}{w:World}{K:PySem.W.Frag}{tg:Expr}(j:Addr) (lo st:Int) (n:Nat):Turn P w K tg (Its lo st n) [j] j (λi h=>IsRangeIter h j (lo+(i:Nat) * st) ((n:Int) - (i:Nat)) st) where
 mem:=by simp
 obj:=λi h y b hb=>by
  have e:b=j:=by simpa using hb
  subst e
  exact⟨_,y,λv z=>by
   have z':Data.fields _=Data.cell v:=z
   cases z'⟩
 keep:=λi h h' y k=>k j (by simp) _ y
 item:=by
  intro X hP hw hK hc i pins s σ H E I hf y hg
  subst hP hw hK
  obtain⟨u0,u1,u2,u3,u4,u5⟩:=hf j (by simp)
  have W:=Walks.range (prog:=X.prog) (w:=X.w) (I.ok.hd hc) j lo st n
  refine W.item i s _ _ hg y λv h' tk hv y' kk=>?_
  obtain⟨t,rfl⟩:=hv
  have J:Inv X pins σ H { s with heap:=h',toks:=tk }:=I.turned (λb o hb e=>kk b o (by simpa using hb) e) u0 u1 u3 u4 u5
  exact⟨_,rfl,qHU (s:={ s with heap:=h',toks:=tk }) (n:="range_iterator") y' rfl rfl (by decide) ⟨.int (lo+i * st),H,J,⟨t,rfl⟩,⟨rfl,rfl⟩,y',λb hb=>(hf b hb).1⟩⟩
 done:=by
  intro X hP hw hK hc i pins s σ H E I hf y hg
  subst hP hw hK
  obtain⟨u0,u1,u2,u3,u4,u5⟩:=hf j (by simp)
  exact wpAny_pyNext_range_end (I.ok.hd hc) y (by have:n<=i:=hg;omega) λh' eb=>⟨rfl,I.turned (t':=s.toks) (λb o hb e=>eb b o hb e) u0 u1 u3 u4 u5⟩
 self:=λ_ _ _ _ _ y h=>wpAny_pyIter_rangeiter y h
end Dw
namespace Dw
open PySem PySem.Spec PyProof.Rows L2 HT
section
variable {prog:Program}{w:World}{A:Around}{E:Value->Shared->Prop}{s:Shared}
theorem qH2 {t:Addr}{items:Array Value}{Q:Bool->Shared->Prop}(ht:IsTup s.heap t items) (h:Q true s):wpAny (model prog w) A (Builtin.Tuple.tupleIsExact (.ref t)) Q E s:=by
 unfold Builtin.Tuple.tupleIsExact
 exact wpAny_bind (wpAny_typeOf ht.typeIs (wpAny_pure h))
theorem qGS {t sl:Addr}{items:Array Value}{vl vu:Value}{lo hi:Option Int}{Q:Value->Shared->Prop}(ht:IsTup s.heap t items) (hs:s.heap.IsSliceOf sl vl vu .none) (pl:IsPart vl lo) (pu:IsPart vu hi)
  (hw:sIx items.size 0 lo=0/\sIx items.size items.size hi=items.size) (h:Q (.ref t) s):wpAny (model prog w) A (getItem (.ref t) (.ref sl)) Q E s:=by
 obtain⟨os,hos,hcs,hds⟩:=id hs
 have hTs:s.TypeIs (.ref sl) "slice":=⟨os,hos,hcs⟩
 unfold getItem
 try with_reducible refine wpAny_holding ?_
 first|refine wpAny_bind (wpAny_pure ?_)|skip
 refine wpAny_bind (wpAny_sequenceKey ht.typeIs (by decide) ?_)
 refine wpAny_bind (wpAny_callSpecial?_slot (name:=Str.ofString "__getitem__") ht.typeIs PyProof.Rows.slot_tuple_getitem
  (wpAny_call_entry PyProof.Rows.slot_tuple_getitem ht.typeIs entry_tuple_getitem ?_ (args_tuple_getitem _ _)))
 show wpAny _ _ (Builtin.Tuple.tupleItemsOf (.ref t) >>= _) _ _ s
 refine wpAny_bind (tupleItemsOf_ ht (wpAny_bind (wpAny_typeOf hTs ?_)))
 rw [if_pos (by decide)]
 refine wpAny_bind (qBM hs pl pu ?_)
 have yes:(((sIx items.size 0 lo:Nat):Int) == 0&&(1:Int) == 1&&(sIx items.size items.size hi - sIx items.size 0 lo) == items.size)=true:=by
  rw [hw.1,hw.2];simp
 show wpAny _ _ (if (((sIx items.size 0 lo:Nat):Int) == 0&&(1:Int) == 1&&(sIx items.size items.size hi - sIx items.size 0 lo) == items.size)=true then _ else _) _ _ s
 rw [if_pos yes]
 refine wpAny_bind (qH2 ht ?_)
 rw [if_pos rfl]
 refine wpAny_bind (wpAny_rule ?_)
 first
  | exact wpAny_bind (wpAny_pure (wpAny_pure ⟨_,rfl,wpAny_pure h⟩))
  | exact wpAny_bind (wpAny_pure ⟨_,rfl,wpAny_pure h⟩)
  | exact wpAny_pure ⟨_,rfl,wpAny_pure h⟩
end
section
variable {X:Cx}
noncomputable def qRH (K:PySem.W.Frag):V->Option Int->Option Int->Hp->VK->Prop:=λx lo hi H Q=>∃a xs,x=.ref a/\SqT K H a xs/\(HT.sIx xs.length 0 lo=0/\HT.sIx xs.length xs.length hi=xs.length)/\Q (.ref a) H
theorem qNQ:SlR X (qRH X.K):=by
 intro pins s σ H x v vl vu lo hi sl Q I rx hs pl pu h
 obtain⟨a,xs,rfl,hx,hw,q⟩:=h
 cases rx
 obtain⟨its,r,ht,hz⟩:=I.tuple hx
 have hlen:its.toArray.size=xs.length:=by rw [List.size_toArray];exact r.length.symm
 exact⟨"tuple",_,PyProof.Rows.slot_tuple_getitem.lookup,ht.typeIs,qGS ht hs pl pu (by rw [hlen];exact hw) ⟨.ref a,H,I,rfl,q⟩⟩
theorem qMY {prog:Program}{w:World}{A:Around}{E:Value->Shared->Prop}{s:Shared}{t b:Addr}{ws:Array Value}{Q:Value->Shared->Prop}(ht:IsTup s.heap t #[]) (hb:IsTup s.heap b ws) (h:Q (.ref b) s):wpAny (model prog w) A (binaryOp .Add (.ref t) (.ref b)) Q E s:=by
 obtain⟨⟨cls,dd,data,sl⟩,ho,hc,n,hd⟩:=id ht
 obtain⟨⟨cls2,dd2,data2,sl2⟩,ho2,hc2,n2,hd2⟩:=id hb
 simp only at hc hd hc2 hd2
 subst hc hd hc2 hd2
 exact concat_meets ⟨_,ho,rfl⟩ ⟨_,ho2,rfl⟩ noFill_tuple_add seq_tuple_add PySem.F.slot_tuple_add PySem.F.entry_tuple_add (PySem.F.args_tuple_add_2 _ _) (tuple_addW0 t b #[] ws n n2 dd dd2 sl sl2 rfl) ⟨ho,ho2,h⟩
theorem op_catN:OpR X (binaryOp .Add) (λx y H Q=>∃a b ys,x=.ref a/\y=.ref b/\SqT X.K H a []/\SqT X.K H b ys/\Q (.ref b) H):=by
 intro pins s σ H x y v u Q I rx ry h
 obtain⟨a,b,ys,rfl,rfl,ha,hb,q⟩:=h
 cases rx
 cases ry
 obtain⟨its,r1,p1,_⟩:=I.tuple ha
 obtain⟨its2,r2,p2,_⟩:=I.tuple hb
 cases r1
 exact qMY p1 p2 ⟨.ref b,H,I,rfl,q⟩
end
end Dw
namespace Dw
open PySem PySem.Spec PyProof.Rows L2
section
variable {X:Cx}
noncomputable def tFv (te:TE):TE:=fun σ H Q=>te σ H λx H1=>∃i:Int,x=.int i/\i.natAbs.log2<1920/\Q (.str (Str.ofString (toString i))) H1
theorem qQi {e:Expr}{te:TE}{pos:Pos}(he:PE X e te):PE X (.FormattedValue e (-1) none pos) (tFv te):=by
 intro pins s σ H Q I h
 refine wpAny_FormattedValue_plain (thn (he pins s σ H _ I h) λv s1 ⟨x,H1,I1,r1,i,e1,hi,q⟩=>?_)
 subst e1
 obtain⟨t,rfl⟩:=r1
 exact wpAny_formatField_int hi ⟨.str _,H1,(I1.tok _).tok _,⟨_,rfl⟩,q⟩
noncomputable abbrev TJ:=Str->L2.St->Hp->(Str->Hp->Prop)->Prop
noncomputable def PJ (X:Cx) (es:List Expr) (t:TJ):Prop:=∀(pins:List (Addr×Obj)) (s:Shared) (σ:L2.St) (H:Hp) (acc:Str) (Q:Str->Hp->Prop),Inv X pins σ H s->t acc σ H Q ->
 Joins (model X.prog X.w) X.A X.xe (evalEach es X.env) acc (λout s'=>∃H',Inv X pins σ H' s'/\Q out H') s
noncomputable def qPL:TJ:=λacc _ H Q=>Q acc H
noncomputable def qNv (te:TE) (t:TJ):TJ:=λacc σ H Q=>te σ H λx H1=>∃y,x=.str y/\(acc++y).length<=sizeLine/\t (acc++y) σ H1 Q
theorem qN8:PJ X [] qPL:=λpins s σ H acc Q I h=>⟨H,I,h⟩
theorem qL5 {e:Expr}{es:List Expr}{te:TE}{t:TJ}(he:PE X e te) (hr:PJ X es t):PJ X (e::es) (qNv te t):=by
 intro pins s σ H acc Q I h
 refine thn (he pins s σ H _ I h) λv s1 ⟨x,H1,I1,r1,y,e1,hz,q⟩=>?_
 subst e1
 obtain⟨t',rfl⟩:=r1
 exact⟨y,t',rfl,hz,hr pins s1 σ H1 _ Q I1 q⟩
end
end Dw
namespace Dw
open PySem PySem.Spec PyProof.Rows L2
theorem qI9 {P:Program}{w:World}{K:PySem.W.Frag}{tg:Expr}(j:Addr) (lo st:Int) (n:Nat):Turn P w K tg (Its lo st n) [j] j (λi h=>IsLongIter h j (lo+(i:Nat) * st) ((n:Int) - (i:Nat)) st) where
 mem:=by simp
 obj:=λi h y b hb=>by
  have e:b=j:=by simpa using hb
  subst e
  exact⟨_,y,λv z=>by
   have z':Data.fields _=Data.cell v:=z
   cases z'⟩
 keep:=λi h h' y k=>k j (by simp) _ y
 item:=by
  intro X hP hw hK hc i pins s σ H E I hf y hg
  subst hP hw hK
  obtain⟨u0,u1,u2,u3,u4,u5⟩:=hf j (by simp)
  have W:=Walks.longrange (prog:=X.prog) (w:=X.w) (I.ok.hd hc) j lo st n
  refine W.item i s _ _ hg y λv h' tk hv y' kk=>?_
  obtain⟨t,rfl⟩:=hv
  have J:Inv X pins σ H { s with heap:=h',toks:=tk }:=I.turned (λb o hb e=>kk b o (by simpa using hb) e) u0 u1 u3 u4 u5
  exact⟨_,rfl,qHU (s:={ s with heap:=h',toks:=tk }) (n:="longrange_iterator") y' rfl rfl (by decide) ⟨.int (lo+i * st),H,J,⟨t,rfl⟩,⟨rfl,rfl⟩,y',λb hb=>(hf b hb).1⟩⟩
 done:=by
  intro X hP hw hK hc i pins s σ H E I hf y hg
  subst hP hw hK
  obtain⟨u0,u1,u2,u3,u4,u5⟩:=hf j (by simp)
  exact wpAny_pyNext_long_end (I.ok.hd hc) y (by have:n<=i:=hg;omega) λh' eb=>⟨rfl,I.turned (t':=s.toks) (λb o hb e=>eb b o hb e) u0 u1 u3 u4 u5⟩
 self:=λ_ _ _ _ _ y h=>wpAny_pyIter_longiter y h
section
variable {X:Cx}{tg:Expr}
theorem qOA {pins:List (Addr×Obj)}{σ:L2.St}{H:Hp}{s:Shared}{R:It->Hp->Prop}{E:Value->Shared->Prop}{lo hi:Int}{t u v:Tok}{tk:Nat}(I:L2.Inv X pins σ H s)
  (q:R (Its lo 1 (hi - lo).toNat) H):wpAny (model X.prog X.w) X.A (pyIter (.ref s.heap.objs.size)) (PIE X pins σ tg R) E { s with heap:=s.heap.push { cls:=.type "range",data:=.fields #[.int lo t,.int hi u,.int 1 v] },toks:=tk }:=by
 have J:Inv X pins σ H { s with heap:=s.heap.push { cls:=.type "range",data:=.fields #[.int lo t,.int hi u,.int 1 v] },toks:=tk }:=I.kept λb o e=>Heap.get?_push_of_some _ e
 have e1:lo+((0:Nat):Int) * 1=lo:=by simp
 have e2:(((hi - lo).toNat:Nat):Int) - ((0:Nat):Int)=Builtin.Range.rangeSize lo hi 1:=by rw [rangeSize_one];split<;>omega
 have fp:∀b∈[(s.heap.push { cls:=.type "range",data:=.fields #[.int lo t,.int hi u,.int 1 v] }).objs.size],qEW X pins H b:=λb hb=>by
  have e:b=(s.heap.push { cls:=.type "range",data:=.fields #[.int lo t,.int hi u,.int 1 v] }).objs.size:=by simpa using hb
  subst e
  exact J.fpOk (Nat.le_refl _) (J.hok.fresh (Nat.le_refl _))
 cases hsm:Builtin.Range.small lo hi 1 with
 | true =>
  refine wpAny_pyIter_range (IsRange.new ..) hsm ⟨_,[(s.heap.push { cls:=.type "range",data:=.fields #[.int lo t,.int hi u,.int 1 v] }).objs.size],_,_,H,rfl,J.kept (t':=tk) λb o e=>Heap.get?_push_of_some _ e,qI8 _ lo 1 (hi - lo).toNat,?_,fp,q⟩
  show IsRangeIter _ _ (lo+((0:Nat):Int) * 1) ((((hi - lo).toNat:Nat):Int) - ((0:Nat):Int)) 1
  rw [e1,e2]
  exact Heap.get?_push_size _ rfl
 | false =>
  refine wpAny_pyIter_longrange (IsRange.new ..) hsm ⟨_,[(s.heap.push { cls:=.type "range",data:=.fields #[.int lo t,.int hi u,.int 1 v] }).objs.size],_,_,H,rfl,J.kept (t':=tk) λb o e=>Heap.get?_push_of_some _ e,qI9 _ lo 1 (hi - lo).toNat,?_,fp,q⟩
  show IsLongIter _ _ (lo+((0:Nat):Int) * 1) ((((hi - lo).toNat:Nat):Int) - ((0:Nat):Int)) 1
  rw [e1,e2]
  exact Heap.get?_push_size _ rfl
noncomputable def qQz (ta:TA):TI:=fun σ H R=>ta σ H λvs H1=>∃i j:Int,vs=[.int i,.int j]/\R (Its i 1 (j - i).toNat) H1
theorem qHr {a b:Expr}{ta:TA}{p pos:Pos}(hg:Gl X "range") (hm:X.mg "range"=none) (ha:PA X [a,b] ta) (hs:starEach [a,b] X.env=[(false,eval a X.env),(false,eval b X.env)]) (hs2:starEach [b] X.env=[(false,eval b X.env)]) :
  PI X tg (.Call (.Name "range" p) [a,b] [] pos) (qQz ta):=by
 intro pins s σ H R I h
 refine Call_ (qCu I hg hm boot_range (PyProof.Rows.callWith_type1 (thn (ha pos pins s σ H _ I h) λus s1 ⟨vs,H1,I1,r1,q1⟩=>?_) (by rw [hs,hs2]) (by rw [hs2];rfl)))
 obtain⟨i,j,e,q⟩:=q1
 subst e
 cases r1 with
 | cons r rr =>
  cases rr with
  | cons r' rr =>
   cases rr
   obtain⟨t,rfl⟩:=r
   obtain⟨t',rfl⟩:=r'
   exact call_range_2 (qOA I1 q)
theorem qFz:∀{xs ys:List Int},xs.Perm ys->xs.Pairwise (·<=·)->ys.Pairwise (·<=·)->xs=ys
 | [],ys,h,_,_=>h.nil_eq
 | x::xs,[],h,_,_=>absurd h.length_eq (by simp)
 | x::xs,y::ys,h,h1,h2=>by
  have a1:x∈y::ys:=h.subset List.mem_cons_self
  have a2:y∈x::xs:=h.symm.subset List.mem_cons_self
  have b1:y<=x:=(List.mem_cons.mp a1).elim (λe=>by omega) λm=>(List.pairwise_cons.mp h2).1 x m
  have b2:x<=y:=(List.mem_cons.mp a2).elim (λe=>by omega) λm=>(List.pairwise_cons.mp h1).1 y m
  have e:x=y:=by omega
  subst e
  rw [qFz (List.perm_cons _ |>.mp h) (List.pairwise_cons.mp h1).2 (List.pairwise_cons.mp h2).2]
end
end Dw
namespace Dw
open PySem PySem.Spec PyProof.Rows L2
noncomputable abbrev Fz:=Addr->Prop
noncomputable def qR9 (K:PySem.W.Frag) (a:Addr) (xs:List V):Prop:=
 ∃(o:Obj) (its:Array Value) (n:Nat),K.lookup a=some o/\o.cls=.type "list"/\o.dict=none/\o.data=.seq its n/\its.size<=sizeLine/\Vals xs its.toList
noncomputable def LsR (K:PySem.W.Frag) (H:Hp) (F:Fz) (a:Addr) (xs:List V):Prop:=(F a/\Rd H a (.lst xs))∨qR9 K a xs
theorem LsR.sq {K:PySem.W.Frag}{H:Hp}{F:Fz}{a:Addr}{xs:List V}(h:LsR K H F a xs):SqL K H a xs:=h.elim (λh=>.inl h.2) .inr
noncomputable def dk (ks:List Int):List (Key×V):=ks.map λk=>(Sum.inl k,V.bl true)
@[simp] noncomputable def qMI:D->Bool
 | .dct _ _=>true
 | .obj _ _=>true
 | _=>false
mutual
noncomputable def RD (K:PySem.W.Frag) (H:Hp) (F:Fz):D->V->Prop
 | .non,v=>v=.non
 | .bl b,v=>v=.bl b
 | .int i,v=>v=.int i
 | .str x,v=>v=.str x
 | .tup ds,v=>∃a vs,v=.ref a/\SqT K H a vs/\RDs K H F ds vs
 | .lst ds,v=>∃a vs,v=.ref a/\LsR K H F a vs/\RDs K H F ds vs
 | .dct _ _,_=>False
 | .obj _ _,_=>False
 | .exc _,_=>False
noncomputable def RDs (K:PySem.W.Frag) (H:Hp) (F:Fz):List D->List V->Prop
 | [],vs=>vs=[]
 | d::ds,vs=>∃v r,vs=v::r/\RD K H F d v/\RDs K H F ds r
end
structure Keep (H:Hp) (F:Fz) (H':Hp) (F':Fz):Prop where
 tups:∀a xs,Rd H a (.tup xs)->Rd H' a (.tup xs)
 lsts:∀a xs,F a->Rd H a (.lst xs)->F' a/\Rd H' a (.lst xs)
section
variable {K:PySem.W.Frag}{H H' H'':Hp}{F F' F'':Fz}
mutual
theorem RD.mono (k:Keep H F H' F'):∀{d:D}{v:V},RD K H F d v->RD K H' F' d v
 | .non,_,h=>h
 | .bl _,_,h=>h
 | .int _,_,h=>h
 | .str _,_,h=>h
 | .tup ds,v,h=>by
  simp only [RD] at h ⊢
  obtain⟨a,vs,e,hs,hr⟩:=h
  exact⟨a,vs,e,hs.elim (λz=>.inl (k.tups _ _ z)) .inr,RDs.mono k hr⟩
 | .lst ds,v,h=>by
  simp only [RD] at h ⊢
  obtain⟨a,vs,e,hs,hr⟩:=h
  exact⟨a,vs,e,hs.elim (λz=>.inl (k.lsts _ _ z.1 z.2)) .inr,RDs.mono k hr⟩
 | .dct _ _,_,h=>by simp only [RD] at h
 | .obj _ _,_,h=>by simp only [RD] at h
 | .exc _,_,h=>by simp only [RD] at h
theorem RDs.mono (k:Keep H F H' F'):∀{ds:List D}{vs:List V},RDs K H F ds vs->RDs K H' F' ds vs
 | [],_,h=>h
 | d::ds,vs,h=>by
  simp only [RDs] at h ⊢
  obtain⟨v,r,e,h1,h2⟩:=h
  exact⟨v,r,e,RD.mono k h1,RDs.mono k h2⟩
end
theorem RDs.length:∀{ds:List D}{vs:List V},RDs K H F ds vs->vs.length=ds.length
 | [],_,h=>by simp only [RDs] at h;subst h;rfl
 | d::ds,vs,h=>by
  simp only [RDs] at h
  obtain⟨v,r,rfl,_,h2⟩:=h
  simp [RDs.length h2]
theorem RDs.get:∀{ds:List D}{vs:List V}{i:Nat}{d:D},RDs K H F ds vs->ds[i]?=some d->∃v,vs[i]?=some v/\RD K H F d v
 | [],_,_,_,_,e=>by simp at e
 | x::ds,vs,i,d,h,e=>by
  simp only [RDs] at h
  obtain⟨v,r,rfl,h1,h2⟩:=h
  cases i with
  | zero=>simp at e;subst e;exact⟨v,rfl,h1⟩
  | succ i=>simp at e;obtain⟨w,e1,e2⟩:=RDs.get h2 e;exact⟨w,by simpa using e1,e2⟩
theorem RDs.append:∀{ds es:List D}{vs ws:List V},RDs K H F ds vs->RDs K H F es ws->RDs K H F (ds++es) (vs++ws)
 | [],_,_,_,h,h'=>by simp only [RDs] at h;subst h;exact h'
 | d::ds,es,vs,ws,h,h'=>by
  simp only [RDs] at h
  obtain⟨v,r,rfl,h1,h2⟩:=h
  exact⟨v,r++ws,rfl,h1,RDs.append h2 h'⟩
theorem RDs.take:∀{ds:List D}{vs:List V}(n:Nat),RDs K H F ds vs->RDs K H F (ds.take n) (vs.take n)
 | _,_,0,_=>by simp [RDs]
 | [],_,n+1,h=>by simp only [RDs] at h;subst h;simp [RDs]
 | d::ds,vs,n+1,h=>by
  simp only [RDs] at h
  obtain⟨v,r,rfl,h1,h2⟩:=h
  exact⟨v,r.take n,rfl,h1,RDs.take n h2⟩
theorem RDs.drop:∀{ds:List D}{vs:List V}(n:Nat),RDs K H F ds vs->RDs K H F (ds.drop n) (vs.drop n)
 | _,_,0,h=>by simpa using h
 | [],_,n+1,h=>by simp only [RDs] at h;subst h;simp [RDs]
 | d::ds,vs,n+1,h=>by
  simp only [RDs] at h
  obtain⟨v,r,rfl,h1,h2⟩:=h
  simpa using RDs.drop n h2
theorem RDs.rep {ds:List D}{vs:List V}(h:RDs K H F ds vs):∀n:Nat,RDs K H F (List.replicate n ds).flatten (List.replicate n vs).flatten
 | 0=>by simp [RDs]
 | n+1=>by simpa [List.replicate_succ] using RDs.append h (RDs.rep h n)
theorem RDs.ints:∀{ds:List D}{vs:List V}{is:List Int},RDs K H F ds vs->qAK ds=some is->vs=is.map V.int
 | [],_,_,h,e=>by simp only [RDs] at h;subst h;simp at e;subst e;rfl
 | d::ds,vs,is,h,e=>by
  simp only [RDs] at h
  obtain⟨v,r,rfl,h1,h2⟩:=h
  cases d with
  | int i =>
   cases q:qAK ds with
   | none=>simp [q] at e
   | some js =>
    simp [q] at e
    subst e
    have h1':v=.int i:=h1
    rw [h1',RDs.ints h2 q];rfl
  | _=>simp at e
theorem RDs.of_ints (is:List Int):RDs K H F (is.map .int) (is.map V.int):=by
 induction is with
 | nil=>simp [RDs]
 | cons i r ih=>exact⟨_,_,rfl,rfl,ih⟩
end
structure Gr (H:Hp) (F:Fz) (H':Hp) (F':Fz):Prop where
 same:Same H H'
 sub:∀a,F a->F' a
 new:∀a,F' a->F a∨H a=none
 dom:∀a,H' a=none->¬F' a
section
variable {K:PySem.W.Frag}{H H1 H2:Hp}{F F1 F2:Fz}
theorem qHh {a:Addr}{u:HO}(s:Same H H1) (h:Rd H a u):Rd H1 a u:=h.elim (λz=>.inl (s _ _ z)) λ⟨o,z⟩=>.inr ⟨o,s _ _ z⟩
theorem Gr.keep (g:Gr H F H1 F1):Keep H F H1 F1:=⟨λ_ _ h=>qHh g.same h,λ_ _ f h=>⟨g.sub _ f,qHh g.same h⟩⟩
theorem Gr.refl (d:∀a,H a=none->¬F a):Gr H F H F:=⟨Same.refl H,λ_ h=>h,λ_ h=>.inl h,d⟩
theorem Gr.trans (g:Gr H F H1 F1) (g':Gr H1 F1 H2 F2):Gr H F H2 F2:=
 ⟨g.same.trans g'.same,λa h=>g'.sub a (g.sub a h),λa h=>(g'.new a h).elim (λz=>g.new a z) λz=>.inr (g.same.free z),g'.dom⟩
theorem Gr.laid {p:Addr}{o:HO}(d:∀a,H a=none->¬F a) (hp:H p=none):Gr H F (upd H p o) F:=
 ⟨λb u q=>by rw [qAc (qAd q hp)];exact q,λ_ h=>h,λ_ h=>.inl h,λa e=>by
  by_cases z:a=p
  ·subst z;exact d a hp
  ·rw [qAc z] at e;exact d a e⟩
theorem Gr.fz {p:Addr}{o:HO}(g:Gr H F H1 F1) (hp:H p=none) (h1:H1 p=some o):Gr H F H1 (λa=>a=p∨F1 a):=
 ⟨g.same,λa h=>.inr (g.sub a h),λa h=>h.elim (λz=>.inr (z▸hp)) (λz=>g.new a z),λa e h=>h.elim (λz=>by subst z;rw [h1] at e;cases e) (g.dom a e)⟩
noncomputable def RR (K:PySem.W.Frag) (H H':Hp) (F':Fz):R->V->Prop
 | (false,d),v=>RD K H' F' d v
 | (true,d),v=>∃a ds vs,d=.lst ds/\v=.ref a/\H a=none/\¬F' a/\H' a=some (.lst vs)/\RDs K H' F' ds vs
noncomputable def RP (K:PySem.W.Frag) (H:Hp) (F:Fz) (d:D) (v:V):Prop:=
 RD K H F d v∨∃a ds vs,d=.lst ds/\v=.ref a/\H a=some (.lst vs)/\RDs K H F ds vs
theorem RR.back {H0:Hp}{r:R}{v:V}(h:RR K H H1 F1 r v) (s:Same H0 H):RR K H0 H1 F1 r v:=by
 obtain⟨b,d⟩:=r
 cases b with
 | false=>exact h
 | true =>
  obtain⟨a,ds,vs,e1,e2,e3,e⟩:=h
  exact⟨a,ds,vs,e1,e2,s.free e3,e⟩
theorem RR.look {r:R}{v:V}(h:RR K H H1 F1 r v):RP K H1 F1 r.2 v:=by
 obtain⟨b,d⟩:=r
 cases b with
 | false=>exact .inl h
 | true =>
  obtain⟨a,ds,vs,e1,e2,e3,e4,e5,e6⟩:=h
  exact .inr ⟨a,ds,vs,e1,e2,e5,e6⟩
theorem RR.fz {r:R}{v:V}(h:RR K H H1 F1 r v) (g:Gr H F H1 F1):∃F2,Gr H F H1 F2/\RD K H1 F2 r.2 v:=by
 obtain⟨b,d⟩:=r
 cases b with
 | false=>exact⟨F1,g,h⟩
 | true =>
  obtain⟨a,ds,vs,rfl,rfl,e3,e4,e5,e6⟩:=h
  have g2:Keep H1 F1 H1 (λb=>b=a∨F1 b):=⟨λ_ _ h=>h,λ_ _ f h=>⟨.inr f,h⟩⟩
  exact⟨λb=>b=a∨F1 b,g.fz e3 e5,⟨a,vs,rfl,.inl ⟨.inl rfl,.inl e5⟩,RDs.mono g2 e6⟩⟩
theorem RP.grow {d:D}{v:V}(h:RP K H F d v) (g:Gr H F H1 F1):RP K H1 F1 d v:=
 h.elim (λz=>.inl (RD.mono g.keep z)) λ⟨a,ds,vs,e1,e2,e3,e4⟩=>.inr ⟨a,ds,vs,e1,e2,g.same _ _ e3,RDs.mono g.keep e4⟩
theorem RP.int {i:Int}{v:V}(h:RP K H F (.int i) v):v=.int i:=h.elim (λz=>z) λ⟨_,_,_,e,_⟩=>by cases e
theorem RP.bl {i:Bool}{v:V}(h:RP K H F (.bl i) v):v=.bl i:=h.elim (λz=>z) λ⟨_,_,_,e,_⟩=>by cases e
theorem RP.non {v:V}(h:RP K H F .non v):v=.non:=h.elim (λz=>z) λ⟨_,_,_,e,_⟩=>by cases e
theorem RP.str {x:Str}{v:V}(h:RP K H F (.str x) v):v=.str x:=h.elim (λz=>z) λ⟨_,_,_,e,_⟩=>by cases e
theorem RP.tup {ds:List D}{v:V}(h:RP K H F (.tup ds) v):∃a vs,v=.ref a/\SqT K H a vs/\RDs K H F ds vs:=h.elim (λz=>z) λ⟨_,_,_,e,_⟩=>by cases e
theorem RP.noDct {m:Bool}{ks:List Int}{v:V}:¬RP K H F (.dct m ks) v:=λh=>h.elim (λz=>by simp only [RD] at z) λ⟨_,_,_,e,_⟩=>by cases e
theorem RP.noObj {ns:List Str}{ds:List D}{v:V}:¬RP K H F (.obj ns ds) v:=λh=>h.elim (λz=>by simp only [RD] at z) λ⟨_,_,_,e,_⟩=>by cases e
theorem RP.noExc {c:Str}{v:V}:¬RP K H F (.exc c) v:=λh=>h.elim (λz=>by simp only [RD] at z) λ⟨_,_,_,e,_⟩=>by cases e
theorem RP.lst {ds:List D}{v:V}(h:RP K H F (.lst ds) v):∃a vs,v=.ref a/\SqL K H a vs/\RDs K H F ds vs:=by
 rcases h with ⟨a,vs,e,h1,h2⟩|⟨a,ds',vs,e1,e2,e3,e4⟩
 ·exact⟨a,vs,e,h1.sq,h2⟩
 ·cases e1;exact⟨a,vs,e2,SqL.of e3,e4⟩
end
noncomputable def ObR (K:PySem.W.Frag) (H:Hp) (F:Fz) (ns:List Str) (ds:List D) (v:V):Prop:=
 ∃(a C dx:Addr) (fs:List (Str×V)) (vs:List V),v=.ref a/\¬F a/\H a=some (.ins C dx fs)/\Cls K C/\(∀(j:Nat) (f:Str),ns[j]?=some f->NoAttr K C f/\∃u,fs.lookup f=some u/\vs[j]?=some u)/\RDs K H F ds vs
theorem ObR.mono {K:PySem.W.Frag}{H H1:Hp}{F F1:Fz}{ns:List Str}{ds:List D}{v:V}(k:Keep H F H1 F1) (h:ObR K H F ns ds v) (hf:∀a C dx fs,v=.ref a->H a=some (.ins C dx fs)->¬F a->¬F1 a/\H1 a=H a):ObR K H1 F1 ns ds v:=by
 obtain⟨a,C,dx,fs,vs,e,h1,h2,h3,h4,h5⟩:=h
 obtain⟨q1,q2⟩:=hf a C dx fs e h2 h1
 exact⟨a,C,dx,fs,vs,e,q1,q2.trans h2,h3,h4,RDs.mono k h5⟩
theorem ObR.grow {K:PySem.W.Frag}{H H1:Hp}{F F1:Fz}{ns:List Str}{ds:List D}{v:V}(h:ObR K H F ns ds v) (g:Gr H F H1 F1):ObR K H1 F1 ns ds v:=
 h.mono g.keep λa C dx fs _ e n=>⟨λz=>(g.new a z).elim n λz=>absurd (e.symm.trans z) (by simp),(g.same _ _ e).trans e.symm⟩
structure SR (K:PySem.W.Frag) (G H:Hp) (F:Fz) (σ:En) (τ:L2.St):Prop where
 len:σ.length=τ.length
 ent:Same G H
 dom:∀a,H a=none->¬F a
 val:∀i d,qAg σ i=some (false,d)->∃v,τ[i]?=some (some v)/\RD K H F d v
 own:∀i d,qAg σ i=some (true,d)->qMI d=false->∃a ds vs,d=.lst ds/\τ[i]?=some (some (.ref a))/\G a=none/\¬F a/\H a=some (.lst vs)/\RDs K H F ds vs
 sep:∀i j d e,qAg σ i=some (true,d)->qAg σ j=some (true,e)->τ[i]?=τ[j]?->i=j
 dct:∀i m ks,qAg σ i=some (true,.dct m ks)->∃a,τ[i]?=some (some (.ref a))/\¬F a/\H a=some (.dK (dk ks))/\(m=true->G a=none)
 obj:∀i ns ds,qAg σ i=some (true,.obj ns ds)->∃v,τ[i]?=some (some v)/\ObR K H F ns ds v
 tb:TB G
theorem SR.grow {K:PySem.W.Frag}{G H H1:Hp}{F F1:Fz}{σ:En}{τ:L2.St}(s:SR K G H F σ τ) (g:Gr H F H1 F1):SR K G H1 F1 σ τ:=
 ⟨s.len,s.ent.trans g.same,g.dom,λi d e=>let ⟨v,h1,h2⟩:=s.val i d e;⟨v,h1,RD.mono g.keep h2⟩,
  λi d e hd=>let ⟨a,ds,vs,h1,h2,h3,h4,h5,h6⟩:=s.own i d e hd
   ⟨a,ds,vs,h1,h2,h3,(λz=>(g.new a z).elim h4 λz=>absurd (h5.symm.trans z) (by simp)),g.same _ _ h5,RDs.mono g.keep h6⟩,s.sep,
  λi m ks e=>let ⟨a,h1,h2,h3,h4⟩:=s.dct i m ks e
   ⟨a,h1,(λz=>(g.new a z).elim h2 λz=>absurd (h3.symm.trans z) (by simp)),g.same _ _ h3,h4⟩,
  λi ns ds e=>let ⟨v,h1,h2⟩:=s.obj i ns ds e;⟨v,h1,h2.grow g⟩,s.tb⟩
theorem SR.tbH {K:PySem.W.Frag}{G H:Hp}{F:Fz}{σ:En}{τ:L2.St}(s:SR K G H F σ τ):TB H:=s.tb.same s.ent
theorem SR.addr {K:PySem.W.Frag}{G H:Hp}{F:Fz}{σ:En}{τ:L2.St}{i:Nat}{d:D}(s:SR K G H F σ τ) (h:qAg σ i=some (true,d)):∃a u,τ[i]?=some (some (.ref a))/\¬F a/\H a=some u:=by
 cases hd:qMI d with
 | false=>obtain⟨a,ds,vs,h1,h2,h3,h4,h5,h6⟩:=s.own i d h hd;exact⟨a,_,h2,h4,h5⟩
 | true =>
  cases d with
  | dct m ks=>obtain⟨a,h1,h2,h3,h4⟩:=s.dct i m ks h;exact⟨a,_,h1,h2,h3⟩
  | obj ns ds=>obtain⟨v,h1,a,C,dx,fs,vs,rfl,h2,h3,h4⟩:=s.obj i ns ds h;exact⟨a,_,h1,h2,h3⟩
  | _=>cases hd
end Dw
namespace Dw
open PySem PySem.Spec PyProof.Rows L2
theorem qCc {a:Int}{n:Nat}(h:a.natAbs<2^n):Builtin.Int.intBits a<=n:=by
 unfold Builtin.Int.intBits
 split
 ·exact Nat.zero_le _
 ·rename_i hz
  have h0:a.natAbs≠0:=λz=>by
   have:a=0:=Int.natAbs_eq_zero.mp z
   subst this;simp at hz
  have:=(Nat.log2_lt h0).mpr h
  omega
theorem qOw {a b:Int}(h:qEs a b=true):IntMulOk a b:=by
 have h':=of_decide_eq_true h
 rcases h' with ⟨h1,h2⟩|h1|h1|⟨h1,h2⟩
 ·exact IntMulOk.of_bits (Nat.le_trans (qCc h1) (by decide)) (Nat.le_trans (qCc h2) (by decide))
 ·exact IntMulOk.of_left (qCc h1)
 ·exact IntMulOk.of_right (qCc h1)
 ·exact IntMulOk.of_bits (qCc h1) (qCc h2)
section
variable {X:Cx}
theorem op_mulD:OpR X (binaryOp .Mult) (rI (λi j=>qEs i j=true) λi j=>.int (i * j)):=opI λ_ _ _ _ _ _ _ hc q=>mul_int q (qOw hc)
theorem qJJ:OpR X (binaryOp .FloorDiv) (rI (λ_ j=>qBr j=true) λi j=>.int (i.fdiv j)):=opI λi j _ _ _ _ _ hc q=>by
 have h:=of_decide_eq_true hc
 refine floordiv_int h.1 q (.inl (PyProof.noPylong_of_log2 ?_))
 rcases h.2 with h2|h2
 ·have:=(Nat.log2_lt (λz=>h.1 (Int.natAbs_eq_zero.mp z))).mpr h2
  omega
 ·have:=(Nat.log2_lt (λz=>h.1 (Int.natAbs_eq_zero.mp z))).mpr h2
  omega
theorem qMi:OpR X (binaryOp .Mod) (rI (λ_ j=>qBr j=true) λi j=>.int (i.fmod j)):=opI λ_ _ _ _ _ _ _ hc q=>mod_int' (of_decide_eq_true hc).1 q
theorem qMh:OpR X (binaryOp .Pow) (rI (λi j=>qEn i j=true) λi j=>.int (i^j.toNat)):=opI λi j _ _ _ _ _ hc q=>by
 obtain⟨h1,h2,h3⟩:=of_decide_eq_true hc
 refine pow_int h2 ?_ q
 have:=qCc h1
 calc (Builtin.Int.intBits i:Int) * j<=240 * 200:=Int.mul_le_mul (by exact_mod_cast this) h3 h2 (by decide)
  _<=2^27:=by decide
theorem qJR (l:Addr) (items:Array Value) (n:Nat) (sl:Array (Option Value)) (b:Addr) (items2:Array Value) (n2:Nat) (sl2:Array (Option Value)) (hc0:items.size+items2.size<=sizeLine) :
  Meets (Builtin.«list.__add__» ⟨[.ref l,.ref b],[]⟩) (λ_ R s=>s.heap.get? l=some ⟨.type "list",none,.seq items n,sl⟩/\s.heap.get? b=some ⟨.type "list",none,.seq items2 n2,sl2⟩ /\
   R (.ok (.ret (Value.ref s.heap.objs.size))) { s with heap:=s.heap.push { cls:=.type "list",data:=.seq (items++items2) } }):=
 .of_wp λprog w A R s h=>by
  obtain⟨hp,g,d,tk,os⟩:=s
  obtain⟨hl,hb,h⟩:=h
  have f3:=F.sub_list_list
  wp_walk using AutoSeq1.wpAny_loadPart' hl,AutoSeq1.wpAny_loadPart' hb
  exact⟨_,rfl,h⟩
theorem qJQ (l:Addr) (items:Array Value) (n:Nat) (sl:Array (Option Value)) (x:Int) (u:Tok) (hc0:¬(!Builtin.List.listFitsIndex x)=true) (hc1:¬items.size * x.toNat > (2^63 - 1) / 8) (hc2:¬Builtin.List.listTooLong (items.size * x.toNat)=true) :
  Meets (Builtin.«list.__mul__» ⟨[.ref l,.int x u],[]⟩) (λ_ R s=>s.heap.get? l=some ⟨.type "list",none,.seq items n,sl⟩ /\
   R (.ok (.ret (Value.ref s.heap.objs.size))) { s with heap:=s.heap.push { cls:=Value.type "list",data:=Data.seq (List.foldl (λx1 x2=>x1++x2) #[] (List.replicate (if items.isEmpty=true then 0 else x.toNat) items)) } }):=
 .of_wp λprog w A R s h=>by
  obtain⟨hp,g,d,tk,os⟩:=s
  obtain⟨hl,h⟩:=h
  have hsz:=AutoListH.joined_fits hc2
  wp_walk
  refine wpAny_ite_false (decide_eq_false (Nat.not_lt.mpr hsz)) ?_
  wp_walk
  exact⟨_,rfl,h⟩
theorem qP4 (a:Int) (t:Tok) (l:Addr) (items:Array Value) (n:Nat) (sl:Array (Option Value)) :
  Meets (Builtin.«int.__rmul__» ⟨[.int a t,.ref l],[]⟩) (λ_ R s=>s.heap.get? l=some ⟨.type "list",none,.seq items n,sl⟩/\R (.ok (.ret Value.notImplemented)) s):=
 .of_wp λprog w A R s h=>by
  obtain⟨hp,g,d,tk,os⟩:=s
  obtain⟨hl,h⟩:=h
  wp_walk
  exact⟨_,rfl,h⟩
theorem Inv.lobj {pins:List (Addr×Obj)}{σ:L2.St}{H:Hp}{s:Shared}{a:Addr}{xs:List V}(I:Inv X pins σ H s) (h:SqL X.K H a xs) :
  ∃(its:List Value) (n:Nat) (sl:Array (Option Value)),Vals xs its/\xs.length=its.length/\s.heap.get? a=some ⟨.type "list",none,.seq its.toArray n,sl⟩/\xs.length<=sizeLine:=by
 obtain⟨its,r,⟨⟨c,dd,da,sl⟩,n,e,e1,e2,e3⟩,z⟩:=I.list h
 simp only at e1 e2 e3
 subst e1 e2 e3
 exact⟨its,n,sl,r,r.length,e,z⟩
noncomputable def qP7 (K:PySem.W.Frag):R2:=λx y H Q=>∃l b xs zs,x=.ref l/\y=.ref b/\SqL K H l xs/\SqL K H b zs/\xs.length+zs.length<=sizeLine/\∀p,H p=none->Q (.ref p) (upd H p (.lst (xs++zs)))
theorem op_catD:OpR X (binaryOp .Add) (qP7 X.K):=by
 intro pins s σ H x y v u Q I rx ry h
 obtain⟨l,b,xs,zs,rfl,rfl,hH,hB,hz,q⟩:=h
 cases rx
 cases ry
 obtain⟨its,n,sl,r,hl,e,z⟩:=Inv.lobj I hH
 obtain⟨its2,n2,sl2,r2,hl2,e2,z2⟩:=Inv.lobj I hB
 refine concat_meets ⟨_,e,rfl⟩ ⟨_,e2,rfl⟩ noFill_list_add seq_list_add F.slot_list_add F.entry_list_add (F.args_list_add_2 _ _)
  (qJR l its.toArray n sl b its2.toArray n2 sl2 (by rw [List.size_toArray,List.size_toArray];omega)) ⟨e,e2,?_⟩
 have ea:its.toArray++its2.toArray=(its++its2).toArray:=by simp
 rw [ea]
 exact⟨.ref _,_,I.lnew (t':=s.toks) (r.append r2) (by rw [List.length_append];omega),rfl,q _ I.fresh⟩
noncomputable def qP5 (K:PySem.W.Frag):R2:=λx y H Q=>∃l k xs,x=.ref l/\y=.int k/\SqL K H l xs/\-(2^63)<=k/\k<2^63/\xs.length * k.toNat<=sizeLine /\
 ∀p,H p=none->Q (.ref p) (upd H p (.lst (List.replicate k.toNat xs).flatten))
theorem qMg:OpR X (binaryOp .Mult) (qP5 X.K):=by
 intro pins s σ H x y v u Q I rx ry h
 obtain⟨l,k,xs,rfl,rfl,hH,h1,h2,hz,q⟩:=h
 cases rx
 obtain⟨t,rfl⟩:=ry
 obtain⟨its,n,sl,r,hl,e,z⟩:=Inv.lobj I hH
 have hlen:its.toArray.size * k.toNat<=sizeLine:=by rw [List.size_toArray,<-hl];exact hz
 have hcap:¬its.toArray.size * k.toNat > (2^63 - 1) / 8:=by
  have:(sizeLine:Nat)<=(2^63 - 1) / 8:=by decide
  omega
 have hfit:¬(!Builtin.List.listFitsIndex k)=true:=by rw [fitsIndex_both h1 h2];exact Bool.false_ne_true
 have hlong:¬Builtin.List.listTooLong (its.toArray.size * k.toNat)=true:=by rw [qCD hlen];exact Bool.false_ne_true
 have hnew:List.foldl (λx1 x2=>x1++x2) #[] (List.replicate (if its.toArray.isEmpty=true then 0 else k.toNat) its.toArray)=(List.replicate k.toNat its).flatten.toArray:=by
  have f0:∀m:Nat,List.foldl (λx1 x2=>x1++x2) #[] (List.replicate m its.toArray)=(List.replicate m its).flatten.toArray:=λm=>by simpa using qED its m []
  rw [f0]
  cases its with
  | nil=>simp
  | cons a r'=>rw [if_neg (by simp)]
 refine wpAny_binaryOp_repeat_ref (T:="list") (U:="int") (by decide) ⟨_,e,rfl⟩ (λs'=>typeIs_int s' k t) noFill_list_mul F.fills_int_mul F.slot_int_rmul repeat_list F.slot_int_index.lookup
  (call_meets F.slot_int_rmul (typeIs_int s k t) F.entry_int_rmul (F.args_int_rmul_2 _ _) (qP4 k t l its.toArray n sl)
   ⟨e,rfl,⟨_,e,rfl⟩,call_meets F.slot_list_mul ⟨_,e,rfl⟩ F.entry_list_mul (F.args_list_mul_2 _ _) (qJQ l its.toArray n sl k t hfit hcap hlong) ⟨e,?_⟩⟩)
 rw [hnew]
 exact⟨.ref _,_,I.lnew (t':=s.toks) (r.rep k.toNat) (by rw [qMz,Nat.mul_comm];exact hz),rfl,q _ I.fresh⟩
theorem qIy (hc:X.calm=true):CallR X (.builtin "max") (λxs H Q=>∃i j k,xs=[.int i,.int j,.int k]/\Q (.int (if k > (if j > i then j else i) then k else (if j > i then j else i))) H):=by
 intro pins s σ H xs us Q I r h
 obtain⟨i,j,k,rfl,q⟩:=h
 obtain _|⟨⟨t,rfl⟩,_|⟨⟨t',rfl⟩,_|⟨⟨t2,rfl⟩,_|_⟩⟩⟩:=r
 refine max_three_ints (I.ok.hd hc) λh' tk hk=>?_
 have I1:Inv X pins σ H { s with heap:=h',toks:=tk }:=I.kept hk
 have fin:∀(z:Int) (tok:Tok),z=(if k > (if j > i then j else i) then k else (if j > i then j else i))->EP X pins σ Q (.int z tok) { s with heap:=h',toks:=tk }:=λz tok e=>⟨.int z,H,I1,⟨_,rfl⟩,by rw [e];exact q⟩
 by_cases hba:j > i<;>by_cases hc1:k > j<;>by_cases hc2:k > i<;>simp only [hba,hc1,hc2,if_true,if_false] at fin ⊢<;>first|exact fin _ _ rfl|exact fin _ _ (by omega)
end
end Dw
namespace Dw
open PySem PySem.Spec PyProof.Rows L2
section
variable {X:Cx}
theorem qBy:∀{is:List Int}{its:List Value},Vals (is.map V.int) its->∃xs:List (Int×Tok),its=xs.map (λp=>Value.int p.1 p.2)/\xs.map (·.1)=is
 | [],_,.nil=>⟨[],rfl,rfl⟩
 | i::is,_,.cons ⟨t,e⟩ r=>by
  obtain⟨xs,h1,h2⟩:=qBy r
  exact⟨(i,t)::xs,by rw [e,h1];rfl,by rw [List.map_cons,h2]⟩
theorem qE9 (xs:Array (Int×Tok)):preSum (numAt xs) xs.size=(xs.toList.map (·.1)).sum:=by
 rw [preSum_eq,List.take_of_length_le (by simp)]
theorem qIt (hc:X.calm=true):CallR X (.builtin "sum") (λxs H Q=>∃(p:Addr) (is:List Int),xs=[.ref p]/\SqL X.K H p (is.map V.int)/\Q (.int is.sum) H):=by
 intro pins s σ H xs us Q I r h
 obtain⟨p,is,rfl,hq,q⟩:=h
 obtain⟨u,rfl,ru⟩:=qB1 r
 cases ru
 obtain⟨its,rv,pl,z⟩:=I.list hq
 obtain⟨ps,rfl,rfl⟩:=qBy rv
 have e:(ps.map λp=>Value.int p.1 p.2).toArray=intItems ps.toArray:=by simp [intItems]
 have hl:s.heap.IsList p (intItems ps.toArray):=by rw [<-e];exact pl.isList
 refine sum_intListG (I.ok.hd hc) hl λh' tk t' hk=>?_
 rw [qE9]
 exact⟨.int _,H,I.kept hk,⟨_,rfl⟩,q⟩
theorem qJP {is:List Int}{m:Int}(h:mnL is=some m):m∈is/\∀a∈is,m<=a:=by
 cases is with
 | nil=>cases h
 | cons a r =>
  cases h
  have:∀(l:List Int) (b:Int),(l.foldl (λm x=>if x<m then x else m) b=b∨l.foldl (λm x=>if x<m then x else m) b∈l)/\l.foldl (λm x=>if x<m then x else m) b<=b/\∀y∈l,l.foldl (λm x=>if x<m then x else m) b<=y:=by
   intro l
   induction l with
   | nil=>intro b;exact⟨.inl rfl,Int.le_refl _,λ_ h=>nomatch h⟩
   | cons x l ih =>
    intro b
    rw [List.foldl_cons]
    obtain⟨h1,h2,h3⟩:=ih (if x<b then x else b)
    generalize l.foldl (λm x=>if x<m then x else m) (if x<b then x else b)=z at h1 h2 h3
    refine⟨?_,?_,λy hy=>?_⟩
    ·rcases h1 with h1|h1
     ·split at h1
      ·exact .inr (h1▸List.mem_cons_self)
      ·exact .inl h1
     ·exact .inr (List.mem_cons_of_mem _ h1)
    ·split at h2<;>omega
    ·rcases List.mem_cons.mp hy with rfl|hy
     ·split at h2<;>omega
     ·exact h3 y hy
  obtain⟨h1,h2,h3⟩:=this r a
  exact⟨List.mem_cons.mpr h1,λy hy=>(List.mem_cons.mp hy).elim (λe=>e▸h2) (h3 y)⟩
theorem qJM {is:List Int}{m:Int}(h:mxL is=some m):m∈is/\∀a∈is,a<=m:=by
 cases is with
 | nil=>cases h
 | cons a r =>
  cases h
  have:∀(l:List Int) (b:Int),(l.foldl (λm x=>if m<x then x else m) b=b∨l.foldl (λm x=>if m<x then x else m) b∈l)/\b<=l.foldl (λm x=>if m<x then x else m) b/\∀y∈l,y<=l.foldl (λm x=>if m<x then x else m) b:=by
   intro l
   induction l with
   | nil=>intro b;exact⟨.inl rfl,Int.le_refl _,λ_ h=>nomatch h⟩
   | cons x l ih =>
    intro b
    rw [List.foldl_cons]
    obtain⟨h1,h2,h3⟩:=ih (if b<x then x else b)
    generalize l.foldl (λm x=>if m<x then x else m) (if b<x then x else b)=z at h1 h2 h3
    refine⟨?_,?_,λy hy=>?_⟩
    ·rcases h1 with h1|h1
     ·split at h1
      ·exact .inr (h1▸List.mem_cons_self)
      ·exact .inl h1
     ·exact .inr (List.mem_cons_of_mem _ h1)
    ·split at h2<;>omega
    ·rcases List.mem_cons.mp hy with rfl|hy
     ·split at h2<;>omega
     ·exact h3 y hy
  obtain⟨h1,h2,h3⟩:=this r a
  exact⟨List.mem_cons.mpr h1,λy hy=>(List.mem_cons.mp hy).elim (λe=>e▸h2) (h3 y)⟩
theorem qIx (hc:X.calm=true):CallR X (.builtin "min") (λxs H Q=>∃(p:Addr) (is:List Int) (m:Int),xs=[.ref p]/\SqL X.K H p (is.map V.int)/\mnL is=some m/\Q (.int m) H):=by
 intro pins s σ H xs us Q I r h
 obtain⟨p,is,m,rfl,hq,hm,q⟩:=h
 obtain⟨u,rfl,ru⟩:=qB1 r
 cases ru
 obtain⟨its,rv,pl,z⟩:=I.list hq
 obtain⟨ps,rfl,rfl⟩:=qBy rv
 have e:(ps.map λp=>Value.int p.1 p.2).toArray=intItems ps.toArray:=by simp [intItems]
 have hl:s.heap.IsList p (intItems ps.toArray):=by rw [<-e];exact pl.isList
 obtain⟨m1,m2⟩:=qJP hm
 have hsz:0<ps.toArray.size:=by
  cases ps with
  | nil=>cases hm
  | cons _ _=>simp
 refine min_intList (I.ok.hd hc) hl hsz λv h' tk hv hk=>?_
 obtain⟨t,rfl⟩:=intItems_at hv
 obtain⟨h1,h2⟩:=argBest_lt (numAt ps.toArray) (ps.toArray.size - 1)
 have key:numAt ps.toArray (argBest (λi j=>decide (numAt ps.toArray i<numAt ps.toArray j)) (ps.toArray.size - 1))=m:=by
  refine Int.le_antisymm ?_ (m2 _ ?_)
  ·obtain⟨j,hj,e⟩:=List.getElem_of_mem m1
   have:=h2 j (by simp at hj ⊢;omega)
   refine Int.le_trans this (Int.le_of_eq ?_)
   rw [<-e]
   simp [numAt] at hj ⊢
   rw [List.getElem?_eq_getElem hj];rfl
  ·generalize argBest (λi j=>decide (numAt ps.toArray i<numAt ps.toArray j)) (ps.toArray.size - 1)=k at h1 ⊢
   have hk:k<ps.length:=by simp at h1 hsz;omega
   refine List.mem_map.mpr ⟨ps[k],List.getElem_mem hk,?_⟩
   simp [numAt]
   rw [List.getElem?_eq_getElem hk];rfl
 rw [key]
 exact⟨.int _,H,I.kept hk,⟨_,rfl⟩,q⟩
theorem qIA (hc:X.calm=true):CallR X (.builtin "max") (λxs H Q=>∃(p:Addr) (is:List Int) (m:Int),xs=[.ref p]/\SqL X.K H p (is.map V.int)/\mxL is=some m/\Q (.int m) H):=by
 intro pins s σ H xs us Q I r h
 obtain⟨p,is,m,rfl,hq,hm,q⟩:=h
 obtain⟨u,rfl,ru⟩:=qB1 r
 cases ru
 obtain⟨its,rv,pl,z⟩:=I.list hq
 obtain⟨ps,rfl,rfl⟩:=qBy rv
 have e:(ps.map λp=>Value.int p.1 p.2).toArray=intItems ps.toArray:=by simp [intItems]
 have hl:s.heap.IsList p (intItems ps.toArray):=by rw [<-e];exact pl.isList
 obtain⟨m1,m2⟩:=qJM hm
 have hsz:0<ps.toArray.size:=by
  cases ps with
  | nil=>cases hm
  | cons _ _=>simp
 refine max_intList (I.ok.hd hc) hl hsz λv h' tk hv hk=>?_
 obtain⟨t,rfl⟩:=intItems_at hv
 obtain⟨h1,h2⟩:=argBest_gt (numAt ps.toArray) (ps.toArray.size - 1)
 have key:numAt ps.toArray (argBest (λi j=>decide (numAt ps.toArray i > numAt ps.toArray j)) (ps.toArray.size - 1))=m:=by
  refine Int.le_antisymm (m2 _ ?_) ?_
  ·generalize argBest (λi j=>decide (numAt ps.toArray i > numAt ps.toArray j)) (ps.toArray.size - 1)=k at h1 ⊢
   have hk:k<ps.length:=by simp at h1 hsz;omega
   refine List.mem_map.mpr ⟨ps[k],List.getElem_mem hk,?_⟩
   simp [numAt]
   rw [List.getElem?_eq_getElem hk];rfl
  ·obtain⟨j,hj,e⟩:=List.getElem_of_mem m1
   have:=h2 j (by simp at hj ⊢;omega)
   refine Int.le_trans (Int.le_of_eq ?_) this
   rw [<-e]
   simp [numAt] at hj ⊢
   rw [List.getElem?_eq_getElem hj];rfl
 rw [key]
 exact⟨.int _,H,I.kept hk,⟨_,rfl⟩,q⟩
theorem qG0 (is:List Int):(qE2 is).Perm is/\(qE2 is).Pairwise (·<=·):=by
 refine⟨List.mergeSort_perm is _,?_⟩
 have h:=List.pairwise_mergeSort (le:=λa b:Int=>decide (a<=b)) (λa b c h1 h2=>by simp at *;omega) (λa b=>by simp;omega) is
 exact h.imp λh=>by simpa using h
theorem qEL:CallR X (.builtin "sorted") (λxs H Q=>∃(p:Addr) (is:List Int),xs=[.ref p]/\(SqL X.K H p (is.map V.int)∨SqT X.K H p (is.map V.int))/\is.length<64/\∀l,H l=none->Q (.ref l) (upd H l (.lst ((qE2 is).map V.int)))):=by
 intro pins s σ H xs us Q I r h
 obtain⟨p,is,rfl,hq,hl,q⟩:=h
 obtain⟨u,rfl,ru⟩:=qB1 r
 cases ru
 have big:(64:Nat)<=sizeLine:=by decide
 have ob:∃(its:List Value) (T:String) (o:Obj) (n:Nat),(T="list"∨T="tuple")/\Vals (is.map V.int) its/\s.heap.get? p=some o/\o.cls=.type T/\o.data=.seq its.toArray n:=by
  rcases hq with hq|hq
  ·obtain⟨its,n,sl,rv,_,e,_⟩:=Inv.lobj I hq
   exact⟨its,_,_,n,.inl rfl,rv,e,rfl,rfl⟩
  ·obtain⟨its,rv,⟨o,e1,e2,n,e3⟩,_⟩:=I.tuple hq
   exact⟨its,_,o,n,.inr rfl,rv,e1,e2,e3⟩
 obtain⟨its,T,o,n,hT,rv,e1,e2,e3⟩:=ob
 have hI:IntsAre its is:=qGy rv
 have hlen:its.length=is.length:=by simpa using rv.length.symm
 refine PySem.Calls.call_function_entry kind_sorted plain_sorted entry_sorted (args_sorted1 _) ?_
 unfold Builtin.«sorted»
 refine wpAny_bind (m:=checkCount "sorted" 1 1 _) (wpAny_pure ?_)
 refine wpAny_bind (wpAny_collect_seq p hT e1 e2 e3 (λh' kp=>?_) (by rw [List.size_toArray];omega))
 refine wpAny_bind (wpAny_newList ?_ (by rw [List.toList_toArray];omega))
 have hoL:(h'.push (seqObj "list" its.toArray 0)).get? h'.objs.size=some (seqObj "list" its.toArray 0):=Heap.get?_push_size _ rfl
 refine wpAny_bind (wpAny_holding (wpAny_call_entry slot_list_sort ⟨_,hoL,rfl⟩ entry_list_sort (list_sort_tree hoL hI (by omega) λout ns' a1 a2 a3=>⟨_,rfl,?_⟩) (args_list_sort _)))
 obtain⟨s1,s2⟩:=qG0 is
 obtain rfl:ns'=qE2 is:=qFz (a2.trans s1.symm) a3 s2
 have I1:Inv X pins σ H { s with heap:=h' }:=I.kept (t':=s.toks) kp
 obtain⟨ep,he⟩:=sortedHeap_at (out:=out) hoL
 have kept:∀b ob,h'.get? b=some ob->(sortedHeap (h'.push (seqObj "list" its.toArray 0)) h'.objs.size its out).get? b=some ob:=λb ob hb=>by
  have hlt:=Heap.lt_size hb
  rw [sortedHeap_old (Nat.ne_of_lt hlt) (by rw [Heap.size_push];exact Nat.lt_succ_of_lt hlt)]
  exact Heap.get?_push_of_some _ hb
 refine wpAny_pure ⟨_,rfl,.ref h'.objs.size,_,I1.laid (t':=s.toks) (o:=.lst ((qE2 is).map V.int)) kept (Nat.le_refl _) ⟨?_,out.toList,ep,qCJ a1,?_⟩,rfl,q _ (I1.hok.fresh (Nat.le_refl _))⟩
 ·rw [List.length_map,s1.length_eq]
  omega
 ·rw [he]
end
theorem qEA (A:Around):A.in1.units=A.units+1:=rfl
theorem qCF:∀ds es:List D,qMS ds es=((List.range (min ds.length es.length)).all (λj=>eqD (ds.getD j .non) (es.getD j .non))&&ds.length == es.length)
 | [],[]=>rfl
 | [],e::es=>by
  have h:(([]:List D).length == (e::es).length)=false:=rfl
  rw [h,Bool.and_false];rfl
 | d::ds,[]=>by
  have h:((d::ds).length == ([]:List D).length)=false:=rfl
  rw [h,Bool.and_false];rfl
 | d::ds,e::es=>by
  have h:=qCF ds es
  simp only [qMS,h,List.length_cons,Nat.succ_min_succ,List.range_succ_eq_map,List.all_cons,List.getD_cons_zero,List.all_map]
  have e2:((λj=>eqD ((d::ds).getD j .non) ((e::es).getD j .non)) ∘ Nat.succ)=λj=>eqD (ds.getD j .non) (es.getD j .non):=by funext j;simp
  rw [e2,Bool.and_assoc]
  congr 2
  simp
mutual
theorem qD1:∀d:D,eqD d d=true
 | .non=>by simp
 | .bl _=>by simp
 | .int _=>by simp
 | .str _=>by simp
 | .tup ds=>by simpa using qCi ds
 | .lst ds=>by simpa using qCi ds
 | .dct _ _=>by simp
 | .obj _ ds=>by simpa using qCi ds
 | .exc c=>by simp
theorem qCi:∀ds:List D,qMS ds ds=true
 | []=>by simp
 | d::ds=>by simp [qD1 d,qCi ds]
end
section
variable {X:Cx}{pins:List (Addr×Obj)}{σ:L2.St}{H:Hp}{s:Shared}{F:Fz}
theorem qOz {a:Addr}{xs ys:List V}(I:Inv X pins σ H s) (h:SqL X.K H a xs) (h':SqT X.K H a ys):False:=by
 obtain⟨its,_,p,_⟩:=I.list h
 obtain⟨its',_,p',_⟩:=I.tuple h'
 exact SeqAt.ne_of_list_tuple p.isList (show s.heap.IsTuple a its'.toArray from p') rfl
mutual
theorem RP.inj (I:Inv X pins σ H s):∀{d e:D}{v:V},RP X.K H F d v->RP X.K H F e v->d=e
 | .non,e,v,h,h'=>by
  have:=h.non;subst this
  cases e with
  | dct _ _=>exact absurd h' RP.noDct
  | obj _ _=>exact absurd h' RP.noObj
  | exc _=>exact absurd h' RP.noExc
  | non=>rfl
  | bl _=>exact absurd h'.bl (by simp)
  | int _=>exact absurd h'.int (by simp)
  | str _=>exact absurd h'.str (by simp)
  | tup _=>obtain⟨_,_,q,_⟩:=h'.tup;cases q
  | lst _=>obtain⟨_,_,q,_⟩:=h'.lst;cases q
 | .bl b,e,v,h,h'=>by
  have:=h.bl;subst this
  cases e with
  | dct _ _=>exact absurd h' RP.noDct
  | obj _ _=>exact absurd h' RP.noObj
  | exc _=>exact absurd h' RP.noExc
  | non=>exact absurd h'.non (by simp)
  | bl _=>have:=h'.bl;cases this;rfl
  | int _=>exact absurd h'.int (by simp)
  | str _=>exact absurd h'.str (by simp)
  | tup _=>obtain⟨_,_,q,_⟩:=h'.tup;cases q
  | lst _=>obtain⟨_,_,q,_⟩:=h'.lst;cases q
 | .int b,e,v,h,h'=>by
  have:=h.int;subst this
  cases e with
  | dct _ _=>exact absurd h' RP.noDct
  | obj _ _=>exact absurd h' RP.noObj
  | exc _=>exact absurd h' RP.noExc
  | non=>exact absurd h'.non (by simp)
  | bl _=>exact absurd h'.bl (by simp)
  | int _=>have:=h'.int;cases this;rfl
  | str _=>exact absurd h'.str (by simp)
  | tup _=>obtain⟨_,_,q,_⟩:=h'.tup;cases q
  | lst _=>obtain⟨_,_,q,_⟩:=h'.lst;cases q
 | .str b,e,v,h,h'=>by
  have:=h.str;subst this
  cases e with
  | dct _ _=>exact absurd h' RP.noDct
  | obj _ _=>exact absurd h' RP.noObj
  | exc _=>exact absurd h' RP.noExc
  | non=>exact absurd h'.non (by simp)
  | bl _=>exact absurd h'.bl (by simp)
  | int _=>exact absurd h'.int (by simp)
  | str _=>have:=h'.str;cases this;rfl
  | tup _=>obtain⟨_,_,q,_⟩:=h'.tup;cases q
  | lst _=>obtain⟨_,_,q,_⟩:=h'.lst;cases q
 | .tup ds,e,v,h,h'=>by
  obtain⟨a,vs,rfl,h1,h2⟩:=h.tup
  cases e with
  | dct _ _=>exact absurd h' RP.noDct
  | obj _ _=>exact absurd h' RP.noObj
  | exc _=>exact absurd h' RP.noExc
  | non=>exact absurd h'.non (by simp)
  | bl _=>exact absurd h'.bl (by simp)
  | int _=>exact absurd h'.int (by simp)
  | str _=>exact absurd h'.str (by simp)
  | tup es=>obtain⟨b,ws,q,h3,h4⟩:=h'.tup;cases q;rw [I.tuple_inj h3 h1] at h4;rw [RDs.inj I h2 h4]
  | lst _=>obtain⟨b,ws,q,h3,h4⟩:=h'.lst;cases q;exact (qOz I h3 h1).elim
 | .lst ds,e,v,h,h'=>by
  obtain⟨a,vs,rfl,h1,h2⟩:=h.lst
  cases e with
  | dct _ _=>exact absurd h' RP.noDct
  | obj _ _=>exact absurd h' RP.noObj
  | exc _=>exact absurd h' RP.noExc
  | non=>exact absurd h'.non (by simp)
  | bl _=>exact absurd h'.bl (by simp)
  | int _=>exact absurd h'.int (by simp)
  | str _=>exact absurd h'.str (by simp)
  | lst es=>obtain⟨b,ws,q,h3,h4⟩:=h'.lst;cases q;rw [I.list_inj h3 h1] at h4;rw [RDs.inj I h2 h4]
  | tup _=>obtain⟨b,ws,q,h3,h4⟩:=h'.tup;cases q;exact (qOz I h1 h3).elim
 | .dct _ _,e,v,h,h'=>absurd h RP.noDct
 | .obj _ _,e,v,h,h'=>absurd h RP.noObj
 | .exc _,e,v,h,h'=>absurd h RP.noExc
theorem RDs.inj (I:Inv X pins σ H s):∀{ds es:List D}{vs:List V},RDs X.K H F ds vs->RDs X.K H F es vs->ds=es
 | [],es,vs,h,h'=>by
  simp only [RDs] at h;subst h
  cases es with
  | nil=>rfl
  | cons _ _=>simp only [RDs] at h';obtain⟨_,_,q,_⟩:=h';cases q
 | d::ds,es,vs,h,h'=>by
  simp only [RDs] at h
  obtain⟨v,r,rfl,h1,h2⟩:=h
  cases es with
  | nil=>simp only [RDs] at h';cases h'
  | cons e es =>
   simp only [RDs] at h'
   obtain⟨v',r',q,h3,h4⟩:=h'
   cases q
   rw [RP.inj I (.inl h1) (.inl h3),RDs.inj I h2 h4]
end
theorem RDs.vals {ds:List D}{vs:List V}{us:List Value}(h:RDs X.K H F ds vs) (r:Vals vs us) (j:Nat) (hj:j<us.toArray.size) :
  ∃v,RD X.K H F (ds.getD j .non) v/\RelV v us.toArray[j]:=by
 have l1:=RDs.length h
 have l2:=r.length
 have hj':j<us.length:=by simpa using hj
 have hd:ds[j]?=some (ds.getD j .non):=by simp [List.getD,show j<ds.length by omega]
 obtain⟨v,e1,e2⟩:=RDs.get h hd
 obtain⟨u,e3,e4⟩:=r.get e1
 refine⟨v,e2,?_⟩
 have:us.toArray[j]=u:=by
  have:=List.getElem?_eq_some_iff.mp e3
  obtain⟨_,q⟩:=this
  simpa using q
 rw [this];exact e4
theorem qBQ:∀{n:Nat}{ds:List D}(j:Nat),qJo n ds=true->qDh n (ds.getD j .non)=true
 | n,[],j,_=>by cases n<;>simp [List.getD]
 | n,d::ds,0,h=>by simp at h;simpa using h.1
 | n,d::ds,j+1,h=>by simp at h;simpa using qBQ j h.2
noncomputable def VS (X:Cx) (H:Hp) (F:Fz) (s:Shared):D->Value->Prop
 | .non,u=>u=.none
 | .bl b,u=>u=.bool b
 | .int i,u=>∃t,u=.int i t
 | .str x,u=>∃t,u=.str x t
 | .tup ds,u=>∃a its vs,u=.ref a/\s.heap.IsTuple a its.toArray/\RDs X.K H F ds vs/\Vals vs its
 | .lst ds,u=>∃a its vs,u=.ref a/\s.heap.IsList a its.toArray/\RDs X.K H F ds vs/\Vals vs its
 | .dct _ _,_=>False
 | .obj _ _,_=>False
 | .exc _,_=>False
theorem qGM (I:Inv X pins σ H s):∀{d:D}{x:V}{u:Value},RP X.K H F d x->RelV x u->VS X H F s d u
 | .non,x,u,h,r=>by have:=h.non;subst this;exact r
 | .bl _,x,u,h,r=>by have:=h.bl;subst this;exact r
 | .int _,x,u,h,r=>by have:=h.int;subst this;exact r
 | .str _,x,u,h,r=>by have:=h.str;subst this;exact r
 | .tup ds,x,u,h,r=>by
  obtain⟨a,vs,rfl,h1,h2⟩:=h.tup
  obtain⟨its,rv,p,_⟩:=I.tuple h1
  exact⟨a,its,vs,r,p,h2,rv⟩
 | .lst ds,x,u,h,r=>by
  obtain⟨a,vs,rfl,h1,h2⟩:=h.lst
  obtain⟨its,rv,p,_⟩:=I.list h1
  exact⟨a,its,vs,r,p.isList,h2,rv⟩
 | .dct _ _,x,u,h,r=>absurd h RP.noDct
 | .obj _ _,x,u,h,r=>absurd h RP.noObj
 | .exc _,x,u,h,r=>absurd h RP.noExc
theorem qJ2 (I:Inv X pins σ H s):∀(n:Nat) (d e:D) (x y:V) (u v:Value) (A:Around),RP X.K H F d x->RP X.K H F e y->RelV x u->RelV y v->(qDh n d||qDh n e)=true->A.units+n<cLine ->
   SeqAt.EqAt A s u v (eqD d e)/\SeqAt.RcAt A s u v (eqD d e)/\SeqAt.RcNeAt A s u v (!eqD d e):=by
 intro n d e x y u v A hx hy ru rv hs hu
 have kx:=qGM I hx ru
 have ky:=qGM I hy rv
 have hA:A.units<cLine:=by omega
 cases d with
 | dct _ _=>exact absurd hx RP.noDct
 | obj _ _=>exact absurd hx RP.noObj
 | exc _=>exact absurd hx RP.noExc
 | non =>
  have kx:u=.none:=kx
  subst kx
  cases e with
  | dct _ _=>exact absurd hy RP.noDct
  | obj _ _=>exact absurd hy RP.noObj
  | exc _=>exact absurd hy RP.noExc
  | non=>have ky:v=.none:=ky;subst ky;exact⟨SeqAt.EqAt.same _,SeqAt.RcAt.none_none,SeqAt.RcNeAt.none_none⟩
  | bl b=>have ky:v=.bool b:=ky;subst ky;exact⟨SeqAt.EqAt.none_bool _,SeqAt.RcAt.none_bool _,SeqAt.RcNeAt.none_bool _⟩
  | int b=>obtain⟨t,rfl⟩:=ky;exact⟨SeqAt.EqAt.none_int _ _,SeqAt.RcAt.none_int _ _,SeqAt.RcNeAt.none_int _ _⟩
  | str b=>obtain⟨t,rfl⟩:=ky;exact⟨SeqAt.EqAt.none_str _ _,SeqAt.RcAt.none_str _ _,SeqAt.RcNeAt.none_str _ _⟩
  | tup es=>obtain⟨a,its,vs,rfl,p,_⟩:=ky;exact⟨SeqAt.EqAt.none_tuple p hA,SeqAt.RcAt.none_tuple p hA,SeqAt.RcNeAt.none_tuple p hA⟩
  | lst es=>obtain⟨a,its,vs,rfl,p,_⟩:=ky;exact⟨SeqAt.EqAt.none_list p hA,SeqAt.RcAt.none_list p hA,SeqAt.RcNeAt.none_list p hA⟩
 | bl c =>
  have kx:u=.bool c:=kx
  subst kx
  cases e with
  | dct _ _=>exact absurd hy RP.noDct
  | obj _ _=>exact absurd hy RP.noObj
  | exc _=>exact absurd hy RP.noExc
  | non=>have ky:v=.none:=ky;subst ky;exact⟨SeqAt.EqAt.bool_none _,SeqAt.RcAt.bool_none _,SeqAt.RcNeAt.bool_none _⟩
  | bl b=>have ky:v=.bool b:=ky;subst ky;exact⟨SeqAt.EqAt.bool_bool _ _,SeqAt.RcAt.bool_bool _ _,SeqAt.RcNeAt.bool_bool _ _⟩
  | int b=>obtain⟨t,rfl⟩:=ky;exact⟨SeqAt.EqAt.bool_int _ _ _,SeqAt.RcAt.bool_int _ _ _,SeqAt.RcNeAt.bool_int _ _ _⟩
  | str b=>obtain⟨t,rfl⟩:=ky;exact⟨SeqAt.EqAt.bool_str _ _ _,SeqAt.RcAt.bool_str _ _ _,SeqAt.RcNeAt.bool_str _ _ _⟩
  | tup es=>obtain⟨a,its,vs,rfl,p,_⟩:=ky;exact⟨SeqAt.EqAt.bool_tuple _ p hA,SeqAt.RcAt.bool_tuple _ p hA,SeqAt.RcNeAt.bool_tuple _ p hA⟩
  | lst es=>obtain⟨a,its,vs,rfl,p,_⟩:=ky;exact⟨SeqAt.EqAt.bool_list _ p hA,SeqAt.RcAt.bool_list _ p hA,SeqAt.RcNeAt.bool_list _ p hA⟩
 | int c =>
  obtain⟨tc,rfl⟩:=kx
  cases e with
  | dct _ _=>exact absurd hy RP.noDct
  | obj _ _=>exact absurd hy RP.noObj
  | exc _=>exact absurd hy RP.noExc
  | non=>have ky:v=.none:=ky;subst ky;exact⟨SeqAt.EqAt.int_none _ _,SeqAt.RcAt.int_none _ _,SeqAt.RcNeAt.int_none _ _⟩
  | bl b=>have ky:v=.bool b:=ky;subst ky;exact⟨SeqAt.EqAt.int_bool _ _ _,SeqAt.RcAt.int_bool _ _ _,SeqAt.RcNeAt.int_bool _ _ _⟩
  | int b=>obtain⟨t,rfl⟩:=ky;exact⟨SeqAt.EqAt.int_int _ _ _ _,SeqAt.RcAt.int_int _ _ _ _,SeqAt.RcNeAt.int_int _ _ _ _⟩
  | str b=>obtain⟨t,rfl⟩:=ky;exact⟨SeqAt.EqAt.int_str _ _ _ _,SeqAt.RcAt.int_str _ _ _ _,SeqAt.RcNeAt.int_str _ _ _ _⟩
  | tup es=>obtain⟨a,its,vs,rfl,p,_⟩:=ky;exact⟨SeqAt.EqAt.int_tuple _ _ p hA,SeqAt.RcAt.int_tuple _ _ p hA,SeqAt.RcNeAt.int_tuple _ _ p hA⟩
  | lst es=>obtain⟨a,its,vs,rfl,p,_⟩:=ky;exact⟨SeqAt.EqAt.int_list _ _ p hA,SeqAt.RcAt.int_list _ _ p hA,SeqAt.RcNeAt.int_list _ _ p hA⟩
 | str c =>
  obtain⟨tc,rfl⟩:=kx
  cases e with
  | dct _ _=>exact absurd hy RP.noDct
  | obj _ _=>exact absurd hy RP.noObj
  | exc _=>exact absurd hy RP.noExc
  | non=>have ky:v=.none:=ky;subst ky;exact⟨SeqAt.EqAt.str_none _ _,SeqAt.RcAt.str_none _ _,SeqAt.RcNeAt.str_none _ _⟩
  | bl b=>have ky:v=.bool b:=ky;subst ky;exact⟨SeqAt.EqAt.str_bool _ _ _,SeqAt.RcAt.str_bool _ _ _,SeqAt.RcNeAt.str_bool _ _ _⟩
  | int b=>obtain⟨t,rfl⟩:=ky;exact⟨SeqAt.EqAt.str_int _ _ _ _,SeqAt.RcAt.str_int _ _ _ _,SeqAt.RcNeAt.str_int _ _ _ _⟩
  | str b=>obtain⟨t,rfl⟩:=ky;exact⟨SeqAt.EqAt.str_str _ _ _ _,SeqAt.RcAt.str_str _ _ _ _,SeqAt.RcNeAt.str_str _ _ _ _⟩
  | tup es=>obtain⟨a,its,vs,rfl,p,_⟩:=ky;exact⟨SeqAt.EqAt.str_tuple _ _ p hA,SeqAt.RcAt.str_tuple _ _ p hA,SeqAt.RcNeAt.str_tuple _ _ p hA⟩
  | lst es=>obtain⟨a,its,vs,rfl,p,_⟩:=ky;exact⟨SeqAt.EqAt.str_list _ _ p hA,SeqAt.RcAt.str_list _ _ p hA,SeqAt.RcNeAt.str_list _ _ p hA⟩
 | tup ds =>
  obtain⟨a,its,vs,rfl,p,hd,hv⟩:=kx
  cases e with
  | dct _ _=>exact absurd hy RP.noDct
  | obj _ _=>exact absurd hy RP.noObj
  | exc _=>exact absurd hy RP.noExc
  | non=>have ky:v=.none:=ky;subst ky;exact⟨SeqAt.EqAt.tuple_none p hA,SeqAt.RcAt.tuple_none p hA,SeqAt.RcNeAt.tuple_none p hA⟩
  | bl b=>have ky:v=.bool b:=ky;subst ky;exact⟨SeqAt.EqAt.tuple_bool _ p hA,SeqAt.RcAt.tuple_bool _ p hA,SeqAt.RcNeAt.tuple_bool _ p hA⟩
  | int b=>obtain⟨t,rfl⟩:=ky;exact⟨SeqAt.EqAt.tuple_int _ _ p hA,SeqAt.RcAt.tuple_int _ _ p hA,SeqAt.RcNeAt.tuple_int _ _ p hA⟩
  | str b=>obtain⟨t,rfl⟩:=ky;exact⟨SeqAt.EqAt.tuple_str _ _ p hA,SeqAt.RcAt.tuple_str _ _ p hA,SeqAt.RcNeAt.tuple_str _ _ p hA⟩
  | tup es =>
   obtain⟨b,its2,vs2,rfl,p2,hd2,hv2⟩:=ky
   cases n with
   | zero=>simp at hs
   | succ n =>
    have l1:=RDs.length hd
    have l2:=RDs.length hd2
    have l3:=hv.length
    have l4:=hv2.length
    have hj:∀j (h1:j<its.toArray.size) (h2:j<its2.toArray.size),SeqAt.EqAt A.in1 s its.toArray[j] its2.toArray[j] (eqD (ds.getD j .non) (es.getD j .non)):=λj h1 h2=>by
     obtain⟨v1,q1,q2⟩:=RDs.vals hd hv j h1
     obtain⟨v2,q3,q4⟩:=RDs.vals hd2 hv2 j h2
     refine (qJ2 I n _ _ v1 v2 _ _ A.in1 (.inl q1) (.inl q3) q2 q4 ?_ (by rw [qEA];omega)).1
     simp only [qDh,Bool.or_eq_true] at hs ⊢
     exact hs.imp (λz=>qBQ j z) (λz=>qBQ j z)
    have e1:((List.range (min its.toArray.size its2.toArray.size)).all (λj=>eqD (ds.getD j .non) (es.getD j .non))&&its.toArray.size == its2.toArray.size)=eqD (.tup ds) (.tup es):=by
     simp only [eqD,qCF,List.size_toArray,<-l3,<-l4,l1,l2]
    have r1:=SeqAt.RcAt.tuples p p2 hA hj
    have r2:=SeqAt.RcNeAt.tuples p p2 hA hj
    rw [e1] at r1 r2
    refine⟨?_,r1,r2⟩
    by_cases hab:a=b
    ·subst hab
     have:D.tup ds=D.tup es:=by
      cases ru':x with
      | ref a' =>
       cases ry':y with
       | ref b' =>
        subst ru' ry'
        have z1:Value.ref a=Value.ref a':=ru
        have z2:Value.ref a=Value.ref b':=rv
        cases z1;cases z2
        exact RP.inj I hx hy
       | _=>subst ry';obtain⟨_,_,q,_⟩:=hy.tup;cases q
      | _=>subst ru';obtain⟨_,_,q,_⟩:=hx.tup;cases q
     rw [this,qD1]
     exact SeqAt.EqAt.same _
    ·exact SeqAt.EqAt.of_refs hab r1
  | lst es=>obtain⟨b,its2,vs2,rfl,p2,_⟩:=ky;exact⟨SeqAt.EqAt.tuple_list p p2 hA,SeqAt.RcAt.tuple_list p p2 hA,SeqAt.RcNeAt.tuple_list p p2 hA⟩
 | lst ds =>
  obtain⟨a,its,vs,rfl,p,hd,hv⟩:=kx
  cases e with
  | dct _ _=>exact absurd hy RP.noDct
  | obj _ _=>exact absurd hy RP.noObj
  | exc _=>exact absurd hy RP.noExc
  | non=>have ky:v=.none:=ky;subst ky;exact⟨SeqAt.EqAt.list_none p hA,SeqAt.RcAt.list_none p hA,SeqAt.RcNeAt.list_none p hA⟩
  | bl b=>have ky:v=.bool b:=ky;subst ky;exact⟨SeqAt.EqAt.list_bool _ p hA,SeqAt.RcAt.list_bool _ p hA,SeqAt.RcNeAt.list_bool _ p hA⟩
  | int b=>obtain⟨t,rfl⟩:=ky;exact⟨SeqAt.EqAt.list_int _ _ p hA,SeqAt.RcAt.list_int _ _ p hA,SeqAt.RcNeAt.list_int _ _ p hA⟩
  | str b=>obtain⟨t,rfl⟩:=ky;exact⟨SeqAt.EqAt.list_str _ _ p hA,SeqAt.RcAt.list_str _ _ p hA,SeqAt.RcNeAt.list_str _ _ p hA⟩
  | tup es=>obtain⟨b,its2,vs2,rfl,p2,_⟩:=ky;exact⟨SeqAt.EqAt.list_tuple p p2 hA,SeqAt.RcAt.list_tuple p p2 hA,SeqAt.RcNeAt.list_tuple p p2 hA⟩
  | lst es =>
   obtain⟨b,its2,vs2,rfl,p2,hd2,hv2⟩:=ky
   cases n with
   | zero=>simp at hs
   | succ n =>
    have l1:=RDs.length hd
    have l2:=RDs.length hd2
    have l3:=hv.length
    have l4:=hv2.length
    have hj:∀j (h1:j<its.toArray.size) (h2:j<its2.toArray.size),SeqAt.EqAt A.in1 s its.toArray[j] its2.toArray[j] (eqD (ds.getD j .non) (es.getD j .non)):=λj h1 h2=>by
     obtain⟨v1,q1,q2⟩:=RDs.vals hd hv j h1
     obtain⟨v2,q3,q4⟩:=RDs.vals hd2 hv2 j h2
     refine (qJ2 I n _ _ v1 v2 _ _ A.in1 (.inl q1) (.inl q3) q2 q4 ?_ (by rw [qEA];omega)).1
     simp only [qDh,Bool.or_eq_true] at hs ⊢
     exact hs.imp (λz=>qBQ j z) (λz=>qBQ j z)
    have both:SeqAt.RcAt A s (.ref a) (.ref b) (eqD (.lst ds) (.lst es))/\SeqAt.RcNeAt A s (.ref a) (.ref b) (!eqD (.lst ds) (.lst es)):=by
     by_cases hsz:its.toArray.size=its2.toArray.size
     ·have e1:(List.range its.toArray.size).all (λj=>eqD (ds.getD j .non) (es.getD j .non))=eqD (.lst ds) (.lst es):=by
       have hl:ds.length=es.length:=by simp only [List.size_toArray] at hsz;omega
       have hm:its.toArray.size=min ds.length es.length:=by simp only [List.size_toArray];omega
       simp only [eqD,qCF,hm,hl,beq_self_eq_true,Bool.and_true]
      have r1:=SeqAt.RcAt.lists p p2 hsz hA hj
      have r2:=SeqAt.RcNeAt.lists p p2 hsz hA hj
      rw [e1] at r1 r2
      exact⟨r1,r2⟩
     ·have hb:(its.toArray.size != its2.toArray.size)=true:=by simpa using hsz
      have e1:eqD (.lst ds) (.lst es)=false:=by
       have hl:(ds.length == es.length)=false:=by
        simp only [List.size_toArray] at hsz
        rw [beq_eq_false_iff_ne];omega
       simp only [eqD,qCF,hl,Bool.and_false]
      rw [e1]
      exact⟨SeqAt.RcAt.lists_lengths p p2 hb hA,SeqAt.RcNeAt.lists_lengths p p2 hb hA⟩
    refine⟨?_,both⟩
    by_cases hab:a=b
    ·subst hab
     have:D.lst ds=D.lst es:=by
      cases ru':x with
      | ref a' =>
       cases ry':y with
       | ref b' =>
        subst ru' ry'
        have z1:Value.ref a=Value.ref a':=ru
        have z2:Value.ref a=Value.ref b':=rv
        cases z1;cases z2
        exact RP.inj I hx hy
       | _=>subst ry';obtain⟨_,_,q,_⟩:=hy.lst;cases q
      | _=>subst ru';obtain⟨_,_,q,_⟩:=hx.lst;cases q
     rw [this,qD1]
     exact SeqAt.EqAt.same _
    ·exact SeqAt.EqAt.of_refs hab both.1
end
end Dw
namespace Dw
open PySem PySem.Spec PyProof.Rows L2
section
variable {prog:Program}{w:World}{A:Around}{R:Result->Shared->Prop}{I:Addr}{fp wr:List Addr}{n:Nat}{P:Nat->Value->Prop}{St:Nat->Heap->Prop}
noncomputable def qQV (prog:Program) (w:World) (A:Around) (h0:Heap) (P:Nat->Value->Prop) (bt:Nat->Nat->Bool):Prop:=
 ∀i j vi vj (s:Shared) (Q:Value->Shared->Prop) (E:Value->Shared->Prop),(∀b o,h0.get? b=some o->s.heap.get? b=some o)->P i vi->P j vj->Q (.bool (bt i j)) s->wpAny (model prog w) A (richCompare .Lt vi vj) Q E s
theorem qMw {h0:Heap}(W:Walks prog w A.in1 I fp wr n P St) (bt:Nat->Nat->Bool) (hcmp:qQV prog w A.in1 h0 P bt) (S:Addr) (hSf:S∉fp) (hout:∀b o,h0.get? b=some o->b∉wr/\b≠S) :
  ∀(k j:Nat) (s:Shared) (vb:Value) (c:Nat),n - (j+1)=k->j+1<=n->St (j+1) s.heap->P (argBest bt j) vb->(∀b o,h0.get? b=some o->s.heap.get? b=some o) ->
  s.heap.get? S=some { cls:=.type "list",dict:=none,data:=.seq #[vb,vb] c,slots:=#[] } ->
  (∀v h' tk,P (argBest bt (n - 1)) v->(∀b o,b∉wr->b≠S->s.heap.get? b=some o->h'.get? b=some o)->R (.ok (.ret v)) { s with heap:=h',toks:=tk }) ->
  codeAny (model prog w) A (.builtin "min.loop" ⟨[.ref I,.none,.ref S],[]⟩) R s:=by
 have hSw:S∉wr:=λh=>hSf (W.sub _ h)
 have hname:(toString "min"++toString ".loop":String)="min.loop":=by decide
 intro k
 induction k with
 | zero =>
  intro j s vb c hk hj hst hPb h00 hS hR
  have hin:j+1=n:=by omega
  refine codeAny_builtin F.entry_min_loop ?_
  rw [Around.under_plainId F.plain_min_loop _]
  show wpAny _ A.in1 (seqItems? (.ref S) >>= _) _ _ s
  refine wpAny_bind (wpAny_seqItems hS rfl ?_)
  show wpAny _ A.in1 (tryCatch (pyNext (.ref I)) _ >>= _) _ _ s
  refine wpAny_bind (wpAny_tryCatch (W.done s _ _ (hin▸hst) λh' tk hk'=>?_))
  have hS':=hk' S _ hSw hS
  show wpAny _ A.in1 (updateSeq S (λ_=>#[]) >>= _) _ _ _
  refine wpAny_bind ?_
  refine wpAny_updateSeq hS' rfl (wpAny_bind (wpAny_letGo (wpAny_pure ?_)))
  exact hR vb _ tk (by rw [<-hin];exact hPb) λb o hbw hbS e=>(Heap.get?_update_other _ _ (Ne.symm hbS)).trans (hk' b o hbw e)
 | succ k ih =>
  intro j s vb c hk hj hst hPb h00 hS hR
  have hlt:j+1<n:=by omega
  refine codeAny_builtin F.entry_min_loop ?_
  rw [Around.under_plainId F.plain_min_loop _]
  show wpAny _ A.in1 (seqItems? (.ref S) >>= _) _ _ s
  refine wpAny_bind (wpAny_seqItems hS rfl ?_)
  show wpAny _ A.in1 (tryCatch (pyNext (.ref I)) _ >>= _) _ _ s
  refine wpAny_bind (wpAny_tryCatch (W.item (j+1) s _ _ hlt hst λv h' tk hP hst' hk'=>?_))
  have hS':=hk' S _ hSw hS
  have h01:∀b o,h0.get? b=some o->h'.get? b=some o:=λb o e=>hk' b o (hout b o e).1 (h00 b o e)
  show wpAny _ A.in1 (tryCatch (holding [v,v] (richCompare .Lt v vb >>= _)) _ >>= _) _ _ _
  refine wpAny_bind (wpAny_tryCatch (wpAny_holding (wpAny_bind (hcmp (j+1) (argBest bt j) v vb _ _ _ h01 hP hPb ?_))))
  refine wpAny_bind (wpAny_holding (wpAny_truthy_bool ?_))
  refine wpAny_bind (wpAny_letGo (wpAny_pure ?_))
  cases hb:bt (j+1) (argBest bt j) with
  | true =>
   simp only [if_true]
   refine wpAny_bind ?_
   refine wpAny_updateSeq hS' rfl (wpAny_bind (wpAny_letGo ?_))
   rw [hname]
   refine wpAny_pure ⟨plainId_quiet F.plain_min_loop _,ih (j+1) _ v _ (by omega) hlt (W.frame _ _ _ hst' λb hbf o e=>?_) (by simp only [argBest,hb,if_true];exact hP)
    (λb o e=>(Heap.get?_update_other _ _ (Ne.symm (hout b o e).2)).trans (h01 b o e)) (Heap.get?_update_self _ hS' rfl) λv' h'' tk'' hP' hk''=>?_⟩
   ·exact (Heap.get?_update_other _ _ (λh:S=b=>hSf (by rw [h];exact hbf))).trans e
   ·exact hR v' h'' tk'' hP' λb o hbw hbS e=>hk'' b o hbw hbS ((Heap.get?_update_other _ _ (Ne.symm hbS)).trans (hk' b o hbw e))
  | false =>
   simp only [Bool.false_eq_true,if_false]
   refine wpAny_bind (wpAny_letGo ?_)
   rw [hname]
   refine wpAny_pure ⟨plainId_quiet F.plain_min_loop _,ih (j+1) _ vb c (by omega) hlt hst' (by simp only [argBest,hb,Bool.false_eq_true,if_false];exact hPb) h01 hS' λv' h'' tk'' hP' hk''=>?_⟩
   exact hR v' h'' tk'' hP' λb o hbw hbS e=>hk'' b o hbw hbS (hk' b o hbw e)
end
section
variable {prog:Program}{w:World}{A:Around}{E:Value->Shared->Prop}{s:Shared}
theorem qJN {R:Result->Shared->Prop}{I:Addr}{fp wr:List Addr}{n:Nat}{P:Nat->Value->Prop}{St:Nat->Heap->Prop}{h0:Heap}(W:Walks prog w A.in1 I fp wr n P St) (bt:Nat->Nat->Bool) (hcmp:qQV prog w A.in1 h0 P bt) (S:Addr) (hSf:S∉fp) (hout:∀b o,h0.get? b=some o->b∉wr/\b≠S) (hn:0<n) {c:Nat}(hst:St 0 s.heap) (h00:∀b o,h0.get? b=some o->s.heap.get? b=some o)
  (hS:s.heap.get? S=some { cls:=.type "list",dict:=none,data:=.seq #[] c,slots:=#[] })
  (hR:∀v h' tk,P (argBest bt (n - 1)) v->(∀b o,b∉wr->b≠S->s.heap.get? b=some o->h'.get? b=some o)->R (.ok (.ret v)) { s with heap:=h',toks:=tk }) :
  codeAny (model prog w) A (.builtin "min.loop" ⟨[.ref I,.none,.ref S],[]⟩) R s:=by
 have hSw:S∉wr:=λh=>hSf (W.sub _ h)
 have hname:(toString "min"++toString ".loop":String)="min.loop":=by decide
 refine codeAny_builtin F.entry_min_loop ?_
 rw [Around.under_plainId F.plain_min_loop _]
 show wpAny _ A.in1 (seqItems? (.ref S) >>= _) _ _ s
 refine wpAny_bind (wpAny_seqItems hS rfl ?_)
 show wpAny _ A.in1 (tryCatch (pyNext (.ref I)) _ >>= _) _ _ s
 refine wpAny_bind (wpAny_tryCatch (W.item 0 s _ _ hn hst λv h' tk hP hst' hk'=>?_))
 have hS':=hk' S _ hSw hS
 have h01:∀b o,h0.get? b=some o->h'.get? b=some o:=λb o e=>hk' b o (hout b o e).1 (h00 b o e)
 show wpAny _ A.in1 (updateSeq S (λ_=>#[v,v]) >>= _) _ _ _
 refine wpAny_bind ?_
 refine wpAny_updateSeq hS' rfl ?_
 rw [hname]
 refine wpAny_pure ⟨plainId_quiet F.plain_min_loop _,qMw W bt hcmp S hSf hout _ 0 _ v _ rfl hn (W.frame _ _ _ hst' λb hbf o e=>?_) hP (λb o e=>(Heap.get?_update_other _ _ (Ne.symm (hout b o e).2)).trans (h01 b o e)) (Heap.get?_update_self _ hS' rfl) λv' h'' tk'' hP' hk''=>?_⟩
 ·exact (Heap.get?_update_other _ _ (λh:S=b=>hSf (by rw [h];exact hbf))).trans e
 ·exact hR v' h'' tk'' hP' λb o hbw hbS e=>hk'' b o hbw hbS ((Heap.get?_update_other _ _ (Ne.symm hbS)).trans (hk' b o hbw e))
theorem qMx {l:Addr}{items:Array Value}{bt:Nat->Nat->Bool}{Q:Value->Shared->Prop}(hh:A.handled=none) (hl:s.heap.IsList l items) (hn:0<items.size) (hcmp:qQV prog w A.in1 s.heap (λi v=>items[i]?=some v) bt)
  (h:∀v h' tk,items[argBest bt (items.size - 1)]?=some v->(∀b o,s.heap.get? b=some o->h'.get? b=some o)->Q v { s with heap:=h',toks:=tk }) :
  wpAny (model prog w) A (call (.builtin "min") [.ref l]) Q E s:=by
 have hname:(toString "min"++toString ".loop":String)="min.loop":=by decide
 refine call_function_tree F.kind_min F.plain_min F.entry_min (F.args_min1 _) ?_
 show wpAny _ A.in1 (Builtin.Builtins.bindParams "min" ["key","default"] 0 ⟨[],[]⟩ >>= _) _ _ s
 refine wpAny_bind (wpAny_of_eq (show Builtin.Builtins.bindParams "min" ["key","default"] 0 ⟨[],[]⟩=pure [none,none] from rfl) ?_)
 refine wpAny_bind (wpAny_pure ?_)
 refine wpAny_bind (wpAny_pyIter_list hl ?_)
 obtain⟨ol,hol,hcl⟩:=id hl
 have ltl:l<s.heap.objs.size:=Heap.lt_size hol
 have lts:s.heap.objs.size<(s.heap.push { cls:=.type "list_iterator",data:=.fields #[.ref l,.int 0 0] }).objs.size:=by rw [Heap.size_push];exact Nat.lt_succ_self _
 have W:Walks prog w A.in1 s.heap.objs.size [s.heap.objs.size,l] [s.heap.objs.size] items.size (λi v=>items[i]?=some v) (λi h=>h.IsListIter s.heap.objs.size l i/\h.IsList l items):=Walks.list (A:=A.in1) hh _ l (Nat.ne_of_lt ltl) items
 have out:∀b o,s.heap.get? b=some o->b∉[s.heap.objs.size]/\b≠(s.heap.push { cls:=.type "list_iterator",data:=.fields #[.ref l,.int 0 0] }).objs.size:=λb o e =>
  ⟨λq=>Nat.ne_of_lt (Heap.lt_size e) (List.mem_singleton.mp q),Nat.ne_of_lt (Nat.lt_trans (Heap.lt_size e) lts)⟩
 have hSf:(s.heap.push { cls:=.type "list_iterator",data:=.fields #[.ref l,.int 0 0] }).objs.size∉[s.heap.objs.size,l]:=λq=>by
  rcases List.mem_cons.mp q with q|q
  ·exact Nat.ne_of_gt lts q
  ·exact Nat.ne_of_gt (Nat.lt_trans ltl lts) (List.mem_singleton.mp q)
 refine wpAny_bind (wpAny_newObj_type ?_)
 rw [hname]
 refine wpAny_pure ⟨plainId_quiet F.plain_min_loop _,qJN W bt hcmp _ hSf out hn ⟨⟨_,Heap.get?_push_of_some _ (Heap.get?_push_size _ rfl),rfl,rfl⟩,hl.at λo e=>Heap.get?_push_of_some _ (Heap.get?_push_of_some _ e)⟩ (λb o e=>Heap.get?_push_of_some _ (Heap.get?_push_of_some _ e)) (Heap.get?_push_size _ rfl) λv h' tk hP hk=>?_⟩
 exact h v h' tk hP λb o e=>hk b o (out b o e).1 (out b o e).2 (Heap.get?_push_of_some _ (Heap.get?_push_of_some _ e))
end
theorem qKI:∀(a b:List Int),lxL a b=HT.lexLt a b
 | [],[]=>rfl
 | [],_::_=>rfl
 | _::_,[]=>rfl
 | x::xs,y::ys=>by rw [lxL,HT.lexLt_cons,qKI xs ys]
theorem qIK (t:List Int) (r:List (List Int)):∀j,j<=r.length ->
  ((t::r)[argBest (λi j=>lxL ((t::r).getD i []) ((t::r).getD j [])) j]?=some ((r.take j).foldl (λm x=>if lxL x m then x else m) t)):=by
 intro j
 induction j with
 | zero=>intro _;rfl
 | succ j ih =>
  intro hj
  have h1:=ih (by omega)
  have h2:(t::r)[j+1]?=some (r[j]'(by omega)):=by simp
  have e1:(t::r).getD (argBest (λi j=>lxL ((t::r).getD i []) ((t::r).getD j [])) j) []=(r.take j).foldl (λm x=>if lxL x m then x else m) t:=by rw [List.getD_eq_getElem?_getD,h1];rfl
  have e2:(t::r).getD (j+1) []=r[j]'(by omega):=by rw [List.getD_eq_getElem?_getD,h2];rfl
  have e3:r.take (j+1)=r.take j++[r[j]'(by omega)]:=by rw [List.take_succ];simp [List.getElem?_eq_getElem (show j<r.length by omega)]
  rw [e3,List.foldl_append]
  simp only [List.foldl_cons,List.foldl_nil]
  rw [argBest]
  rw [show lxL ((t::r).getD (j+1) []) ((t::r).getD (argBest (λi j=>lxL ((t::r).getD i []) ((t::r).getD j [])) j) [])=lxL (r[j]'(by omega)) ((r.take j).foldl (λm x=>if lxL x m then x else m) t) by rw [e1,e2]]
  cases lxL (r[j]'(by omega)) ((r.take j).foldl (λm x=>if lxL x m then x else m) t) with
  | true=>simp only [if_true];exact h2
  | false=>simp only [Bool.false_eq_true,if_false];exact h1
theorem qOx {ts:List (List Int)}{m:List Int}(h:mnT ts=some m):ts[argBest (λi j=>lxL (ts.getD i []) (ts.getD j [])) (ts.length - 1)]?=some m:=by
 cases ts with
 | nil=>cases h
 | cons t r =>
  cases h
  have:=qIK t r r.length (Nat.le_refl _)
  rw [List.take_length] at this
  exact this
section
variable {X:Cx}
theorem qIv (hc:X.calm=true) (hu:X.A.units+20<cLine):CallR X (.builtin "min") (λxs H Q=>∃(p:Addr) (vs:List V) (ts:List (List Int)) (m:List Int),xs=[.ref p]/\SqL X.K H p vs/\vs.length=ts.length /\
  (∀(i:Nat) (is:List Int),ts[i]?=some is->∃a:Addr,vs[i]?=some (V.ref a)/\SqT X.K H a (is.map V.int))/\mnT ts=some m/\∀(i:Nat) (v:V),vs[i]?=some v->ts[i]?=some m->Q v H):=by
 intro pins s σ H xs us Q I r h
 obtain⟨p,vs,ts,m,rfl,hq,hlen,ht,hm,q⟩:=h
 obtain⟨u,rfl,ru⟩:=qB1 r
 cases ru
 obtain⟨its,rv,pl,z⟩:=I.list hq
 have hl:s.heap.IsList p its.toArray:=pl.isList
 have l1:=rv.length
 have hpos:0<ts.length:=by cases ts with|nil=>cases hm|cons _ _=>simp
 have hsz:its.toArray.size=ts.length:=by simp;omega
 have tup:∀i v,its.toArray[i]?=some v->∃a items is,v=.ref a/\IsTup s.heap a items/\IntsAre items.toList is/\ts.getD i []=is:=λi v hv=>by
  have hi:i<ts.length:=by
   have:=(Array.getElem?_eq_some_iff.mp hv).1
   omega
  obtain⟨a,e1,e2⟩:=ht i ts[i] (List.getElem?_eq_getElem hi)
  obtain⟨u,hu1,ru⟩:=rv.get e1
  have:its[i]?=some v:=by simpa using hv
  rw [this] at hu1
  cases hu1
  cases ru
  obtain⟨t1,v1,p1,_⟩:=I.tuple e2
  obtain⟨ps,hp1,hp2⟩:=qBy v1
  refine⟨a,t1.toArray,ts[i],rfl,p1,?_,by simp [List.getElem?_eq_getElem hi]⟩
  rw [<-hp2]
  have key:∀ps:List (Int×Tok),IntsAre (ps.map λp=>Value.int p.1 p.2) (ps.map (·.1)):=λps=>by
   induction ps with
   | nil=>exact .nil
   | cons x r ih=>exact .cons _ _ ih
  rw [hp1]
  exact key ps
 refine qMx (bt:=λi j=>lxL (ts.getD i []) (ts.getD j [])) (I.ok.hd hc) hl (by omega) ?_ λv h' tk hv hk=>?_
 ·intro i j vi vj s' Q' E' keep hi hj hQ
  obtain⟨a,t1,is,rfl,p1,n1,g1⟩:=tup i vi hi
  obtain⟨b,t2,js,rfl,p2,n2,g2⟩:=tup j vj hj
  have hQ:Q' (.bool (lxL (ts.getD i []) (ts.getD j []))) s':=hQ
  rw [g1,g2,qKI] at hQ
  have k1:IsTup s'.heap a t1:=by obtain⟨o,e,r⟩:=p1;exact⟨o,keep _ _ e,r⟩
  have k2:IsTup s'.heap b t2:=by obtain⟨o,e,r⟩:=p2;exact⟨o,keep _ _ e,r⟩
  exact HT.lt_tupInts k1 k2 n1 n2 (by show X.A.units+1<cLine;omega) hQ
 ·rw [hsz] at hv
  have hb:=qOx hm
  have hv':its[argBest (λi j=>lxL (ts.getD i []) (ts.getD j [])) (ts.length - 1)]?=some v:=by simpa using hv
  generalize argBest (λi j=>lxL (ts.getD i []) (ts.getD j [])) (ts.length - 1)=k at hb hv'
  obtain⟨a,e1,e2⟩:=ht k m hb
  obtain⟨u,hu1,ru⟩:=rv.get e1
  rw [hv'] at hu1
  cases hu1
  exact⟨_,H,I.kept hk,ru,q k _ e1 hb⟩
end
end Dw
namespace Dw
section
open PySem PySem.W PySem.Calls PyProof.Rows
variable {prog:Program}{w:World}{A:Around}{E:Value->Shared->Prop}{s:Shared}
noncomputable def Sme (v:Value):Prop:=(v == v)=true
theorem qMR {v:Value}{Q:Bool->Shared->Prop}(hv:Sme v) (h:Q true s):wpAny (model prog w) A (eqBool v v) Q E s:=by
 unfold eqBool
 refine wpAny_holding ?_
 rw [if_pos (show (v == v)=true from hv)]
 exact wpAny_bind (wpAny_rule (wpAny_pure h))
noncomputable def HdAt (h:Heap) (v:Value) (i:Int):Prop:=∃x o n t r,v=.ref x/\h.get? x=some o/\o.cls=.type "tuple"/\o.data=.seq (Value.int i t::r).toArray n/\∀y∈r,Sme y
theorem HdAt.mv {h h':Heap}{v:Value}{i:Int}(x:HdAt h v i) (k:∀a o,v=.ref a->h.get? a=some o->h'.get? a=some o):HdAt h' v i:=
 let ⟨a,o,n,t,r,e,h1,h2⟩:=x;⟨a,o,n,t,r,e,k a o e h1,h2⟩
theorem qFP {Q:Bool->Shared->Prop}:∀(r:List Value) (i:Nat),(∀y∈r,Sme y)->Q false s->KatLex prog w A true false Q (r.zip r) i s
 | [],i,_,h=>kat_nil h
 | y::r,i,hr,h=>kat_cons (qMR (hr y List.mem_cons_self) (kat_yes (qFP r (i+1) (λz hz=>hr z (List.mem_cons_of_mem _ hz)) h)))
theorem qQs {v z:Value}{p q:Int}{Q:Bool->Shared->Prop}(hv:HdAt s.heap v p) (hz:HdAt s.heap z q) (hpq:p≠q∨v=z) (h:Q (decide (p<q)) s):wpAny (model prog w) A (keyLt' (tuples' true) v z) Q E s:=by
 obtain⟨x,o,n,t,r,rfl,x1,x2,x3,x4⟩:=hv
 obtain⟨y,o',n',t',r',rfl,y1,y2,y3,y4⟩:=hz
 refine kat_lt x1 x3 y1 y3 ?_
 by_cases e:p=q
 ·subst e
  rcases hpq with hpq|hpq
  ·exact absurd rfl hpq
  ·cases hpq
   rw [x1] at y1
   cases y1
   rw [x3] at y3
   injection y3 with y3 _
   have y5:=congrArg Array.toList y3
   simp only [List.toList_toArray] at y5
   injection y5 with y5 y6
   cases y5
   subst y6
   rw [decide_eq_false (Int.lt_irrefl p)] at h
   rw [decide_eq_false (Nat.lt_irrefl _)]
   show KatLex prog w A true _ Q ((Value.int p t,Value.int p t)::r.zip r) 0 s
   refine kat_cons (wpAny_eqBool_int ?_)
   rw [beq_self_eq_true]
   exact kat_yes (qFP r _ x4 h)
 ·show KatLex prog w A true _ Q ((Value.int p t,Value.int q t')::r.zip r') 0 s
  refine kat_cons (wpAny_eqBool_int ?_)
  rw [show (p == q)=false from beq_eq_false_iff_ne.mpr e]
  exact kat_no (oneLt_int h)
noncomputable def AllH (h:Heap):List Value->List Int->Prop
 | [],[]=>True
 | v::vs,p::ps=>HdAt h v p/\AllH h vs ps
 | _,_=>False
theorem AllH.len {h:Heap}:∀{vs:List Value}{ps:List Int},AllH h vs ps->vs.length=ps.length
 | [],[],_=>rfl
 | _::_,_::_,x=>congrArg (·+1) x.2.len
theorem AllH.at {h:Heap}:∀{vs:List Value}{ps:List Int},AllH h vs ps->∀i,i<vs.length->HdAt h (vs.getD i .none) (ps.getD i 0)
 | [],[],_,i,hi=>absurd hi (Nat.not_lt_zero _)
 | _::_,_::_,x,0,_=>x.1
 | _::vs,_::ps,x,i+1,hi=>AllH.at (vs:=vs) (ps:=ps) x.2 i (Nat.lt_of_succ_lt_succ hi)
theorem AllH.mv {h h':Heap}:∀{vs:List Value}{ps:List Int},AllH h vs ps->(∀v∈vs,∀a o,v=.ref a->h.get? a=some o->h'.get? a=some o)->AllH h' vs ps
 | [],[],_,_=>trivial
 | v::_,_::_,x,k=>⟨x.1.mv (k v List.mem_cons_self),AllH.mv x.2 λv hv=>k v (List.mem_cons_of_mem _ hv)⟩
theorem AllH.tups {h:Heap}:∀{vs:List Value}{ps:List Int},AllH h vs ps->∃fs:List Value,KatTups h vs fs/\fs.length=ps.length/\∀v∈fs,∃i t,v=.int i t
 | [],[],_=>⟨[],trivial,rfl,λ_ h=>nomatch h⟩
 | _::vs,p::ps,x=>by
  obtain⟨fs,h1,h2,h3⟩:=AllH.tups (vs:=vs) (ps:=ps) x.2
  obtain⟨a,o,n,t,r,rfl,e1,e2,e3,_⟩:=x.1
  refine⟨.int p t::fs,KatTups.cons e1 e2 e3 rfl h1,congrArg (·+1) h2,λv hv=>?_⟩
  rcases List.mem_cons.mp hv with rfl|hv
  ·exact⟨_,_,rfl⟩
  ·exact h3 v hv
theorem qGw {vs:List Value}{ps:List Int}{Q:SortKind->Shared->Prop}(h:AllH s.heap vs ps) (h0:0<vs.length) (k:Q (tuples' true) s):wpAny (model prog w) A (keyKind' vs.toArray) Q E s:=by
 obtain⟨fs,h1,h2,h3⟩:=h.tups
 refine kat_kind (T:=.type "int") h1 (by rw [h2,<-h.len];exact h0) (λv hv=>?_) (by decide) k
 obtain⟨i,t,rfl⟩:=h3 v hv
 exact Looks.of_pure rfl
theorem qJf {a:Addr}{vs:List Value}{n:Nat}{P:PySem.Fin->Shared->Prop}(ho:s.heap.get? a=some (seqObj "list" vs.toArray n)) (h2:vs.length<2)
  (k:∀h' m,(∀b o,b≠a->s.heap.get? b=some o->h'.get? b=some o)->h'.get? a=some (seqObj "list" vs.toArray m)->P (.done (.ret .none)) { s with heap:=h' }) :
  wpAny (model prog w) A (Builtin.«list.sort» ⟨[.ref a],[]⟩) P E s:=by
 have s1:=Heap.SameBut.update s.heap a (Obj.mapSeq λ_=>(#[]:Array Value))
 obtain⟨e1,ho1⟩:∃e1,(s.heap.update a (Obj.mapSeq λ_=>(#[]:Array Value))).get? a=some (seqObj "list" #[] e1):=⟨_,get?_update_seq ho λ_=>#[]⟩
 generalize hH:((s.heap.update a (Obj.mapSeq λ_=>(#[]:Array Value))).push (seqObj "tuple" vs.toArray 0)).push (seqObj "list" #[] 0)=H3
 have kp:∀b o,b≠a->s.heap.get? b=some o->H3.get? b=some o:=λb o hb e=>by
  rw [<-hH];exact Heap.get?_push_of_some _ (Heap.get?_push_of_some _ (s1.extBut b o hb e))
 have ha3:H3.get? a=some (seqObj "list" #[] e1):=by rw [<-hH];exact Heap.get?_push_of_some _ (Heap.get?_push_of_some _ ho1)
 rw [list_sort_plain]
 refine wpAny_bind (listItems_at ho rfl (wpAny_bind (listUpdate_at ho rfl ?_ (by rw [List.size_toArray,sizeLine_eq];omega) (Nat.zero_le _))))
 refine wpAny_bind (seqEpoch_at ho1 rfl (wpAny_bind (wpAny_newTuple ?_ (by show vs.length<=_;rw [sizeLine_eq];omega))))
 refine wpAny_bind (wpAny_newList (wpAny_holding ?_) (Nat.zero_le _))
 show wpAny (model prog w) A _ P E { s with heap:=((s.heap.update a (Obj.mapSeq λ_=>(#[]:Array Value))).push (seqObj "tuple" vs.toArray 0)).push (seqObj "list" #[] 0) }
 rw [hH];dsimp only
 have hn2:vs.toArray.size<2:=by rw [List.size_toArray];omega
 rw [if_pos hn2,if_pos hn2]
 refine wpAny_bind (wpAny_pure ?_)
 rw [StateT.run_pure]
 refine wpAny_bind (wpAny_pure ?_)
 dsimp only
 have hout:(arrOf (SortSt.mk' general' (vs.toArray.zip vs.toArray) #[] 7 none)).map (·.2)=vs.toArray:=by
  show (vs.toArray.zip vs.toArray).map (·.2)=vs.toArray
  refine Array.ext' ?_
  rw [Array.toList_map,Array.toList_zip]
  exact List.map_snd_zip (Nat.le_refl _)
 rw [hout]
 obtain⟨c2,hc2⟩:∃c2,(H3.update a (Obj.mapSeq λ_=>vs.toArray)).get? a=some (seqObj "list" vs.toArray c2):=⟨_,get?_update_seq ha3 λ_=>vs.toArray⟩
 refine wpAny_bind (seqEpoch_at ha3 rfl (wpAny_bind (listUpdate_at ha3 rfl ?_ (Nat.zero_le _) (by rw [List.size_toArray,sizeLine_eq];omega))))
 simp only [bne_self_eq_false,Bool.false_eq_true,if_false]
 exact wpAny_pure (k _ c2 (λb o hb e=>(Heap.SameBut.update H3 a _).extBut b o hb (kp b o hb e)) hc2)
theorem qGn {a:Addr}{vs:List Value}{ps:List Int}{n:Nat}{P:PySem.Fin->Shared->Prop}(ho:s.heap.get? a=some (seqObj "list" vs.toArray n)) (hp:AllH s.heap vs ps) (hnd:ps.Nodup) (hne:∀v∈vs,v≠.ref a) (h64:vs.length<64)
  (k:∀h' m,(∀b o,b≠a->s.heap.get? b=some o->h'.get? b=some o)->h'.get? a=some (seqObj "list" ((qCA ps).map λi=>vs.getD i .none).toArray m)->P (.done (.ret .none)) { s with heap:=h' }) :
  wpAny (model prog w) A (Builtin.«list.sort» ⟨[.ref a],[]⟩) P E s:=by
 have hl:=hp.len
 by_cases h2:vs.length<2
 ·refine qJf ho h2 λh' m kp ha=>k h' m kp ?_
  have:((qCA ps).map λi=>vs.getD i .none)=vs:=by
   unfold qCA
   rw [if_pos (by omega),<-hl]
   match vs,h2 with
   | [],_=>rfl
   | [_],_=>rfl
  rw [this]
  exact ha
 ·have mv:∀s':Shared,(∀b o,b≠a->s.heap.get? b=some o->s'.heap.get? b=some o)->AllH s'.heap vs ps:=λs' kp=>hp.mv λv hv b o e q=>kp b o (λz=>hne v hv (by rw [e,z])) q
  refine qG3 (κ:=tuples' true) (c:=λi j=>decide (ps.getD i 0<ps.getD j 0)) ho (by omega) h64 (λs' kp=>qGw (mv s' kp) (by omega) ⟨rfl,rfl⟩) (λs' kp i j C hi hj hC=>?_) λh' m kp ha=>k h' m kp ?_
  ·refine qQs ((mv s' kp).at i hi) ((mv s' kp).at j hj) ?_ hC
   by_cases e:i=j
   ·exact .inr (by rw [e])
   ·refine .inl λz=>e ?_
    rw [hl] at hi hj
    rw [List.getD_eq_getElem?_getD,List.getD_eq_getElem?_getD,List.getElem?_eq_getElem hi,List.getElem?_eq_getElem hj] at z
    exact (List.getElem_inj hnd).mp z
  ·have:qDs (λi j=>decide (ps.getD i 0<ps.getD j 0)) vs=(qCA ps).map λi=>vs.getD i .none:=by
    unfold qDs qCA
    rw [if_neg (by omega),hl]
   rw [<-this]
   exact ha
end
section
open PySem PySem.Spec PyProof.Rows L2
variable {X:Cx}
noncomputable def SmV:V->Prop
 | .non=>True|.bl _=>True|.int _=>True|.str _=>True|.ref _=>True|_=>False
theorem qNO {x:V}{u:Value}(h:SmV x) (r:RelV x u):Sme u:=by
 unfold Sme
 cases x with
 | non=>cases r;decide
 | bl b=>cases r;cases b<;>decide
 | int _=>obtain⟨t,rfl⟩:=r;simp
 | str _=>obtain⟨t,rfl⟩:=r;simp
 | ref _=>cases r;simp
 | byt _=>exact h.elim
 | flt _=>exact h.elim
 | ty _=>exact h.elim
noncomputable def HdV (K:PySem.W.Frag) (H:Hp):List V->List Int->Prop
 | [],[]=>True
 | v::vs,i::is=>(∃a ws,v=.ref a/\SqT K H a (V.int i::ws)/\∀x∈ws,SmV x)/\HdV K H vs is
 | _,_=>False
theorem HdV.len {K:PySem.W.Frag}{H:Hp}:∀{vs:List V}{is:List Int},HdV K H vs is->vs.length=is.length
 | [],[],_=>rfl
 | _::_,_::_,x=>congrArg (·+1) x.2.len
theorem qIN {pins:List (Addr×Obj)}{σ:L2.St}{H:Hp}{s:Shared}(I:Inv X pins σ H s):∀{vs:List V}{is:List Int}{us:List Value},HdV X.K H vs is->Vals vs us->AllH s.heap us is
 | [],[],_,_,.nil=>trivial
 | v::vs,i::is,_,⟨⟨a,ws,e,hq,hw⟩,hr⟩,.cons r t=>by
  subst e
  cases r
  refine⟨?_,qIN I hr t⟩
  obtain⟨its,rv,⟨o,e1,e2,n,e3⟩,hz⟩:=I.tuple hq
  cases rv with
  | cons r1 r2 =>
   obtain⟨t,rfl⟩:=r1
   refine⟨a,o,n,t,_,rfl,e1,e2,e3,λy hy=>?_⟩
   clear e3 hq hz
   induction r2 with
   | nil=>exact nomatch hy
   | cons r1 _ ih =>
    rcases List.mem_cons.mp hy with rfl|hy
    ·exact qNO (hw _ List.mem_cons_self) r1
    ·exact ih (λx hx=>hw x (List.mem_cons_of_mem _ hx)) hy
theorem qEa {vs:List V}{us:List Value}(r:Vals vs us):∀(ks:List Nat),(∀k∈ks,k<vs.length)->Vals (ks.map λk=>vs.getD k .non) (ks.map λk=>us.getD k .none)
 | [],_=>.nil
 | k::ks,h=>by
  refine .cons ?_ (qEa r ks λj hj=>h j (List.mem_cons_of_mem _ hj))
  have hk:=h k List.mem_cons_self
  obtain⟨u,e1,e2⟩:=r.get (i:=k) (x:=vs[k]) (List.getElem?_eq_getElem hk)
  show L2.RelV (vs.getD k V.non) (us.getD k Value.none)
  rw [List.getD_eq_getElem?_getD,List.getElem?_eq_getElem hk,List.getD_eq_getElem?_getD,e1]
  exact e2
theorem qEK:CallR X (.builtin "sorted") (λxs H Q=>∃(p:Addr) (vs:List V) (is:List Int),xs=[.ref p]/\SqL X.K H p vs/\HdV X.K H vs is/\is.Nodup/\is.length<64/\∀l,H l=none->Q (.ref l) (upd H l (.lst ((qCA is).map λk=>vs.getD k .non)))):=by
 intro pins s σ H xs us Q I r h
 obtain⟨p,vs,is,rfl,hq,hh,hnd,hl,q⟩:=h
 obtain⟨u,rfl,ru⟩:=qB1 r
 cases ru
 have big:(64:Nat)<=sizeLine:=by decide
 obtain⟨its,n,sl,rv,_,e,_⟩:=Inv.lobj I hq
 have hlen:its.length=is.length:=by rw [<-rv.length];exact hh.len
 refine PySem.Calls.call_function_entry kind_sorted plain_sorted entry_sorted (args_sorted1 _) ?_
 unfold Builtin.«sorted»
 refine wpAny_bind (m:=checkCount "sorted" 1 1 _) (wpAny_pure ?_)
 refine wpAny_bind (wpAny_collect_seq p (.inl rfl) e rfl rfl (λh' kp=>?_) (by rw [List.size_toArray];omega))
 refine wpAny_bind (wpAny_newList ?_ (by rw [List.toList_toArray];omega))
 have I1:Inv X pins σ H { s with heap:=h' }:=I.kept (t':=s.toks) kp
 have hoL:(h'.push (seqObj "list" its.toArray 0)).get? h'.objs.size=some (seqObj "list" its.toArray 0):=Heap.get?_push_size _ rfl
 have hA:AllH h' its is:=qIN I1 hh rv
 have hA1:AllH (h'.push (seqObj "list" its.toArray 0)) its is:=hA.mv λv hv a o e q=>Heap.get?_push_of_some _ q
 have back:∀v∈its,v≠.ref h'.objs.size:=λv hv z=>by
  obtain⟨i,hi,rfl⟩:=List.mem_iff_getElem.mp hv
  have:=hA.at i hi
  rw [List.getD_eq_getElem?_getD,List.getElem?_eq_getElem hi] at this
  obtain⟨x,o,_,_,_,e,e1,_⟩:=this
  have e':its[i]=.ref x:=e
  rw [e'] at z
  cases z
  exact absurd (Heap.lt_size e1) (Nat.lt_irrefl _)
 refine wpAny_bind (wpAny_holding (wpAny_call_entry slot_list_sort ⟨_,hoL,rfl⟩ entry_list_sort (qGn hoL hA1 hnd back (by omega) λh'' m kp2 ha=>⟨_,rfl,?_⟩) (args_list_sort _)))
 have hp:=qCe is
 refine wpAny_pure ⟨.ref h'.objs.size,rfl,.ref h'.objs.size,_,I1.laid (t':=s.toks) (h':=h'') (a:=h'.objs.size) (o:=.lst ((qCA is).map λk=>vs.getD k .non)) (λb ob hb=>kp2 b ob (Nat.ne_of_lt (Heap.lt_size hb)) (Heap.get?_push_of_some _ hb)) (Nat.le_refl _) ⟨?_,(qCA is).map λk=>its.getD k .none,m,qEa rv _ λk hk=>?_,ha⟩,rfl,q _ (I1.hok.fresh (Nat.le_refl _))⟩
 ·rw [List.length_map,hp.length_eq,List.length_range]
  omega
 ·rw [hh.len]
  simpa using hp.mem_iff.mp hk
theorem qJG {f:Value}{r r':List V->Hp->VK->Prop}(h:CallR X f r) (h':CallR X f r'):CallR X f (λxs H Q=>r xs H Q∨r' xs H Q):=
 λpins s σ H xs us Q I rv z=>z.elim (h pins s σ H xs us Q I rv) (h' pins s σ H xs us Q I rv)
end
end Dw
namespace Dw
open PySem PySem.Spec PyProof.Rows L2
noncomputable def qEc:Ty->String
 | .int=>"int"|.bool=>"bool"|.tuple=>"tuple"|.list=>"list"|.str=>"str"
noncomputable def qJW:D->String
 | .non=>"NoneType"|.bl _=>"bool"|.int _=>"int"|.str _=>"str"|.tup _=>"tuple"|.lst _=>"list"|.dct _ _=>"NoneType"|.obj _ _=>"NoneType"|.exc _=>"NoneType"
theorem qMC (K:PySem.W.Frag) (ty:Ty) (d:D):PySem.W.kitOne K (.type (qJW d)) (.type (qEc ty))=some (tyD ty d):=by
 cases ty<;>cases d<;>kernel_rfl
section
variable {X:Cx}
theorem qIB:CallR X (.builtin "isinstance") (λxs H Q=>∃(x:V) (d:D) (F:Fz) (ty:Ty),xs=[x,.ty (qEc ty)]/\RP X.K H F d x/\Q (.bl (tyD ty d)) H):=by
 intro pins s σ H xs us Q I r h
 obtain⟨x,d,F,ty,rfl,hx,q⟩:=h
 obtain⟨u,w',rfl,ru,rw'⟩:=qK5 r
 have rw'':w'=Value.type (qEc ty):=rw'
 subst rw''
 have fin:∀tk,EP X pins σ Q (.bool (tyD ty d)) { s with toks:=tk }:=λtk=>⟨.bl _,H,I.tok tk,rfl,q⟩
 have e:=qMC X.K ty d
 have k:=qGM I hx ru
 cases d with
 | dct _ _=>exact absurd hx RP.noDct
 | obj _ _=>exact absurd hx RP.noObj
 | exc _=>exact absurd hx RP.noExc
 | non=>have k:u=.none:=k;subst k;exact PySem.W.kia_one PySem.W.kitx_none I.kIn True.intro e (λz=>nomatch z) fin
 | bl b=>have k:u=.bool b:=k;subst k;exact PySem.W.kia_one PySem.W.kitx_bool I.kIn True.intro e (λz=>nomatch z) fin
 | int i=>obtain⟨t,rfl⟩:=k;exact PySem.W.kia_one PySem.W.kitx_int I.kIn True.intro e (λz=>nomatch z) fin
 | str i=>obtain⟨t,rfl⟩:=k;exact PySem.W.kia_one PySem.W.kitx_str I.kIn True.intro e (λz=>nomatch z) fin
 | tup ds=>obtain⟨a,its,vs,rfl,⟨o,h1,h2,_⟩,_⟩:=k;exact PySem.W.kia_one PySem.W.kitx_tuple I.kIn ⟨o,h1,h2⟩ e (λz=>nomatch z) fin
 | lst ds=>obtain⟨a,its,vs,rfl,⟨o,h1,h2,_⟩,_⟩:=k;exact PySem.W.kia_one PySem.W.kitx_list I.kIn ⟨o,h1,h2⟩ e (λz=>nomatch z) fin
theorem qOp (neg:Bool):OpR X (compareOp (if neg then .IsNot else .Is)) (λx y H Q=>∃(d e:D) (F:Fz) (b:Bool),RP X.K H F d x/\RP X.K H F e y/\isD neg d e=some (false,.bl b)/\Q (.bl b) H):=by
 intro pins s σ H x y v u Q I rx ry h
 obtain⟨d,e,F,b,hx,hy,hb,q⟩:=h
 have kx:=qGM I hx rx
 have ky:=qGM I hy ry
 have fin:∀c:Bool,c=b->EP X pins σ Q (.bool c) s:=λc z=>⟨.bl c,H,I,rfl,by rw [z];exact q⟩
 have go:∀(c:Bool),plainIs v u=true->(v == u)=c->(if neg then !c else c)=b->wpAny (model X.prog X.w) X.A (compareOp (if neg then .IsNot else .Is) v u) (EP X pins σ Q) X.xe s:=λc hp hv hc=>by
  subst hv
  cases neg with
  | true=>exact wpAny_isNot_plain hp (fin _ hc)
  | false=>exact wpAny_is_plain hp (fin _ hc)
 have no:∀{x y:Value},x≠y->(x == y)=false:=λh=>beq_eq_false_iff_ne.mpr h
 cases e with
 | non =>
  have ky:u=.none:=ky
  subst ky
  cases d with
  | dct _ _=>exact absurd hx RP.noDct
  | obj _ _=>exact absurd hx RP.noObj
  | exc _=>exact absurd hx RP.noExc
  | non=>have kx:v=.none:=kx;subst kx;exact go true rfl (beq_self_eq_true _) (by cases neg<;>simp at hb ⊢<;>exact hb)
  | bl c=>have kx:v=.bool c:=kx;subst kx;exact go false rfl (no (λz=>nomatch z)) (by cases neg<;>simp at hb ⊢<;>exact hb)
  | int c=>obtain⟨t,rfl⟩:=kx;exact go false rfl (no (λz=>nomatch z)) (by cases neg<;>simp at hb ⊢<;>exact hb)
  | str c=>obtain⟨t,rfl⟩:=kx;exact go false rfl (no (λz=>nomatch z)) (by cases neg<;>simp at hb ⊢<;>exact hb)
  | tup ds=>obtain⟨a,its,vs,rfl,_⟩:=kx;exact go false rfl (no (λz=>nomatch z)) (by cases neg<;>simp at hb ⊢<;>exact hb)
  | lst ds=>obtain⟨a,its,vs,rfl,_⟩:=kx;exact go false rfl (no (λz=>nomatch z)) (by cases neg<;>simp at hb ⊢<;>exact hb)
 | bl c2 =>
  have ky:u=.bool c2:=ky
  subst ky
  cases d with
  | dct _ _=>exact absurd hx RP.noDct
  | obj _ _=>exact absurd hx RP.noObj
  | exc _=>exact absurd hx RP.noExc
  | non=>have kx:v=.none:=kx;subst kx;exact go false rfl (no (λz=>nomatch z)) (by cases neg<;>simp at hb ⊢<;>exact hb)
  | bl c =>
   have kx:v=.bool c:=kx
   subst kx
   by_cases hc:c=c2
   ·subst hc
    exact go true rfl (beq_self_eq_true _) (by cases neg<;>simp at hb ⊢<;>exact hb)
   ·exact go false rfl (no (λz=>hc (by injection z))) (by cases neg<;>cases c<;>cases c2<;>simp at hb hc ⊢<;>exact hb)
  | int c=>obtain⟨t,rfl⟩:=kx;exact go false rfl (no (λz=>nomatch z)) (by cases neg<;>simp at hb ⊢<;>exact hb)
  | str c=>obtain⟨t,rfl⟩:=kx;exact go false rfl (no (λz=>nomatch z)) (by cases neg<;>simp at hb ⊢<;>exact hb)
  | tup ds=>obtain⟨a,its,vs,rfl,_⟩:=kx;exact go false rfl (no (λz=>nomatch z)) (by cases neg<;>simp at hb ⊢<;>exact hb)
  | lst ds=>obtain⟨a,its,vs,rfl,_⟩:=kx;exact go false rfl (no (λz=>nomatch z)) (by cases neg<;>simp at hb ⊢<;>exact hb)
 | _=>cases d<;>simp at hb
theorem qOq (hu:X.A.units+20<cLine):OpR X (compareOp .Eq) (λx y H Q=>∃(d e:D) (F:Fz),RP X.K H F d x/\RP X.K H F e y/\(qDh 20 d||qDh 20 e)=true/\Q (.bl (eqD d e)) H):=by
 intro pins s σ H x y v u Q I rx ry h
 obtain⟨d,e,F,hx,hy,hs,q⟩:=h
 exact (qJ2 I 20 d e x y v u X.A hx hy rx ry hs hu).2.1 _ _ _ _ ⟨.bl _,H,I,rfl,q⟩
theorem qOo (hu:X.A.units+20<cLine):OpR X (compareOp .NotEq) (λx y H Q=>∃(d e:D) (F:Fz),RP X.K H F d x/\RP X.K H F e y/\(qDh 20 d||qDh 20 e)=true/\Q (.bl (!eqD d e)) H):=by
 intro pins s σ H x y v u Q I rx ry h
 obtain⟨d,e,F,hx,hy,hs,q⟩:=h
 exact (qJ2 I 20 d e x y v u X.A hx hy rx ry hs hu).2.2 _ _ _ _ ⟨.bl _,H,I,rfl,q⟩
end
end Dw
namespace Dw
open PySem PySem.Spec PyProof.Rows L2
noncomputable def RG (K:PySem.W.Frag) (H:Hp) (F:Fz) (d:D) (v:V):Prop:=RD K H F d v∨(∃a ks,d=.dct false ks/\v=.ref a/\¬F a/\H a=some (.dK (dk ks)))∨∃ns ds,d=.obj ns ds/\ObR K H F ns ds v
noncomputable def RGs (K:PySem.W.Frag) (H:Hp) (F:Fz):List D->List V->Prop
 | [],vs=>vs=[]
 | d::ds,vs=>∃v r,vs=v::r/\RG K H F d v/\RGs K H F ds r
theorem RG.grow {K:PySem.W.Frag}{H H1:Hp}{F F1:Fz}(g:Gr H F H1 F1) {d:D}{v:V}(h:RG K H F d v):RG K H1 F1 d v:=
 h.elim (λz=>.inl (RD.mono g.keep z)) λz=>z.elim (λ⟨a,ks,e1,e2,e3,e4⟩=>.inr (.inl ⟨a,ks,e1,e2,(λz=>(g.new a z).elim e3 λz=>absurd (e4.symm.trans z) (by simp)),g.same _ _ e4⟩)) λ⟨ns,ds,e,o⟩=>.inr (.inr ⟨ns,ds,e,o.grow g⟩)
theorem RGs.of {K:PySem.W.Frag}{H:Hp}{F:Fz}:∀{ds:List D}{vs:List V},RDs K H F ds vs->RGs K H F ds vs
 | [],_,h=>h
 | _::_,_,⟨v,r,e,h1,h2⟩=>⟨v,r,e,.inl h1,RGs.of h2⟩
theorem RGs.length {K:PySem.W.Frag}{H:Hp}{F:Fz}:∀{ds:List D}{vs:List V},RGs K H F ds vs->vs.length=ds.length
 | [],_,h=>by rw [show _=[] from h];rfl
 | _::_,_,⟨v,r,e,h1,h2⟩=>by rw [e,List.length_cons,List.length_cons,RGs.length h2]
theorem RGs.get {K:PySem.W.Frag}{H:Hp}{F:Fz}:∀{ds:List D}{vs:List V}{i:Nat}{d:D},RGs K H F ds vs->ds[i]?=some d->∃v,vs[i]?=some v/\RG K H F d v
 | [],_,_,_,_,e=>by simp at e
 | x::ds,_,i,d,⟨v,r,e1,h1,h2⟩,e=>by
  subst e1
  cases i with
  | zero=>simp at e;subst e;exact⟨v,rfl,h1⟩
  | succ i=>simp at e;obtain⟨w,q1,q2⟩:=RGs.get h2 e;exact⟨w,by simpa using q1,q2⟩
noncomputable def spD (K:PySem.W.Frag) (n:Nat) (f:List D->Option R):Sp:=λvs H Q _=>vs.length=n/\TB H/\∃(F:Fz) (ds:List D) (r:R),(∀a,H a=none->¬F a)/\RGs K H F ds vs/\f ds=some r /\
 ∀v H' F',Gr H F H' F'->RR K H H' F' r v->Q v H'
structure Dfn (call:Nat->List D->Option R) (k:Nat) (X:Cx) (f:Str) (i:Nat):Prop where
 ex:∃(a:Addr) (fd:FuncData) (ps:List Str),X.mg f=some (.ref a)/\PySem.W.keepIn X.K (.ref a)=true/\Binds X.K fd ps []/\FnOk X.prog X.w X.K X.mg X.base CX0 k a fd ps (spD X.K ps.length (call i))/\∀ds r,call i ds=some r->ds.length=ps.length
noncomputable def kV:D->V
 | .int i=>.int i
 | .bl b=>.bl b
 | .str x=>.str x
 | _=>.non
noncomputable def isK:D->Bool
 | .tup _=>false
 | .lst _=>false
 | .dct _ _=>false
 | .obj _ _=>false
 | .exc _=>false
 | _=>true
noncomputable def arV (vs zs:List V):Ar->V
 | .pos i=>vs.getD i .non
 | .kw i=>zs.getD i .non
 | .dft _ d=>kV d
structure Dfu (call:Nat->List D->Option R) (k:Nat) (X:Cx) (u:Uc):Prop where
 ex:∃(a:Addr) (fd:FuncData) (ps:List Str) (g:List Value->List Value->List Value) (gV:List V->List V->List V),X.mg u.f=some (.ref a)/\PySem.W.keepIn X.K (.ref a)=true/\KBinds X.K fd ps u.ks g gV/\(∀vs zs,vs.length=u.np->zs.length=u.ks.length->gV vs zs=u.pl.map (arV vs zs)) /\
  (∀j d,Ar.dft j d∈u.pl->isK d=true)/\FnOk X.prog X.w X.K X.mg X.base CX0 k a fd ps (spD X.K ps.length (call u.i))/\∀ds r,call u.i ds=some r->ds.length=ps.length
noncomputable def qP9:List Str->List V->List (Str×V)->List (Str×V)
 | f::ns,v::vs,fs=>qP9 ns vs (qDk f v fs)
 | _,_,fs=>fs
noncomputable def spI (K:PySem.W.Frag) (ns:List Str):Sp:=λvs H Q _=>∃(x C dx:Addr) (ws:List V),vs=.ref x::ws/\ws.length=ns.length/\H x=some (.ins C dx [])/\Cls K C/\(∀f∈ns,NoAttr K C f)/\Q .non (upd H x (.ins C dx (qP9 ns ws [])))
structure Dfm (call:Nat->List D->Option R) (k:Nat) (X:Cx) (ns:List Str) (c m:Str) (i:Nat):Prop where
 ex:∃(C fi fm:Addr) (fdi fdm:FuncData) (psi psm:List Str),X.mg c=some (.ref C)/\Mk X.K C fi/\Cls X.K C/\(∀f∈ns,NoAttr X.K C f)/\Binds X.K fdi psi []/\FnOk X.prog X.w X.K X.mg X.base CX0 1 fi fdi psi (spI X.K ns)/\Meth X.K C m fm/\Binds X.K fdm psm [] /\
  FnOk X.prog X.w X.K X.mg X.base CX0 k fm fdm psm (spD X.K psm.length (call i))/\(∀ds r,call i ds=some r->ds.length=psm.length)/\m∉ns/\ns.Nodup
noncomputable def qAu:List Str:=["len","abs","min","max","sum","all","tuple","list","int","bool","str","isinstance","range","zip","reversed","sorted","enumerate","any"].map Str.ofString
structure Rse (X:Cx) (c:Str):Prop where
 ex:∃(C:Addr) (B nid iid:String) (bm:List Value),ExcBaseFacts B nid iid bm/\OwnCls c C bm nid X.mg X.base
noncomputable def spX (K:PySem.W.Frag) (mg:Str->Option Value) (n:Nat) (f:List D->Option R):Sp:=λvs H Q E=>vs.length=n/\TB H/\∃(F:Fz) (ds:List D) (r:R),(∀a,H a=none->¬F a)/\RGs K H F ds vs/\f ds=some r /\
 (∀v H' F',Gr H F H' F'->RR K H H' F' r v->Q v H')/\∀c,r=(false,.exc c)->∀H' F',Gr H F H' F'->∀C,mg c=some (.ref C)->E (.ref C) none H'
structure Dfx (call:Nat->List D->Option R) (k:Nat) (X:Cx) (f:Str) (i:Nat):Prop where
 ex:∃(a:Addr) (fd:FuncData) (ps:List Str),X.mg f=some (.ref a)/\PySem.W.keepIn X.K (.ref a)=true/\Binds X.K fd ps []/\FnOk X.prog X.w X.K X.mg X.base (CXr X.prog X.w) k a fd ps (spX X.K X.mg ps.length (call (i+XO)))/\∀ds r,call (i+XO) ds=some r->ds.length=ps.length
structure XG (call:Nat->List D->Option R) (G:Gx) (k:Nat) (X:Cx) (sc:Scope) (N:List Str):Prop where
 hN:X.N=N
 nd:N.Nodup
 vis:∀x,qKw sc x=true->Vis X.env.scope x
 loc:∀x,(sc.names.lookup x == some .local||sc.names.lookup x == some .cell)=true->Loc X.env.scope x/\(X.fn x=true∨X.env.scope.names.lookup x=some .local)
 gl:∀x,glB sc x=true->Gl X x
 cap:∀x,qKS sc x=true->X.env.kindOf x=some .cell∨X.env.kindOf x=some .free
 calm:X.calm=true
 xe:PassesOwn (model X.prog X.w) X.A X.env X.xe
 room:Room k X.A
 defs:∀f i,G.defs.lookup f=some i->Dfn call k X f i
 blt:∀x,G.defs.lookup x=none->x∈qAu->X.mg x=none
 cons:∀x i,G.cons.lookup x=some i->∃t,X.mg x=some (.int i t)
 ucal:∀u∈G.ucal,Dfu call k X u
 meth:∀u∈G.meth,Dfm call k X (G.flds.map (·.1)) u.1 u.2.1 u.2.2
 two:G.meth≠[]->2<=k
 rse:∀c∈G.rse,Rse X c
 xdf:∀f i,G.xdf.lookup f=some i->Dfx call k X f i
section
variable {call:Nat->List D->Option R}{G:Gx}{k:Nat}{X:Cx}{sc:Scope}{N:List Str}
variable (call X) in
noncomputable def SndE (e:Expr) (c:C):Prop:=∃t:TE,PE X e t/\∀(Ge H:Hp) (F:Fz) (σ:En) (τ:L2.St) (r:R) (Q:VK),evE call σ c=some r->SR X.K Ge H F σ τ->(∀v H' F',Gr H F H' F'->RR X.K H H' F' r v->Q v H')->t τ H Q
variable (call X) in
noncomputable def qE0 (e:Expr) (c:C):Prop:=∃t:TE,PE X e t/\∀(Ge H:Hp) (F:Fz) (σ:En) (τ:L2.St) (d:D) (Q:VK),pk σ c (evE call σ c)=some d->SR X.K Ge H F σ τ->(∀v H' F',Gr H F H' F'->RP X.K H' F' d v->Q v H')->t τ H Q
variable (call X) in
noncomputable def qEZ (e:Expr) (c:C):Prop:=∃t:TT,PT X e t/\∀(Ge H:Hp) (F:Fz) (σ:En) (τ:L2.St) (x b:Bool) (Q:Bool->Hp->Prop),evE call σ c=some (x,.bl b)->SR X.K Ge H F σ τ->(∀H' F',Gr H F H' F'->Q b H')->t τ H Q
variable (call X) in
noncomputable def qNh (es:List Expr) (cs:List C):Prop:=∃t:TA,PA X es t/\∀(Ge H:Hp) (F:Fz) (σ:En) (τ:L2.St) (ds:List D) (Q:List V->Hp->Prop),evA call σ cs=some ds->SR X.K Ge H F σ τ->(∀vs H' F',Gr H F H' F'->RDs X.K H' F' ds vs->Q vs H')->t τ H Q
noncomputable def RPs (K:PySem.W.Frag) (H:Hp) (F:Fz):List D->List V->Prop
 | [],vs=>vs=[]
 | d::ds,vs=>∃v r,vs=v::r/\RP K H F d v/\RPs K H F ds r
theorem RPs.grow {K:PySem.W.Frag}{H H1:Hp}{F F1:Fz}(g:Gr H F H1 F1):∀{ds:List D}{vs:List V},RPs K H F ds vs->RPs K H1 F1 ds vs
 | [],_,h=>h
 | _::_,_,⟨v,r,e,h1,h2⟩=>⟨v,r,e,h1.grow g,RPs.grow g h2⟩
variable (call X) in
noncomputable def qEV (es:List Expr) (cs:List C):Prop:=∃t:TA,PA X es t/\∀(Ge H:Hp) (F:Fz) (σ:En) (τ:L2.St) (ds:List D) (Q:List V->Hp->Prop),qBO call σ cs=some ds->SR X.K Ge H F σ τ->(∀vs H' F',Gr H F H' F'->RPs X.K H' F' ds vs->Q vs H')->t τ H Q
variable (call X) in
noncomputable def qKu (e:Expr) (c:C):Prop:=∃t:TE,PE X e t/\(∀(Ge H:Hp) (F:Fz) (σ:En) (τ:L2.St) (d:D) (Q:VK),ag σ c (evE call σ c)=some d->SR X.K Ge H F σ τ->(∀v H' F',Gr H F H' F'->RG X.K H' F' d v->Q v H')->t τ H Q)/\∀(Ge H:Hp) (F:Fz) (σ:En) (τ:L2.St) (d:D) (Q:VK),pk σ c (evE call σ c)=some d->SR X.K Ge H F σ τ->(∀v H' F',Gr H F H' F'->RP X.K H' F' d v->Q v H')->t τ H Q
variable (call X) in
noncomputable def qIR (es:List Expr) (cs:List C):Prop:=∃t:TA,PA X es t/\(∀(Ge H:Hp) (F:Fz) (σ:En) (τ:L2.St) (ds:List D) (Q:List V->Hp->Prop),evG call σ cs=some ds->SR X.K Ge H F σ τ->(∀vs H' F',Gr H F H' F'->RGs X.K H' F' ds vs->Q vs H')->t τ H Q)/\∀(Ge H:Hp) (F:Fz) (σ:En) (τ:L2.St) (ds:List D) (Q:List V->Hp->Prop),qBO call σ cs=some ds->SR X.K Ge H F σ τ->(∀vs H' F',Gr H F H' F'->RPs X.K H' F' ds vs->Q vs H')->t τ H Q
variable (call X) in
noncomputable def qPt (e:Option Expr) (c:Option C):Prop:=∃t:TO,PO X e t/\∀(Ge H:Hp) (F:Fz) (σ:En) (τ:L2.St) (o:Option Int) (Q:Option Int->Hp->Prop),evO call σ c=some o->SR X.K Ge H F σ τ->(∀H' F',Gr H F H' F'->Q o H')->t τ H Q
theorem SndE.look {e:Expr}{c:C}(h:SndE call X e c) (hc:∀i,c≠.v i):qE0 call X e c:=by
 obtain⟨t,p,q⟩:=h
 refine⟨t,p,λGe H F σ τ d Q hd hs k=>?_⟩
 have hd':(evE call σ c).map (·.2)=some d:=by
  cases c with
  | v i=>exact absurd rfl (hc i)
  | _=>exact hd
 cases hr:evE call σ c with
 | none=>rw [hr] at hd';cases hd'
 | some r =>
  rw [hr] at hd'
  cases hd'
  exact q Ge H F σ τ r Q hr hs λv H' F' g z=>k v H' F' g z.look
theorem SndE.lend {e:Expr}{c:C}(h:SndE call X e c) (hc:∀i,c≠.v i):qKu call X e c:=by
 obtain⟨t,p,q⟩:=h
 have key:∀(σ:En) (d:D),(ag σ c (evE call σ c)=some d∨pk σ c (evE call σ c)=some d)->∃r,evE call σ c=some r/\r.2=d:=fun σ d hd=>by
  have hd':(evE call σ c).map (·.2)=some d:=by
   cases c with
   | v i=>exact absurd rfl (hc i)
   | _=>exact hd.elim (λz=>z) λz=>z
  exact Option.map_eq_some_iff.mp hd'
 refine⟨t,p,λGe H F σ τ d Q hd hs k=>?_,λGe H F σ τ d Q hd hs k=>?_⟩
 ·obtain⟨r,hr,rfl⟩:=key σ d (.inl hd)
  refine q Ge H F σ τ r Q hr hs λv H' F' g z=>?_
  obtain⟨F2,g2,rd⟩:=z.fz g
  exact k v H' F2 g2 (.inl rd)
 ·obtain⟨r,hr,rfl⟩:=key σ d (.inr hd)
  exact q Ge H F σ τ r Q hr hs λv H' F' g z=>k v H' F' g z.look
theorem qBg {x:Str}{i:Nat}(h:qAN N x=some i):N[i]?=some x:=by
 unfold qAN at h
 obtain⟨h1,h2,_⟩:=List.findIdx?_eq_some_iff_getElem.mp h
 rw [List.getElem?_eq_getElem h1]
 simpa using h2
theorem qDo (g:XG call G k X sc N) {x:Str}{i:Nat}(h:qBA sc N x=some i):X.N[i]?=some x/\Vis X.env.scope x/\(x == ("__debug__":Str))=false/\(x == ("__classdict__":Str))=false:=by
 unfold qBA at h
 split at h
 ·rename_i hv
  rw [Bool.and_eq_true] at hv
  have hp:=hv.2
  unfold qAO at hp
  simp only [Bool.and_eq_true,bne_iff_ne,ne_eq] at hp
  refine⟨by rw [g.hN];exact qBg h,g.vis x hv.1,?_,?_⟩
  ·exact beq_eq_false_iff_ne.mpr hp.1.1
  ·exact beq_eq_false_iff_ne.mpr hp.1.2
 ·cases h
theorem qJg (g:XG call G k X sc N) {x:Str}{pos:Pos}{i:Nat}(h:qBA sc N x=some i):SndE call X (.Name x pos) (.v i)/\qE0 call X (.Name x pos) (.v i)/\qKu call X (.Name x pos) (.v i):=by
 obtain⟨h1,h2,h3,h4⟩:=qDo g h
 refine⟨?_,?_,?_⟩
 ·refine⟨_,qCs h1 h2 h3 h4,λGe H F σ τ r Q hr hs k=>?_⟩
  change qCp (qAg σ i)=some r at hr
  cases hv:qAg σ i with
  | none=>rw [hv] at hr;cases hr
  | some z =>
   obtain⟨b,d⟩:=z
   rw [hv] at hr
   cases b with
   | true=>cases hr
   | false =>
    cases hr
    obtain⟨v,e,rd⟩:=hs.val i d hv
    exact⟨v,e,k v H F (Gr.refl hs.dom) rd⟩
 ·refine⟨_,qCs h1 h2 h3 h4,λGe H F σ τ d Q hr hs k=>?_⟩
  change (qAg σ i).bind pkR=some d at hr
  cases hv:qAg σ i with
  | none=>rw [hv] at hr;cases hr
  | some z =>
   obtain⟨b,d'⟩:=z
   rw [hv] at hr
   cases b with
   | false =>
    cases hr
    obtain⟨v,e,rd⟩:=hs.val i _ hv
    exact⟨v,e,k v H F (Gr.refl hs.dom) (.inl rd)⟩
   | true =>
    cases d' with
    | lst ds' =>
     cases hr
     obtain⟨a,ds,vs,e1,e2,e3,e4,e5,e6⟩:=hs.own i _ hv rfl
     exact⟨.ref a,e2,k _ H F (Gr.refl hs.dom) (.inr ⟨a,ds,vs,e1,rfl,e5,e6⟩)⟩
    | _=>cases hr
 ·refine⟨_,qCs h1 h2 h3 h4,λGe H F σ τ d Q hr hs k=>?_,λGe H F σ τ d Q hr hs k=>?_⟩
  ·change (qAg σ i).bind agR=some d at hr
   cases hv:qAg σ i with
   | none=>rw [hv] at hr;cases hr
   | some z =>
    obtain⟨b,d'⟩:=z
    rw [hv] at hr
    cases b with
    | false =>
     cases hr
     obtain⟨v,e,rd⟩:=hs.val i _ hv
     exact⟨v,e,k v H F (Gr.refl hs.dom) (.inl rd)⟩
    | true =>
     cases d' with
     | dct m ks =>
      cases hr
      obtain⟨a,e1,e2,e3,e4⟩:=hs.dct i m ks hv
      exact⟨.ref a,e1,k _ H F (Gr.refl hs.dom) (.inr (.inl ⟨a,ks,rfl,rfl,e2,e3⟩))⟩
     | _=>cases hr
  ·change (qAg σ i).bind pkR=some d at hr
   cases hv:qAg σ i with
   | none=>rw [hv] at hr;cases hr
   | some z =>
    obtain⟨b,d'⟩:=z
    rw [hv] at hr
    cases b with
    | false =>
     cases hr
     obtain⟨v,e,rd⟩:=hs.val i _ hv
     exact⟨v,e,k v H F (Gr.refl hs.dom) (.inl rd)⟩
    | true =>
     cases d' with
     | lst ds' =>
      cases hr
      obtain⟨a,ds,vs,e1,e2,e3,e4,e5,e6⟩:=hs.own i _ hv rfl
      exact⟨.ref a,e2,k _ H F (Gr.refl hs.dom) (.inr ⟨a,ds,vs,e1,rfl,e5,e6⟩)⟩
     | _=>cases hr
theorem qCO {c:Const}{d:D}{j:Nat}{pos:Pos}(h:kOf c=some d):SndE call X (.Constant c j pos) (.k d):=by
 cases c with
 | int i=>cases h;exact⟨_,qOj,λGe H F σ τ r Q hr hs k=>by cases hr;exact k _ H F (Gr.refl hs.dom) rfl⟩
 | bool i=>cases h;exact⟨_,qQj,λGe H F σ τ r Q hr hs k=>by cases hr;exact k _ H F (Gr.refl hs.dom) rfl⟩
 | str x=>cases h;exact⟨_,qOd,λGe H F σ τ r Q hr hs k=>by cases hr;exact k _ H F (Gr.refl hs.dom) rfl⟩
 | none=>cases h;exact⟨_,qOg,λGe H F σ τ r Q hr hs k=>by cases hr;exact k _ H F (Gr.refl hs.dom) rfl⟩
 | _=>cases h
theorem qNM (g:XG call G k X sc N) {x:Str}{c:C}{pos:Pos}(h:cGl G sc x=some c):SndE call X (.Name x pos) c/\∀i,c≠.v i:=by
 unfold cGl at h
 split at h
 ·rename_i hb
  rw [Bool.and_eq_true] at hb
  cases hc:G.cons.lookup x with
  | none=>rw [hc] at h;cases h
  | some i =>
   rw [hc] at h
   cases h
   obtain⟨t,ht⟩:=g.cons x i hc
   have hd:(x == ("__debug__":Str))=false:=by
    have:=hb.2
    unfold qAO at this
    simp only [Bool.and_eq_true,bne_iff_ne,ne_eq] at this
    simpa using this.1.1
   exact⟨⟨_,qL7 (v:=.int i) (g.gl x hb.1) ht ⟨t,rfl⟩ hd,λGe H F σ τ r Q hr hs k=>by cases hr;exact k _ H F (Gr.refl hs.dom) rfl⟩,λi z=>nomatch z⟩
 ·cases h
noncomputable def OpD (X:Cx) (f:Value->Value->Sem Value) (b:D->D->Option R):Prop:=
 ∃r:R2,OpR X f r/\∀(H:Hp) (F:Fz) (d e:D) (x y:V) (z:R) (Q:VK),b d e=some z->(∀a,H a=none->¬F a)->RP X.K H F d x->RP X.K H F e y->(∀v H' F',Gr H F H' F'->RR X.K H H' F' z v->Q v H')->r x y H Q
theorem qKh {α β γ:Type}{a:Option α}{b:Option β}{f:α->β->Option γ}{z:γ}(h:(a.bind λx=>b.bind λy=>f x y)=some z):∃x y,a=some x/\b=some y/\f x y=some z:=by
 cases a with
 | none=>cases h
 | some x =>
  cases b with
  | none=>cases h
  | some y=>exact⟨x,y,rfl,rfl,h⟩
theorem qAb {α γ:Type}{a:Option α}{f:α->Option γ}{z:γ}(h:a.bind f=some z):∃x,a=some x/\f x=some z:=by
 cases a with
 | none=>cases h
 | some x=>exact⟨x,rfl,h⟩
theorem qGr {a b:Expr}{ca cb:C}{ta tb:TE}{Ge H:Hp}{F:Fz}{σ:En}{τ:L2.St}{x y:D}{R':V->V->Hp->Prop}
  (qa:∀(Ge H:Hp) (F:Fz) (σ:En) (τ:L2.St) (d:D) (Q:VK),pk σ ca (evE call σ ca)=some d->SR X.K Ge H F σ τ->(∀v H' F',Gr H F H' F'->RP X.K H' F' d v->Q v H')->ta τ H Q)
  (qb:∀(Ge H:Hp) (F:Fz) (σ:En) (τ:L2.St) (d:D) (Q:VK),pk σ cb (evE call σ cb)=some d->SR X.K Ge H F σ τ->(∀v H' F',Gr H F H' F'->RP X.K H' F' d v->Q v H')->tb τ H Q)
  (ex:pk σ ca (evE call σ ca)=some x) (ey:pk σ cb (evE call σ cb)=some y) (hs:SR X.K Ge H F σ τ)
  (h:∀v w H2 F2,Gr H F H2 F2->RP X.K H2 F2 x v->RP X.K H2 F2 y w->R' v w H2):ta τ H λv H1=>tb τ H1 λw H2=>R' v w H2:=by
 refine qa Ge H F σ τ x _ ex hs λv H1 F1 g1 r1=>?_
 refine qb Ge H1 F1 σ τ y _ ey (hs.grow g1) λw H2 F2 g2 r2=>?_
 exact h v w H2 F2 (g1.trans g2) (r1.grow g2) r2
theorem qLM {a b:Expr}{ca cb:C}{op:Operator}{o:BOp}{pos:Pos}(ho:OpD X (binaryOp op) (qGG o)) (ha:qE0 call X a ca) (hb:qE0 call X b cb):SndE call X (.BinOp a op b pos) (.bin o ca cb):=by
 obtain⟨r,hr,hq⟩:=ho
 obtain⟨ta,pa,qa⟩:=ha
 obtain⟨tb,pb,qb⟩:=hb
 refine⟨_,qQg hr pa pb,λGe H F σ τ z Q hz hs k=>?_⟩
 obtain⟨x,y,ex,ey,ez⟩:=qKh (by simpa only [qIc] using hz)
 refine qGr (a:=a) (b:=b) qa qb ex ey hs λv w H2 F2 g rx ry=>?_
 exact hq H2 F2 x y v w z Q ez g.dom rx ry λu H' F' g' rr=>k u H' F' (g.trans g') (rr.back g.same)
theorem qLL {a b:Expr}{ca cb:C}{op:CmpOp}{o:COp}{pos:Pos}(ho:OpD X (compareOp op) (qKc o)) (hm:behindInMarks op b=false) (hb2:∀x y z,qKc o x y=some z->∃c,z=(false,.bl c)) (ha:qE0 call X a ca) (hb:qE0 call X b cb) :
  SndE call X (.Compare a [op] [b] pos) (.cmp o ca cb)/\qEZ call X (.Compare a [op] [b] pos) (.cmp o ca cb):=by
 obtain⟨r,hr,hq⟩:=ho
 obtain⟨ta,pa,qa⟩:=ha
 obtain⟨tb,pb,qb⟩:=hb
 constructor
 ·refine⟨_,qHu hr pa pb hm,λGe H F σ τ z Q hz hs k=>?_⟩
  obtain⟨x,y,ex,ey,ez⟩:=qKh (by simpa only [qFj] using hz)
  refine qGr (a:=a) (b:=b) qa qb ex ey hs λv w H2 F2 g rx ry=>?_
  exact hq H2 F2 x y v w z Q ez g.dom rx ry λu H' F' g' rr=>k u H' F' (g.trans g') (rr.back g.same)
 ·refine⟨_,qHm hr pa pb hm,λGe H F σ τ xx bb Q hz hs k=>?_⟩
  obtain⟨x,y,ex,ey,ez⟩:=qKh (by simpa only [qFj] using hz)
  refine qGr (a:=a) (b:=b) qa qb ex ey hs λv w H2 F2 g rx ry=>?_
  obtain⟨c,ec⟩:=hb2 _ _ _ ez
  cases ec
  exact hq H2 F2 x y v w _ _ ez g.dom rx ry λu H' F' g' rr=>⟨bb,rr,k H' F' (g.trans g')⟩
theorem qBi {K:PySem.W.Frag}{H:Hp}{F:Fz}{ds:List D}{vs:List V}{p:Addr}(dom:∀a,H a=none->¬F a) (hp:H p=none) (h:RDs K H F ds vs) :
  Gr H F (upd H p (.lst vs)) F/\RR K H (upd H p (.lst vs)) F (true,.lst ds) (.ref p):=by
 have g:Gr H F (upd H p (.lst vs)) F:=Gr.laid dom hp
 exact⟨g,p,ds,vs,rfl,rfl,hp,dom p hp,qAw,RDs.mono g.keep h⟩
theorem qBY {K:PySem.W.Frag}{H:Hp}{F:Fz}{ds:List D}{vs:List V}{p:Addr}(dom:∀a,H a=none->¬F a) (hp:H p=none) (h:RDs K H F ds vs) :
  Gr H F (upd H p (.tup vs)) F/\RR K H (upd H p (.tup vs)) F (false,.tup ds) (.ref p):=by
 have g:Gr H F (upd H p (.tup vs)) F:=Gr.laid dom hp
 exact⟨g,p,vs,rfl,SqT.of qAw,RDs.mono g.keep h⟩
theorem qCW {f:Value->Value->Sem Value}{b:D->D->Option R}{Cc:Int->Int->Prop}{gg:Int->Int->V}{kk:Int->Int->D}(h:OpR X f (rI Cc gg))
  (hb:∀d e z,b d e=some z->∃i j,d=.int i/\e=.int j/\Cc i j/\z=(false,kk i j)) (hk:∀(H:Hp) (F:Fz) i j,RD X.K H F (kk i j) (gg i j)):OpD X f b:=by
 refine⟨_,h,λH F d e x y z Q hz dom hx hy k=>?_⟩
 obtain⟨i,j,rfl,rfl,hc,rfl⟩:=hb d e z hz
 exact⟨i,j,hx.int,hy.int,hc,k _ H F (Gr.refl dom) (hk H F i j)⟩
theorem qCh {f:Value->Value->Sem Value}{b:D->D->Option R}{gg:Int->Int->V}{kk:Int->Int->D}(h:OpR X f (rI0 gg))
  (hb:∀d e z,b d e=some z->∃i j,d=.int i/\e=.int j/\z=(false,kk i j)) (hk:∀(H:Hp) (F:Fz) i j,RD X.K H F (kk i j) (gg i j)):OpD X f b:=by
 refine⟨_,h,λH F d e x y z Q hz dom hx hy k=>?_⟩
 obtain⟨i,j,rfl,rfl,rfl⟩:=hb d e z hz
 exact⟨i,j,hx.int,hy.int,k _ H F (Gr.refl dom) (hk H F i j)⟩
theorem qAt {α:Type}{c:Prop} [Decidable c] {a b:α}(h:(if c then some a else none)=some b):c/\a=b:=by
 by_cases hc:c
 ·rw [if_pos hc] at h;exact⟨hc,Option.some.inj h⟩
 ·rw [if_neg hc] at h;cases h
theorem qMa:OpD X (binaryOp .Sub) (qGG .sub):=qCh (kk:=λi j=>.int (i - j)) qOn (λd e z h=>by
 cases d<;>cases e<;>first|(cases h;exact⟨_,_,rfl,rfl,rfl⟩)|cases h) λ_ _ _ _=>rfl
theorem qJH:OpD X (binaryOp .FloorDiv) (qGG .fdiv):=qCW (kk:=λi j=>.int (i.fdiv j)) qJJ (λd e z h=>by
 cases d<;>cases e<;>first|(obtain⟨h1,rfl⟩:=qAt h;exact⟨_,_,rfl,rfl,h1,rfl⟩)|cases h) λ_ _ _ _=>rfl
theorem qMd:OpD X (binaryOp .Mod) (qGG .mod):=qCW (kk:=λi j=>.int (i.fmod j)) qMi (λd e z h=>by
 cases d<;>cases e<;>first|(obtain⟨h1,rfl⟩:=qAt h;exact⟨_,_,rfl,rfl,h1,rfl⟩)|cases h) λ_ _ _ _=>rfl
theorem qMb:OpD X (binaryOp .Pow) (qGG .pow):=qCW (kk:=λi j=>.int (i^j.toNat)) qMh (λd e z h=>by
 cases d<;>cases e<;>first|(obtain⟨h1,rfl⟩:=qAt h;exact⟨_,_,rfl,rfl,h1,rfl⟩)|cases h) λ_ _ _ _=>rfl
theorem qM7 {x y:Int}(h1:0<=x) (h2:0<=y):Builtin.bitAnd x y=((x.toNat &&& y.toNat:Nat):Int):=by
 unfold Builtin.bitAnd;rw [decide_eq_true h1,decide_eq_true h2]
theorem qPi {x y:Int}(h1:0<=x) (h2:0<=y):Builtin.bitOr x y=((x.toNat ||| y.toNat:Nat):Int):=by
 have n:∀z:Int,Builtin.bitNot z=-z - 1:=λz=>by simp only [Builtin.bitNot]<;>omega
 unfold Builtin.bitOr Builtin.bitAnd
 rw [decide_eq_false (show ¬0<=Builtin.bitNot x by rw [n];omega),decide_eq_false (show ¬0<=Builtin.bitNot y by rw [n];omega)]
 simp only
 rw [n,n,n,n,n,n]
 rw [show -(-x - 1) - 1=x by omega,show -(-y - 1) - 1=y by omega]
 omega
theorem qJK:OpR X (binaryOp .BitAnd) (rI (λi j=>0<=i/\0<=j) λi j=>.int ((i.toNat &&& j.toNat:Nat):Int)):=opI λi j _ _ _ _ _ hc q=>and_int (by rw [qM7 hc.1 hc.2];exact q)
theorem qMk:OpR X (binaryOp .BitOr) (rI (λi j=>0<=i/\0<=j) λi j=>.int ((i.toNat ||| j.toNat:Nat):Int)):=opI λi j _ _ _ _ _ hc q=>or_int (by rw [qPi hc.1 hc.2];exact q)
theorem qJI:OpD X (binaryOp .BitAnd) (qGG .band):=qCW (kk:=λi j=>.int ((i.toNat &&& j.toNat:Nat):Int)) qJK (λd e z h=>by
 cases d<;>cases e<;>first|(obtain⟨h1,rfl⟩:=qAt h;exact⟨_,_,rfl,rfl,h1,rfl⟩)|cases h) λ_ _ _ _=>rfl
theorem qMe:OpD X (binaryOp .BitOr) (qGG .bor):=qCW (kk:=λi j=>.int ((i.toNat ||| j.toNat:Nat):Int)) qMk (λd e z h=>by
 cases d<;>cases e<;>first|(obtain⟨h1,rfl⟩:=qAt h;exact⟨_,_,rfl,rfl,h1,rfl⟩)|cases h) λ_ _ _ _=>rfl
theorem qMc:OpD X (binaryOp .Mult) (qGG .mul):=by
 refine⟨_,op_mulD.or qMg,λH F d e x y z Q hz dom hx hy k=>?_⟩
 cases d with
 | int i =>
  cases e with
  | int j=>obtain⟨h1,rfl⟩:=qAt hz;exact .inl ⟨i,j,hx.int,hy.int,h1,k _ H F (Gr.refl dom) rfl⟩
  | _=>cases hz
 | lst xs =>
  cases e with
  | int j =>
   obtain⟨⟨h1,h2,h3⟩,rfl⟩:=qAt hz
   obtain⟨a,vs,rfl,hl,hr⟩:=hx.lst
   refine .inr ⟨a,j,vs,rfl,hy.int,hl,by omega,by omega,by rw [RDs.length hr];exact h1,λp hp=>?_⟩
   obtain⟨g,rr⟩:=qBi dom hp (RDs.rep hr j.toNat)
   exact k _ _ _ g rr
  | _=>cases hz
 | _=>cases e<;>cases hz
theorem qMf:OpD X (binaryOp .Add) (qGG .add):=by
 refine⟨_,(op_add.or (op_catD.or qMj)).or (op_catN.or qGu),λH F d e x y z Q hz dom hx hy k=>?_⟩
 cases d with
 | int i =>
  cases e with
  | int j=>cases hz;exact .inl (.inl ⟨i,j,hx.int,hy.int,k _ H F (Gr.refl dom) rfl⟩)
  | _=>cases hz
 | str xs =>
  cases e with
  | str ys =>
   obtain⟨h1,rfl⟩:=qAt hz
   exact .inr (.inr ⟨xs,ys,hx.str,hy.str,h1,k _ H F (Gr.refl dom) rfl⟩)
  | _=>cases hz
 | lst xs =>
  cases e with
  | lst ys =>
   obtain⟨h1,rfl⟩:=qAt hz
   obtain⟨a,vs,rfl,hl,hr⟩:=hx.lst
   obtain⟨a2,vs2,rfl,hl2,hr2⟩:=hy.lst
   refine .inl (.inr (.inl ⟨a,a2,vs,vs2,rfl,rfl,hl,hl2,by rw [RDs.length hr,RDs.length hr2];exact h1,λp hp=>?_⟩))
   obtain⟨g,rr⟩:=qBi dom hp (RDs.append hr hr2)
   exact k _ _ _ g rr
  | _=>cases hz
 | tup xs =>
  cases e with
  | tup ys =>
   cases xs with
   | nil =>
    cases hz
    obtain⟨a,vs,rfl,hl,hr⟩:=hx.tup
    obtain⟨a2,vs2,rfl,hl2,hr2⟩:=hy.tup
    have hr:vs=[]:=hr
    subst hr
    exact .inr (.inl ⟨a,a2,vs2,rfl,rfl,hl,hl2,k _ H F (Gr.refl dom) ⟨a2,vs2,rfl,hl2,hr2⟩⟩)
   | cons x0 xs =>
    obtain⟨h1,rfl⟩:=qAt hz
    obtain⟨a,vs,rfl,hl,hr⟩:=hx.tup
    obtain⟨a2,vs2,rfl,hl2,hr2⟩:=hy.tup
    have hv:vs≠[]:=λz=>by have:=RDs.length hr;rw [z] at this;cases this
    refine .inl (.inr (.inr ⟨a,a2,vs,vs2,rfl,rfl,hl,hl2,hv,by rw [RDs.length hr,RDs.length hr2];exact h1,λz=>?_,λ_ p hp=>?_⟩))
    ·subst z
     have e0:ys=[]:=by have:=RDs.length hr2;exact List.length_eq_zero_iff.mp this.symm
     subst e0
     rw [List.append_nil] at k
     exact k _ H F (Gr.refl dom) ⟨a,vs,rfl,hl,hr⟩
    ·obtain⟨g,rr⟩:=qBY dom hp (RDs.append hr hr2)
     exact k _ _ _ g rr
  | _=>cases xs<;>cases hz
 | _=>cases e<;>cases hz
theorem qOm {op:Operator}{o:BOp}(h:qPj op=some o):OpD X (binaryOp op) (qGG o):=by
 cases op<;>first|(cases h;first|exact qMf|exact qMa|exact qMc|exact qJH|exact qMd|exact qMb|exact qJI|exact qMe)|cases h
theorem qMX {op:CmpOp}{o:COp}(hu:X.A.units+20<cLine) (h:qO2 op=some o):OpD X (compareOp op) (qKc o):=by
 cases op with
 | Eq =>
  cases h
  refine⟨_,qOq hu,λH F d e x y z Q hz dom hx hy k=>?_⟩
  obtain⟨h1,rfl⟩:=qAt (show (if (qDh 20 d||qDh 20 e)=true then some (false,D.bl (eqD d e)) else none)=some z from hz)
  exact⟨d,e,F,hx,hy,h1,k _ H F (Gr.refl dom) rfl⟩
 | NotEq =>
  cases h
  refine⟨_,qOo hu,λH F d e x y z Q hz dom hx hy k=>?_⟩
  obtain⟨h1,rfl⟩:=qAt (show (if (qDh 20 d||qDh 20 e)=true then some (false,D.bl (!eqD d e)) else none)=some z from hz)
  exact⟨d,e,F,hx,hy,h1,k _ H F (Gr.refl dom) rfl⟩
 | Lt=>cases h;exact qCh (kk:=λi j=>.bl (decide (i<j))) qQm (λd e z h=>by cases d<;>cases e<;>first|(cases h;exact⟨_,_,rfl,rfl,rfl⟩)|cases h) λ_ _ _ _=>rfl
 | LtE=>cases h;exact qCh (kk:=λi j=>.bl (decide (i<=j))) qQn (λd e z h=>by cases d<;>cases e<;>first|(cases h;exact⟨_,_,rfl,rfl,rfl⟩)|cases h) λ_ _ _ _=>rfl
 | Gt=>cases h;exact qCh (kk:=λi j=>.bl (decide (j<i))) qQo (λd e z h=>by cases d<;>cases e<;>first|(cases h;exact⟨_,_,rfl,rfl,rfl⟩)|cases h) λ_ _ _ _=>rfl
 | GtE=>cases h;exact qCh (kk:=λi j=>.bl (decide (j<=i))) qQp (λd e z h=>by cases d<;>cases e<;>first|(cases h;exact⟨_,_,rfl,rfl,rfl⟩)|cases h) λ_ _ _ _=>rfl
 | _=>cases h
theorem qOS {n:Bool}{d e:D}{z:R}(h:inD n d e=some z):∃c,z=(false,.bl c):=by
 cases d with
 | int i =>
  cases e with
  | tup ys =>
   have h:(qAK ys).map (λis=>(false,D.bl (if n then !(is.any (· == i)) else is.any (· == i))))=some z:=h
   cases hi:qAK ys with
   | none=>rw [hi] at h;cases h
   | some is=>rw [hi] at h;cases h;exact⟨_,rfl⟩
  | _=>cases h
 | _=>cases e<;>cases h
theorem qO3 {o:COp}{d e:D}{z:R}(h:qKc o d e=some z):∃c,z=(false,.bl c):=by
 cases o with
 | eq=>obtain⟨_,rfl⟩:=qAt (show (if (qDh 20 d||qDh 20 e)=true then some (false,D.bl (eqD d e)) else none)=some z from h);exact⟨_,rfl⟩
 | ne=>obtain⟨_,rfl⟩:=qAt (show (if (qDh 20 d||qDh 20 e)=true then some (false,D.bl (!eqD d e)) else none)=some z from h);exact⟨_,rfl⟩
 | isin=>exact qOS h
 | notin=>exact qOS h
 | _=>cases d<;>cases e<;>first|(cases h;exact⟨_,rfl⟩)|cases h
end
end Dw
namespace Dw
open PySem PySem.Spec PyProof.Rows L2
section
variable {call:Nat->List D->Option R}{G:Gx}{k:Nat}{X:Cx}{sc:Scope}{N:List Str}
theorem qOO (neg:Bool):OpD X (compareOp (if neg then .IsNot else .Is)) (isD neg):=by
 refine⟨_,qOp neg,λH F d e x y z Q hz dom hx hy k=>?_⟩
 obtain⟨b,rfl⟩:∃b,z=(false,.bl b):=by
  cases d<;>cases e<;>first|(cases hz;exact⟨_,rfl⟩)|cases hz
 exact⟨d,e,F,b,hx,hy,hz,k _ H F (Gr.refl dom) rfl⟩
theorem qQy {neg:Bool}{d e:D}{z:R}(h:isD neg d e=some z):∃c,z=(false,.bl c):=by
 cases d<;>cases e<;>first|(cases h;exact⟨_,rfl⟩)|cases h
theorem qKA {a:Expr}{ca:C}{op:CmpOp}(neg:Bool) {c:Const}{d:D}{j:Nat}{pos pos':Pos}(hop:op=if neg then .IsNot else .Is) (hc:kOf c=some d) (ha:qE0 call X a ca) :
  SndE call X (.Compare a [op] [.Constant c j pos'] pos) (.isC neg ca d)/\qEZ call X (.Compare a [op] [.Constant c j pos'] pos) (.isC neg ca d):=by
 subst hop
 obtain⟨r,hr,hq⟩:=qOO (X:=X) neg
 obtain⟨ta,pa,qa⟩:=ha
 obtain⟨tb,pb,qb⟩:=(qCO (call:=call) (X:=X) (j:=j) (pos:=pos') hc).look (λi z=>nomatch z)
 have hm:behindInMarks (if neg then CmpOp.IsNot else CmpOp.Is) (.Constant c j pos')=false:=by cases neg<;>exact qOt _
 constructor
 ·refine⟨_,qHu hr pa pb hm,λGe H F σ τ z Q hz hs k=>?_⟩
  obtain⟨x,ex,ez⟩:=qAb (by simpa only [qFh] using hz)
  refine qGr (call:=call) (cb:=.k d) (a:=a) (b:=a) (y:=d) qa qb ex rfl hs λv w H2 F2 g rx ry=>?_
  exact hq H2 F2 x d v w z Q ez g.dom rx ry λu H' F' g' rr=>k u H' F' (g.trans g') (rr.back g.same)
 ·refine⟨_,qHm hr pa pb hm,λGe H F σ τ xx bb Q hz hs k=>?_⟩
  obtain⟨x,ex,ez⟩:=qAb (by simpa only [qFh] using hz)
  refine qGr (call:=call) (cb:=.k d) (a:=a) (b:=a) (y:=d) qa qb ex rfl hs λv w H2 F2 g rx ry=>?_
  obtain⟨c,ec⟩:=qQy ez
  cases ec
  exact hq H2 F2 x d v w _ _ ez g.dom rx ry λu H' F' g' rr=>⟨bb,rr,k H' F' (g.trans g')⟩
theorem qLF {a:Expr}{ca:C}{pos:Pos}(ha:qE0 call X a ca):SndE call X (.UnaryOp .USub a pos) (.neg ca):=by
 obtain⟨ta,pa,qa⟩:=ha
 refine⟨_,qQe qNo pa,λGe H F σ τ z Q hz hs k=>?_⟩
 obtain⟨x,ex,ez⟩:=qAb (by simpa only [qMQ] using hz)
 refine qa Ge H F σ τ x _ ex hs λv H1 F1 g rx=>?_
 cases x with
 | int i=>cases ez;exact⟨i,rx.int,k _ H1 F1 g rfl⟩
 | _=>cases ez
theorem SndE.test {e:Expr}{c:C}(h:SndE call X e c) (he:∀whole,isTrue e X.env whole=(do let v <-whole;standAt e.pos;holding [v] (truthy v))):qEZ call X e c:=by
 obtain⟨t,p,q⟩:=h
 refine⟨_,qNZ p he,λGe H F σ τ x b Q hz hs k=>?_⟩
 refine q Ge H F σ τ (x,.bl b) _ hz hs λv H' F' g rr=>?_
 cases x with
 | false=>exact⟨b,rr,k H' F' g⟩
 | true=>obtain⟨_,_,_,e,_⟩:=rr;cases e
theorem qLD {a:Expr}{ca:C}{pos:Pos}(ha:SndE call X a ca) (ht:qEZ call X a ca):SndE call X (.UnaryOp .Not a pos) (.not ca)/\qEZ call X (.UnaryOp .Not a pos) (.not ca):=by
 have inv:∀{σ:En} {z:R},evE call σ (.not ca)=some z->∃x b,evE call σ ca=some (x,.bl b)/\z=(false,.bl (!b)):=λ{σ z} hz=>by
  obtain⟨⟨x,d⟩,e1,e2⟩:=qAb (by simpa only [qH9] using hz)
  cases d with
  | bl b=>cases e2;exact⟨x,b,e1,rfl⟩
  | _=>cases e2
 constructor
 ·obtain⟨t,p,q⟩:=ha
  refine⟨_,qOf p,λGe H F σ τ z Q hz hs k=>?_⟩
  obtain⟨x,b,e1,rfl⟩:=inv hz
  refine q Ge H F σ τ _ _ e1 hs λv H' F' g rr=>?_
  cases x with
  | false=>exact⟨b,rr,k _ H' F' g rfl⟩
  | true=>obtain⟨_,_,_,e,_⟩:=rr;cases e
 ·obtain⟨t,p,q⟩:=ht
  refine⟨_,qN0 p,λGe H F σ τ x b Q hz hs k=>?_⟩
  obtain⟨x',b',e1,e2⟩:=inv hz
  cases e2
  exact q Ge H F σ τ x' b' _ e1 hs λH' F' g=>k H' F' g
variable (call X) in
noncomputable def SndW (op:BoolOp) (es:List Expr) (c:C):Prop:=∀pos:Pos,SndE call X (.BoolOp op es pos) c/\∃t:TT,PW X (.BoolOp op es pos) t /\
 ∀(Ge H:Hp) (F:Fz) (σ:En) (τ:L2.St) (x b:Bool) (Q:Bool->Hp->Prop),evE call σ c=some (x,.bl b)->SR X.K Ge H F σ τ->(∀H' F',Gr H F H' F'->Q b H')->t τ H Q
theorem SndW.test {op:BoolOp}{es:List Expr}{c:C}{pos:Pos}(h:SndW call X op es c):qEZ call X (.BoolOp op es pos) c:=by
 obtain⟨_,t,p,q⟩:=h pos
 exact⟨t,p.pt,q⟩
theorem qG8 {op:BoolOp}{a:Expr}{ca:C}(ha:SndE call X a ca) (ht:qEZ call X a ca):SndW call X op [a] ca:=λpos=>by
 obtain⟨t,p,q⟩:=ha
 obtain⟨t',p',q'⟩:=ht
 refine⟨⟨t,qOe p,q⟩,?_⟩
 cases op with
 | And=>exact⟨t',qLX p',q'⟩
 | Or=>exact⟨t',qNX p',q'⟩
theorem qPk {K:PySem.W.Frag}{H H':Hp}{F':Fz}{x b:Bool}{v:V}(h:RR K H H' F' (x,.bl b) v):v=.bl b:=by
 cases x with
 | false=>exact h
 | true=>obtain⟨_,_,_,e,_⟩:=h;cases e
theorem qLO {a b:Expr}{qAV:List Expr}{ca cb:C}(ha:SndE call X a ca) (hta:qEZ call X a ca) (hb:SndW call X .And (b::qAV) cb):SndW call X .And (a::b::qAV) (.and ca cb):=λpos=>by
 obtain⟨hb1,tb',pb',qb'⟩:=hb pos
 have inv:∀{σ:En} {z:R},evE call σ (.and ca cb)=some z->∃x c,evE call σ ca=some (x,.bl c)/\(if c=true then evE call σ cb=some z else z=(false,.bl false)):=λ{σ z} hz=>by
  obtain⟨⟨x,d⟩,e1,e2⟩:=qAb (by simpa only [qId] using hz)
  cases d with
  | bl c=>cases c with
   | true=>exact⟨x,true,e1,e2⟩
   | false=>cases e2;exact⟨x,false,e1,rfl⟩
  | _=>cases e2
 constructor
 ·obtain⟨ta,pa,qa⟩:=ha
  obtain⟨tb,pb,qb⟩:=hb1
  refine⟨_,qOl pa pb,λGe H F σ τ z Q hz hs k=>?_⟩
  obtain⟨x,c,e1,e2⟩:=inv hz
  refine qa Ge H F σ τ _ _ e1 hs λv H' F' g rr=>⟨c,qPk rr,?_⟩
  cases c with
  | true=>exact qb Ge H' F' σ τ z Q e2 (hs.grow g) λu H2 F2 g2 r2=>k u H2 F2 (g.trans g2) (r2.back g.same)
  | false=>have e2':z=(false,.bl false):=e2;subst e2';exact k _ H' F' g rfl
 ·obtain⟨ta,pa,qa⟩:=hta
  refine⟨_,qNY pa pb',λGe H F σ τ x b Q hz hs k=>?_⟩
  obtain⟨x',c,e1,e2⟩:=inv hz
  refine qa Ge H F σ τ x' c _ e1 hs λH' F' g=>?_
  cases c with
  | true=>exact qb' Ge H' F' σ τ x b Q e2 (hs.grow g) λH2 F2 g2=>k H2 F2 (g.trans g2)
  | false=>have e2':(x,D.bl b)=(false,.bl false):=e2;cases e2';exact k H' F' g
theorem qNJ {a b:Expr}{qAV:List Expr}{ca cb:C}(ha:SndE call X a ca) (hta:qEZ call X a ca) (hb:SndW call X .Or (b::qAV) cb):SndW call X .Or (a::b::qAV) (.or ca cb):=λpos=>by
 obtain⟨hb1,tb',pb',qb'⟩:=hb pos
 have inv:∀{σ:En} {z:R},evE call σ (.or ca cb)=some z->∃x c,evE call σ ca=some (x,.bl c)/\(if c=true then z=(false,.bl true) else evE call σ cb=some z):=λ{σ z} hz=>by
  obtain⟨⟨x,d⟩,e1,e2⟩:=qAb (by simpa only [qKN] using hz)
  cases d with
  | bl c=>cases c with
   | false=>exact⟨x,false,e1,e2⟩
   | true=>cases e2;exact⟨x,true,e1,rfl⟩
  | _=>cases e2
 constructor
 ·obtain⟨ta,pa,qa⟩:=ha
  obtain⟨tb,pb,qb⟩:=hb1
  refine⟨_,qQf pa pb,λGe H F σ τ z Q hz hs k=>?_⟩
  obtain⟨x,c,e1,e2⟩:=inv hz
  refine qa Ge H F σ τ _ _ e1 hs λv H' F' g rr=>⟨c,qPk rr,?_⟩
  cases c with
  | false=>exact qb Ge H' F' σ τ z Q e2 (hs.grow g) λu H2 F2 g2 r2=>k u H2 F2 (g.trans g2) (r2.back g.same)
  | true=>have e2':z=(false,.bl true):=e2;subst e2';exact k _ H' F' g rfl
 ·obtain⟨ta,pa,qa⟩:=hta
  refine⟨_,qP8 pa pb',λGe H F σ τ x b Q hz hs k=>?_⟩
  obtain⟨x',c,e1,e2⟩:=inv hz
  refine qa Ge H F σ τ x' c _ e1 hs λH' F' g=>?_
  cases c with
  | false=>exact qb' Ge H' F' σ τ x b Q e2 (hs.grow g) λH2 F2 g2=>k H2 F2 (g.trans g2)
  | true=>have e2':(x,D.bl b)=(false,.bl true):=e2;cases e2';exact k H' F' g
theorem qLI {t a b:Expr}{ct ca cb:C}{pos:Pos}(ht:qEZ call X t ct) (ha:SndE call X a ca) (hb:SndE call X b cb):SndE call X (.IfExp t a b pos) (.ifx ct ca cb):=by
 obtain⟨tt,pt,qt⟩:=ht
 obtain⟨ta,pa,qa⟩:=ha
 obtain⟨tb,pb,qb⟩:=hb
 refine⟨_,qJF pt pa pb,λGe H F σ τ z Q hz hs k=>?_⟩
 obtain⟨⟨x,d⟩,e1,e2⟩:=qAb (by simpa only [qFi] using hz)
 cases d with
 | bl c =>
  refine qt Ge H F σ τ x c _ e1 hs λH' F' g=>?_
  cases c with
  | true=>exact qPC (qa Ge H' F' σ τ z Q e2 (hs.grow g) λu H2 F2 g2 r2=>k u H2 F2 (g.trans g2) (r2.back g.same))
  | false=>exact qPD (qb Ge H' F' σ τ z Q e2 (hs.grow g) λu H2 F2 g2 r2=>k u H2 F2 (g.trans g2) (r2.back g.same))
 | _=>cases e2
theorem qN1 {t a b:Expr}{tt ta tb:TT}{pos:Pos}(ht:PT X t tt) (ha:PT X a ta) (hb:PT X b tb):PT X (.IfExp t a b pos) (fun σ H Q=>tt σ H λc H1=>if c=true then ta σ H1 Q else tb σ H1 Q):=by
 intro pins s σ H Q I h
 rw [PySem.isTrue]
 refine wpAny_bind (thn (ht pins s σ H _ I h) λd s1 ⟨H1,I1,q1⟩=>?_)
 cases d with
 | true=>exact ha pins s1 σ H1 Q I1 q1
 | false=>exact hb pins s1 σ H1 Q I1 q1
theorem qJj {t a b:Expr}{ct ca cb:C}{pos:Pos}(ht:qEZ call X t ct) (ha:qEZ call X a ca) (hb:qEZ call X b cb):qEZ call X (.IfExp t a b pos) (.ifx ct ca cb):=by
 obtain⟨tt,pt,qt⟩:=ht
 obtain⟨ta,pa,qa⟩:=ha
 obtain⟨tb,pb,qb⟩:=hb
 refine⟨_,qN1 pt pa pb,λGe H F σ τ x b Q hz hs k=>?_⟩
 obtain⟨⟨x',d⟩,e1,e2⟩:=qAb (by simpa only [qFi] using hz)
 cases d with
 | bl c =>
  refine qt Ge H F σ τ x' c _ e1 hs λH' F' g=>?_
  cases c with
  | true=>exact qPC (qa Ge H' F' σ τ x b Q e2 (hs.grow g) λH2 F2 g2=>k H2 F2 (g.trans g2))
  | false=>exact qPD (qb Ge H' F' σ τ x b Q e2 (hs.grow g) λH2 F2 g2=>k H2 F2 (g.trans g2))
 | _=>cases e2
theorem qOL (n:Nat) (i:Int):Dw.ixN n i=L2.ixN n i:=rfl
theorem qHL {K:PySem.W.Frag}{H:Hp}{F:Fz}{ds:List D}{vs:List V}{i:Int}{d:D}(h:RDs K H F ds vs) (e:ixD ds i=some d):∃v,atI vs i=some v/\RD K H F d v:=by
 obtain⟨j,e1,e2⟩:=qAb e
 obtain⟨v,e3,e4⟩:=RDs.get h e2
 refine⟨v,?_,e4⟩
 unfold atI
 rw [RDs.length h,<-qOL,e1]
 exact e3
theorem qNK {a b:Expr}{ca cb:C}{pos:Pos}(hp:qFp b) (ha:qE0 call X a ca) (hb:qE0 call X b cb):SndE call X (.Subscript a b pos) (.ix ca cb):=by
 obtain⟨ta,pa,qa⟩:=ha
 obtain⟨tb,pb,qb⟩:=hb
 refine⟨_,qQh (ix_list.or qOK) pa pb hp,λGe H F σ τ z Q hz hs k=>?_⟩
 obtain⟨x,y,ex,ey,ez⟩:=qKh (by simpa only [qKO] using hz)
 refine qGr (a:=a) (b:=b) qa qb ex ey hs λv w H2 F2 g rx ry=>?_
 cases x with
 | lst xs =>
  cases y with
  | int i =>
   obtain⟨d,e1,e2⟩:=Option.map_eq_some_iff.mp ez
   subst e2
   obtain⟨p,vs,rfl,hl,hr⟩:=rx.lst
   obtain⟨u,e3,e4⟩:=qHL hr e1
   exact .inl ⟨p,vs,i,u,rfl,ry.int,hl,e3,k u H2 F2 g e4⟩
  | _=>cases ez
 | tup xs =>
  cases y with
  | int i =>
   obtain⟨d,e1,e2⟩:=Option.map_eq_some_iff.mp ez
   subst e2
   obtain⟨p,vs,rfl,hl,hr⟩:=rx.tup
   obtain⟨u,e3,e4⟩:=qHL hr e1
   exact .inr ⟨p,vs,i,u,rfl,ry.int,hl,e3,k u H2 F2 g e4⟩
  | _=>cases ez
 | _=>cases y<;>cases ez
theorem qBZ (n d:Nat) (o:Option Int):Dw.cutAt n d o=HT.sIx n d o:=by
 cases o with
 | none=>rfl
 | some v =>
  have h:=HT.clip_eq v n d
  unfold Dw.cutAt
  by_cases hv:v<0
  ·simp only [hv,if_true] at h ⊢;omega
  ·simp only [hv,if_false] at h ⊢;omega
theorem qIm {K:PySem.W.Frag}{H:Hp}{F:Fz}{ds:List D}{vs:List V}(h:RDs K H F ds vs) (l u:Option Int):RDs K H F (qJ9 ds l u) (qKQ vs l u):=by
 unfold qJ9 qKQ
 rw [RDs.length h,qBZ,qBZ]
 exact RDs.take _ (RDs.drop _ h)
theorem qNI {a:Expr}{lo hi:Option Expr}{ca:C}{cl ch:Option C}{p2 pos:Pos}(ha:qE0 call X a ca) (hl:qPt call X lo cl) (hh:qPt call X hi ch):SndE call X (.Subscript a (.Slice lo hi none p2) pos) (.sl ca cl ch):=by
 obtain⟨ta,pa,qa⟩:=ha
 obtain⟨tl,pl,ql⟩:=hl
 obtain⟨th,ph,qh⟩:=hh
 refine⟨_,qJE ((sl_list.or qNP).or qNQ) pa pl ph,λGe H F σ τ z Q hz hs k=>?_⟩
 obtain⟨x,ex,hz⟩:=qAb (by simpa only [qH8] using hz)
 obtain⟨l,el,hz⟩:=qAb hz
 obtain⟨u,eu,hz⟩:=qAb hz
 refine qa Ge H F σ τ x _ ex hs λv H1 F1 g1 rx=>?_
 refine ql Ge H1 F1 σ τ l _ el (hs.grow g1) λH2 F2 g2=>?_
 refine qh Ge H2 F2 σ τ u _ eu ((hs.grow g1).grow g2) λH3 F3 g3=>?_
 have g:=(g1.trans g2).trans g3
 have rx3:=(rx.grow g2).grow g3
 cases x with
 | lst xs =>
  cases hz
  obtain⟨p,vs,rfl,hl',hr⟩:=rx3.lst
  refine .inl (.inl ⟨p,vs,rfl,hl',λq hq=>?_⟩)
  obtain⟨g4,rr⟩:=qBi g.dom hq (qIm hr l u)
  exact k _ _ _ (g.trans g4) (rr.back g.same)
 | tup xs =>
  cases hz
  obtain⟨p,vs,rfl,hl',hr⟩:=rx3.tup
  by_cases hw:Dw.cutAt xs.length 0 l=0/\Dw.cutAt xs.length xs.length u=xs.length
  ·refine .inr ⟨p,vs,rfl,hl',?_,?_⟩
   ·rw [RDs.length hr,<-qBZ,<-qBZ];exact hw
   ·have e:qJ9 xs l u=xs:=by
     unfold qJ9
     rw [hw.1,hw.2]
     simp
    have e':(false,D.tup (qJ9 xs l u))=(false,D.tup xs):=by rw [e]
    refine k _ H3 F3 g ?_
    rw [e]
    exact⟨p,vs,rfl,hl',hr⟩
  ·refine .inl (.inr ⟨p,vs,rfl,hl',?_,λq hq=>?_⟩)
   ·rw [RDs.length hr,<-qBZ,<-qBZ];exact hw
   ·obtain⟨g4,rr⟩:=qBY g.dom hq (qIm hr l u)
    exact k _ _ _ (g.trans g4) (rr.back g.same)
 | _=>cases hz
noncomputable def qPH (call:Nat->List D->Option R) (X:Cx) (es:List Expr) (cs:List C):Prop:=∃t:TJ,PJ X es t/\∀(Ge H:Hp) (F:Fz) (σ:En) (τ:L2.St) (acc out:Str) (ds:List D) (ts:List Str) (Q:Str->Hp->Prop),evA call σ cs=some ds->qFw ds=some ts->qPF acc ts=some out->SR X.K Ge H F σ τ->(∀H' F',Gr H F H' F'->Q out H')->t acc τ H Q
theorem qJi:qPH call X [] []:=⟨_,qN8,λGe H F σ τ acc out ds ts Q h1 h2 h3 hs k=>by
 cases h1
 cases h2
 cases h3
 exact k H F (Gr.refl hs.dom)⟩
theorem qEj {e:Expr}{es:List Expr}{c:C}{cs:List C}(h:SndE call X e c) (hr:qPH call X es cs):qPH call X (e::es) (c::cs):=by
 obtain⟨t,p,q⟩:=h
 obtain⟨t',p',q'⟩:=hr
 refine⟨_,qL5 p p',λGe H F σ τ acc out ds ts Q h1 h2 h3 hs k=>?_⟩
 obtain⟨r,er,h1⟩:=qAb (by simpa only [qBb] using h1)
 obtain⟨ds',ed,h1⟩:=qAb h1
 cases h1
 obtain⟨b,d⟩:=r
 cases d with
 | str x =>
  obtain⟨ts',e1,e2⟩:=Option.map_eq_some_iff.mp h2
  subst e2
  obtain⟨h4,h5⟩:=ite_some' (show (if (acc++x).length<=lim then qPF (acc++x) ts' else none)=some out from h3)
  refine q Ge H F σ τ _ _ er hs λv H1 F1 g rr=>?_
  have hv:v=.str x:=by
   cases b with
   | false=>exact rr
   | true=>obtain⟨_,_,_,e,_⟩:=rr;cases e
  exact⟨x,hv,h4,q' Ge H1 F1 σ τ _ out ds' ts' _ ed e1 h5 (hs.grow g) λH' F' g2=>k H' F' (g.trans g2)⟩
 | _=>cases h2
where
 ite_some' {α:Type} {p:Prop} [Decidable p] {a:Option α} {z:α} (h:(if p then a else none)=some z):p/\a=some z:=by
  by_cases hp:p
  ·rw [if_pos hp] at h;exact⟨hp,h⟩
  ·rw [if_neg hp] at h;cases h
theorem qNN {e:Expr}{c:C}{pos:Pos}(h:qE0 call X e c):SndE call X (.FormattedValue e (-1) none pos) (.bi .str [c]):=by
 obtain⟨t,p,q⟩:=h
 refine⟨_,qQi p,λGe H F σ τ z Q hz hs k=>?_⟩
 obtain⟨ds,e1,hz⟩:=qAb (by simpa only [qF0] using hz)
 obtain⟨d,e2,e3⟩:=qAb (by simpa only [qA3] using e1)
 obtain⟨r,e4,e5⟩:=qAb e3
 cases e4
 cases e5
 refine q Ge H F σ τ d _ e2 hs λv H1 F1 g rx=>?_
 cases d with
 | int i =>
  obtain⟨h1,rfl⟩:=qAt (show (if i.natAbs<2^240 then some (false,D.str (qQ7 i)) else none)=some z from hz)
  exact⟨i,rx.int,small_log h1,k _ H1 F1 g rfl⟩
 | _=>cases hz
where
 small_log {n:Nat} (h:n<2^240):n.log2<1920:=by
  by_cases h0:n=0
  ·subst h0;decide
  ·have:=(Nat.log2_lt h0).mpr h;omega
theorem qG7:qPt call X none none:=⟨_,qL0,λGe H F σ τ o Q ho hs k=>by cases ho;exact k H F (Gr.refl hs.dom)⟩
theorem qG6 {e:Expr}{c:C}(h:qE0 call X e c):qPt call X (some e) (some c):=by
 obtain⟨t,p,q⟩:=h
 refine⟨_,qLZ p,λGe H F σ τ o Q ho hs k=>?_⟩
 obtain⟨x,ex,ez⟩:=qAb (by simpa only [qFW] using ho)
 refine q Ge H F σ τ x _ ex hs λv H1 F1 g rx=>?_
 cases x with
 | int i=>cases ez;exact⟨i,rx.int,k H1 F1 g⟩
 | _=>cases ez
theorem qJm:qNh call X [] []:=⟨_,qB3,λGe H F σ τ ds Q h hs k=>by cases h;exact k [] H F (Gr.refl hs.dom) rfl⟩
theorem qHd {e:Expr}{es:List Expr}{c:C}{cs:List C}(hst:starEach (e::es) X.env=(false,eval e X.env)::starEach es X.env) (h:SndE call X e c) (hr:qNh call X es cs):qNh call X (e::es) (c::cs):=by
 obtain⟨t,p,q⟩:=h
 obtain⟨t',p',q'⟩:=hr
 refine⟨_,qBe p p' hst,λGe H F σ τ ds Q hd hs k=>?_⟩
 obtain⟨r,er,hd⟩:=qAb (by simpa only [qBb] using hd)
 obtain⟨ds',ed,hd⟩:=qAb hd
 cases hd
 refine q Ge H F σ τ r _ er hs λv H1 F1 g rr=>?_
 obtain⟨F2,g2,rd⟩:=rr.fz g
 refine q' Ge H1 F2 σ τ ds' _ ed (hs.grow g2) λvs H3 F3 g3 rs=>?_
 exact k (v::vs) H3 F3 (g2.trans g3) ⟨v,vs,rfl,RD.mono g3.keep rd,rs⟩
theorem qHa:qIR call X [] []:=⟨_,qB3,λGe H F σ τ ds Q h hs k=>by cases h;exact k [] H F (Gr.refl hs.dom) rfl,λGe H F σ τ ds Q h hs k=>by cases h;exact k [] H F (Gr.refl hs.dom) rfl⟩
theorem qGo {e:Expr}{es:List Expr}{c:C}{cs:List C}(hst:starEach (e::es) X.env=(false,eval e X.env)::starEach es X.env) (h:qKu call X e c) (hr:qIR call X es cs):qIR call X (e::es) (c::cs):=by
 obtain⟨t,p,q,qp⟩:=h
 obtain⟨t',p',q',qp'⟩:=hr
 refine⟨_,qBe p p' hst,λGe H F σ τ ds Q hd hs k=>?_,λGe H F σ τ ds Q hd hs k=>?_⟩
 ·obtain⟨r,er,hd⟩:=qAb (by simpa only [qAH] using hd)
  obtain⟨ds',ed,hd⟩:=qAb hd
  cases hd
  refine q Ge H F σ τ r _ er hs λv H1 F1 g rr=>?_
  refine q' Ge H1 F1 σ τ ds' _ ed (hs.grow g) λvs H3 F3 g3 rs=>?_
  exact k (v::vs) H3 F3 (g.trans g3) ⟨v,vs,rfl,rr.grow g3,rs⟩
 ·obtain⟨r,er,hd⟩:=qAb (by simpa only [qA3] using hd)
  obtain⟨ds',ed,hd⟩:=qAb hd
  cases hd
  refine qp Ge H F σ τ r _ er hs λv H1 F1 g rr=>?_
  refine qp' Ge H1 F1 σ τ ds' _ ed (hs.grow g) λvs H3 F3 g3 rs=>?_
  exact k (v::vs) H3 F3 (g.trans g3) ⟨v,vs,rfl,rr.grow g3,rs⟩
theorem qHc:qEV call X [] []:=⟨_,qB3,λGe H F σ τ ds Q h hs k=>by cases h;exact k [] H F (Gr.refl hs.dom) rfl⟩
theorem qGp {e:Expr}{es:List Expr}{c:C}{cs:List C}(hst:starEach (e::es) X.env=(false,eval e X.env)::starEach es X.env) (h:qE0 call X e c) (hr:qEV call X es cs):qEV call X (e::es) (c::cs):=by
 obtain⟨t,p,q⟩:=h
 obtain⟨t',p',q'⟩:=hr
 refine⟨_,qBe p p' hst,λGe H F σ τ ds Q hd hs k=>?_⟩
 obtain⟨r,er,hd⟩:=qAb (by simpa only [qA3] using hd)
 obtain⟨ds',ed,hd⟩:=qAb hd
 cases hd
 refine q Ge H F σ τ r _ er hs λv H1 F1 g rr=>?_
 refine q' Ge H1 F1 σ τ ds' _ ed (hs.grow g) λvs H3 F3 g3 rs=>?_
 exact k (v::vs) H3 F3 (g.trans g3) ⟨v,vs,rfl,rr.grow g3,rs⟩
theorem qLw {es:List Expr}{cs:List C}{x1:Nat}{pos:Pos}(h:qNh call X es cs):SndE call X (.Tuple es x1 pos) (.tup cs):=by
 obtain⟨t,p,q⟩:=h
 refine⟨_,qOc p,λGe H F σ τ z Q hz hs k=>?_⟩
 obtain⟨ds,ed,hz⟩:=qAb (by simpa only [qC2] using hz)
 obtain⟨h1,rfl⟩:=qAt hz
 refine q Ge H F σ τ ds _ ed hs λvs H1 F1 g rs=>⟨by rw [RDs.length rs];exact h1,λp hp=>?_⟩
 obtain⟨g4,rr⟩:=qBY g.dom hp rs
 exact k _ _ _ (g.trans g4) (rr.back g.same)
theorem qLG {es:List Expr}{cs:List C}{pos:Pos}(h:qNh call X es cs):SndE call X (.List es pos) (.lst cs):=by
 obtain⟨t,p,q⟩:=h
 refine⟨_,qOh p,λGe H F σ τ z Q hz hs k=>?_⟩
 obtain⟨ds,ed,hz⟩:=qAb (by simpa only [qIa] using hz)
 obtain⟨h1,rfl⟩:=qAt hz
 refine q Ge H F σ τ ds _ ed hs λvs H1 F1 g rs=>⟨by rw [RDs.length rs];exact h1,λp hp=>?_⟩
 obtain⟨g4,rr⟩:=qBi g.dom hp rs
 exact k _ _ _ (g.trans g4) (rr.back g.same)
noncomputable def qBN:Expr->Bool
 | .Starred _ _=>false
 | _=>true
theorem qAx {e:Expr}{es:List Expr}{env:Env}(h:qBN e=true):starEach (e::es) env=(false,eval e env)::starEach es env:=by
 cases e<;>first|rfl|cases h
theorem qCz:∀{es:List Expr}{env:Env}{pos:Pos},es.all qBN=true->(backTo pos (starEach es env)).any (·.1)=false
 | [],env,pos,_=>rfl
 | e::es,env,pos,h=>by
  rw [List.all_cons,Bool.and_eq_true] at h
  rw [qAx h.1]
  have:=qCz (env:=env) (pos:=pos) h.2
  simpa [backTo] using this
noncomputable def FzL (H:Hp) (F:Fz):Fz:=λa=>F a∨∃ws,H a=some (.lst ws)
theorem qEw (H:Hp) (F:Fz):Keep H F H (FzL H F):=⟨λ_ _ h=>h,λ_ _ f h=>⟨.inl f,h⟩⟩
theorem RPs.lent {K:PySem.W.Frag}{H:Hp}{F:Fz}:∀{ds:List D}{vs:List V},RPs K H F ds vs->RDs K H (FzL H F) ds vs
 | [],_,h=>h
 | _::_,_,⟨v,r,e,h1,h2⟩=>⟨v,r,e,h1.elim (λz=>RD.mono (qEw H F) z) (λ⟨a,ds,ws,e1,e2,e3,e4⟩=>by
   subst e1
   exact⟨a,ws,e2,.inl ⟨.inr ⟨ws,e3⟩,.inl e3⟩,RDs.mono (qEw H F) e4⟩),RPs.lent h2⟩
mutual
theorem RD.nl {K:PySem.W.Frag}{H:Hp}{F F':Fz}:∀{d:D}{v:V},qBh d=true->RD K H F d v->RD K H F' d v
 | .non,_,_,h=>h
 | .bl _,_,_,h=>h
 | .int _,_,_,h=>h
 | .str _,_,_,h=>h
 | .tup _,_,n,⟨a,vs,e,hs,hr⟩=>⟨a,vs,e,hs,RDs.nl n hr⟩
 | .lst _,_,n,_=>nomatch n
 | .dct _ _,_,n,_=>nomatch n
 | .obj _ _,_,n,_=>nomatch n
 | .exc _,_,n,_=>nomatch n
theorem RDs.nl {K:PySem.W.Frag}{H:Hp}{F F':Fz}:∀{ds:List D}{vs:List V},qB4 ds=true->RDs K H F ds vs->RDs K H F' ds vs
 | [],_,_,h=>h
 | d::ds,_,n,⟨v,r,e,h1,h2⟩=>by
  have n':(qBh d&&qB4 ds)=true:=n
  rw [Bool.and_eq_true] at n'
  exact⟨v,r,e,RD.nl n'.1 h1,RDs.nl n'.2 h2⟩
end
theorem qJl (g:XG call G k X sc N) {f:Str}{i:Nat}{es:List Expr}{cs:List C}{p pos:Pos}(hf:G.defs.lookup f=some i) (hg:glB sc f=true) (hd:(f == ("__debug__":Str))=false) (hn:es.all qBN=true) (hne:es≠[]) (h:qIR call X es cs) :
  SndE call X (.Call (.Name f p) es [] pos) (.call i cs):=by
 obtain⟨a,fd,ps,hm,hk,hb,hF,hl⟩:=(g.defs f i hf).ex
 obtain⟨t,pt,q,qp⟩:=h
 cases es with
 | nil=>exact absurd rfl hne
 | cons e es =>
  rw [List.all_cons,Bool.and_eq_true] at hn
  refine⟨_,qL8 hF g.room (g.gl f hg) hm hk hb .nil qQk pt hd (qAx hn.1) (qCz hn.2),λGe H F σ τ z Q hz hs k=>?_⟩
  rw [qBk] at hz
  cases ed:evG call σ cs with
  | some ds =>
   rw [ed] at hz
   replace hz:call i ds=some z:=hz
   refine q Ge H F σ τ ds _ ed hs λvs H1 F1 g1 rs=>?_
   rw [List.append_nil]
   exact⟨by rw [RGs.length rs];exact hl ds z hz,(hs.grow g1).tbH,F1,ds,z,g1.dom,rs,hz,λv H' F' g2 rr=>k v H' F' (g1.trans g2) (rr.back g1.same)⟩
  | none =>
   rw [ed] at hz
   replace hz:(qBO call σ cs).bind (λxs=>(call i xs).bind nlR)=some z:=hz
   obtain⟨ds,ea,hz⟩:=qAb hz
   obtain⟨⟨b,d⟩,ec,hz⟩:=qAb hz
   cases b with
   | true=>cases hz
   | false =>
    obtain⟨hnl,rfl⟩:=qAt (show (if qBh d=true then some (false,d) else none)=some z from hz)
    refine qp Ge H F σ τ ds _ ea hs λvs H1 F1 g1 rs=>?_
    rw [List.append_nil]
    have rd:=rs.lent
    have dm:∀a,H1 a=none->¬FzL H1 F1 a:=λa e z=>by
     rcases z with z|⟨ws,w⟩
     ·exact g1.dom a e z
     ·rw [e] at w
      cases w
    refine⟨by rw [RDs.length rd];exact hl ds _ ec,(hs.grow g1).tbH,FzL H1 F1,ds,(false,d),dm,RGs.of rd,ec,λv H' F' g2 rr=>?_⟩
    have g3:Gr H1 F1 H' F1:=⟨g2.same,λ_ z=>z,λ_ z=>.inl z,λa e z=>g2.dom a e (g2.sub a (.inl z))⟩
    exact k v H' F1 (g1.trans g3) (RD.nl hnl rr)
variable (call X) in
noncomputable def qPG (kws:List Keyword) (cs:List C):Prop:=∃t:TA,PK X kws t/\∀(Ge H:Hp) (F:Fz) (σ:En) (τ:L2.St) (ds:List D) (Q:List V->Hp->Prop),evA call σ cs=some ds->SR X.K Ge H F σ τ->(∀vs H' F',Gr H F H' F'->RDs X.K H' F' ds vs->Q vs H')->t τ H Q
theorem qJh:qPG call X [] []:=⟨_,qKD,λGe H F σ τ ds Q h hs k=>by cases h;exact k [] H F (Gr.refl hs.dom) rfl⟩
theorem qG9 {kw:Keyword}{kws:List Keyword}{c:C}{cs:List C}(h:SndE call X kw.value c) (hr:qPG call X kws cs):qPG call X (kw::kws) (c::cs):=by
 obtain⟨nm,e,kp⟩:=kw
 obtain⟨t,p,q⟩:=h
 obtain⟨t',p',q'⟩:=hr
 refine⟨_,qHq p p',λGe H F σ τ ds Q hd hs k=>?_⟩
 obtain⟨r,er,hd⟩:=qAb (by simpa only [qBb] using hd)
 obtain⟨ds',ed,hd⟩:=qAb hd
 cases hd
 refine q Ge H F σ τ r _ er hs λv H1 F1 g rr=>?_
 obtain⟨F2,g2,rd⟩:=rr.fz g
 refine q' Ge H1 F2 σ τ ds' _ ed (hs.grow g2) λvs H3 F3 g3 rs=>?_
 exact k (v::vs) H3 F3 (g2.trans g3) ⟨v,vs,rfl,RD.mono g3.keep rd,rs⟩
theorem qEk {x:Str}{id:String}{b:BI}{es:List Expr}{cs:List C}{p pos:Pos}{r:List V->Hp->VK->Prop}(hc:CallR X (.builtin id) r) (hg:Gl X x) (hm:X.mg x=none) (hv:bootBuiltins x=some (.builtin id)) (hnm:x≠"__name__") (hdb:(x == ("__debug__":Str))=false)
  (hn:es.all qBN=true) (hne:es≠[]) (h:qEV call X es cs)
  (hr:∀(H:Hp) (F:Fz) (ds:List D) (vs:List V) (z:R) (Q:VK),biD b ds=some z->(∀a,H a=none->¬F a)->RPs X.K H F ds vs->(∀v H' F',Gr H F H' F'->RR X.K H H' F' z v->Q v H')->r vs H Q) :
  SndE call X (.Call (.Name x p) es [] pos) (.bi b cs):=by
 obtain⟨t,pt,q⟩:=h
 cases es with
 | nil=>exact absurd rfl hne
 | cons e es =>
  rw [List.all_cons,Bool.and_eq_true] at hn
  refine⟨_,qFK hc hg hm hv pt hnm hdb (qAx hn.1) (qCz hn.2),λGe H F σ τ z Q hz hs k=>?_⟩
  obtain⟨ds,ed,hz⟩:=qAb (by simpa only [qF0] using hz)
  refine q Ge H F σ τ ds _ ed hs λvs H1 F1 g1 rs=>?_
  exact hr H1 F1 ds vs z Q hz g1.dom rs λv H' F' g2 rr=>k v H' F' (g1.trans g2) (rr.back g1.same)
theorem qDF {x:Str}{id:String}{b:BI}{es:List Expr}{cs:List C}{p pos:Pos}{r:List V->Hp->VK->Prop}(hc:CallR X (.type id) r) (hg:Gl X x) (hm:X.mg x=none) (hv:bootBuiltins x=some (.type id)) (hnm:x≠"__name__") (hdb:(x == ("__debug__":Str))=false)
  (hn:es.all qBN=true) (hne:es≠[]) (h:qEV call X es cs)
  (hr:∀(H:Hp) (F:Fz) (ds:List D) (vs:List V) (z:R) (Q:VK),biD b ds=some z->(∀a,H a=none->¬F a)->RPs X.K H F ds vs->(∀v H' F',Gr H F H' F'->RR X.K H H' F' z v->Q v H')->r vs H Q) :
  SndE call X (.Call (.Name x p) es [] pos) (.bi b cs):=by
 obtain⟨t,pt,q⟩:=h
 cases es with
 | nil=>exact absurd rfl hne
 | cons e es =>
  rw [List.all_cons,Bool.and_eq_true] at hn
  refine⟨_,qEq hc hg hm hv pt hnm hdb (qAx hn.1) (qCz hn.2),λGe H F σ τ z Q hz hs k=>?_⟩
  obtain⟨ds,ed,hz⟩:=qAb (by simpa only [qF0] using hz)
  refine q Ge H F σ τ ds _ ed hs λvs H1 F1 g1 rs=>?_
  exact hr H1 F1 ds vs z Q hz g1.dom rs λv H' F' g2 rr=>k v H' F' (g1.trans g2) (rr.back g1.same)
end
end Dw
namespace Dw
open PySem PySem.Spec PyProof.Rows L2
section
variable {call:Nat->List D->Option R}{G:Gx}{k:Nat}{X:Cx}{sc:Scope}{N:List Str}
theorem RPs.one {K:PySem.W.Frag}{H:Hp}{F:Fz}{d:D}{vs:List V}(h:RPs K H F [d] vs):∃v,vs=[v]/\RP K H F d v:=by
 obtain⟨v,r,e,h1,h2⟩:=h
 cases h2
 exact⟨v,e,h1⟩
theorem RPs.two {K:PySem.W.Frag}{H:Hp}{F:Fz}{d e:D}{vs:List V}(h:RPs K H F [d,e] vs):∃v w,vs=[v,w]/\RP K H F d v/\RP K H F e w:=by
 obtain⟨v,r,e1,h1,h2⟩:=h
 obtain⟨w,e2,h3⟩:=RPs.one h2
 exact⟨v,w,by rw [e1,e2],h1,h3⟩
theorem RPs.three {K:PySem.W.Frag}{H:Hp}{F:Fz}{d e f:D}{vs:List V}(h:RPs K H F [d,e,f] vs):∃v w u,vs=[v,w,u]/\RP K H F d v/\RP K H F e w/\RP K H F f u:=by
 obtain⟨v,r,e1,h1,h2⟩:=h
 obtain⟨w,u,e2,h3,h4⟩:=RPs.two h2
 exact⟨v,w,u,by rw [e1,e2],h1,h3,h4⟩
variable (X) in
noncomputable def BiR (b:BI) (r:List V->Hp->VK->Prop):Prop:=∀(H:Hp) (F:Fz) (ds:List D) (vs:List V) (z:R) (Q:VK),biD b ds=some z->(∀a,H a=none->¬F a)->RPs X.K H F ds vs->(∀v H' F',Gr H F H' F'->RR X.K H H' F' z v->Q v H')->r vs H Q
theorem qPp:BiR X .len (λxs H Q=>∃p ys,xs=[.ref p]/\(SqL X.K H p ys∨SqT X.K H p ys)/\Q (.int ys.length) H):=by
 intro H F ds vs z Q hz dom hs kk
 match ds,hz,hs with
 | [.tup xs],hz,hs =>
  cases hz
  obtain⟨v,rfl,hv⟩:=RPs.one hs
  obtain⟨p,ws,rfl,h1,h2⟩:=hv.tup
  exact⟨p,ws,rfl,.inr h1,by rw [RDs.length h2];exact kk _ H F (Gr.refl dom) rfl⟩
 | [.lst xs],hz,hs =>
  cases hz
  obtain⟨v,rfl,hv⟩:=RPs.one hs
  obtain⟨p,ws,rfl,h1,h2⟩:=hv.lst
  exact⟨p,ws,rfl,.inl h1,by rw [RDs.length h2];exact kk _ H F (Gr.refl dom) rfl⟩
theorem qDr:∀{xs:List D}{ts:List (List Int)},qEd xs=some ts->xs.length=ts.length/\∀(i:Nat) (is:List Int),ts[i]?=some is->∃ds:List D,xs[i]?=some (.tup ds)/\qAK ds=some is
 | [],ts,h=>by cases h;exact⟨rfl,λi is e=>by simp at e⟩
 | .tup ds::r,ts,h=>by
  obtain⟨is,e1,e2⟩:=qAb h
  obtain⟨ts',e3,e4⟩:=Option.map_eq_some_iff.mp e2
  subst e4
  obtain⟨h1,h2⟩:=qDr e3
  refine⟨by simp [h1],λi js e=>?_⟩
  cases i with
  | zero=>simp at e;subst e;exact⟨ds,rfl,e1⟩
  | succ i=>exact h2 i js (by simpa using e)
 | .non::_,_,h=>nomatch h
 | .bl _::_,_,h=>nomatch h
 | .int _::_,_,h=>nomatch h
 | .str _::_,_,h=>nomatch h
 | .lst _::_,_,h=>nomatch h
theorem qPn:BiR X .min (λxs H Q=>((∃i j,xs=[.int i,.int j]/\Q (.int (if j<i then j else i)) H)∨∃(p:Addr) (is:List Int) (m:Int),xs=[.ref p]/\SqL X.K H p (is.map V.int)/\mnL is=some m/\Q (.int m) H) ∨
  ∃(p:Addr) (vs:List V) (ts:List (List Int)) (m:List Int),xs=[.ref p]/\SqL X.K H p vs/\vs.length=ts.length /\
    (∀(i:Nat) (is:List Int),ts[i]?=some is->∃a:Addr,vs[i]?=some (V.ref a)/\SqT X.K H a (is.map V.int))/\mnT ts=some m/\∀(i:Nat) (v:V),vs[i]?=some v->ts[i]?=some m->Q v H):=by
 intro H F ds vs z Q hz dom hs kk
 match ds,hz,hs with
 | [.int i,.int j],hz,hs =>
  cases hz
  obtain⟨v,w,rfl,hv,hw⟩:=RPs.two hs
  exact .inl (.inl ⟨i,j,by rw [hv.int,hw.int],kk _ H F (Gr.refl dom) rfl⟩)
 | [.lst xs],hz,hs =>
  have hz:qMy xs=some z:=hz
  unfold qMy at hz
  split at hz
  ·rename_i is e1
   obtain⟨m,e3,e4⟩:=Option.map_eq_some_iff.mp hz
   subst e4
   obtain⟨v,rfl,hv⟩:=RPs.one hs
   obtain⟨p,ws,rfl,h1,h2⟩:=hv.lst
   rw [RDs.ints h2 e1] at h1
   exact .inl (.inr ⟨p,is,m,rfl,h1,e3,kk _ H F (Gr.refl dom) rfl⟩)
  ·obtain⟨ts,e1,e2⟩:=qAb hz
   obtain⟨m,e3,e4⟩:=Option.map_eq_some_iff.mp e2
   subst e4
   obtain⟨v,rfl,hv⟩:=RPs.one hs
   obtain⟨p,ws,rfl,h1,h2⟩:=hv.lst
   obtain⟨l1,g1⟩:=qDr e1
   have at_:∀(i:Nat) (is:List Int),ts[i]?=some is->∃a:Addr,ws[i]?=some (V.ref a)/\SqT X.K H a (is.map V.int):=λi is hi=>by
    obtain⟨ds,q1,q2⟩:=g1 i is hi
    obtain⟨v,r1,r2⟩:=RDs.get h2 q1
    obtain⟨a,us,rfl,r3,r4⟩:=r2
    rw [RDs.ints r4 q2] at r3
    exact⟨a,r1,r3⟩
   refine .inr ⟨p,ws,ts,m,rfl,h1,by rw [RDs.length h2];exact l1,at_,e3,λi v hv hm=>kk _ H F (Gr.refl dom) ?_⟩
   obtain⟨a,r1,r3⟩:=at_ i m hm
   rw [hv] at r1
   cases r1
   exact⟨a,_,rfl,r3,RDs.of_ints m⟩
theorem qPo:BiR X .max (λxs H Q=>((∃i j,xs=[.int i,.int j]/\Q (.int (if j > i then j else i)) H)∨∃i j k,xs=[.int i,.int j,.int k]/\Q (.int (if k > (if j > i then j else i) then k else (if j > i then j else i))) H)∨∃(p:Addr) (is:List Int) (m:Int),xs=[.ref p]/\SqL X.K H p (is.map V.int)/\mxL is=some m/\Q (.int m) H):=by
 intro H F ds vs z Q hz dom hs kk
 match ds,hz,hs with
 | [.int i,.int j],hz,hs =>
  cases hz
  obtain⟨v,w,rfl,hv,hw⟩:=RPs.two hs
  exact .inl (.inl ⟨i,j,by rw [hv.int,hw.int],kk _ H F (Gr.refl dom) rfl⟩)
 | [.int i,.int j,.int l],hz,hs =>
  cases hz
  obtain⟨v,w,u,rfl,hv,hw,hu⟩:=RPs.three hs
  exact .inl (.inr ⟨i,j,l,by rw [hv.int,hw.int,hu.int],kk _ H F (Gr.refl dom) rfl⟩)
 | [.lst xs],hz,hs =>
  obtain⟨is,e1,e2⟩:=qAb hz
  obtain⟨m,e3,e4⟩:=Option.map_eq_some_iff.mp e2
  subst e4
  obtain⟨v,rfl,hv⟩:=RPs.one hs
  obtain⟨p,ws,rfl,h1,h2⟩:=hv.lst
  rw [RDs.ints h2 e1] at h1
  exact .inr ⟨p,is,m,rfl,h1,e3,kk _ H F (Gr.refl dom) rfl⟩
theorem qPm:BiR X .sum (λxs H Q=>∃(p:Addr) (is:List Int),xs=[.ref p]/\SqL X.K H p (is.map V.int)/\Q (.int is.sum) H):=by
 intro H F ds vs z Q hz dom hs kk
 match ds,hz,hs with
 | [.lst xs],hz,hs =>
  obtain⟨is,e1,e2⟩:=Option.map_eq_some_iff.mp hz
  subst e2
  obtain⟨v,rfl,hv⟩:=RPs.one hs
  obtain⟨p,ws,rfl,h1,h2⟩:=hv.lst
  rw [RDs.ints h2 e1] at h1
  exact⟨p,is,rfl,h1,kk _ H F (Gr.refl dom) rfl⟩
theorem RDs.hds {K:PySem.W.Frag}{H:Hp}{F:Fz}:∀{ds:List D}{vs:List V}{is:List Int},RDs K H F ds vs->qEB ds=some is->HdV K H vs is
 | [],vs,is,h,e=>by
  cases e
  cases h
  trivial
 | d::ds,vs,is,h,e=>by
  obtain⟨v,r,rfl,h1,h2⟩:=h
  unfold qEB at e
  split at e
  ·cases ‹d::ds=[]›
  ·rename_i i ws r' he
   cases he
   obtain⟨is',e1,rfl⟩:=Option.map_eq_some_iff.mp e
   obtain⟨a,xs,rfl,a1,a2⟩:=h1
   obtain⟨x,xr,rfl,b1,b2⟩:=a2
   cases b1
   refine⟨⟨a,xr,rfl,a1,?_⟩,RDs.hds h2 e1⟩
   clear a1
   have sm:∀{ds:List D} {vs:List V},RDs K H F ds vs->∀x∈vs,SmV x:=by
    intro ds
    induction ds with
    | nil=>intro vs h x hx;cases h;exact nomatch hx
    | cons d ds ih =>
     intro vs h x hx
     obtain⟨v,r,rfl,q1,q2⟩:=h
     rcases List.mem_cons.mp hx with rfl|hx
     ·cases d with
      | non=>cases q1;trivial
      | bl _=>cases q1;trivial
      | int _=>cases q1;trivial
      | str _=>cases q1;trivial
      | tup _=>obtain⟨a,_,rfl,_⟩:=q1;trivial
      | lst _=>obtain⟨a,_,rfl,_⟩:=q1;trivial
      | dct _ _=>exact q1.elim
      | obj _ _=>exact q1.elim
      | exc _=>exact q1.elim
     ·exact ih q2 x hx
   exact sm b2
  ·cases e
theorem RDs.pick {K:PySem.W.Frag}{H:Hp}{F:Fz}:∀{ds:List D}{vs:List V},RDs K H F ds vs->∀(k:Nat),k<vs.length->RD K H F (ds.getD k .non) (vs.getD k .non)
 | [],vs,h,k,hk=>by cases h;exact absurd hk (Nat.not_lt_zero _)
 | d::ds,vs,h,k,hk=>by
  obtain⟨v,r,rfl,h1,h2⟩:=h
  cases k with
  | zero=>exact h1
  | succ k=>exact RDs.pick h2 k (Nat.lt_of_succ_lt_succ hk)
theorem RDs.picks {K:PySem.W.Frag}{H:Hp}{F:Fz}{ds:List D}{vs:List V}(h:RDs K H F ds vs):∀(ks:List Nat),(∀k∈ks,k<vs.length)->RDs K H F (ks.map λk=>ds.getD k .non) (ks.map λk=>vs.getD k .non)
 | [],_=>rfl
 | k::ks,hk=>⟨_,_,rfl,h.pick k (hk k List.mem_cons_self),h.picks ks λj hj=>hk j (List.mem_cons_of_mem _ hj)⟩
theorem qIH:BiR X .sorted (λxs H Q=>(∃(p:Addr) (is:List Int),xs=[.ref p]/\(SqL X.K H p (is.map V.int)∨SqT X.K H p (is.map V.int))/\is.length<64/\∀l,H l=none->Q (.ref l) (upd H l (.lst ((qE2 is).map V.int)))) ∨
  ∃(p:Addr) (vs:List V) (is:List Int),xs=[.ref p]/\SqL X.K H p vs/\HdV X.K H vs is/\is.Nodup/\is.length<64/\∀l,H l=none->Q (.ref l) (upd H l (.lst ((qCA is).map λk=>vs.getD k .non)))):=by
 intro H F ds vs z Q hz dom hs kk
 match ds,hz,hs with
 | [.lst xs],hz,hs =>
  obtain⟨v,rfl,hv⟩:=RPs.one hs
  obtain⟨p,ws,rfl,h1,h2⟩:=hv.lst
  have hz':qLq xs=some z:=hz
  unfold qLq at hz'
  split at hz'
  ·rename_i is e1
   obtain⟨h64,rfl⟩:=qAt hz'
   rw [RDs.ints h2 e1] at h1
   refine .inl ⟨p,is,rfl,.inl h1,h64,λl hl=>?_⟩
   obtain⟨g,rr⟩:=qBi dom hl (RDs.of_ints (qE2 is))
   exact kk _ _ _ g rr
  ·obtain⟨is,e1,e2⟩:=qAb hz'
   obtain⟨h64,rfl⟩:=qAt e2
   have hh:=RDs.hds h2 e1
   refine .inr ⟨p,ws,is,rfl,h1,hh,h64.1,h64.2,λl hl=>?_⟩
   obtain⟨g,rr⟩:=qBi dom hl (h2.picks (qCA is) λk hk=>by rw [hh.len];simpa using (qCe is).mem_iff.mp hk)
   exact kk _ _ _ g rr
 | [.tup xs],hz,hs =>
  obtain⟨is,e1,e2⟩:=qAb hz
  obtain⟨h64,rfl⟩:=qAt e2
  obtain⟨v,rfl,hv⟩:=RPs.one hs
  obtain⟨p,ws,rfl,h1,h2⟩:=hv.tup
  rw [RDs.ints h2 e1] at h1
  refine .inl ⟨p,is,rfl,.inr h1,h64,λl hl=>?_⟩
  obtain⟨g,rr⟩:=qBi dom hl (RDs.of_ints (qE2 is))
  exact kk _ _ _ g rr
theorem qKi:BiR X .tuple (λxs H Q=>∃p ys,xs=[.ref p]/\((SqL X.K H p ys/\∀l,H l=none->Q (.ref l) (upd H l (.tup ys)))∨(SqT X.K H p ys/\Q (.ref p) H))):=by
 intro H F ds vs z Q hz dom hs kk
 match ds,hz,hs with
 | [.lst xs],hz,hs =>
  cases hz
  obtain⟨v,rfl,hv⟩:=RPs.one hs
  obtain⟨p,ws,rfl,h1,h2⟩:=hv.lst
  refine⟨p,ws,rfl,.inl ⟨h1,λl hl=>?_⟩⟩
  obtain⟨g,rr⟩:=qBY dom hl h2
  exact kk _ _ _ g rr
 | [.tup xs],hz,hs =>
  cases hz
  obtain⟨v,rfl,hv⟩:=RPs.one hs
  obtain⟨p,ws,rfl,h1,h2⟩:=hv.tup
  exact⟨p,ws,rfl,.inr ⟨h1,kk _ H F (Gr.refl dom) ⟨p,ws,rfl,h1,h2⟩⟩⟩
theorem qM6:BiR X .list (λxs H Q=>∃p ys,xs=[.ref p]/\(SqL X.K H p ys∨SqT X.K H p ys)/\∀l,H l=none->Q (.ref l) (upd H l (.lst ys))):=by
 intro H F ds vs z Q hz dom hs kk
 match ds,hz,hs with
 | [.lst xs],hz,hs =>
  cases hz
  obtain⟨v,rfl,hv⟩:=RPs.one hs
  obtain⟨p,ws,rfl,h1,h2⟩:=hv.lst
  refine⟨p,ws,rfl,.inl h1,λl hl=>?_⟩
  obtain⟨g,rr⟩:=qBi dom hl h2
  exact kk _ _ _ g rr
 | [.tup xs],hz,hs =>
  cases hz
  obtain⟨v,rfl,hv⟩:=RPs.one hs
  obtain⟨p,ws,rfl,h1,h2⟩:=hv.tup
  refine⟨p,ws,rfl,.inr h1,λl hl=>?_⟩
  obtain⟨g,rr⟩:=qBi dom hl h2
  exact kk _ _ _ g rr
theorem qPq:BiR X .int (λxs H Q=>(∃i,xs=[.int i]/\Q (.int i) H)∨∃k,xs=[.bl k]/\Q (.int (if k then 1 else 0)) H):=by
 intro H F ds vs z Q hz dom hs kk
 match ds,hz,hs with
 | [.bl b],hz,hs =>
  cases hz
  obtain⟨v,rfl,hv⟩:=RPs.one hs
  exact .inr ⟨b,by rw [hv.bl],kk _ H F (Gr.refl dom) rfl⟩
 | [.int i],hz,hs =>
  cases hz
  obtain⟨v,rfl,hv⟩:=RPs.one hs
  exact .inl ⟨i,by rw [hv.int],kk _ H F (Gr.refl dom) rfl⟩
theorem qPg:bootBuiltins (Str.ofString "len")=some (.builtin "len"):=by decide +kernel
theorem qPe:bootBuiltins (Str.ofString "min")=some (.builtin "min"):=by decide +kernel
theorem qPf:bootBuiltins (Str.ofString "max")=some (.builtin "max"):=by decide +kernel
theorem qPc:bootBuiltins (Str.ofString "sum")=some (.builtin "sum"):=by decide +kernel
theorem qEO:bootBuiltins (Str.ofString "sorted")=some (.builtin "sorted"):=by decide +kernel
theorem qPh:bootBuiltins (Str.ofString "isinstance")=some (.builtin "isinstance"):=by decide +kernel
theorem qGf:bootBuiltins (Str.ofString "tuple")=some (.type "tuple"):=by decide +kernel
theorem qIF:bootBuiltins (Str.ofString "list")=some (.type "list"):=by decide +kernel
theorem qKW:bootBuiltins (Str.ofString "int")=some (.type "int"):=by decide +kernel
theorem qM5:bootBuiltins (Str.ofString "bool")=some (.type "bool"):=by decide +kernel
theorem qPd:bootBuiltins (Str.ofString "str")=some (.type "str"):=by decide +kernel
theorem qDK {x:Str}(h:qAO x=true):x≠"__name__"/\(x == ("__debug__":Str))=false:=by
 unfold qAO at h
 simp only [Bool.and_eq_true,bne_iff_ne,ne_eq] at h
 exact⟨h.2,beq_eq_false_iff_ne.mpr h.1.1⟩
theorem qBC {x:Str}{s:String}(h:x=Str.ofString s) (hs:s∈["len","abs","min","max","sum","all","tuple","list","int","bool","str","isinstance","range","zip","reversed","sorted","enumerate","any"]):x∈qAu:=by
 subst h
 exact List.mem_map.mpr ⟨s,hs,rfl⟩
theorem qHb (g:XG call G k X sc N) {x:Str}{b:BI}{es:List Expr}{cs:List C}{p pos:Pos}(hb:qQR x es.length=some b) (hd:G.defs.lookup x=none) (hg:glB sc x=true) (hp:qAO x=true) (hn:es.all qBN=true) (h:qEV call X es cs) :
  SndE call X (.Call (.Name x p) es [] pos) (.bi b cs):=by
 obtain⟨h1,h2⟩:=qDK hp
 have gx:=g.gl x hg
 have bl:∀s:String,x=Str.ofString s->s∈["len","abs","min","max","sum","all","tuple","list","int","bool","str","isinstance","range","zip","reversed","sorted","enumerate","any"]->X.mg x=none:=λs e hs=>g.blt x hd (qBC e hs)
 have ne:∀{n:Nat},es.length=n+1->es≠[]:=λe z=>by rw [z] at e;cases e
 unfold qQR at hb
 split at hb
 ·rename_i e
  split at hb
  ·rename_i hl
   cases hb
   exact qEk qEN gx (bl _ e (by decide)) (by rw [e];exact qPg) h1 h2 hn (ne hl) h qPp
  ·cases hb
 split at hb
 ·rename_i e
  split at hb
  ·rename_i hl
   cases hb
   exact qEk (((qIw g.calm).or (qIx g.calm)).or (qIv g.calm (by have:=g.room.units;omega))) gx (bl _ e (by decide)) (by rw [e];exact qPe) h1 h2 hn (hl.elim (λz=>ne z) (λz=>ne z)) h qPn
  ·cases hb
 split at hb
 ·rename_i e
  split at hb
  ·rename_i hl
   cases hb
   exact qEk (((qIz g.calm).or (qIy g.calm)).or (qIA g.calm)) gx (bl _ e (by decide)) (by rw [e];exact qPf) h1 h2 hn (hl.elim (λz=>ne z) (λz=>z.elim (λz=>ne z) (λz=>ne z))) h qPo
  ·cases hb
 split at hb
 ·rename_i e
  split at hb
  ·rename_i hl
   cases hb
   exact qEk (qIt g.calm) gx (bl _ e (by decide)) (by rw [e];exact qPc) h1 h2 hn (ne hl) h qPm
  ·cases hb
 split at hb
 ·rename_i e
  split at hb
  ·rename_i hl
   cases hb
   exact qDF qD5 gx (bl _ e (by decide)) (by rw [e];exact qGf) h1 h2 hn (ne hl) h qKi
  ·cases hb
 split at hb
 ·rename_i e
  split at hb
  ·rename_i hl
   cases hb
   exact qDF qEM gx (bl _ e (by decide)) (by rw [e];exact qIF) h1 h2 hn (ne hl) h qM6
  ·cases hb
 split at hb
 ·rename_i e
  split at hb
  ·rename_i hl
   cases hb
   exact qDF qIC gx (bl _ e (by decide)) (by rw [e];exact qKW) h1 h2 hn (ne hl) h qPq
  ·cases hb
 unfold qPr at hb
 split at hb
 ·rename_i e
  split at hb
  ·rename_i hl
   cases hb
   exact qEk (qJG qEL qEK) gx (bl _ e (by decide)) (by rw [e];exact qEO) h1 h2 hn (ne hl) h qIH
  ·cases hb
 ·cases hb
theorem qLb {t:Str}{ty:Ty}(h:qPx t=some ty):bootBuiltins t=some (.type (qEc ty))/\t∈qAu/\qAO t=true:=by
 unfold qPx at h
 split at h
 ·rename_i e;subst e;cases h;exact⟨qKW,qBC rfl (by decide),by decide +kernel⟩
 split at h
 ·rename_i e;subst e;cases h;exact⟨qM5,qBC rfl (by decide),by decide +kernel⟩
 split at h
 ·rename_i e;subst e;cases h;exact⟨qGf,qBC rfl (by decide),by decide +kernel⟩
 split at h
 ·rename_i e;subst e;cases h;exact⟨qIF,qBC rfl (by decide),by decide +kernel⟩
 split at h
 ·rename_i e;subst e;cases h;exact⟨qPd,qBC rfl (by decide),by decide +kernel⟩
 ·cases h
theorem qLH (g:XG call G k X sc N) {f t:Str}{ty:Ty}{a:Expr}{ca:C}{p p2 pos:Pos}(hf:f=Str.ofString "isinstance") (hd:G.defs.lookup f=none) (hdt:G.defs.lookup t=none) (hg:glB sc f=true) (hgt:glB sc t=true) (ht:qPx t=some ty) (hn:qBN a=true) (h:qE0 call X a ca) :
  SndE call X (.Call (.Name f p) [a,.Name t p2] [] pos) (.isi ca ty):=by
 obtain⟨b1,b2,b3⟩:=qLb ht
 obtain⟨n1,n2⟩:=qDK b3
 have hm:X.mg f=none:=g.blt f hd (qBC hf (by decide))
 obtain⟨ta,pa,qa⟩:=h
 have pt:PE X (.Name t p2) (tC (.ty (qEc ty))):=qL9 (g.gl t hgt) (g.blt t hdt b2) b1 rfl n1 n2
 refine⟨_,qFK qIB (g.gl f hg) hm (by rw [hf];exact qPh) (qBe pa (qBe pt qB3) (qAx hn)) (by rw [hf];decide +kernel) (by rw [hf];decide +kernel) (qAx hn) (by rfl),λGe H F σ τ z Q hz hs kk=>?_⟩
 obtain⟨x,ex,ez⟩:=qAb (by simpa only [qIb] using hz)
 cases ez
 refine qa Ge H F σ τ x _ ex hs λv H1 F1 g1 rx=>?_
 exact⟨v,x,F1,ty,rfl,rx,kk _ H1 F1 g1 rfl⟩
end
end Dw
namespace Dw
open PySem PySem.Spec PyProof.Rows L2
theorem qFC (f:Str) (v:V):∀fs:List (Str×V),(qDk f v fs).length<=fs.length+1
 | []=>by simp [qDk]
 | (g,x)::r=>by
  unfold qDk
  split
  ·simp
  ·have:=qFC f v r;simp;omega
noncomputable def qFd (sc:Scope) (N:List Str):Nat->List Str->List Stmt->Bool
 | _,[],[]=>true
 | j,f::ns,.Assign [.Attribute (.Name s _) g _] (.Name p _) _::r=>g == f&&qBA sc N s == some 0&&qBA sc N p == some (j+1)&&qFd sc N (j+1) ns r
 | _,_,_=>false
section
variable {call:Nat->List D->Option R}{G:Gx}{k:Nat}{X:Cx}{sc:Scope}{N:List Str}
theorem qGz {sc:Scope}{N:List Str}{j:Nat}{f:Str}{ns:List Str}{st:Stmt}{r:List Stmt}(h:qFd sc N j (f::ns) (st::r)=true):∃s sp gp p pp ap,st=.Assign [.Attribute (.Name s sp) f gp] (.Name p pp) ap/\qBA sc N s=some 0/\qBA sc N p=some (j+1)/\qFd sc N (j+1) ns r=true:=by
 unfold qFd at h
 split at h
 ·rename_i h1 h2;cases h2
 ·rename_i _ _ _ _ s sp g' gp p pp ap _ e1 e2
  cases e1
  cases e2
  rw [Bool.and_eq_true,Bool.and_eq_true,Bool.and_eq_true] at h
  obtain⟨⟨⟨hf,hs⟩,hp⟩,hr⟩:=h
  have hf:g'=f:=by simpa using hf
  subst hf
  exact⟨s,sp,gp,p,pp,ap,rfl,by simpa using hs,by simpa using hp,hr⟩
 ·cases h
theorem qEz (g:XG call G k X sc N):∀(ns:List Str) (j:Nat) (body:List Stmt),qFd sc N j ns body=true->∃t,PSs X body t/\∀(σ:L2.St) (H:Hp) (x C dx:Addr) (fs:List (Str×V)) (ws:List V) (Dn:Ends),σ[0]?=some (some (.ref x))->(∀i w,ws[i]?=some w->σ[j+1+i]?=some (some w))->ws.length=ns.length ->
  H x=some (.ins C dx fs)->Cls X.K C->(∀f∈ns,NoAttr X.K C f)->fs.length+ns.length<1000->Dn.nx σ (upd H x (.ins C dx (qP9 ns ws fs)))->t Dn σ H
 | [],j,[],_=>⟨_,qHn,fun σ H x C dx fs ws Dn h0 hw hl hH hC hN hz hq=>by
   have e:upd H x (.ins C dx fs)=H:=by
    funext b
    by_cases h:b=x
    ·subst h;rw [qAw,hH]
    ·rw [qAc h]
   have hq:Dn.nx σ (upd H x (.ins C dx fs)):=hq
   rw [e] at hq
   exact hq⟩
 | [],_,_::_,h=>by cases h
 | f::ns,j,[],h=>by cases h
 | f::ns,j,st::r,h=>by
  obtain⟨s,sp,gp,p,pp,ap,rfl,hs,hp,hr⟩:=qGz h
  obtain⟨s1,s2,s3,s4⟩:=qDo g hs
  obtain⟨p1,p2,p3,p4⟩:=qDo g hp
  obtain⟨t,pt,qt⟩:=qEz g ns (j+1) r hr
  refine⟨_,qFG (qN4 (qCs (i:=0) s1 s2 s3 s4) (qCs (i:=j+1) p1 p2 p3 p4) rfl) pt,fun σ H x C dx fs ws Dn h0 hw hl hH hC hN hz hq=>?_⟩
  cases ws with
  | nil=>simp at hl
  | cons w ws =>
   refine⟨w,hw 0 w rfl,.ref x,h0,x,C,dx,fs,rfl,hH,hC,hN _ List.mem_cons_self,by simp at hz;omega,?_⟩
   refine qt σ _ x C dx (qDk f w fs) ws Dn h0 (λi u hi=>?_) (by simpa using hl) qAw hC (λf hf=>hN f (List.mem_cons_of_mem _ hf)) (by have:=qFC f w fs;simp at hz;omega) ?_
   ·have:=hw (i+1) u (by simpa using hi)
    rw [show j+1+1+i=j+1+(i+1) by omega]
    exact this
   ·rw [qK8]
    exact hq
end
end Dw
namespace Dw
open PySem PySem.Spec PyProof.Rows L2
theorem qAy {σ:En}{i:Nat}{o:Option R}(h:i<σ.length):qAg (σ.set i o) i=o:=by
 simp [qAg,h]
theorem qAE {σ:En}{i j:Nat}{o:Option R}(h:i≠j):qAg (σ.set i o) j=qAg σ j:=by
 simp [qAg,List.getElem?_set_ne h]
theorem qA9 {σ:En}{i:Nat}{r:R}(h:qAg σ i=some r):i<σ.length:=by
 by_cases hi:i<σ.length
 ·exact hi
 ·have:σ[i]?=none:=List.getElem?_eq_none (by omega)
  simp [qAg,this] at h
section
variable {K:PySem.W.Frag}{G H H1:Hp}{F F1:Fz}{σ:En}{τ:L2.St}{i:Nat}{d:D}{v:V}
theorem SR.bind (s:SR K G H F σ τ) (h:RD K H F d v):SR K G H F (σ.set i (some (false,d))) (τ.set i (some v)):=by
 refine⟨by simp [s.len],s.ent,s.dom,λj e hj=>?_,λj e hj hd=>?_,λj k e e' hj hk hjk=>?_,λj m ks hj=>?_,λj ns ds hj=>?_,s.tb⟩
 ·by_cases hij:i=j
  ·subst hij
   have hl:i<σ.length:=by simpa using qA9 hj
   rw [qAy hl] at hj
   cases hj
   exact⟨v,by rw [List.getElem?_set_self (by rw [<-s.len];exact hl)],h⟩
  ·rw [qAE hij] at hj
   obtain⟨u,h1,h2⟩:=s.val j e hj
   exact⟨u,by rw [List.getElem?_set_ne hij];exact h1,h2⟩
 ·have hij:i≠j:=λz=>by
   subst z
   have hl:i<σ.length:=by simpa using qA9 hj
   rw [qAy hl] at hj
   cases hj
  rw [qAE hij] at hj
  obtain⟨a,ds,vs,h1,h2,h3⟩:=s.own j e hj hd
  exact⟨a,ds,vs,h1,by rw [List.getElem?_set_ne hij];exact h2,h3⟩
 ·have nj:∀{j:Nat} {e:D},qAg (σ.set i (some (false,d))) j=some (true,e)->i≠j:=λ{j e} hj z=>by
   subst z
   have hl:i<σ.length:=by simpa using qA9 hj
   rw [qAy hl] at hj
   cases hj
  have n1:=nj hj
  have n2:=nj hk
  rw [qAE n1] at hj
  rw [qAE n2] at hk
  rw [List.getElem?_set_ne n1,List.getElem?_set_ne n2] at hjk
  exact s.sep j k e e' hj hk hjk
 ·have hij:i≠j:=λz=>by
   subst z
   have hl:i<σ.length:=by simpa using qA9 hj
   rw [qAy hl] at hj
   cases hj
  rw [qAE hij] at hj
  obtain⟨a,h1,h2⟩:=s.dct j m ks hj
  exact⟨a,by rw [List.getElem?_set_ne hij];exact h1,h2⟩
 ·have hij:i≠j:=λz=>by
   subst z
   have hl:i<σ.length:=by simpa using qA9 hj
   rw [qAy hl] at hj
   cases hj
  rw [qAE hij] at hj
  obtain⟨a,h1,h2⟩:=s.obj j ns ds hj
  exact⟨a,by rw [List.getElem?_set_ne hij];exact h1,h2⟩
theorem SR.skip (s:SR K G H F σ τ) (h:qAg σ i=none):SR K G H F σ (τ.set i (some v)):=by
 have ne:∀{j:Nat} {r:R},qAg σ j=some r->i≠j:=λ{j r} e z=>by subst z;rw [h] at e;cases e
 refine⟨by simp [s.len],s.ent,s.dom,λj e hj=>?_,λj e hj hd=>?_,λj k e e' hj hk hjk=>?_,λj m ks hj=>?_,λj ns ds hj=>?_,s.tb⟩
 ·obtain⟨u,h1,h2⟩:=s.val j e hj
  exact⟨u,by rw [List.getElem?_set_ne (ne hj)];exact h1,h2⟩
 ·obtain⟨a,ds,vs,h1,h2,h3⟩:=s.own j e hj hd
  exact⟨a,ds,vs,h1,by rw [List.getElem?_set_ne (ne hj)];exact h2,h3⟩
 ·rw [List.getElem?_set_ne (ne hj),List.getElem?_set_ne (ne hk)] at hjk
  exact s.sep j k e e' hj hk hjk
 ·obtain⟨a,h1,h2⟩:=s.dct j m ks hj
  exact⟨a,by rw [List.getElem?_set_ne (ne hj)];exact h1,h2⟩
 ·obtain⟨a,h1,h2⟩:=s.obj j ns ds hj
  exact⟨a,by rw [List.getElem?_set_ne (ne hj)];exact h1,h2⟩
theorem SR.keep {G':Hp}(tb:TB G') (s:SR K G H F σ τ) (k:Keep H F H1 F1) (ent:Same G' H1) (dom:∀a,H1 a=none->¬F1 a)
  (own:∀i d,qAg σ i=some (true,d)->qMI d=false->∃a ds vs,d=.lst ds/\τ[i]?=some (some (.ref a))/\G' a=none/\¬F1 a/\H1 a=some (.lst vs)/\RDs K H1 F1 ds vs)
  (dct:∀i m ks,qAg σ i=some (true,.dct m ks)->∃a,τ[i]?=some (some (.ref a))/\¬F1 a/\H1 a=some (.dK (dk ks))/\(m=true->G' a=none))
  (obj:∀i ns ds,qAg σ i=some (true,.obj ns ds)->∃v,τ[i]?=some (some v)/\ObR K H1 F1 ns ds v):SR K G' H1 F1 σ τ:=
 ⟨s.len,ent,dom,λi d e=>let ⟨v,h1,h2⟩:=s.val i d e;⟨v,h1,RD.mono k h2⟩,own,s.sep,dct,obj,tb⟩
theorem Keep.trans {H2:Hp}{F2:Fz}(a:Keep H F H1 F1) (b:Keep H1 F1 H2 F2):Keep H F H2 F2:=
 ⟨λp xs h=>b.tups p xs (a.tups p xs h),λp xs f h=>b.lsts p xs (a.lsts p xs f h).1 (a.lsts p xs f h).2⟩
theorem Keep.refl:Keep H F H F:=⟨λ_ _ h=>h,λ_ _ f h=>⟨f,h⟩⟩
end
section
variable {call:Nat->List D->Option R}{G:Gx}{k:Nat}{X:Cx}{sc:Scope}{N:List Str}
noncomputable def gL:List Nat->TGs
 | []=>qQC
 | i::is=>qJZ (qFf i) (gL is)
noncomputable def gTg (K:PySem.W.Frag):Tg->TG
 | .one i=>qFf i
 | .two i j=>qQB K 2 (qJZ (qFf i) (qJZ (qFf j) qQC))
 | .many is=>qQB K is.length (gL is)
theorem qDw (g:XG call G k X sc N) {x:Str}(h:(sc.names.lookup x == some .local||sc.names.lookup x == some .cell)=true):Loc X.env.scope x/\(X.fn x=true∨X.env.scope.names.lookup x=some .local):=g.loc x h
theorem qKz (g:XG call G k X sc N) {tg:Expr}{t:Tg}(h:qEe sc N tg=some t):PG X tg (gTg X.K t):=by
 unfold qEe at h
 split at h
 ·rename_i x pos
  split at h
  ·rename_i hx
   cases hi:qAN N x with
   | none=>rw [hi] at h;cases h
   | some i =>
    rw [hi] at h
    cases h
    obtain⟨l1,l2⟩:=qDw g hx
    exact qDO (by rw [g.hN];exact g.nd) (by rw [g.hN];exact qBg hi) l1 l2
  ·cases h
 ·rename_i x p y p' kk pos
  split at h
  ·rename_i hx
   rw [Bool.and_eq_true,Bool.and_eq_true] at hx
   obtain⟨⟨hx,hy⟩,hne⟩:=hx
   cases hi:qAN N x with
   | none=>rw [hi] at h;cases h
   | some i =>
    cases hj:qAN N y with
    | none=>rw [hi,hj] at h;cases h
    | some j =>
     rw [hi,hj] at h
     cases h
     obtain⟨l1,l2⟩:=qDw g hx
     obtain⟨m1,m2⟩:=qDw g hy
     exact qKE g.calm (qDN (qDO (by rw [g.hN];exact g.nd) (by rw [g.hN];exact qBg hi) l1 l2) (qDN (qDO (by rw [g.hN];exact g.nd) (by rw [g.hN];exact qBg hj) m1 m2) qHt))
  ·cases h
 ·cases h
theorem qGU {K:PySem.W.Frag}{Ge H:Hp}{F:Fz}{σ σ':En}{τ:L2.St}{t:Tg}{d:D}{v:V}{Q:L2.St->Hp->Prop}(hm:∀is,t≠.many is) (s:SR K Ge H F σ τ) (hb:qBz σ t d=some σ') (hv:RD K H F d v)
  (h:∀τ',SR K Ge H F σ' τ'->(∀σ0:En,SR K Ge H F σ0 τ->(∀i,(t=.one i∨∃j,t=.two i j∨t=.two j i)->qAg σ0 i=none)->SR K Ge H F σ0 τ')->Q τ' H):gTg K t v τ H Q:=by
 cases t with
 | one i =>
  cases hb
  exact h _ (s.bind hv) fun σ0 s0 hn=>s0.skip (hn i (.inl rfl))
 | two i j =>
  unfold qBz at hb
  split at hb
  ·rename_i heq;cases heq
  ·rename_i i' j' x y heq
   cases heq
   cases hb
   obtain⟨a,vs,rfl,hs,hr⟩:=hv
   obtain⟨v1,r,rfl,h1,w,r2,e2,h2,h3⟩:=hr
   have h3:r2=[]:=h3
   subst h3
   subst e2
   exact⟨a,[v1,w],rfl,hs,rfl,v1,[w],rfl,w,[],rfl,rfl,h _ ((s.bind h1).bind h2) fun σ0 s0 hn=>(s0.skip (hn i (.inr ⟨j,.inl rfl⟩))).skip (hn j (.inr ⟨i,.inr rfl⟩))⟩
  ·rename_i heq;cases heq
  ·cases hb
 | many is=>exact absurd rfl (hm is)
theorem qCP {K:PySem.W.Frag}{Ge H:Hp}{F:Fz}{Q:L2.St->Hp->Prop}:∀{is:List Nat}{ds:List D}{vs:List V}{σ σ':En}{τ:L2.St},SR K Ge H F σ τ->qEm σ is ds=some σ'->RDs K H F ds vs->(∀τ',SR K Ge H F σ' τ'->Q τ' H)->gL is vs τ H Q
 | [],ds,vs,σ,σ',τ,s,hb,hv,h=>by
  cases ds with
  | nil=>cases hb;have hv:vs=[]:=hv;exact⟨hv,h _ s⟩
  | cons d r=>cases hb
 | i::is,ds,vs,σ,σ',τ,s,hb,hv,h=>by
  cases ds with
  | nil=>cases hb
  | cons d r =>
   obtain⟨v,w,rfl,h1,h2⟩:=hv
   exact⟨v,w,rfl,qCP (s.bind h1) hb h2 h⟩
theorem qDu:∀{is:List Nat}{ds:List D}{σ σ':En},qEm σ is ds=some σ'->ds.length=is.length
 | [],[],_,_,_=>rfl
 | [],_::_,_,_,h=>by cases h
 | _::_,[],_,_,h=>by cases h
 | i::is,d::ds,σ,σ',h=>by rw [List.length_cons,List.length_cons,qDu (show qEm (σ.set i (some (false,d))) is ds=some σ' from h)]
theorem qCy {K:PySem.W.Frag}{Ge H:Hp}{F:Fz}{σ σ':En}{τ:L2.St}{t:Tg}{d:D}{v:V}{Q:L2.St->Hp->Prop}(s:SR K Ge H F σ τ) (hb:qBz σ t d=some σ') (hv:RD K H F d v)
  (h:∀τ',SR K Ge H F σ' τ'->Q τ' H):gTg K t v τ H Q:=by
 cases t with
 | one i=>exact qGU (λ_ z=>nomatch z) s hb hv fun τ' s' _=>h τ' s'
 | two i j=>exact qGU (λ_ z=>nomatch z) s hb hv fun τ' s' _=>h τ' s'
 | many is =>
  unfold qBz at hb
  split at hb
  ·rename_i heq;cases heq
  ·rename_i heq;cases heq
  ·rename_i is' ds heq
   cases heq
   obtain⟨a,vs,rfl,hs,hr⟩:=hv
   exact⟨a,vs,rfl,hs,by rw [RDs.length hr];exact qDu hb,qCP s hb hr h⟩
  ·cases hb
theorem qQq (g:XG call G k X sc N) {e:Expr}{i:Nat}(h:qIX sc N e=some i):PG X e (qFf i)/\∃x p,e=.Name x p:=by
 unfold qIX at h
 split at h
 ·rename_i x pos
  split at h
  ·rename_i hx
   obtain⟨l1,l2⟩:=qDw g hx
   exact⟨qDO (by rw [g.hN];exact g.nd) (by rw [g.hN];exact qBg h) l1 l2,x,pos,rfl⟩
  ·cases h
 ·cases h
theorem qKG (g:XG call G k X sc N):∀{es:List Expr}{is:List Nat},qAU (qIX sc N) es=some is->PGs X es (gL is)/\(assignEach es X.env).length=is.length/\(assignEach es X.env).findIdx? (·.1)=none
 | [],is,h=>by cases h;exact⟨qHt,rfl,rfl⟩
 | e::es,is,h=>by
  unfold qAU at h
  cases hx:qIX sc N e with
  | none=>rw [hx] at h;cases h
  | some i =>
   rw [hx] at h
   cases hy:qAU (qIX sc N) es with
   | none=>simp only [Option.bind_some] at h;rw [hy] at h;cases h
   | some js =>
    simp only [Option.bind_some] at h
    rw [hy] at h
    cases h
    obtain⟨p1,x,p,rfl⟩:=qQq g hx
    obtain⟨q1,q2,q3⟩:=qKG g hy
    refine⟨qDN p1 q1 rfl,?_,?_⟩
    ·show (assignEach es X.env).length+1=_
     rw [q2];rfl
    ·show List.findIdx? _ ((false,_)::assignEach es X.env)=none
     rw [List.findIdx?_cons,q3];rfl
theorem qLd {tg:Expr}{t:Tg}(h:qEe sc N tg=some t):∀is,t≠.many is:=by
 intro is z
 subst z
 unfold qEe at h
 split at h
 ·split at h
  ·rename_i x _ _;cases hx:qAN N x<;>(rw [hx] at h;cases h)
  ·cases h
 ·split at h
  ·rename_i x _ y _ _ _ _;cases hx:qAN N x<;>rw [hx] at h<;>first|cases h|(cases hy:qAN N y<;>(rw [hy] at h;cases h))
  ·cases h
 ·cases h
theorem qLx (g:XG call G k X sc N) {tg:Expr}{t:Tg}(h:tgM sc N tg=some t):PG X tg (gTg X.K t):=by
 unfold tgM at h
 cases ht:qEe sc N tg with
 | some t' =>
  rw [ht] at h
  cases h
  exact qKz g ht
 | none =>
  rw [ht] at h
  cases tg with
  | Tuple es kk pos =>
   have h:(qAU (qIX sc N) es).map Tg.many=some t:=h
   cases hx:qAU (qIX sc N) es with
   | none=>rw [hx] at h;cases h
   | some is =>
    rw [hx] at h
    cases h
    obtain⟨q1,q2,q3⟩:=qKG g hx
    exact qKE g.calm q1 q2 q3
  | _=>cases h
end
noncomputable def qK1 (K:PySem.W.Frag) (J:It) (H:Hp) (F:Fz) (its:List D):Prop:=∀H' F',Keep H F H' F'->(∀a,H' a=none->¬F' a) ->
 (∀i d,its[i]?=some d->J.go i H'/\∀x H3,J.yld i H' x H3->∃F3,Gr H' F' H3 F3/\RD K H3 F3 d x)/\J.stop its.length H'
theorem qMH {K:PySem.W.Frag}{H:Hp}{F:Fz}{a:Addr}{ds:List D}{vs:List V}(h:LsR K H F a vs) (r:RDs K H F ds vs):qK1 K (Itl K a) H F ds:=by
 intro H' F' k dom
 have h':LsR K H' F' a vs:=h.elim (λz=>.inl (k.lsts _ _ z.1 z.2)) .inr
 have r':=RDs.mono k r
 have hl:=RDs.length r'
 refine⟨λi d hd=>?_,⟨vs,h'.sq,by omega⟩⟩
 obtain⟨v,e1,e2⟩:=RDs.get r' hd
 refine⟨⟨vs,v,h'.sq,e1⟩,λx H3 y=>?_⟩
 obtain⟨rfl,y⟩:=y
 have:=y vs h'.sq
 rw [e1] at this
 cases this
 exact⟨F',Gr.refl dom,e2⟩
theorem qOM {K:PySem.W.Frag}{H:Hp}{F:Fz}{a:Addr}{ds:List D}{vs:List V}(h:SqT K H a vs) (r:RDs K H F ds vs):qK1 K (Itt K a) H F ds:=by
 intro H' F' k dom
 have h':SqT K H' a vs:=h.elim (λz=>.inl (k.tups _ _ z)) .inr
 have r':=RDs.mono k r
 have hl:=RDs.length r'
 refine⟨λi d hd=>?_,⟨vs,h',by omega⟩⟩
 obtain⟨v,e1,e2⟩:=RDs.get r' hd
 refine⟨⟨vs,v,h',e1⟩,λx H3 y=>?_⟩
 obtain⟨rfl,y⟩:=y
 have:=y vs h'
 rw [e1] at this
 cases this
 exact⟨F',Gr.refl dom,e2⟩
theorem qON {K:PySem.W.Frag}{H:Hp}{F:Fz}(lo:Int) (n:Nat):qK1 K (Itr lo n) H F ((List.range n).map λi=>.int (lo+(i:Nat))):=by
 intro H' F' k dom
 refine⟨λi d hd=>?_,?_⟩
 ·rw [List.getElem?_map] at hd
  cases q:(List.range n)[i]? with
  | none=>rw [q] at hd;cases hd
  | some j =>
   rw [q] at hd
   obtain⟨hl,ej⟩:=List.getElem?_eq_some_iff.mp q
   simp at hl ej
   subst ej
   cases hd
   refine⟨hl,λx H3 y=>?_⟩
   obtain⟨rfl,rfl⟩:=y
   exact⟨F',Gr.refl dom,rfl⟩
 ·show n<=_
  simp
theorem qMG {K:PySem.W.Frag}{H:Hp}{F:Fz}(lo st:Int) (n:Nat):qK1 K (Its lo st n) H F ((List.range n).map λi=>.int (lo+(i:Nat) * st)):=by
 intro H' F' k dom
 refine⟨λi d hd=>?_,?_⟩
 ·rw [List.getElem?_map] at hd
  cases q:(List.range n)[i]? with
  | none=>rw [q] at hd;cases hd
  | some j =>
   rw [q] at hd
   obtain⟨hl,ej⟩:=List.getElem?_eq_some_iff.mp q
   simp at hl ej
   subst ej
   cases hd
   refine⟨hl,λx H3 y=>?_⟩
   obtain⟨rfl,rfl⟩:=y
   exact⟨F',Gr.refl dom,rfl⟩
 ·show n<=_
  simp
end Dw
namespace Dw
open PySem PySem.Spec PyProof.Rows L2
section
variable {prog:Program}{w:World}{A:Around}{E:Value->Shared->Prop}{s:Shared}
theorem qMo {p t:Addr}{k:Nat}{its:Array Value}{y:Value}{Q:Value->Shared->Prop}(hp:s.heap.IsTupleIter p t k) (ht:s.heap.IsTuple t its) (hy:its[k]?=some y)
  (q:∀h1,h1.IsTupleIter p t (k+1)->Heap.SameBut p s.heap h1->Q y { s with heap:=h1 }):wpAny (model prog w) A (Builtin.SmallTypes.nextOf (.ref p)) Q E s:=by
 obtain⟨b,b1,b2,b3⟩:=id hp;obtain⟨c,c1,_,n1,c3⟩:=ht;unfold Builtin.SmallTypes.nextOf
 refine wpAny_bind (wpAny_callSpecial?_slot (name:=Str.ofString "__next__") hp.typeIs F.slot_tuple_iterator_next (wpAny_call_entry F.slot_tuple_iterator_next hp.typeIs F.entry_tuple_iterator_next ?_ (F.args_tuple_iterator_next_1 _)))
 show wpAny _ _ (field (.ref p) 0 >>= _) _ _ s
 refine wpAny_bind (wpAny_field b1 b3 (x:=.ref t) rfl ?_);show wpAny _ _ (if (Value.ref t == Value.none)=true then _ else _) _ _ s
 rw [if_neg (show ¬((Value.ref t == Value.none)=true) from Bool.false_ne_true)];show wpAny _ _ (field (.ref p) 1 >>= _) _ _ s
 refine wpAny_bind (wpAny_field b1 b3 (x:=.int k 0) rfl ?_);show wpAny _ _ (seqItems? (.ref t) >>= _) _ _ s
 refine wpAny_bind (wpAny_seqItems c1 c3 ?_);simp only [hy,Int.toNat_natCast]
 refine wpAny_bind (wpAny_setField b1 b3 (by simp) (wpAny_pure ⟨y,rfl,wpAny_pure (q _ ?_ (Heap.SameBut.update ..))⟩))
 exact⟨_,Heap.get?_update_self _ b1 (Obj.isFreed_of_fields (Obj.data_mapFields b3 _)),(Obj.cls_mapFields ..).trans b2,by (rw [Obj.data_mapFields b3];simp [rawInt])⟩
theorem qOr {p t:Addr}{k:Nat}{its:Array Value}{Q:Value->Shared->Prop}(hh:A.handled=none) (hp:s.heap.IsTupleIter p t k) (ht:s.heap.IsTuple t its) (hy:its[k]?=none)
  (q:∀h1 e,Heap.ExtBut p s.heap h1->(∃o,h1.get? e=some o/\o.cls=.type "StopIteration")->E (.ref e) { s with heap:=h1 }):wpAny (model prog w) A (Builtin.SmallTypes.nextOf (.ref p)) Q E s:=by
 obtain⟨b,b1,b2,b3⟩:=id hp;obtain⟨c,c1,_,n1,c3⟩:=ht;unfold Builtin.SmallTypes.nextOf
 refine wpAny_bind (wpAny_callSpecial?_slot (name:=Str.ofString "__next__") hp.typeIs F.slot_tuple_iterator_next (wpAny_call_entry F.slot_tuple_iterator_next hp.typeIs F.entry_tuple_iterator_next ?_ (F.args_tuple_iterator_next_1 _)))
 show wpAny _ _ (field (.ref p) 0 >>= _) _ _ s
 refine wpAny_bind (wpAny_field b1 b3 (x:=.ref t) rfl ?_);show wpAny _ _ (if (Value.ref t == Value.none)=true then _ else _) _ _ s
 rw [if_neg (show ¬((Value.ref t == Value.none)=true) from Bool.false_ne_true)];show wpAny _ _ (field (.ref p) 1 >>= _) _ _ s
 refine wpAny_bind (wpAny_field b1 b3 (x:=.int k 0) rfl ?_);show wpAny _ _ (seqItems? (.ref t) >>= _) _ _ s
 refine wpAny_bind (wpAny_seqItems c1 c3 ?_);simp only [hy,Int.toNat_natCast]
 refine wpAny_bind (wpAny_rule (wpAny_bind (wpAny_setField b1 b3 (by simp) ?_)));show wpAny _ _ (newExc (.type "StopIteration") [] >>= _) _ _ _
 refine wpAny_bind ?_;simp only [newExc,newTuple];refine wpAny_bind (wpAny_newObj_type ?_ (by size_fits))
 refine wpAny_bind (m:=firstArgMember _ _) (wpAny_of_eq (a:=Value.none) (by first|rfl|(simp only [firstArgMember];rfl)) ?_);refine wpAny_newObj_type ?_ (by size_fits)
 simp only [raiseNew];refine wpAny_bind (wpAny_handled ?_);first|rw [show A.in1.handled=none from hh]|rw [hh]
 refine wpAny_bind (wpAny_pure (wpAny_throw ?_));exact q _ _ (((Heap.SameBut.update ..).extBut.push _).push _) ⟨_,Heap.get?_push_size _ rfl,rfl⟩
theorem qMr {p t:Addr}{k:Nat}{its:Array Value}{y:Value}{Q:Value->Shared->Prop}(hp:s.heap.IsListIter p t k) (ht:s.heap.IsList t its) (hy:its[k]?=some y)
  (q:∀h1,h1.IsListIter p t (k+1)->Heap.SameBut p s.heap h1->Q y { s with heap:=h1 }):wpAny (model prog w) A (Builtin.SmallTypes.nextOf (.ref p)) Q E s:=by
 obtain⟨b,b1,b2,b3⟩:=id hp;obtain⟨c,c1,_,n1,c3⟩:=ht;unfold Builtin.SmallTypes.nextOf
 refine wpAny_bind (wpAny_callSpecial?_slot (name:=Str.ofString "__next__") hp.typeIs PySem.slot_listiter_next (wpAny_call_entry PySem.slot_listiter_next hp.typeIs PySem.entry_listiter_next ?_ (PySem.args_listiter_next _)))
 show wpAny _ _ (field (.ref p) 0 >>= _) _ _ s
 refine wpAny_bind (wpAny_field b1 b3 (x:=.ref t) rfl ?_);show wpAny _ _ (if (Value.ref t == Value.none)=true then _ else _) _ _ s
 rw [if_neg (show ¬((Value.ref t == Value.none)=true) from Bool.false_ne_true)];show wpAny _ _ (field (.ref p) 1 >>= _) _ _ s
 refine wpAny_bind (wpAny_field b1 b3 (x:=.int k 0) rfl ?_);show wpAny _ _ (seqItems? (.ref t) >>= _) _ _ s
 refine wpAny_bind (wpAny_seqItems c1 c3 ?_);simp only [hy,Int.toNat_natCast]
 refine wpAny_bind (wpAny_setField b1 b3 (by simp) (wpAny_pure ⟨y,rfl,wpAny_pure (q _ ?_ (Heap.SameBut.update ..))⟩))
 exact⟨_,Heap.get?_update_self _ b1 (Obj.isFreed_of_fields (Obj.data_mapFields b3 _)),(Obj.cls_mapFields ..).trans b2,by (rw [Obj.data_mapFields b3];simp [rawInt])⟩
theorem qOv {p t:Addr}{k:Nat}{its:Array Value}{Q:Value->Shared->Prop}(hh:A.handled=none) (hp:s.heap.IsListIter p t k) (ht:s.heap.IsList t its) (hy:its[k]?=none)
  (q:∀h1 e,Heap.ExtBut p s.heap h1->(∃o,h1.get? e=some o/\o.cls=.type "StopIteration")->E (.ref e) { s with heap:=h1 }):wpAny (model prog w) A (Builtin.SmallTypes.nextOf (.ref p)) Q E s:=by
 obtain⟨b,b1,b2,b3⟩:=id hp;obtain⟨c,c1,_,n1,c3⟩:=ht;unfold Builtin.SmallTypes.nextOf
 refine wpAny_bind (wpAny_callSpecial?_slot (name:=Str.ofString "__next__") hp.typeIs PySem.slot_listiter_next (wpAny_call_entry PySem.slot_listiter_next hp.typeIs PySem.entry_listiter_next ?_ (PySem.args_listiter_next _)))
 show wpAny _ _ (field (.ref p) 0 >>= _) _ _ s
 refine wpAny_bind (wpAny_field b1 b3 (x:=.ref t) rfl ?_);show wpAny _ _ (if (Value.ref t == Value.none)=true then _ else _) _ _ s
 rw [if_neg (show ¬((Value.ref t == Value.none)=true) from Bool.false_ne_true)];show wpAny _ _ (field (.ref p) 1 >>= _) _ _ s
 refine wpAny_bind (wpAny_field b1 b3 (x:=.int k 0) rfl ?_);show wpAny _ _ (seqItems? (.ref t) >>= _) _ _ s
 refine wpAny_bind (wpAny_seqItems c1 c3 ?_);simp only [hy,Int.toNat_natCast]
 refine wpAny_bind (wpAny_rule (wpAny_bind (wpAny_setField b1 b3 (by simp) ?_)));show wpAny _ _ (newExc (.type "StopIteration") [] >>= _) _ _ _
 refine wpAny_bind ?_;simp only [newExc,newTuple];refine wpAny_bind (wpAny_newObj_type ?_ (by size_fits))
 refine wpAny_bind (m:=firstArgMember _ _) (wpAny_of_eq (a:=Value.none) (by first|rfl|(simp only [firstArgMember];rfl)) ?_);refine wpAny_newObj_type ?_ (by size_fits)
 simp only [raiseNew];refine wpAny_bind (wpAny_handled ?_);first|rw [show A.in1.handled=none from hh]|rw [hh]
 refine wpAny_bind (wpAny_pure (wpAny_throw ?_));exact q _ _ (((Heap.SameBut.update ..).extBut.push _).push _) ⟨_,Heap.get?_push_size _ rfl,rfl⟩
noncomputable def SqH:Bool->Heap->Addr->Array Value->Prop
 | true,h,t,its=>h.IsList t its
 | false,h,t,its=>h.IsTuple t its
noncomputable def SqI:Bool->Heap->Addr->Addr->Nat->Prop
 | true,h,p,t,k=>h.IsListIter p t k
 | false,h,p,t,k=>h.IsTupleIter p t k
theorem SqI.extBut {kd:Bool}{h h':Heap}{a b t:Addr}{i:Nat}(x:SqI kd h a t i) (hs:Heap.ExtBut b h h') (hab:a≠b):SqI kd h' a t i:=by
 cases kd with
 | true=>exact Heap.IsListIter.extBut x hs hab
 | false=>exact Heap.IsTupleIter.extBut x hs hab
theorem SqI.at {kd:Bool}{h h':Heap}{a t:Addr}{i:Nat}(x:SqI kd h a t i) (e:∀o,h.get? a=some o->h'.get? a=some o):SqI kd h' a t i:=by
 cases kd with
 | true=>exact Heap.IsListIter.at x e
 | false=>exact Heap.IsTupleIter.at x e
theorem SqI.rec' {kd:Bool}{h:Heap}{a t:Addr}{i:Nat}(x:SqI kd h a t i):∃o,h.get? a=some o/\∀v,o.data≠.cell v:=by
 cases kd with
 | true=>obtain⟨o,e,c,d⟩:=x;exact⟨o,e,λv r=>by rw [d] at r;cases r⟩
 | false=>obtain⟨o,e,c,d⟩:=x;exact⟨o,e,λv r=>by rw [d] at r;cases r⟩
theorem SqH.but {kd:Bool}{h h':Heap}{p t:Addr}{its:Array Value}(ht:SqH kd h t its) (hs:Heap.SameBut p h h') (ne:t≠p):SqH kd h' t its:=by
 cases kd with
 | true=>exact Heap.IsList.extBut ht hs.extBut ne
 | false=>exact Heap.IsTuple.extBut ht hs.extBut ne
theorem qDP {kd:Bool}{p t:Addr}{k:Nat}{its:Array Value}{y:Value}{Q:Value->Shared->Prop}(hp:SqI kd s.heap p t k) (ht:SqH kd s.heap t its) (hy:its[k]?=some y)
  (q:∀h1,SqI kd h1 p t (k+1)->Heap.SameBut p s.heap h1->Q y { s with heap:=h1 }):wpAny (model prog w) A (Builtin.SmallTypes.nextOf (.ref p)) Q E s:=by
 cases kd with
 | true=>exact qMr hp ht hy q
 | false=>exact qMo hp ht hy q
theorem qFM {kd:Bool}{p t:Addr}{k:Nat}{its:Array Value}{Q:Value->Shared->Prop}(hh:A.handled=none) (hp:SqI kd s.heap p t k) (ht:SqH kd s.heap t its) (hy:its[k]?=none)
  (q:∀h1 e,Heap.ExtBut p s.heap h1->(∃o,h1.get? e=some o/\o.cls=.type "StopIteration")->E (.ref e) { s with heap:=h1 }):wpAny (model prog w) A (Builtin.SmallTypes.nextOf (.ref p)) Q E s:=by
 cases kd with
 | true=>exact qOv hh hp ht hy q
 | false=>exact qOr hh hp ht hy q
structure Zp (z a b i j:Addr):Prop where
 az:a≠z
 bz:b≠z
 iz:i≠z
 jz:j≠z
 ab:a≠b
 ai:a≠i
 aj:a≠j
 bi:b≠i
 bj:b≠j
 ij:i≠j
structure Zs (kd ke:Bool) (h:Heap) (z a b i j t u:Addr) (k:Nat):Prop where
 hz:IsZip h z a b .none
 ha:IsPair h a (.ref i) (.ref j)
 hb:∃x y,IsPair h b x y
 hi:SqI kd h i t k
 hj:SqI ke h j u k
theorem qK3 {kd ke:Bool}{z a b i j t u:Addr}{k:Nat}{xs ys:Array Value}{x y:Value}{Q:Option Value->Shared->Prop}(D:Zp z a b i j) (S:Zs kd ke s.heap z a b i j t u k) (ht:SqH kd s.heap t xs) (hu:SqH ke s.heap u ys)
  (nt:t∉[z,a,b,i,j]) (nu:u∉[z,a,b,i,j]) (hx:xs[k]?=some x) (hy:ys[k]?=some y)
  (q:∀h',IsZip h' z a b (rawInt s.heap.objs.size)->(∃x y,IsPair h' b x y)->SqI kd h' i t (k+1)->SqI ke h' j u (k+1)->IsPair h' s.heap.objs.size x y->h'.objs.size=s.heap.objs.size+1 ->
   (∀c o,c∉[z,b,i,j]->s.heap.get? c=some o->h'.get? c=some o)->Q (some (.ref s.heap.objs.size)) { s with heap:=h' }):wpAny (model prog w) A (pyNext (.ref z)) Q E s:=by
 obtain⟨hz,ha,⟨x0,y0,hb⟩,hi,hj⟩:=S
 simp only [List.mem_cons,List.not_mem_nil,or_false,not_or] at nt nu
 obtain⟨tz,ta,tb,ti,tj⟩:=nt
 obtain⟨uz,ua,ub,ui,uj⟩:=nu
 have hT:s.TypeIs (.ref z) "zip":=⟨_,hz,rfl⟩
 unfold pyNext
 refine wpAny_bind (wpAny_attempt (wpAny_callSpecial?_slot (name:=Str.ofString "__next__") hT F.slot_zip_next (wpAny_call_entry F.slot_zip_next hT F.entry_zip_next ?_ (F.args_zip_next_1 _))))
 show wpAny _ _ (field (.ref z) 2 >>= _) _ _ _
 refine wpAny_bind (wpAny_field hz rfl (x:=.bool false) rfl ?_);show wpAny _ _ (field (.ref z) 3 >>= _) _ _ _
 refine wpAny_bind (wpAny_field hz rfl (x:=.ref a) rfl ?_);refine wpAny_bind (wpAny_seqItems ha rfl ?_)
 show wpAny _ _ (Builtin.SmallTypes.ownedTupleIsFree (.ref z) >>= _) _ _ _
 refine wpAny_bind ?_;unfold Builtin.SmallTypes.ownedTupleIsFree
 refine wpAny_bind (wpAny_field hz rfl (x:=.none) rfl (wpAny_pure ?_));simp only [if_true]
 refine wpAny_bind (wpAny_rule ?_);refine wpAny_bind (wpAny_field hz rfl (x:=.ref b) rfl ?_)
 refine wpAny_bind (wpAny_setField_rec hz (by simp) λh1 z1 s1=>?_)
 replace z1:IsZip h1 z a b .ellipsis:=z1
 refine wpAny_bind ?_
 simp only [List.zipIdx_cons,List.zipIdx_nil,List.forIn_nil,List.forIn_cons]
 refine wpAny_bind (wpAny_bind (wpAny_onRaise ?_));show wpAny _ _ (Builtin.SmallTypes.nextOf (.ref i) >>= _) _ _ _
 refine wpAny_bind (qDP (hi.extBut s1.extBut D.iz) (ht.but s1 tz) hx λh2 i2 s2=>wpAny_pure ?_)
 have b2:IsPair h2 b x0 y0:=s2.extBut _ _ D.bi (s1.extBut _ _ D.bz hb)
 refine wpAny_bind (wpAny_seqItems b2 rfl ?_)
 refine wpAny_bind (wpAny_updateSeq_pair b2 λh3 b3 s3=>?_)
 replace b3:IsPair h3 b x y0:=b3
 refine wpAny_bind (wpAny_letGo (wpAny_pure ?_));refine wpAny_bind (wpAny_bind (wpAny_onRaise ?_))
 show wpAny _ _ (Builtin.SmallTypes.nextOf (.ref j) >>= _) _ _ _
 refine wpAny_bind (qDP (((hj.extBut s1.extBut D.jz).extBut s2.extBut D.ij.symm).extBut s3.extBut D.bj.symm) (((hu.but s1 uz).but s2 ui).but s3 ub) hy λh4 j4 s4=>wpAny_pure ?_)
 have b4:IsPair h4 b x y0:=s4.extBut _ _ D.bj b3
 refine wpAny_bind (wpAny_seqItems b4 rfl ?_)
 refine wpAny_bind (wpAny_updateSeq_pair b4 λh5 b5 s5=>?_)
 replace b5:IsPair h5 b x y:=b5
 refine wpAny_bind (wpAny_letGo (wpAny_pure (wpAny_pure ?_)));refine wpAny_bind (wpAny_seqItems b5 rfl ?_)
 refine wpAny_bind (wpAny_newTuple ?_)
 have hsz:h5.objs.size=s.heap.objs.size:=by rw [s5.1,s4.1,s3.1,s2.1,s1.1]
 have z5:IsZip h5 z a b .ellipsis:=s5.extBut _ _ D.bz.symm (s4.extBut _ _ D.jz.symm (s3.extBut _ _ D.bz.symm (s2.extBut _ _ D.iz.symm z1)))
 have k5:∀c o,c∉[z,b,i,j]->s.heap.get? c=some o->h5.get? c=some o:=λc o hc e=>by
  simp only [List.mem_cons,List.not_mem_nil,or_false,not_or] at hc
  exact s5.extBut _ _ hc.2.1 (s4.extBut _ _ hc.2.2.2 (s3.extBut _ _ hc.2.1 (s2.extBut _ _ hc.2.2.1 (s1.extBut _ _ hc.1 e))))
 have i5:SqI kd h5 i t (k+1):=((i2.extBut s3.extBut D.bi.symm).extBut s4.extBut D.ij).extBut s5.extBut D.bi.symm
 have j5:SqI ke h5 j u (k+1):=j4.extBut s5.extBut D.bj.symm
 have lz:z<h5.objs.size:=Heap.lt_size z5
 show wpAny _ _ (Builtin.SmallTypes.ownedTupleHandOut (.ref z) (.ref h5.objs.size) >>= _) _ _ _
 refine wpAny_bind ?_;unfold Builtin.SmallTypes.ownedTupleHandOut
 have z6:IsZip (h5.push { cls:=.type "tuple",data:=.seq #[x,y] }) z a b .ellipsis:=Heap.get?_push_of_some _ z5
 refine wpAny_bind (wpAny_setField_rec z6 (by simp) λh7 z7 s7=>?_)
 replace z7:IsZip h7 z a b (rawInt h5.objs.size):=z7
 refine wpAny_setField_rec z7 (by simp) λh8 z8 s8=>?_
 replace z8:IsZip h8 z a b (rawInt h5.objs.size):=z8
 have up:∀c o,c≠z->h5.get? c=some o->h8.get? c=some o:=λc o c1 e=>s8.extBut _ _ c1 (s7.extBut _ _ c1 (Heap.get?_push_of_some _ e))
 have t8:IsPair h8 h5.objs.size x y:=s8.extBut _ _ (Nat.ne_of_gt lz) (s7.extBut _ _ (Nat.ne_of_gt lz) (Heap.get?_push_size _ rfl))
 have n8:h8.objs.size=h5.objs.size+1:=by rw [s8.1,s7.1,Heap.size_push]
 rw [hsz] at z8 t8 n8
 refine wpAny_pure ⟨_,rfl,wpAny_pure ?_⟩
 show Q (some (.ref h5.objs.size)) _
 rw [hsz]
 refine q h8 z8 ⟨_,_,up _ _ D.bz b5⟩ (i5.at λo e=>up _ o D.iz e) (j5.at λo e=>up _ o D.jz e) t8 n8 λc o hc e=>up c o (λr=>hc (by simp [r])) (k5 c o hc e)
theorem qK2 {kd ke:Bool}{z a b i j t u:Addr}{k:Nat}{xs ys:Array Value}{Q:Option Value->Shared->Prop}(hh:A.handled=none) (D:Zp z a b i j) (S:Zs kd ke s.heap z a b i j t u k) (ht:SqH kd s.heap t xs) (hu:SqH ke s.heap u ys)
  (nt:t∉[z,a,b,i,j]) (nu:u∉[z,a,b,i,j]) (hend:xs[k]?=none∨ys[k]?=none)
  (q:∀h',(∀c o,c∉[z,b,i,j]->s.heap.get? c=some o->h'.get? c=some o)->Q none { s with heap:=h' }):wpAny (model prog w) A (pyNext (.ref z)) Q E s:=by
 obtain⟨hz,ha,⟨x0,y0,hb⟩,hi,hj⟩:=S
 simp only [List.mem_cons,List.not_mem_nil,or_false,not_or] at nt nu
 obtain⟨tz,ta,tb,ti,tj⟩:=nt
 obtain⟨uz,ua,ub,ui,uj⟩:=nu
 have hT:s.TypeIs (.ref z) "zip":=⟨_,hz,rfl⟩
 unfold pyNext
 refine wpAny_bind (wpAny_attempt (wpAny_callSpecial?_slot (name:=Str.ofString "__next__") hT F.slot_zip_next (wpAny_call_entry F.slot_zip_next hT F.entry_zip_next ?_ (F.args_zip_next_1 _))))
 show wpAny _ _ (field (.ref z) 2 >>= _) _ _ _
 refine wpAny_bind (wpAny_field hz rfl (x:=.bool false) rfl ?_);show wpAny _ _ (field (.ref z) 3 >>= _) _ _ _
 refine wpAny_bind (wpAny_field hz rfl (x:=.ref a) rfl ?_);refine wpAny_bind (wpAny_seqItems ha rfl ?_)
 show wpAny _ _ (Builtin.SmallTypes.ownedTupleIsFree (.ref z) >>= _) _ _ _
 refine wpAny_bind ?_;unfold Builtin.SmallTypes.ownedTupleIsFree
 refine wpAny_bind (wpAny_field hz rfl (x:=.none) rfl (wpAny_pure ?_));simp only [if_true]
 refine wpAny_bind (wpAny_rule ?_);refine wpAny_bind (wpAny_field hz rfl (x:=.ref b) rfl ?_)
 refine wpAny_bind (wpAny_setField_rec hz (by simp) λh1 z1 s1=>?_)
 replace z1:IsZip h1 z a b .ellipsis:=z1
 refine wpAny_bind ?_
 simp only [List.zipIdx_cons,List.zipIdx_nil,List.forIn_nil,List.forIn_cons]
 refine wpAny_bind (wpAny_bind (wpAny_onRaise ?_));show wpAny _ _ (Builtin.SmallTypes.nextOf (.ref i) >>= _) _ _ _
 cases hx:xs[k]? with
 | none =>
  refine wpAny_bind (qFM hh (hi.extBut s1.extBut D.iz) (ht.but s1 tz) hx λh2 e s2 he=>?_)
  obtain⟨oe,hoe,hce⟩:=he
  have z2:IsZip h2 z a b .ellipsis:=s2 _ _ D.iz.symm z1
  have ez:e≠z:=λr=>by subst r;rw [z2] at hoe;cases hoe;simp at hce
  refine wpAny_setField_rec z2 (by simp) λh3 _ s3=>wpAny_bind (wpAny_isInstance (T:="StopIteration") (b:=true) ⟨oe,s3.extBut _ _ ez hoe,hce⟩ isSubtype_stop (wpAny_pure (q _ λc o hc r=>?_)))
  simp only [List.mem_cons,List.not_mem_nil,or_false,not_or] at hc
  exact s3.extBut _ _ hc.1 (s2 _ _ hc.2.2.1 (s1.extBut _ _ hc.1 r))
 | some x =>
  have hy:ys[k]?=none:=by rcases hend with r|r;rw [hx] at r;cases r;exact r
  refine wpAny_bind (qDP (hi.extBut s1.extBut D.iz) (ht.but s1 tz) hx λh2 i2 s2=>wpAny_pure ?_)
  have b2:IsPair h2 b x0 y0:=s2.extBut _ _ D.bi (s1.extBut _ _ D.bz hb)
  refine wpAny_bind (wpAny_seqItems b2 rfl ?_)
  refine wpAny_bind (wpAny_updateSeq_pair b2 λh3 b3 s3=>?_)
  refine wpAny_bind (wpAny_letGo (wpAny_pure ?_));refine wpAny_bind (wpAny_bind (wpAny_onRaise ?_))
  show wpAny _ _ (Builtin.SmallTypes.nextOf (.ref j) >>= _) _ _ _
  refine wpAny_bind (qFM hh (((hj.extBut s1.extBut D.jz).extBut s2.extBut D.ij.symm).extBut s3.extBut D.bj.symm) (((hu.but s1 uz).but s2 ui).but s3 ub) hy λh4 e s4 he=>?_)
  obtain⟨oe,hoe,hce⟩:=he
  have z4:IsZip h4 z a b .ellipsis:=s4 _ _ D.jz.symm (s3.extBut _ _ D.bz.symm (s2.extBut _ _ D.iz.symm z1))
  have ez:e≠z:=λr=>by subst r;rw [z4] at hoe;cases hoe;simp at hce
  refine wpAny_setField_rec z4 (by simp) λh5 _ s5=>wpAny_bind (wpAny_isInstance (T:="StopIteration") (b:=true) ⟨oe,s5.extBut _ _ ez hoe,hce⟩ isSubtype_stop (wpAny_pure (q _ λc o hc r=>?_)))
  simp only [List.mem_cons,List.not_mem_nil,or_false,not_or] at hc
  exact s5.extBut _ _ hc.1 (s4 _ _ hc.2.2.2 (s3.extBut _ _ hc.2.1 (s2.extBut _ _ hc.2.2.1 (s1.extBut _ _ hc.1 r))))
end
end Dw
namespace Dw
open PySem PySem.Spec PyProof.Rows L2
section
variable {X:Cx}{pins:List (Addr×Obj)}{σ:L2.St}{H:Hp}{s:Shared}{h':Heap}{fp:List Addr}
theorem qNt {t':Nat}(I:Inv X pins σ H s) (hf:∀b∈fp,qEW X pins H b) (k:∀b o,b∉fp->s.heap.get? b=some o->h'.get? b=some o):Inv X pins σ H { s with heap:=h',toks:=t' }:=by
 have nit:∀b u,H b=some u->b∉fp:=λb u e z=>by have:=(hf b z).1;rw [this] at e;cases e
 refine I.step (g':=s.gens) (d':=s.drawn) (ch:=fp) (λb hb=>?_) (λb o _ _ hc e _=>k b o hc e) (λb o _ _ hc e _=>⟨o.slots,k b o hc e⟩) (λ_ _ _ _ n=>n) (λb o hc e=>⟨o,k b o hc e⟩) (λ_ _ e=>e) (λ_ _ _ e=>e) (λb ps e=>⟨#[],by rw [e];simp⟩) (λm hm=>?_) (λb u e=>?_) I.bare
 ·obtain⟨f0,f1,f2,f3,f4,f5⟩:=hf b hb
  exact⟨f3,f1,f4,f5⟩
 ·obtain⟨o,es,ep,ho,r⟩:=hm
  exact⟨o,es,ep,k _ o (λz=>(hf _ z).2.1 rfl) ho,r⟩
 ·refine (I.hok b u e).stay (λc v hc q=>k c v ?_ q) (λ_ q=>q) (λ_ _ q=>q) λ_ _ _ q=>q
  rcases hc with z|z
  ·rw [z];exact nit b u e
  ·exact nit c _ z
theorem qNu {t':Nat}{T:Addr}{o:HO}(I:Inv X pins σ H s) (hf:∀b∈fp,qEW X pins H b) (k:∀b o,b∉fp->s.heap.get? b=some o->h'.get? b=some o) (hT:s.heap.objs.size<=T) (new:ObjOk X.prog X.w (upd H T o) h' T o):Inv X pins σ (upd H T o) { s with heap:=h',toks:=t' }:=by
 have hn:H T=none:=I.hok.fresh hT
 have neT:∀b ob,s.heap.get? b=some ob->b≠T:=λb ob e=>Nat.ne_of_lt (Nat.lt_of_lt_of_le (Heap.lt_size e) hT)
 have nit:∀b u,H b=some u->b∉fp:=λb u e z=>by have:=(hf b z).1;rw [this] at e;cases e
 refine I.step (g':=s.gens) (d':=s.drawn) (ch:=fp) (λb hb=>?_) (λb o _ _ hc e _=>k b o hc e) (λb o _ _ hc e _=>⟨o.slots,k b o hc e⟩) (λb ob _ e n=>by rw [qAc (neT b ob e)];exact n) (λb o hc e=>⟨o,k b o hc e⟩)
  (λb xs e=>by rw [qAc (qAd e hn)];exact e) (λb ob u e=>by rw [qAc (qAd e hn)];exact e) (λb ps e=>⟨#[],by rw [qAc (qAd e hn),e];simp⟩) (λm hm=>?_) (λb u e=>?_) I.bare
 ·obtain⟨f0,f1,f2,f3,f4,f5⟩:=hf b hb
  exact⟨f3,f1,f4,f5⟩
 ·obtain⟨o,es,ep,ho,r⟩:=hm
  exact⟨o,es,ep,k _ o (λz=>(hf _ z).2.1 rfl) ho,r⟩
 ·by_cases hb:b=T
  ·subst hb;rw [qAw] at e;cases e;exact new
  ·rw [qAc hb] at e
   refine (I.hok b u e).stay (λc v hc q=>k c v ?_ q) (λc q=>by rw [qAc (qAd q hn)];exact q) (λc xs q=>by rw [qAc (qAd q hn)];exact q) λc ob u q=>by rw [qAc (qAd q hn)];exact q
   rcases hc with z|z
   ·rw [z];exact nit b u e
   ·exact nit c _ z
theorem qOs (I:Inv X pins σ H s) (hf:∀b∈fp,qEW X pins H b) {a:Addr}{xs:List V}(h:SqT X.K H a xs):a∉fp:=λz=>by
 obtain⟨f0,f1,f2,f3,f4,f5⟩:=hf a z
 rcases h with (h|⟨o,h⟩)|⟨o,its,n,hk,_⟩
 ·rw [f0] at h;cases h
 ·rw [f0] at h;cases h
 ·have hb:=I.ok.mod.kin a o hk
  rcases f3 with q|q
  ·exact I.ok.noex a o hb q
  ·exact absurd (Nat.lt_of_lt_of_le (Heap.lt_size (I.ok.bs a o hb).1) q) (Nat.lt_irrefl _)
end
theorem qMp {X:Cx}{pins:List (Addr×Obj)}{σ:L2.St}{H:Hp}{s:Shared}{fp:List Addr}(I:Inv X pins σ H s) (hf:∀b∈fp,qEW X pins H b) {a:Addr}{xs:List V}(h:SqL X.K H a xs):a∉fp:=λz=>by
 obtain⟨f0,f1,f2,f3,f4,f5⟩:=hf a z
 rcases h with (h|⟨o,h⟩)|⟨o,its,n,hk,_⟩
 ·rw [f0] at h;cases h
 ·rw [f0] at h;cases h
 ·have hb:=I.ok.mod.kin a o hk
  rcases f3 with q|q
  ·exact I.ok.noex a o hb q
  ·exact absurd (Nat.lt_of_lt_of_le (Heap.lt_size (I.ok.bs a o hb).1) q) (Nat.lt_irrefl _)
noncomputable def SqK:Bool->PySem.W.Frag->Hp->Addr->List V->Prop
 | true,K,H,a,xs=>SqL K H a xs
 | false,K,H,a,xs=>SqT K H a xs
section
variable {X:Cx}{pins:List (Addr×Obj)}{σ:L2.St}{H:Hp}{s:Shared}{fp:List Addr}{a:Addr}{xs ys:List V}{kd:Bool}
theorem SqK.its (I:Inv X pins σ H s) (h:SqK kd X.K H a xs):∃its,Vals xs its/\SqH kd s.heap a its.toArray/\xs.length<=sizeLine:=by
 cases kd with
 | true=>obtain⟨its,r,p,z⟩:=I.list h;exact⟨its,r,p.isList,z⟩
 | false=>obtain⟨its,r,p,z⟩:=I.tuple h;exact⟨its,r,p,z⟩
theorem SqK.nfp (I:Inv X pins σ H s) (hf:∀b∈fp,qEW X pins H b) (h:SqK kd X.K H a xs):a∉fp:=by
 cases kd with
 | true=>exact qMp I hf h
 | false=>exact qOs I hf h
theorem SqK.inj (I:Inv X pins σ H s) (h:SqK kd X.K H a xs) (h':SqK kd X.K H a ys):xs=ys:=by
 cases kd with
 | true=>exact I.list_inj h h'
 | false=>exact I.tuple_inj h h'
end
noncomputable def Itz (kd ke:Bool) (K:PySem.W.Frag) (a b:Addr):It:=
 ⟨λi H=>∃xs ys x y,SqK kd K H a xs/\SqK ke K H b ys/\xs[i]?=some x/\ys[i]?=some y,
  λi H v H'=>∃T x y,H T=none/\v=.ref T/\(∀xs,SqK kd K H a xs->xs[i]?=some x)/\(∀ys,SqK ke K H b ys->ys[i]?=some y)/\H'=upd H T (.tup [x,y]),
  λi H=>∃xs ys,SqK kd K H a xs/\SqK ke K H b ys/\(xs.length<=i∨ys.length<=i)⟩
theorem qI6 {kd ke:Bool}{P:Program}{w:World}{K:PySem.W.Frag}{es:List Expr}{kk:Nat}{pos:Pos}{z p q i j:Addr}(a b:Addr) (D:Zp z p q i j):Turn P w K (.Tuple es kk pos) (Itz kd ke K a b) [z,p,q,i,j] z (λk h=>Zs kd ke h z p q i j a b k) where
 mem:=by simp
 obj:=λk h S c hc=>by
  obtain⟨hz,hp,⟨x,y,hq⟩,hi,hj⟩:=S
  simp only [List.mem_cons,List.not_mem_nil,or_false] at hc
  rcases hc with rfl|rfl|rfl|rfl|rfl
  ·exact⟨_,hz,λv r=>by have r':Data.fields _=Data.cell v:=r;cases r'⟩
  ·exact⟨_,hp,λv r=>by have r':Data.seq _ _=Data.cell v:=r;cases r'⟩
  ·exact⟨_,hq,λv r=>by have r':Data.seq _ _=Data.cell v:=r;cases r'⟩
  ·exact hi.rec'
  ·exact hj.rec'
 keep:=λk h h' S kp=>by
  obtain⟨hz,hp,⟨x,y,hq⟩,hi,hj⟩:=S
  exact⟨kp z (by simp) _ hz,kp p (by simp) _ hp,⟨x,y,kp q (by simp) _ hq⟩,hi.at λo e=>kp i (by simp) o e,hj.at λo e=>kp j (by simp) o e⟩
 item:=by
  intro X hP hw hK hc k pins s σ H E I hf S hg
  subst hP hw hK
  obtain⟨xs,ys,x,y,ha,hb,hx,hy⟩:=hg
  obtain⟨i1,r1,p1,z1⟩:=ha.its I
  obtain⟨i2,r2,p2,z2⟩:=hb.its I
  obtain⟨u,hu,ru⟩:=r1.get hx
  obtain⟨v,hv,rv⟩:=r2.get hy
  have na:=ha.nfp I hf
  have nb:=hb.nfp I hf
  refine qK3 D S p1 p2 na nb (x:=u) (y:=v) (by simpa using hu) (by simpa using hv) λh' e1 e2 e3 e4 e5 e6 kp=>?_
  refine⟨_,rfl,wpAny_letOwnedTupleGo_zip e1 λh2 f1 f2=>?_⟩
  have ltz:z<s.heap.objs.size:=Heap.lt_size S.hz
  have nT:s.heap.objs.size≠z:=Nat.ne_of_gt ltz
  have kp2:∀c o,c∉[z,p,q,i,j]->s.heap.get? c=some o->h2.get? c=some o:=λc o hc e=>by
   simp only [List.mem_cons,List.not_mem_nil,or_false,not_or] at hc
   exact f2.extBut _ _ hc.1 (kp c o (by simp [hc]) e)
  have hpp:s.heap.get? p=some _:=S.ha
  have I2:=qNu (t':=s.toks) (T:=s.heap.objs.size) (o:=.tup [x,y]) I hf kp2 (Nat.le_refl _) ⟨by show 2<=sizeLine;decide,[u,v],.cons ru (.cons rv .nil),⟨_,f2.extBut _ _ nT e5,rfl,_,rfl⟩⟩
  have hn:H s.heap.objs.size=none:=I.hok.fresh (Nat.le_refl _)
  obtain⟨x1,y1,e2⟩:=e2
  refine⟨.ref s.heap.objs.size,upd H s.heap.objs.size (.tup [x,y]),I2,rfl,⟨_,x,y,hn,rfl,λzs hz=>by rw [SqK.inj I hz ha];exact hx,λzs hz=>by rw [SqK.inj I hz hb];exact hy,rfl⟩,
   ⟨f1,f2.extBut _ _ D.az (kp _ _ (by simp [D.az,D.ab,D.ai,D.aj]) S.ha),⟨x1,y1,f2.extBut _ _ D.bz e2⟩,e3.extBut f2.extBut D.iz,e4.extBut f2.extBut D.jz⟩,λc hc=>?_⟩
  have hlt:c<s.heap.objs.size:=by
   obtain⟨hz,hp,⟨x,y,hq⟩,hi,hj⟩:=S
   simp only [List.mem_cons,List.not_mem_nil,or_false] at hc
   rcases hc with rfl|rfl|rfl|rfl|rfl
   ·exact Heap.lt_size hz
   ·exact Heap.lt_size hp
   ·exact Heap.lt_size hq
   ·obtain⟨o,e,_⟩:=hi.rec';exact Heap.lt_size e
   ·obtain⟨o,e,_⟩:=hj.rec';exact Heap.lt_size e
  rw [qAc (Nat.ne_of_lt hlt)]
  exact (hf c hc).1
 done:=by
  intro X hP hw hK hc k pins s σ H E I hf S hg
  subst hP hw hK
  obtain⟨xs,ys,ha,hb,he⟩:=hg
  obtain⟨i1,r1,p1,z1⟩:=ha.its I
  obtain⟨i2,r2,p2,z2⟩:=hb.its I
  have l1:=r1.length
  have l2:=r2.length
  refine qK2 (I.ok.hd hc) D S p1 p2 (ha.nfp I hf) (hb.nfp I hf) (by
   rcases he with r|r
   ·exact .inl (by simp;omega)
   ·exact .inr (by simp;omega)) λh' kp=>⟨rfl,qNt (t':=s.toks) I hf λc o hc e=>kp c o (by simp at hc ⊢;simp [hc]) e⟩
 self:=λ_ _ _ _ _ S h=>wpAny_pyIter_zip S.hz h
noncomputable def SqF:Bool->PySem.W.Frag->Hp->Fz->Addr->List V->Prop
 | true,K,H,F,a,xs=>LsR K H F a xs
 | false,K,H,_,a,xs=>SqT K H a xs
theorem SqF.keep {kd:Bool}{K:PySem.W.Frag}{H H':Hp}{F F':Fz}{a:Addr}{xs:List V}(h:SqF kd K H F a xs) (k:Keep H F H' F'):SqK kd K H' a xs:=by
 cases kd with
 | true=>exact LsR.sq (h.elim (λz=>.inl (k.lsts _ _ z.1 z.2)) .inr)
 | false=>exact h.elim (λz=>.inl (k.tups _ _ z)) .inr
theorem qFQ {kd ke:Bool}{K:PySem.W.Frag}{H:Hp}{F:Fz}{a b:Addr}{ds es:List D}{vs ws:List V}(ha:SqF kd K H F a vs) (hb:SqF ke K H F b ws) (ra:RDs K H F ds vs) (rb:RDs K H F es ws):qK1 K (Itz kd ke K a b) H F (qCn ds es):=by
 intro H' F' k dom
 have ha':SqK kd K H' a vs:=ha.keep k
 have hb':SqK ke K H' b ws:=hb.keep k
 have ra':=RDs.mono k ra
 have rb':=RDs.mono k rb
 have la:=RDs.length ra'
 have lb:=RDs.length rb'
 refine⟨λi d hd=>?_,⟨vs,ws,ha',hb',?_⟩⟩
 ·unfold qCn at hd
  rw [List.getElem?_zipWith] at hd
  cases h1:ds[i]? with
  | none=>simp [h1] at hd
  | some d1 =>
   cases h2:es[i]? with
   | none=>simp [h1,h2] at hd
   | some d2 =>
    simp [h1,h2] at hd
    subst hd
    obtain⟨v,e1,e2⟩:=RDs.get ra' h1
    obtain⟨w,e3,e4⟩:=RDs.get rb' h2
    refine⟨⟨vs,ws,v,w,ha',hb',e1,e3⟩,λx H3 y=>?_⟩
    obtain⟨T,x1,y1,hT,rfl,q1,q2,rfl⟩:=y
    have:=q1 vs ha'
    rw [e1] at this
    cases this
    have:=q2 ws hb'
    rw [e3] at this
    cases this
    obtain⟨g,rr⟩:=qBY (ds:=[d1,d2]) dom hT ⟨v,[w],rfl,e2,w,[],rfl,e4,rfl⟩
    exact⟨F',g,rr⟩
 ·unfold qCn
  rw [List.length_zipWith]
  omega
section
variable {prog:Program}{w:World}{A:Around}{E:Value->Shared->Prop}{s:Shared}
noncomputable def itN:Bool->String
 | true=>"list_iterator"
 | false=>"tuple_iterator"
noncomputable abbrev zq1 (kd:Bool) (h:Heap) (a:Addr):Heap:=h.push { cls:=.type (itN kd),data:=.fields #[.ref a,.int 0 0] }
noncomputable abbrev zq2 (kd ke:Bool) (h:Heap) (a b:Addr):Heap:=(zq1 kd h a).push { cls:=.type (itN ke),data:=.fields #[.ref b,.int 0 0] }
noncomputable abbrev zq3 (kd ke:Bool) (h:Heap) (a b:Addr):Heap:=(zq2 kd ke h a b).push { cls:=.type "tuple",data:=.seq #[.ref h.objs.size,.ref (zq1 kd h a).objs.size] }
noncomputable abbrev zq4 (kd ke:Bool) (h:Heap) (a b:Addr):Heap:=(zq3 kd ke h a b).push { cls:=.type "tuple",data:=.seq #[.none,.none] }
noncomputable abbrev zq5 (kd ke:Bool) (h:Heap) (a b:Addr):Heap:=(zq4 kd ke h a b).push { cls:=.type "zip",data:=.fields #[.none,.bool false,.bool false,.ref (zq2 kd ke h a b).objs.size,.ref (zq3 kd ke h a b).objs.size] }
theorem qI1 (kd ke:Bool) (a b:Addr) (xs ys:Array Value):Meets (Builtin.«zip.__new__» ⟨[.type "zip",.ref a,.ref b],[]⟩) (λ_ R s=>SqH kd s.heap a xs/\SqH ke s.heap b ys/\R (.ok (.ret (.ref (zq4 kd ke s.heap a b).objs.size))) { s with heap:=zq5 kd ke s.heap a b }):=
 .of_wp λprog w A R s h=>by
  obtain⟨hp,g,d,tk,os⟩:=s;obtain⟨h1,h2,h⟩:=h;have hsub:=sub_zip
  cases kd with
  | false =>
   cases ke with
   | false =>
    have H1:Heap.IsTuple (Shared.heap ⟨hp,g,d,tk,os⟩) a xs:=h1
    have H2:Heap.IsTuple (Shared.heap ⟨hp.push { cls:=.type "tuple_iterator",data:=.fields #[.ref a,.int 0 0] },g,d,tk,os⟩) b ys:=Heap.IsTuple.push h2 _
    wp_walk using wpAny_pyIter_tuple H1,wpAny_pyIter_tuple H2
    exact⟨_,rfl,h⟩
   | true =>
    have H1:Heap.IsTuple (Shared.heap ⟨hp,g,d,tk,os⟩) a xs:=h1
    have H2:Heap.IsList (Shared.heap ⟨hp.push { cls:=.type "tuple_iterator",data:=.fields #[.ref a,.int 0 0] },g,d,tk,os⟩) b ys:=Heap.IsList.push h2 _
    wp_walk using wpAny_pyIter_tuple H1,wpAny_pyIter_list H2
    exact⟨_,rfl,h⟩
  | true =>
   cases ke with
   | false =>
    have H1:Heap.IsList (Shared.heap ⟨hp,g,d,tk,os⟩) a xs:=h1
    have H2:Heap.IsTuple (Shared.heap ⟨hp.push { cls:=.type "list_iterator",data:=.fields #[.ref a,.int 0 0] },g,d,tk,os⟩) b ys:=Heap.IsTuple.push h2 _
    wp_walk using wpAny_pyIter_list H1,wpAny_pyIter_tuple H2
    exact⟨_,rfl,h⟩
   | true =>
    have H1:Heap.IsList (Shared.heap ⟨hp,g,d,tk,os⟩) a xs:=h1
    have H2:Heap.IsList (Shared.heap ⟨hp.push { cls:=.type "list_iterator",data:=.fields #[.ref a,.int 0 0] },g,d,tk,os⟩) b ys:=Heap.IsList.push h2 _
    wp_walk using wpAny_pyIter_list H1,wpAny_pyIter_list H2
    exact⟨_,rfl,h⟩
theorem qI2 {kd ke:Bool}{a b:Addr}{xs ys:Array Value}{Q:Value->Shared->Prop}(ha:SqH kd s.heap a xs) (hb:SqH ke s.heap b ys)
  (h:∀h',Zs kd ke h' (s.heap.objs.size+4) (s.heap.objs.size+2) (s.heap.objs.size+3) s.heap.objs.size (s.heap.objs.size+1) a b 0->(∀c o,s.heap.get? c=some o->h'.get? c=some o)->Q (.ref (s.heap.objs.size+4)) { s with heap:=h' }):wpAny (model prog w) A (call (.type "zip") [.ref a,.ref b]) Q E s:=by
 refine callType_new F.called_zip (by decide) (F.typeCall_zip_2 _ _) (F.newCall_zip_2 _ _) (λobj=>F.args_object_init_3 obj _ _) F.entry_zip_new (qI1 kd ke a b xs ys) ⟨ha,hb,?_⟩
 have z1:(zq1 kd s.heap a).objs.size=s.heap.objs.size+1:=Heap.size_push ..
 have z2:(zq2 kd ke s.heap a b).objs.size=s.heap.objs.size+2:=by rw [Heap.size_push,z1]
 have z3:(zq3 kd ke s.heap a b).objs.size=s.heap.objs.size+3:=by rw [Heap.size_push,z2]
 have z4:(zq4 kd ke s.heap a b).objs.size=s.heap.objs.size+4:=by rw [Heap.size_push,z3]
 have g5:(zq5 kd ke s.heap a b).get? (zq4 kd ke s.heap a b).objs.size=some _:=Heap.get?_push_size _ rfl
 have g4:(zq5 kd ke s.heap a b).get? (zq3 kd ke s.heap a b).objs.size=some _:=Heap.get?_push_of_some _ (Heap.get?_push_size _ rfl)
 have g3:(zq5 kd ke s.heap a b).get? (zq2 kd ke s.heap a b).objs.size=some _:=Heap.get?_push_of_some _ (Heap.get?_push_of_some _ (Heap.get?_push_size _ rfl))
 have g2:(zq5 kd ke s.heap a b).get? (zq1 kd s.heap a).objs.size=some _:=Heap.get?_push_of_some _ (Heap.get?_push_of_some _ (Heap.get?_push_of_some _ (Heap.get?_push_size _ rfl)))
 have g1:(zq5 kd ke s.heap a b).get? s.heap.objs.size=some _:=Heap.get?_push_of_some _ (Heap.get?_push_of_some _ (Heap.get?_push_of_some _ (Heap.get?_push_of_some _ (Heap.get?_push_size _ rfl))))
 show _/\_
 rw [z2,z3,z4] at g5;rw [z1,z2] at g3;rw [z3] at g4;rw [z1] at g2;rw [z4]
 exact⟨⟨_,g5,rfl⟩,h _ ⟨g5,g3,⟨_,_,g4⟩,(by cases kd with|true=>exact⟨_,g1,rfl,rfl⟩|false=>exact⟨_,g1,rfl,rfl⟩),(by cases ke with|true=>exact⟨_,g2,rfl,rfl⟩|false=>exact⟨_,g2,rfl,rfl⟩)⟩ λc o x=>Heap.get?_push_of_some _ (Heap.get?_push_of_some _ (Heap.get?_push_of_some _ (Heap.get?_push_of_some _ (Heap.get?_push_of_some _ x))))⟩
end
theorem qI0 (n:Nat):Zp (n+4) (n+2) (n+3) n (n+1):=by
 constructor<;>(intro h;have h':(_:Nat)=_:=h;omega)
section
variable {X:Cx}
theorem qKe:bootBuiltins (Str.ofString "zip")=some (.type "zip"):=by decide +kernel
noncomputable def qRR (K:PySem.W.Frag) (ta:TA):TI:=fun σ H R=>ta σ H λvs H1=>∃(kd ke:Bool) (a b:Addr) (xs ys:List V),vs=[.ref a,.ref b]/\SqK kd K H1 a xs/\SqK ke K H1 b ys/\(xs.length<=sizeLine->R (Itz kd ke K a b) H1)
theorem qN9 {es:List Expr}{kk:Nat}{tp:Pos}{x:Str}{a b:Expr}{ta:TA}{p pos:Pos}(hx:x=Str.ofString "zip") (hg:Gl X x) (hm:X.mg x=none) (ha:PA X [a,b] ta) (hs:starEach [a,b] X.env=[(false,eval a X.env),(false,eval b X.env)]) (hs2:starEach [b] X.env=[(false,eval b X.env)]) :
  PI X (.Tuple es kk tp) (.Call (.Name x p) [a,b] [] pos) (qRR X.K ta):=by
 subst hx
 intro pins s σ H R I h
 refine Call_ (qCu I hg hm qKe (PyProof.Rows.callWith_type1 (thn (ha pos pins s σ H _ I h) λus s1 ⟨vs,H1,I1,r1,q1⟩=>?_) (by rw [hs,hs2]) (by rw [hs2];rfl)))
 obtain⟨kd,ke,a1,b1,xs,ys,rfl,hx,hy,q⟩:=q1
 cases r1 with
 | cons ra rr =>
  cases rr with
  | cons rb rr =>
   cases rr
   cases ra
   cases rb
   obtain⟨t1,v1,p1,zl⟩:=hx.its I1
   obtain⟨t2,v2,p2,_⟩:=hy.its I1
   refine qI2 p1 p2 λh' S kp=>wpAny_pyIter_zip S.hz ?_
   have I2:Inv X pins σ H1 { s1 with heap:=h' }:=I1.kept (t':=s1.toks) kp
   refine⟨_,[s1.heap.objs.size+4,s1.heap.objs.size+2,s1.heap.objs.size+3,s1.heap.objs.size,s1.heap.objs.size+1],_,_,H1,rfl,I2,qI6 a1 b1 (qI0 _),S,λc hc=>?_,q zl⟩
   have hge:s1.heap.objs.size<=c:=by
    simp only [List.mem_cons,List.not_mem_nil,or_false] at hc
    rcases hc with rfl|rfl|rfl|rfl|rfl<;>omega
   exact I1.fpOk hge (I1.hok.fresh hge)
end
end Dw
namespace Dw
open PySem PySem.Spec PyProof.Rows L2
section
open AutoSeq1 (wpAny_loadPart')
theorem qGB (l:Addr) (items:Array Value) (n:Nat) (dct:Option Addr) (sl:Array (Option Value)) :
  Meets (Builtin.«enumerate.__new__» ⟨[.type "enumerate",.ref l],[]⟩) (λ_ R s=>s.heap.get? l=some { cls:=.type "tuple",dict:=dct,data:=.seq items n,slots:=sl } /\
   R (.ok (.ret (.ref (s.heap.push { cls:=.type "tuple_iterator",data:=.fields #[.ref l,.int 0 0] }).objs.size)))
    { s with heap:=(s.heap.push { cls:=.type "tuple_iterator",data:=.fields #[.ref l,.int 0 0] }).push { cls:=.type "enumerate",data:=.fields #[.none,.bool false,.ref s.heap.objs.size,rawInt 0,.none,.none] } }):=
 .of_wp λprog w A R s h=>by
  obtain⟨hp,g,d,tk,os⟩:=s;obtain⟨hl,h⟩:=h
  have hsub:=sub_enumerate
  have hL:Heap.IsTuple (Shared.heap ⟨hp,g,d,tk,os⟩) l items:=⟨_,hl,rfl,n,rfl⟩
  wp_walk using wpAny_loadPart' hl
  refine wpAny_stack_any λst=>wpAny_pure ?_
  split
  ·rename_i c _ _ _ _ _
   cases (c == Value.type "enumerate")
   ·wp_walk using wpAny_loadPart' hl,wpAny_pyIter_tuple hL
    exact⟨_,rfl,h⟩
   ·wp_walk using wpAny_loadPart' hl,wpAny_pyIter_tuple hL
    exact⟨_,rfl,h⟩
  ·wp_walk using wpAny_loadPart' hl,wpAny_pyIter_tuple hL
   exact⟨_,rfl,h⟩
end
structure Es (kd:Bool) (h:Heap) (e i t:Addr) (k:Nat):Prop where
 he:∃old,IsEnum h e i ((k:Nat):Int) old
 hi:SqI kd h i t k
section
variable {prog:Program}{w:World}{A:Around}{E:Value->Shared->Prop}{s:Shared}
theorem SqH.at {kd:Bool}{h h':Heap}{t:Addr}{its:Array Value}(x:SqH kd h t its) (e:∀o,h.get? t=some o->h'.get? t=some o):SqH kd h' t its:=by
 cases kd with
 | true=>obtain⟨o,a,b⟩:=x;exact⟨o,e _ a,b⟩
 | false=>obtain⟨o,a,b⟩:=x;exact⟨o,e _ a,b⟩
theorem qJ5 {kd:Bool}(hh:A.handled=none) (i t:Addr) (ne:t≠i) (its:Array Value):Draws prog w A i [i,t] its.size (λk x=>its[k]?=some x) (λk h=>SqI kd h i t k/\SqH kd h t its) where
 live:=λk h st=>by obtain⟨o,e,_⟩:=st.1.rec';exact⟨o,e⟩
 frame:=λk h h' st hk=>⟨st.1.at λo e=>hk i (by simp) o e,st.2.at λo e=>hk t (by simp) o e⟩
 item:=λk s Q E hk st q=>qDP st.1 st.2 (y:=its[k]) (by simp [hk]) λh1 i1 s1=>q its[k] h1 s.toks (by simp [hk]) ⟨i1,st.2.but s1 ne⟩ s1
 done:=λs Q E st q=>qFM hh st.1 st.2 (by simp) q
theorem qIe {kd:Bool}{a:Addr}{xs:Array Value}{Q:Value->Shared->Prop}(ha:SqH kd s.heap a xs)
  (h:∀h',Es kd h' (s.heap.objs.size+1) s.heap.objs.size a 0->(∀c o,s.heap.get? c=some o->h'.get? c=some o)->Q (.ref (s.heap.objs.size+1)) { s with heap:=h' }):wpAny (model prog w) A (call (.type "enumerate") [.ref a]) Q E s:=by
 cases kd with
 | true=>exact call_enumerate_list ha λh' e1 e2 _ k=>h h' ⟨⟨_,e1⟩,e2⟩ k
 | false =>
  obtain⟨⟨c,dct,dt,sl⟩,hl,hc,n,hd⟩:=ha
  replace hc:c=.type "tuple":=hc
  replace hd:dt=.seq xs n:=hd
  subst hc hd
  refine callType_new F.called_enumerate (by decide) (F.typeCall_enumerate_1 _) (F.newCall_enumerate_1 _) (λobj=>F.args_object_init_2 obj _) F.entry_enumerate_new (qGB a xs n dct sl) ⟨hl,?_⟩
  have hz:(s.heap.push { cls:=.type "tuple_iterator",data:=.fields #[.ref a,.int 0 0] }).objs.size=s.heap.objs.size+1:=Heap.size_push ..
  show _/\_
  rw [hz]
  have he:IsEnum ((s.heap.push { cls:=.type "tuple_iterator",data:=.fields #[.ref a,.int 0 0] }).push
    { cls:=.type "enumerate",data:=.fields #[.none,.bool false,.ref s.heap.objs.size,rawInt 0,.none,.none] }) (s.heap.objs.size+1) s.heap.objs.size 0 .none:=by
   have:=Heap.get?_push_size (s.heap.push { cls:=.type "tuple_iterator",data:=.fields #[.ref a,.int 0 0] })
    (o:={ cls:=.type "enumerate",data:=.fields #[.none,.bool false,.ref s.heap.objs.size,rawInt 0,.none,.none] }) rfl
   rw [hz] at this;exact this
  exact⟨⟨_,he,rfl⟩,h _ ⟨⟨_,he⟩,⟨_,Heap.get?_push_of_some _ (Heap.get?_push_size _ rfl),rfl,rfl⟩⟩ λb o x=>Heap.get?_push_of_some _ (Heap.get?_push_of_some _ x)⟩
end
noncomputable def Ite (kd:Bool) (K:PySem.W.Frag) (a:Addr):It:=
 ⟨λi H=>∃xs x,SqK kd K H a xs/\xs[i]?=some x,
  λi H v H'=>∃T x,H T=none/\v=.ref T/\(∀xs,SqK kd K H a xs->xs[i]?=some x)/\H'=upd H T (.tup [.int ((i:Nat):Int),x]),
  λi H=>∃xs,SqK kd K H a xs/\xs.length<=i⟩
theorem qI7 {kd:Bool}{P:Program}{w:World}{K:PySem.W.Frag}{es:List Expr}{kk:Nat}{pos:Pos}{e i:Addr}(a:Addr) (ne:e≠i):Turn P w K (.Tuple es kk pos) (Ite kd K a) [e,i] e (λk h=>Es kd h e i a k) where
 mem:=by simp
 obj:=λk h S c hc=>by
  obtain⟨⟨old,he⟩,hi⟩:=S
  simp only [List.mem_cons,List.not_mem_nil,or_false] at hc
  rcases hc with rfl|rfl
  ·exact⟨_,he,λv r=>by have r':Data.fields _=Data.cell v:=r;cases r'⟩
  ·exact hi.rec'
 keep:=λk h h' S kp=>by
  obtain⟨⟨old,he⟩,hi⟩:=S
  exact⟨⟨old,kp e (by simp) _ he⟩,hi.at λo e=>kp i (by simp) o e⟩
 item:=by
  intro X hP hw hK hc k pins s σ H E I hf S hg
  subst hP hw hK
  obtain⟨xs,x,ha,hx⟩:=hg
  obtain⟨i1,r1,p1,z1⟩:=ha.its I
  obtain⟨u,hu,ru⟩:=r1.get hx
  have na:=ha.nfp I hf
  simp only [List.mem_cons,List.not_mem_nil,or_false,not_or] at na
  obtain⟨⟨old,he⟩,hi⟩:=S
  have hlt:k<i1.toArray.size:=by
   have:=(List.getElem?_eq_some_iff.mp hu).1
   simpa using this
  refine wpAny_pyNext_enum_itemD (qJ5 (A:=X.A.in1) (I.ok.hd hc) i a na.2 i1.toArray) he ⟨hi,p1⟩ hlt ne (by simp only [List.mem_cons,List.not_mem_nil,or_false,not_or];exact⟨ne,Ne.symm na.1⟩) λx1 h' tk hPx ho hs' hT hsz kp=>?_
  have ex:x1=u:=by
   have h2:i1[k]?=some x1:=by simpa using hPx
   rw [hu] at h2;exact (Option.some.inj h2).symm
  subst ex
  refine⟨_,rfl,wpAny_letOwnedTupleGo_enum ho λh2 f1 f2=>?_⟩
  have lte:e<s.heap.objs.size:=Heap.lt_size he
  have nT:s.heap.objs.size≠e:=Nat.ne_of_gt lte
  have kp2:∀c o,c∉[e,i]->s.heap.get? c=some o->h2.get? c=some o:=λc o hc q=>by
   simp only [List.mem_cons,List.not_mem_nil,or_false,not_or] at hc
   exact f2.extBut _ _ hc.1 (kp c o hc.1 hc.2 q)
  have I2:=qNu (t':=tk+1) (T:=s.heap.objs.size) (o:=.tup [.int ((k:Nat):Int),x]) I hf kp2 (Nat.le_refl _) ⟨by show 2<=sizeLine;decide,[.int k tk,x1],.cons ⟨tk,rfl⟩ (.cons ru .nil),⟨_,f2.extBut _ _ nT hT,rfl,_,rfl⟩⟩
  have hn:H s.heap.objs.size=none:=I.hok.fresh (Nat.le_refl _)
  refine⟨.ref s.heap.objs.size,upd H s.heap.objs.size (.tup [.int ((k:Nat):Int),x]),I2,rfl,⟨_,x,hn,rfl,λzs hz=>by rw [SqK.inj I hz ha];exact hx,rfl⟩,⟨⟨x1,by simpa using f1⟩,hs'.1.extBut f2.extBut (Ne.symm ne)⟩,λc hc=>?_⟩
  have hlt:c<s.heap.objs.size:=by
   simp only [List.mem_cons,List.not_mem_nil,or_false] at hc
   rcases hc with rfl|rfl
   ·exact lte
   ·obtain⟨o,q,_⟩:=hi.rec';exact Heap.lt_size q
  rw [qAc (Nat.ne_of_lt hlt)]
  exact (hf c hc).1
 done:=by
  intro X hP hw hK hc k pins s σ H E I hf S hg
  subst hP hw hK
  obtain⟨xs,ha,hl⟩:=hg
  obtain⟨i1,r1,p1,z1⟩:=ha.its I
  have l1:=r1.length
  have na:=ha.nfp I hf
  simp only [List.mem_cons,List.not_mem_nil,or_false,not_or] at na
  obtain⟨⟨old,he⟩,hi⟩:=S
  have hT:s.TypeIs (.ref e) "enumerate":=⟨_,he,rfl⟩
  unfold pyNext
  refine wpAny_bind (wpAny_attempt (wpAny_callSpecial?_slot (name:=Str.ofString "__next__") hT F.slot_enumerate_next
   (wpAny_call_entry F.slot_enumerate_next hT F.entry_enumerate_next ?_ (F.args_enumerate_next_1 _))))
  show wpAny _ _ (field (.ref e) 2 >>= _) _ _ _
  refine wpAny_bind (wpAny_field he rfl (x:=.ref i) rfl ?_)
  refine wpAny_bind (qFM (I.ok.hd hc) hi p1 (by simp;omega) λh' x he' hx'=>?_)
  obtain⟨o,ho,hcc⟩:=hx'
  refine wpAny_bind (wpAny_isInstance (T:="StopIteration") (b:=true) ⟨o,ho,hcc⟩ isSubtype_stop ?_)
  exact wpAny_pure ⟨rfl,qNt (t':=s.toks) I hf λc o hc q=>he' c o (λr=>hc (by simp [r])) q⟩
 self:=λ_ _ _ _ _ S h=>by obtain⟨⟨old,he⟩,_⟩:=S;exact wpAny_pyIter_enum he h
theorem qKJ {kd:Bool}{K:PySem.W.Frag}{H:Hp}{F:Fz}{a:Addr}{ds:List D}{vs:List V}(ha:SqF kd K H F a vs) (ra:RDs K H F ds vs):qK1 K (Ite kd K a) H F (qBP 0 ds):=by
 intro H' F' k dom
 have ha':SqK kd K H' a vs:=ha.keep k
 have ra':=RDs.mono k ra
 have la:=RDs.length ra'
 refine⟨λi d hd=>?_,⟨vs,ha',?_⟩⟩
 ·rw [qIf] at hd
  cases h1:ds[i]? with
  | none=>simp [h1] at hd
  | some d1 =>
   simp only [h1,Option.map_some,Option.some.injEq,Nat.zero_add] at hd
   subst hd
   obtain⟨v,e1,e2⟩:=RDs.get ra' h1
   refine⟨⟨vs,v,ha',e1⟩,λx H3 y=>?_⟩
   obtain⟨T,x1,hT,rfl,q1,rfl⟩:=y
   have:=q1 vs ha'
   rw [e1] at this
   cases this
   obtain⟨g,rr⟩:=qBY (ds:=[.int ((i:Nat):Int),d1]) dom hT ⟨.int ((i:Nat):Int),[v],rfl,rfl,v,[],rfl,e2,rfl⟩
   exact⟨F',g,rr⟩
 ·rw [qBU]
  omega
section
variable {X:Cx}
theorem qKf:bootBuiltins (Str.ofString "enumerate")=some (.type "enumerate"):=by decide +kernel
noncomputable def qRT (K:PySem.W.Frag) (ta:TA):TI:=fun σ H R=>ta σ H λvs H1=>∃(kd:Bool) (a:Addr) (xs:List V),vs=[.ref a]/\SqK kd K H1 a xs/\(xs.length<=sizeLine->R (Ite kd K a) H1)
theorem qOb {es:List Expr}{kk:Nat}{tp:Pos}{x:Str}{a:Expr}{ta:TA}{p pos:Pos}(hx:x=Str.ofString "enumerate") (hg:Gl X x) (hm:X.mg x=none) (ha:PA X [a] ta) (hs:starEach [a] X.env=[(false,eval a X.env)]) :
  PI X (.Tuple es kk tp) (.Call (.Name x p) [a] [] pos) (qRT X.K ta):=by
 subst hx
 intro pins s σ H R I h
 refine Call_ (qCu I hg hm qKf (PyProof.Rows.callWith_type1 (thn (ha pos pins s σ H _ I h) λus s1 ⟨vs,H1,I1,r1,q1⟩=>?_) (by rw [hs];rfl) (by rfl)))
 obtain⟨kd,a1,xs,rfl,hx,q⟩:=q1
 cases r1 with
 | cons ra rr =>
  cases rr
  cases ra
  obtain⟨t1,v1,p1,zl⟩:=hx.its I1
  refine qIe p1 λh' S kp=>?_
  obtain⟨⟨old,he⟩,hi⟩:=S
  refine wpAny_pyIter_enum he ?_
  have I2:Inv X pins σ H1 { s1 with heap:=h' }:=I1.kept (t':=s1.toks) kp
  refine⟨_,[s1.heap.objs.size+1,s1.heap.objs.size],_,_,H1,rfl,I2,qI7 a1 (Nat.succ_ne_self _),⟨⟨old,he⟩,hi⟩,λc hc=>?_,q zl⟩
  have hge:s1.heap.objs.size<=c:=by
   simp only [List.mem_cons,List.not_mem_nil,or_false] at hc
   rcases hc with rfl|rfl<;>omega
  exact I1.fpOk hge (I1.hok.fresh hge)
end
end Dw
namespace Dw
open PySem PySem.Spec PyProof.Rows L2
noncomputable def qGE (env:Env):List (Str×NameKind)->List (Str×Addr)->List (Str×Addr)
 | [],acc=>acc
 | (n,k)::r,acc=>qGE env r (if k == .free then (n,(env.cells.lookup n).getD 0)::acc else acc)
theorem qIs (env:Env):∀(l:List (Str×NameKind)) (acc:List (Str×Addr)),(∀y∈l,y.2=.free->∃c,env.cells.lookup y.1=some c) ->
  (do
   let mut cs:=acc
   for (name,kind) in l do
    if kind == .free then cs:=(name,<-cellOf env name)::cs
   return cs:Sem (List (Str×Addr)))=pure (qGE env l acc)
 | [],acc,_=>rfl
 | (n,k)::r,acc,h=>by
  have ih:=λa=>qIs env r a λy hy=>h y (List.mem_cons_of_mem _ hy)
  simp only [List.forIn_cons]
  cases hk:k == NameKind.free with
  | true =>
   obtain⟨c,hc⟩:=h (n,k) List.mem_cons_self (by simpa using hk)
   have e:cellOf env n=pure c:=by unfold cellOf;rw [hc]
   simp only [if_true]
   rw [e]
   have:=ih ((n,c)::acc)
   simp only [qGE,hk,if_true,hc,Option.getD_some]
   exact this
  | false =>
   simp only [qGE,hk,Bool.false_eq_true,if_false]
   exact ih acc
theorem clos_of (sc:Scope) (env:Env) (h:∀y∈sc.names,y.2=.free->∃c,env.cells.lookup y.1=some c):closureFor sc env=pure (qGE env sc.names []):=qIs env sc.names [] h
theorem qEI (env:Env):∀(l:List (Str×NameKind)) (acc:List (Str×Addr)) (x:Str) (c:Addr),(qGE env l acc).lookup x=some c->acc.lookup x=some c∨((x,NameKind.free)∈l/\c=(env.cells.lookup x).getD 0)
 | [],acc,x,c,h=>.inl h
 | (n,k)::r,acc,x,c,h=>by
  rcases qEI env r _ x c h with q|q
  ·split at q
   ·rename_i hk
    rw [List.lookup_cons] at q
    split at q
    ·rename_i hx
     have e1:x=n:=by simpa using hx
     have e2:k=.free:=by simpa using hk
     subst e1 e2
     cases q
     exact .inr ⟨List.mem_cons_self,rfl⟩
    ·exact .inl q
   ·exact .inl q
  ·exact .inr ⟨List.mem_cons_of_mem _ q.1,q.2⟩
theorem qDb (env:Env):∀(l:List (Str×NameKind)) (acc:List (Str×Addr)) (x:Str),((x,NameKind.free)∈l∨(acc.lookup x).isSome=true)->∃c,(qGE env l acc).lookup x=some c
 | [],acc,x,h=>by
  rcases h with h|h
  ·cases h
  ·exact Option.isSome_iff_exists.mp h
 | (n,k)::r,acc,x,h=>by
  refine qDb env r _ x ?_
  rcases h with h|h
  ·rcases List.mem_cons.mp h with e|e
   ·cases e
    exact .inr (by simp)
   ·exact .inl e
  ·refine .inr ?_
   split
   ·rw [List.lookup_cons]
    split
    ·rfl
    ·exact h
   ·exact h
theorem qFo {env:Env}{sc:Scope}{x:Str}{c:Addr}(h:∀y∈sc.names,y.2=.free->∃c,env.cells.lookup y.1=some c) (e:(qGE env sc.names []).lookup x=some c):env.cells.lookup x=some c:=by
 rcases qEI env _ _ x c e with q|⟨q1,q2⟩
 ·cases q
 ·obtain⟨c',hc⟩:=h _ q1 rfl
  have hc':env.cells.lookup x=some c':=hc
  rw [q2,hc']
  rfl
theorem qCt {env:Env}:∀{names:List (Str×NameKind)}{x:Str},
  (names.map λ(n,k)=>if (k == NameKind.free&&env.scope.kind == .function&&env.kindOf n == some .cell) then (n,NameKind.cell) else (n,k)).lookup x =
   (names.lookup x).map λk=>if (k == NameKind.free&&env.scope.kind == .function&&env.kindOf x == some .cell) then NameKind.cell else k
 | [],x=>rfl
 | (n,k)::r,x=>by
  have ih:=@qCt env r x
  show List.lookup x ((if (k == NameKind.free&&env.scope.kind == .function&&env.kindOf n == some .cell)=true then (n,NameKind.cell) else (n,k))::_)=_
  cases hx:x == n with
  | true =>
   have e:x=n:=by simpa using hx
   subst e
   cases hc:(k == NameKind.free&&env.scope.kind == .function&&env.kindOf x == some .cell)<;>simp only [List.lookup_cons,hc,beq_self_eq_true,if_true,Bool.false_eq_true,if_false,Option.map_some]
  | false =>
   cases hc:(k == NameKind.free&&env.scope.kind == .function&&env.kindOf n == some .cell)<;>(simp only [List.lookup_cons,hx,if_true,Bool.false_eq_true,if_false];exact ih)
theorem qDI (sc:Scope) (env:Env) (x:Str):(relabel sc env).names.lookup x=(sc.names.lookup x).map λk=>if (k == NameKind.free&&env.scope.kind == .function&&env.kindOf x == some .cell) then NameKind.cell else k:=qCt
theorem qDJ {sc:Scope}{env:Env}{x:Str}(h:sc.names.lookup x=some .local):(relabel sc env).names.lookup x=some .local:=by
 rw [qDI,h];rfl
theorem qLS {sc:Scope}{env:Env}{x:Str}(h:sc.names.lookup x=some .globalImplicit):(relabel sc env).names.lookup x=some .globalImplicit:=by
 rw [qDI,h];rfl
theorem qE7 {sc:Scope}{env:Env}{x:Str}(h:sc.names.lookup x=some .free):(relabel sc env).names.lookup x=some .cell∨(relabel sc env).names.lookup x=some .free:=by
 rw [qDI,h]
 simp only [Option.map_some]
 split
 ·exact .inl rfl
 ·exact .inr rfl
theorem qLT {sc:Scope}{env:Env}{x:Str}(hc:∀y∈sc.names,y.2≠.cell) (h:(relabel sc env).names.lookup x=some .cell∨(relabel sc env).names.lookup x=some .free):sc.names.lookup x=some .free:=by
 rw [qDI] at h
 cases hx:sc.names.lookup x with
 | none=>rw [hx] at h;rcases h with h|h<;>cases h
 | some k =>
  rw [hx] at h
  simp only [Option.map_some,Option.some.injEq] at h
  cases k with
  | free=>rfl
  | cell=>exact absurd rfl (hc _ (PySem.mem_of_lookup hx))
  | _=>rcases h with h|h<;>(split at h<;>first|(cases h;done)|(rename_i q;exfalso;revert q;simp;done))
noncomputable def qDx (X:Cx) (sc:Scope) (N:List Str) (C:Addr) (s:Shared) (H:Hp) (fp:List Addr):Cx where
 prog:=X.prog
 w:=X.w
 K:=X.K
 mg:=X.mg
 base:=X.base
 A:=X.A
 N:=N
 s₀:=s
 H₀:=H
 env:=compEnvC sc (qGE X.env sc.names []) C X.env
 outer:=X.stack
 stack:=X.stack
 ex:=fp
 calm:=X.calm
 fn:=λ_=>false
 pn:=[]
 xe:=λ_ _=>False
section
variable {call:Nat->List D->Option R}{G:Gx}{k:Nat}{X:Cx}{sc sc':Scope}{N:List Str}
structure ScOk (sc:Scope):Prop where
 kind:sc.kind=.function
 cell:∀y∈sc.names,y.2≠.cell
 nd:(sc.names.map (·.1)).Nodup
 pl:∀x∈qA1 sc++qAD sc,qAO x=true
theorem qDH (h:qCQ sc=true):ScOk sc:=by
 unfold qCQ at h
 simp only [Bool.and_eq_true,beq_iff_eq,List.all_eq_true,bne_iff_ne,ne_eq,decide_eq_true_eq] at h
 obtain⟨⟨⟨h1,h2⟩,h3⟩,h4⟩:=h
 exact⟨h1,h2,h3,h4⟩
theorem qBD {l:List (Str×NameKind)}(nd:(l.map (·.1)).Nodup) {x:Str}{k:NameKind}(h:(x,k)∈l):l.lookup x=some k:=by
 induction l with
 | nil=>cases h
 | cons p r ih =>
  obtain⟨n,k'⟩:=p
  simp only [List.map_cons,List.nodup_cons] at nd
  rcases List.mem_cons.mp h with e|e
  ·cases e
   simp [List.lookup_cons]
  ·have hne:(x == n)=false:=by
    rw [beq_eq_false_iff_ne]
    intro z
    subst z
    exact nd.1 (List.mem_map.mpr ⟨_,e,rfl⟩)
   rw [List.lookup_cons,hne]
   exact ih nd.2 e
theorem own_mem {x:Str}:x∈qA1 sc↔(x,NameKind.local)∈sc.names/\x≠Str.ofString ".0":=by
 unfold qA1
 simp only [List.mem_map,List.mem_filter,Bool.and_eq_true,beq_iff_eq,bne_iff_ne,ne_eq]
 constructor
 ·rintro⟨⟨n,k⟩,⟨h1,h2,h3⟩,rfl⟩
  have h2:k=.local:=h2
  subst h2
  exact⟨h1,h3⟩
 ·rintro⟨h1,h2⟩
  exact⟨_,⟨h1,rfl,h2⟩,rfl⟩
theorem free_mem {x:Str}:x∈qAD sc↔(x,NameKind.free)∈sc.names:=by
 unfold qAD
 simp only [List.mem_map,List.mem_filter,beq_iff_eq]
 constructor
 ·rintro⟨⟨n,k⟩,⟨h1,h2⟩,rfl⟩
  have h2:k=.free:=h2
  subst h2
  exact h1
 ·intro h
  exact⟨_,⟨h,rfl⟩,rfl⟩
theorem qGY {p:(Str×NameKind)->Bool}(nd:(sc.names.map (·.1)).Nodup):((sc.names.filter p).map (·.1)).Nodup:=nd.sublist ((List.filter_sublist).map _)
theorem qFN (S:ScOk sc):(qA1 sc++qAD sc).Nodup:=by
 rw [List.nodup_append]
 refine⟨qGY S.nd,qGY S.nd,λx hx y hy e=>?_⟩
 subst e
 have h1:=qBD S.nd (own_mem.mp hx).1
 have h2:=qBD S.nd (free_mem.mp hy)
 rw [h1] at h2
 cases h2
end
end Dw
namespace Dw
open PySem PySem.Spec PyProof.Rows L2
section
variable {call:Nat->List D->Option R}{G:Gx}{k:Nat}{X:Cx}{sc sc':Scope}{N:List Str}
noncomputable def qKs (X:Cx) (sc':Scope):Prop:=∀x,(x,NameKind.free)∈sc'.names->X.env.kindOf x=some .cell∨X.env.kindOf x=some .free
theorem qB6 (ok:X.Ok) (h:qKs X sc'):∀y∈sc'.names,y.2=.free->∃c,X.env.cells.lookup y.1=some c:=λy hy e=>by
 obtain⟨x,kk⟩:=y
 have e:kk=.free:=e
 subst e
 exact ok.has x (h x hy)
theorem qQG {pins:List (Addr×Obj)}{σ:L2.St}{H:Hp}{s:Shared}{fp:List Addr}{N':List Str}(I:Inv X pins σ H s) (S:ScOk sc') (T:qKs X sc') (hf:∀b∈fp,qEW X pins H b) (hl:∀b∈fp,b<s.heap.objs.size) :
  (qDx X sc' N' s.heap.objs.size s H fp).Ok:=by
 have hc:=qB6 I.ok T
 refine⟨I.ok.mod,S.kind,I.ok.glob,I.ok.blt,Nat.le_refl _,λx y c h1 h2=>?_,λx h=>?_,λx c h=>?_,I.ok.hd,I.ok.frames,.inl rfl,λb hb=>⟨Nat.ne_of_lt (hl b hb),λx c e=>?_⟩,I.bs,Nat.le_trans I.ok.bsz I.sz,λb o e hb=>?_,λb hb hs=>?_,I.stack,I.stkFree⟩
 ·exact I.ok.inj x y c (qFo hc h1) (qFo hc h2)
 ·have hx:=qLT S.cell h
  exact qDb X.env _ _ x (.inl (PySem.mem_of_lookup hx))
 ·exact absurd h (by intro z;cases z)
 ·exact (hf b hb).2.2.2.2.1 x c (qFo hc e)
 ·rcases (hf b hb).2.2.2.1 with q|q
  ·exact I.ok.noex b o e q
  ·exact absurd (Nat.lt_of_lt_of_le (Heap.lt_size (I.ok.bs b o e).1) q) (Nat.lt_irrefl _)
 ·rcases List.mem_cons.mp (I.stkSub b hs) with e|e
  ·exact (hf b hb).2.1 e
  ·exact (hf b hb).2.2.1 e
theorem qJ6 {pins:List (Addr×Obj)}{σ:L2.St}{H:Hp}{s:Shared}{fp:List Addr}{N':List Str}{h':Heap}{t':Nat}{m:Str->Option Value}(I:Inv X pins σ H s) (S:ScOk sc') (T:qKs X sc') (hf:∀b∈fp,qEW X pins H b) (hl:∀b∈fp,b<s.heap.objs.size)
  (kp:∀b o,s.heap.get? b=some o->h'.get? b=some o) (hn:h'.Ns s.heap.objs.size m) (τ:L2.St) (hlen:τ.length=N'.length)
  (hv:∀(i:Nat) (x:Str) (v:V),N'[i]?=some x->τ[i]?=some (some v)->(x,NameKind.free)∈sc'.names/\∃j:Nat,X.N[j]?=some x/\σ[j]?=some (some v)) (hvis:∀x,(x,NameKind.free)∈sc'.names->Vis X.env.scope x) :
  Inv (qDx X sc' N' s.heap.objs.size s H fp) (X.pn++pins) τ H { s with heap:=h',toks:=t' }:=by
 have hc:=qB6 I.ok T
 refine⟨qQG I S T hf hl,rfl,I.bare,Un.kept kp,⟨m,hn,λi x v e1 e2 e3=>?_⟩,λx c e=>?_,I.hok.fresh (Nat.le_refl _),λx c e=>I.freeC x c (qFo hc e),λp hp=>?_,I.hok.kept kp,hlen⟩
 ·obtain⟨hx,j,q1,q2⟩:=hv i x v e1 e2
  obtain⟨m0,hm0,hl0⟩:=I.loc
  obtain⟨u,r,l⟩:=hl0 j x v q1 q2 (hvis x hx)
  refine⟨u,r,.inr ⟨?_,?_⟩⟩
  ·exact qE7 (qBD S.nd hx)
  ·obtain⟨c,ec⟩:=qDb X.env _ [] x (.inl hx)
   refine⟨c,ec,?_⟩
   have ec':=qFo hc ec
   rcases l with ⟨hk,_⟩|⟨hk,c',hc',hcell⟩
   ·rcases T x hx with z|z<;>(rw [hk] at z;cases z)
   ·rw [ec'] at hc'
    cases hc'
    obtain⟨o,ho,hd⟩:=hcell
    exact⟨o,kp c o ho,hd⟩
 ·obtain⟨v,o,ho,hd⟩:=I.cell x c (qFo hc e)
  exact⟨v,o,kp c o ho,hd⟩
 ·have hp':p∈X.pn++pins:=hp
  obtain⟨e,n,ne,nf,d⟩:=I.pin p hp'
  refine⟨kp _ _ e,n,Nat.ne_of_lt (Heap.lt_size e),λhs=>?_,d⟩
  rcases List.mem_cons.mp (I.stkSub p.1 hs) with z|z
  ·exact ne z
  ·exact nf z
theorem qQF (g:XG call G k X sc N) (S:ScOk sc') {C:Addr}{s:Shared}{H:Hp}{fp:List Addr}:XG call G k (qDx X sc' (qA1 sc'++qAD sc') C s H fp) sc' (qA1 sc'++qAD sc'):=by
 refine⟨rfl,qFN S,λx h=>?_,λx h=>?_,λx h=>?_,λx h=>?_,g.calm,PassesOwn.never,g.room,λf i h=>?_,g.blt,g.cons,λu hu=>?_,λu hu=>?_,g.two,λc h=>⟨(g.rse c h).ex⟩,λf i h=>⟨(g.xdf f i h).ex⟩⟩
 ·unfold qKw at h
  simp only [Bool.or_eq_true,beq_iff_eq] at h
  rcases h with (h|h)|h
  ·exact .inl (qDJ h)
  ·exact absurd rfl (S.cell _ (PySem.mem_of_lookup h))
  ·rcases qE7 (env:=X.env) h with q|q
   ·exact .inr (.inl q)
   ·exact .inr (.inr q)
 ·simp only [Bool.or_eq_true,beq_iff_eq] at h
  rcases h with h|h
  ·exact⟨.inl (qDJ h),.inr (qDJ h)⟩
  ·exact absurd rfl (S.cell _ (PySem.mem_of_lookup h))
 ·unfold glB at h
  rw [beq_iff_eq] at h
  exact qLS h
 ·unfold qKS at h
  simp only [Bool.or_eq_true,beq_iff_eq] at h
  rcases h with h|h
  ·exact absurd rfl (S.cell _ (PySem.mem_of_lookup h))
  ·exact qE7 h
 ·obtain⟨a,fd,ps,h1,h2,h3,h4,h5⟩:=(g.defs f i h).ex
  exact⟨a,fd,ps,h1,h2,h3,h4,h5⟩
 ·obtain⟨a,fd,ps,gg,gV,h1,h2,h3,h4,h5,h6,h7⟩:=(g.ucal u hu).ex
  exact⟨a,fd,ps,gg,gV,h1,h2,h3,h4,h5,h6,h7⟩
 ·exact⟨(g.meth u hu).ex⟩
end
end Dw
namespace Dw
open PySem PySem.Spec PyProof.Rows L2
section
variable {call:Nat->List D->Option R}{G:Gx}{k:Nat}{X:Cx}{sc sc':Scope}{N:List Str}
variable (X) in
noncomputable def qGI (tg iter:Expr) (b:Bool) (src:En->Option (List D)):Prop:=∃wi:TI,PI X tg iter wi/\∀(Ge H:Hp) (F:Fz) (σ:En) (τ:L2.St) (its:List D) (Rr:It->Hp->Prop),src σ=some its->SR X.K Ge H F σ τ ->
 (∀J H' F',Gr H F H' F'->qK1 X.K J H' F' its->(b=true->its.length<=lim)->Rr J H')->wi τ H Rr
noncomputable def qRS (K:PySem.W.Frag) (tl:TE):TI:=fun σ H R=>tl σ H λx H1=>∃a xs,x=.ref a/\((SqL K H1 a xs/\(xs.length<=sizeLine->R (Itl K a) H1))∨(SqT K H1 a xs/\(xs.length<=sizeLine->R (Itt K a) H1)))
theorem qOa {tg l:Expr}{tl:TE}(hl:PE X l tl):PI X tg l (qRS X.K tl):=by
 intro pins s σ H R I h
 refine thn (hl pins s σ H _ I h) λv s1 ⟨x,H1,I1,r1,a,xs,e,q⟩=>?_
 subst e;cases r1
 have hf:∀b∈[s1.heap.objs.size],qEW X pins H1 b:=λb hb=>by
  have e:b=s1.heap.objs.size:=by simpa using hb
  subst e;exact I1.fpOk (Nat.le_refl _) (I1.hok.fresh (Nat.le_refl _))
 rcases q with ⟨hq,q⟩|⟨hq,q⟩
 ·obtain⟨its,rv,p,hz⟩:=I1.list hq
  exact wpAny_pyIter_list p.isList ⟨s1.heap.objs.size,[s1.heap.objs.size],_,_,H1,rfl,I1.kept (t':=s1.toks) λb o e=>Heap.get?_push_of_some _ e,qGR a _,⟨_,Heap.get?_push_size _ rfl,rfl,rfl⟩,hf,q hz⟩
 ·obtain⟨its,rv,p,hz⟩:=I1.tuple hq
  exact wpAny_pyIter_tuple (show s1.heap.IsTuple a its.toArray from p) ⟨s1.heap.objs.size,[s1.heap.objs.size],_,_,H1,rfl,I1.kept (t':=s1.toks) λb o e=>Heap.get?_push_of_some _ e,qGk a _,⟨_,Heap.get?_push_size _ rfl,rfl,rfl⟩,hf,q hz⟩
theorem qLA {tg l:Expr}{c:C}(h:SndE call X l c):qGI X tg l true (fun σ=>(evE call σ c).bind λx=>qB7 x.2):=by
 obtain⟨t,p,q⟩:=h
 refine⟨_,qOa p,λGe H F σ τ its Rr hs hr kk=>?_⟩
 obtain⟨r,e1,e2⟩:=qAb hs
 refine q Ge H F σ τ r _ e1 hr λv H1 F1 g rr=>?_
 obtain⟨F2,g2,rd⟩:=rr.fz g
 obtain⟨b,d⟩:=r
 cases d with
 | lst ds =>
  cases e2
  obtain⟨a,vs,rfl,hl,hrd⟩:=rd
  exact⟨a,vs,rfl,.inl ⟨hl.sq,λz=>kk _ H1 F2 g2 (qMH hl hrd) λ_=>by rw [<-RDs.length hrd];exact z⟩⟩
 | tup ds =>
  cases e2
  obtain⟨a,vs,rfl,hl,hrd⟩:=rd
  exact⟨a,vs,rfl,.inr ⟨hl,λz=>kk _ H1 F2 g2 (qOM hl hrd) λ_=>by rw [<-RDs.length hrd];exact z⟩⟩
 | _=>cases e2
theorem qLK {es:List Expr}{kk:Nat}{tp:Pos}{x:Str}{a:Expr}{ca:C}{p pos:Pos}(hx:x=Str.ofString "enumerate") (hg:Gl X x) (hm:X.mg x=none) (hn:[a].all qBN=true) (ha:SndE call X a ca) :
  qGI X (.Tuple es kk tp) (.Call (.Name x p) [a] [] pos) true (fun σ=>(evE call σ ca).bind λx=>(qB7 x.2).bind λxs=>some (qBP 0 xs)):=by
 simp only [List.all_cons,List.all_nil,Bool.and_true] at hn
 have s1:starEach [a] X.env=[(false,eval a X.env)]:=qAx hn
 obtain⟨ta,pa,qa⟩:=ha
 refine⟨_,qOb hx hg hm (qBe pa qB3 s1) s1,λGe H F σ τ its Rr hs hr kk=>?_⟩
 obtain⟨r,e1,e2⟩:=qAb hs
 obtain⟨xs,e5,e6⟩:=qAb e2
 cases e6
 refine qa Ge H F σ τ r _ e1 hr λv H1 F1 g1 rr1=>?_
 obtain⟨F1',g1',rd1⟩:=rr1.fz g1
 obtain⟨b1,d1⟩:=r
 cases d1 with
 | lst ds1 =>
  cases e5
  obtain⟨p1,v1,rfl,h1,q1⟩:=rd1
  exact⟨true,p1,v1,rfl,LsR.sq h1,λz=>kk _ H1 F1' g1' (qKJ (kd:=true) h1 q1) λ_=>by rw [qBU,<-RDs.length q1];exact z⟩
 | tup ds1 =>
  cases e5
  obtain⟨p1,v1,rfl,h1,q1⟩:=rd1
  exact⟨false,p1,v1,rfl,h1,λz=>kk _ H1 F1' g1' (qKJ (kd:=false) h1 q1) λ_=>by rw [qBU,<-RDs.length q1];exact z⟩
 | _=>cases e5
theorem qLv {es:List Expr}{kk:Nat}{tp:Pos}{x:Str}{a b:Expr}{ca cb:C}{p pos:Pos}(hx:x=Str.ofString "zip") (hg:Gl X x) (hm:X.mg x=none) (hn:[a,b].all qBN=true) (ha:SndE call X a ca) (hb:SndE call X b cb) :
  qGI X (.Tuple es kk tp) (.Call (.Name x p) [a,b] [] pos) true (fun σ=>(evE call σ ca).bind λx=>(evE call σ cb).bind λy=>(qB7 x.2).bind λxs=>(qGT y.2).bind λys=>some (qCn xs ys)):=by
 simp only [List.all_cons,List.all_nil,Bool.and_true,Bool.and_eq_true] at hn
 have s2:starEach [b] X.env=[(false,eval b X.env)]:=qAx hn.2
 have s1:starEach [a,b] X.env=[(false,eval a X.env),(false,eval b X.env)]:=(qAx hn.1).trans (by rw [s2])
 obtain⟨ta,pa,qa⟩:=ha
 obtain⟨tb,pb,qb⟩:=hb
 refine⟨_,qN9 hx hg hm (qBe pa (qBe pb qB3 s2) (qAx hn.1)) s1 s2,λGe H F σ τ its Rr hs hr kk=>?_⟩
 obtain⟨r,e1,e2⟩:=qAb hs
 obtain⟨r',e3,e4⟩:=qAb e2
 obtain⟨xs,e5,e6⟩:=qAb e4
 obtain⟨ys,e7,e8⟩:=qAb e6
 cases e8
 refine qa Ge H F σ τ r _ e1 hr λv H1 F1 g1 rr1=>?_
 obtain⟨F1',g1',rd1⟩:=rr1.fz g1
 refine qb Ge H1 F1' σ τ r' _ e3 (hr.grow g1') λw H2 F2 g2 rr2=>?_
 obtain⟨F2',g2',rd2⟩:=rr2.fz g2
 have rd1':=RD.mono g2'.keep rd1
 obtain⟨b1,d1⟩:=r
 obtain⟨b2,d2⟩:=r'
 cases d1 with
 | lst ds1 =>
  cases d2 with
  | tup ds2 =>
   cases e5
   cases e7
   obtain⟨p1,v1,rfl,h1,q1⟩:=rd1'
   obtain⟨p2,v2,rfl,h2,q2⟩:=rd2
   exact⟨true,false,p1,p2,v1,v2,rfl,LsR.sq h1,h2,λz=>kk _ H2 F2' (g1'.trans g2') (qFQ (kd:=true) (ke:=false) h1 h2 q1 q2) λ_=>by
    have:=RDs.length q1
    unfold qCn
    rw [List.length_zipWith,<-this]
    exact Nat.le_trans (Nat.min_le_left _ _) z⟩
  | lst ds2 =>
   cases e5
   cases e7
   obtain⟨p1,v1,rfl,h1,q1⟩:=rd1'
   obtain⟨p2,v2,rfl,h2,q2⟩:=rd2
   exact⟨true,true,p1,p2,v1,v2,rfl,LsR.sq h1,LsR.sq h2,λz=>kk _ H2 F2' (g1'.trans g2') (qFQ (kd:=true) (ke:=true) h1 h2 q1 q2) λ_=>by
    have:=RDs.length q1
    unfold qCn
    rw [List.length_zipWith,<-this]
    exact Nat.le_trans (Nat.min_le_left _ _) z⟩
  | _=>cases e7
 | tup ds1 =>
  cases d2 with
  | tup ds2 =>
   cases e5
   cases e7
   obtain⟨p1,v1,rfl,h1,q1⟩:=rd1'
   obtain⟨p2,v2,rfl,h2,q2⟩:=rd2
   exact⟨false,false,p1,p2,v1,v2,rfl,h1,h2,λz=>kk _ H2 F2' (g1'.trans g2') (qFQ (kd:=false) (ke:=false) h1 h2 q1 q2) λ_=>by
    have:=RDs.length q1
    unfold qCn
    rw [List.length_zipWith,<-this]
    exact Nat.le_trans (Nat.min_le_left _ _) z⟩
  | lst ds2 =>
   cases e5
   cases e7
   obtain⟨p1,v1,rfl,h1,q1⟩:=rd1'
   obtain⟨p2,v2,rfl,h2,q2⟩:=rd2
   exact⟨false,true,p1,p2,v1,v2,rfl,h1,LsR.sq h2,λz=>kk _ H2 F2' (g1'.trans g2') (qFQ (kd:=false) (ke:=true) h1 h2 q1 q2) λ_=>by
    have:=RDs.length q1
    unfold qCn
    rw [List.length_zipWith,<-this]
    exact Nat.le_trans (Nat.min_le_left _ _) z⟩
  | _=>cases e7
 | _=>cases e5
theorem qD0:∀{cs:List C}{σ:En}{ds:List D},qBO call σ cs=some ds->ds.length=cs.length
 | [],_,_,h=>by cases h;rfl
 | c::cr,σ,ds,h=>by
  obtain⟨x,e1,e2⟩:=qAb (by simpa only [qA3] using h)
  obtain⟨xs,e3,e4⟩:=qAb e2
  cases e4
  simp [qD0 e3]
theorem qLB {tg:Expr}{x:Str}{rs:List Expr}{cs:List C}{p pos:Pos}(hx:x=Str.ofString "range") (hg:Gl X x) (hm:X.mg x=none) (hn:rs.all qBN=true) (hl:rs.length=1∨rs.length=2) (hcl:cs.length=rs.length) (h:qEV call X rs cs) :
  qGI X tg (.Call (.Name x p) rs [] pos) false (fun σ=>(qBO call σ cs).bind qEX):=by
 subst hx
 obtain⟨t,pt,q⟩:=h
 match rs,hl,hn,hcl,pt with
 | [a],_,hn,hcl,pt =>
  simp only [List.all_cons,List.all_nil,Bool.and_true] at hn
  refine⟨_,qHs hg hm pt (qAx hn),λGe H F σ τ its Rr hs hr kk=>?_⟩
  obtain⟨ds,e1,e2⟩:=qAb hs
  have hlen:=qD0 e1
  rw [hcl] at hlen
  refine q Ge H F σ τ ds _ e1 hr λvs H1 F1 g rr=>?_
  match ds,e2,rr,hlen with
  | [.int n],e2,rr,_ =>
   obtain⟨hc,rfl⟩:=qAt (show (if -(2^62)<=n/\n<2^62 then some ((List.range n.toNat).map λi=>D.int (i:Nat)) else none)=some its from e2)
   obtain⟨v,rfl,hv⟩:=RPs.one rr
   have e:(List.range n.toNat).map (λi:Nat=>D.int (i:Nat))=(List.range n.toNat).map λi:Nat=>D.int (0+(i:Nat)):=by simp
   exact⟨n,by rw [hv.int],hc.1,hc.2,kk _ H1 F1 g (by rw [e];exact qON 0 n.toNat) λz=>nomatch z⟩
 | [a,b],_,hn,hcl,pt =>
  simp only [List.all_cons,List.all_nil,Bool.and_true,Bool.and_eq_true] at hn
  have s2:starEach [b] X.env=[(false,eval b X.env)]:=qAx hn.2
  have s1:starEach [a,b] X.env=[(false,eval a X.env),(false,eval b X.env)]:=(qAx hn.1).trans (by rw [s2])
  refine⟨_,qHr hg hm pt s1 s2,λGe H F σ τ its Rr hs hr kk=>?_⟩
  obtain⟨ds,e1,e2⟩:=qAb hs
  have hlen:=qD0 e1
  rw [hcl] at hlen
  refine q Ge H F σ τ ds _ e1 hr λvs H1 F1 g rr=>?_
  match ds,e2,rr,hlen with
  | [.int i,.int j],e2,rr,_ =>
   cases e2
   obtain⟨v,w,rfl,hv,hw⟩:=RPs.two rr
   have e:(List.range (j - i).toNat).map (λk:Nat=>D.int (i+(k:Nat)))=(List.range (j - i).toNat).map λk:Nat=>D.int (i+(k:Nat) * 1):=by
    refine List.map_congr_left λk _=>?_
    rw [Int.mul_one]
   exact⟨i,j,by rw [hv.int,hw.int],kk _ H1 F1 g (by rw [e];exact qMG i 1 (j - i).toNat) λz=>nomatch z⟩
end
end Dw
namespace Dw
open PySem PySem.Spec PyProof.Rows L2
section
variable {call:Nat->List D->Option R}{G:Gx}{k:Nat}{X:Cx}{sc sc':Scope}{N:List Str}
theorem qA8 {α β:Type}{f:α->Option β}:∀{l:List α}{ks:List β},qAU f l=some ks->ks.length=l.length/\∀(i:Nat) (x:α),l[i]?=some x->∃j,ks[i]?=some j/\f x=some j
 | [],ks,h=>by cases h;exact⟨rfl,λi x e=>by simp at e⟩
 | a::r,ks,h=>by
  obtain⟨b,e1,e2⟩:=qAb (show ((f a).bind λx=>(qAU f r).bind λxs=>some (x::xs))=some ks from h)
  obtain⟨bs,e3,e4⟩:=qAb e2
  cases e4
  obtain⟨h1,h2⟩:=qA8 e3
  refine⟨by simp [h1],λi x e=>?_⟩
  cases i with
  | zero=>simp at e;subst e;exact⟨b,rfl,e1⟩
  | succ i=>simp at e;obtain⟨j,q1,q2⟩:=h2 i x e;exact⟨j,by simpa using q1,q2⟩
theorem qDz {x:Str}{j:Nat}(h:qCk sc N x=some j):qKS sc x=true/\N[j]?=some x/\qKw sc x=true:=by
 unfold qCk at h
 split at h
 ·rename_i hc
  unfold qBA at h
  split at h
  ·rename_i hv
   rw [Bool.and_eq_true] at hv
   exact⟨hc,qBg h,hv.1⟩
  ·cases h
 ·cases h
variable {ks:List Nat}
theorem qFu (g:XG call G k X sc N) (hk:qAU (qCk sc N) (qAD sc')=some ks):qKs X sc':=λx hx=>by
 obtain⟨i,hi⟩:=List.mem_iff_getElem?.mp (free_mem.mpr hx)
 obtain⟨j,e1,e2⟩:=(qA8 hk).2 i x hi
 exact g.cap x (qDz e2).1
theorem qNk (g:XG call G k X sc N) (hk:qAU (qCk sc N) (qAD sc')=some ks):∀x,(x,NameKind.free)∈sc'.names->Vis X.env.scope x:=λx hx=>by
 obtain⟨i,hi⟩:=List.mem_iff_getElem?.mp (free_mem.mpr hx)
 obtain⟨j,e1,e2⟩:=(qA8 hk).2 i x hi
 exact g.vis x (qDz e2).2.2
noncomputable def qGV (τ:L2.St) (nl:Nat) (ks:List Nat):L2.St:=List.replicate nl none++ks.map λj=>(τ[j]?).join
theorem qDD (τ:L2.St) (nl:Nat):(qGV τ nl ks).length=nl+ks.length:=by simp [qGV]
theorem qFt {τ:L2.St}{nl i:Nat}{v:V}(h:(qGV τ nl ks)[i]?=some (some v)):∃m j,i=nl+m/\ks[m]?=some j/\τ[j]?=some (some v):=by
 unfold qGV at h
 by_cases hi:i<nl
 ·rw [List.getElem?_append_left (by simpa using hi),List.getElem?_replicate] at h
  split at h<;>cases h
 ·rw [List.getElem?_append_right (by simpa using hi),List.getElem?_map] at h
  simp only [List.length_replicate] at h
  cases q:ks[i - nl]? with
  | none=>rw [q] at h;cases h
  | some j =>
   rw [q] at h
   refine⟨i - nl,j,by omega,q,?_⟩
   simp only [Option.map_some,Option.some.injEq] at h
   cases q2:τ[j]? with
   | none=>rw [q2] at h;cases h
   | some o=>rw [q2] at h;simpa using h
theorem qB5 {τ:L2.St}{nl m j:Nat}{v:V}(h1:ks[m]?=some j) (h2:τ[j]?=some (some v)):(qGV τ nl ks)[nl+m]?=some (some v):=by
 unfold qGV
 rw [List.getElem?_append_right (by simp),List.getElem?_map]
 simp [h1,h2]
theorem qBw {σ:En}{nl i:Nat}{r:R}(h:qAg (qBm σ nl ks) i=some r):∃m j,i=nl+m/\ks[m]?=some j/\qAg σ j=some r:=by
 unfold qAg qBm at h
 by_cases hi:i<nl
 ·rw [List.getElem?_append_left (by simpa using hi),List.getElem?_replicate] at h
  split at h<;>cases h
 ·rw [List.getElem?_append_right (by simpa using hi),List.getElem?_map] at h
  simp only [List.length_replicate] at h
  cases q:ks[i - nl]? with
  | none=>rw [q] at h;cases h
  | some j =>
   rw [q] at h
   exact⟨i - nl,j,by omega,q,by simpa using h⟩
theorem qOD (S:ScOk sc') (hk:qAU (qCk sc N) (qAD sc')=some ks) {m m' j:Nat}(h1:ks[m]?=some j) (h2:ks[m']?=some j):m=m':=by
 obtain⟨hl,hg⟩:=qA8 hk
 have get:∀{m:Nat},ks[m]?=some j->∃x,(qAD sc')[m]?=some x/\N[j]?=some x:=λ{m} h=>by
  obtain⟨q,_⟩:=List.getElem?_eq_some_iff.mp h
  have hx:(qAD sc')[m]?=some (qAD sc')[m]:=List.getElem?_eq_getElem (by omega)
  obtain⟨j',e1,e2⟩:=hg m _ hx
  rw [h] at e1
  cases e1
  exact⟨_,hx,(qDz e2).2.1⟩
 obtain⟨x,a1,a2⟩:=get h1
 obtain⟨y,b1,b2⟩:=get h2
 rw [a2] at b2
 cases b2
 exact qDQ (qGY S.nd) a1 b1
theorem qFA (S:ScOk sc') (hk:qAU (qCk sc N) (qAD sc')=some ks) {K:PySem.W.Frag}{Ge H:Hp}{F:Fz}{σ:En}{τ:L2.St}(nl:Nat) (s:SR K Ge H F σ τ):SR K Ge H F (qBm σ nl ks) (qGV τ nl ks):=by
 refine⟨by simp [qBm,qGV],s.ent,s.dom,λi d e=>?_,λi d e hd=>?_,λi i' d e h1 h2 h3=>?_,λi m ks' e=>?_,λi ns ds e=>?_,s.tb⟩
 ·obtain⟨m,j,rfl,h1,h2⟩:=qBw e
  obtain⟨v,q1,q2⟩:=s.val j d h2
  exact⟨v,qB5 h1 q1,q2⟩
 ·obtain⟨m,j,rfl,h1,h2⟩:=qBw e
  obtain⟨a,ds,vs,q1,q2,q3⟩:=s.own j d h2 hd
  exact⟨a,ds,vs,q1,qB5 h1 q2,q3⟩
 ·obtain⟨m,j,rfl,a1,a2⟩:=qBw h1
  obtain⟨m',j',rfl,b1,b2⟩:=qBw h2
  obtain⟨a,u,q2,_⟩:=s.addr a2
  obtain⟨a',u',p2,_⟩:=s.addr b2
  rw [qB5 a1 q2,qB5 b1 p2] at h3
  have:j=j':=s.sep j j' d e a2 b2 (by rw [q2,p2,Option.some.inj h3])
  subst this
  rw [qOD S hk a1 b1]
 ·obtain⟨m',j,rfl,h1,h2⟩:=qBw e
  obtain⟨a,q1,q2⟩:=s.dct j m ks' h2
  exact⟨a,qB5 h1 q1,q2⟩
 ·obtain⟨m',j,rfl,h1,h2⟩:=qBw e
  obtain⟨a,q1,q2⟩:=s.obj j ns ds h2
  exact⟨a,qB5 h1 q1,q2⟩
theorem qNw (S:ScOk sc') {tg:Expr}{t:Tg}(h:qEe sc' (qA1 sc'++qAD sc') tg=some t) (σ:En):∀i,(t=.one i∨∃j,t=.two i j∨t=.two j i)->qAg (qBm σ (qA1 sc').length ks) i=none:=by
 have one:∀{x:Str} {i:Nat},(sc'.names.lookup x == some .local||sc'.names.lookup x == some .cell)=true->qAN (qA1 sc'++qAD sc') x=some i->qAg (qBm σ (qA1 sc').length ks) i=none:=λ{x i} hx hi=>by
  cases q:qAg (qBm σ (qA1 sc').length ks) i with
  | none=>rfl
  | some r =>
   obtain⟨m,j,rfl,h1,h2⟩:=qBw q
   have hs:=qBg hi
   rw [List.getElem?_append_right (by omega)] at hs
   have hm:=free_mem.mp (List.mem_of_getElem? hs)
   have:=qBD S.nd hm
   rw [this] at hx
   simp at hx
 unfold qEe at h
 split at h
 ·rename_i x pos
  split at h
  ·rename_i hx
   cases hi:qAN (qA1 sc'++qAD sc') x with
   | none=>rw [hi] at h;cases h
   | some i =>
    rw [hi] at h
    cases h
    intro i' z
    rcases z with z|⟨j,z|z⟩<;>cases z
    exact one hx hi
  ·cases h
 ·rename_i x p y p' kk pos
  split at h
  ·rename_i hx
   rw [Bool.and_eq_true,Bool.and_eq_true] at hx
   obtain⟨⟨hx,hy⟩,hne⟩:=hx
   cases hi:qAN (qA1 sc'++qAD sc') x with
   | none=>rw [hi] at h;cases h
   | some i =>
    cases hj:qAN (qA1 sc'++qAD sc') y with
    | none=>rw [hi,hj] at h;cases h
    | some j =>
     rw [hi,hj] at h
     cases h
     intro i' z
     rcases z with z|⟨j',z|z⟩<;>cases z
     ·exact one hx hi
     ·exact one hy hj
  ·cases h
 ·cases h
end
end Dw
namespace Dw
open PySem PySem.Spec PyProof.Rows L2
section
variable {call:Nat->List D->Option R}{G:Gx}{k:Nat}{X:Cx}{sc sc':Scope}{N:List Str}{ks:List Nat}
structure Off (X:Cx) (pins:List (Addr×Obj)) (H:Hp) (C:Addr) (h:Heap):Prop where
 n:H C=none
 ne:C≠X.env.locals
 ab:X.s₀.heap.objs.size<=C
 cl:∀x c,X.env.cells.lookup x=some c->c≠C
 pn:∀p∈X.pn++pins,p.1≠C
 ns:∃m,h.Ns C m
theorem Off.let {pins:List (Addr×Obj)}{τ:L2.St}{H:Hp}{s:Shared}{C:Addr}{h':Heap}(o:Off X pins H C s.heap) (I:Inv X pins τ H s) (hs:Heap.SameBut C s.heap h'):Inv X pins τ H { s with heap:=h' }:=
 I.turned (t':=s.toks) (λb ob hb e=>hs.extBut b ob hb e) o.n o.ne (.inr o.ab) o.cl o.pn
theorem qJa {K:PySem.W.Frag}{Ge H:Hp}{F:Fz}{σ σ':En}{τ:L2.St}{t:Tg}{d:D}{v:V}(hm:∀is,t≠.many is) (s:SR K Ge H F σ τ) (hb:qBz σ t d=some σ') (hv:RD K H F d v)
  (hn:∀i,(t=.one i∨∃j,t=.two i j∨t=.two j i)->qAg σ i=none):gTg K t v τ H fun τ' H'=>H'=H/\SR K Ge H F σ' τ'/\SR K Ge H F σ τ'/\∀j,qAg σ j≠none->τ'[j]?=τ[j]?:=by
 cases t with
 | one i =>
  cases hb
  have n1:=hn i (.inl rfl)
  exact⟨rfl,s.bind hv,s.skip n1,λj hj=>List.getElem?_set_ne λz:i=j=>hj (by rw [<-z];exact n1)⟩
 | two i j =>
  unfold qBz at hb
  split at hb
  ·rename_i heq;cases heq
  ·rename_i i' j' x y heq
   cases heq
   cases hb
   obtain⟨a,vs,rfl,hs,hr⟩:=hv
   obtain⟨v1,r,rfl,h1,w,r2,e2,h2,h3⟩:=hr
   have h3:r2=[]:=h3
   subst h3
   subst e2
   have n1:=hn i (.inr ⟨j,.inl rfl⟩)
   have n2:=hn j (.inr ⟨i,.inr rfl⟩)
   exact⟨a,[v1,w],rfl,hs,rfl,v1,[w],rfl,w,[],rfl,rfl,rfl,(s.bind h1).bind h2,(s.skip n1).skip n2,λq hq=>by
    rw [List.getElem?_set_ne λz:j=q=>hq (by rw [<-z];exact n2),List.getElem?_set_ne λz:i=q=>hq (by rw [<-z];exact n1)]⟩
  ·rename_i heq;cases heq
  ·cases hb
 | many is=>exact absurd rfl (hm is)
theorem qF8 (g:XG call G k X sc N) {elt tg iter:Expr}{t:Tg}{ce:C}{b:Bool}{src:En->Option (List D)}{pos p':Pos}(S:ScOk sc') (ht:qEe sc' (qA1 sc'++qAD sc') tg=some t) (hk:qAU (qCk sc N) (qAD sc')=some ks)
  (he:∀X':Cx,XG call G k X' sc' (qA1 sc'++qAD sc')->SndE call X' elt ce) (hi:qGI X tg iter b src) (hfs:∀x,foldedSetIterable iter X.env x=pure x)
  {pins:List (Addr×Obj)} {s:Shared} {τ:L2.St} {H:Hp} {Ge:Hp} {F:Fz} {σ:En} {its ys:List D} {use:Option (Value->Sem Unit)} {Qv:Value->Shared->Prop}
  (I:Inv X pins τ H s) (hS:SR X.K Ge H F σ τ) (hsrc:src σ=some its) (hev:qAz call ce (qBm σ (qA1 sc').length ks) t its=some ys) (hlen:(b=true->its.length<=lim)->its.length<=lim)
  (hend:∀(D C:Addr) (H':Hp) (F':Fz) (s':Shared),Gr H F H' F'->RR X.K H H' F' (true,.lst ys) (.ref D)->Inv X pins τ H' s'->Off X pins H' C s'.heap->compPost (model X.prog X.w) X.A X.xe use Qv (.ref D) C (.ok .next) s') :
  wpAny (model X.prog X.w) X.A (comprehension (.ListComp elt [⟨tg,iter,[],0⟩] sc' pos) sc' X.env p' (newList []) false (eval iter X.env) use) Qv X.xe s:=by
 have T:=qFu g hk
 have hcl:=qB6 I.ok T
 refine wpAny_comprehension_free (use:=use) rfl hfs (clos_of sc' X.env hcl) S.kind (λx hx e=>by obtain⟨n,kk⟩:=x;have e:kk=.local:=e;subst e;exact qBD S.nd hx) ?_
 obtain⟨wi,pi,qi⟩:=hi
 refine thn (pi pins s τ H (λJ H'=>∃F',Gr H F H' F'/\qK1 X.K J H' F' its/\its.length<=lim) I (qi Ge H F σ τ its _ hsrc hS λJ H' F' g1 ok hl=>⟨F',g1,ok,hlen hl⟩)) λv s1 h1=>thn h1 λitv s2 h2=>?_
 obtain⟨it,fp,tn,J,H2,rfl,I2,Tn,st2,f2,F2,g2,ok2,hl2⟩:=h2
 refine wpAny_newObj_type (wpAny_newFunctionEnv S.cell (by intro y hy;simp at hy) (λh3 hns hsb=>?_) S.kind)
 dsimp only at hns hsb ⊢
 have hD:H2 s2.heap.objs.size=none:=I2.hok.fresh (Nat.le_refl _)
 generalize hDe:s2.heap.objs.size=Da at hns hsb hD ⊢
 have hD0:H Da=none:=g2.same.free hD
 have lt2:∀{c:Addr} {o:Obj},s2.heap.get? c=some o->c<Da:=λe=>by rw [<-hDe];exact Heap.lt_size e
 have I3:Inv X pins τ (upd H2 Da (.lst [])) { s2 with heap:=s2.heap.push { cls:=.type "list",dict:=none,data:=.seq ([]:List Value).toArray } }:=by
  subst hDe
  exact I2.laid (t':=s2.toks) (λc u e=>Heap.get?_push_of_some _ e) (Nat.le_refl _) ⟨Nat.zero_le _,[],0,.nil,Heap.get?_push_size _ rfl⟩
 generalize hHp:s2.heap.push { cls:=.type "list",dict:=none,data:=.seq ([]:List Value).toArray }=hp at hns hsb I3 ⊢
 have hCs:hp.objs.size=Da+1:=by rw [<-hHp,Heap.size_push,hDe]
 have kp:∀c o,hp.get? c=some o->h3.get? c=some o:=λc o e=>hsb.extBut c o (Nat.ne_of_lt (Heap.lt_size e)) (Heap.get?_push_of_some _ e)
 have lfp:∀c∈fp,c<Da:=λc hc=>by obtain⟨o,e,_⟩:=Tn.obj _ _ st2 c hc;exact lt2 e
 have f3:∀c∈fp,qEW X pins (upd H2 Da (.lst [])) c:=λc hc=>⟨by rw [qAc (Nat.ne_of_lt (lfp c hc))];exact (f2 c hc).1,(f2 c hc).2⟩
 have lf3:∀c∈fp,c<({ s2 with heap:=hp }:Shared).heap.objs.size:=λc hc=>by show c<hp.objs.size;rw [hCs];exact Nat.lt_succ_of_lt (lfp c hc)
 obtain⟨kl,kg⟩:=qA8 hk
 have I4:Inv (qDx X sc' (qA1 sc'++qAD sc') hp.objs.size { s2 with heap:=hp } (upd H2 Da (.lst [])) fp) (X.pn++pins) (qGV τ (qA1 sc').length ks) (upd H2 Da (.lst [])) { s2 with heap:=h3,toks:=s2.toks+([]:List (Str×Value)).length }:=by
  refine qJ6 (N':=qA1 sc'++qAD sc') I3 S T f3 lf3 kp hns _ (by rw [qDD,List.length_append,kl]) (λi x v e1 e2=>?_) (qNk g hk)
  obtain⟨m,j,rfl,q1,q2⟩:=qFt e2
  rw [List.getElem?_append_right (by omega)] at e1
  have e1':(qAD sc')[m]?=some x:=by rw [<-e1];congr 1;omega
  obtain⟨j',r1,r2⟩:=kg m x e1'
  rw [q1] at r1
  cases r1
  exact⟨free_mem.mp (List.mem_of_getElem? e1'),j,by rw [g.hN];exact (qDz r2).2.1,q2⟩
 have g':XG call G k (qDx X sc' (qA1 sc'++qAD sc') hp.objs.size { s2 with heap:=hp } (upd H2 Da (.lst [])) fp) sc' (qA1 sc'++qAD sc'):=qQF g S
 have se:=he _ g'
 have pg:=qKz g' ht
 have tow:=qNw (ks:=ks) S ht σ
 generalize hX':qDx X sc' (qA1 sc'++qAD sc') hp.objs.size { s2 with heap:=hp } (upd H2 Da (.lst [])) fp=X' at I4 g' se pg
 have eP:X'.prog=X.prog:=by rw [<-hX'];rfl
 have ew:X'.w=X.w:=by rw [<-hX'];rfl
 have eK:X'.K=X.K:=by rw [<-hX'];rfl
 have eA:X'.A=X.A:=by rw [<-hX'];rfl
 have eE:X'.env=compEnvC sc' (qGE X.env sc'.names []) hp.objs.size X.env:=by rw [<-hX'];rfl
 have ex:X'.xe=λ_ _=>False:=by rw [<-hX'];rfl
 have fpX:∀{H':Hp},(∀c∈fp,H' c=none)->∀c∈fp,qEW X' (X.pn++pins) H' c:=λ{H'} hn c hc=>by
  obtain⟨a0,a1,a2,a3,a4,a5⟩:=f3 c hc
  rw [<-hX']
  refine⟨hn c hc,Nat.ne_of_lt (lf3 c hc),λhs=>?_,.inl hc,λx cc e=>a4 x cc (qFo hcl e),λp hp=>a5 p hp⟩
  rcases List.mem_cons.mp (I3.stkSub c hs) with z|z
  ·exact a1 z
  ·exact a2 z
 have loop:codeAny (model X.prog X.w) X.A (.compLoop (.ListComp elt [⟨tg,iter,[],0⟩] sc' pos) 0 (.ref it) (.ref Da) (compEnvC sc' (qGE X.env sc'.names []) hp.objs.size X.env)) (compPost (model X.prog X.w) X.A X.xe use Qv (.ref Da) hp.objs.size) { s2 with heap:=h3,toks:=s2.toks+([]:List (Str×Value)).length }:=by
  refine PySem.W.kcp_loop (λn s'=>∃(i:Nat) (τ':L2.St) (H':Hp) (F':Fz) (zs:List V),Inv X' (X.pn++pins) τ' H' s'/\tn i s'.heap/\(∀c∈fp,H' c=none)/\Gr H2 F2 H' F'/\H' Da=some (.lst zs)/\¬F' Da/\RDs X.K H' F' (ys.take i) zs/\i<=its.length/\n=its.length - i /\
   qAz call ce (qBm σ (qA1 sc').length ks) t (its.drop i)=some (ys.drop i)/\zs.length=i/\SR X.K Ge H' F' (qBm σ (qA1 sc').length ks) τ' /\
   ∀j d a,qAg (qBm σ (qA1 sc').length ks) j=some (true,d)->τ'[j]?=some (some (.ref a))->a≠Da) ?_ its.length ?_
  ·rintro n s' ⟨i,τ',H',F',zs,I',st',fr',gr',hd',nf',rd',hi,rfl,hev',hzl,sr',nD'⟩
   have hx':∀{α:Type} {tr:Sem α} {Q1:α->Shared->Prop} {E1:Value->Shared->Prop} {s0:Shared},wpAny (model X'.prog X'.w) X'.A tr Q1 X'.xe s0->wpAny (model X.prog X.w) X.A tr Q1 E1 s0:=λ{α tr Q1 E1 s0} h=>by
    rw [eP,ew,eA,ex] at h
    exact wpAny_mono h (λ_ _ z=>z) λ_ _ z=>z.elim
   have kd:Keep H2 F2 H' F':=gr'.keep
   obtain⟨okI,okS⟩:=ok2 H' F' kd gr'.dom
   by_cases hlt:i<its.length
   ·have hdi:its[i]?=some its[i]:=List.getElem?_eq_getElem hlt
    obtain⟨go,yl⟩:=okI i _ hdi
    have hdr:its.drop i=its[i]::its.drop (i+1):=List.drop_eq_getElem_cons hlt
    rw [hdr,qC7] at hev'
    obtain⟨σ1,b1,hev'⟩:=qAb hev'
    obtain⟨y,b2,hev'⟩:=qAb hev'
    obtain⟨ys',b3,hev'⟩:=qAb hev'
    have hys:ys.drop i=y.2::ys':=(Option.some.inj hev').symm
    have ti:=Tn.item X' eP ew eK g'.calm i (X.pn++pins) s' τ' H' (notedBy (model X.prog X.w) X.A (compEnvC sc' (qGE X.env sc'.names []) hp.objs.size X.env) λe s'=>compPost (model X.prog X.w) X.A X.xe use Qv (.ref Da) hp.objs.size (.error e) s') I' (fpX fr') st' go
    rw [eA] at ti
    refine thn ti λr s4 ⟨u,hr,h4⟩=>?_
    subst hr
    refine thn h4 λ_ s5 ⟨x,H5,I5,r5,y5,st5,fr5⟩=>?_
    obtain⟨F5,g5,rd5⟩:=yl x H5 y5
    have I5':=I5.pinned (fpX fr5) (Tn.obj _ _ st5)
    have sr5:=sr'.grow g5
    rw [<-eE]
    have a6:=pg _ s5 τ' H5 x u (fun τ6 H6=>H6=H5/\SR X.K Ge H5 F5 σ1 τ6/\SR X.K Ge H5 F5 (qBm σ (qA1 sc').length ks) τ6/\∀j,qAg (qBm σ (qA1 sc').length ks) j≠none->τ6[j]?=τ'[j]?) I5' r5 (by
     rw [eK]
     exact qJa (qLd ht) sr5 b1 rd5 tow)
    refine hx' (thn a6 λ_ s6 ⟨τ6,H6,I6,e6,sr6,sc6,sm6⟩=>?_)
    subst e6
    obtain⟨te,pe,qe⟩:=se
    have a7:=pe _ s6 τ6 H6 (λv H7=>∃F7,Gr H6 F5 H7 F7/\RR X.K H6 H7 F7 y v) I6 (qe Ge H6 F5 σ1 τ6 y _ b2 (by rw [eK];exact sr6) λv H7 F7 g7 rr=>⟨F7,g7,by rw [<-eK];exact rr⟩)
    refine hx' (thn a7 λvv s7 ⟨v,H7,I7,r7,F7,g7,rr7⟩=>?_)
    obtain⟨F8,g8,rd8⟩:=rr7.fz g7
    have hd7:H7 Da=some (.lst zs):=g7.same _ _ (g5.same _ _ hd')
    have nf8:¬F8 Da:=λz=>by
     rcases g8.new Da z with q|q
     ·rcases g5.new Da q with q'|q'
      ·exact nf' q'
      ·rw [hd'] at q';cases q'
     ·rw [g5.same _ _ hd'] at q;cases q
    have a8:=qEt (X:=X') _ s7 τ6 H7 (.ref Da) [v] (.ref Da) [vv] (λ_ H9=>H9=upd H7 Da (.lst (zs++[v]))) I7 rfl (.cons r7 .nil) ⟨Da,zs,v,rfl,rfl,hd7,Nat.lt_of_lt_of_le (by omega) hl2,rfl⟩
    refine hx' (thn a8 λ_ s9 ⟨_,H9,I9,_,e9⟩=>?_)
    subst e9
    have k8:Keep H7 F8 (upd H7 Da (.lst (zs++[v]))) F8:=⟨λp xs h=>by
     have ne:p≠Da:=λz=>by
      subst z
      rcases h with h|⟨o,h⟩<;>(rw [hd7] at h;cases h)
     rcases h with h|⟨o,h⟩
     ·exact .inl (by rw [qAc ne];exact h)
     ·exact .inr ⟨o,by rw [qAc ne];exact h⟩,λp xs f h=>by
     have ne:p≠Da:=λz=>by subst z;exact nf8 f
     refine⟨f,?_⟩
     rcases h with h|⟨o,h⟩
     ·exact .inl (by rw [qAc ne];exact h)
     ·exact .inr ⟨o,by rw [qAc ne];exact h⟩⟩
    have g58:Gr H' F' H7 F8:=g5.trans g8
    have gall:Gr H2 F2 (upd H7 Da (.lst (zs++[v]))) F8:=by
     have gg:=gr'.trans g58
     refine⟨λc o e=>?_,gg.sub,gg.new,λc e=>?_⟩
     ·rw [qAc (qAd e hD)];exact gg.same c o e
     ·by_cases z:c=Da
      ·subst z;rw [qAw] at e;cases e
      ·rw [qAc z] at e;exact gg.dom c e
    refine⟨its.length - (i+1),by omega,i+1,τ6,upd H7 Da (.lst (zs++[v])),F8,zs++[v],I9.unpinned,?_,?_,gall,qAw,nf8,?_,hlt,rfl,?_,by simp [hzl],?_,λj d a h1 h2=>?_⟩
    ·exact Tn.keep _ _ _ st5 λc hc o e=>(I9.pin (c,o) (List.mem_append_right _ (List.mem_append_right _ (qBX hc e)))).1
    ·intro c hc
     obtain⟨o,e,d⟩:=Tn.obj _ _ st5 c hc
     exact (I9.pin (c,o) (List.mem_append_right _ (List.mem_append_right _ (qBX hc e)))).2.1
    ·have e1:ys.take (i+1)=ys.take i++[y.2]:=by
      have:ys[i]?=some y.2:=by
       have:=congrArg (λl=>l[0]?) hys
       simpa using this
      rw [List.take_add_one,this];rfl
     rw [e1]
     exact RDs.append (RDs.mono (g58.keep.trans k8) rd') ⟨v,[],rfl,RD.mono k8 rd8,rfl⟩
    ·rw [b3]
     have:ys.drop (i+1)=ys':=by
      have:=congrArg List.tail hys
      simpa using this
     rw [this]
    ·have sc8:=sc6.grow g8
     refine sc8.keep sc8.tb k8 ?_ gall.dom (λj d hj hd=>?_) (λj m ks' hj=>?_) (λj ns ds hj=>?_)
     ·intro c o e
      have h7:=sc8.ent c o e
      have:c≠Da:=λz=>by
       subst z
       have:=hS.ent c o e
       rw [hD0] at this
       cases this
      rw [qAc this];exact h7
     ·obtain⟨a,ds,vs,q1,q2,q3,q4,q5,q6⟩:=sc8.own j d hj hd
      have ne:a≠Da:=nD' j d a hj (by rw [<-sm6 j (by rw [hj];simp)];exact q2)
      exact⟨a,ds,vs,q1,q2,q3,q4,by rw [qAc ne];exact q5,RDs.mono k8 q6⟩
     ·obtain⟨a,q1,q2,q3,q4⟩:=sc8.dct j m ks' hj
      have ne:a≠Da:=nD' j _ a hj (by rw [<-sm6 j (by rw [hj];simp)];exact q1)
      exact⟨a,q1,q2,by rw [qAc ne];exact q3,q4⟩
     ·obtain⟨v8,q1,q2⟩:=sc8.obj j ns ds hj
      refine⟨v8,q1,q2.mono k8 λa C dx fs e hH hF=>⟨hF,qAc ?_⟩⟩
      subst e
      exact nD' j _ a hj (by rw [<-sm6 j (by rw [hj];simp)];exact q1)
    ·exact nD' j d a h1 (by rw [<-sm6 j (by rw [h1];simp)];exact h2)
   ·have hin:i=its.length:=by omega
    subst hin
    have td:=Tn.done X' eP ew eK g'.calm its.length (X.pn++pins) s' τ' H' (notedBy (model X.prog X.w) X.A (compEnvC sc' (qGE X.env sc'.names []) hp.objs.size X.env) λe s'=>compPost (model X.prog X.w) X.A X.xe use Qv (.ref Da) hp.objs.size (.error e) s') I' (fpX fr') st' okS
    rw [eA] at td
    refine thn td λr s4 ⟨hr,I4'⟩=>?_
    subst hr
    rw [List.drop_of_length_le (Nat.le_refl _)] at hev'
    have hyl:ys.drop its.length=[]:=(Option.some.inj hev').symm
    have hyt:ys.take its.length=ys:=by
     have:=List.take_append_drop its.length ys
     rw [hyl,List.append_nil] at this
     exact this
    rw [hyt] at rd'
    have Ib:=I4'.base
    rw [<-hX'] at Ib
    have Io:Inv X pins τ H' s4:=by
     refine I3.call' (ch:=fp) (by have:=I4'.os;rw [<-hX'] at this;exact this) Ib (by have:=I4'.hok;rw [eP,ew] at this;exact this) I4'.bare λc hc=>?_
     obtain⟨a0,a1,a2,a3,a4,a5⟩:=f3 c hc
     exact⟨a3,a1,a4,a5⟩
    refine hend Da hp.objs.size H' F' s4 (g2.trans gr') ⟨Da,ys,zs,rfl,rfl,hD0,nf',hd',rd'⟩ Io ⟨?_,Nat.ne_of_gt I3.lt,I3.sz,λx c e=>?_,λp hp=>?_,?_⟩
    ·have:=I4'.free
     rw [eE] at this
     exact this
    ·obtain⟨v,q⟩:=I3.cell x c e
     exact Nat.ne_of_lt q.lt
    ·exact Nat.ne_of_lt (Heap.lt_size (I3.pin p hp).1)
    ·obtain⟨m,hm,_⟩:=I4'.loc
     rw [eE] at hm
     exact⟨m,hm⟩
  ·refine⟨0,qGV τ (qA1 sc').length ks,upd H2 Da (.lst []),F2,[],I4,?_,λc hc=>(f3 c hc).1,Gr.laid g2.dom hD,qAw,g2.dom Da hD,by rw [List.take_zero];rfl,Nat.zero_le _,rfl,by simpa using hev,rfl,?_,λj d a h1 h2=>?_⟩
   ·exact Tn.keep _ _ _ st2 λc hc o e=>kp c o (by rw [<-hHp];exact Heap.get?_push_of_some _ e)
   ·exact qFA S hk _ (hS.grow (g2.trans (Gr.laid g2.dom hD)))
   ·obtain⟨m,j',rfl,q1,q2⟩:=qBw h1
    obtain⟨a',u',p2,_,p5⟩:=hS.addr q2
    rw [qB5 q1 p2] at h2
    cases h2
    exact qAd p5 hD0
 exact codeAny_compStart_list loop (Tn.self _ 0 _ _ _ (Tn.keep _ _ _ st2 λc hc o e=>kp c o (by rw [<-hHp];exact Heap.get?_push_of_some _ e)) loop)
end
end Dw
namespace Dw
open PySem PySem.Spec PyProof.Rows L2
section
variable {call:Nat->List D->Option R}{G:Gx}{k:Nat}{X:Cx}{sc sc':Scope}{N:List Str}{ks:List Nat}
theorem qCB (g:XG call G k X sc N) {elt tg iter:Expr}{t:Tg}{ce c:C}{b:Bool}{src:En->Option (List D)}{pos:Pos}(S:ScOk sc') (ht:qEe sc' (qA1 sc'++qAD sc') tg=some t) (hk:qAU (qCk sc N) (qAD sc')=some ks)
  (he:∀X':Cx,XG call G k X' sc' (qA1 sc'++qAD sc')->SndE call X' elt ce) (hi:qGI X tg iter b src) (hfs:∀x,foldedSetIterable iter X.env x=pure x)
  (hc:∀σ r,evE call σ c=some r->∃its ys,src σ=some its/\qAz call ce (qBm σ (qA1 sc').length ks) t its=some ys/\r=(true,.lst ys)/\((b=true->its.length<=lim)->its.length<=lim)) :
  SndE call X (.ListComp elt [⟨tg,iter,[],0⟩] sc' pos) c:=by
 refine⟨fun τ H Q=>∃Ge F σ r,evE call σ c=some r/\SR X.K Ge H F σ τ/\∀v H' F',Gr H F H' F'->RR X.K H H' F' r v->Q v H',λpins s τ H Q I ⟨Ge,F,σ,r,h1,h2,h3⟩=>?_,λGe H F σ τ r Q h1 h2 h3=>⟨Ge,F,σ,r,h1,h2,h3⟩⟩
 obtain⟨its,ys,e1,e2,rfl,e4⟩:=hc σ r h1
 rw [eval_ListComp]
 refine qF8 g S ht hk he hi hfs (use:=none) I h2 e1 e2 e4 λDa C H' F' s' gr rr I' o=>?_
 obtain⟨m,hm⟩:=o.ns
 exact⟨m,hm,λh' hs=>⟨.ref Da,H',o.let I' hs,rfl,h3 _ H' F' gr rr⟩⟩
theorem qKm (g:XG call G k X sc N) {elt tg iter:Expr}{t:Tg}{ce c:C}{b:Bool}{src:En->Option (List D)}{pos py spos:Pos}{x:Str}{i:Nat}(S:ScOk sc') (ht:qEe sc' (qA1 sc'++qAD sc') tg=some t) (hk:qAU (qCk sc N) (qAD sc')=some ks)
  (he:∀X':Cx,XG call G k X' sc' (qA1 sc'++qAD sc')->SndE call X' elt ce) (hi:qGI X tg iter b src) (hfs:∀x,foldedSetIterable iter X.env x=pure x)
  (hc:∀σ r,evE call σ c=some r->∃its ys,src σ=some its/\qAz call ce (qBm σ (qA1 sc').length ks) t its=some ys/\r=(true,.lst ys)/\((b=true->its.length<=lim)->its.length<=lim))
  (hx:(sc.names.lookup x == some .local||sc.names.lookup x == some .cell)=true) (hsl:qAN N x=some i) (hsw:swapsWith (.ListComp elt [⟨tg,iter,[],0⟩] sc' pos) (some (.Name x py)) spos.line X.env=pure true) :
  PS X (.Assign [.Name x py] (.ListComp elt [⟨tg,iter,[],0⟩] sc' pos) spos) (λDn τ H=>∃Ge F σ r,evE call σ c=some r/\SR X.K Ge H F σ τ/\∀v H' F',Gr H F H' F'->RR X.K H H' F' r v->Dn.nx (τ.set i (some v)) H'):=by
 intro pins s τ H Dn I ⟨Ge,F,σ,r,h1,h2,h3⟩
 obtain⟨its,ys,e1,e2,rfl,e4⟩:=hc σ r h1
 rw [exec_Assign_Name_used _ _ _ _ hsw]
 refine wpAny_bind (wpAny_standAt (wpAny_bind ?_))
 obtain⟨l1,l2⟩:=qDw g hx
 refine wpAny_bind (qF8 g (p':=firstIterPos [⟨tg,iter,[],0⟩] pos) S ht hk he hi hfs (use:=some (assign (.Name x py) X.env)) I h2 e1 e2 e4 λDa C H' F' s' gr rr I' o=>?_)
 have q:=h3 _ H' F' gr rr
 refine wpAny_assign_Name (qEh (v:=.ref Da) I' (by rw [g.hN];exact g.nd) (by rw [g.hN];exact qBg hsl) l1 rfl (λs2 I2 hch=>?_) l2)
 obtain⟨m,hm⟩:=o.ns
 obtain⟨a,hsb,ha⟩:=hch
 have hCa:C≠a:=by
  rcases ha with e|e
  ·rw [e];exact o.ne
  ·exact (o.cl _ _ e).symm
 have o2:Off X pins H' C s2.heap:=⟨o.n,o.ne,o.ab,o.cl,o.pn,⟨m,hm.sameBut hsb hCa⟩⟩
 exact⟨m,hm.sameBut hsb hCa,λh' hs=>wpAny_pure (wpAny_pure ⟨_,H',o2.let I2 hs,q⟩)⟩
theorem qJB {n:Nat}{e:Expr}{c:C}(h:cE G n sc N e=some c):qFp e:=by
 cases n with
 | zero=>cases h
 | succ n=>cases e<;>first|(intro o i;rfl)|(cases h;done)|(cases n<;>cases h)
theorem qBx {n:Nat}{e:Expr}{c:C}(h:cE G n sc N e=some c):qBN e=true:=by
 cases n with
 | zero=>cases h
 | succ n=>cases e<;>first|rfl|(cases h;done)|(cases n<;>cases h)
theorem qFa {n:Nat}{e:Expr}{c:C}(h:cE G n sc N e=some c) (env:Env):∀x,foldedSetIterable e env x=pure x:=by
 cases n with
 | zero=>cases h
 | succ n=>cases e<;>first|(intro x;rfl)|(cases h;done)|(cases n<;>cases h)
theorem qMq {n:Nat}{e:Expr}{c:C}(h:cE G n sc N e=some c) (op:CmpOp):behindInMarks op e=false:=by
 cases n with
 | zero=>cases h
 | succ n=>cases e<;>first|rfl|(cases h;done)|(cases n<;>cases h)
structure Ok (call:Nat->List D->Option R) (X:Cx) (e:Expr) (c:C):Prop where
 he:SndE call X e c
 hp:qE0 call X e c
 ht:qEZ call X e c
 hg:qKu call X e c
 nv:(∃x p,e=.Name x p)∨∀i,c≠.v i
theorem Ok.of {e:Expr}{c:C}(h:SndE call X e c) (ht:qEZ call X e c) (hc:∀i,c≠.v i):Ok call X e c:=⟨h,h.look hc,ht,h.lend hc,.inr hc⟩
structure AllE (call:Nat->List D->Option R) (G:Gx) (k n:Nat):Prop where
 e:∀(X:Cx) (sc:Scope) (N:List Str) (e:Expr) (c:C),XG call G k X sc N->cE G n sc N e=some c->Ok call X e c
 f:∀(X:Cx) (sc:Scope) (N:List Str) (f:Str) (es:List Expr) (c:C) (p pos:Pos),XG call G k X sc N->glB sc f=true->qAO f=true->qM4 G n sc N f es=some c->SndE call X (.Call (.Name f p) es [] pos) c/\∀i,c≠.v i
 a:∀(X:Cx) (sc:Scope) (N:List Str) (es:List Expr) (cs:List C),XG call G k X sc N->cEs G n sc N es=some cs->qNh call X es cs/\qEV call X es cs/\es.all qBN=true/\cs.length=es.length
 o:∀(X:Cx) (sc:Scope) (N:List Str) (e:Option Expr) (c:Option C),XG call G k X sc N->cO G n sc N e=some c->qPt call X e c
 kf:∀(X:Cx) (sc:Scope) (N:List Str) (kws:List Keyword) (cs:List C),XG call G k X sc N->cEs G n sc N (kws.map (·.value))=some cs->qPG call X kws cs
 x:∀(X:Cx) (sc:Scope) (N:List Str) (e:Expr) (c:C),XG call G k X sc N->cX G n sc N e=some c->Ok call X e c/\∀i,c≠.v i
 j:∀(X:Cx) (sc:Scope) (N:List Str) (es:List Expr) (cs:List C),XG call G k X sc N->cJ G n sc N es=some cs->qPH call X es cs
 ga:∀(X:Cx) (sc:Scope) (N:List Str) (es:List Expr) (cs:List C),XG call G k X sc N->cEs G n sc N es=some cs->qIR call X es cs
 w:∀(X:Cx) (sc:Scope) (N:List Str) (es:List Expr) (c:C),XG call G k X sc N->qNf G n sc N es=some c->SndW call X .And es c
 v:∀(X:Cx) (sc:Scope) (N:List Str) (es:List Expr) (c:C),XG call G k X sc N->cOr G n sc N es=some c->SndW call X .Or es c
theorem qKp:AllE call G k 0:=by
 constructor
 ·intro X sc N e c _ h;cases h
 ·intro X sc N f es c p pos _ _ _ h;cases h
 ·intro X sc N e c _ h;cases h
 ·intro X sc N e c _ h;cases h
 ·intro X sc N e c _ h;cases h
 ·intro X sc N e c _ h;cases h
 ·intro X sc N e c _ h;cases h
 ·intro X sc N e c _ h;cases h
 ·intro X sc N e c _ h;cases h
 ·intro X sc N e c _ h;cases h
inductive Srk (sc:Scope):Expr->Sr->Prop where
 | seq (e:Expr):Srk sc e (.seq e)
 | rng (x:Str) (p:Pos) (as:List Expr) (pos:Pos):glB sc x=true->x=Str.ofString "range"->(as.length=1∨as.length=2)->Srk sc (.Call (.Name x p) as [] pos) (.rng as)
 | zip (x:Str) (p:Pos) (a b:Expr) (pos:Pos):glB sc x=true->x=Str.ofString "zip"->Srk sc (.Call (.Name x p) [a,b] [] pos) (.zip a b)
 | enm (x:Str) (p:Pos) (a:Expr) (pos:Pos):glB sc x=true->x=Str.ofString "enumerate"->Srk sc (.Call (.Name x p) [a] [] pos) (.enm a)
 | rev (x y:Str) (p p2:Pos) (a:Expr) (pos pos2:Pos):glB sc x=true->x=Str.ofString "reversed"->glB sc y=true->y=Str.ofString "range"->Srk sc (.Call (.Name x p) [.Call (.Name y p2) [a] [] pos2] [] pos) (.rev [a])
theorem srk (it:Expr):Srk sc it (qLs sc it):=by
 unfold qLs
 split
 ·rename_i f p as pos
  split
  ·rename_i h
   simp only [Bool.and_eq_true,Bool.or_eq_true,beq_iff_eq,or_assoc] at h
   exact .rng f p as pos h.1.1 h.1.2 h.2
  ·split
   ·rename_i h
    simp only [Bool.and_eq_true,beq_iff_eq] at h
    split
    ·exact .zip f p _ _ pos h.1 h.2
    ·exact .seq _
   ·split
    ·rename_i h
     simp only [Bool.and_eq_true,beq_iff_eq] at h
     split
     ·split
      ·rename_i h'
       simp only [Bool.and_eq_true,beq_iff_eq] at h'
       exact .rev f _ p _ _ pos _ h.1 h.2 h'.1 h'.2
      ·exact .seq _
     ·exact .seq _
    ·split
     ·rename_i h
      simp only [Bool.and_eq_true,beq_iff_eq] at h
      split
      ·exact .enm f p _ pos h.1 h.2
      ·exact .seq _
     ·exact .seq _
 ·exact .seq _
theorem qCm (g:XG call G k X sc N) (hG:∀x∈qAu,G.defs.lookup x=none) {x:Str}{s:String}(h:x=Str.ofString s) (hs:s∈["len","abs","min","max","sum","all","tuple","list","int","bool","str","isinstance","range","zip","reversed","sorted","enumerate","any"]):X.mg x=none:=g.blt x (hG x (qBC h hs)) (qBC h hs)
theorem qE4 {n:Nat}(A:AllE call G k n) (g:XG call G k X sc N) {tg it:Expr}{x:C}(h:cE G n sc N it=some x):qGI X tg it true (fun σ=>(evE call σ x).bind λr=>qB7 r.2):=qLA (A.e X sc N it x g h).he
theorem qE5 {n:Nat}(A:AllE call G k n) (g:XG call G k X sc N) (hG:∀x∈qAu,G.defs.lookup x=none) {tg:Expr}{f:Str}{p pos:Pos}{as:List Expr}{xs:List C}(hg:glB sc f=true) (hf:f=Str.ofString "range") (hl:as.length=1∨as.length=2) (h:cEs G n sc N as=some xs) :
  qGI X tg (.Call (.Name f p) as [] pos) false (fun σ=>(qBO call σ xs).bind qEX):=by
 obtain⟨_,a2,a3,a4⟩:=A.a X sc N as xs g h
 exact qLB hf (g.gl f hg) (qCm g hG hf (by decide)) a3 hl a4 a2
theorem qE3 {n:Nat}(A:AllE call G k n) (g:XG call G k X sc N) (hG:∀x∈qAu,G.defs.lookup x=none) {es:List Expr}{kk:Nat}{tp:Pos}{f:Str}{p pos:Pos}{a b:Expr}{x y:C}(hg:glB sc f=true) (hf:f=Str.ofString "zip") (ha:cE G n sc N a=some x) (hb:cE G n sc N b=some y) :
  qGI X (.Tuple es kk tp) (.Call (.Name f p) [a,b] [] pos) true (fun σ=>(evE call σ x).bind λx=>(evE call σ y).bind λy=>(qB7 x.2).bind λxs=>(qGT y.2).bind λys=>some (qCn xs ys)):=
 qLv hf (g.gl f hg) (qCm g hG hf (by decide)) (by simp [qBx ha,qBx hb]) (A.e X sc N a x g ha).he (A.e X sc N b y g hb).he
theorem qG2 {n:Nat}(A:AllE call G k n) (g:XG call G k X sc N) (hG:∀x∈qAu,G.defs.lookup x=none) {es:List Expr}{kk:Nat}{tp:Pos}{f:Str}{p pos:Pos}{a:Expr}{x:C}(hg:glB sc f=true) (hf:f=Str.ofString "enumerate") (ha:cE G n sc N a=some x) :
  qGI X (.Tuple es kk tp) (.Call (.Name f p) [a] [] pos) true (fun σ=>(evE call σ x).bind λx=>(qB7 x.2).bind λxs=>some (qBP 0 xs)):=
 qLK hf (g.gl f hg) (qCm g hG hf (by decide)) (by simp [qBx ha]) (A.e X sc N a x g ha).he
theorem qCL {tg:Expr}{t:Tg}(h:qEe sc N tg=some t) (h2:qHN t=true):∃es kk tp,tg=.Tuple es kk tp:=by
 unfold qEe at h
 split at h
 ·split at h
  ·rename_i x _ _
   cases hs:qAN N x with
   | none=>rw [hs] at h;cases h
   | some i=>rw [hs] at h;cases h;cases h2
  ·cases h
 ·exact⟨_,_,_,rfl⟩
 ·cases h
theorem qM3 {n:Nat}{x:Str}{p:Pos}{i:Nat}(h:cE G n sc N (.Name x p)=some (.v i)):qBA sc N x=some i:=by
 cases n with
 | zero=>cases h
 | succ n =>
  have h:(match qBA sc N x with|some i=>some (C.v i)|none=>cGl G sc x)=some (.v i):=h
  cases hv:qBA sc N x with
  | some j=>rw [hv] at h;cases h;rfl
  | none =>
   rw [hv] at h
   have h:cGl G sc x=some (.v i):=h
   unfold cGl at h
   split at h
   ·cases hc:G.cons.lookup x<;>(rw [hc] at h;cases h)
   ·cases h
theorem qLa (g:XG call G k X sc N):X.A.units+20<cLine:=by
 have:=g.room.units
 omega
theorem qPs {n:Nat}{es:List Expr}{c:C}(hl:2<=es.length) (h:qNf G n sc N es=some c):∀i,c≠.v i:=by
 cases n with
 | zero=>cases h
 | succ n =>
  unfold qNf at h
  split at h
  ·simp at hl
  ·obtain⟨x,e1,e2⟩:=qAb h
   obtain⟨y,e3,e4⟩:=qAb e2
   cases e4
   exact λi z=>nomatch z
  ·cases h
theorem qQl {n:Nat}{es:List Expr}{c:C}(hl:2<=es.length) (h:cOr G n sc N es=some c):∀i,c≠.v i:=by
 cases n with
 | zero=>cases h
 | succ n =>
  unfold cOr at h
  split at h
  ·simp at hl
  ·obtain⟨x,e1,e2⟩:=qAb h
   obtain⟨y,e3,e4⟩:=qAb e2
   cases e4
   exact λi z=>nomatch z
  ·cases h
theorem qKq (hG:∀x∈qAu,G.defs.lookup x=none) {n:Nat}(A:AllE call G k n):AllE call G k (n+1):=by
 constructor
 ·intro X sc N e c g h
  unfold cE at h
  split at h
  ·-- a name
   rename_i x pos
   cases hv:qBA sc N x with
   | none =>
    rw [hv] at h
    obtain⟨h1,h2⟩:=qNM (call:=call) (pos:=pos) g h
    exact .of h1 (h1.test λ_=>rfl) h2
   | some i =>
    rw [hv] at h
    cases h
    obtain⟨h1,h2,h3⟩:=qJg (call:=call) (pos:=pos) g hv
    exact⟨h1,h2,h1.test λ_=>rfl,h3,.inl ⟨_,_,rfl⟩⟩
  ·rename_i cc j pos
   cases hv:kOf cc with
   | none=>rw [hv] at h;cases h
   | some d =>
    rw [hv] at h
    cases h
    have h1:=qCO (call:=call) (X:=X) (j:=j) (pos:=pos) hv
    exact .of h1 (h1.test λ_=>rfl) λi z=>nomatch z
  ·rename_i a op b pos
   obtain⟨o,e1,e2⟩:=qAb h
   obtain⟨x,e3,e4⟩:=qAb e2
   obtain⟨y,e5,e6⟩:=qAb e4
   cases e6
   have h1:=qLM (call:=call) (pos:=pos) (qOm (X:=X) e1) (A.e X sc N a x g e3).hp (A.e X sc N b y g e5).hp
   exact .of h1 (h1.test λ_=>rfl) λi z=>nomatch z
  ·rename_i a pos
   cases hx:cE G n sc N a with
   | none=>rw [hx] at h;cases h
   | some x =>
    rw [hx] at h
    cases h
    have h1:=qLF (pos:=pos) (A.e X sc N a x g hx).hp
    exact .of h1 (h1.test λ_=>rfl) λi z=>nomatch z
  ·rename_i a pos
   cases hx:cE G n sc N a with
   | none=>rw [hx] at h;cases h
   | some x =>
    rw [hx] at h
    cases h
    have h0:=A.e X sc N a x g hx
    obtain⟨h1,h2⟩:=qLD (pos:=pos) h0.he h0.ht
    exact .of h1 h2 λi z=>nomatch z
  ·rename_i es pos
   split at h
   ·rename_i hl
    have h0:=A.w X sc N es c g h
    exact .of (h0 pos).1 h0.test (qPs hl h)
   ·cases h
  ·rename_i es pos
   split at h
   ·rename_i hl
    have h0:=A.v X sc N es c g h
    exact .of (h0 pos).1 h0.test (qQl hl h)
   ·cases h
  ·rename_i a cc j p2 pos
   obtain⟨d,e1,e2⟩:=qAb h
   obtain⟨x,e3,e4⟩:=qAb e2
   cases e4
   obtain⟨h1,h2⟩:=qKA (call:=call) (X:=X) (pos:=pos) (pos':=p2) (j:=j) false rfl e1 (A.e X sc N a x g e3).hp
   exact .of h1 h2 λi z=>nomatch z
  ·rename_i a cc j p2 pos
   obtain⟨d,e1,e2⟩:=qAb h
   obtain⟨x,e3,e4⟩:=qAb e2
   cases e4
   obtain⟨h1,h2⟩:=qKA (call:=call) (X:=X) (pos:=pos) (pos':=p2) (j:=j) true rfl e1 (A.e X sc N a x g e3).hp
   exact .of h1 h2 λi z=>nomatch z
  ·rename_i a op b pos _ _
   obtain⟨o,e1,e2⟩:=qAb h
   obtain⟨x,e3,e4⟩:=qAb e2
   obtain⟨y,e5,e6⟩:=qAb e4
   have hm:behindInMarks op b=false:=qMq e5 op
   obtain⟨h1,h2⟩:=qLL (call:=call) (pos:=pos) (qMX (X:=X) (qLa g) e1) hm (λ_ _ _ hz=>qO3 hz) (A.e X sc N a x g e3).hp (A.e X sc N b y g e5).hp
   cases e6
   exact .of h1 h2 λi z=>nomatch z
  ·rename_i a lo hi p2 pos
   obtain⟨x,e1,e2⟩:=qAb h
   obtain⟨l,e3,e4⟩:=qAb e2
   obtain⟨u,e5,e6⟩:=qAb e4
   cases e6
   have h1:=qNI (p2:=p2) (pos:=pos) (A.e X sc N a x g e1).hp (A.o X sc N lo l g e3) (A.o X sc N hi u g e5)
   exact .of h1 (h1.test λ_=>rfl) λi z=>nomatch z
  ·rename_i a b pos _
   obtain⟨x,e1,e2⟩:=qAb h
   obtain⟨y,e3,e4⟩:=qAb e2
   cases e4
   have h1:=qNK (pos:=pos) (qJB e3) (A.e X sc N a x g e1).hp (A.e X sc N b y g e3).hp
   exact .of h1 (h1.test λ_=>rfl) λi z=>nomatch z
  ·rename_i es kk pos
   cases hx:cEs G n sc N es with
   | none=>rw [hx] at h;cases h
   | some xs =>
    rw [hx] at h
    cases h
    have h1:=qLw (x1:=kk) (pos:=pos) (A.a X sc N es xs g hx).1
    exact .of h1 (h1.test λ_=>rfl) λi z=>nomatch z
  ·rename_i es pos
   cases hx:cEs G n sc N es with
   | none=>rw [hx] at h;cases h
   | some xs =>
    rw [hx] at h
    cases h
    have h1:=qLG (pos:=pos) (A.a X sc N es xs g hx).1
    exact .of h1 (h1.test λ_=>rfl) λi z=>nomatch z
  ·rename_i f p as pos
   split at h
   ·rename_i hf
    rw [Bool.and_eq_true] at hf
    obtain⟨h1,h2⟩:=A.f X sc N f as c p pos g hf.1 hf.2 h
    exact .of h1 (h1.test λ_=>rfl) h2
   ·cases h
  ·rename_i t a b pos
   obtain⟨ct,e1,e2⟩:=qAb h
   obtain⟨x,e3,e4⟩:=qAb e2
   obtain⟨y,e5,e6⟩:=qAb e4
   cases e6
   have h1:=qLI (pos:=pos) (A.e X sc N t ct g e1).ht (A.e X sc N a x g e3).he (A.e X sc N b y g e5).he
   exact .of h1 (qJj (A.e X sc N t ct g e1).ht (A.e X sc N a x g e3).ht (A.e X sc N b y g e5).ht) λi z=>nomatch z
  ·rename_i elt tg it sc' pos
   split at h
   ·rename_i hsc
    have S:=qDH hsc
    obtain⟨t,e1,e2⟩:=qAb h
    obtain⟨ks,e3,e4⟩:=qAb e2
    obtain⟨ce,e5,e6⟩:=qAb e4
    have he:∀X':Cx,XG call G k X' sc' (qA1 sc'++qAD sc')->SndE call X' elt ce:=λX' g'=>(A.e X' sc' _ elt ce g' e5).he
    have hsr:=srk (sc:=sc) it
    cases hq:qLs sc it with
    | seq s =>
     rw [hq] at e6 hsr
     obtain⟨x,q1,q2⟩:=qAb e6
     cases q2
     cases hsr
     have h1:=qCB (pos:=pos) (c:=.compS ce (qA1 sc').length ks t x) g S e1 e3 he (qE4 A g q1) (qFa q1 X.env) fun σ r hr=>by
      obtain⟨y,r1,r2⟩:=qAb (by simpa only [qC4] using hr)
      obtain⟨its,r3,r4⟩:=qAb r2
      obtain⟨ys,r5,r6⟩:=qAb r4
      cases r6
      exact⟨its,ys,by simp only [r1];exact r3,r5,rfl,λz=>z rfl⟩
     exact .of h1 (h1.test λ_=>rfl) λi z=>nomatch z
    | rng rs =>
     rw [hq] at e6 hsr
     obtain⟨xs,q1,q2⟩:=qAb e6
     cases q2
     cases hsr with
     | rng f p as pos2 hg hf hl =>
      have h1:=qCB (pos:=pos) (c:=.compR ce (qA1 sc').length ks t xs) g S e1 e3 he (qE5 (p:=p) (pos:=pos2) A g hG hg hf hl q1) (λ_=>rfl) fun σ r hr=>by
       obtain⟨y,r1,r2⟩:=qAb (by simpa only [qC5] using hr)
       obtain⟨its,r3,r4⟩:=qAb r2
       split at r4
       ·rename_i hle
        obtain⟨ys,r5,r6⟩:=qAb r4
        cases r6
        exact⟨its,ys,by simp only [r1];exact r3,r5,rfl,λ_=>hle⟩
       ·cases r4
      exact .of h1 (h1.test λ_=>rfl) λi z=>nomatch z
    | zip a b =>
     rw [hq] at e6 hsr
     simp only at e6
     split at e6
     ·rename_i h2
      obtain⟨x,q1,q2⟩:=qAb e6
      obtain⟨y,q3,q4⟩:=qAb q2
      cases q4
      obtain⟨es,kk,tp,rfl⟩:=qCL e1 h2
      cases hsr with
      | zip f p a b pos2 hg hf =>
       have h1:=qCB (pos:=pos) (c:=.compZ ce (qA1 sc').length ks t x y) g S e1 e3 he (qE3 (p:=p) (pos:=pos2) A g hG hg hf q1 q3) (λ_=>rfl) fun σ r hr=>by
        obtain⟨z,r1,r2⟩:=qAb (by simpa only [qC3] using hr)
        obtain⟨z2,r3,r4⟩:=qAb r2
        obtain⟨xs,r5,r6⟩:=qAb r4
        obtain⟨ys,r7,r8⟩:=qAb r6
        obtain⟨zs,r9,r10⟩:=qAb r8
        cases r10
        exact⟨qCn xs ys,zs,by simp only [r1,r3,r5,r7,Option.bind_some],r9,rfl,λz=>z rfl⟩
       exact .of h1 (h1.test λ_=>rfl) λi z=>nomatch z
     ·cases e6
    | rev rs=>rw [hq] at e6;cases e6
    | enm a =>
     rw [hq] at e6 hsr
     simp only at e6
     split at e6
     ·rename_i h2
      obtain⟨x,q1,q2⟩:=qAb e6
      cases q2
      obtain⟨es,kk,tp,rfl⟩:=qCL e1 h2
      cases hsr with
      | enm f p a pos2 hg hf =>
       have h1:=qCB (pos:=pos) (c:=.compE ce (qA1 sc').length ks t x) g S e1 e3 he (qG2 (p:=p) (pos:=pos2) A g hG hg hf q1) (λ_=>rfl) fun σ r hr=>by
        obtain⟨z,r1,r2⟩:=qAb (by simpa only [qC6] using hr)
        obtain⟨xs,r5,r6⟩:=qAb r2
        obtain⟨zs,r9,r10⟩:=qAb r6
        cases r10
        exact⟨qBP 0 xs,zs,by simp only [r1,r5,Option.bind_some],r9,rfl,λz=>z rfl⟩
       exact .of h1 (h1.test λ_=>rfl) λi z=>nomatch z
     ·cases e6
   ·cases h
  ·exact (A.x X sc N _ c g h).1
 ·intro X sc N f es c p pos g hg hp h
  unfold qM4 at h
  split at h
  ·rename_i i hd
   split at h
   ·cases h
   ·rename_i hne
    cases hx:cEs G n sc N es with
    | none=>rw [hx] at h;cases h
    | some xs =>
     rw [hx] at h
     cases h
     obtain⟨a1,a2,a3,a4⟩:=A.a X sc N es xs g hx
     exact⟨qJl g hd hg (qDK hp).2 a3 (by intro z;subst z;exact hne rfl) (A.ga X sc N es xs g hx),(λi z=>nomatch z)⟩
  ·rename_i hd
   split at h
   ·rename_i a t p2 hf
    split at h
    ·rename_i hq
     rw [Bool.and_eq_true] at hq
     obtain⟨ty,e1,e2⟩:=qAb h
     obtain⟨x,e3,e4⟩:=qAb e2
     cases e4
     have hdt:G.defs.lookup t=none:=by simpa using hq.2
     exact⟨qLH g (by simpa using hf) hd hdt hg hq.1 e1 (qBx e3) (A.e X sc N a x g e3).hp,λi z=>nomatch z⟩
    ·cases h
   ·obtain⟨b,e1,e2⟩:=qAb h
    rename_i as _ _ hf
    cases hx:cEs G n sc N as with
    | none=>rw [hx] at e2;cases e2
    | some xs =>
     rw [hx] at e2
     cases e2
     obtain⟨a1,a2,a3,a4⟩:=A.a X sc N as xs g hx
     exact⟨qHb g e1 hd hg hp a3 a2,λi z=>nomatch z⟩
   ·cases h
 ·intro X sc N es cs g h
  unfold cEs at h
  split at h
  ·cases h
   exact⟨qJm,qHc,rfl,rfl⟩
  ·rename_i a r
   obtain⟨x,e1,e2⟩:=qAb h
   obtain⟨xs,e3,e4⟩:=qAb e2
   cases e4
   have h0:=A.e X sc N a x g e1
   obtain⟨a1,a2,a3,a4⟩:=A.a X sc N r xs g e3
   have hs:=qAx (env:=X.env) (es:=r) (qBx e1)
   exact⟨qHd hs h0.he a1,qGp hs h0.hp a2,by simp [qBx e1];simpa using a3,by simp [a4]⟩
 ·intro X sc N e c g h
  unfold cO at h
  split at h
  ·cases h;exact qG7
  ·rename_i e
   cases hx:cE G n sc N e with
   | none=>rw [hx] at h;cases h
   | some x =>
    rw [hx] at h
    cases h
    exact qG6 (A.e X sc N e x g hx).hp
 ·intro X sc N kws cs g h
  unfold cEs at h
  cases kws with
  | nil=>cases h;exact qJh
  | cons kw kws =>
   obtain⟨x,e1,e2⟩:=qAb h
   obtain⟨xs,e3,e4⟩:=qAb e2
   cases e4
   exact qG9 (A.e X sc N kw.value x g e1).he (A.kf X sc N kws xs g e3)
 ·intro X sc N e c g h
  unfold cX at h
  cases h
 ·intro X sc N es cs g h
  unfold cJ at h
  split at h
  ·cases h;exact qJi
  ·rename_i x j p r
   cases hx:cJ G n sc N r with
   | none=>rw [hx] at h;cases h
   | some xs =>
    rw [hx] at h
    cases h
    exact qEj (qCO rfl) (A.j X sc N r xs g hx)
  ·rename_i e p r
   obtain⟨x,e1,e2⟩:=qAb h
   obtain⟨xs,e3,e4⟩:=qAb e2
   cases e4
   exact qEj (qNN (A.e X sc N e x g e1).hp) (A.j X sc N r xs g e3)
  ·cases h
 ·intro X sc N es cs g h
  unfold cEs at h
  split at h
  ·cases h
   exact qHa
  ·rename_i a r
   obtain⟨x,e1,e2⟩:=qAb h
   obtain⟨xs,e3,e4⟩:=qAb e2
   cases e4
   exact qGo (qAx (env:=X.env) (es:=r) (qBx e1)) (A.e X sc N a x g e1).hg (A.ga X sc N r xs g e3)
 ·intro X sc N es c g h
  unfold qNf at h
  split at h
  ·rename_i a
   have h0:=A.e X sc N a c g h
   exact qG8 h0.he h0.ht
  ·rename_i a b r
   obtain⟨x,e1,e2⟩:=qAb h
   obtain⟨y,e3,e4⟩:=qAb e2
   cases e4
   have h0:=A.e X sc N a x g e1
   exact qLO h0.he h0.ht (A.w X sc N (b::r) y g e3)
  ·cases h
 ·intro X sc N es c g h
  unfold cOr at h
  split at h
  ·rename_i a
   have h0:=A.e X sc N a c g h
   exact qG8 h0.he h0.ht
  ·rename_i a b r
   obtain⟨x,e1,e2⟩:=qAb h
   obtain⟨y,e3,e4⟩:=qAb e2
   cases e4
   have h0:=A.e X sc N a x g e1
   exact qNJ h0.he h0.ht (A.v X sc N (b::r) y g e3)
  ·cases h
theorem qDe (hG:∀x∈qAu,G.defs.lookup x=none):∀n,AllE call G k n
 | 0=>qKp
 | n+1=>qKq hG (qDe hG n)
end
end Dw
namespace Dw
open PySem PySem.Spec PySem.W PyProof.Rows L2
theorem qIu {X:Cx}:CallR X (.type "range") (λxs H Q=>∃j:Int,xs=[.int j]/\∀a,H a=none->Q (.ref a) (upd H a (.rng 0 j))):=by
 intro pins s σ H xs us Q I r h
 obtain⟨j,rfl,q⟩:=h
 obtain⟨u,rfl,ru⟩:=qB1 r
 obtain⟨t,rfl⟩:=ru
 refine call_range_1 ⟨.ref s.heap.objs.size,_,I.laid (t':=s.toks+1+1) (o:=.rng 0 j) (λb u e=>Heap.get?_push_of_some _ e) (Nat.le_refl _) ⟨_,_,_,Heap.get?_push_size _ rfl⟩,rfl,q _ (I.hok.fresh (Nat.le_refl _))⟩
noncomputable abbrev G0:Gx:=⟨[],[],[],[],[],[],[]⟩
theorem qJt {k:Nat}{A:Around}(r:Room (k+1) A) (env:Env):Room k (A.in1.in1.deeper env):=
 ⟨r.hd,by have:=r.dp;show A.depth+1+3 * k+5<_;omega,by have:=r.un;show A.units+1+1+3+16 * k+200<_;omega⟩
section
variable {call:Nat->List D->Option R}{k:Nat}{X:Cx}{sc sc':Scope}{N:List Str}{ks:List Nat}
theorem qNi (g:XG call G0 (k+1) X sc N) (S:ScOk sc') {qual:Str}{f:Addr}{cd:Value}{clos:List (Str×Addr)}{s:Shared}{H:Hp} :
  XG call G0 k (qJ7 X.prog X.w X.K X.mg X.base (qA1 sc'++qAD sc') qual sc' f cd clos X.A.in1.in1 X.stack s H) sc' (qA1 sc'++qAD sc'):=by
 refine⟨rfl,qFN S,λx h=>?_,λx h=>?_,λx h=>?_,λx h=>?_,rfl,PassesOwn.never,qJt g.room _,λf i h=>(nomatch h),g.blt,λx i h=>(nomatch h),λu hu=>(nomatch hu),λu hu=>(nomatch hu),λz=>absurd rfl z,λc h=>(nomatch h),λf i h=>(nomatch h)⟩
 ·unfold qKw at h
  simp only [Bool.or_eq_true,beq_iff_eq] at h
  rcases h with (h|h)|h
  ·exact .inl h
  ·exact .inr (.inl h)
  ·exact .inr (.inr h)
 ·simp only [Bool.or_eq_true,beq_iff_eq] at h
  rcases h with h|h
  ·exact⟨.inl h,.inr h⟩
  ·exact absurd rfl (S.cell _ (PySem.mem_of_lookup h))
 ·unfold glB at h
  rw [beq_iff_eq] at h
  exact h
 ·unfold qKS at h
  simp only [Bool.or_eq_true,beq_iff_eq] at h
  rcases h with h|h
  ·exact absurd rfl (S.cell _ (PySem.mem_of_lookup h))
  ·exact .inr h
theorem qIq {ce:C}{σ:En}:∀{its ys:List D},qAz call ce σ (.one 0) its=some ys->ys.length=its.length/\∀(j:Nat) (d:D),its[j]?=some d->∃r,evE call (σ.set 0 (some (false,d))) ce=some r/\ys[j]?=some r.2
 | [],ys,h=>by cases h;exact⟨rfl,λj d e=>by simp at e⟩
 | x::its,ys,h=>by
  obtain⟨σ',e1,e2⟩:=qAb (show ((qBz σ (.one 0) x).bind fun σ'=>(evE call σ' ce).bind λy=>(qAz call ce σ (.one 0) its).bind λys=>some (y.2::ys))=some ys from h)
  cases e1
  obtain⟨y,e3,e4⟩:=qAb e2
  obtain⟨zs,e5,e6⟩:=qAb e4
  cases e6
  obtain⟨l,at_⟩:=qIq e5
  refine⟨by simp [l],λj d e=>?_⟩
  cases j with
  | zero=>simp at e;subst e;exact⟨y,e3,rfl⟩
  | succ j=>simp at e;obtain⟨r,r1,r2⟩:=at_ j d e;exact⟨r,r1,by simpa using r2⟩
theorem qHQ:∀{ys:List D}{is:List Int},qAK ys=some is->ys=is.map .int
 | [],is,h=>by simp at h;subst h;rfl
 | d::ys,is,h=>by
  cases d with
  | int i =>
   cases q:qAK ys with
   | none=>simp [q] at h
   | some js=>simp [q] at h;subst h;rw [qHQ q];rfl
  | _=>simp at h
theorem qHi {K:PySem.W.Frag}{H:Hp}{F:Fz}{n:Nat}:∀l:List Nat,(∀i∈l,i<n)->RDs K H F (l.map λk=>((List.range n).map λi:Nat=>D.int (i:Int)).getD k .non) (l.map λi:Nat=>V.int (0+(i:Int)))
 | [],_=>rfl
 | i::l,h=>by
  refine⟨_,_,rfl,?_,qHi l λj hj=>h j (List.mem_cons_of_mem _ hj)⟩
  have hi:i<n:=h i List.mem_cons_self
  show RD K H F (((List.range n).map λi:Nat=>D.int (i:Int)).getD i .non) _
  rw [List.getD_eq_getElem?_getD,List.getElem?_map,List.getElem?_range hi]
  show V.int (0+(i:Int))=V.int (i:Int)
  rw [Int.zero_add]
theorem qLy (g:XG call G0 (k+1) X sc N) {n:Nat}{e r:Expr}{ce cr:C}{la:Arguments}{p p2 pos2 kpos pos lp:Pos}{y:Str}{c P:Addr}(hgf:glB sc "sorted"=true) (hgg:glB sc "range"=true) (S:ScOk sc') (hco:sc'.isCoroutine=false) (hgen:sc'.isGenerator=false)
  (hown:qA1 sc'=[y]) (hdef:defaultsOf la X.env=([],[])) (hbind:∀(q:Str) (clos:List (Str×Addr)) (pm:Value) (c:Addr) (ctv uv:Value),bindArgs (kla_fn "<lambda>" q la e sc' clos pm (.ref c) ctv) ⟨[uv],[]⟩=pure [(y,uv)])
  (hk:qAU (qCk sc N) (qAD sc')=some ks) (hce:cE G0 n sc' (qA1 sc'++qAD sc') e=some ce) (hcr:cE G0 n sc N r=some cr)
  (hcode:X.env.code=.ref c) (C:CodeHd X.base c P) (hb:X.base.BuiltinsAt X.mg P) (htb:(P,lp,X.env.qual++"<lambda>")∈tbs) :
  SndE call X (.Call (.Name "sorted" p) [.Call (.Name "range" p2) [r] [] pos2] [⟨some (Str.ofString "key"),.Lambda la e sc' lp,kpos⟩] pos) (.srtR ce 1 ks [cr]):=by
 have hG:∀x∈qAu,G0.defs.lookup x=none:=λ_ _=>rfl
 have A:=qDe (call:=call) (k:=k+1) hG n
 have A':=qDe (call:=call) (k:=k) hG n
 obtain⟨tr,ptr,qr⟩:=(A.e X sc N r cr g hcr).hp
 have T:=qFu g hk
 refine⟨fun τ H Q=>∃Ge F σ z,evE call σ (.srtR ce 1 ks [cr])=some z/\SR X.K Ge H F σ τ/\∀v H' F',Gr H F H' F'->RR X.K H H' F' z v->Q v H',λpins s τ H Q I ⟨Ge,F,σ,z,hz,hs,kk⟩=>?_,λGe H F σ τ z Q h1 h2 h3=>⟨Ge,F,σ,z,h1,h2,h3⟩⟩
 obtain⟨clos,hcl,hc1,hc2⟩:=L2.clos_of (sc:=sc') (env:=X.env) λy hy=>I.ok.has y (T y hy)
 have st:=qAx (env:=X.env) (es:=[]) (qBx hcr)
 refine qHv (ks:=[Str.ofString "key"]) (r:=λxs zs H2 Q τ'=>∀(pins:List (Addr×Obj)) (s:Shared) (us ws:List Value),Inv X pins τ' H2 s->Vals xs us->Vals zs ws->wpAny (model X.prog X.w) X.A (PySem.call (.builtin "sorted") us ([Str.ofString "key"].zip ws)) (EP X pins τ' Q) X.xe s)
  (λpins s σ H xs zs us ws Q I r1 r2 h=>h pins s us ws I r1 r2) (g.gl _ hgf) (qCm g hG rfl (by decide)) qEO
  (qBe (qEq qIu (g.gl _ hgg) (qCm g hG rfl (by decide)) boot_range (qBe ptr qB3 st) (he:=st)) qB3) (qHq (qOi hdef hcl hcode C hb) qKD) (by decide) (by decide) rfl rfl rfl rfl rfl pins s τ H Q I ?_
 rw [qFZ] at hz
 obtain⟨xs,ex,hz⟩:=qAb hz
 obtain⟨its,ei,hz⟩:=qAb hz
 obtain⟨ys,ey,hz⟩:=qAb hz
 obtain⟨is,eis,hz⟩:=qAb hz
 obtain⟨hlen,rfl⟩:=qAt hz
 obtain⟨d,ed,e2⟩:=qAb (show ((pk σ cr (evE call σ cr)).bind λx=>(qBO call σ []).bind λxs=>some (x::xs))=some xs from ex)
 cases e2
 obtain⟨m,rfl,hm1,hm2,rfl⟩:∃m:Int,d=.int m/\-(2^62)<=m/\m<2^62/\its=(List.range m.toNat).map λi:Nat=>D.int (i:Int):=by
  cases d with
  | int m=>obtain⟨h1,rfl⟩:=qAt ei;exact⟨m,rfl,h1.1,h1.2,rfl⟩
  | _=>cases ei
 obtain⟨hly,hya⟩:=qIq ey
 have hys:=qHQ eis
 subst hys
 have hn:is.length=m.toNat:=by simpa using hly
 refine qr Ge H F σ τ (.int m) _ ed hs λv H1 F1 g1 rp=>?_
 obtain rfl:=rp.int
 refine⟨m,rfl,λra hra=>?_⟩
 have g2:Gr H F (upd H1 ra (.rng 0 m)) F1:=g1.trans (Gr.laid g1.dom hra)
 refine⟨(hs.grow g2).tbH _ htb,λfl cc oc vs tt ctv H2 hx2 hfl hflo hcc hd hv hnew=>?_⟩
 have g3:Gr H F H2 F1:=⟨g2.same.trans hx2,g2.sub,g2.new,λb e=>g2.dom b (Same.free hx2 e)⟩
 intro pins2 s2 us ws I2 r1 r2
 obtain⟨u1,rfl,e1⟩:=qB1 r1
 cases e1
 obtain⟨u2,rfl,e2⟩:=qB1 r2
 cases e2
 have hh:X.A.handled=none:=I2.ok.hd g.calm
 refine qLt (lo:=0) (hi:=m) (n:=m.toNat) (key:=λj=>is.getD j 0) I2 hh (hx2 _ _ qAw) (small_one (by decide) (by decide) hm1 hm2) (by rw [rangeSize_one];split<;>omega) (by omega) (by omega) (λj t s' H' hj I' x'=>?_) λDa H' x' hD hl=>?_
 ·obtain⟨te,pte,qte⟩:=(A'.e _ sc' _ e ce (qNi (qual:=X.env.qual++"<lambda>") (f:=fl) (cd:=.ref cc) (clos:=clos) (s:=s') (H:=H') g S) hce).he
  obtain⟨rj,er,ej⟩:=hya j (.int j) (by rw [List.getElem?_map,List.getElem?_range hj];rfl)
  have hji:j<is.length:=by omega
  have e3:rj.2=.int (is.getD j 0):=by
   rw [List.getElem?_map,List.getElem?_eq_getElem hji] at ej
   rw [List.getD_eq_getElem?_getD,List.getElem?_eq_getElem hji]
   exact (Option.some.inj ej).symm
  have g4:Gr H F H' F1:=⟨g3.same.trans x',g3.sub,g3.new,λb e=>g3.dom b (Same.free x' e)⟩
  have sr:SR X.K Ge H' F1 ((qBm σ 1 ks).set 0 (some (false,.int j))) ((qGV τ 1 ks).set 0 (some (.int (0+(j:Int))))):=(qFA S hk 1 (hs.grow g4)).bind (d:=.int j) (show V.int (0+(j:Int))=V.int (j:Int) by rw [Int.zero_add])
  obtain⟨u',hcc⟩:=hcc
  have hyl:sc'.names.lookup y=some .local:=(qBD S.nd (own_mem.mp (by rw [hown];exact List.mem_singleton.mpr rfl)).1)
  have hkl:=(qA8 hk).1
  refine wpAny_mono (qMB (t:=te) (Q:=λv H3=>v=.int (is.getD j 0)/\Same H' H3) I' (x' _ _ hflo) (x' _ _ hcc) hd hv g.room.depth hh S.kind hco hgen S.cell (hbind _ clos _ cc ctv _) hyl (by rw [List.length_set,qDD,List.length_append,hown,hkl];rfl) hc1 (λz hz=>hc2 z (PySem.mem_of_lookup hz)) (λi z v' h1 h2=>?_) pte
   (qte Ge H' F1 _ _ rj _ er sr λv H3 F3 g5 rr=>⟨?_,g5.same⟩)) (λu s'' hu=>?_) λ_ _ z=>z
  ·rw [hown] at h1
   cases i with
   | zero =>
    rw [List.getElem?_set_self (by rw [qDD];omega)] at h2
    exact .inl ⟨(Option.some.inj h1).symm,(Option.some.inj (Option.some.inj h2)).symm⟩
   | succ i =>
    rw [List.getElem?_set_ne (by omega)] at h2
    obtain⟨m',jj,hi,q1,q2⟩:=qFt h2
    obtain rfl:i=m':=by omega
    have h1':(qAD sc')[i]?=some z:=by simpa using h1
    obtain⟨j',r1,r2⟩:=(qA8 hk).2 i z h1'
    rw [q1] at r1
    cases r1
    refine .inr ⟨qBD S.nd (free_mem.mp (List.mem_of_getElem? h1')),g.cap z (qDz r2).1,jj,by rw [g.hN];exact (qDz r2).2.1,q2⟩
  ·obtain⟨b,d⟩:=rj
   obtain rfl:d=.int (is.getD j 0):=e3
   cases b with
   | false=>exact rr
   | true=>obtain⟨_,_,_,z,_⟩:=rr;cases z
  ·obtain⟨v,H3,rv,⟨rfl,sm⟩,I3,un⟩:=hu
   obtain⟨t',rfl⟩:=rv
   exact⟨H3,t',rfl,I3,sm,un⟩
 ·refine kk _ H' F1 ⟨g3.same.trans x',g3.sub,g3.new,λb e=>g3.dom b (Same.free x' e)⟩ ⟨Da,_,_,rfl,rfl,g3.same.free hD,g3.dom Da hD,hl,?_⟩
  have hs:qCA is=(qAW (λi j=>decide (is.getD i 0<is.getD j 0)) (kas_sort m.toNat)).toList:=by unfold qCA;rw [if_neg (by omega),hn]
  rw [hs]
  exact qHi _ λi hi=>by simpa using (qCf (λi j=>decide (is.getD i 0<is.getD j 0)) m.toNat).mem_iff.mp hi
end
end Dw
namespace Dw
open PySem PySem.Spec PyProof.Rows L2
section
variable {call:Nat->List D->Option R}{G:Gx}{k:Nat}{X:Cx}{sc sc':Scope}{N:List Str}
theorem qKb (hG:∀x∈qAu,G.defs.lookup x=none) {n:Nat}(A:AllE call G k n) (g:XG call G k X sc N) {elt:Expr}{gens:List Comprehension}{pos:Pos}{c:C}(h:cE G (n+1) sc N (.ListComp elt gens sc' pos)=some c) (hx:cX G n sc N (.ListComp elt gens sc' pos)≠some c) :
  ∃(tg iter:Expr) (t:Tg) (ks:List Nat) (ce:C) (b:Bool) (src:En->Option (List D)),gens=[⟨tg,iter,[],0⟩]/\ScOk sc'/\qEe sc' (qA1 sc'++qAD sc') tg=some t/\qAU (qCk sc N) (qAD sc')=some ks /\
    (∀X':Cx,XG call G k X' sc' (qA1 sc'++qAD sc')->SndE call X' elt ce)/\qGI X tg iter b src/\(∀x,foldedSetIterable iter X.env x=pure x) /\
    (∀σ r,evE call σ c=some r->∃its ys,src σ=some its/\qAz call ce (qBm σ (qA1 sc').length ks) t its=some ys/\r=(true,.lst ys)/\((b=true->its.length<=lim)->its.length<=lim)):=by
 unfold cE at h
 split at h
 any_goals (rename_i heq;first|cases heq|skip)
 all_goals first|(cases n<;>(cases h;done))|skip
 rename_i _ tg it
 split at h
 ·rename_i hsc
  have S:=qDH hsc
  obtain⟨t,e1,e2⟩:=qAb h
  obtain⟨ks,e3,e4⟩:=qAb e2
  obtain⟨ce,e5,e6⟩:=qAb e4
  have he:∀X':Cx,XG call G k X' sc' (qA1 sc'++qAD sc')->SndE call X' elt ce:=λX' g'=>(A.e X' sc' _ elt ce g' e5).he
  have hsr:=srk (sc:=sc) it
  cases hq:qLs sc it with
  | seq s =>
   rw [hq] at e6 hsr
   obtain⟨x,q1,q2⟩:=qAb e6
   cases q2
   cases hsr
   refine⟨tg,it,t,ks,ce,true,_,rfl,S,e1,e3,he,qE4 A g q1,qFa q1 X.env,fun σ r hr=>?_⟩
   obtain⟨y,r1,r2⟩:=qAb (by simpa only [qC4] using hr)
   obtain⟨its,r3,r4⟩:=qAb r2
   obtain⟨ys,r5,r6⟩:=qAb r4
   cases r6
   exact⟨its,ys,by simp only [r1];exact r3,r5,rfl,λz=>z rfl⟩
  | rng rs =>
   rw [hq] at e6 hsr
   obtain⟨xs,q1,q2⟩:=qAb e6
   cases q2
   cases hsr with
   | rng f p as pos2 hg hf hl =>
    refine⟨tg,_,t,ks,ce,false,_,rfl,S,e1,e3,he,qE5 (p:=p) (pos:=pos2) A g hG hg hf hl q1,λ_=>rfl,fun σ r hr=>?_⟩
    obtain⟨y,r1,r2⟩:=qAb (by simpa only [qC5] using hr)
    obtain⟨its,r3,r4⟩:=qAb r2
    split at r4
    ·rename_i hle
     obtain⟨ys,r5,r6⟩:=qAb r4
     cases r6
     exact⟨its,ys,by simp only [r1];exact r3,r5,rfl,λ_=>hle⟩
    ·cases r4
  | zip a b =>
   rw [hq] at e6 hsr
   simp only at e6
   split at e6
   ·rename_i h2
    obtain⟨x,q1,q2⟩:=qAb e6
    obtain⟨y,q3,q4⟩:=qAb q2
    cases q4
    obtain⟨es,kk,tp,rfl⟩:=qCL e1 h2
    cases hsr with
    | zip f p a b pos2 hg hf =>
     refine⟨_,_,t,ks,ce,true,_,rfl,S,e1,e3,he,qE3 (p:=p) (pos:=pos2) A g hG hg hf q1 q3,λ_=>rfl,fun σ r hr=>?_⟩
     obtain⟨z,r1,r2⟩:=qAb (by simpa only [qC3] using hr)
     obtain⟨z2,r3,r4⟩:=qAb r2
     obtain⟨xs,r5,r6⟩:=qAb r4
     obtain⟨ys,r7,r8⟩:=qAb r6
     obtain⟨zs,r9,r10⟩:=qAb r8
     cases r10
     exact⟨qCn xs ys,zs,by simp only [r1,r3,r5,r7,Option.bind_some],r9,rfl,λz=>z rfl⟩
   ·cases e6
  | rev rs=>rw [hq] at e6;cases e6
  | enm a =>
   rw [hq] at e6 hsr
   simp only at e6
   split at e6
   ·rename_i h2
    obtain⟨x,q1,q2⟩:=qAb e6
    cases q2
    obtain⟨es,kk,tp,rfl⟩:=qCL e1 h2
    cases hsr with
    | enm f p a pos2 hg hf =>
     refine⟨_,_,t,ks,ce,true,_,rfl,S,e1,e3,he,qG2 (p:=p) (pos:=pos2) A g hG hg hf q1,λ_=>rfl,fun σ r hr=>?_⟩
     obtain⟨z,r1,r2⟩:=qAb (by simpa only [qC6] using hr)
     obtain⟨xs,r5,r6⟩:=qAb r2
     obtain⟨zs,r9,r10⟩:=qAb r6
     cases r10
     exact⟨qBP 0 xs,zs,by simp only [r1,r5,Option.bind_some],r9,rfl,λz=>z rfl⟩
   ·cases e6
 ·cases h
theorem qGX (elt:Expr) (gens:List Comprehension) (sc':Scope) (pos py:Pos) (x:Str) (ln:Nat) (env:Env):∃b:Bool,swapsWith (.ListComp elt gens sc' pos) (some (.Name x py)) ln env=pure b:=⟨_,rfl⟩
theorem qM8 (hG:∀x∈qAu,G.defs.lookup x=none) {n:Nat}(g:XG call G k X sc N) {e:Expr}{c:C}{x:Str}{i:Nat}{py spos:Pos}(h:cE G n sc N e=some c) (hx:(sc.names.lookup x == some .local||sc.names.lookup x == some .cell)=true) (hsl:qAN N x=some i) :
  ∃t:TS,PS X (.Assign [.Name x py] e spos) t/\∀(Ge H:Hp) (F:Fz) (σ:En) (τ:L2.St) (r:R) (Dn:Ends),evE call σ c=some r->SR X.K Ge H F σ τ->(∀v H' F',Gr H F H' F'->RR X.K H H' F' r v->Dn.nx (τ.set i (some v)) H')->t Dn τ H:=by
 obtain⟨l1,l2⟩:=qDw g hx
 have plain:swapsWith e (some (.Name x py)) spos.line X.env=pure false->∃t:TS,PS X (.Assign [.Name x py] e spos) t/\∀(Ge H:Hp) (F:Fz) (σ:En) (τ:L2.St) (r:R) (Dn:Ends),evE call σ c=some r->SR X.K Ge H F σ τ->(∀v H' F',Gr H F H' F'->RR X.K H H' F' r v->Dn.nx (τ.set i (some v)) H')->t Dn τ H:=λhs=>by
  obtain⟨te,pe,qe⟩:=((qDe (call:=call) (k:=k) hG n).e X sc N e c g h).he
  exact⟨_,qN2 (i:=i) (by rw [g.hN];exact g.nd) (by rw [g.hN];exact qBg hsl) l1 pe hs l2,λGe H F σ τ r Dn h1 h2 h3=>qe Ge H F σ τ r _ h1 h2 h3⟩
 cases n with
 | zero=>cases h
 | succ n =>
  cases e with
  | ListComp elt gens sc' pos =>
   obtain⟨b,hb⟩:=qGX elt gens sc' pos py x spos.line X.env
   cases b with
   | false=>exact plain hb
   | true =>
    by_cases hx':cX G n sc N (.ListComp elt gens sc' pos)=some c
    ·cases n with
     | zero=>cases hx'
     | succ n=>cases hx'
    obtain⟨tg,iter,t,ks,ce,b,src,rfl,S,e1,e3,he,hi,hf,hc⟩:=qKb hG (qDe (call:=call) (k:=k) hG n) g h hx'
    exact⟨_,qKm g S e1 e3 he hi hf hc hx hsl hb,λGe H F σ τ r Dn h1 h2 h3=>⟨Ge,F,σ,r,h1,h2,h3⟩⟩
  | SetComp _ _ _ _=>(cases n<;>cases h)
  | DictComp _ _ _ _ _=>(cases n<;>cases h)
  | _=>exact plain rfl
noncomputable def EndsOk (X:Cx) (Ge:Hp) (F0:Fz) (H:Hp) (F:Fz) (o:Ou) (Dn:Ends):Prop:=match o with
 | .nx σ'=>∀τ' H' F',Keep H F H' F'->Gr Ge F0 H' F'->SR X.K Ge H' F' σ' τ'->Dn.nx τ' H'
 | .rt r=>(∀v H' F',Gr Ge F0 H' F'->RR X.K Ge H' F' r v->Dn.rt v H')/\∀c,r=(false,.exc c)->∀H' F',Gr Ge F0 H' F'->qRc X c H'
 | .bk σ'=>∀τ' H' F',Keep H F H' F'->Gr Ge F0 H' F'->SR X.K Ge H' F' σ' τ'->Dn.bk τ' H'
 | .ct σ'=>∀τ' H' F',Keep H F H' F'->Gr Ge F0 H' F'->SR X.K Ge H' F' σ' τ'->Dn.ct τ' H'
theorem EndsOk.mv {X:Cx}{Ge:Hp}{F0:Fz}{H H1:Hp}{F F1:Fz}{o:Ou}{Dn:Ends}(h:EndsOk X Ge F0 H F o Dn) (k:Keep H F H1 F1):EndsOk X Ge F0 H1 F1 o Dn:=by
 cases o with
 | nx σ'=>exact fun τ' H' F' k' g s=>h τ' H' F' (k.trans k') g s
 | rt r=>exact h
 | bk σ'=>exact fun τ' H' F' k' g s=>h τ' H' F' (k.trans k') g s
 | ct σ'=>exact fun τ' H' F' k' g s=>h τ' H' F' (k.trans k') g s
variable (call X) in
noncomputable def qKt (st:List Stmt) (cs:List S):Prop:=∃t:TS,PSs X st t/\∀(Ge:Hp) (F0:Fz) (H:Hp) (F:Fz) (σ:En) (τ:L2.St) (o:Ou) (Dn:Ends),qAr call σ cs=some o->SR X.K Ge H F σ τ->Gr Ge F0 H F->EndsOk X Ge F0 H F o Dn->t Dn τ H
variable (call X) in
noncomputable def qIS (st:Stmt) (cs:List S):Prop:=∃t:TS,PS X st t/\∀(Ge:Hp) (F0:Fz) (H:Hp) (F:Fz) (σ:En) (τ:L2.St) (o:Ou) (Dn:Ends),qAr call σ cs=some o->SR X.K Ge H F σ τ->Gr Ge F0 H F->EndsOk X Ge F0 H F o Dn->t Dn τ H
theorem qFg (cx cy:List S):∀σ:En,qAr call σ (cx++cy)=(qAr call σ cx).bind (qLc fun σ'=>qAr call σ' cy):=by
 induction cx with
 | nil=>intro σ;rfl
 | cons a r ih =>
  intro σ
  rw [List.cons_append,qAP,qAP]
  rcases evS call σ a with _|(σ1|r1|σ1|σ1)
  ·rfl
  ·exact ih σ1
  ·rfl
  ·rfl
  ·rfl
theorem qLE:qKt call X [] []:=⟨_,qHn,λGe F0 H F σ τ o Dn h s g e=>by cases h;exact e τ H F Keep.refl g s⟩
theorem qJk {st:Stmt}{qAV:List Stmt}{cx cy:List S}(h1:qIS call X st cx) (h2:qKt call X qAV cy):qKt call X (st::qAV) (cx++cy):=by
 obtain⟨t1,p1,q1⟩:=h1
 obtain⟨t2,p2,q2⟩:=h2
 refine⟨_,qFG p1 p2,λGe F0 H F σ τ o Dn h s g e=>?_⟩
 rw [qFg] at h
 obtain⟨o1,e1,e2⟩:=qAb h
 cases o1 with
 | nx σ1=>exact q1 Ge F0 H F σ τ (.nx σ1) { Dn with nx:=t2 Dn } e1 s g fun τ' H' F' k' g' s'=>q2 Ge F0 H' F' σ1 τ' o Dn e2 s' g' (e.mv k')
 | rt r=>cases e2;exact q1 Ge F0 H F σ τ (.rt r) { Dn with nx:=t2 Dn } e1 s g e
 | bk σ1=>cases e2;exact q1 Ge F0 H F σ τ (.bk σ1) { Dn with nx:=t2 Dn } e1 s g e
 | ct σ1=>cases e2;exact q1 Ge F0 H F σ τ (.ct σ1) { Dn with nx:=t2 Dn } e1 s g e
theorem SR.frz1 {K:PySem.W.Frag}{Ge H:Hp}{F F0:Fz}{σ:En}{τ:L2.St}(s:SR K Ge H F σ τ) (g:Gr Ge F0 H F) (i:Nat):∃F',SR K Ge H F' (Dw.frz1 σ i) τ/\Keep H F H F'/\Gr Ge F0 H F':=by
 unfold Dw.frz1
 split
 ·rename_i ds0 hd
  obtain⟨a,ds,vs,eq0,h2,h3,h4,h5,h6⟩:=s.own i _ hd rfl
  cases eq0
  have kp:Keep H F H (λb=>b=a∨F b):=⟨λ_ _ h=>h,λ_ _ f h=>⟨.inr f,h⟩⟩
  refine⟨λb=>b=a∨F b,?_,kp,⟨g.same,λb f=>.inr (g.sub b f),λb f=>f.elim (λz=>.inr (z▸h3)) (g.new b),λb e f=>f.elim (λz=>by subst z;rw [h5] at e;cases e) (g.dom b e)⟩⟩
  have hl:=qA9 hd
  refine⟨by simp [s.len],s.ent,λb e f=>f.elim (λz=>by subst z;rw [h5] at e;cases e) (s.dom b e),λj e hj=>?_,λj e hj hde=>?_,λj l e e' hj hl' hjl=>?_,λj m ks hj=>?_,λj ns ds hj=>?_,s.tb⟩
  ·by_cases hij:i=j
   ·subst hij
    rw [qAy hl] at hj
    cases hj
    exact⟨.ref a,h2,a,vs,rfl,.inl ⟨.inl rfl,.inl h5⟩,RDs.mono kp h6⟩
   ·rw [qAE hij] at hj
    obtain⟨v,q1,q2⟩:=s.val j e hj
    exact⟨v,q1,RD.mono kp q2⟩
  ·have hij:i≠j:=λz=>by subst z;rw [qAy hl] at hj;cases hj
   rw [qAE hij] at hj
   obtain⟨a',ds',vs',p1,p2,p3,p4,p5,p6⟩:=s.own j e hj hde
   refine⟨a',ds',vs',p1,p2,p3,λf=>f.elim (λz=>?_) p4,p5,RDs.mono kp p6⟩
   subst z
   exact hij (s.sep i j _ _ hd hj (by rw [h2,p2]))
  ·have ne:∀{j:Nat} {e:D},qAg (σ.set i (some (false,.lst ds0))) j=some (true,e)->i≠j:=λ{j e} hj z=>by subst z;rw [qAy hl] at hj;cases hj
   have n1:=ne hj
   have n2:=ne hl'
   rw [qAE n1] at hj
   rw [qAE n2] at hl'
   exact s.sep j l e e' hj hl' hjl
  ·have hij:i≠j:=λz=>by subst z;rw [qAy hl] at hj;cases hj
   rw [qAE hij] at hj
   obtain⟨a',p1,p2,p3,p4⟩:=s.dct j m ks hj
   refine⟨a',p1,λf=>f.elim (λz=>?_) p2,p3,p4⟩
   subst z
   rw [h5] at p3
   cases p3
  ·have hij:i≠j:=λz=>by subst z;rw [qAy hl] at hj;cases hj
   rw [qAE hij] at hj
   obtain⟨v8,p1,p2⟩:=s.obj j ns ds hj
   refine⟨v8,p1,p2.mono kp λa' C dx fs _ hH hF=>⟨λf=>f.elim (λz=>?_) hF,rfl⟩⟩
   subst z
   rw [h5] at hH
   cases hH
 ·exact⟨F,s,Keep.refl,g⟩
theorem SR.frzs {K:PySem.W.Frag}{Ge H:Hp}{F0:Fz}{τ:L2.St}:∀(js:List Nat) {σ:En}{F:Fz},SR K Ge H F σ τ->Gr Ge F0 H F->∃F',SR K Ge H F' (js.foldl Dw.frz1 σ) τ/\Keep H F H F'/\Gr Ge F0 H F'
 | [],σ,F,s,g=>⟨F,s,Keep.refl,g⟩
 | j::js,σ,F,s,g=>by
  obtain⟨F1,s1,k1,g1⟩:=SR.frz1 s g j
  obtain⟨F2,s2,k2,g2⟩:=SR.frzs js s1 g1
  exact⟨F2,s2,k1.trans k2,g2⟩
theorem qA0 {st:Stmt}{mt is:List Nat}{s:S}(h:qIS call X st [s]):qIS call X st (qCI mt is s):=by
 unfold qCI
 split
 ·exact h
 ·obtain⟨t,p,q⟩:=h
  refine⟨t,p,λGe F0 H F σ τ o Dn hv hs g e=>?_⟩
  obtain⟨F',s',k',g'⟩:=SR.frzs (is.filter (mt.contains ·)) hs g
  exact q Ge F0 H F' _ τ o Dn hv s' g' (e.mv k')
end
end Dw
namespace Dw
open PySem PySem.Spec PyProof.Rows L2
section
variable {call:Nat->List D->Option R}{G:Gx}{k:Nat}{X:Cx}{sc sc':Scope}{N:List Str}
theorem qBj (σ:En) (s:S):qAr call σ [s]=evS call σ s:=by
 rw [qAP]
 rcases evS call σ s with _|(_|_|_|_)<;>rfl
theorem SR.bindOwn {K:PySem.W.Frag}{Ge H H1:Hp}{F F1:Fz}{σ:En}{τ:L2.St}{i:Nat}{d:D}{v:V}(s0:SR K Ge H F σ τ) (s:SR K Ge H1 F1 σ τ) (h:RR K H H1 F1 (true,d) v):SR K Ge H1 F1 (σ.set i (some (true,d))) (τ.set i (some v)):=by
 obtain⟨a,ds,vs,rfl,rfl,h3,h4,h5,h6⟩:=h
 have hne:∀{j:Nat} {e:D} {a':Addr},qAg σ j=some (true,e)->τ[j]?=some (some (.ref a'))->a'≠a:=λ{j e a'} hj ht z=>by
  obtain⟨b,u,q2,_,q5⟩:=s0.addr hj
  rw [ht] at q2
  cases q2
  subst z
  rw [h3] at q5
  cases q5
 refine⟨by simp [s.len],s.ent,s.dom,λj e hj=>?_,λj e hj hde=>?_,λj l e e' hj hl hjl=>?_,λj m ks hj=>?_,λj ns ds hj=>?_,s.tb⟩
 ·have hij:i≠j:=λz=>by
   subst z
   rw [qAy (by simpa using qA9 hj)] at hj
   cases hj
  rw [qAE hij] at hj
  obtain⟨u,q1,q2⟩:=s.val j e hj
  exact⟨u,by rw [List.getElem?_set_ne hij];exact q1,q2⟩
 ·by_cases hij:i=j
  ·subst hij
   have hl:i<σ.length:=by simpa using qA9 hj
   rw [qAy hl] at hj
   cases hj
   exact⟨a,ds,vs,rfl,by rw [List.getElem?_set_self (by rw [<-s.len];exact hl)],s0.ent.free h3,h4,h5,h6⟩
  ·rw [qAE hij] at hj
   obtain⟨a',ds',vs',q1,q2,q3⟩:=s.own j e hj hde
   exact⟨a',ds',vs',q1,by rw [List.getElem?_set_ne hij];exact q2,q3⟩
 ·by_cases n1:i=j
  ·by_cases n2:i=l
   ·rw [<-n1,<-n2]
   ·subst n1
    have hl':i<σ.length:=by simpa using qA9 hj
    rw [qAE n2] at hl
    obtain⟨b,u,q2,_⟩:=s.addr hl
    rw [List.getElem?_set_self (by rw [<-s.len];exact hl'),List.getElem?_set_ne n2,q2] at hjl
    cases hjl
    exact absurd rfl (hne hl q2)
  ·rw [qAE n1] at hj
   by_cases n2:i=l
   ·subst n2
    have hl':i<σ.length:=by simpa using qA9 hl
    obtain⟨b,u,q2,_⟩:=s.addr hj
    rw [List.getElem?_set_self (by rw [<-s.len];exact hl'),List.getElem?_set_ne n1,q2] at hjl
    cases hjl
    exact absurd rfl (hne hj q2)
   ·rw [qAE n2] at hl
    rw [List.getElem?_set_ne n1,List.getElem?_set_ne n2] at hjl
    exact s.sep j l e e' hj hl hjl
 ·have hij:i≠j:=λz=>by
   subst z
   rw [qAy (by simpa using qA9 hj)] at hj
   cases hj
  rw [qAE hij] at hj
  obtain⟨a',q1,q2⟩:=s.dct j m ks hj
  exact⟨a',by rw [List.getElem?_set_ne hij];exact q1,q2⟩
 ·have hij:i≠j:=λz=>by
   subst z
   rw [qAy (by simpa using qA9 hj)] at hj
   cases hj
  rw [qAE hij] at hj
  obtain⟨a',q1,q2⟩:=s.obj j ns ds hj
  exact⟨a',by rw [List.getElem?_set_ne hij];exact q1,q2⟩
theorem qLz (hG:∀x∈qAu,G.defs.lookup x=none) {n:Nat}(g:XG call G k X sc N) {e:Expr}{c:C}{x:Str}{i:Nat}{keep:Bool}{py spos:Pos}(h:cE G n sc N e=some c) (hx:(sc.names.lookup x == some .local||sc.names.lookup x == some .cell)=true) (hsl:qAN N x=some i) :
  qIS call X (.Assign [.Name x py] e spos) [.set i keep c]:=by
 obtain⟨t,p,q⟩:=qM8 (py:=py) (spos:=spos) hG g h hx hsl
 refine⟨t,p,λGe F0 H F σ τ o Dn hv hs gr en=>?_⟩
 rw [qBj,qH4] at hv
 obtain⟨r,e1,e2⟩:=qAb hv
 cases e2
 refine q Ge H F σ τ r Dn e1 hs λv H' F' g' rr=>?_
 obtain⟨b,d⟩:=r
 have froz:qAM keep (b,d)=(false,d)->Dn.nx (τ.set i (some v)) H':=λhk=>by
  obtain⟨F2,g2,rd⟩:=rr.fz g'
  have en':∀τ' H' F',Keep H F H' F'->Gr Ge F0 H' F'->SR X.K Ge H' F' (σ.set i (some (qAM keep (b,d)))) τ'->Dn.nx τ' H':=en
  rw [hk] at en'
  exact en' _ H' F2 g2.keep (gr.trans g2) ((hs.grow g2).bind rd)
 cases b with
 | false=>exact froz (by cases keep<;>rfl)
 | true =>
  cases keep with
  | false=>exact froz rfl
  | true=>exact en _ H' F' g'.keep (gr.trans g') (SR.bindOwn hs (hs.grow g') rr)
theorem qCg {H:Hp}{F:Fz}{a:Addr}{vs ws:List V}(h:H a=some (.lst vs)) (hf:¬F a):Keep H F (upd H a (.lst ws)) F:=⟨λp xs q=>by
  have ne:p≠a:=λz=>by subst z;rcases q with q|⟨o,q⟩<;>(rw [h] at q;cases q)
  rcases q with q|⟨o,q⟩
  ·exact .inl (by rw [qAc ne];exact q)
  ·exact .inr ⟨o,by rw [qAc ne];exact q⟩,λp xs f q=>by
  have ne:p≠a:=λz=>by subst z;exact hf f
  refine⟨f,?_⟩
  rcases q with q|⟨o,q⟩
  ·exact .inl (by rw [qAc ne];exact q)
  ·exact .inr ⟨o,by rw [qAc ne];exact q⟩⟩
theorem qDv {Ge H:Hp}{F0 F:Fz}{a:Addr}{vs ws:List V}(g:Gr Ge F0 H F) (h:H a=some (.lst vs)) (hg:Ge a=none):Gr Ge F0 (upd H a (.lst ws)) F:=⟨λb o e=>by rw [qAc (qAd e hg)];exact g.same b o e,g.sub,g.new,λb e=>by
  by_cases z:b=a
  ·subst z;rw [qAw] at e;cases e
  ·rw [qAc z] at e;exact g.dom b e⟩
theorem qFL {K:PySem.W.Frag}{Ge H:Hp}{F0 F:Fz}{σ:En}{τ:L2.St}{i:Nat}{a:Addr}{ds es:List D}{vs ws:List V}(s:SR K Ge H F σ τ) (g:Gr Ge F0 H F) (hi:qAg σ i=some (true,.lst ds)) (ht:τ[i]?=some (some (.ref a))) (hg:Ge a=none) (hf:¬F a) (h:H a=some (.lst vs)) (r:RDs K H F es ws) :
  SR K Ge (upd H a (.lst ws)) F (σ.set i (some (true,.lst es))) τ:=by
 have kp:=qCg (ws:=ws) h hf
 have hl:=qA9 hi
 refine⟨by simp [s.len],(qDv (ws:=ws) g h hg).same,(qDv (ws:=ws) g h hg).dom,λj e hj=>?_,λj e hj hde=>?_,λj l e e' hj hl' hjl=>?_,λj m ks hj=>?_,λj ns ds hj=>?_,s.tb⟩
 ·have hij:i≠j:=λz=>by subst z;rw [qAy hl] at hj;cases hj
  rw [qAE hij] at hj
  obtain⟨v,q1,q2⟩:=s.val j e hj
  exact⟨v,q1,RD.mono kp q2⟩
 ·by_cases hij:i=j
  ·subst hij
   rw [qAy hl] at hj
   cases hj
   exact⟨a,es,ws,rfl,ht,hg,hf,qAw,RDs.mono kp r⟩
  ·rw [qAE hij] at hj
   obtain⟨a',ds',vs',p1,p2,p3,p4,p5,p6⟩:=s.own j e hj hde
   have ne:a'≠a:=λz=>by subst z;exact hij (s.sep i j _ _ hi hj (by rw [ht,p2]))
   exact⟨a',ds',vs',p1,p2,p3,p4,by rw [qAc ne];exact p5,RDs.mono kp p6⟩
 ·have back:∀{j:Nat} {e:D},qAg (σ.set i (some (true,.lst es))) j=some (true,e)->∃e',qAg σ j=some (true,e'):=λ{j e} hj=>by
   by_cases hij:i=j
   ·subst hij;exact⟨_,hi⟩
   ·rw [qAE hij] at hj;exact⟨e,hj⟩
  obtain⟨_,b1⟩:=back hj
  obtain⟨_,b2⟩:=back hl'
  exact s.sep j l _ _ b1 b2 hjl
 ·have hij:i≠j:=λz=>by subst z;rw [qAy hl] at hj;cases hj
  rw [qAE hij] at hj
  obtain⟨a',p1,p2,p3,p4⟩:=s.dct j m ks hj
  have ne:a'≠a:=λz=>by subst z;rw [h] at p3;cases p3
  exact⟨a',p1,p2,by rw [qAc ne];exact p3,p4⟩
 ·have hij:i≠j:=λz=>by subst z;rw [qAy hl] at hj;cases hj
  rw [qAE hij] at hj
  obtain⟨v8,p1,p2⟩:=s.obj j ns ds hj
  refine⟨v8,p1,p2.mono kp λa' C dx fs _ hH hF=>⟨hF,qAc λz=>?_⟩⟩
  subst z
  rw [h] at hH
  cases hH
theorem qBv {K:PySem.W.Frag}{Ge H:Hp}{F:Fz}{σ:En}{τ:L2.St}{i:Nat}{ds:List D}(s:SR K Ge H F σ τ) (h:qAg σ i=some (true,.lst ds)):∃a vs,τ[i]?=some (some (.ref a))/\Ge a=none/\¬F a/\H a=some (.lst vs)/\RDs K H F ds vs:=by
 obtain⟨a,ds',vs,e,h2,h3,h4,h5,h6⟩:=s.own i _ h rfl
 cases e
 exact⟨a,vs,h2,h3,h4,h5,h6⟩
theorem qLN {n:Nat}(A:AllE call G k n) (g:XG call G k X sc N) {x m:Str}{i:Nat}{p p2 p3 spos:Pos}{e:Expr}{c:C}(hm:m=Str.ofString "append") (hln:(p2.endLine == p3.line)=true) (hv:qBA sc N x=some i) (h:cE G n sc N e=some c) :
  qIS call X (.Expr (.Call (.Attribute (.Name x p) m p2) [e] [] p3) spos) [.app i c]:=by
 subst hm
 obtain⟨h1,h2,h3,h4⟩:=qDo g hv
 obtain⟨te,pe,qe⟩:=(A.e X sc N e c g h).he
 have pn:PE X (.Name x p) (qPT i):=qCs h1 h2 h3 h4
 have hst:=qAx (env:=X.env) (es:=[]) (qBx h)
 refine⟨_,qHp (qOk PySem.F.plainAttrs_list PySem.F.slot_list_append PySem.F.type_list_append qEt pn (qBe pe qB3 hst) (hfew:=by rw [hst];rfl) (hline:=hln) (hs:=hst)),λGe F0 H F σ τ o Dn hvv hs gr en=>?_⟩
 rw [qBj,qH7] at hvv
 obtain⟨r,e1,e2⟩:=qAb hvv
 unfold qKo at e2
 split at e2
 ·rename_i xs hg
  split at e2
  ·rename_i hlt
   cases e2
   obtain⟨a,vs,q1,q2,q3,q4,q5⟩:=qBv hs hg
   refine⟨.ref a,q1,.inl ⟨rfl,_,SqL.of q4⟩,?_⟩
   refine qe Ge H F σ τ r _ e1 hs λv H1 F1 g1 rr=>?_
   obtain⟨F2,g2,rd⟩:=rr.fz g1
   have s2:=hs.grow g2
   obtain⟨a',vs',q1',q2',q3',q4',q5'⟩:=qBv s2 hg
   rw [q1] at q1'
   cases q1'
   have gr2:=gr.trans g2
   refine⟨a,vs',v,rfl,rfl,q4',by rw [RDs.length q5'];exact hlt,?_⟩
   exact en _ _ F2 (g2.keep.trans (qCg q4' q3')) (qDv gr2 q4' q2') (qFL s2 gr2 hg q1 q2' q3' q4' (RDs.append q5' ⟨v,[],rfl,rd,rfl⟩))
  ·cases e2
 ·cases e2
section
open AutoSeq1
theorem qMO (l:Addr) (items:Array Value) (n:Nat) (b:Addr) (items2:Array Value) (n2:Nat) (dd:Option Addr) (sl:Array (Option Value)) (hs0:¬(!items.isEmpty&&Builtin.List.listTooLong (items.size+items2.size))=true) (hs1:items.size<=sizeLine) (hs2:items.size+items2.size<=sizeLine+1) :
  Meets (Builtin.«list.extend» ⟨[.ref l,.ref b],[]⟩) (λ_ R s=>s.heap.get? l=some { cls:=.type "list",dict:=none,data:=.seq items n,slots:=#[] }/\s.heap.get? b=some { cls:=.type "tuple",dict:=dd,data:=.seq items2 n2,slots:=sl }/\R (.ok (.ret Value.none)) { s with heap:=s.heap.update l (Obj.mapSeq λx=>x++items2),toks:=s.toks }):=
 .of_wp λprog w A R s h=>by
  obtain⟨hp,g,d,tk,os⟩:=s;obtain⟨hl,hb,h⟩:=h;have f1:=idx_int;have f2:=AutoSeq1.sub_tuple_tuple;have f3:=AutoSeq1.sub_list_list;have f4:=AutoSeq1.sub_tuple_list;have f5:=AutoSeq1.sub_list_tuple
  have hz':(items++items2).size<=sizeLine+1:=by rw [Array.size_append];exact hs2
  wp_walk using (wpAny_updateSeq hl rfl (hz:=hs1) (_hz':=hz')),wpAny_loadPart' hl,wpAny_loadPart' hb;exact⟨_,rfl,h⟩
end
theorem qKF {id:String}{r r':V->List V->Hp->VK->Prop}(h:MtM X id r) (h':MtM X id r'):MtM X id (λx vs H Q=>r x vs H Q∨r' x vs H Q):=
 λpins s σ H x vs v us Q I rx rv z=>z.elim (h pins s σ H x vs v us Q I rx rv) (h' pins s σ H x vs v us Q I rx rv)
theorem qMt:MtM X "list.extend" (λx vs H Q=>∃l b xs zs,x=.ref l/\vs=[.ref b]/\H l=some (.lst xs)/\SqT X.K H b zs/\xs.length+zs.length<=sizeLine/\Q .non (upd H l (.lst (xs++zs)))):=by
 intro pins s σ H x vs v us Q I rx rv h
 obtain⟨l,b,xs,zs,rfl,rfl,hH,hB,hz,q⟩:=h
 cases rx
 obtain⟨u,rfl,ru⟩:=qB1 rv
 cases ru
 obtain⟨z,its,n,r,hl,e⟩:=I.lstM hH
 obtain⟨its2,r2,⟨⟨cls,dd,data,sl⟩,e2,hc2,n2,hd2⟩,z2⟩:=I.tuple hB
 simp only at hc2 hd2
 subst hc2 hd2
 have hl2:=r2.length
 have hsz:its.toArray.size+its2.toArray.size<=sizeLine:=by rw [List.size_toArray,List.size_toArray];omega
 have hlong:¬(!its.toArray.isEmpty&&Builtin.List.listTooLong (its.toArray.size+its2.toArray.size))=true:=by
  rw [qCD hsz,Bool.and_false]
  exact Bool.false_ne_true
 refine call_meets F.slot_list_extend ⟨_,e,rfl⟩ F.entry_list_extend (F.args_list_extend_2 _ _)
  (qMO l its.toArray n b its2.toArray n2 dd sl hlong (by rw [List.size_toArray];omega) (by omega)) ⟨e,e2,?_⟩
 refine⟨.non,_,I.lset (its':=its++its2) hH e (by simp) (r.append r2) ?_,rfl,q⟩
 rw [List.length_append]
 omega
section
open AutoSeq1
theorem qMP (l:Addr) (items:Array Value) (n:Nat) (b:Addr) (items2:Array Value) (n2:Nat) (dd:Option Addr) (sl:Array (Option Value)) (hs0:¬(!items.isEmpty&&Builtin.List.listTooLong (items.size+items2.size))=true) (hs1:items.size<=sizeLine) (hs2:items.size+items2.size<=sizeLine+1) :
  Meets (Builtin.«list.extend» ⟨[.ref l,.ref b],[]⟩) (λ_ R s=>s.heap.get? l=some { cls:=.type "list",dict:=none,data:=.seq items n,slots:=#[] }/\s.heap.get? b=some { cls:=.type "list",dict:=dd,data:=.seq items2 n2,slots:=sl }/\R (.ok (.ret Value.none)) { s with heap:=s.heap.update l (Obj.mapSeq λx=>x++items2),toks:=s.toks }):=
 .of_wp λprog w A R s h=>by
  obtain⟨hp,g,d,tk,os⟩:=s;obtain⟨hl,hb,h⟩:=h;have f1:=idx_int;have f2:=AutoSeq1.sub_tuple_tuple;have f3:=AutoSeq1.sub_list_list;have f4:=AutoSeq1.sub_tuple_list;have f5:=AutoSeq1.sub_list_tuple
  have hz':(items++items2).size<=sizeLine+1:=by rw [Array.size_append];exact hs2
  wp_walk using (wpAny_updateSeq hl rfl (hz:=hs1) (_hz':=hz')),wpAny_loadPart' hl,wpAny_loadPart' hb;exact⟨_,rfl,h⟩
end
theorem qMu:MtM X "list.extend" (λx vs H Q=>∃l b xs zs,x=.ref l/\vs=[.ref b]/\H l=some (.lst xs)/\SqL X.K H b zs/\xs.length+zs.length<=sizeLine/\Q .non (upd H l (.lst (xs++zs)))):=by
 intro pins s σ H x vs v us Q I rx rv h
 obtain⟨l,b,xs,zs,rfl,rfl,hH,hB,hz,q⟩:=h
 cases rx
 obtain⟨u,rfl,ru⟩:=qB1 rv
 cases ru
 obtain⟨z,its,n,r,hl,e⟩:=I.lstM hH
 obtain⟨its2,r2,⟨⟨cls,dd,data,sl⟩,n2,e2,hc2,hdn,hd2⟩,z2⟩:=I.list hB
 simp only at hc2 hd2
 subst hc2 hd2
 have hl2:=r2.length
 have hsz:its.toArray.size+its2.toArray.size<=sizeLine:=by rw [List.size_toArray,List.size_toArray];omega
 have hlong:¬(!its.toArray.isEmpty&&Builtin.List.listTooLong (its.toArray.size+its2.toArray.size))=true:=by
  rw [qCD hsz,Bool.and_false]
  exact Bool.false_ne_true
 refine call_meets F.slot_list_extend ⟨_,e,rfl⟩ F.entry_list_extend (F.args_list_extend_2 _ _)
  (qMP l its.toArray n b its2.toArray n2 dd sl hlong (by rw [List.size_toArray];omega) (by omega)) ⟨e,e2,?_⟩
 refine⟨.non,_,I.lset (its':=its++its2) hH e (by simp) (r.append r2) ?_,rfl,q⟩
 rw [List.length_append]
 omega
theorem qLJ {n:Nat}(A:AllE call G k n) (g:XG call G k X sc N) {x m:Str}{i:Nat}{p p2 p3 spos:Pos}{e:Expr}{c:C}(hm:m=Str.ofString "extend") (hln:(p2.endLine == p3.line)=true) (hv:qBA sc N x=some i) (h:cE G n sc N e=some c) :
  qIS call X (.Expr (.Call (.Attribute (.Name x p) m p2) [e] [] p3) spos) [.ext i c]:=by
 subst hm
 obtain⟨h1,h2,h3,h4⟩:=qDo g hv
 obtain⟨te,pe,qe⟩:=(A.e X sc N e c g h).he
 have pn:PE X (.Name x p) (qPT i):=qCs h1 h2 h3 h4
 have hst:=qAx (env:=X.env) (es:=[]) (qBx h)
 refine⟨_,qHp (qOk PySem.F.plainAttrs_list PySem.F.slot_list_extend PySem.F.type_list_extend (qKF qHz (qKF qMt qMu)) pn (qBe pe qB3 hst) (hfew:=by rw [hst];rfl) (hline:=hln) (hs:=hst)),λGe F0 H F σ τ o Dn hvv hs gr en=>?_⟩
 rw [qBj,qH6] at hvv
 obtain⟨r,e1,e2⟩:=qAb hvv
 unfold qPE at e2
 split at e2
 ·rename_i ys
  split at e2
  ·rename_i xs hg
   split at e2
   ·rename_i hlt
    cases e2
    obtain⟨a,vs,q1,q2,q3,q4,q5⟩:=qBv hs hg
    refine⟨.ref a,q1,.inl ⟨rfl,_,SqL.of q4⟩,?_⟩
    refine qe Ge H F σ τ _ _ e1 hs λv H1 F1 g1 rr=>?_
    have rr0:=rr
    obtain⟨b,ds,ws,ed,rfl,r1,r2,r3,r4⟩:=rr0
    cases ed
    have s2:=hs.grow g1
    obtain⟨a',vs',q1',q2',q3',q4',q5'⟩:=qBv s2 hg
    rw [q1] at q1'
    cases q1'
    have gr2:=gr.trans g1
    refine .inl ⟨a,b,vs',ws,rfl,rfl,q4',r3,by rw [RDs.length q5',RDs.length r4];exact hlt,?_⟩
    exact en _ _ F1 (g1.keep.trans (qCg q4' q3')) (qDv gr2 q4' q2') (qFL s2 gr2 hg q1 q2' q3' q4' (RDs.append q5' r4))
   ·cases e2
  ·cases e2
 ·rename_i ys
  split at e2
  ·rename_i xs hg
   split at e2
   ·rename_i hlt
    cases e2
    obtain⟨a,vs,q1,q2,q3,q4,q5⟩:=qBv hs hg
    refine⟨.ref a,q1,.inl ⟨rfl,_,SqL.of q4⟩,?_⟩
    refine qe Ge H F σ τ _ _ e1 hs λv H1 F1 g1 rr=>?_
    obtain⟨b,ws,rfl,r3,r4⟩:=rr
    have s2:=hs.grow g1
    obtain⟨a',vs',q1',q2',q3',q4',q5'⟩:=qBv s2 hg
    rw [q1] at q1'
    cases q1'
    have gr2:=gr.trans g1
    refine .inr (.inl ⟨a,b,vs',ws,rfl,rfl,q4',r3,by rw [RDs.length q5',RDs.length r4];exact hlt,?_⟩)
    exact en _ _ F1 (g1.keep.trans (qCg q4' q3')) (qDv gr2 q4' q2') (qFL s2 gr2 hg q1 q2' q3' q4' (RDs.append q5' r4))
   ·cases e2
  ·cases e2
 ·rename_i ys
  split at e2
  ·rename_i xs hg
   split at e2
   ·rename_i hlt
    cases e2
    obtain⟨a,vs,q1,q2,q3,q4,q5⟩:=qBv hs hg
    refine⟨.ref a,q1,.inl ⟨rfl,_,SqL.of q4⟩,?_⟩
    refine qe Ge H F σ τ _ _ e1 hs λv H1 F1 g1 rr=>?_
    obtain⟨b,ws,rfl,r3,r4⟩:=rr
    have s2:=hs.grow g1
    obtain⟨a',vs',q1',q2',q3',q4',q5'⟩:=qBv s2 hg
    rw [q1] at q1'
    cases q1'
    have gr2:=gr.trans g1
    refine .inr (.inr ⟨a,b,vs',ws,rfl,rfl,q4',LsR.sq r3,by rw [RDs.length q5',RDs.length r4];exact hlt,?_⟩)
    exact en _ _ F1 (g1.keep.trans (qCg q4' q3')) (qDv gr2 q4' q2') (qFL s2 gr2 hg q1 q2' q3' q4' (RDs.append q5' r4))
   ·cases e2
  ·cases e2
 ·cases e2
theorem qG5 {n:Nat}(A:AllE call G k n) (g:XG call G k X sc N) {t:Expr}{c:C}{body:List Stmt}{cb:List S}{spos:Pos}(h:cE G n sc N t=some c) (hb:qKt call X body cb):qIS call X (.While t body [] spos) [.whl c cb]:=by
 obtain⟨tt,pt,qt⟩:=(A.e X sc N t c g h).ht
 obtain⟨tb,pb,qb⟩:=hb
 refine⟨_,qJz g.xe pt pb,λGe F0 H F σ τ o Dn hvv hs gr en=>?_⟩
 rw [qBj,qH3] at hvv
 refine⟨λm τ' H'=>∃F' σ',SR X.K Ge H' F' σ' τ'/\Gr Ge F0 H' F'/\Keep H F H' F'/\qDi (fun σ'=>evE call σ' c) (fun σ'=>qAr call σ' cb) m σ'=some o,⟨big,F,σ,hs,gr,Keep.refl,hvv⟩,?_⟩
 rintro m τ' H' ⟨F',σ',sr',gr',kp',ev'⟩
 cases m with
 | zero=>cases ev'
 | succ m =>
  obtain⟨⟨x,d⟩,e1,e2⟩:=qAb (show ((evE call σ' c).bind (qQW σ' ((qAr call σ' cb).bind (qHD (qDi (fun σ'=>evE call σ' c) (fun σ'=>qAr call σ' cb) m)))))=some o from ev')
  cases d with
  | bl b =>
   refine qt Ge H' F' σ' τ' x b _ e1 sr' λH1 F1 g1=>?_
   cases b with
   | false =>
    cases e2
    exact qPD (en τ' H1 F1 (kp'.trans g1.keep) (gr'.trans g1) (sr'.grow g1))
   | true =>
    obtain⟨o1,b2,e3⟩:=qAb (show ((qAr call σ' cb).bind (qHD (qDi (fun σ'=>evE call σ' c) (fun σ'=>qAr call σ' cb) m)))=some o from e2)
    refine qPC ?_
    cases o1 with
    | nx σ2=>exact⟨fun τ2 H2=>∃F2,SR X.K Ge H2 F2 σ2 τ2/\Gr Ge F0 H2 F2/\Keep H F H2 F2,fun τ2 H2 ⟨F2,q1,q2,q3⟩=>⟨m,by omega,F2,σ2,q1,q2,q3,e3⟩,qb Ge F0 H1 F1 σ' τ' (.nx σ2) _ b2 (sr'.grow g1) (gr'.trans g1) fun τ5 H5 F5 k5 g5 s5=>⟨F5,s5,g5,(kp'.trans g1.keep).trans k5⟩⟩
    | ct σ2=>exact⟨fun τ2 H2=>∃F2,SR X.K Ge H2 F2 σ2 τ2/\Gr Ge F0 H2 F2/\Keep H F H2 F2,fun τ2 H2 ⟨F2,q1,q2,q3⟩=>⟨m,by omega,F2,σ2,q1,q2,q3,e3⟩,qb Ge F0 H1 F1 σ' τ' (.ct σ2) _ b2 (sr'.grow g1) (gr'.trans g1) fun τ5 H5 F5 k5 g5 s5=>⟨F5,s5,g5,(kp'.trans g1.keep).trans k5⟩⟩
    | bk σ2 =>
     cases e3
     exact⟨λ_ _=>False,λ_ _ z=>z.elim,qb Ge F0 H1 F1 σ' τ' (.bk σ2) _ b2 (sr'.grow g1) (gr'.trans g1) fun τ5 H5 F5 k5 g5 s5=>en τ5 H5 F5 ((kp'.trans g1.keep).trans k5) g5 s5⟩
    | rt r =>
     cases e3
     exact⟨λ_ _=>False,λ_ _ z=>z.elim,qb Ge F0 H1 F1 σ' τ' (.rt r) _ b2 (sr'.grow g1) (gr'.trans g1) en⟩
  | _=>cases e2
theorem qLC (hG:∀x∈qAu,G.defs.lookup x=none) {n:Nat}(g:XG call G k X sc N) {e:Expr}{c:C}{spos:Pos}(h:cE G n sc N e=some c):qIS call X (.Return (some e) spos) [.ret c]:=by
 have ok:=(qDe (call:=call) (k:=k) hG n).e X sc N e c g h
 by_cases hc:∃i,c=.v i
 ·obtain⟨i,rfl⟩:=hc
  cases n with
  | zero=>cases h
  | succ n =>
   have hn:∃x p,e=.Name x p/\qBA sc N x=some i:=by
    rcases ok.nv with ⟨x,p,rfl⟩|z
    ·exact⟨x,p,rfl,qM3 h⟩
    ·exact absurd rfl (z i)
   obtain⟨x,p,rfl,hv⟩:=hn
   obtain⟨h1,h2,h3,h4⟩:=qDo g hv
   refine⟨_,qHo (qCs h1 h2 h3 h4),λGe F0 H F σ τ o Dn hvv hs gr en=>?_⟩
   rw [qBj,qDY] at hvv
   obtain⟨r,e1,e2⟩:=qAb hvv
   cases e2
   have e1:(qAg σ i).bind rtR=some r:=e1
   obtain⟨⟨b,d⟩,e0,e1⟩:=qAb e1
   cases b with
   | false =>
    cases e1
    obtain⟨v,q1,q2⟩:=hs.val i d e0
    exact⟨v,q1,en.1 v H F gr q2⟩
   | true =>
    cases d with
    | lst ds0 =>
     cases e1
     obtain⟨a,ds,vs,q1,q2,q3,q4,q5,q6⟩:=hs.own i _ e0 rfl
     exact⟨.ref a,q2,en.1 _ H F gr ⟨a,ds,vs,q1,rfl,q3,q4,q5,q6⟩⟩
    | _=>cases e1
 ·obtain⟨te,pe,qe⟩:=ok.he
  refine⟨_,qHo pe,λGe F0 H F σ τ o Dn hvv hs gr en=>?_⟩
  rw [qBj,qDY] at hvv
  obtain⟨r,e1,e2⟩:=qAb hvv
  cases e2
  have e1':evE call σ c=some r:=by
   cases c with
   | v i=>exact absurd ⟨i,rfl⟩ hc
   | _=>exact e1
  exact qe Ge H F σ τ r _ e1' hs λv H' F' g' rr=>en.1 v H' F' (gr.trans g') (rr.back hs.ent)
theorem qNL {n:Nat}(A:AllE call G k n) (g:XG call G k X sc N) {t:Expr}{c:C}{a b:List Stmt}{ca cb:List S}{spos:Pos}(h:cE G n sc N t=some c) (ha:qKt call X a ca) (hb:qKt call X b cb):qIS call X (.If t a b spos) [.ite c ca cb]:=by
 obtain⟨tt,pt,qt⟩:=(A.e X sc N t c g h).ht
 obtain⟨ta,pa,qa⟩:=ha
 obtain⟨tb,pb,qb⟩:=hb
 refine⟨_,qQa pt pa pb,λGe F0 H F σ τ o Dn hvv hs gr en=>?_⟩
 rw [qBj,qH5] at hvv
 obtain⟨r,e1,e2⟩:=qAb hvv
 obtain⟨x,d⟩:=r
 cases d with
 | bl bb =>
  refine qt Ge H F σ τ x bb _ e1 hs λH' F' g'=>?_
  cases bb with
  | true=>exact qPC (qa Ge F0 H' F' σ τ o Dn e2 (hs.grow g') (gr.trans g') (en.mv g'.keep))
  | false=>exact qPD (qb Ge F0 H' F' σ τ o Dn e2 (hs.grow g') (gr.trans g') (en.mv g'.keep))
 | _=>cases e2
theorem qE6 (g:XG call G k X sc N) {tg it:Expr}{t:Tg}{b:Bool}{src:En->Option (List D)}{body:List Stmt}{cb:List S}{s:S}{spos:Pos}(ht:tgM sc N tg=some t) (hi:qGI X tg it b src) (hf:∀x,foldedSetIterable it X.env x=pure x) (hb:qKt call X body cb)
  (hv:∀σ o,evS call σ s=some o->∃its,src σ=some its/\qA2 call cb t its σ=some o):qIS call X (.For tg it body [] spos) [s]:=by
 obtain⟨wi,pi,qi⟩:=hi
 obtain⟨tb,pb,qb⟩:=hb
 have pg:=qLx g ht
 refine⟨_,qN3 g.xe g.calm pi pg pb hf,λGe F0 H F σ τ o Dn hvv hs gr en=>?_⟩
 rw [qBj] at hvv
 obtain⟨its,e1,e2⟩:=hv σ o hvv
 refine qi Ge H F σ τ its _ e1 hs λJ H1 F1 g1 ok1 _=>?_
 refine⟨λi m τ' H'=>i<=its.length/\m=its.length - i/\∃F' σ',SR X.K Ge H' F' σ' τ'/\Gr Ge F0 H' F'/\Keep H1 F1 H' F'/\qA2 call cb t (its.drop i) σ'=some o,⟨its.length,Nat.zero_le _,rfl,F1,σ,hs.grow g1,gr.trans g1,Keep.refl,by simpa using e2⟩,?_⟩
 rintro i m τ' H' ⟨hi,rfl,F',σ',sr',gr',kp',ev'⟩
 obtain⟨okI,okS⟩:=ok1 H' F' kp' gr'.dom
 by_cases hlt:i<its.length
 ·refine .inr ?_
  have hdi:its[i]?=some its[i]:=List.getElem?_eq_getElem hlt
  obtain⟨go,yl⟩:=okI i _ hdi
  have hdr:its.drop i=its[i]::its.drop (i+1):=List.drop_eq_getElem_cons hlt
  rw [hdr,qBa] at ev'
  obtain⟨σ1,b1,ev'⟩:=qAb ev'
  obtain⟨o1,b2,ev'⟩:=qAb ev'
  cases o1 with
  | nx σ2 =>
   refine⟨go,fun τ2 H2=>∃F2,SR X.K Ge H2 F2 σ2 τ2/\Gr Ge F0 H2 F2/\Keep H1 F1 H2 F2,fun τ2 H2 ⟨F2,q1,q2,q3⟩=>⟨its.length - (i+1),by omega,hlt,rfl,F2,σ2,q1,q2,q3,ev'⟩,λx H3 y=>?_⟩
   obtain⟨F3,g3,rd3⟩:=yl x H3 y
   refine qCy (sr'.grow g3) b1 rd3 fun τ4 s4=>?_
   exact qb Ge F0 H3 F3 σ1 τ4 (.nx σ2) _ b2 s4 (gr'.trans g3) fun τ5 H5 F5 k5 g5 s5=>⟨F5,s5,g5,(kp'.trans g3.keep).trans k5⟩
  | rt r =>
   cases ev'
   refine⟨go,λ_ _=>False,λ_ _ z=>z.elim,λx H3 y=>?_⟩
   obtain⟨F3,g3,rd3⟩:=yl x H3 y
   refine qCy (sr'.grow g3) b1 rd3 fun τ4 s4=>?_
   exact qb Ge F0 H3 F3 σ1 τ4 (.rt r) _ b2 s4 (gr'.trans g3) en
  | ct σ2 =>
   refine⟨go,fun τ2 H2=>∃F2,SR X.K Ge H2 F2 σ2 τ2/\Gr Ge F0 H2 F2/\Keep H1 F1 H2 F2,fun τ2 H2 ⟨F2,q1,q2,q3⟩=>⟨its.length - (i+1),by omega,hlt,rfl,F2,σ2,q1,q2,q3,ev'⟩,λx H3 y=>?_⟩
   obtain⟨F3,g3,rd3⟩:=yl x H3 y
   refine qCy (sr'.grow g3) b1 rd3 fun τ4 s4=>?_
   exact qb Ge F0 H3 F3 σ1 τ4 (.ct σ2) _ b2 s4 (gr'.trans g3) fun τ5 H5 F5 k5 g5 s5=>⟨F5,s5,g5,(kp'.trans g3.keep).trans k5⟩
  | bk σ2 =>
   cases ev'
   refine⟨go,λ_ _=>False,λ_ _ z=>z.elim,λx H3 y=>?_⟩
   obtain⟨F3,g3,rd3⟩:=yl x H3 y
   refine qCy (sr'.grow g3) b1 rd3 fun τ4 s4=>?_
   exact qb Ge F0 H3 F3 σ1 τ4 (.bk σ2) _ b2 s4 (gr'.trans g3) fun τ5 H5 F5 k5 g5 s5=>en τ5 H5 F5 (((g1.keep.trans kp').trans g3.keep).trans k5) g5 s5
 ·have hin:i=its.length:=by omega
  subst hin
  rw [List.drop_of_length_le (Nat.le_refl _)] at ev'
  cases ev'
  exact .inl ⟨okS,en τ' H' F' (g1.keep.trans kp') gr' sr'⟩
end
end Dw
namespace Dw
open PySem PySem.Spec PyProof.Rows L2
section
variable {call:Nat->List D->Option R}{G:Gx}{k:Nat}
structure AllS (call:Nat->List D->Option R) (G:Gx) (k n:Nat):Prop where
 o:∀(X:Cx) (sc:Scope) (N:List Str) (mt:List Nat) (st:Stmt) (cs:List S),XG call G k X sc N->cS G n sc N mt st=some cs->qIS call X st cs
 s:∀(X:Cx) (sc:Scope) (N:List Str) (mt:List Nat) (st:List Stmt) (cs:List S),XG call G k X sc N->cSs G n sc N mt st=some cs->qKt call X st cs
theorem qLe {tg:Expr}{t:Tg}(h:tgM sc N tg=some t) (h2:qHN t=true):qEe sc N tg=some t:=by
 unfold tgM at h
 cases ht:qEe sc N tg with
 | some t'=>rw [ht] at h;exact h
 | none =>
  rw [ht] at h
  cases tg with
  | Tuple es kk pos =>
   have h:(qAU (qIX sc N) es).map Tg.many=some t:=h
   cases hx:qAU (qIX sc N) es with
   | none=>rw [hx] at h;cases h
   | some is=>rw [hx] at h;cases h;cases h2
  | _=>cases h
theorem qLn (hG:∀x∈qAu,G.defs.lookup x=none) {n:Nat}(B:AllS call G k n):AllS call G k (n+1):=by
 have A:=qDe (call:=call) (k:=k) hG n
 constructor
 ·intro X sc N mt st cs g h
  unfold cS at h
  split at h
  ·rename_i x p e pos
   split at h
   ·rename_i hx
    obtain⟨i,e1,e2⟩:=qAb h
    ·obtain⟨c,e3,e4⟩:=qAb e2
     cases e4
     exact qA0 (qLz hG g e3 hx e1)
   ·cases h
  ·rename_i x p m p2 e p3 pos
   split at h
   ·rename_i hm
    rw [Bool.and_eq_true] at hm
    obtain⟨i,e1,e2⟩:=qAb h
    obtain⟨c,e3,e4⟩:=qAb e2
    cases e4
    exact qA0 (qLN A g (by simpa using hm.1) hm.2 e1 e3)
   ·split at h
    ·rename_i hm
     rw [Bool.and_eq_true] at hm
     obtain⟨i,e1,e2⟩:=qAb h
     obtain⟨c,e3,e4⟩:=qAb e2
     cases e4
     exact qA0 (qLJ A g (by simpa using hm.1) hm.2 e1 e3)
    ·cases h
  ·rename_i t body pos
   obtain⟨c,e1,e2⟩:=qAb h
   obtain⟨cb,e3,e4⟩:=qAb e2
   cases e4
   exact qA0 (qG5 A g e1 (B.s X sc N mt body cb g e3))
  ·rename_i e pos
   obtain⟨c,e1,e2⟩:=qAb h
   cases e2
   exact qA0 (qLC hG g e1)
  ·rename_i t a b pos
   obtain⟨c,e1,e2⟩:=qAb h
   obtain⟨ca,e3,e4⟩:=qAb e2
   obtain⟨cb,e5,e6⟩:=qAb e4
   cases e6
   exact qA0 (qNL A g e1 (B.s X sc N mt a ca g e3) (B.s X sc N mt b cb g e5))
  ·rename_i tg it body pos
   obtain⟨t,e1,e2⟩:=qAb h
   obtain⟨cb,e3,e4⟩:=qAb e2
   have hb:=B.s X sc N mt body cb g e3
   have hsr:=srk (sc:=sc) it
   cases hq:qLs sc it with
   | seq s =>
    rw [hq] at e4 hsr
    obtain⟨x,q1,q2⟩:=qAb e4
    cases q2
    cases hsr
    refine qA0 (qE6 g e1 (qE4 A g q1) (qFa q1 X.env) hb fun σ o hv=>?_)
    rw [qFU] at hv
    obtain⟨r,r1,r2⟩:=qAb hv
    obtain⟨its,r3,r4⟩:=qAb r2
    exact⟨its,by simp only [r1];exact r3,r4⟩
   | rng rs =>
    rw [hq] at e4 hsr
    obtain⟨xs,q1,q2⟩:=qAb e4
    cases q2
    cases hsr with
    | rng f p as pos2 hg hf hl =>
     refine qA0 (qE6 g e1 (qE5 (p:=p) (pos:=pos2) A g hG hg hf hl q1) (λ_=>rfl) hb fun σ o hv=>?_)
     rw [qFV] at hv
     obtain⟨r,r1,r2⟩:=qAb hv
     obtain⟨its,r3,r4⟩:=qAb r2
     exact⟨its,by simp only [r1];exact r3,r4⟩
   | zip a b =>
    rw [hq] at e4 hsr
    simp only at e4
    split at e4
    ·rename_i h2
     obtain⟨x,q1,q2⟩:=qAb e4
     obtain⟨y,q3,q4⟩:=qAb q2
     cases q4
     obtain⟨es,kk,tp,rfl⟩:=qCL (qLe e1 h2) h2
     cases hsr with
     | zip f p a b pos2 hg hf =>
      refine qA0 (qE6 g e1 (qE3 (p:=p) (pos:=pos2) A g hG hg hf q1 q3) (λ_=>rfl) hb fun σ o hv=>?_)
      rw [qFT] at hv
      obtain⟨z,r1,r2⟩:=qAb hv
      obtain⟨z2,r3,r4⟩:=qAb r2
      obtain⟨xs,r5,r6⟩:=qAb r4
      obtain⟨ys,r7,r8⟩:=qAb r6
      exact⟨qCn xs ys,by simp only [r1,r3,r5,r7,Option.bind_some],r8⟩
    ·cases e4
   | enm a=>rw [hq] at e4;cases e4
   | rev rs=>rw [hq] at e4;cases e4
  ·cases h
 ·intro X sc N mt st cs g h
  unfold cSs at h
  split at h
  ·cases h;exact qLE
  ·rename_i a r
   obtain⟨x,e1,e2⟩:=qAb h
   obtain⟨y,e3,e4⟩:=qAb e2
   cases e4
   exact qJk (B.o X sc N mt a x g e1) (B.s X sc N mt r y g e3)
theorem qLm:AllS call G k 0:=by
 constructor
 ·intro X sc N mt st cs _ h;cases h
 ·intro X sc N mt st cs _ h;cases h
theorem qKY (hG:∀x∈qAu,G.defs.lookup x=none):∀n,AllS call G k n
 | 0=>qLm
 | n+1=>qLn hG (qKY hG n)
end
structure FunD (K:PySem.W.Frag) (x qual:Str) (st:Stmt) (f:Addr) (fd:FuncData):Prop where
 ex:∃(oc:Value) (od:Option Addr) (dV kV doc pm:Value) (an:Option Addr) (cdv ct:Value) (osl:Array (Option Value)),
  fd=PySem.W.fnOf x qual (qBq st) (qAv st) (qAa st) dV kV doc pm an cdv ct/\K.lookup f=some ⟨oc,od,.func fd,osl⟩/\PySem.W.codeIn K cdv qual=true
 kp:PySem.W.keepIn K (.ref f)=true
theorem qHV {K:PySem.W.Frag}{x qual:Str}{st:Stmt}{f:Addr}{fd:FuncData}(F:Fun K x qual st f fd):FunD K x qual st f fd:=by
 obtain⟨⟨oc,od,kV,doc,pm,an,cdv,ct,osl,h1,h2,h3⟩,kp⟩:=F
 exact⟨⟨oc,od,.none,kV,doc,pm,an,cdv,ct,osl,h1,h2,h3⟩,kp⟩
theorem FunD.ok {P:Program}{w:World}{K:PySem.W.Frag}{mg:Str->Option Value}{base:Heap}{x qual:Str}{st:Stmt}{f:Addr}{fd:FuncData}{N ps:List Str}{k:Nat}{sp:Sp}(F:FunD K x qual st f fd) (S:FnScope N ps (qAa st)) (len:∀vs H Q E,sp vs H Q E->vs.length=ps.length)
  (body:∀(cdv:Value) (A:Around) (outer:List Env) (s:Shared) (H:Hp) (vs:List V) (Q:VK) (E:XK),Room k (A.deeper (envOfC qual (qAa st) s.heap.objs.size f cdv))->sp vs H Q E ->
   ∃t,PSs (qIk CX0 P w K mg base N qual (qAa st) f cdv A outer s H E).nox (qAv st) t/\t { nx:=λ_ H'=>Q .non H',rt:=Q } (start N vs) H):FnOk P w K mg base CX0 (k+1) f fd ps sp:=by
 obtain⟨oc,od,dV,kV,doc,pm,an,cdv,ct,osl,rfl,lk,hcd⟩:=F.ex
 refine qMN lk hcd S len λA outer s H vs Q E hr h=>?_
 obtain⟨t,h1,h2⟩:=body cdv A outer s H vs Q E hr h
 exact⟨t,h1.nox,h2⟩
structure DefIn (K:PySem.W.Frag) (mg:Str->Option Value) (G:Gx) (tab:List Fd) (fuel:Nat) (x:Str) (i:Nat):Prop where
 ex:∃(a:Addr) (fdt:FuncData) (st:Stmt) (ps:List Str) (fd:Fd),mg x=some (.ref a)/\FunD K x x st a fdt/\Binds K fdt ps []/\FnScope (qAj (qAa st)) ps (qAa st) /\
  cSs G fuel (qAa st) (qAj (qAa st)) (qIY fuel (qAj (qAa st)) (qAv st)) (qAv st)=some fd.body/\tab[i]?=some fd/\fd.np=ps.length/\fd.ns=(qAj (qAa st)).length
structure UseIn (K:PySem.W.Frag) (mg:Str->Option Value) (G:Gx) (tab:List Fd) (fuel:Nat) (u:Uc):Prop where
 ex:∃(a:Addr) (fdt:FuncData) (st:Stmt) (ps:List Str) (fd:Fd) (g:List Value->List Value->List Value) (gV:List V->List V->List V),mg u.f=some (.ref a)/\FunD K u.f u.f st a fdt/\KBinds K fdt ps u.ks g gV/\(∀vs zs,vs.length=u.np->zs.length=u.ks.length->gV vs zs=u.pl.map (arV vs zs))/\(∀j d,Ar.dft j d∈u.pl->isK d=true) /\
  FnScope (qAj (qAa st)) ps (qAa st)/\cSs G fuel (qAa st) (qAj (qAa st)) (qIY fuel (qAj (qAa st)) (qAv st)) (qAv st)=some fd.body/\tab[u.i]?=some fd/\fd.np=ps.length/\fd.ns=(qAj (qAa st)).length
structure MthIn (K:PySem.W.Frag) (mg:Str->Option Value) (G:Gx) (tab:List Fd) (fuel:Nat) (c m:Str) (i:Nat):Prop where
 ex:∃(C fi fm:Addr) (fdi fdm:FuncData) (sti stm:Stmt) (psi psm:List Str) (qi qm:Str) (fd:Fd),mg c=some (.ref C)/\Mk K C fi/\Cls K C/\(∀f∈G.flds.map (·.1),NoAttr K C f)/\FunD K "__init__" qi sti fi fdi/\Binds K fdi psi []/\FnScope (qAj (qAa sti)) psi (qAa sti) /\
  qFd (qAa sti) (qAj (qAa sti)) 0 (G.flds.map (·.1)) (qAv sti)=true/\psi.length=(G.flds.map (·.1)).length+1/\Meth K C m fm/\FunD K m qm stm fm fdm/\Binds K fdm psm []/\FnScope (qAj (qAa stm)) psm (qAa stm) /\
  cSs G fuel (qAa stm) (qAj (qAa stm)) (qIY fuel (qAj (qAa stm)) (qAv stm)) (qAv stm)=some fd.body/\tab[i]?=some fd/\fd.np=psm.length/\fd.ns=(qAj (qAa stm)).length/\m∉G.flds.map (·.1)/\(G.flds.map (·.1)).Nodup/\(G.flds.map (·.1)).length<1000
theorem qFB {call:Nat->List D->Option R}{fd:Fd}{ds:List D}{r:R}(h:qGJ call fd ds=some r):ds.length=fd.np:=by
 unfold qGJ at h
 split at h
 ·assumption
 ·cases h
theorem qCl {tab:List Fd}{n i:Nat}{fd:Fd}{ds:List D}{r:R}(ht:tab[i]?=some fd) (h:qAi tab n i ds=some r):ds.length=fd.np:=by
 cases n with
 | zero=>cases h
 | succ n =>
  rw [qCH ht] at h
  obtain⟨r',h1,_⟩:=qAb (show (qGJ (qAi tab n) fd ds).bind noX=some r from h)
  exact qFB h1
theorem qID {tab:List Fd}{n i:Nat}{fd:Fd}{ds:List D}{r:R}(hl:tab.length<=XO) (ht:tab[i]?=some fd) (h:qAi tab n (i+XO) ds=some r):ds.length=fd.np:=by
 cases n with
 | zero=>cases h
 | succ n =>
  rw [qGe ht hl] at h
  exact qFB h
theorem XG.nox {call:Nat->List D->Option R}{G:Gx}{k:Nat}{X:Cx}{sc:Scope}{N:List Str}(g:XG call G k X sc N):XG call G k X.nox sc N:=
 ⟨g.hN,g.nd,g.vis,g.loc,g.gl,g.cap,g.calm,PassesOwn.never,g.room,λf i h=>⟨(g.defs f i h).ex⟩,g.blt,g.cons,λu h=>⟨(g.ucal u h).ex⟩,λu h=>⟨(g.meth u h).ex⟩,g.two,λc h=>⟨(g.rse c h).ex⟩,λf i h=>⟨(g.xdf f i h).ex⟩⟩
section
variable {P:Program}{w:World}{K:PySem.W.Frag}{mg:Str->Option Value}{base:Heap}{G:Gx}{tab:List Fd}{fuel:Nat}
theorem qDg:∀{b:Bool}{ds:List D}{m i:Nat}{r:R},qAg (agE b ds++List.replicate m none) i=some r->∃d,ds[i]?=some d/\r=(qMI d,d)
 | b,[],m,i,r,h=>by
  unfold qAg at h
  rw [show agE b []=[] by cases b<;>rfl,List.nil_append,List.getElem?_replicate] at h
  split at h<;>cases h
 | b,d::ds,m,i,r,h=>by
  cases i with
  | zero =>
   refine⟨d,rfl,?_⟩
   cases b<;>cases d<;>first|(cases h;rfl)|cases h
  | succ i =>
   have:∃b',qAg (agE b' ds++List.replicate m none) i=some r:=by
    cases b<;>cases d<;>first|exact⟨false,h⟩|exact⟨true,h⟩
   obtain⟨b',h'⟩:=this
   obtain⟨d',q1,q2⟩:=qDg h'
   exact⟨d',by simpa using q1,q2⟩
theorem qDf:∀{ds:List D}{m i:Nat}{d:D},qAg (agE true ds++List.replicate m none) i=some (true,d)->False
 | [],m,i,d,h=>by
  unfold qAg at h
  rw [show agE true []=[] from rfl,List.nil_append,List.getElem?_replicate] at h
  split at h<;>cases h
 | x::ds,m,i,d,h=>by
  cases i with
  | zero=>cases x<;>cases h
  | succ i=>exact qDf (ds:=ds) (m:=m) (i:=i) (d:=d) (by cases x<;>exact h)
theorem qIP:∀{ds:List D}{m i j:Nat}{d e:D},qAg (agE false ds++List.replicate m none) i=some (true,d)->qAg (agE false ds++List.replicate m none) j=some (true,e)->i=j
 | [],m,i,j,d,e,h,h'=>by
  unfold qAg at h
  rw [show agE false []=[] from rfl,List.nil_append,List.getElem?_replicate] at h
  split at h<;>cases h
 | x::ds,m,i,j,d,e,h,h'=>by
  cases hx:qMI x with
  | true =>
   cases x with
   | dct m' ks =>
    cases i with
    | zero =>
     cases j with
     | zero=>rfl
     | succ j=>exact absurd h' (λz=>qDf (ds:=ds) (m:=m) (i:=j) z)
    | succ i=>exact absurd h (λz=>qDf (ds:=ds) (m:=m) (i:=i) z)
   | obj m' ks =>
    cases i with
    | zero =>
     cases j with
     | zero=>rfl
     | succ j=>exact absurd h' (λz=>qDf (ds:=ds) (m:=m) (i:=j) z)
    | succ i=>exact absurd h (λz=>qDf (ds:=ds) (m:=m) (i:=i) z)
   | _=>cases hx
  | false =>
   have e1:agE false (x::ds)=some (false,x)::agE false ds:=by cases x<;>first|rfl|cases hx
   rw [e1] at h h'
   cases i with
   | zero=>cases h
   | succ i =>
    cases j with
    | zero=>cases h'
    | succ j=>rw [qIP (ds:=ds) (m:=m) (i:=i) (j:=j) h h']
theorem qIQ:∀(b:Bool) (ds:List D),(agE b ds).length=ds.length
 | b,[]=>by cases b<;>rfl
 | b,d::ds=>by cases b<;>cases d<;>(show (agE _ ds).length+1=_;rw [qIQ];rfl)
theorem qDE {H:Hp}{F:Fz}{ds:List D}{vs:List V}{N:List Str}{m:Nat}(tb:TB H) (dom:∀a,H a=none->¬F a) (h:RGs K H F ds vs) (hm:m=N.length - vs.length):SR K H H F (agE false ds++List.replicate m none) (L2.start N vs):=by
 have hl:=RGs.length h
 have at_:∀{i:Nat} {v:V},vs[i]?=some v->(L2.start N vs)[i]?=some (some v):=λ{i v} q1=>by
  unfold L2.start
  obtain⟨hi,_⟩:=List.getElem?_eq_some_iff.mp q1
  rw [List.getElem?_append_left (by simpa using hi),List.getElem?_map,q1]
  rfl
 refine⟨by simp [L2.start,hl,hm,qIQ],Same.refl H,dom,λi d e=>?_,λi d e hd=>?_,λi j d e h1 h2 _=>qIP h1 h2,λi m' ks e=>?_,λi ns' ds' e=>?_,tb⟩
 ·obtain⟨d',e1,e2⟩:=qDg e
  have hd:qMI d'=false:=(Prod.mk.inj e2).1.symm
  have hd2:d=d':=(Prod.mk.inj e2).2
  subst hd2
  obtain⟨v,q1,q2⟩:=RGs.get h e1
  refine⟨v,at_ q1,q2.elim (λz=>z) λz=>z.elim (λ⟨a,ks,z,_⟩=>?_) λ⟨ns',ds',z,_⟩=>?_⟩
  ·subst z
   cases hd
  ·subst z
   cases hd
 ·obtain⟨d',e1,e2⟩:=qDg e
  have hd1:true=qMI d':=(Prod.mk.inj e2).1
  have hd2:d=d':=(Prod.mk.inj e2).2
  subst hd2
  rw [hd] at hd1
  cases hd1
 ·obtain⟨d',e1,e2⟩:=qDg e
  have hd2:D.dct m' ks=d':=(Prod.mk.inj e2).2
  subst hd2
  obtain⟨v,q1,q2⟩:=RGs.get h e1
  rcases q2 with z|⟨a,ks',z1,z2,z3,z4⟩|⟨ns',ds',z1,z2⟩
  ·exact False.elim z
  ·cases z1
   subst z2
   exact⟨a,at_ q1,z3,z4,λz=>nomatch z⟩
  ·cases z1
 ·obtain⟨d',e1,e2⟩:=qDg e
  have hd2:D.obj ns' ds'=d':=(Prod.mk.inj e2).2
  subst hd2
  obtain⟨v,q1,q2⟩:=RGs.get h e1
  rcases q2 with z|⟨a,ks',z1,z2,z3,z4⟩|⟨ns2,ds2,z1,z2⟩
  ·exact False.elim z
  ·cases z1
  ·cases z1
   exact⟨v,at_ q1,z2⟩
theorem qH0 {a:Addr}{fdt:FuncData}{ps:List Str}{i:Nat}:FnOk P w K mg base CX0 2 a fdt ps (spD K ps.length (qAi tab 0 i)):=
 ⟨λ_ _ _ _ h=>h.1,λA outer s H args us vs Q E _ _ _ _ h=>by obtain⟨_,_,F,ds,r,_,_,z,_⟩:=h;cases z⟩
theorem qML {fi:Addr}{fdi:FuncData}{sti:Stmt}{psi:List Str}{qi:Str}{ns:List Str}(hbl:∀x∈qAu,mg x=none) (Fn:FunD K "__init__" qi sti fi fdi) (Sc:FnScope (qAj (qAa sti)) psi (qAa sti)) (hi:qFd (qAa sti) (qAj (qAa sti)) 0 ns (qAv sti)=true) (hl:psi.length=ns.length+1) (hz:ns.length<1000) :
  FnOk P w K mg base CX0 1 fi fdi psi (spI K ns):=by
 refine Fn.ok (k:=0) Sc (λvs H Q E h=>?_) (λcdv A outer s H vs Q E hr h=>?_)
 ·obtain⟨x,C,dx,ws,rfl,h1,_⟩:=h
  rw [hl,List.length_cons,h1]
 ·obtain⟨x,C,dx,ws,rfl,h1,h2,h3,h4,hq⟩:=h
  have g:XG (λ_ _=>none) ⟨[],[],[],[],[],[],[]⟩ 0 (qIk CX0 P w K mg base (qAj (qAa sti)) qi (qAa sti) fi cdv A outer s H E).nox (qAa sti) (qAj (qAa sti)):=by
   refine⟨rfl,Sc.nd,λy h=>?_,λy h=>?_,λy h=>?_,λy h=>?_,rfl,PassesOwn.never,hr,λy j h=>(nomatch h),λy _ h=>?_,λy i h=>(nomatch h),λu hm=>(nomatch hm),λu hm=>(nomatch hm),λz=>absurd rfl z,λc h=>(nomatch h),λy i h=>(nomatch h)⟩
   ·unfold qKw at h
    simp only [Bool.or_eq_true,beq_iff_eq] at h
    rcases h with (h|h)|h
    ·exact .inl h
    ·exact .inr (.inl h)
    ·exact .inr (.inr h)
   ·simp only [Bool.or_eq_true,beq_iff_eq] at h
    exact⟨h,.inl rfl⟩
   ·unfold glB at h
    rw [beq_iff_eq] at h
    exact h
   ·unfold qKS at h
    simp only [Bool.or_eq_true,beq_iff_eq] at h
    exact h
   ·exact hbl y h
  obtain⟨t,pt,qt⟩:=qEz g ns 0 (qAv sti) hi
  refine⟨t,pt,qt _ H x C dx [] ws _ rfl (λi w hw=>?_) h1 h2 h3 h4 (by simpa using hz) hq⟩
  obtain⟨hlt,_⟩:=List.getElem?_eq_some_iff.mp hw
  unfold L2.start
  rw [List.getElem?_append_left (by simp;omega),List.getElem?_map,show 0+1+i=i+1 by omega,List.getElem?_cons_succ,hw]
  rfl
theorem qHM {α:Type}{c:Prop} [Decidable c] {x:Option α}{y:α}(h:(if c then x else none)=some y):c/\x=some y:=by
 split at h
 ·exact⟨‹_›,h⟩
 ·cases h
structure SrtB (sc:Scope) (N:List Str) (qual:Str) (Pt:Addr) (body:List Stmt) (b:List S):Prop where
 ex:∃(n:Nat) (e r:Expr) (ce cr:C) (la:Arguments) (p p2 pos2 kpos pos lp rpos:Pos) (y:Str) (sc':Scope) (ks:List Nat),body=[.Return (some (.Call (.Name "sorted" p) [.Call (.Name "range" p2) [r] [] pos2] [⟨some (Str.ofString "key"),.Lambda la e sc' lp,kpos⟩] pos)) rpos]/\b=[.ret (.srtR ce 1 ks [cr])] /\
  glB sc "sorted"=true/\glB sc "range"=true/\qCQ sc'=true/\sc'.isCoroutine=false/\sc'.isGenerator=false/\qA1 sc'=[y]/\(∀env,defaultsOf la env=([],[])) /\
  (∀(q:Str) (clos:List (Str×Addr)) (pm:Value) (c:Addr) (ctv uv:Value),bindArgs (PySem.W.kla_fn "<lambda>" q la e sc' clos pm (.ref c) ctv) ⟨[uv],[]⟩=pure [(y,uv)]) /\
  qAU (qCk sc N) (qAD sc')=some ks/\cE G0 n sc' (qA1 sc'++qAD sc') e=some ce/\cE G0 n sc N r=some cr/\(Pt,lp,(qual++".<locals>.")++"<lambda>")∈tbs
noncomputable def qQP (y0:Str) (n:Nat) (sc:Scope) (N:List Str) (q:Str) (Pt:Addr):List Stmt->Option (List S)
 | [.Return (some (.Call (.Name f _) [.Call (.Name g _) [r] [] _] [⟨some kn,.Lambda ⟨[],[⟨y,none,_⟩],none,[],[],none,[]⟩ e sc' lp,_⟩] _)) _] =>
  if y=y0/\f=Str.ofString "sorted"/\g=Str.ofString "range"/\kn=Str.ofString "key"/\glB sc "sorted"=true/\glB sc "range"=true/\qCQ sc'=true/\sc'.isCoroutine=false/\sc'.isGenerator=false/\qA1 sc'=[y]/\(Pt,lp,(q++".<locals>.")++"<lambda>")∈tbs then
   (qAU (qCk sc N) (qAD sc')).bind λks=>(cE G0 n sc' (qA1 sc'++qAD sc') e).bind λce=>(cE G0 n sc N r).bind λcr=>some [.ret (.srtR ce 1 ks [cr])]
  else none
 | _=>none
theorem qLr {y:Str}{n:Nat}{sc:Scope}{N:List Str}{q:Str}{Pt:Addr}{body:List Stmt}{b:List S}(hb:∀(ap:Pos) (e:Expr) (sc':Scope) (q:Str) (clos:List (Str×Addr)) (pm:Value) (c:Addr) (ctv uv:Value),bindArgs (PySem.W.kla_fn "<lambda>" q ⟨[],[⟨y,none,ap⟩],none,[],[],none,[]⟩ e sc' clos pm (.ref c) ctv) ⟨[uv],[]⟩=pure [(y,uv)]) (h:qQP y n sc N q Pt body=some b):SrtB sc N q Pt body b:=by
 unfold qQP at h
 split at h
 ·obtain⟨hc,h1⟩:=qHM h
  clear h
  obtain⟨rfl,rfl,rfl,rfl,h4,h5,h6,h7,h8,h9,h10⟩:=hc
  obtain⟨ks,e1,h2⟩:=qAb h1
  obtain⟨ce,e2,h3⟩:=qAb h2
  obtain⟨cr,e3,h11⟩:=qAb h3
  cases h11
  exact⟨⟨n,_,_,ce,cr,_,_,_,_,_,_,_,_,_,_,ks,rfl,rfl,h4,h5,h6,h7,h8,h9,λ_=>rfl,λ_ _ _ _ _ _=>hb _ _ _ _ _ _ _ _ _,e1,e2,e3,h10⟩⟩
 ·cases h
noncomputable def qRd (K:PySem.W.Frag) (mg:Str->Option Value) (Pt:Addr):Prop:=∃bm o,mg "__builtins__"=some (.ref bm)/\bm≠builtinsNs/\bm≠mainGlobals/\bm≠Pt/\K.lookup bm=some o/\o.cls=.type "module"/\o.dict=some builtinsNs/\o.data=.plain
structure SrtIn (K:PySem.W.Frag) (mg:Str->Option Value) (tab:List Fd) (x:Str) (i:Nat):Prop where
 ex:∃(a c Pt:Addr) (st:Stmt) (ps:List Str) (fd:Fd) (oc dV kV doc pm ct:Value) (od an:Option Addr) (osl:Array (Option Value)),mg x=some (.ref a)/\PySem.W.keepIn K (.ref a)=true /\
  K.lookup a=some ⟨oc,od,.func (PySem.W.fnOf x x (qBq st) (qAv st) (qAa st) dV kV doc pm an (.ref c) ct),osl⟩/\Binds K (PySem.W.fnOf x x (qBq st) (qAv st) (qAa st) dV kV doc pm an (.ref c) ct) ps []/\PySem.W.codeIn K (.ref c) x=true/\PySem.W.codeHdIn K c Pt=true/\qRd K mg Pt /\
  FnScope (qAj (qAa st)) ps (qAa st)/\SrtB (qAa st) (qAj (qAa st)) x Pt (qAv st) fd.body/\tab[i]?=some fd/\fd.np=ps.length/\fd.ns=(qAj (qAa st)).length
theorem qNH {x qual:Str}{st:Stmt}{a c Pt:Addr}{oc dV kV doc pm ct:Value}{od an:Option Addr}{osl:Array (Option Value)}{ps:List Str}{fd:Fd}{i:Nat}(hbl:∀x∈qAu,mg x=none) (kb:K.In base)
  (lk:K.lookup a=some ⟨oc,od,.func (PySem.W.fnOf x qual (qBq st) (qAv st) (qAa st) dV kV doc pm an (.ref c) ct),osl⟩) (hcd:PySem.W.codeIn K (.ref c) qual=true) (hch:PySem.W.codeHdIn K c Pt=true) (hbm:qRd K mg Pt)
  (Sc:FnScope (qAj (qAa st)) ps (qAa st)) (B:SrtB (qAa st) (qAj (qAa st)) qual Pt (qAv st) fd.body) (ht:tab[i]?=some fd) (hp:fd.np=ps.length) (hn:fd.ns=(qAj (qAa st)).length) :
  ∀n,FnOk P w K mg base CX0 (n+2) a (PySem.W.fnOf x qual (qBq st) (qAv st) (qAa st) dV kV doc pm an (.ref c) ct) ps (spD K ps.length (qAi tab n i))
 | 0=>qH0
 | n+1=>by
  refine qMN lk hcd Sc (λvs H Q E h=>h.1) (λA outer s H vs Q E hr h=>?_)
  obtain⟨hvl,htb,F,ds,r,dom,rds,hcall,hq⟩:=h
  rw [qCH ht] at hcall
  obtain⟨r0,hcl,hnx⟩:=qAb (show (qGJ (qAi tab n) fd ds).bind noX=some r from hcall)
  have hr0:r0=r:=by
   unfold noX at hnx
   split at hnx
   ·cases hnx
   ·exact Option.some.inj hnx
  subst hr0
  clear hcall
  have hcall:=hcl
  clear hcl
  unfold qGJ at hcall
  split at hcall
  ·rename_i hal
   obtain⟨o,e1,e2⟩:=qAb hcall
   have g:XG (qAi tab n) G0 (n+2) (qIk CX0 P w K mg base (qAj (qAa st)) qual (qAa st) a (.ref c) A outer s H E).nox (qAa st) (qAj (qAa st)):=by
    refine⟨rfl,Sc.nd,λy h=>?_,λy h=>?_,λy h=>?_,λy h=>?_,rfl,PassesOwn.never,hr,λy j h=>(nomatch h),λy _ h=>hbl y h,λy i h=>(nomatch h),λu hm=>(nomatch hm),λu hm=>(nomatch hm),λz=>absurd rfl z,λc h=>(nomatch h),λy i h=>(nomatch h)⟩
    ·unfold qKw at h
     simp only [Bool.or_eq_true,beq_iff_eq] at h
     rcases h with (h|h)|h
     ·exact .inl h
     ·exact .inr (.inl h)
     ·exact .inr (.inr h)
    ·simp only [Bool.or_eq_true,beq_iff_eq] at h
     exact⟨h,.inl rfl⟩
    ·unfold glB at h
     rw [beq_iff_eq] at h
     exact h
    ·unfold qKS at h
     simp only [Bool.or_eq_true,beq_iff_eq] at h
     exact h
   obtain⟨m,e,rr,ce,cr,la,p,p2,pos2,kpos,pos,lp,rpos,y,sc',ks,b1,b2,b3,b4,b5,b6,b7,b8,b9,b10,b11,b12,b13,b14⟩:=B.ex
   obtain⟨bm,bo,m1,m2,m3,m4,m5,m6,m7,m8⟩:=hbm
   obtain⟨te,pe,qe⟩:=qLy (k:=n+1) (p:=p) (p2:=p2) (pos2:=pos2) (kpos:=kpos) (pos:=pos) g b3 b4 (qDH b5) b6 b7 b8 (b9 _) b10 b11 b12 b13 rfl (PySem.W.codeHd_of_K kb hch) ⟨bm,bo,m1,m2,m3,m4,kb _ _ m5,m6,m7,m8⟩ b14
   rw [b1]
   rw [b2] at e1
   rw [qBj,qDY] at e1
   obtain⟨r',e3,e4⟩:=qAb e1
   cases e4
   cases e2
   exact⟨_,(qLY (qHo pe)).nox,qe H H F _ _ _ _ e3 (qDE (m:=fd.ns - fd.np) htb dom rds (by rw [hp,hn,hvl])) λv H' F' g' rr=>hq v H' F' g' rr⟩
  ·cases hcall
noncomputable def qIV (K:PySem.W.Frag) (mg:Str->Option Value) (G:Gx) (tab:List Fd) (st:Stmt) (b:List S):Prop:=∀(n:Nat) (X:Cx),X.K=K->X.mg=mg->(X.stack=X.env::X.outer/\X.env.frame=some X.env.locals)->X.ex=[]->X.env.scope=qAa st ->
 XG (qAi tab n) G (n+2) X (qAa st) (qAj (qAa st))->qKt (qAi tab n) X (qAv st) b
structure SpIn (K:PySem.W.Frag) (mg:Str->Option Value) (G:Gx) (tab:List Fd) (x:Str) (i:Nat):Prop where
 ex:∃(a:Addr) (fdt:FuncData) (st:Stmt) (ps:List Str) (fd:Fd),mg x=some (.ref a)/\FunD K x x st a fdt/\Binds K fdt ps []/\FnScope (qAj (qAa st)) ps (qAa st)/\qIV K mg G tab st fd.body/\tab[i]?=some fd/\fd.np=ps.length/\fd.ns=(qAj (qAa st)).length
theorem qD8 (hG:∀x∈qAu,G.defs.lookup x=none) {st:Stmt}{b:List S}(h:cSs G fuel (qAa st) (qAj (qAa st)) (qIY fuel (qAj (qAa st)) (qAv st)) (qAv st)=some b):qIV K mg G tab st b:=
 λn X _ _ _ _ _ g=>(qKY (call:=qAi tab n) (k:=n+2) hG fuel).s _ _ _ _ _ _ g h
theorem DefIn.sp {x:Str}{i:Nat}(hG:∀x∈qAu,G.defs.lookup x=none) (d:DefIn K mg G tab fuel x i):SpIn K mg G tab x i:=by
 obtain⟨a,fdt,st,ps,fd,q1,q2,q3,q4,q5,q6,q7,q8⟩:=d.ex
 exact⟨a,fdt,st,ps,fd,q1,q2,q3,q4,qD8 hG q5,q6,q7,q8⟩
theorem FunD.okX {CX:CXT}{x qual:Str}{st:Stmt}{f:Addr}{fd:FuncData}{N ps:List Str}{k:Nat}{sp:Sp}(F:FunD K x qual st f fd) (S:FnScope N ps (qAa st)) (len:∀vs H Q E,sp vs H Q E->vs.length=ps.length)
  (body:∀(cdv:Value) (A:Around) (outer:List Env) (s:Shared) (H:Hp) (vs:List V) (Q:VK) (E:XK),Room k (A.deeper (envOfC qual (qAa st) s.heap.objs.size f cdv))->sp vs H Q E ->
   ∃t,PSs (qIk CX P w K mg base N qual (qAa st) f cdv A outer s H E) (qAv st) t/\t { nx:=λ_ H'=>Q .non H',rt:=Q } (start N vs) H):FnOk P w K mg base CX (k+1) f fd ps sp:=by
 obtain⟨oc,od,dV,kV,doc,pm,an,cdv,ct,osl,rfl,lk,hcd⟩:=F.ex
 exact qMN lk hcd S len λA outer s H vs Q E hr h=>body cdv A outer s H vs Q E hr h
theorem fns (hG:∀x∈qAu,G.defs.lookup x=none) (hb:∀x∈qAu,mg x=none) (hc:∀x i,G.cons.lookup x=some i->∃t,mg x=some (.int i t)) (kb:K.In base) (hd:∀x i,G.defs.lookup x=some i->SpIn K mg G tab x i∨SrtIn K mg tab x i) (hu:∀u∈G.ucal,UseIn K mg G tab fuel u) (hmt:∀u∈G.meth,MthIn K mg G tab fuel u.1 u.2.1 u.2.2)
  (hX:tab.length<=XO) (hrs:∀c∈G.rse,∃(C:Addr) (B nid iid:String) (bm:List Value),ExcBaseFacts B nid iid bm/\OwnCls c C bm nid mg base) (hxd:∀x i,G.xdf.lookup x=some i->SpIn K mg G tab x i):∀(n:Nat) (x qn:Str) (i:Nat) (a:Addr) (fdt:FuncData) (st:Stmt) (ps:List Str) (fd:Fd),FunD K x qn st a fdt ->
  FnScope (qAj (qAa st)) ps (qAa st)->qIV K mg G tab st fd.body->tab[i]?=some fd->fd.np=ps.length->fd.ns=(qAj (qAa st)).length ->
  FnOk P w K mg base CX0 (n+2) a fdt ps (spD K ps.length (qAi tab n i))/\FnOk P w K mg base (CXr P w) (n+2) a fdt ps (spX K mg ps.length (qAi tab n (i+XO)))
 | 0,x,qn,i,a,fdt,st,ps,fd,_,_,_,_,_,_=>⟨qH0,⟨λ_ _ _ _ h=>h.1,λA outer s H args us vs Q E _ _ _ _ h=>by obtain⟨_,_,F,ds,r,_,_,z,_⟩:=h;cases z⟩⟩
 | n+1,x,qn,i,a,fdt,st,ps,fd,Fn,Sc,hcs,ht,hp,hn=>by
  have gX:∀(CX:CXT) (cdv:Value) (A:Around) (outer:List Env) (s:Shared) (H:Hp) (E:XK),Room (n+2) (A.deeper (envOfC qn (qAa st) s.heap.objs.size a cdv))->XG (qAi tab n) G (n+2) (qIk CX P w K mg base (qAj (qAa st)) qn (qAa st) a cdv A outer s H E) (qAa st) (qAj (qAa st)):=by
   intro CX cdv A outer s H E hr
   refine⟨rfl,Sc.nd,λy h=>?_,λy h=>?_,λy h=>?_,λy h=>?_,rfl,PassesOwn.leaving,hr,λy j h=>?_,λy _ h=>hb y h,hc,λu hm=>?_,λu hm=>?_,λ_=>Nat.le_add_left 2 n,λc h=>⟨hrs c h⟩,λy j h=>?_⟩
   ·unfold qKw at h
    simp only [Bool.or_eq_true,beq_iff_eq] at h
    rcases h with (h|h)|h
    ·exact .inl h
    ·exact .inr (.inl h)
    ·exact .inr (.inr h)
   ·simp only [Bool.or_eq_true,beq_iff_eq] at h
    exact⟨h,.inl rfl⟩
   ·unfold glB at h
    rw [beq_iff_eq] at h
    exact h
   ·unfold qKS at h
    simp only [Bool.or_eq_true,beq_iff_eq] at h
    exact h
   ·rcases hd y j h with hd1|hd1
    ·obtain⟨a2,fdt2,st2,ps2,fd2,q1,q2,q3,q4,q5,q6,q7,q8⟩:=hd1.ex
     exact⟨a2,fdt2,ps2,q1,q2.kp,q3,(fns hG hb hc kb hd hu hmt hX hrs hxd n y y j a2 fdt2 st2 ps2 fd2 q2 q4 q5 q6 q7 q8).1,λds r hr=>(qCl q6 hr).trans q7⟩
    ·obtain⟨a2,c2,Pt,st2,ps2,fd2,oc,dV,kV,doc,pm,ct,od,an,osl,q1,q2,q3,q3b,q4,q5,q6,q7,q8,q9,q10,q11⟩:=hd1.ex
     exact⟨a2,_,ps2,q1,q2,q3b,qNH hb kb q3 q4 q5 q6 q7 q8 q9 q10 q11 n,λds r hr=>(qCl q9 hr).trans q10⟩
   ·obtain⟨a2,fdt2,st2,ps2,fd2,g2,gV2,q1,q2,q3,q3b,q3c,q4,q5,q6,q7,q8⟩:=(hu u hm).ex
    exact⟨a2,fdt2,ps2,g2,gV2,q1,q2.kp,q3,q3b,q3c,(fns hG hb hc kb hd hu hmt hX hrs hxd n u.f u.f u.i a2 fdt2 st2 ps2 fd2 q2 q4 (qD8 hG q5) q6 q7 q8).1,λds r hr=>(qCl q6 hr).trans q7⟩
   ·obtain⟨C,fi,fm,fdi,fdm,sti,stm,psi,psm,qi,qm,fd2,q1,q2,q3,q4,q5,q6,q7,q8,q9,q10,q11,q12,q13,q14,q15,q16,q17,q18,q19,q20⟩:=(hmt u hm).ex
    exact⟨C,fi,fm,fdi,fdm,psi,psm,q1,q2,q3,q4,q6,qML hb q5 q7 q8 q9 q20,q10,q12,(fns hG hb hc kb hd hu hmt hX hrs hxd n u.2.1 qm u.2.2 fm fdm stm psm fd2 q11 q13 (qD8 hG q14) q15 q16 q17).1,λds r hr=>(qCl q15 hr).trans q16,q18,q19⟩
   ·obtain⟨a2,fdt2,st2,ps2,fd2,q1,q2,q3,q4,q5,q6,q7,q8⟩:=(hxd y j h).ex
    exact⟨a2,fdt2,ps2,q1,q2.kp,q3,(fns hG hb hc kb hd hu hmt hX hrs hxd n y y j a2 fdt2 st2 ps2 fd2 q2 q4 q5 q6 q7 q8).2,λds r hr=>(qID hX q6 hr).trans q7⟩
  refine⟨Fn.ok Sc (λvs H Q E h=>h.1) (λcdv A outer s H vs Q E hr h=>?_),Fn.okX Sc (λvs H Q E h=>h.1) (λcdv A outer s H vs Q E hr h=>?_)⟩
  ·obtain⟨hvl,htb,F,ds,r,dom,rds,hcall,hq⟩:=h
   rw [qCH ht] at hcall
   obtain⟨r0,hcall,hnx⟩:=qAb (show (qGJ (qAi tab n) fd ds).bind noX=some r from hcall)
   unfold noX at hnx
   split at hnx
   ·cases hnx
   ·rename_i hx
    cases hnx
    unfold qGJ at hcall
    split at hcall
    ·rename_i hal
     obtain⟨o,e1,e2⟩:=qAb hcall
     obtain⟨t,pt,qt⟩:=hcs n _ rfl rfl ⟨rfl,rfl⟩ rfl rfl (gX CX0 cdv A outer s H E hr).nox
     refine⟨t,pt,qt H F H F _ _ o _ e1 (qDE htb dom rds (by rw [hp,hn,hvl])) (Gr.refl dom) ?_⟩
     cases o with
     | nx σ' =>
      cases e2
      exact fun τ' H' F' _ g' _=>hq .non H' F' g' rfl
     | rt r' =>
      cases e2
      exact⟨λv H' F' g' rr=>hq v H' F' g' rr,λc e=>by subst e;exact absurd rfl hx⟩
     | bk _=>cases e2
     | ct _=>cases e2
    ·cases hcall
  ·obtain⟨hvl,htb,F,ds,r,dom,rds,hcall,hq,hqx⟩:=h
   rw [qGe ht hX] at hcall
   unfold qGJ at hcall
   split at hcall
   ·rename_i hal
    obtain⟨o,e1,e2⟩:=qAb hcall
    obtain⟨t,pt,qt⟩:=hcs n _ rfl rfl ⟨rfl,rfl⟩ rfl rfl (gX (CXr P w) cdv A outer s H E hr)
    refine⟨t,pt,qt H F H F _ _ o _ e1 (qDE htb dom rds (by rw [hp,hn,hvl])) (Gr.refl dom) ?_⟩
    cases o with
    | nx σ' =>
     cases e2
     exact fun τ' H' F' _ g' _=>hq .non H' F' g' rfl
    | rt r' =>
     cases e2
     exact⟨λv H' F' g' rr=>hq v H' F' g' rr,λc e H' F' g'=>qK4 λC hC=>hqx c e H' F' g' C hC⟩
    | bk _=>cases e2
    | ct _=>cases e2
   ·cases hcall
theorem qOC {n i:Nat}(h:∀ns:List Int,ns.length<=63->(∀i∈ns,2 * i.natAbs<qJX)->qAi tab n i [.lst (ns.map .int)]=some (false,.bl true)) (H:Hp) (tb:TB H) (a:Addr) (ns:List Int) (hl:ns.length<=63) (hw:∀i∈ns,2 * i.natAbs<qJX) (hS:SqL K H a (ns.map V.int)) (E:XK):spD K 1 (qAi tab n i) [.ref a] H (λv H'=>v=.bl true/\TB H') E:=by
 rcases hS with hS|hS
 ·refine⟨rfl,tb,λb=>b=a,[.lst (ns.map .int)],(false,.bl true),λb e z=>?_,⟨.ref a,[],rfl,.inl ⟨a,ns.map V.int,rfl,.inl ⟨rfl,hS⟩,RDs.of_ints ns⟩,rfl⟩,h ns hl hw,λv H' F' g rr=>⟨rr,tb.same g.same⟩⟩
  subst z
  rcases hS with q|⟨o,q⟩<;>(rw [e] at q;cases q)
 ·exact⟨rfl,tb,λ_=>False,[.lst (ns.map .int)],(false,.bl true),λ_ _ z=>z,⟨.ref a,[],rfl,.inl ⟨a,ns.map V.int,rfl,.inr hS,RDs.of_ints ns⟩,rfl⟩,h ns hl hw,λv H' F' g rr=>⟨rr,tb.same g.same⟩⟩
end
noncomputable def qNd (b:Addr):Option HO:=(tbs.find? λt=>t.1 == b).map λt=>.tab t.2.1 t.2.2
theorem qEg {b:Addr}{u:HO}(h:qNd b=some u):∃t∈tbs,t.1=b/\u=.tab t.2.1 t.2.2:=by
 obtain⟨t,e1,e2⟩:=Option.map_eq_some_iff.mp h
 exact⟨t,List.mem_of_find?_eq_some e1,by simpa using List.find?_some e1,e2.symm⟩
theorem qHI {P:Program}{w:World}{K:PySem.W.Frag}{mg mb:Str->Option Value}{k:Nat}{fa a:Addr}{fd:FuncData}{x:Str}{sp:Sp}{s₁:Shared}{vs:List Value}{ns:List Int}
  (KX:K.In s₁.heap) (hns:s₁.heap.Ns mainGlobals mg) (hb:s₁.heap.Ns builtinsNs mb) (hbb:∀x:Str,x≠"__name__"->mb x=bootBuiltins x) (hlim:s₁.heap.NoLimit) (hg:s₁.gens=#[])
  (ha:s₁.heap.get? a=some { cls:=.type "list",data:=.seq vs.toArray }) (hi:IntsAre vs ns) (hl:ns.length<=sizeLine) (hr:Room k callerA)
  (htb:TB qNd) (hto:∀t∈tbs,s₁.heap.get? t.1=some (PySem.W.tabObj #[])/\isCodeTable s₁.heap t.1/\K.lookup t.1=none)
  (F:∀base:Heap,K.In base->base.Ns mainGlobals mg->FnOk P w K mg base CX0 k fa fd [x] sp) (hbind:∀(s:Shared) (u:Value),BindsTo s fd ⟨[u],[]⟩ [(x,u)])
  (hsp:∀H:Hp,TB H->SqL K H a (ns.map V.int)->sp [.ref a] H (λv H'=>v=.bl true/\TB H') λ_ _ _=>False) :
  codeAny (model P w) callerA (.call (.ref fa) ⟨[.ref a],[]⟩) (λr s'=>r=.ok (.ret (.bool true))/\OldK s₁.heap s'.heap/\s'.os=s₁.os/\AllBare s'.gens) s₁:=by
 have rv:=qCJ hi
 have nt:qNd a=none:=by
  cases q:qNd a with
  | none=>rfl
  | some u =>
   obtain⟨t,hm,rfl,_⟩:=qEg q
   rw [(hto t hm).1] at ha
   cases ha
 let o0:Obj:={ cls:=.type "list",data:=.seq vs.toArray }
 let H:Hp:=λb=>if b=a/\K.lookup a=none then some (.frz o0 (.lst (ns.map V.int))) else qNd b
 have cs:∀b u,H b=some u->(b=a/\K.lookup a=none/\u=.frz o0 (.lst (ns.map V.int)))∨∃t∈tbs,t.1=b/\u=.tab t.2.1 t.2.2:=λb u e=>by
  by_cases z:b=a/\K.lookup a=none
  ·have e':=(if_pos z).symm.trans e
   cases e'
   exact .inl ⟨z.1,z.2,rfl⟩
  ·exact .inr (qEg ((if_neg z).symm.trans e))
 have tb:TB H:=λt hm=>by
  have:¬(t.1=a/\K.lookup a=none):=λz=>by have:=htb t hm;rw [z.1,nt] at this;cases this
  exact (if_neg this).trans (htb t hm)
 have hok:HOk P w H s₁.heap:=λb u e=>by
  rcases cs b u e with ⟨rfl,_,rfl⟩|⟨t,hm,rfl,rfl⟩
  ·exact⟨ha,by rw [List.length_map];exact hl,vs,_,rv,ha⟩
  ·exact⟨#[],(hto t hm).1,trivial,.inl rfl⟩
 have nsK:∀{b:Addr} {m:Str->Option Value},s₁.heap.Ns b m->(qKL s₁.heap H).Ns b m:=λ{b m} ⟨o,es,ep,e,d,r⟩=>⟨o,es,ep,qFR e (by
  cases q:H b with
  | none=>rfl
  | some u =>
   rcases cs b u q with ⟨rfl,_,_⟩|⟨t,hm,rfl,_⟩
   ·rw [ha] at e;cases e;cases d
   ·rw [(hto t hm).1] at e;cases e;cases d),d,r⟩
 have hKb:K.In (qKL s₁.heap H):=λb o e=>qFR (KX b o e) (by
  cases q:H b with
  | none=>rfl
  | some u =>
   rcases cs b u q with ⟨rfl,z,_⟩|⟨t,hm,rfl,_⟩
   ·rw [z] at e;cases e
   ·rw [(hto t hm).2.2] at e;cases e)
 have hS:SqL K H a (ns.map V.int):=by
  cases hk:K.lookup a with
  | none=>exact .inl (.inr ⟨o0,if_pos ⟨rfl,hk⟩⟩)
  | some o =>
   have e:=KX a o hk
   rw [ha] at e
   cases e
   exact .inr ⟨_,vs.toArray,_,hk,rfl,rfl,rfl,by rw [List.size_toArray,hi.length];exact hl,by simpa using rv⟩
 have hM:Mod K mg (qKL s₁.heap H):=⟨hKb,nsK hns,⟨mb,nsK hb,hbb⟩,let ⟨mc,h1,h2⟩:=hlim;⟨mc,nsK h1,h2⟩⟩
 have e0:Env0 P w K mg (qKL s₁.heap H) callerA [] s₁ H:=⟨rfl,hM,λb o e=>qMl e,Nat.le_of_eq (qHS _ _),trivial,λb hb=>absurd (show b∈([]:List Addr) from hb) (by simp),hok,.of_eq hg⟩
 refine codeAny_mono ((F _ hKb (nsK hns)).run callerA [] s₁ H ⟨[.ref a],[]⟩ [.ref a] [.ref a] _ _ hr e0 (hbind s₁ (.ref a)) (.cons rfl .nil) (hsp H tb hS)) λr s' h=>?_
 cases r with
 | error e=>exact False.elim h
 | ok fl =>
  cases fl with
  | next=>exact False.elim h
  | brk=>exact False.elim h
  | cont=>exact False.elim h
  | ret u =>
   obtain⟨v,H',os,bare,un,hok',r',rfl,tb'⟩:=h
   obtain rfl:u=Value.bool true:=r'
   have old:∀b o,s₁.heap.get? b=some o->asItWas s₁.heap s'.heap b o/\∃o',s'.heap.get? b=some o':=λb o e=>by
    cases q:H b with
    | none =>
     have:=un.keep b o e q (by intro z;exact absurd (show b∈([]:List Addr) from z) (by simp)) (by simp)
     exact⟨.inl this,_,this⟩
    | some u =>
     rcases cs b u q with ⟨rfl,_,rfl⟩|⟨t,hm,rfl,rfl⟩
     ·have z2:=un.frzs b _ _ q
      obtain⟨e1,_⟩:=hok b _ q
      obtain⟨e2,_⟩:=hok' b _ z2
      rw [e] at e1
      cases e1
      exact⟨.inl e2,_,e2⟩
     ·obtain⟨e1,e2,_⟩:=hto t hm
      rw [e] at e1
      cases e1
      obtain⟨ps,e3,_⟩:=hok' t.1 _ (tb' t hm)
      exact⟨.inr (.inl ⟨e2,rfl,#[],ps,rfl,by rw [e3];simp⟩),_,e3⟩
   exact⟨rfl,⟨λb o e=>(old b o e).1,λb o e=>(old b o e).2⟩,os,bare⟩
theorem qKv:∀(ns:List Int) (i:Int),i∈ns->PySem.W.WData.weight (.int i)+1<=PySem.W.WData.weightAll (ns.map PySem.W.WData.int)
 | [],i,h=>nomatch h
 | n::ns,i,h=>by
  rw [List.map_cons,PySem.W.WData.weightAll]
  rcases List.mem_cons.mp h with rfl|h
  ·omega
  ·have:=qKv ns i h
   omega
theorem qJT {ns:List Int}(h:PySem.W.WData.layableAll [.list (ns.map PySem.W.WData.int)]=true) (i:Int) (hi:i∈ns):2 * i.natAbs<qJX:=by
 unfold PySem.W.WData.layableAll at h
 rw [List.all_cons,Bool.and_eq_true] at h
 have h1:=h.1
 unfold PySem.W.WData.layable at h1
 rw [Bool.and_eq_true] at h1
 have h2:PySem.W.WData.weight (.list (ns.map PySem.W.WData.int))<=2^20:=of_decide_eq_true h1.2
 rw [PySem.W.WData.weight] at h2
 have h3:=qKv ns i hi
 rw [PySem.W.WData.weight] at h3
 by_cases hz:i=0
 ·subst hz
  exact Nat.pow_pos (by decide)
 ·rw [if_neg (by simpa using hz)] at h3
  have h4:i.natAbs<2^(i.natAbs.log2+1):=Nat.lt_log2_self
  have h5:2 * i.natAbs<2^(i.natAbs.log2+2):=by rw [Nat.pow_succ];omega
  exact Nat.lt_of_lt_of_le h5 (Nat.pow_le_pow_right (by decide) (by omega))
theorem dw_walk {l:PySem.W.OpenLaw}{q:Program}{loose:List Str}{XP:(Str->Option Value)->Heap->Prop}{YP:World->Heap->Prop}{d:DefRec}{K:Params->PySem.W.Frag}{tab:List Fd}{n i:Nat}(hlaw:∀ns:List Int,ns.length<=63->(∀i∈ns,2 * i.natAbs<qJX)->qAi tab n i [.lst (ns.map .int)]=some (false,.bl true))
  (hn:l.most=some 63) (hdf:d.params.defaults=[]) (hr:Room (n+2) callerA) (hY:∀(w:World) (h:Heap),YP w h->(K w.params).In h) (htb:TB qNd) (hT:∀(w:World) (h:Heap),YP w h->∀t∈tbs,h.get? t.1=some (PySem.W.tabObj #[])) (hC:∀(w:World),∀t∈tbs,(∃c,PySem.W.codeHdIn (K w.params) c t.1=true)/\(K w.params).lookup t.1=none)
  (F:∀(w:World) (mg:Str->Option Value) (fa:Addr) (h:Heap),(K w.params).In h->h.Ns mainGlobals mg->mg d.name=some (.ref fa) ->
   ∃fd:FuncData,(∀(s:Shared) (u:Value),BindsTo s fd ⟨[u],[]⟩ [("script",u)])/\∀base:Heap,(K w.params).In base->base.Ns mainGlobals mg->FnOk l.prog w (K w.params) mg base CX0 (n+2) fa fd ["script"] (spD (K w.params) 1 (qAi tab n i))) :
  PySem.W.WalkO q loose XP YP l.row.toRowW d [] (λf vs=>PySem.call f vs):=by
 intro w t₀ t₁ mg mb g y fa o pm cd doc v₁ v₂ ho hd hc e1 e2 e3 args vals as e4 lay e5 e6 e7
 obtain rfl:v₁=.none:=PySem.W.Dflts.none e1 hdf
 obtain rfl:v₂=.none:=PySem.W.Dflts.noKw e1
 obtain⟨a,vs,ns,rfl,rfl,s1,s2,s3⟩:=Att.script_of hn e4 e6
 have kx:=hY w _ y
 obtain⟨fd,hb,hF⟩:=F w mg fa _ kx g.T.g e2
 refine PySem.W.enter_call (codeAny_mono (qHI kx g.T.g g.T.b g.T.builtins g.T.nolimit e3 s1 s2 (Nat.le_trans s3 (by decide)) hr htb (λt hm=>⟨hT w _ y t hm,?_,(hC w t hm).2⟩) hF hb λH tb hS=>qOC hlaw H tb a ns s3 (qJT lay) hS _) λr s' z=>?_)
 ·obtain⟨c,hc⟩:=(hC w t hm).1
  obtain⟨o,vs,_,_,_,_,_,_,_,q1,q2,q3,q4,_⟩:=PySem.W.codeHd_of_K kx hc
  exact⟨c,o,vs,q1,q2,q3,q4⟩
 obtain⟨rfl,z2,z3,z4⟩:=z
 exact⟨.inl ⟨.bool true,.bool true,[],rfl,λ_=>rfl,.bool true,Att.post_true l _,λ_=>⟨List.Pairwise.nil,λ_ hm=>(nomatch hm)⟩⟩,z2,z3,z4⟩
end Dw
set_option exponentiation.threshold 6000
namespace Dw.T
open Dw
noncomputable def f_side_cover:Fd:=⟨2,2,[.ret (.tup [(.bi .min [(.ix (.v 0) (.k (.int 0))),(.ix (.v 1) (.k (.int 0)))]),(.bi .max [(.ix (.v 0) (.k (.int 1))),(.ix (.v 1) (.k (.int 1)))])])]⟩
noncomputable def f_box_cover:Fd:=⟨2,2,[.ret (.bi .tuple [(.compZ (.call 0 [(.v 0),(.v 1)]) 2 [] (.two 0 1) (.v 0) (.v 1))])]⟩
noncomputable def f_box_rim:Fd:=⟨1,1,[.ret (.bi .sum [(.compS (.bin .sub (.v 1) (.v 0)) 2 [] (.two 0 1) (.v 0))])]⟩
noncomputable def f_side_at:Fd:=⟨2,2,[.ret (.tup [(.bin .add (.ix (.v 0) (.k (.int 0))) (.bin .mul (.ix (.v 0) (.k (.int 2))) (.v 1))),(.bin .add (.ix (.v 0) (.k (.int 1))) (.bin .mul (.ix (.v 0) (.k (.int 3))) (.v 1)))])]⟩
noncomputable def f_side_joined:Fd:=⟨2,2,[.ret (.tup [(.bi .min [(.ix (.v 0) (.k (.int 0))),(.ix (.v 1) (.k (.int 0)))]),(.bi .max [(.ix (.v 0) (.k (.int 1))),(.ix (.v 1) (.k (.int 1)))]),(.bi .min [(.ix (.v 0) (.k (.int 2))),(.ix (.v 1) (.k (.int 2)))]),(.bi .max [(.ix (.v 0) (.k (.int 3))),(.ix (.v 1) (.k (.int 3)))])])]⟩
noncomputable def f_side_narrowed:Fd:=⟨2,2,[.ret (.tup [(.bi .max [(.ix (.v 0) (.k (.int 0))),(.ix (.v 1) (.k (.int 0)))]),(.bi .min [(.ix (.v 0) (.k (.int 1))),(.ix (.v 1) (.k (.int 1)))]),(.bi .max [(.ix (.v 0) (.k (.int 2))),(.ix (.v 1) (.k (.int 2)))]),(.bi .min [(.ix (.v 0) (.k (.int 3))),(.ix (.v 1) (.k (.int 3)))])])]⟩
noncomputable def f_frame_at:Fd:=⟨2,2,[.ret (.bi .tuple [(.compS (.call 3 [(.v 0),(.v 1)]) 1 [1] (.one 0) (.v 0))])]⟩
noncomputable def f_frames_joined:Fd:=⟨2,2,[.ret (.bi .tuple [(.compZ (.call 4 [(.v 0),(.v 1)]) 2 [] (.two 0 1) (.v 0) (.v 1))])]⟩
noncomputable def f_frames_narrowed:Fd:=⟨2,2,[.ret (.bi .tuple [(.compZ (.call 5 [(.v 0),(.v 1)]) 2 [] (.two 0 1) (.v 0) (.v 1))])]⟩
noncomputable def qBF:Fd:=⟨1,1,[.ret (.ix (.v 0) (.k (.int 1)))]⟩
noncomputable def qBG:Fd:=⟨1,1,[.ret (.ix (.v 0) (.k (.int 2)))]⟩
noncomputable def qBE:Fd:=⟨1,1,[.ret (.ix (.v 0) (.k (.int 3)))]⟩
noncomputable def qBS:Fd:=⟨1,1,[.ret (.ix (.v 0) (.k (.int 0)))]⟩
noncomputable def f_thing_told:Fd:=⟨1,4,[.set 1 false (.call 9 [(.v 0)]),
 .set 2 false (.call 10 [(.v 0)]),
 .set 3 false (.call 11 [(.v 0)]),
 .ret (.tup [(.v 1),(.v 1),(.v 2),(.v 2),(.k (.int 1)),(.v 3),(.v 3),(.v 3)])]⟩
noncomputable def f_told_poured:Fd:=⟨2,2,[.ite (.isC false (.v 0) .non) [.ret (.v 1)] [],
 .ite (.isC false (.v 1) .non) [.ret (.v 0)] [],
 .ret (.tup [(.call 7 [(.ix (.v 0) (.k (.int 0))),(.ix (.v 1) (.k (.int 0)))]),(.call 8 [(.ix (.v 0) (.k (.int 1))),(.ix (.v 1) (.k (.int 1)))]),(.bin .bor (.ix (.v 0) (.k (.int 2))) (.ix (.v 1) (.k (.int 2)))),(.bin .band (.ix (.v 0) (.k (.int 3))) (.ix (.v 1) (.k (.int 3)))),(.bin .add (.ix (.v 0) (.k (.int 4))) (.ix (.v 1) (.k (.int 4)))),(.bi .min [(.ix (.v 0) (.k (.int 5))),(.ix (.v 1) (.k (.int 5)))]),(.bi .max [(.ix (.v 0) (.k (.int 6))),(.ix (.v 1) (.k (.int 6)))]),(.bin .add (.ix (.v 0) (.k (.int 7))) (.ix (.v 1) (.k (.int 7))))])]⟩
noncomputable def f_tolds_poured:Fd:=⟨1,3,[.set 1 false (.k .non),
 .forS (.one 2) (.v 0) [.set 1 false (.call 14 [(.v 1),(.v 2)])],
 .ret (.v 1)]⟩
noncomputable def f_first_box:Fd:=⟨1,1,[.ret (.call 6 [(.call 12 [(.v 0)]),(.k (.int 0))])]⟩
noncomputable def f_stir_of:Fd:=⟨2,3,[.set 2 false (.call 2 [(.v 0)]),
 .ret (.tup [(.bin .sub (.call 2 [(.call 1 [(.v 0),(.v 1)])]) (.v 2)),(.v 2)])]⟩
noncomputable def f_chosen_page:Fd:=⟨2,3,[.set 2 false (.call 16 [(.v 1)]),
 .ret (.ix (.bi .min [(.compE (.bin .add (.call 17 [(.call 16 [(.v 1)]),(.v 2)]) (.tup [(.v 0)])) 2 [2] (.two 0 1) (.v 0))]) (.k (.int 2)))]⟩
noncomputable def f_rim_of:Fd:=⟨1,3,[.set 1 false (.ix (.v 0) (.k (.int 0))),
 .forS (.one 2) (.v 0) [.set 1 false (.call 1 [(.v 1),(.v 2)])],
 .ret (.call 2 [(.v 1)])]⟩
noncomputable def f_order_along:Fd:=⟨2,2,[.ret (.srtR (.bin .add (.ix (.ix (.ix (.v 1) (.v 0)) (.v 2)) (.k (.int 0))) (.ix (.ix (.ix (.v 1) (.v 0)) (.v 2)) (.k (.int 1)))) 1 [0,1] [(.bi .len [(.v 0)])])]⟩
noncomputable def f_cut_rim:Fd:=⟨3,3,[.ret (.bin .add (.call 19 [(.compS (.ix (.v 1) (.v 0)) 1 [0] (.one 0) (.sl (.v 1) none (some (.v 2))))]) (.call 19 [(.compS (.ix (.v 1) (.v 0)) 1 [0] (.one 0) (.sl (.v 1) (some (.v 2)) none))]))]⟩
noncomputable def f_parted:Fd:=⟨2,9,[.set 2 false (.compS (.call 16 [(.v 0)]) 1 [] (.one 0) (.v 0)),
 .set 3 false (.bi .max [(.bin .fdiv (.v 1) (.k (.int 2))),(.bin .sub (.bi .len [(.v 0)]) (.v 1))]),
 .set 4 false (.k .non),
 .forR (.one 5) [(.bi .len [(.ix (.v 2) (.k (.int 0)))])] [.set 6 false (.call 20 [(.v 2),(.v 5)]),.forR (.one 7) [(.v 3),(.bin .add (.bin .sub (.bi .len [(.v 0)]) (.v 3)) (.k (.int 1)))] [.set 8 false (.call 21 [(.v 2),(.v 6),(.v 7)]),.ite (.or (.isC false (.v 4) .non) (.cmp .lt (.v 8) (.ix (.v 4) (.k (.int 0))))) [.set 4 false (.tup [(.v 8),(.sl (.v 6) none (some (.v 7))),(.sl (.v 6) (some (.v 7)) none)])] []]],
 .ret (.tup [(.bi .tuple [(.bi .sorted [(.ix (.v 4) (.k (.int 1)))])]),(.bi .tuple [(.bi .sorted [(.ix (.v 4) (.k (.int 2)))])])])]⟩
noncomputable def qC1:Fd:=⟨1,1,[.ret (.cmp .eq (.ix (.v 0) (.k (.int 0))) (.k (.str (PySem.Str.ofString "leaf"))))]⟩
noncomputable def qB8:Fd:=⟨1,1,[.ret (.ix (.v 0) (.k (.int 1)))]⟩
noncomputable def qBT:Fd:=⟨1,1,[.ret (.ix (.v 0) (.k (.int 2)))]⟩
noncomputable def f_things_tolds:Fd:=⟨1,1,[.ret (.bi .tuple [(.compS (.call 13 [(.v 0)]) 1 [] (.one 0) (.v 0))])]⟩
noncomputable def qBI:Fd:=⟨1,1,[.ret (.bi .tuple [(.compS (.call 24 [(.v 0)]) 1 [] (.one 0) (.v 0))])]⟩
noncomputable def qB9:Fd:=⟨1,1,[.ret (.tup [(.k (.str (PySem.Str.ofString "leaf"))),(.call 15 [(.call 26 [(.v 0)])]),(.v 0)])]⟩
noncomputable def qCa:Fd:=⟨1,1,[.ret (.tup [(.k (.str (PySem.Str.ofString "fork"))),(.call 15 [(.call 27 [(.v 0)])]),(.v 0)])]⟩
noncomputable def qBH:Fd:=⟨3,3,[.ite (.cmp .le (.bi .len [(.v 0)]) (.v 2)) [.ret (.lst [(.v 0)])] [],
 .ret (.compS (.bi .tuple [(.compS (.ix (.v 1) (.v 0)) 1 [1] (.one 0) (.v 0))]) 1 [0] (.one 0) (.call 22 [(.v 1),(.v 2)]))]⟩
noncomputable def qCb:Fd:=⟨2,2,[.ret (.bi .tuple [(.compS (.call 28 [(.v 0)]) 1 [] (.one 0) (.call 30 [(.v 0),(.call 26 [(.v 0)]),(.v 1)]))])]⟩
noncomputable def qCq:Fd:=⟨2,2,[.ret (.bi .tuple [(.compS (.call 29 [(.v 0)]) 1 [] (.one 0) (.call 30 [(.v 0),(.call 27 [(.v 0)]),(.v 1)]))])]⟩
noncomputable def f_pages_with:Fd:=⟨3,6,[.set 3 false (.call 25 [(.v 0)]),
 .ite (.call 23 [(.v 0)]) [.ret (.call 31 [(.bin .add (.v 3) (.tup [(.v 2)])),(.v 1)])] [],
 .set 4 false (.call 18 [(.call 27 [(.v 3)]),(.call 13 [(.v 2)])]),
 .set 5 false (.call 33 [(.ix (.v 3) (.v 4)),(.v 1),(.v 2)]),
 .ret (.call 32 [(.bin .add (.bin .add (.sl (.v 3) none (some (.v 4))) (.v 5)) (.sl (.v 3) (some (.bin .add (.v 4) (.k (.int 1)))) none)),(.v 1)])]⟩
noncomputable def f_put_thing:Fd:=⟨3,4,[.set 3 false (.call 33 [(.v 0),(.v 1),(.v 2)]),
 .ret (.ifx (.cmp .eq (.bi .len [(.v 3)]) (.k (.int 1))) (.ix (.v 3) (.k (.int 0))) (.call 29 [(.v 3)]))]⟩
noncomputable def f_law_cell_at:Fd:=⟨2,2,[.ite (.cmp .lt (.v 1) (.bi .len [(.v 0)])) [.ret (.ix (.v 0) (.v 1))] [],
 .ret (.k (.int 0))]⟩
noncomputable def f_law_alike:Fd:=⟨2,3,[.ite (.isi (.v 1) .tuple) [.ite (.or (.not (.isi (.v 0) .tuple)) (.cmp .ne (.bi .len [(.v 0)]) (.bi .len [(.v 1)]))) [.ret (.k (.bl false))] [],.forR (.one 2) [(.bi .len [(.v 1)])] [.ite (.not (.call 36 [(.ix (.v 0) (.v 2)),(.ix (.v 1) (.v 2))])) [.ret (.k (.bl false))] []],.ret (.k (.bl true))] [],
 .ite (.isC false (.v 1) .non) [.ret (.isC false (.v 0) .non)] [],
 .ite (.isi (.v 1) .str) [.ret (.and (.isi (.v 0) .str) (.cmp .eq (.v 0) (.v 1)))] [],
 .ret (.and (.isi (.v 0) .int) (.and (.not (.isi (.v 0) .bool)) (.cmp .eq (.v 0) (.v 1))))]⟩
noncomputable def f_law_draw:Fd:=⟨3,3,[.ret (.bin .mod (.bin .fdiv (.bin .mul (.bin .mul (.bin .add (.bin .add (.v 0) (.k (.int 3))) (.v 1)) (.bin .add (.bin .add (.v 0) (.bin .mul (.k (.int 5)) (.v 1))) (.k (.int 11)))) (.bin .add (.bin .pow (.k (.int 10)) (.k (.int 33))) (.k (.int 7)))) (.k (.int 13))) (.v 2))]⟩
noncomputable def f_law_thing:Fd:=⟨4,14,[.set 4 false (.bin .add (.bin .mod (.v 0) (.bin .pow (.k (.int 10)) (.k (.int 40)))) (.bin .mul (.bin .mul (.k (.int 7919)) (.v 1)) (.v 1))),
 .set 5 false (.ix (.lst [(.k (.int 12)),(.k (.int 90)),(.bin .sub (.bin .pow (.k (.int 10)) (.k (.int 30))) (.k (.int 1)))]) (.bin .mod (.v 3) (.k (.int 3)))),
 .set 6 false (.ix (.lst [(.k (.int 0)),(.k (.int 4)),(.bin .sub (.bin .pow (.k (.int 10)) (.k (.int 15))) (.k (.int 1)))]) (.bin .mod (.bin .fdiv (.v 3) (.k (.int 3))) (.k (.int 3)))),
 .set 7 true (.lst []),
 .forR (.one 8) [(.v 2)] [.set 9 false (.bin .sub (.call 37 [(.v 4),(.v 8),(.bin .add (.bin .mul (.k (.int 2)) (.v 5)) (.k (.int 1)))]) (.v 5)),.set 10 false (.call 37 [(.v 4),(.bin .add (.v 8) (.k (.int 7))),(.ix (.lst [(.k (.int 1)),(.k (.int 9)),(.bin .add (.v 5) (.k (.int 1)))]) (.bin .mod (.bin .fdiv (.v 3) (.k (.int 9))) (.k (.int 3))))]),.set 11 false (.bin .sub (.call 37 [(.v 4),(.bin .add (.v 8) (.k (.int 14))),(.bin .add (.bin .mul (.k (.int 2)) (.v 6)) (.k (.int 1)))]) (.v 6)),.app 7 (.tup [(.v 9),(.bi .min [(.v 5),(.bin .add (.v 9) (.v 10))]),(.v 11),(.v 11)])],
 .set 12 false (.bin .add (.bin .mul (.call 37 [(.v 4),(.k (.int 21)),(.bin .pow (.k (.int 10)) (.k (.int 14)))]) (.k (.int 1000))) (.v 1)),
 .ite (.cmp .eq (.bin .mod (.v 3) (.k (.int 2))) (.k (.int 1))) [.set 12 false (.bin .add (.bin .mul (.v 1) (.bin .pow (.k (.int 10)) (.k (.int 14)))) (.call 37 [(.v 4),(.k (.int 21)),(.bin .pow (.k (.int 10)) (.k (.int 14)))]))] [],
 .set 13 false (.bin .sub (.call 37 [(.v 4),(.k (.int 28)),(.bin .add (.bin .mul (.k (.int 2)) (.v 5)) (.k (.int 1)))]) (.v 5)),
 .ret (.tup [(.v 12),(.bi .tuple [(.v 7)]),(.call 37 [(.v 4),(.k (.int 35)),(.ix (.lst [(.k (.int 4)),(.k (.int 65536))]) (.bin .mod (.bin .fdiv (.v 3) (.k (.int 2))) (.k (.int 2))))]),(.v 13)])]⟩
noncomputable def f_law_told:Fd:=⟨1,11,[.ite (.cmp .eq (.bi .len [(.v 0)]) (.k (.int 0))) [.ret (.k .non)] [],
 .set 1 true (.lst []),
 .set 2 true (.lst []),
 .forR (.one 3) [(.bi .len [(.ix (.ix (.v 0) (.k (.int 0))) (.k (.int 1)))])] [.set 5 false (.compS (.ix (.ix (.ix (.v 0) (.k (.int 1))) (.v 1)) (.k (.int 0))) 1 [3] (.one 0) (.v 0)),.set 6 false (.compS (.ix (.ix (.ix (.v 0) (.k (.int 1))) (.v 1)) (.k (.int 1))) 1 [3] (.one 0) (.v 0)),.set 7 false (.compS (.ix (.ix (.ix (.v 0) (.k (.int 1))) (.v 1)) (.k (.int 2))) 1 [3] (.one 0) (.v 0)),.app 1 (.tup [(.bi .min [(.v 5)]),(.bi .max [(.v 6)]),(.bi .min [(.v 7)]),(.bi .max [(.v 7)])]),.app 2 (.tup [(.bi .max [(.v 5)]),(.bi .min [(.v 6)]),(.bi .max [(.v 7)]),(.bi .min [(.v 7)])])],
 .set 8 false (.k (.int 0)),
 .set 9 false (.k (.int 65535)),
 .forS (.one 4) (.v 0) [.set 8 false (.bin .bor (.v 8) (.ix (.v 4) (.k (.int 2)))),.set 9 false (.bin .band (.v 9) (.ix (.v 4) (.k (.int 2))))],
 .set 10 false (.compS (.ix (.v 0) (.k (.int 3))) 1 [] (.one 0) (.v 0)),
 .ret (.tup [(.bi .tuple [(.v 1)]),(.bi .tuple [(.v 2)]),(.v 8),(.v 9),(.bi .len [(.v 0)]),(.bi .min [(.v 10)]),(.bi .max [(.v 10)]),(.bi .sum [(.v 10)])])]⟩
noncomputable def f_law_cuts:Fd:=⟨3,6,[.set 3 false (.bi .max [(.k (.int 1)),(.bin .fdiv (.bin .sub (.bin .add (.v 0) (.v 1)) (.k (.int 1))) (.v 1))]),
 .set 4 false (.bi .max [(.v 3),(.bin .fdiv (.v 0) (.bin .fdiv (.v 1) (.k (.int 2))))]),
 .set 5 false (.bin .add (.v 3) (.bin .mod (.v 2) (.bin .add (.bin .sub (.v 4) (.v 3)) (.k (.int 1))))),
 .ret (.compR (.bin .fdiv (.bin .mul (.v 2) (.v 0)) (.v 1)) 1 [5,0] (.one 0) [(.bin .add (.v 5) (.k (.int 1)))])]⟩
noncomputable def f_law_tree:Fd:=⟨3,10,[.set 3 true (.lst []),
 .set 4 false (.call 40 [(.bi .len [(.v 0)]),(.v 1),(.v 2)]),
 .forZ (.two 5 6) (.sl (.v 4) none (some (.neg (.k (.int 1))))) (.sl (.v 4) (some (.k (.int 1))) none) [.app 3 (.tup [(.tup [(.k (.str (PySem.Str.ofString "leaf"))),(.call 39 [(.sl (.v 0) (some (.v 5)) (some (.v 6)))]),(.bi .tuple [(.sl (.v 0) (some (.v 5)) (some (.v 6)))])]),(.sl (.v 0) (some (.v 5)) (some (.v 6)))])],
 .whl (.cmp .gt (.bi .len [(.v 3)]) (.k (.int 1))) [.set 7 true (.lst []),.set 4 false (.call 40 [(.bi .len [(.v 3)]),(.v 1),(.bin .fdiv (.v 2) (.k (.int 7)))]),.forZ (.two 5 6) (.sl (.v 4) none (some (.neg (.k (.int 1))))) (.sl (.v 4) (some (.k (.int 1))) none) [.set 8 false (.lst []),.forS (.one 9) (.sl (.v 3) (some (.v 5)) (some (.v 6))) [.set 8 false (.bin .add (.v 8) (.ix (.v 9) (.k (.int 1))))],.app 7 (.tup [(.tup [(.k (.str (PySem.Str.ofString "fork"))),(.call 39 [(.v 8)]),(.bi .tuple [(.compS (.ix (.v 0) (.k (.int 0))) 1 [] (.one 0) (.sl (.v 3) (some (.v 5)) (some (.v 6))))])]),(.v 8)])],.frz [7],.set 3 true (.v 7)],
 .ret (.ix (.ix (.v 3) (.k (.int 0))) (.k (.int 0)))]⟩
noncomputable def f_law_looked:Fd:=⟨3,8,[.ite (.or (.not (.isi (.v 0) .tuple)) (.or (.cmp .ne (.bi .len [(.v 0)]) (.k (.int 3))) (.not (.isi (.ix (.v 0) (.k (.int 2))) .tuple)))) [.ret (.k .non)] [],
 .ite (.or (.cmp .lt (.bi .len [(.ix (.v 0) (.k (.int 2)))]) (.v 2)) (.cmp .gt (.bi .len [(.ix (.v 0) (.k (.int 2)))]) (.v 1))) [.ret (.k .non)] [],
 .set 3 true (.lst []),
 .set 4 false (.k (.int 0)),
 .ite (.cmp .eq (.ix (.v 0) (.k (.int 0))) (.k (.str (PySem.Str.ofString "fork")))) [.set 5 true (.lst []),.forS (.one 6) (.ix (.v 0) (.k (.int 2))) [.set 7 false (.call 42 [(.v 6),(.v 1),(.bin .fdiv (.v 1) (.k (.int 2)))]),.ite (.isC false (.v 7) .non) [.ret (.k .non)] [],.app 5 (.ix (.v 7) (.k (.int 0))),.ext 3 (.ix (.v 7) (.k (.int 1)))],.ite (.or (.cmp .lt (.bi .len [(.v 5)]) (.k (.int 2))) (.cmp .lt (.bi .min [(.v 5)]) (.bi .max [(.v 5)]))) [.ret (.k .non)] [],.set 4 false (.bin .add (.ix (.v 5) (.k (.int 0))) (.k (.int 1)))] [.ite (.cmp .eq (.ix (.v 0) (.k (.int 0))) (.k (.str (PySem.Str.ofString "leaf")))) [.set 3 true (.bi .list [(.ix (.v 0) (.k (.int 2)))])] [.ret (.k .non)]],
 .ite (.not (.call 36 [(.ix (.v 0) (.k (.int 1))),(.call 39 [(.v 3)])])) [.ret (.k .non)] [],
 .frz [3],
 .ret (.tup [(.v 4),(.v 3)])]⟩
noncomputable def f_law_healthy_with:Fd:=⟨3,4,[.set 3 false (.call 42 [(.v 0),(.v 1),(.k (.int 0))]),
 .ite (.or (.isC false (.v 3) .non) (.cmp .ne (.bi .len [(.ix (.v 3) (.k (.int 1)))]) (.bi .len [(.v 2)]))) [.ret (.k (.bl false))] [],
 .ret (.call 36 [(.bi .tuple [(.bi .sorted [(.ix (.v 3) (.k (.int 1)))])]),(.bi .tuple [(.bi .sorted [(.v 2)])])])]⟩
noncomputable def f_law:Fd:=⟨1,9,[.set 1 false (.bin .add (.k (.int 2)) (.bi .int [(.cmp .eq (.bin .mod (.call 35 [(.v 0),(.k (.int 0))]) (.k (.int 4))) (.k (.int 1)))])),
 .set 2 false (.bin .mod (.call 35 [(.v 0),(.k (.int 1))]) (.k (.int 54))),
 .set 3 false (.bin .add (.k (.int 4)) (.bin .mod (.call 35 [(.v 0),(.k (.int 2))]) (.k (.int 4)))),
 .ite (.cmp .eq (.bin .mod (.bin .fdiv (.call 35 [(.v 0),(.k (.int 2))]) (.k (.int 4))) (.k (.int 6))) (.k (.int 1))) [.set 3 false (.bin .add (.k (.int 4)) (.bin .mod (.bin .fdiv (.call 35 [(.v 0),(.k (.int 2))]) (.k (.int 24))) (.k (.int 13))))] [],
 .set 4 false (.sl (.v 0) (some (.k (.int 4))) (some (.k (.int 44)))),
 .set 6 true (.compR (.call 38 [(.ix (.v 1) (.v 0)),(.v 0),(.v 2),(.v 3)]) 1 [4,1,2] (.one 0) [(.bi .len [(.v 4)])]),
 .set 7 false (.call 41 [(.v 6),(.v 3),(.bin .mod (.bin .fdiv (.call 35 [(.v 0),(.k (.int 0))]) (.k (.int 4))) (.k (.int 1000)))]),
 .forS (.one 5) (.lst [(.k (.int 90)),(.k (.int 91))]) [.set 8 false (.call 38 [(.call 35 [(.v 0),(.k (.int 3))]),(.v 5),(.v 1),(.v 2)]),.set 7 false (.call 34 [(.v 7),(.v 3),(.v 8)]),.app 6 (.v 8),.ite (.not (.call 43 [(.v 7),(.v 3),(.v 6)])) [.ret (.k (.bl false))] []],
 .ret (.k (.bl true))]⟩
noncomputable def tab:List Fd:=[f_side_cover,f_box_cover,f_box_rim,f_side_at,f_side_joined,f_side_narrowed,f_frame_at,f_frames_joined,f_frames_narrowed,qBF,qBG,qBE,qBS,f_thing_told,f_told_poured,f_tolds_poured,f_first_box,f_stir_of,f_chosen_page,f_rim_of,f_order_along,f_cut_rim,f_parted,qC1,qB8,qBT,f_things_tolds,qBI,qB9,qCa,qBH,qCb,qCq,f_pages_with,f_put_thing,f_law_cell_at,f_law_alike,f_law_draw,f_law_thing,f_law_told,f_law_cuts,f_law_tree,f_law_looked,f_law_healthy_with,f_law]
theorem t0:tab[0]?=some f_side_cover:=rfl
theorem t1:tab[1]?=some f_box_cover:=rfl
theorem t2:tab[2]?=some f_box_rim:=rfl
theorem t3:tab[3]?=some f_side_at:=rfl
theorem t4:tab[4]?=some f_side_joined:=rfl
theorem t5:tab[5]?=some f_side_narrowed:=rfl
theorem t6:tab[6]?=some f_frame_at:=rfl
theorem t7:tab[7]?=some f_frames_joined:=rfl
theorem t8:tab[8]?=some f_frames_narrowed:=rfl
theorem t9:tab[9]?=some qBF:=rfl
theorem t10:tab[10]?=some qBG:=rfl
theorem t11:tab[11]?=some qBE:=rfl
theorem t12:tab[12]?=some qBS:=rfl
theorem t13:tab[13]?=some f_thing_told:=rfl
theorem t14:tab[14]?=some f_told_poured:=rfl
theorem t15:tab[15]?=some f_tolds_poured:=rfl
theorem t16:tab[16]?=some f_first_box:=rfl
theorem t17:tab[17]?=some f_stir_of:=rfl
theorem t18:tab[18]?=some f_chosen_page:=rfl
theorem t19:tab[19]?=some f_rim_of:=rfl
theorem t20:tab[20]?=some f_order_along:=rfl
theorem t21:tab[21]?=some f_cut_rim:=rfl
theorem t22:tab[22]?=some f_parted:=rfl
theorem t23:tab[23]?=some qC1:=rfl
theorem t24:tab[24]?=some qB8:=rfl
theorem t25:tab[25]?=some qBT:=rfl
theorem t26:tab[26]?=some f_things_tolds:=rfl
theorem t27:tab[27]?=some qBI:=rfl
theorem t28:tab[28]?=some qB9:=rfl
theorem t29:tab[29]?=some qCa:=rfl
theorem t30:tab[30]?=some qBH:=rfl
theorem t31:tab[31]?=some qCb:=rfl
theorem t32:tab[32]?=some qCq:=rfl
theorem t33:tab[33]?=some f_pages_with:=rfl
theorem t34:tab[34]?=some f_put_thing:=rfl
theorem t35:tab[35]?=some f_law_cell_at:=rfl
theorem t36:tab[36]?=some f_law_alike:=rfl
theorem t37:tab[37]?=some f_law_draw:=rfl
theorem t38:tab[38]?=some f_law_thing:=rfl
theorem t39:tab[39]?=some f_law_told:=rfl
theorem t40:tab[40]?=some f_law_cuts:=rfl
theorem t41:tab[41]?=some f_law_tree:=rfl
theorem t42:tab[42]?=some f_law_looked:=rfl
theorem t43:tab[43]?=some f_law_healthy_with:=rfl
theorem t44:tab[44]?=some f_law:=rfl
end Dw.T
namespace Dw
theorem qAB {n:Nat}(h:n<=16777216):n<=lim:=h
theorem qJS:(0<=lim)=True:=eq_true (Nat.zero_le _)
theorem qRO:(2<=lim)=True:=eq_true (qAB (by decide))
theorem qRN:(3<=lim)=True:=eq_true (qAB (by decide))
theorem qQ5:(4<=lim)=True:=eq_true (qAB (by decide))
noncomputable def qGF:=qGG
noncomputable def qEH:=qKc
noncomputable def biP:=biD
noncomputable def ixP:=ixx
noncomputable def slP:=slx
noncomputable def ixQ:=ixD
noncomputable def qGK:=qJ9
noncomputable def isP:=isD
noncomputable def tyP:=tyD
noncomputable def qJu:=qEX
noncomputable def qJr:=qB7
noncomputable def qPK:=qGT
noncomputable def qQS:=qKo
section
variable (a b:Int) (x y z:D) (xs ys:List D)
@[simp] theorem qAF:qGF .add (.int a) (.int b)=some (false,.int (a+b)):=rfl
@[simp] theorem qA5:qGF .sub (.int a) (.int b)=some (false,.int (a - b)):=rfl
@[simp] theorem qBn:qGF .mul (.int a) (.int b)=if qEs a b then some (false,.int (a * b)) else none:=rfl
@[simp] theorem qAJ:qGF .fdiv (.int a) (.int b)=if qBr b then some (false,.int (a.fdiv b)) else none:=rfl
@[simp] theorem qAS:qGF .mod (.int a) (.int b)=if qBr b then some (false,.int (a.fmod b)) else none:=rfl
@[simp] theorem qB0:qGF .pow (.int a) (.int b)=if qEn a b then some (false,.int (a^b.toNat)) else none:=rfl
@[simp] theorem qET:qGF .band (.int a) (.int b)=if 0<=a/\0<=b then some (false,.int ((a.toNat &&& b.toNat:Nat):Int)) else none:=rfl
@[simp] theorem qGh:qGF .bor (.int a) (.int b)=if 0<=a/\0<=b then some (false,.int ((a.toNat ||| b.toNat:Nat):Int)) else none:=rfl
@[simp] theorem qIG:qGF .add (.lst xs) (.lst ys)=if xs.length+ys.length<=lim then some (true,.lst (xs++ys)) else none:=rfl
@[simp] theorem qEU:qGF .add (.tup (x::xs)) (.tup ys)=if xs.length+1+ys.length<=lim then some (false,.tup (x::xs++ys)) else none:=rfl
@[simp] theorem qCj:qEH .eq (.int a) y=some (false,.bl (eqD (.int a) y)):=rfl
@[simp] theorem qCG:qEH .ne (.int a) y=some (false,.bl (!eqD (.int a) y)):=rfl
@[simp] theorem qCr:qEH .lt (.int a) (.int b)=some (false,.bl (decide (a<b))):=rfl
@[simp] theorem qIr:qEH .le (.int a) (.int b)=some (false,.bl (decide (a<=b))):=rfl
@[simp] theorem qFn:qEH .gt (.int a) (.int b)=some (false,.bl (decide (b<a))):=rfl
theorem qOT (i j:Int):(if j<i then j else i)=min i j:=by omega
theorem qOU (i j:Int):(if i<j then j else i)=max i j:=by omega
@[simp] theorem qA6:biP .len [.tup xs]=some (false,.int xs.length):=rfl
@[simp] theorem qAY:biP .len [.lst xs]=some (false,.int xs.length):=rfl
@[simp] theorem qDd:biP .min [.int a,.int b]=some (false,.int (min a b)):=by rw [<-qOT];rfl
@[simp] theorem qCd:biP .max [.int a,.int b]=some (false,.int (max a b)):=by rw [<-qOU];rfl
@[simp] theorem qKj:biP .min [.lst xs]=qMy xs:=rfl
theorem qEu {xs:List D}{is:List Int}{m:Int}(h:qAK xs=some is) (hm:mnL is=some m):qMy xs=some (false,.int m):=by
 unfold qMy;rw [h];simp only [hm,Option.map_some]
@[simp] theorem qGi:biP .max [.lst xs]=(qAK xs).bind λis=>(mxL is).map λm=>(false,.int m):=rfl
@[simp] theorem qII:biP .sum [.lst xs]=(qAK xs).map λis=>(false,.int is.sum):=rfl
@[simp] theorem qD9:biP .tuple [.lst xs]=some (false,.tup xs):=rfl
@[simp] theorem qKk:biP .list [.tup xs]=some (true,.lst xs):=rfl
@[simp] theorem qKl (c:Bool):biP .int [.bl c]=some (false,.int (if c then 1 else 0)):=rfl
@[simp] theorem qCw:ixP (.lst xs) (.int a)=(ixQ xs a).map (false,·):=rfl
@[simp] theorem qBR:ixP (.tup xs) (.int a)=(ixQ xs a).map (false,·):=rfl
@[simp] theorem qDV:ixQ (x::xs) 0=some x:=by simp [ixQ]
@[simp] theorem qHJ:ixQ (x::y::xs) 1=some y:=by
 simp only [ixQ,ixD,ixN,List.length_cons];rw [if_pos (by omega),if_pos (by omega)];rfl
@[simp] theorem qDU:ixQ (x::y::z::xs) 2=some z:=by
 simp only [ixQ,ixD,ixN,List.length_cons];rw [if_pos (by omega),if_pos (by omega)];rfl
@[simp] theorem qME (u:D):ixQ (x::y::z::u::xs) 3=some u:=by
 simp only [ixQ,ixD,ixN,List.length_cons];rw [if_pos (by omega),if_pos (by omega)];rfl
theorem qDT (j:Nat):ixQ xs (j:Int)=xs[j]?:=by
 simp only [ixQ,ixD,ixN];rw [if_pos (by omega)]
 by_cases h:j<xs.length
 ·rw [if_pos (by omega)];simp
 ·rw [if_neg (by omega)];simp;omega
@[simp] theorem qJn (l h):slP l h (.lst xs)=some (true,.lst (qGK xs l h)):=rfl
@[simp] theorem qOQ (n):isP n .non .non=some (false,.bl (!n)):=rfl
@[simp] theorem qOP (n):isP n (.tup xs) .non=some (false,.bl n):=rfl
@[simp] theorem qOR (n):isP n (.int a) .non=some (false,.bl n):=rfl
@[simp] theorem qNr:tyP .int (.int a)=true:=rfl
@[simp] theorem qNs:tyP .bool (.int a)=false:=rfl
@[simp] theorem qFs:tyP .tuple (.tup xs)=true:=rfl
@[simp] theorem qNq:tyP .tuple (.int a)=false:=rfl
@[simp] theorem qNW:qJu [.int a]=if -(2^62)<=a/\a<2^62 then some ((List.range a.toNat).map λi=>.int (i:Nat)) else none:=rfl
theorem qDA {is:List Int}(h:qAK xs=some is) (hl:is.length<64):biP .sorted [.lst xs]=some (true,.lst ((qE2 is).map .int)):=by
 show qLq xs=_
 unfold qLq
 rw [h]
 exact if_pos hl
theorem qIJ {hs:List Int}(h0:qAK xs=none) (h:qEB xs=some hs) (hn:hs.Nodup) (hl:hs.length<64):biP .sorted [.lst xs]=some (true,.lst ((qCA hs).map λk=>xs.getD k .non)):=by
 show qLq xs=_
 unfold qLq
 rw [h0]
 show (qEB xs).bind _=_
 rw [h]
 exact if_pos ⟨hn,hl⟩
theorem qNV (n:Nat) (h:n<=10000):qJu [.int n]=some ((List.range n).map λi=>.int (i:Nat)):=by
 rw [qNW,if_pos (by omega)];simp
end
section
variable (call:Nat->List D->Option R) (σ:En)
@[simp 5000] theorem qIW (i):evE call σ (.v i)=qCp (qAg σ i):=rfl
@[simp 5000] theorem qBf (d):evE call σ (.k d)=some (false,d):=rfl
@[simp 5000] theorem qAA (o a b):evE call σ (.bin o a b)=match pk σ a (evE call σ a) with
 | none=>none|some x=>match pk σ b (evE call σ b) with|none=>none|some y=>qGF o x y:=by
 rw [qIc];cases pk σ a (evE call σ a)<;>first|rfl|(cases pk σ b (evE call σ b)<;>rfl)
@[simp 5000] theorem qBd (o a b):evE call σ (.cmp o a b)=match pk σ a (evE call σ a) with
 | none=>none|some x=>match pk σ b (evE call σ b) with|none=>none|some y=>qEH o x y:=by
 rw [qFj];cases pk σ a (evE call σ a)<;>first|rfl|(cases pk σ b (evE call σ b)<;>rfl)
@[simp 5000] theorem qGQ (n a d):evE call σ (.isC n a d)=match pk σ a (evE call σ a) with|none=>none|some x=>isP n x d:=by
 rw [qFh];cases pk σ a (evE call σ a)<;>rfl
@[simp 5000] theorem qNn (a b):evE call σ (.and a b)=match evE call σ a with
 | none=>none|some (_,.bl c)=>(if c=true then evE call σ b else some (false,.bl false))|some _=>none:=by
 rw [qId];rcases evE call σ a with _|⟨x,d⟩<;>first|rfl|(cases d<;>first|rfl|(rename_i c;cases c<;>rfl))
@[simp 5000] theorem qDB (a b):evE call σ (.or a b)=match evE call σ a with
 | none=>none|some (_,.bl c)=>(if c=true then some (false,.bl true) else evE call σ b)|some _=>none:=by
 rw [qKN];rcases evE call σ a with _|⟨x,d⟩<;>first|rfl|(cases d<;>first|rfl|(rename_i c;cases c<;>rfl))
@[simp 5000] theorem qEb (a):evE call σ (.not a)=match evE call σ a with
 | none=>none|some (_,.bl c)=>some (false,.bl (!c))|some _=>none:=by
 rw [qH9];rcases evE call σ a with _|⟨x,d⟩<;>first|rfl|(cases d<;>rfl)
@[simp 5000] theorem qA7 (a b):evE call σ (.ix a b)=match pk σ a (evE call σ a) with
 | none=>none|some x=>match pk σ b (evE call σ b) with|none=>none|some y=>ixP x y:=by
 rw [qKO];cases pk σ a (evE call σ a)<;>first|rfl|(cases pk σ b (evE call σ b)<;>rfl)
@[simp 5000] theorem qGP (a lo hi):evE call σ (.sl a lo hi)=match pk σ a (evE call σ a) with
 | none=>none|some x=>match evO call σ lo with|none=>none|some l=>match evO call σ hi with|none=>none|some h=>slP l h x:=by
 rw [qH8];cases pk σ a (evE call σ a)<;>first|rfl|(cases evO call σ lo<;>first|rfl|(cases evO call σ hi<;>rfl))
@[simp 5000] theorem qBc (as):evE call σ (.tup as)=match evA call σ as with|none=>none|some xs=>if xs.length<=lim then some (false,.tup xs) else none:=by
 rw [qC2];cases evA call σ as<;>rfl
@[simp 5000] theorem qBo (as):evE call σ (.lst as)=match evA call σ as with|none=>none|some xs=>if xs.length<=lim then some (true,.lst xs) else none:=by
 rw [qIa];cases evA call σ as<;>rfl
@[simp 5000] theorem qAo (f as):evE call σ (.call f as)=match evG call σ as with|none=>(qBO call σ as).bind λxs=>(call f xs).bind nlR|some xs=>call f xs:=by
 rw [qBk];cases evG call σ as<;>rfl
@[simp 5000] theorem qAX (b as):evE call σ (.bi b as)=match qBO call σ as with|none=>none|some xs=>biP b xs:=by
 rw [qF0];cases qBO call σ as<;>rfl
@[simp 5000] theorem qDp (a t):evE call σ (.isi a t)=match pk σ a (evE call σ a) with|none=>none|some x=>some (false,.bl (tyP t x)):=by
 rw [qIb];cases pk σ a (evE call σ a)<;>rfl
@[simp 5000] theorem qKx (c a b):evE call σ (.ifx c a b)=match evE call σ c with
 | none=>none|some (_,.bl t)=>(if t=true then evE call σ a else evE call σ b)|some _=>none:=by
 rw [qFi];rcases evE call σ c with _|⟨x,d⟩<;>first|rfl|(cases d<;>first|rfl|(rename_i c;cases c<;>rfl))
@[simp 5000] theorem qI4 (e nl ks tg src):evE call σ (.compS e nl ks tg src)=match evE call σ src with
 | none=>none|some x=>match qJr x.2 with|none=>none|some its=>match qAz call e (qBm σ nl ks) tg its with|none=>none|some ys=>some (true,.lst ys):=by
 rw [qC4]
 cases evE call σ src with
 | none=>rfl
 | some x => show (qB7 x.2).bind _ = match qB7 x.2 with | none => none | some its => _
             cases qB7 x.2 with
             | none=>rfl
             | some its => show (qAz call e (qBm σ nl ks) tg its).bind _ = match qAz call e (qBm σ nl ks) tg its with | none => none | some ys => _
                           cases qAz call e (qBm σ nl ks) tg its<;>rfl
@[simp 5000] theorem qI5 (e nl ks tg rs):evE call σ (.compR e nl ks tg rs)=match qBO call σ rs with
 | none=>none|some x=>match qJu x with|none=>none|some its=>if its.length<=lim then (match qAz call e (qBm σ nl ks) tg its with|none=>none|some ys=>some (true,.lst ys)) else none:=by
 rw [qC5]
 cases qBO call σ rs with
 | none=>rfl
 | some x => show (qEX x).bind _ = match qEX x with | none => none | some its => _
             cases qEX x with
             | none=>rfl
             | some its => show (if its.length <= lim then (qAz call e (qBm σ nl ks) tg its).bind _ else none) = if its.length <= lim then (match qAz call e (qBm σ nl ks) tg its with | none => none | some ys => _) else none
                           cases qAz call e (qBm σ nl ks) tg its<;>rfl
@[simp 5000] theorem qI3 (e nl ks tg a b):evE call σ (.compZ e nl ks tg a b)=match evE call σ a with
 | none=>none|some x=>match evE call σ b with|none=>none|some y=>match qJr x.2 with|none=>none|some xs=>match qPK y.2 with|none=>none|some ys=>match qAz call e (qBm σ nl ks) tg (qCn xs ys) with|none=>none|some zs=>some (true,.lst zs):=by
 rw [qC3]
 cases evE call σ a with
 | none=>rfl
 | some x =>
  cases evE call σ b with
  | none=>rfl
  | some y =>
   show (qB7 x.2).bind _=match qB7 x.2 with|none=>none|some its=>_
   cases qB7 x.2 with
   | none=>rfl
   | some xs =>
    show (qGT y.2).bind _=match qGT y.2 with|none=>none|some its=>_
    cases qGT y.2 with
    | none=>rfl
    | some ys =>
     show (qAz call e (qBm σ nl ks) tg (qCn xs ys)).bind _=match qAz call e (qBm σ nl ks) tg (qCn xs ys) with|none=>none|some ys=>_
     cases qAz call e (qBm σ nl ks) tg (qCn xs ys)<;>rfl
@[simp 5000] theorem qAG (a r):evA call σ (a::r)=match evE call σ a with|none=>none|some x=>match evA call σ r with|none=>none|some xs=>some (x.2::xs):=by
 rw [qBb];cases evE call σ a<;>first|rfl|(cases evA call σ r<;>rfl)
@[simp 5000] theorem qAn (a r):evG call σ (a::r)=match ag σ a (evE call σ a) with|none=>none|some x=>match evG call σ r with|none=>none|some xs=>some (x::xs):=by
 rw [qAH];cases ag σ a (evE call σ a)<;>first|rfl|(cases evG call σ r<;>rfl)
@[simp 5000] theorem qAk (a r):qBO call σ (a::r)=match pk σ a (evE call σ a) with|none=>none|some x=>match qBO call σ r with|none=>none|some xs=>some (x::xs):=by
 rw [qA3];cases pk σ a (evE call σ a)<;>first|rfl|(cases qBO call σ r<;>rfl)
@[simp 5000] theorem qCK (c):evO call σ (some c)=match pk σ c (evE call σ c) with|none=>none|some x=>qMn x:=by
 rw [qFW];cases pk σ c (evE call σ c)<;>rfl
variable (qAV:List S)
@[simp 5000] theorem qGO (is):qAr call σ (.frz is::qAV)=qAr call (is.foldl frz1 σ) qAV:=rfl
@[simp 5000] theorem qNl (i keep e):qAr call σ (.set i keep e::qAV)=match evE call σ e with|none=>none|some r=>qAr call (σ.set i (some (qAM keep r))) qAV:=by
 rw [qAP,qH4];cases evE call σ e<;>rfl
@[simp 5000] theorem qNm (i e):qAr call σ (.app i e::qAV)=match evE call σ e with|none=>none|some x=>match qQS σ i x.2 with|some (.nx σ')=>qAr call σ' qAV|some (.rt r)=>some (.rt r)|some (.bk q)=>some (.bk q)|some (.ct q)=>some (.ct q)|none=>none:=by
 rw [qAP,qH7]
 cases evE call σ e with
 | none=>rfl
 | some x =>
  show (qKo σ i x.2).bind _=match qKo σ i x.2 with|some (.nx σ')=>_|some (.rt r)=>_|some (.bk q)=>_|some (.ct q)=>_|none=>_
  rcases qKo σ i x.2 with _|(_|_|_|_)<;>rfl
@[simp 5000] theorem qFr (e):qAr call σ (.ret e::qAV)=match qDj σ e (evE call σ e) with|none=>none|some r=>some (.rt r):=by
 rw [qAP,qDY];cases qDj σ e (evE call σ e)<;>rfl
@[simp 5000] theorem qGN (c a b):qAr call σ (.ite c a b::qAV)=match evE call σ c with
 | none=>none
 | some (_,.bl t)=>if t=true then (match qAr call σ a with|some (.nx σ')=>qAr call σ' qAV|some (.rt r)=>some (.rt r)|some (.bk q)=>some (.bk q)|some (.ct q)=>some (.ct q)|none=>none)
   else (match qAr call σ b with|some (.nx σ')=>qAr call σ' qAV|some (.rt r)=>some (.rt r)|some (.bk q)=>some (.bk q)|some (.ct q)=>some (.ct q)|none=>none)
 | some _=>none:=by
 rw [qAP,qH5]
 rcases evE call σ c with _|⟨x,d⟩
 ·rfl
 ·cases d with
  | bl t =>
   cases t with
   | true => show (qAr call σ a).bind _ = match qAr call σ a with | some (.nx σ') => _ | some (.rt r) => _ | some (.bk q) => _ | some (.ct q) => _ | none => _
             rcases qAr call σ a with _|(_|_|_|_)<;>rfl
   | false => show (qAr call σ b).bind _ = match qAr call σ b with | some (.nx σ') => _ | some (.rt r) => _ | some (.bk q) => _ | some (.ct q) => _ | none => _
              rcases qAr call σ b with _|(_|_|_|_)<;>rfl
  | _=>rfl
@[simp 5000] theorem qK6 (tg src body):qAr call σ (.forS tg src body::qAV)=match evE call σ src with|none=>none|some x=>match qJr x.2 with|none=>none|some its=>match qA2 call body tg its σ with|some (.nx σ')=>qAr call σ' qAV|some (.rt r)=>some (.rt r)|some (.bk q)=>some (.bk q)|some (.ct q)=>some (.ct q)|none=>none:=by
 rw [qAP,qFU]
 cases evE call σ src with
 | none=>rfl
 | some x =>
  show ((qB7 x.2).bind _).bind _=match qB7 x.2 with|none=>none|some its=>_
  cases qB7 x.2 with
  | none=>rfl
  | some its =>
   show (qA2 call body tg its σ).bind _=match qA2 call body tg its σ with|some (.nx σ')=>_|some (.rt r)=>_|some (.bk q)=>_|some (.ct q)=>_|none=>_
   rcases qA2 call body tg its σ with _|(_|_|_|_)<;>rfl
@[simp 5000] theorem qK7 (tg rs body):qAr call σ (.forR tg rs body::qAV)=match qBO call σ rs with|none=>none|some x=>match qJu x with|none=>none|some its=>match qA2 call body tg its σ with|some (.nx σ')=>qAr call σ' qAV|some (.rt r)=>some (.rt r)|some (.bk q)=>some (.bk q)|some (.ct q)=>some (.ct q)|none=>none:=by
 rw [qAP,qFV]
 cases qBO call σ rs with
 | none=>rfl
 | some x =>
  show ((qEX x).bind _).bind _=match qEX x with|none=>none|some its=>_
  cases qEX x with
  | none=>rfl
  | some its =>
   show (qA2 call body tg its σ).bind _=match qA2 call body tg its σ with|some (.nx σ')=>_|some (.rt r)=>_|some (.bk q)=>_|some (.ct q)=>_|none=>_
   rcases qA2 call body tg its σ with _|(_|_|_|_)<;>rfl
theorem qKn {σ:En}{i:Nat}{xs:List D}{e:D}(h:qAg σ i=some (true,.lst xs)) (hl:xs.length<lim):qQS σ i e=some (.nx (σ.set i (some (true,.lst (xs++[e]))))):=by
 show qKo σ i e=_
 unfold qKo;rw [h];simp only;rw [if_pos hl]
section
variable {call:Nat->List D->Option R}{σ:En}{qAV:List S}{z:Option Ou}
theorem qAf {i:Nat}{keep:Bool}{e:C}(r:R) (h:evE call σ e=some r) (k:qAr call (σ.set i (some (qAM keep r))) qAV=z):qAr call σ (.set i keep e::qAV)=z:=by
 rw [qNl,h];exact k
theorem qCN {i:Nat}{e:C}{xs:List D}(r:R) (h:evE call σ e=some r) (ho:qAg σ i=some (true,.lst xs)) (hl:xs.length<lim) (k:qAr call (σ.set i (some (true,.lst (xs++[r.2])))) qAV=z):qAr call σ (.app i e::qAV)=z:=by
 rw [qNm,h];show (match qQS σ i r.2 with|some (.nx σ')=>qAr call σ' qAV|some (.rt r)=>some (.rt r)|some (.bk q)=>some (.bk q)|some (.ct q)=>some (.ct q)|none=>none)=z
 rw [qKn ho hl];exact k
theorem qPy {c:C}{a b:List S}{x:Bool}{σ':En}(h:evE call σ c=some (x,.bl true)) (ha:qAr call σ a=some (.nx σ')) (k:qAr call σ' qAV=z):qAr call σ (.ite c a b::qAV)=z:=by
 rw [qGN,h];simp only [if_true];rw [ha];exact k
theorem qQ1 {c:C}{a b:List S}{x:Bool}{σ':En}(h:evE call σ c=some (x,.bl false)) (ha:qAr call σ b=some (.nx σ')) (k:qAr call σ' qAV=z):qAr call σ (.ite c a b::qAV)=z:=by
 rw [qGN,h];simp only [Bool.false_eq_true,if_false];rw [ha];exact k
theorem qAC {c:C}{a:List S}{x:Bool}(h:evE call σ c=some (x,.bl false)) (k:qAr call σ qAV=z):qAr call σ (.ite c a []::qAV)=z:=qQ1 h rfl k
theorem qEi {c:C}{a b:List S}{x:Bool}{r:R}(h:evE call σ c=some (x,.bl true)) (ha:qAr call σ a=some (.rt r)) (k:some (.rt r)=z):qAr call σ (.ite c a b::qAV)=z:=by
 rw [qGN,h];simp only [if_true];rw [ha];exact k
theorem qCM {tg:Tg}{rs:List C}{body:List S}{ds its:List D}{σ':En}(h:qBO call σ rs=some ds) (hr:qJu ds=some its) (hf:qA2 call body tg its σ=some (.nx σ')) (k:qAr call σ' qAV=z):qAr call σ (.forR tg rs body::qAV)=z:=by
 rw [qK7,h];simp only;rw [hr];simp only;rw [hf];exact k
theorem qLo {i:Nat}{e:C}{xs ys:List D}(h:evE call σ e=some (false,.lst ys)) (ho:qAg σ i=some (true,.lst xs)) (hl:xs.length+ys.length<=lim) (k:qAr call (σ.set i (some (true,.lst (xs++ys)))) qAV=z):qAr call σ (.ext i e::qAV)=z:=by
 rw [qAP,qH6,h]
 simp only [Option.bind_some,qPE]
 rw [ho]
 simp only
 rw [if_pos hl]
 exact k
theorem qNG {c:C}{body:List S}{o:Ou}(h:qDi (fun σ'=>evE call σ' c) (fun σ'=>qAr call σ' body) big σ=some o) (k:(match o with|.nx σ'=>qAr call σ' qAV|.rt r=>some (.rt r)|.bk q=>some (.bk q)|.ct q=>some (.ct q))=z):qAr call σ (.whl c body::qAV)=z:=by
 rw [qAP,qH3,h]
 cases o<;>exact k
theorem qCo {tg:Tg}{src:C}{body:List S}{r:R}{its:List D}{σ':En}(h:evE call σ src=some r) (hr:qJr r.2=some its) (hf:qA2 call body tg its σ=some (.nx σ')) (k:qAr call σ' qAV=z):qAr call σ (.forS tg src body::qAV)=z:=by
 rw [qK6,h];simp only;rw [hr];simp only;rw [hf];exact k
theorem qAp {e:C}{r:R}(h:qDj σ e (evE call σ e)=some r) (k:some (.rt r)=z):qAr call σ (.ret e::qAV)=z:=by
 rw [qFr,h];exact k
theorem qIi {e:C}{nl:Nat}{ks:List Nat}{tg:Tg}{rs:List C}{ds its ys:List D}{σ':En}(h:qBO call σ rs=some ds) (hr:qJu ds=some its) (hl:its.length<=lim) (hc:qBm σ nl ks=σ') (hf:qAz call e σ' tg its=some ys):evE call σ (.compR e nl ks tg rs)=some (true,.lst ys):=by
 subst hc
 rw [qI5,h];simp only;rw [hr];simp only;rw [if_pos hl,hf]
theorem qA4 {e:C}{nl:Nat}{ks:List Nat}{tg:Tg}{src:C}{r:R}{its ys:List D}{σ':En}(h:evE call σ src=some r) (hr:qJr r.2=some its) (hc:qBm σ nl ks=σ') (hf:qAz call e σ' tg its=some ys):evE call σ (.compS e nl ks tg src)=some (true,.lst ys):=by
 subst hc
 rw [qI4,h];simp only;rw [hr];simp only;rw [hf]
end
end
theorem qAe {tab:List Fd}{f:Nat}{fd:Fd}{as:List D}{n:Nat}{r:R}{σ:En}(h:tab[f]?=some fd) (hl:as.length=fd.np) (hσ:agE false as++List.replicate (fd.ns - fd.np) none=σ) (hb:qAr (qAi tab n) σ fd.body=some (.rt r)) (hx:isX r=false:=by rfl):qAi tab (n+1) f as=some r:=by
 subst hσ
 rw [qCH h,qP3,qGJ,if_pos hl,hb]
 simp [hx]
end Dw
namespace Dw.T
open Dw
section
variable {call:Nat->List D->Option R}{body:List S}{tg:Tg}
theorem qEF (I:Nat->En->Prop):∀(its:List D) (a:Nat) (σ:En),I a σ ->
  (∀(k:Nat) (d:D) (σ:En),its[k]?=some d->I (a+k) σ->∃σ1 σ2,qBz σ tg d=some σ1/\qAr call σ1 body=some (.nx σ2)/\I (a+k+1) σ2) ->
  ∃σ',qA2 call body tg its σ=some (.nx σ')/\I (a+its.length) σ'
 | [],a,σ,h,_=>⟨σ,rfl,by simpa using h⟩
 | d::r,a,σ,h,st=>by
  obtain⟨σ1,σ2,h1,h2,h3⟩:=st 0 d σ rfl (by simpa using h)
  obtain⟨σ',e,h'⟩:=qEF I r (a+1) σ2 (by simpa using h3) λk d σ hk hi=>by
   have:=st (k+1) d σ (by simpa using hk) (by rw [show a+(k+1)=a+1+k by omega];exact hi)
   rw [show a+(k+1)+1=a+1+k+1 by omega] at this
   exact this
  refine⟨σ',?_,?_⟩
  ·rw [qBa,h1];simp [h2,e]
  ·rw [show a+(d::r).length=a+1+r.length by simp;omega];exact h'
theorem qBp (I:Nat->En->Prop) (m:Nat) (f:Nat->D) (σ:En) (h:I 0 σ)
  (st:∀(k:Nat) (σ:En),k<m->I k σ->∃σ1 σ2,qBz σ tg (f k)=some σ1/\qAr call σ1 body=some (.nx σ2)/\I (k+1) σ2) :
  ∃σ',qA2 call body tg ((List.range m).map f) σ=some (.nx σ')/\I m σ':=by
 obtain⟨σ',e,h'⟩:=qEF (call:=call) (body:=body) (tg:=tg) I ((List.range m).map f) 0 σ h λk d σ hk hi=>by
  rw [List.getElem?_map] at hk
  cases q:(List.range m)[k]? with
  | none=>rw [q] at hk;cases hk
  | some j =>
   rw [q] at hk
   obtain⟨hl,ej⟩:=List.getElem?_eq_some_iff.mp q
   simp at hl ej
   subst ej
   cases hk
   simpa using st k σ hl (by simpa using hi)
 exact⟨σ',e,by simpa using h'⟩
end
noncomputable def bx (m:Nat) (f:Nat->D):List D:=(List.range m).map f
theorem qPb {m:Nat}(f:Nat->D) {j:Nat}(h:j<m):(bx m f)[j]?=some (f j):=by simp [bx,h]
theorem qEy {m:Nat}(f:Nat->D) {j:Nat}(h:j<m):ixQ (bx m f) (j:Int)=some (f j):=by
 rw [qDT,qPb f h]
theorem qGL (m:Nat) (f g:Nat->D):qCn (bx m f) (bx m g)=(List.range m).map λj=>.tup [f j,g j]:=by
 unfold bx
 generalize List.range m=l
 induction l with
 | nil=>rfl
 | cons x r ih=>simp only [List.map_cons,qCn,List.zipWith_cons_cons] at ih ⊢;rw [ih]
noncomputable def qB2 (ns:List Int) (k:Nat):Int:=(ns[k]?).getD 0
noncomputable abbrev P2:=Int×Int
noncomputable def side (p:P2):D:=.tup [.int p.1,.int p.2]
noncomputable def qAI (m:Nat) (f:Nat->P2):D:=.tup (bx m λj=>side (f j))
theorem qD3 {call:Nat->List D->Option R}{e:C}{m:Nat}{F G:Nat->D}(g:Nat->D)
  (h:∀j,j<m->∃b,evE call [some (false,F j),some (false,G j)] e=some (b,g j)) :
  qAz call e [none,none] (.two 0 1) (qCn (bx m F) (bx m G))=some (bx m g):=by
 rw [qGL]
 exact qAs call [none,none] (e:=e) (tg:=.two 0 1) (λj=>.tup [F j,G j]) g (List.range m) λj hj=>by
  obtain⟨b,hb⟩:=h j (List.mem_range.mp hj)
  exact⟨_,b,rfl,hb⟩
theorem qJq (m:Nat) (f:Nat->P2):qJr (qAI m f)=some (bx m λj=>side (f j)):=rfl
theorem qGa {call:Nat->List D->Option R}{e:C}{m:Nat}{r:List (Option R)}(g:Nat->D) (h:∀j:Nat,j<m->∃b,evE call (some (false,.int (j:Int))::r) e=some (b,g j)) :
  qAz call e (none::r) (.one 0) ((List.range m).map λi=>.int (i:Nat))=some (bx m g):=
 qAs call (none::r) (e:=e) (tg:=.one 0) (λi:Nat=>.int (i:Nat)) g (List.range m) λj hj=>by
  obtain⟨b,hb⟩:=h j (List.mem_range.mp hj)
  exact⟨_,b,rfl,hb⟩
theorem qF9 {call:Nat->List D->Option R}{e:C}{m:Nat}{r:List (Option R)}(f g:Nat->D) (h:∀j:Nat,j<m->∃b,evE call (some (false,f j)::r) e=some (b,g j)) :
  qAz call e (none::r) (.one 0) (bx m f)=some (bx m g):=
 qAs call (none::r) (e:=e) (tg:=.one 0) f g (List.range m) λj hj=>by
  obtain⟨b,hb⟩:=h j (List.mem_range.mp hj)
  exact⟨_,b,rfl,hb⟩
theorem qIn (xs:List D) (a b:Nat) (h:a<=b):qGK xs (some (a:Int)) (some (b:Int))=(xs.drop a).take (b - a):=by
 simp only [qGK,qJ9,cutAt]
 rw [if_neg (by omega),if_neg (by omega)]
 simp only [Int.toNat_natCast]
 by_cases h1:a<=xs.length
 ·rw [Nat.min_eq_left h1]
  by_cases h2:b<=xs.length
  ·rw [Nat.min_eq_left h2]
  ·rw [Nat.min_eq_right (by omega)]
   rw [List.take_of_length_le (by simp),List.take_of_length_le (by simp;omega)]
 ·rw [Nat.min_eq_right (by omega:xs.length<=a),Nat.min_eq_right (by omega:xs.length<=b)]
  simp [List.drop_eq_nil_of_le (show xs.length<=a by omega)]
theorem qJ8 (ns:List Int) (a b:Nat) (h:a<=b):qGK (ns.map .int) (some (a:Int)) (some (b:Int))=((ns.drop a).take (b - a)).map .int:=by
 rw [qIn _ _ _ h,<-List.map_drop,<-List.map_take]
section
variable {call:Nat->List D->Option R}{σ:En}
theorem qEG {o:COp}{a b:C}{x y:D}{r:Option R}(ha:pk σ a (evE call σ a)=some x) (hb:pk σ b (evE call σ b)=some y) (h:qEH o x y=r):evE call σ (.cmp o a b)=r:=by
 rw [qBd,ha];simp only;rw [hb];exact h
theorem qBl {o:BI}{a:C}{x:D}{r:Option R}(ha:pk σ a (evE call σ a)=some x) (h:biP o [x]=r):evE call σ (.bi o [a])=r:=by
 rw [qAX,qAk,ha];exact h
theorem qBu {e nl ks tg rs}{r:R}(h:evE call σ (.compS e nl ks tg rs)=some r):pk σ (.compS e nl ks tg rs) (evE call σ (.compS e nl ks tg rs))=some r.2:=by rw [h];rfl
theorem qEp {o as}{r:R}(h:evE call σ (.bi o as)=some r):pk σ (.bi o as) (evE call σ (.bi o as))=some r.2:=by rw [h];rfl
theorem qL4 {o as}{r:R}(h:evE call σ (.call o as)=some r):pk σ (.call o as) (evE call σ (.call o as))=some r.2:=by rw [h];rfl
theorem qDM {a b}{r:R}(h:evE call σ (.ix a b)=some r):pk σ (.ix a b) (evE call σ (.ix a b))=some r.2:=by rw [h];rfl
theorem qN7 {a}{r:R}(h:evE call σ (.tup a)=some r):pk σ (.tup a) (evE call σ (.tup a))=some r.2:=by rw [h];rfl
theorem qCx {a b:C}{x y:D}{r:Option R}(ha:pk σ a (evE call σ a)=some x) (hb:pk σ b (evE call σ b)=some y) (h:ixP x y=r):evE call σ (.ix a b)=r:=by
 rw [qA7,ha];simp only;rw [hb];exact h
theorem qFk {e:C}{nl:Nat}{ks:List Nat}{tg:Tg}{a b:C}{x y:R}{xs ys zs:List D}{σ':En}(ha:evE call σ a=some x) (hb:evE call σ b=some y) (hx:qJr x.2=some xs) (hy:qPK y.2=some ys) (hc:qBm σ nl ks=σ') (hf:qAz call e σ' tg (qCn xs ys)=some zs):evE call σ (.compZ e nl ks tg a b)=some (true,.lst zs):=by
 subst hc
 rw [qI3,ha];simp only;rw [hb];simp only;rw [hx];simp only;rw [hy];simp only;rw [hf]
end
section
variable {call:Nat->List D->Option R}{σ:En}{qAV:List S}{z:Option Ou}
theorem qCS {m:Nat}(hs:m<=10000):qJu [.int (m:Int)]=some ((List.range m).map λi=>.int (i:Nat)):=qNV m hs
end
theorem qHK (l j:Nat) (h:j<l):ixN l (j:Int)=some j:=by
 unfold ixN;rw [if_pos (by omega),if_pos (by omega)];simp
end Dw.T
namespace Dw.T
open Dw
theorem qNe (a b:Int) (h:a.natAbs<2^64):qEs a b=true:=decide_eq_true (.inr (.inl h))
theorem qPB (a b:Int) (h:b.natAbs<2^64):qEs a b=true:=decide_eq_true (.inr (.inr (.inl h)))
theorem qO0 (b:Int) (h0:b≠0) (h:b.natAbs<2^240):qBr b=true:=decide_eq_true ⟨h0,.inl h⟩
theorem qDX (a m:Int) (h:0<m):0<=a.fmod m/\a.fmod m<m:=by
 rw [Int.fmod_eq_emod_of_nonneg _ (by omega:0<=m)]
 exact⟨Int.emod_nonneg _ (by omega),Int.emod_lt_of_pos _ h⟩
noncomputable abbrev Q4:=Int×Int×Int×Int
structure To where
 c:Nat->Q4
 h:Nat->Q4
 so:Nat
 ev:Nat
 n:Int
 mn:Int
 mx:Int
 su:Int
noncomputable def qj (a b:Q4):Q4:=(min a.1 b.1,max a.2.1 b.2.1,min a.2.2.1 b.2.2.1,max a.2.2.2 b.2.2.2)
noncomputable def qn (a b:Q4):Q4:=(max a.1 b.1,min a.2.1 b.2.1,max a.2.2.1 b.2.2.1,min a.2.2.2 b.2.2.2)
noncomputable def qGb (a b:To):To:=⟨λj=>qj (a.c j) (b.c j),λj=>qn (a.h j) (b.h j),a.so ||| b.so,a.ev &&& b.ev,a.n+b.n,min a.mn b.mn,max a.mx b.mx,a.su+b.su⟩
theorem qJy (a b c:Q4):qj (qj a b) c=qj a (qj b c):=by
 unfold qj
 simp only [Int.min_assoc,Int.max_assoc]
theorem qJx (a b c:Q4):qn (qn a b) c=qn a (qn b c):=by
 unfold qn
 simp only [Int.min_assoc,Int.max_assoc]
theorem qGD (a b c:To):qGb (qGb a b) c=qGb a (qGb b c):=by
 unfold qGb
 simp only [To.mk.injEq]
 exact⟨funext λj=>qJy _ _ _,funext λj=>qJx _ _ _,Nat.or_assoc _ _ _,Nat.and_assoc _ _ _,Int.add_assoc _ _ _,Int.min_assoc _ _ _,Int.max_assoc _ _ _,Int.add_assoc _ _ _⟩
noncomputable def oc:Option To->Option To->Option To
 | none,b=>b
 | some a,none=>some a
 | some a,some b=>some (qGb a b)
theorem qMm (a:Option To):oc a none=a:=by cases a<;>rfl
theorem qJL (a b c:Option To):oc (oc a b) c=oc a (oc b c):=by
 cases a<;>cases b<;>cases c<;>first|rfl|exact congrArg some (qGD _ _ _)
noncomputable def fo (l:List (Option To)):Option To:=l.foldl oc none
theorem qDW:∀(l:List (Option To)) (a:Option To),l.foldl oc a=oc a (fo l)
 | [],a=>(qMm a).symm
 | x::l,a=>by
  show l.foldl oc (oc a x)=oc a (l.foldl oc (oc none x))
  rw [qDW l (oc a x),qDW l (oc none x),qJL]
  rfl
theorem qMM (x:Option To) (l:List (Option To)):fo (x::l)=oc x (fo l):=qDW l x
theorem qOW (l r:List (Option To)):fo (l++r)=oc (fo l) (fo r):=by
 unfold fo
 rw [List.foldl_append,qDW]
 rfl
noncomputable def q4 (q:Q4):D:=.tup [.int q.1,.int q.2.1,.int q.2.2.1,.int q.2.2.2]
noncomputable def toD (m:Nat) (t:To):D:=.tup [.tup (bx m λj=>q4 (t.c j)),.tup (bx m λj=>q4 (t.h j)),.int (t.so:Int),.int (t.ev:Int),.int t.n,.int t.mn,.int t.mx,.int t.su]
noncomputable def oD (m:Nat):Option To->D
 | none=>.non
 | some t=>toD m t
theorem ix4 (a b c d e f g h:D):ixQ [a,b,c,d,e,f,g,h] 4=some e:=rfl
theorem ix5 (a b c d e f g h:D):ixQ [a,b,c,d,e,f,g,h] 5=some f:=rfl
theorem ix6 (a b c d e f g h:D):ixQ [a,b,c,d,e,f,g,h] 6=some g:=rfl
theorem ix7 (a b c d e f g h:D):ixQ [a,b,c,d,e,f,g,h] 7=some h:=rfl
section
variable {call:Nat->List D->Option R}
theorem qCE {α β:Type}{tg:Tg}{body:List S}(enc:α->D) (f:β->α->β) (I:β->En->Prop):∀(l:List α) (s:β) (σ:En),I s σ ->
  (∀x∈l,∀s σ,I s σ->∃σ1 σ2,qBz σ tg (enc x)=some σ1/\qAr call σ1 body=some (.nx σ2)/\I (f s x) σ2)->∃σ',qA2 call body tg (l.map enc) σ=some (.nx σ')/\I (l.foldl f s) σ'
 | [],s,σ,h,_=>⟨σ,rfl,h⟩
 | x::l,s,σ,h,st=>by
  obtain⟨σ1,σ2,h1,h2,h3⟩:=st x List.mem_cons_self s σ h
  obtain⟨σ',e,h'⟩:=qCE enc f I l (f s x) σ2 h3 λy hy=>st y (List.mem_cons_of_mem _ hy)
  exact⟨σ',by rw [List.map_cons,qBa,h1];simp [h2,e],h'⟩
theorem qRi (a b:Q4):qAr call [some (false,q4 a),some (false,q4 b)] f_side_joined.body=some (.rt (false,q4 (qj a b))):=by
 unfold f_side_joined q4 qj
 simp only [qFr,qDj,qBc,qAG,qAX,qAk,pk,qA7,qAg,List.getElem?_cons_zero,Option.join_some,Option.bind_some,pkR,qBf,Option.map_some,qBR,qDV,List.getElem?_cons_succ,qAl,qDd,qHJ,qCd,qDU,qME,qAq,List.length_cons,List.length_nil,Nat.reduceAdd,qQ5,↓reduceIte]
theorem qRh (a b:Q4):qAr call [some (false,q4 a),some (false,q4 b)] f_side_narrowed.body=some (.rt (false,q4 (qn a b))):=by
 unfold f_side_narrowed q4 qn
 simp only [qFr,qDj,qBc,qAG,qAX,qAk,pk,qA7,qAg,List.getElem?_cons_zero,Option.join_some,Option.bind_some,pkR,qBf,Option.map_some,qBR,qDV,List.getElem?_cons_succ,qAl,qCd,qHJ,qDd,qDU,qME,qAq,List.length_cons,List.length_nil,Nat.reduceAdd,qQ5,↓reduceIte]
theorem qRm (B:∀a b,call 4 [q4 a,q4 b]=some (false,q4 (qj a b))) (m:Nat) (f g:Nat->Q4):qAr call [some (false,.tup (bx m λj=>q4 (f j))),some (false,.tup (bx m λj=>q4 (g j)))] f_frames_joined.body=some (.rt (false,.tup (bx m λj=>q4 (qj (f j) (g j))))):=by
 refine qAp (r:=(false,.tup (bx m λj=>q4 (qj (f j) (g j))))) ?_ rfl
 have hc:=qFk (call:=call) (σ:=[some (false,.tup (bx m λj=>q4 (f j))),some (false,.tup (bx m λj=>q4 (g j)))]) (e:=(.call 4 [(.v 0),(.v 1)])) (nl:=2) (ks:=[]) (tg:=.two 0 1) (a:=.v 0) (b:=.v 1) (x:=(false,.tup (bx m λj=>q4 (f j)))) (y:=(false,.tup (bx m λj=>q4 (g j)))) rfl rfl rfl rfl rfl
  (qD3 (λj=>q4 (qj (f j) (g j))) λj hj=>⟨false,by simp only [qAo,qAn,ag,qAg,List.getElem?_cons_zero,Option.join_some,Option.bind_some,agR,List.getElem?_cons_succ,qAm,B]⟩)
 refine qBl (x:=.lst (bx m λj=>q4 (qj (f j) (g j)))) ?_ rfl
 show (evE call _ (.compZ _ _ _ _ _ _)).map (·.2)=_
 rw [hc]
 rfl
theorem qRl (B:∀a b,call 5 [q4 a,q4 b]=some (false,q4 (qn a b))) (m:Nat) (f g:Nat->Q4):qAr call [some (false,.tup (bx m λj=>q4 (f j))),some (false,.tup (bx m λj=>q4 (g j)))] f_frames_narrowed.body=some (.rt (false,.tup (bx m λj=>q4 (qn (f j) (g j))))):=by
 refine qAp (r:=(false,.tup (bx m λj=>q4 (qn (f j) (g j))))) ?_ rfl
 have hc:=qFk (call:=call) (σ:=[some (false,.tup (bx m λj=>q4 (f j))),some (false,.tup (bx m λj=>q4 (g j)))]) (e:=(.call 5 [(.v 0),(.v 1)])) (nl:=2) (ks:=[]) (tg:=.two 0 1) (a:=.v 0) (b:=.v 1) (x:=(false,.tup (bx m λj=>q4 (f j)))) (y:=(false,.tup (bx m λj=>q4 (g j)))) rfl rfl rfl rfl rfl
  (qD3 (λj=>q4 (qn (f j) (g j))) λj hj=>⟨false,by simp only [qAo,qAn,ag,qAg,List.getElem?_cons_zero,Option.join_some,Option.bind_some,agR,List.getElem?_cons_succ,qAm,B]⟩)
 refine qBl (x:=.lst (bx m λj=>q4 (qn (f j) (g j)))) ?_ rfl
 show (evE call _ (.compZ _ _ _ _ _ _)).map (·.2)=_
 rw [hc]
 rfl
theorem qNy (m:Nat) (J:∀f g:Nat->Q4,call 7 [.tup (bx m λj=>q4 (f j)),.tup (bx m λj=>q4 (g j))]=some (false,.tup (bx m λj=>q4 (qj (f j) (g j))))) (N:∀f g:Nat->Q4,call 8 [.tup (bx m λj=>q4 (f j)),.tup (bx m λj=>q4 (g j))]=some (false,.tup (bx m λj=>q4 (qn (f j) (g j)))))
  (a b:Option To):qAr call [some (false,oD m a),some (false,oD m b)] f_told_poured.body=some (.rt (false,oD m (oc a b))):=by
 cases a with
 | none=>exact qEi (x:=false) (r:=(false,oD m b)) rfl (qAp (r:=(false,oD m b)) rfl rfl) rfl
 | some a =>
  cases b with
  | none=>exact qAC (x:=false) rfl (qEi (x:=false) (r:=(false,toD m a)) rfl (qAp (r:=(false,toD m a)) rfl rfl) rfl)
  | some b =>
   refine qAC (x:=false) rfl (qAC (x:=false) rfl ?_)
   have l8:8<=lim:=qAB (by decide)
   have z1:(0:Int)<=(a.so:Int)/\(0:Int)<=(b.so:Int):=by omega
   have z2:(0:Int)<=(a.ev:Int)/\(0:Int)<=(b.ev:Int):=by omega
   refine qAp (r:=(false,toD m (qGb a b))) ?_ rfl
   show evE call [some (false,toD m a),some (false,toD m b)] _=_
   unfold toD qGb
   simp only [qBc,qAG,qAo,qAn,ag,qA7,pk,qAg,List.getElem?_cons_zero,Option.join_some,Option.bind_some,pkR,qBf,Option.map_some,qBR,qDV,List.getElem?_cons_succ,qAm,J,qHJ,N,qAA,qDU,qGh,z1,and_self,↓reduceIte,Int.toNat_natCast,qME,qET,z2,ix4,qAF,qAX,qAk,ix5,qAl,qDd,ix6,qCd,ix7,qAq,List.length_cons,List.length_nil,Nat.reduceAdd,l8]
theorem qLf (m:Nat) (T:∀a b,call 14 [oD m a,oD m b]=some (false,oD m (oc a b))) (l:List (Option To)):qAr call [some (false,.tup (l.map (oD m))),none,none] f_tolds_poured.body=some (.rt (false,oD m (fo l))):=by
 refine qAf (false,.non) rfl ?_
 obtain⟨σ',h',hσ⟩:=qCE (call:=call) (tg:=.one 2) (body:=[.set 1 false (.call 14 [(.v 1),(.v 2)])]) (oD m) oc (λs σ=>∃o2,σ=[some (false,.tup (l.map (oD m))),some (false,oD m s),o2]) l none [some (false,.tup (l.map (oD m))),some (false,.non),none] ⟨_,rfl⟩ (by
  rintro x hx s σ ⟨o2,rfl⟩
  exact⟨_,_,rfl,qAf (false,oD m (oc s x)) (by simp only [List.set_cons_succ,List.set_cons_zero,qAo,qAn,ag,qAg,List.getElem?_cons_succ,List.getElem?_cons_zero,Option.join_some,Option.bind_some,agR,qAm,T]) rfl,_,rfl⟩)
 obtain⟨o2,rfl⟩:=hσ
 refine qCo (r:=(false,.tup (l.map (oD m)))) rfl rfl h' ?_
 exact qAp (r:=(false,oD m (fo l))) rfl rfl
end
structure Th where
 hd:Int
 sw:Nat->Int×Int×Int
 mr:Nat
 wo:Int
 mb:mr<65536
noncomputable def sD (p:Int×Int×Int):D:=.tup [.int p.1,.int p.2.1,.int p.2.2,.int p.2.2]
noncomputable def thD (m:Nat) (t:Th):D:=.tup [.int t.hd,.tup (bx m λj=>sD (t.sw j)),.int (t.mr:Int),.int t.wo]
noncomputable def one (t:Th):To:=⟨λj=>((t.sw j).1,(t.sw j).2.1,(t.sw j).2.2,(t.sw j).2.2),λj=>((t.sw j).1,(t.sw j).2.1,(t.sw j).2.2,(t.sw j).2.2),t.mr,t.mr,1,t.wo,t.wo,t.wo⟩
noncomputable def po (t:Th) (ts:List Th):To:=(ts.map one).foldl qGb (one t)
noncomputable def qAZ (L:List Th):Option To:=fo (L.map λt=>some (one t))
theorem qHZ:∀(l:List To) (a:To),(l.map some).foldl oc (some a)=some (l.foldl qGb a)
 | [],_=>rfl
 | x::l,a=>qHZ l (qGb a x)
theorem qEo (t:Th) (ts:List Th):qAZ (t::ts)=some (po t ts):=by
 unfold po qAZ
 rw [<-qHZ,List.map_map]
 rfl
theorem qJA (L M:List Th):qAZ (L++M)=oc (qAZ L) (qAZ M):=by
 unfold qAZ
 rw [List.map_append,qOW]
theorem qCV:∀ls:List (List Th),qAZ ls.flatten=fo (ls.map qAZ)
 | []=>rfl
 | L::ls=>by rw [List.flatten_cons,qJA,qCV ls,List.map_cons,qMM]
theorem qHX {β:Type}(π:To->β) (op:β->β->β) (h:∀a b,π (qGb a b)=op (π a) (π b)):∀(l:List To) (a:To),π (l.foldl qGb a)=(l.map π).foldl op (π a)
 | [],_=>rfl
 | x::l,a=>by
  rw [List.foldl_cons,qHX π op h l,h]
  rfl
theorem pr {β:Type}(π:To->β) (op:β->β->β) (h:∀a b,π (qGb a b)=op (π a) (π b)) (t:Th) (ts:List Th):π (po t ts)=(ts.map λt=>π (one t)).foldl op (π (one t)):=by
 unfold po
 rw [qHX π op h,List.map_map]
 rfl
theorem qHB (x:Int) (r:List Int):mnL (x::r)=some (r.foldl min x):=by
 have e:(λm x:Int=>if x<m then x else m)=min:=by
  funext m x
  split<;>omega
 show some (List.foldl (λm x:Int=>if x<m then x else m) x r)=_
 rw [e]
theorem qHy (x:Int) (r:List Int):mxL (x::r)=some (r.foldl max x):=by
 have e:(λm x:Int=>if m<x then x else m)=max:=by
  funext m x
  split<;>omega
 show some (List.foldl (λm x:Int=>if m<x then x else m) x r)=_
 rw [e]
theorem qFv:∀(l:List Int) (a:Int),l.foldl (·+·) a=a+l.sum
 | [],a=>by simp
 | x::l,a=>by rw [List.foldl_cons,qFv l,List.sum_cons];omega
theorem qGc (a:Int):∀(l:List Th) (b:Int),(l.map λ_=>a).foldl (·+·) b=b+a * l.length
 | [],b=>by simp
 | x::l,b=>by
  rw [List.map_cons,List.foldl_cons,qGc a l,List.length_cons,Int.natCast_add,Int.mul_add]
  omega
theorem th1 (m:Nat) (t:Th):ixP (thD m t) (.int 1)=some (false,.tup (bx m λj=>sD (t.sw j))):=rfl
theorem th2 (m:Nat) (t:Th):ixP (thD m t) (.int 2)=some (false,.int (t.mr:Int)):=rfl
theorem th3 (m:Nat) (t:Th):ixP (thD m t) (.int 3)=some (false,.int t.wo):=rfl
theorem qP2 (p:Int×Int×Int):sD p=q4 (p.1,p.2.1,p.2.2,p.2.2):=rfl
theorem qFb {α:Type}{xs:List α}{m:Nat}(h:xs.length=m) (d:α) (f:α->D):xs.map f=bx m λj=>f (xs.getD j d):=by
 subst h
 unfold bx
 refine List.ext_getElem (by simp) λi h1 h2=>?_
 have h3:i<xs.length:=by simpa using h1
 simp [h3]
noncomputable def lfS:D:=.str (PySem.Str.ofString "leaf")
noncomputable def fkS:D:=.str (PySem.Str.ofString "fork")
theorem qM9 (x:Nat) (h:x<65536):65535 &&& x=x:=by
 rw [Nat.and_comm]
 exact Nat.and_two_pow_sub_one_of_lt_two_pow (n:=16) h
section
variable {call:Nat->List D->Option R}
theorem qRf (m:Nat) (t:Th) (C4:call 9 [thD m t]=some (false,.tup (bx m λj=>sD (t.sw j)))) (C5:call 10 [thD m t]=some (false,.int (t.mr:Int))) (C6:call 11 [thD m t]=some (false,.int t.wo)) :
  qAr call [some (false,thD m t),none,none,none] f_thing_told.body=some (.rt (false,toD m (one t))):=by
 have l8:8<=lim:=qAB (by decide)
 refine qAf _ (show evE call _ (.call 9 [(.v 0)])=some (false,.tup (bx m λj=>sD (t.sw j))) by simp only [qAo,qAn,ag,qAg,List.getElem?_cons_zero,Option.join_some,Option.bind_some,agR,qAm,C4]) ?_
 refine qAf _ (show evE call _ (.call 10 [(.v 0)])=some (false,.int (t.mr:Int)) by simp only [qAM,Bool.and_false,List.set_cons_succ,List.set_cons_zero,qAo,qAn,ag,qAg,List.getElem?_cons_zero,Option.join_some,Option.bind_some,agR,qAm,C5]) ?_
 refine qAf _ (show evE call _ (.call 11 [(.v 0)])=some (false,.int t.wo) by simp only [qAM,Bool.and_false,List.set_cons_succ,List.set_cons_zero,qAo,qAn,ag,qAg,List.getElem?_cons_zero,Option.join_some,Option.bind_some,agR,qAm,C6]) ?_
 exact qAp (r:=(false,toD m (one t))) (by simp only [qDj,qAM,Bool.and_false,List.set_cons_succ,List.set_cons_zero,qBc,qAG,qIW,qCp,qAg,List.getElem?_cons_succ,List.getElem?_cons_zero,Option.join_some,qBf,qAq,List.length_cons,List.length_nil,Nat.reduceAdd,l8,↓reduceIte];rfl) rfl
theorem qPM (m:Nat) (L:List Th) (C7:∀t,call 13 [thD m t]=some (false,toD m (one t))):qAr call [some (false,.tup (L.map (thD m)))] f_things_tolds.body=some (.rt (false,.tup ((L.map λt=>some (one t)).map (oD m)))):=by
 have hc:=qA4 (call:=call) (σ:=[some (false,.tup (L.map (thD m)))]) (e:=(.call 13 [(.v 0)])) (nl:=1) (ks:=[]) (tg:=.one 0) (src:=.v 0) (r:=(false,.tup (L.map (thD m)))) rfl rfl rfl
  (qAs call _ (thD m) (λt=>toD m (one t)) L λt _=>⟨_,false,rfl,by simp only [qBm,List.replicate_succ,List.replicate_zero,qAg,List.map_nil,List.cons_append,List.nil_append,List.set_cons_zero,qAo,qAn,ag,List.getElem?_cons_zero,Option.join_some,Option.bind_some,agR,qAm,C7]⟩)
 rw [List.map_map]
 exact qAp (r:=(false,.tup (L.map λt=>toD m (one t)))) (qBl (qBu hc) rfl) rfl
theorem qIO {σ:En} {a b}{r:R}(h:evE call σ (.ix a b)=some r):ag σ (.ix a b) (evE call σ (.ix a b))=some r.2:=by rw [h];rfl
theorem qBL {σ:En} {a b}{r:R}(h:evE call σ (.call a b)=some r):ag σ (.call a b) (evE call σ (.call a b))=some r.2:=by rw [h];rfl
theorem qAR {σ:En}{f:Nat}{a:C}{d:D}{r:Option R}(h:ag σ a (evE call σ a)=some d) (hc:call f [d]=r):evE call σ (.call f [a])=r:=by
 rw [qBk,qAH,h,Option.bind_some,qAm,Option.bind_some]
 exact hc
end
section
variable {call:Nat->List D->Option R}{σ:En}{qAV:List S}{z:Option Ou}
theorem qEx {d x:D}{i:Int}(h:ixP d (.int i)=some (false,x)):qAr call [some (false,d)] [.ret (.ix (.v 0) (.k (.int i)))]=some (.rt (false,x)):=qAp (r:=(false,x)) (qCx rfl rfl h) rfl
end
inductive Pg where
 | lf (o:Option To) (L:List Th)
 | fk (o:Option To) (ps:List Pg)
noncomputable def Pg.o:Pg->Option To
 | .lf o _=>o
 | .fk o _=>o
noncomputable def Pg.isLf:Pg->Bool
 | .lf _ _=>true
 | .fk _ _=>false
mutual
noncomputable def pgD (m:Nat):Pg->D
 | .lf o L=>.tup [lfS,oD m o,.tup (L.map (thD m))]
 | .fk o ps=>.tup [fkS,oD m o,.tup (qL6 m ps)]
termination_by structural p=>p
noncomputable def qL6 (m:Nat):List Pg->List D
 | []=>[]
 | p::ps=>pgD m p::qL6 m ps
termination_by structural p=>p
end
theorem qFJ (m:Nat):∀ps:List Pg,qL6 m ps=ps.map (pgD m)
 | []=>rfl
 | p::ps=>by rw [List.map_cons,<-qFJ m ps];rfl
noncomputable def prD (m:Nat):Pg->List D
 | .lf _ L=>L.map (thD m)
 | .fk _ ps=>ps.map (pgD m)
noncomputable def kdS:Pg->D
 | .lf _ _=>lfS
 | .fk _ _=>fkS
theorem qCv (m:Nat) (p:Pg):pgD m p=.tup [kdS p,oD m p.o,.tup (prD m p)]:=by
 cases p with
 | lf o L=>rfl
 | fk o ps=>show D.tup [fkS,oD m o,.tup (qL6 m ps)]=_;rw [qFJ];rfl
theorem pg0 (m:Nat) (p:Pg):ixP (pgD m p) (.int 0)=some (false,kdS p):=by rw [qCv];rfl
theorem pg1 (m:Nat) (p:Pg):ixP (pgD m p) (.int 1)=some (false,oD m p.o):=by rw [qCv];rfl
theorem pg2 (m:Nat) (p:Pg):ixP (pgD m p) (.int 2)=some (false,.tup (prD m p)):=by rw [qCv];rfl
theorem qQD:qEH .eq fkS lfS=some (false,.bl false):=by
 have h:eqD fkS lfS=false:=by decide
 show some (false,D.bl (eqD fkS lfS))=_
 rw [h]
theorem qQt:qEH .eq lfS fkS=some (false,.bl false):=by
 have h:eqD lfS fkS=false:=by decide
 show some (false,D.bl (eqD lfS fkS))=_
 rw [h]
theorem qOB:qEH .eq lfS lfS=some (false,.bl true):=by
 have h:eqD lfS lfS=true:=by decide
 show some (false,D.bl (eqD lfS lfS))=_
 rw [h]
theorem qQE:qEH .eq fkS fkS=some (false,.bl true):=by
 have h:eqD fkS fkS=true:=by decide
 show some (false,D.bl (eqD fkS fkS))=_
 rw [h]
theorem qQv (p:Pg):qEH .eq (kdS p) lfS=some (false,.bl p.isLf):=by
 cases p with
 | lf _ _=>exact qOB
 | fk _ _=>exact qQD
theorem qNb (m:Nat) (p:Pg):agE false [pgD m p]=[some (false,pgD m p)]:=by rw [qCv];rfl
theorem qGj (m:Nat) (p:Pg) (ds:List D):agE false (pgD m p::ds)=some (false,pgD m p)::agE false ds:=by rw [qCv];rfl
theorem qKU (n m:Nat) (p:Pg):qAi tab (n+1) 23 [pgD m p]=some (false,.bl p.isLf):=
 qAe (σ:=[some (false,pgD m p)]) t23 rfl (by rw [qNb]<;>rfl) (qAp (r:=(false,.bl p.isLf)) (qEG (qDM (qCx rfl rfl (pg0 m p))) rfl (qQv p)) rfl)
theorem qR0 (n m:Nat) (p:Pg):qAi tab (n+1) 24 [pgD m p]=some (false,oD m p.o):=qAe t24 rfl (by rw [qNb]<;>rfl) (qEx (pg1 m p)) (by cases p.o<;>rfl)
theorem qRa (n m:Nat) (p:Pg):qAi tab (n+1) 25 [pgD m p]=some (false,.tup (prD m p)):=qAe t25 rfl (by rw [qNb]<;>rfl) (qEx (pg2 m p))
theorem qO6 (n m:Nat) (a b:Option To):qAi tab (n+3) 14 [oD m a,oD m b]=some (false,oD m (oc a b)):=by
 have ea:agE false [oD m a,oD m b]=[some (false,oD m a),some (false,oD m b)]:=by cases a<;>cases b<;>rfl
 exact qAe t14 rfl (by rw [ea];rfl) (qNy m (λf g=>qAe t7 rfl rfl (qRm (λa b=>qAe t4 rfl rfl (qRi a b)) m f g)) (λf g=>qAe t8 rfl rfl (qRl (λa b=>qAe t5 rfl rfl (qRh a b)) m f g)) a b) (by cases oc a b<;>rfl)
theorem qIE (n m:Nat) (l:List (Option To)):qAi tab (n+4) 15 [.tup (l.map (oD m))]=some (false,oD m (fo l)):=qAe t15 rfl rfl (qLf m (qO6 n m) l) (by cases fo l<;>rfl)
theorem qQ8 (n m:Nat) (t:Th):qAi tab (n+2) 13 [thD m t]=some (false,toD m (one t)):=
 qAe t13 rfl rfl (qRf m t (qAe t9 rfl rfl (qEx (th1 m t))) (qAe t10 rfl rfl (qEx (th2 m t))) (qAe t11 rfl rfl (qEx (th3 m t))))
theorem qO4 (n m:Nat) (L:List Th):qAi tab (n+3) 26 [.tup (L.map (thD m))]=some (false,.tup ((L.map λt=>some (one t)).map (oD m))):=
 qAe t26 rfl rfl (qPM m L λt=>qQ8 n m t)
theorem qM0 (n m:Nat) (ps:List Pg):qAi tab (n+2) 27 [.tup (ps.map (pgD m))]=some (false,.tup ((ps.map (·.o)).map (oD m))):=by
 have hc:=qA4 (call:=qAi tab (n+1)) (σ:=[some (false,.tup (ps.map (pgD m)))]) (e:=(.call 24 [(.v 0)])) (nl:=1) (ks:=[]) (tg:=.one 0) (src:=.v 0) (r:=(false,.tup (ps.map (pgD m)))) rfl rfl rfl
  (qAs (qAi tab (n+1)) _ (pgD m) (λp=>oD m p.o) ps λp _=>⟨_,false,rfl,qAR rfl (qR0 n m p)⟩)
 rw [List.map_map]
 exact qAe t27 rfl rfl (qAp (r:=(false,.tup (ps.map λp=>oD m p.o))) (qBl (qBu hc) rfl) rfl)
section
variable {call:Nat->List D->Option R}{σ:En}
theorem qPl (n:Nat) (h:n<1024):n<=big:=Nat.le_of_lt (Nat.lt_of_lt_of_le (show n<2^10 from h) (Nat.pow_le_pow_right (by decide) (by decide)))
end
section
variable {call:Nat->List D->Option R}{σ:En}
theorem qRX {a b:C}{x y:Bool}{p q:Bool}(ha:evE call σ a=some (x,.bl p)) (hb:evE call σ b=some (false,.bl q)):evE call σ (.or a b)=some (false,.bl (p||q)):=by
 rw [qDB,ha]
 cases p with
 | true=>rfl
 | false=>exact hb
end
section
variable {call:Nat->List D->Option R}
theorem qF2 {σ:En}{a b c:C}{x y w:R}(ha:evE call σ a=some x) (hb:evE call σ b=some y) (hc:evE call σ c=some w):evE call σ (.tup [a,b,c])=some (false,.tup [x.2,y.2,w.2]):=by
 have l3:3<=lim:=qAB (by decide)
 rw [qC2,qBb,ha,Option.bind_some,qBb,hb,Option.bind_some,qBb,hc,Option.bind_some,qAq,Option.bind_some,Option.bind_some,Option.bind_some,Option.bind_some]
 exact if_pos l3
end
theorem qIo (xs:List D) (h:Nat):qGK xs none (some (h:Int))=xs.take h:=by
 show (xs.drop 0).take ((if (h:Int)<0 then ((h:Int)+xs.length).toNat else min (h:Int).toNat xs.length) - 0)=_
 rw [if_neg (by omega),List.drop_zero,Int.toNat_natCast,Nat.sub_zero]
 by_cases hl:h<=xs.length
 ·rw [Nat.min_eq_left hl]
 ·rw [Nat.min_eq_right (by omega),List.take_of_length_le (by omega),List.take_of_length_le (by omega)]
theorem qF6 (xs:List D) (h:Nat):qGK xs (some (h:Int)) none=xs.drop h:=by
 show (xs.drop (if (h:Int)<0 then ((h:Int)+xs.length).toNat else min (h:Int).toNat xs.length)).take (xs.length - (if (h:Int)<0 then ((h:Int)+xs.length).toNat else min (h:Int).toNat xs.length))=_
 rw [if_neg (by omega),Int.toNat_natCast]
 by_cases hl:h<=xs.length
 ·rw [Nat.min_eq_left hl,List.take_of_length_le (by simp)]
 ·rw [Nat.min_eq_right (by omega),Nat.sub_self,List.take_zero,List.drop_of_length_le (by omega)]
theorem qE1 (a b:List D) (h:a.length+b.length<=100000):qGF .add (.tup a) (.tup b)=some (false,.tup (a++b)):=by
 cases a with
 | nil=>rfl
 | cons x r=>rw [qEU,if_pos (qAB (by rw [List.length_cons] at h;omega))]
section
variable {call:Nat->List D->Option R}
theorem qDn {σ:En}{o:BOp}{a b:C}{x y:D}{r:Option R}(ha:pk σ a (evE call σ a)=some x) (hb:pk σ b (evE call σ b)=some y) (h:qGF o x y=r):evE call σ (.bin o a b)=r:=by
 rw [qAA,ha];simp only;rw [hb];exact h
theorem qOZ {σ:En}{a:C}{lo hi:Option C}{xs:List D}{l h:Option Int}(ha:pk σ a (evE call σ a)=some (.tup xs)) (hl:evO call σ lo=some l) (hh:evO call σ hi=some h):evE call σ (.sl a lo hi)=some (false,.tup (qGK xs l h)):=by
 rw [qGP,ha];simp only;rw [hl];simp only;rw [hh];rfl
theorem e_o {σ:En}{c:C}{i:Int}(h:pk σ c (evE call σ c)=some (.int i)):evO call σ (some c)=some (some i):=by rw [qCK,h];rfl
theorem qFH {σ:En} {o a b}{r:R}(h:evE call σ (.bin o a b)=some r):pk σ (.bin o a b) (evE call σ (.bin o a b))=some r.2:=by rw [h];rfl
theorem qL3 {σ:En} {a b c}{r:R}(h:evE call σ (.sl a b c)=some r):pk σ (.sl a b c) (evE call σ (.sl a b c))=some r.2:=by rw [h];rfl
theorem qOX {σ:En}{a:C}{x:R}(ha:evE call σ a=some x):evE call σ (.tup [a])=some (false,.tup [x.2]):=by
 have l1:1<=lim:=qAB (by decide)
 rw [qC2,qBb,ha,Option.bind_some,qAq,Option.bind_some,Option.bind_some]
 exact if_pos l1
end
end Dw.T
namespace Dw.T
open Dw
theorem q40 (q:Q4):ixP (q4 q) (.int 0)=some (false,.int q.1):=rfl
theorem q41 (q:Q4):ixP (q4 q) (.int 1)=some (false,.int q.2.1):=rfl
theorem q42 (q:Q4):ixP (q4 q) (.int 2)=some (false,.int q.2.2.1):=rfl
theorem q43 (q:Q4):ixP (q4 q) (.int 3)=some (false,.int q.2.2.2):=rfl
noncomputable def tD (m:Nat) (c:Nat->Q4) (r:List D):D:=.tup (.tup (bx m λj=>q4 (c j))::r)
theorem tD0 (m:Nat) (c:Nat->Q4) (r:List D):ixP (tD m c r) (.int 0)=some (false,.tup (bx m λj=>q4 (c j))):=by
 unfold tD
 rw [qBR,qDV]
 rfl
theorem qFO {n:Nat}(h:n<2^1000):n<qJX:=Nat.lt_of_lt_of_le h (Nat.pow_le_pow_right (by decide) (by decide))
theorem qRL (a b:Int) (h:a.natAbs<2^240) (h':b.natAbs<2^240):qEs a b=true:=decide_eq_true (.inl ⟨h,h'⟩)
theorem qRM (a b:Int) (h:a.natAbs<qJX) (h':b.natAbs<qJX):qEs a b=true:=decide_eq_true (.inr (.inr (.inr ⟨h,h'⟩)))
theorem qDc (m:Nat) (f:Nat->D):(bx m f).length=m:=by simp [bx]
section
variable {call:Nat->List D->Option R}
theorem qFy {σ:En}{qAV:List S}{z:Option Ou}{c e:C}{b x y:Bool}{i:Nat}{X Y:D}(hc:evE call σ c=some (x,.bl b)) (he:evE call σ e=some (y,X)) (hs:σ.set i (some (false,Y))=σ)
  (k:qAr call (σ.set i (some (false,if b then X else Y))) qAV=z):qAr call σ (.ite c [.set i false e] []::qAV)=z:=by
 cases b with
 | true=>exact qPy hc (qAf (y,X) he rfl) k
 | false =>
  refine qAC hc ?_
  rw [if_neg (by decide),hs] at k
  exact k
theorem qND (ns:List Int) (k:Nat):qAr call [some (false,.lst (ns.map .int)),some (false,.int (k:Int))] f_law_cell_at.body=some (.rt (false,.int (qB2 ns k))):=by
 by_cases h:k<ns.length
 ·have h1:decide ((k:Int)<((ns.length:Nat):Int))=true:=decide_eq_true (by omega)
  refine qEi (x:=false) (r:=(false,.int (qB2 ns k))) (by simp only [qBd,pk,qAg,List.getElem?_cons_succ,List.getElem?_cons_zero,Option.join_some,Option.bind_some,pkR,qAX,qAk,qAl,qAY,List.length_map,Option.map_some,qCr,h1]) ?_ rfl
  refine qAp (r:=(false,.int (qB2 ns k))) (qCx rfl rfl ?_) rfl
  rw [qCw]
  unfold ixQ ixD
  rw [List.length_map,qHK _ _ h]
  simp [qB2,h]
 ·have h1:decide ((k:Int)<((ns.length:Nat):Int))=false:=decide_eq_false (by omega)
  have e:qB2 ns k=0:=by simp [qB2,List.getElem?_eq_none (Nat.le_of_not_lt h)]
  refine qAC (x:=false) (by simp only [qBd,pk,qAg,List.getElem?_cons_succ,List.getElem?_cons_zero,Option.join_some,Option.bind_some,pkR,qAX,qAk,qAl,qAY,List.length_map,Option.map_some,qCr,h1]) ?_
  rw [e]
  exact qAp (r:=(false,.int 0)) rfl rfl
theorem qNB (s j m:Int) (hs:0<=s/\s<2^150) (hj:0<=j/\j<1000) (hm:0<m/\m<2^150):∃v:Int,(0<=v/\v<m)/\qAr call [some (false,.int s),some (false,.int j),some (false,.int m)] f_law_draw.body=some (.rt (false,.int v)):=by
 have p33:qEn 10 33=true:=by decide
 have m5:=qNe 5 j (by decide)
 have m1:=qRL (s+3+j) (s+5 * j+11) (by omega) (by omega)
 have e33:(10:Int)^(33:Int).toNat=1000000000000000000000000000000000:=by decide
 have hb:((s+3+j) * (s+5 * j+11)).natAbs<2^1000:=by
  rw [Int.natAbs_mul]
  exact Nat.lt_of_lt_of_le (Nat.mul_lt_mul'' (show (s+3+j).natAbs<2^200 by omega) (show (s+5 * j+11).natAbs<2^200 by omega)) (by decide)
 have m2:=qRM ((s+3+j) * (s+5 * j+11)) (10^(33:Int).toNat+7) (qFO hb) (qFO (by decide))
 have d13:qBr 13=true:=by decide
 have dm:=qO0 m (by omega) (by omega)
 exact⟨_,qDX _ m hm.1,qAp (r:=(false,.int (((s+3+j) * (s+5 * j+11) * (10^(33:Int).toNat+7)).fdiv 13 |>.fmod m))) (by simp only [qDj,qAA,pk,qAg,List.getElem?_cons_zero,Option.join_some,Option.bind_some,pkR,qBf,Option.map_some,qAF,List.getElem?_cons_succ,qBn,m5,↓reduceIte,m1,qB0,p33,m2,qAJ,d13,qAS,dm]) rfl⟩
theorem qQx {a b c:Int}{i:Int}(h:0<=i/\i<3) (P:Int->Prop) (ha:P a) (hb:P b) (hc:P c):∃v,P v/\ixQ [.int a,.int b,.int c] i=some (.int v):=by
 obtain rfl|rfl|rfl:i=0∨i=1∨i=2:=by omega
 ·exact⟨a,ha,rfl⟩
 ·exact⟨b,hb,rfl⟩
 ·exact⟨c,hc,rfl⟩
theorem qRQ {a b:Int}{i:Int}(h:0<=i/\i<2) (P:Int->Prop) (ha:P a) (hb:P b):∃v,P v/\ixQ [.int a,.int b] i=some (.int v):=by
 obtain rfl|rfl:i=0∨i=1:=by omega
 ·exact⟨a,ha,rfl⟩
 ·exact⟨b,hb,rfl⟩
theorem qLg (c w:Int) (k m:Nat) (hk:k<1000) (hm:m<=100) (C13:∀s j m:Int,(0<=s/\s<2^150)->(0<=j/\j<1000)->(0<m/\m<2^150)->∃v:Int,(0<=v/\v<m)/\call 37 [.int s,.int j,.int m]=some (false,.int v)) :
  ∃t:Th,(∃v:Int,0<=v/\v<100000000000000/\t.hd=if (w.fmod 2 == 1) then (k:Int) * 100000000000000+v else v * 1000+(k:Int))/\qAr call [some (false,.int c),some (false,.int (k:Int)),some (false,.int (m:Int)),some (false,.int w),none,none,none,none,none,none,none,none,none,none] f_law_thing.body=some (.rt (false,thD m t)):=by
 have p40:qEn 10 40=true:=by decide
 have d40:qBr (10^(40:Int).toNat)=true:=by decide
 have e40:(10:Int)^(40:Int).toNat=10000000000000000000000000000000000000000:=by decide
 have mk1:=qNe 7919 (k:Int) (by decide)
 have mk2:=qPB (7919 * (k:Int)) (k:Int) (by omega)
 have bs:=qDX c (10^(40:Int).toNat) (by decide)
 have hkk:(0:Int)<=7919 * (k:Int) * (k:Int)/\7919 * (k:Int) * (k:Int)<=7919 * 1000 * 1000:=⟨Int.mul_nonneg (by omega) (by omega),Int.mul_le_mul (by omega) (by omega) (by omega) (by decide)⟩
 have hs:0<=c.fmod (10^(40:Int).toNat)+7919 * (k:Int) * (k:Int)/\c.fmod (10^(40:Int).toNat)+7919 * (k:Int) * (k:Int)<2^150:=by rw [e40] at *;generalize 7919 * (k:Int) * (k:Int)=q at *;omega
 have s4:qAr call [some (false,.int c),some (false,.int (k:Int)),some (false,.int (m:Int)),some (false,.int w),none,none,none,none,none,none,none,none,none,none] f_law_thing.body=qAr call [some (false,.int c),some (false,.int (k:Int)),some (false,.int (m:Int)),some (false,.int w),some (false,.int (c.fmod (10^(40:Int).toNat)+7919 * (k:Int) * (k:Int))),none,none,none,none,none,none,none,none,none] [.set 5 false (.ix (.lst [(.k (.int 12)),(.k (.int 90)),(.bin .sub (.bin .pow (.k (.int 10)) (.k (.int 30))) (.k (.int 1)))]) (.bin .mod (.v 3) (.k (.int 3)))),.set 6 false (.ix (.lst [(.k (.int 0)),(.k (.int 4)),(.bin .sub (.bin .pow (.k (.int 10)) (.k (.int 15))) (.k (.int 1)))]) (.bin .mod (.bin .fdiv (.v 3) (.k (.int 3))) (.k (.int 3)))),.set 7 true (.lst []),.forR (.one 8) [(.v 2)] [.set 9 false (.bin .sub (.call 37 [(.v 4),(.v 8),(.bin .add (.bin .mul (.k (.int 2)) (.v 5)) (.k (.int 1)))]) (.v 5)),.set 10 false (.call 37 [(.v 4),(.bin .add (.v 8) (.k (.int 7))),(.ix (.lst [(.k (.int 1)),(.k (.int 9)),(.bin .add (.v 5) (.k (.int 1)))]) (.bin .mod (.bin .fdiv (.v 3) (.k (.int 9))) (.k (.int 3))))]),.set 11 false (.bin .sub (.call 37 [(.v 4),(.bin .add (.v 8) (.k (.int 14))),(.bin .add (.bin .mul (.k (.int 2)) (.v 6)) (.k (.int 1)))]) (.v 6)),.app 7 (.tup [(.v 9),(.bi .min [(.v 5),(.bin .add (.v 9) (.v 10))]),(.v 11),(.v 11)])],.set 12 false (.bin .add (.bin .mul (.call 37 [(.v 4),(.k (.int 21)),(.bin .pow (.k (.int 10)) (.k (.int 14)))]) (.k (.int 1000))) (.v 1)),.ite (.cmp .eq (.bin .mod (.v 3) (.k (.int 2))) (.k (.int 1))) [.set 12 false (.bin .add (.bin .mul (.v 1) (.bin .pow (.k (.int 10)) (.k (.int 14)))) (.call 37 [(.v 4),(.k (.int 21)),(.bin .pow (.k (.int 10)) (.k (.int 14)))]))] [],.set 13 false (.bin .sub (.call 37 [(.v 4),(.k (.int 28)),(.bin .add (.bin .mul (.k (.int 2)) (.v 5)) (.k (.int 1)))]) (.v 5)),.ret (.tup [(.v 12),(.bi .tuple [(.v 7)]),(.call 37 [(.v 4),(.k (.int 35)),(.ix (.lst [(.k (.int 4)),(.k (.int 65536))]) (.bin .mod (.bin .fdiv (.v 3) (.k (.int 2))) (.k (.int 2))))]),(.v 13)])]:=
  qAf (false,.int (c.fmod (10^(40:Int).toNat)+7919 * (k:Int) * (k:Int))) (by simp only [qAA,pk,qAg,List.getElem?_cons_zero,Option.join_some,Option.bind_some,pkR,qBf,Option.map_some,qB0,p40,↓reduceIte,qAS,d40,List.getElem?_cons_succ,qBn,mk1,mk2,qAF]) rfl
 rw [s4]
 clear s4
 generalize c.fmod (10^(40:Int).toNat)+7919 * (k:Int) * (k:Int)=s at hs
 have d2:qBr 2=true:=by decide
 have d3:qBr 3=true:=by decide
 have d9:qBr 9=true:=by decide
 have p30:qEn 10 30=true:=by decide
 have p15:qEn 10 15=true:=by decide
 have p14:qEn 10 14=true:=by decide
 have e30:(10:Int)^(30:Int).toNat=1000000000000000000000000000000:=by decide
 have e15:(10:Int)^(15:Int).toNat=1000000000000000:=by decide
 have e14:(10:Int)^(14:Int).toNat=100000000000000:=by decide
 have l3:3<=lim:=qAB (by decide)
 have l2:2<=lim:=qAB (by decide)
 have l4:4<=lim:=qAB (by decide)
 obtain⟨far,hf,qf⟩:=qQx (a:=12) (b:=90) (c:=10^(30:Int).toNat - 1) (i:=w.fmod 3) (qDX w 3 (by decide)) (λv=>0<v/\v<2^120) (by decide) (by decide) (by decide)
 obtain⟨fast,hfa,qa⟩:=qQx (a:=0) (b:=4) (c:=10^(15:Int).toNat - 1) (i:=(w.fdiv 3).fmod 3) (qDX _ 3 (by decide)) (λv=>0<=v/\v<2^120) (by decide) (by decide) (by decide)
 obtain⟨wd,hw,qw⟩:=qQx (a:=1) (b:=9) (c:=far+1) (i:=(w.fdiv 9).fmod 3) (qDX _ 3 (by decide)) (λv=>0<v/\v<2^150) (by decide) (by decide) (by omega)
 obtain⟨ms,hms,qm⟩:=qRQ (a:=4) (b:=65536) (i:=(w.fdiv 2).fmod 2) (qDX _ 2 (by decide)) (λv=>0<v/\v<=65536) (by decide) (by decide)
 have m2f:=qNe 2 far (by decide)
 have m2a:=qNe 2 fast (by decide)
 obtain⟨σ',h',hσ⟩:=qBp (call:=call) (tg:=.one 8) (body:=[.set 9 false (.bin .sub (.call 37 [(.v 4),(.v 8),(.bin .add (.bin .mul (.k (.int 2)) (.v 5)) (.k (.int 1)))]) (.v 5)),.set 10 false (.call 37 [(.v 4),(.bin .add (.v 8) (.k (.int 7))),(.ix (.lst [(.k (.int 1)),(.k (.int 9)),(.bin .add (.v 5) (.k (.int 1)))]) (.bin .mod (.bin .fdiv (.v 3) (.k (.int 9))) (.k (.int 3))))]),.set 11 false (.bin .sub (.call 37 [(.v 4),(.bin .add (.v 8) (.k (.int 14))),(.bin .add (.bin .mul (.k (.int 2)) (.v 6)) (.k (.int 1)))]) (.v 6)),.app 7 (.tup [(.v 9),(.bi .min [(.v 5),(.bin .add (.v 9) (.v 10))]),(.v 11),(.v 11)])]) (λj σ=>∃(xs:List (Int×Int×Int)) (o8 o9 o10 o11:Option R),xs.length=j/\σ=[some (false,.int c),some (false,.int (k:Int)),some (false,.int (m:Int)),some (false,.int w),some (false,.int s),some (false,.int far),some (false,.int fast),some (true,.lst (xs.map sD)),o8,o9,o10,o11,none,none]) m (λi=>.int (i:Nat))
  [some (false,.int c),some (false,.int (k:Int)),some (false,.int (m:Int)),some (false,.int w),some (false,.int s),some (false,.int far),some (false,.int fast),some (true,.lst []),none,none,none,none,none,none] ⟨[],_,_,_,_,rfl,rfl⟩ (by
   rintro j σ hj ⟨xs,o8,o9,o10,o11,hx,rfl⟩
   obtain⟨v1,b1,q1⟩:=C13 s (j:Int) (2 * far+1) hs (by omega) (by omega)
   obtain⟨v2,b2,q2⟩:=C13 s ((j:Int)+7) wd hs (by omega) hw
   obtain⟨v3,b3,q3⟩:=C13 s ((j:Int)+14) (2 * fast+1) hs (by omega) (by omega)
   refine⟨_,_,rfl,?_,xs++[(v1 - far,min far (v1 - far+v2),v3 - fast)],some (false,.int (j:Nat)),some (false,.int (v1 - far)),some (false,.int v2),some (false,.int (v3 - fast)),by simp [hx],rfl⟩
   refine qAf (false,.int (v1 - far)) (by simp only [List.set_cons_succ,List.set_cons_zero,qAA,pk,qAo,qAn,ag,qAg,List.getElem?_cons_succ,List.getElem?_cons_zero,Option.join_some,Option.bind_some,agR,qBf,Option.map_some,pkR,qBn,m2f,↓reduceIte,qAF,qAm,q1,qA5]) ?_
   refine qAf (false,.int v2) (by simp only [List.set_cons_succ,List.set_cons_zero,qAM,Bool.and_false,qAo,qAn,ag,qAg,List.getElem?_cons_succ,List.getElem?_cons_zero,Option.join_some,Option.bind_some,agR,qAA,pk,pkR,qBf,Option.map_some,qAF,qA7,qBo,qAG,qAq,List.length_cons,List.length_nil,Nat.reduceAdd,l3,↓reduceIte,qAJ,d9,qAS,d3,qCw,qw,qAm,q2]) ?_
   refine qAf (false,.int (v3 - fast)) (by simp only [List.set_cons_succ,List.set_cons_zero,qAM,Bool.and_false,qAA,pk,qAo,qAn,ag,qAg,List.getElem?_cons_succ,List.getElem?_cons_zero,Option.join_some,Option.bind_some,agR,pkR,qBf,Option.map_some,qAF,qBn,m2a,↓reduceIte,qAm,q3,qA5]) ?_
   refine qCN (false,sD (v1 - far,min far (v1 - far+v2),v3 - fast)) (by unfold sD;simp only [List.set_cons_succ,List.set_cons_zero,qAM,Bool.and_false,qBc,qAG,qIW,qCp,qAg,List.getElem?_cons_succ,List.getElem?_cons_zero,Option.join_some,qAX,qAk,pk,Option.bind_some,pkR,qAA,qAF,Option.map_some,qAl,qDd,qAq,List.length_cons,List.length_nil,Nat.reduceAdd,l4,↓reduceIte]) rfl (by rw [List.length_map];exact Nat.lt_of_lt_of_le (by omega:xs.length<101) (qAB (by decide))) ?_
   rw [List.map_append]
   rfl)
 obtain⟨xs,o8,o9,o10,o11,hx,rfl⟩:=hσ
 obtain⟨v4,b4,q4⟩:=C13 s 21 (10^(14:Int).toNat) hs (by decide) (by decide)
 obtain⟨v5,b5,q5⟩:=C13 s 28 (2 * far+1) hs (by decide) (by omega)
 obtain⟨v6,b6,q6⟩:=C13 s 35 ms hs (by decide) (by omega)
 have m4:=qPB v4 1000 (by decide)
 have m5:=qNe (k:Int) (10^(14:Int).toNat) (by omega)
 refine⟨⟨if (w.fmod 2 == 1) then (k:Int) * 10^(14:Int).toNat+v4 else v4 * 1000+(k:Int),λj=>xs.getD j (0,0,0),v6.toNat,v5 - far,by omega⟩,⟨v4,b4.1,by rw [e14] at b4;exact b4.2,by rw [e14]⟩,?_⟩
 refine qAf (false,.int far) (by simp only [qA7,pk,qBo,qAG,qBf,qAA,Option.map_some,qB0,p30,↓reduceIte,qA5,qAq,List.length_cons,List.length_nil,Nat.reduceAdd,l3,qAg,List.getElem?_cons_succ,List.getElem?_cons_zero,Option.join_some,Option.bind_some,pkR,qAS,d3,qCw,qf]) ?_
 refine qAf (false,.int fast) (by simp only [qAM,Bool.and_false,List.set_cons_succ,List.set_cons_zero,qA7,pk,qBo,qAG,qBf,qAA,Option.map_some,qB0,p15,↓reduceIte,qA5,qAq,List.length_cons,List.length_nil,Nat.reduceAdd,l3,qAg,List.getElem?_cons_succ,List.getElem?_cons_zero,Option.join_some,Option.bind_some,pkR,qAJ,d3,qAS,qCw,qa]) ?_
 refine qAf (true,.lst []) (by simp only [qAM,Bool.and_false,List.set_cons_succ,List.set_cons_zero,qBo,qAq,List.length_nil,qJS,↓reduceIte]) ?_
 refine qCM (ds:=[.int (m:Int)]) rfl (qCS (by omega)) h' ?_
 refine qAf (false,.int (v4 * 1000+(k:Int))) (by simp only [qAA,pk,qAo,qAn,ag,qAg,List.getElem?_cons_succ,List.getElem?_cons_zero,Option.join_some,Option.bind_some,agR,qBf,Option.map_some,qB0,p14,↓reduceIte,qAm,q4,qBn,m4,pkR,qAF]) ?_
 refine qFy (b:=(w.fmod 2 == 1)) (x:=false) (y:=false) (X:=.int ((k:Int) * 10^(14:Int).toNat+v4)) (Y:=.int (v4 * 1000+(k:Int))) (by simp only [qAM,Bool.and_false,List.set_cons_succ,List.set_cons_zero,qBd,pk,qAA,qAg,List.getElem?_cons_succ,List.getElem?_cons_zero,Option.join_some,Option.bind_some,pkR,qBf,Option.map_some,qAS,d2,↓reduceIte,qCj];rfl) (by simp only [qAM,Bool.and_false,List.set_cons_succ,List.set_cons_zero,qAA,pk,qAg,List.getElem?_cons_succ,List.getElem?_cons_zero,Option.join_some,Option.bind_some,pkR,qBf,Option.map_some,qB0,p14,↓reduceIte,qBn,m5,qAo,qAn,ag,agR,qAm,q4,qAF]) rfl ?_
 refine qAf (false,.int (v5 - far)) (by simp only [qAM,Bool.and_false,List.set_cons_succ,List.set_cons_zero,qAA,pk,qAo,qAn,ag,qAg,List.getElem?_cons_succ,List.getElem?_cons_zero,Option.join_some,Option.bind_some,agR,qBf,Option.map_some,pkR,qBn,m2f,↓reduceIte,qAF,qAm,q5,qA5]) ?_
 have ei:(if (w.fmod 2 == 1) then D.int ((k:Int) * 10^(14:Int).toNat+v4) else .int (v4 * 1000+(k:Int)))=.int (if (w.fmod 2 == 1) then (k:Int) * 10^(14:Int).toNat+v4 else v4 * 1000+(k:Int)):=by cases (w.fmod 2 == 1)<;>rfl
 have e6:((v6.toNat:Nat):Int)=v6:=by omega
 rw [ei,qFb hx (0,0,0) sD]
 exact qAp (by unfold thD;rw [e6];simp only [qDj,qAM,Bool.and_false,List.set_cons_succ,List.set_cons_zero,qBc,qAG,qIW,qCp,qAg,List.getElem?_cons_succ,List.getElem?_cons_zero,Option.join_some,qAX,qAk,pk,Option.bind_some,pkR,qAl,qD9,qAo,qAn,ag,agR,qBf,Option.map_some,qA7,qBo,qAq,List.length_cons,List.length_nil,Nat.reduceAdd,l2,↓reduceIte,qAA,qAJ,d2,qAS,qCw,qm,qAm,q6,l4]) rfl
end
noncomputable def cv (c:Nat->Q4):Nat->P2:=λj=>((c j).1,(c j).2.1)
noncomputable def cov (f g:Nat->P2):Nat->P2:=λj=>(min (f j).1 (g j).1,max (f j).2 (g j).2)
noncomputable def rim (m:Nat) (f:Nat->P2):Int:=((List.range m).map λj=>(f j).2 - (f j).1).sum
section
variable {call:Nat->List D->Option R}{σ:En}
theorem qQX (p q:P2):qAr call [some (false,side p),some (false,side q)] f_side_cover.body=some (.rt (false,side (min p.1 q.1,max p.2 q.2))):=by
 unfold f_side_cover side
 simp only [qFr,qDj,qBc,qAG,qAX,qAk,pk,qA7,qAg,List.getElem?_cons_zero,Option.join_some,Option.bind_some,pkR,qBf,Option.map_some,qBR,qDV,List.getElem?_cons_succ,qAl,qDd,qHJ,qCd,qAq,List.length_cons,List.length_nil,Nat.reduceAdd,qRO,↓reduceIte]
theorem qQZ (B:∀p q,call 0 [side p,side q]=some (false,side (min p.1 q.1,max p.2 q.2))) (m:Nat) (f g:Nat->P2):qAr call [some (false,qAI m f),some (false,qAI m g)] f_box_cover.body=some (.rt (false,qAI m (cov f g))):=by
 refine qAp (r:=(false,qAI m (cov f g))) ?_ rfl
 have hc:=qFk (call:=call) (σ:=[some (false,qAI m f),some (false,qAI m g)]) (e:=(.call 0 [(.v 0),(.v 1)])) (nl:=2) (ks:=[]) (tg:=.two 0 1) (a:=.v 0) (b:=.v 1) (x:=(false,qAI m f)) (y:=(false,qAI m g)) rfl rfl rfl rfl rfl
  (qD3 (λj=>side (cov f g j)) λj hj=>⟨false,by simp only [qAo,qAn,ag,qAg,List.getElem?_cons_zero,Option.join_some,Option.bind_some,agR,List.getElem?_cons_succ,qAm,B];rfl⟩)
 refine qBl (x:=.lst (bx m λj=>side (cov f g j))) ?_ rfl
 show (evE call _ (.compZ _ _ _ _ _ _)).map (·.2)=_
 rw [hc]
 rfl
theorem qQY (m:Nat) (f:Nat->P2):qAr call [some (false,qAI m f)] f_box_rim.body=some (.rt (false,.int (rim m f))):=by
 refine qAp (r:=(false,.int (rim m f))) ?_ rfl
 have hc:=qA4 (call:=call) (σ:=[some (false,qAI m f)]) (e:=(.bin .sub (.v 1) (.v 0))) (nl:=2) (ks:=[]) (tg:=.two 0 1) (src:=.v 0) (r:=(false,qAI m f)) rfl (qJq m f) rfl
  (qAs call [none,none] (e:=(.bin .sub (.v 1) (.v 0))) (tg:=.two 0 1) (λj=>side (f j)) (λj=>.int ((f j).2 - (f j).1)) (List.range m) λj _=>⟨_,false,rfl,by simp only [List.set_cons_zero,List.set_cons_succ,qAA,pk,qAg,List.getElem?_cons_succ,List.getElem?_cons_zero,Option.join_some,Option.bind_some,pkR,qA5]⟩)
 refine qBl (qBu hc) ?_
 show biP .sum [.lst _]=_
 rw [qII,qAQ]
 rfl
theorem qPN (q:Q4):qAr call [some (false,q4 q),some (false,.int 0)] f_side_at.body=some (.rt (false,side (q.1,q.2.1))):=by
 have m1:=qPB q.2.2.1 0 (by decide)
 have m2:=qPB q.2.2.2 0 (by decide)
 have l2:2<=lim:=qAB (by decide)
 refine qAp (r:=(false,side (q.1,q.2.1))) ?_ rfl
 unfold side
 simp only [qDj,qBc,qAG,qAA,pk,qA7,qAg,List.getElem?_cons_zero,Option.join_some,Option.bind_some,pkR,qBf,Option.map_some,q40,q42,List.getElem?_cons_succ,qBn,m1,↓reduceIte,Int.mul_zero,qAF,Int.add_zero,q41,q43,m2,qAq,List.length_cons,List.length_nil,Nat.reduceAdd,l2]
theorem qPR (C3:∀q,call 3 [q4 q,.int 0]=some (false,side (q.1,q.2.1))) (m:Nat) (c:Nat->Q4):qAr call [some (false,.tup (bx m λj=>q4 (c j))),some (false,.int 0)] f_frame_at.body=some (.rt (false,qAI m (cv c))):=by
 refine qAp (r:=(false,qAI m (cv c))) ?_ rfl
 have hc:=qA4 (call:=call) (σ:=[some (false,.tup (bx m λj=>q4 (c j))),some (false,.int 0)]) (e:=(.call 3 [(.v 0),(.v 1)])) (nl:=1) (ks:=[1]) (tg:=.one 0) (src:=.v 0) (r:=(false,.tup (bx m λj=>q4 (c j)))) rfl rfl rfl
  (qF9 (r:=[some (false,.int 0)]) (λj=>q4 (c j)) (λj=>side (cv c j)) λj _=>⟨false,by simp only [qAo,qAn,ag,qAg,List.getElem?_cons_zero,Option.join_some,Option.bind_some,agR,List.getElem?_cons_succ,qAm,C3];rfl⟩)
 exact qBl (qBu hc) rfl
theorem qRn (m:Nat) (C5:∀c r,call 12 [tD m c r]=some (false,.tup (bx m λj=>q4 (c j)))) (C4:∀c,call 6 [.tup (bx m λj=>q4 (c j)),.int 0]=some (false,qAI m (cv c))) (c:Nat->Q4) (r:List D):qAr call [some (false,tD m c r)] f_first_box.body=some (.rt (false,qAI m (cv c))):=
 qAp (r:=(false,qAI m (cv c))) (by simp only [qDj,qAo,qAn,ag,qAg,List.getElem?_cons_zero,Option.join_some,Option.bind_some,agR,qAm,C5,Option.map_some,qBf,C4]) rfl
theorem qOY {e:C}{nl:Nat}{ks:List Nat}{rs:List C}{ds its ys:List D}{is:List Int}{σ':En}(h:qBO call σ rs=some ds) (hr:qJu ds=some its) (hc:qBm σ nl ks=σ') (hf:qAz call e σ' (.one 0) its=some ys) (hi:qAK ys=some is) (hl:2<=is.length/\is.length<64):evE call σ (.srtR e nl ks rs)=some (true,.lst ((qCA is).map λk=>its.getD k .non)):=by
 subst hc
 rw [qFZ,h,Option.bind_some,show qEX ds=some its from hr,Option.bind_some,hf,Option.bind_some,hi,Option.bind_some,if_pos hl]
theorem bxP {m j:Nat}(f:Nat->P2) (hj:j<m):ixP (qAI m f) (.int (j:Nat))=some (false,side (f j)):=by
 show ixP (.tup (bx m λi=>side (f i))) _=_
 rw [qBR,qEy (λi=>side (f i)) hj]
 rfl
theorem qRC (p:P2):ixP (side p) (.int 0)=some (false,.int p.1):=rfl
theorem qRB (p:P2):ixP (side p) (.int 1)=some (false,.int p.2):=rfl
noncomputable def ptD (p:List Nat):List D:=p.map λk=>.int (k:Nat)
theorem qLh (m:Nat) (C2:∀f,call 2 [qAI m f]=some (false,.int (rim m f))) (C1:∀f g,call 1 [qAI m f,qAI m g]=some (false,qAI m (cov f g))) (L:List (Nat->P2)) (hL:L≠[]):∃x:Int,qAr call [some (false,.lst (L.map (qAI m))),none,none] f_rim_of.body=some (.rt (false,.int x)):=by
 obtain⟨t,ts,hLt⟩:∃t ts,L=t::ts:=by cases L with|nil=>exact absurd rfl hL|cons t ts=>exact⟨t,ts,rfl⟩
 have h0:ixP (.lst (L.map (qAI m))) (.int 0)=some (false,qAI m t):=by rw [hLt,List.map_cons,qCw,qDV];rfl
 obtain⟨σ2,h2,hσ2⟩:=qCE (call:=call) (tg:=.one 2) (body:=[.set 1 false (.call 1 [(.v 1),(.v 2)])]) (qAI m) cov (λs σ=>∃o2,σ=[some (false,.lst (L.map (qAI m))),some (false,qAI m s),o2]) L t
  [some (false,.lst (L.map (qAI m))),some (false,qAI m t),none] ⟨_,rfl⟩ (by
   rintro x hx s σ ⟨o2,rfl⟩
   refine⟨_,_,rfl,?_,some (false,qAI m x),rfl⟩
   exact qAf (false,qAI m (cov s x)) (by simp only [List.set_cons_succ,List.set_cons_zero,qAo,qAn,ag,qAg,List.getElem?_cons_succ,List.getElem?_cons_zero,Option.join_some,Option.bind_some,agR,qAm,C1]) rfl)
 obtain⟨o2,rfl⟩:=hσ2
 refine⟨rim m (L.foldl cov t),?_⟩
 refine qAf (false,qAI m t) (by simp only [qA7,pk,qAg,List.getElem?_cons_zero,Option.join_some,Option.bind_some,pkR,qBf,Option.map_some,h0]) ?_
 refine qCo (r:=(false,.lst (L.map (qAI m)))) rfl rfl h2 ?_
 exact qAp (by simp only [qDj,qAo,qAn,ag,qAg,List.getElem?_cons_succ,List.getElem?_cons_zero,Option.join_some,Option.bind_some,agR,qAm,C2]) rfl
theorem qLi (m n j:Nat) (hj:j<m) (h2:2<=n) (hn:n<64) (B:Nat->Nat->P2):∃p:List Nat,p.Perm (List.range n)/\qAr call [some (false,.lst (bx n λk=>qAI m (B k))),some (false,.int (j:Nat))] f_order_along.body=some (.rt (true,.lst (ptD p))):=by
 have hc:=qAs call [none,some (false,.lst (bx n λk=>qAI m (B k))),some (false,.int (j:Nat))] (e:=(.bin .add (.ix (.ix (.ix (.v 1) (.v 0)) (.v 2)) (.k (.int 0))) (.ix (.ix (.ix (.v 1) (.v 0)) (.v 2)) (.k (.int 1))))) (tg:=.one 0) (λk:Nat=>.int (k:Nat)) (λk=>.int ((B k j).1+(B k j).2)) (List.range n) λk hk=>⟨_,false,rfl,by
  have hk':k<n:=by simpa using hk
  simp only [List.set_cons_zero,qAA,pk,qA7,qAg,List.getElem?_cons_succ,List.getElem?_cons_zero,Option.join_some,Option.bind_some,pkR,qCw,qEy (λk=>qAI m (B k)) hk',Option.map_some,bxP (B k) hj,qBf,qRC,qRB,qAF]⟩
 have hp:=qCe ((List.range n).map λk=>(B k j).1+(B k j).2)
 rw [List.length_map,List.length_range] at hp
 refine⟨_,hp,?_⟩
 refine qAp (r:=(true,.lst (ptD (qCA ((List.range n).map λk=>(B k j).1+(B k j).2))))) ?_ rfl
 refine (qOY (ds:=[.int (n:Nat)]) (by simp only [qAk,pk,qAX,qAg,List.getElem?_cons_zero,Option.join_some,Option.bind_some,pkR,qAl,qAY,qDc,Option.map_some]) (qCS (by omega)) rfl hc (qAQ _ _) (by simpa using ⟨h2,hn⟩)).trans ?_
 refine congrArg (λz=>some (true,D.lst z)) (List.map_congr_left λk hk=>?_)
 have hk':k<n:=by simpa using hp.mem_iff.mp hk
 rw [List.getD_eq_getElem?_getD,List.getElem?_map,List.getElem?_range hk']
 rfl
end
section
variable {call:Nat->List D->Option R}{σ:En}
theorem qF4 {f:Nat}{a:C}{d:D}{r:Option R}(h:ag σ a (evE call σ a)=some d) (hc:call f [d]=r):evE call σ (.call f [a])=r:=by
 rw [qBk,qAH,h,Option.bind_some,qAm,Option.bind_some]
 exact hc
theorem qPS (m n c:Nat) (B:Nat->Nat->P2) (p:List Nat) (hp:p.Perm (List.range n)) (h0:0<c) (h1:c<n) (C7:∀L:List (Nat->P2),L≠[]->∃x:Int,call 19 [.lst (L.map (qAI m))]=some (false,.int x)) :
  ∃x:Int,qAr call [some (false,.lst (bx n λk=>qAI m (B k))),some (false,.lst (ptD p)),some (false,.int (c:Nat))] f_cut_rim.body=some (.rt (false,.int x)):=by
 have hl:p.length=n:=by simpa using hp.length_eq
 have mem:∀k∈p,k<n:=λk hk=>by simpa using hp.mem_iff.mp hk
 have part:∀(q:List Nat),(∀k∈q,k<n)->qAz call (.ix (.v 1) (.v 0)) [none,some (false,.lst (bx n λk=>qAI m (B k)))] (.one 0) (ptD q)=some ((q.map B).map (qAI m)):=λq hq=>by
  rw [List.map_map]
  exact qAs call _ (e:=(.ix (.v 1) (.v 0))) (tg:=.one 0) (λk:Nat=>.int (k:Nat)) (qAI m ∘ B) q λk hk=>⟨_,false,rfl,by simp only [List.set_cons_zero,qA7,pk,qAg,List.getElem?_cons_succ,List.getElem?_cons_zero,Option.join_some,Option.bind_some,pkR,qCw,qEy (λk=>qAI m (B k)) (hq k hk),Option.map_some];rfl⟩
 obtain⟨x1,q1⟩:=C7 ((p.take c).map B) (by intro z;have h:=congrArg List.length z;rw [List.length_map,List.length_take,List.length_nil] at h;omega)
 obtain⟨x2,q2⟩:=C7 ((p.drop c).map B) (by intro z;have h:=congrArg List.length z;rw [List.length_map,List.length_drop,List.length_nil] at h;omega)
 have c1:=qA4 (call:=call) (σ:=[some (false,.lst (bx n λk=>qAI m (B k))),some (false,.lst (ptD p)),some (false,.int (c:Nat))]) (e:=(.ix (.v 1) (.v 0))) (nl:=1) (ks:=[0]) (tg:=.one 0) (src:=.sl (.v 1) none (some (.v 2))) (r:=(true,.lst (ptD (p.take c)))) (by simp only [qGP,pk,qAg,List.getElem?_cons_succ,List.getElem?_cons_zero,Option.join_some,Option.bind_some,pkR,qDZ,qCK,qMn,qJn,qIo];simp [ptD]) rfl rfl (part (p.take c) λk hk=>mem k (List.mem_of_mem_take hk))
 have c2:=qA4 (call:=call) (σ:=[some (false,.lst (bx n λk=>qAI m (B k))),some (false,.lst (ptD p)),some (false,.int (c:Nat))]) (e:=(.ix (.v 1) (.v 0))) (nl:=1) (ks:=[0]) (tg:=.one 0) (src:=.sl (.v 1) (some (.v 2)) none) (r:=(true,.lst (ptD (p.drop c)))) (by simp only [qGP,pk,qAg,List.getElem?_cons_succ,List.getElem?_cons_zero,Option.join_some,Option.bind_some,pkR,qCK,qMn,qDZ,qJn,qF6];simp [ptD]) rfl rfl (part (p.drop c) λk hk=>mem k (List.mem_of_mem_drop hk))
 have d1:evE call [some (false,.lst (bx n λk=>qAI m (B k))),some (false,.lst (ptD p)),some (false,.int (c:Nat))] (.call 19 [(.compS (.ix (.v 1) (.v 0)) 1 [0] (.one 0) (.sl (.v 1) none (some (.v 2))))])=some (false,.int x1):=qF4 (by rw [c1];rfl) q1
 have d2:evE call [some (false,.lst (bx n λk=>qAI m (B k))),some (false,.lst (ptD p)),some (false,.int (c:Nat))] (.call 19 [(.compS (.ix (.v 1) (.v 0)) 1 [0] (.one 0) (.sl (.v 1) (some (.v 2)) none))])=some (false,.int x2):=qF4 (by rw [c2];rfl) q2
 refine⟨x1+x2,qAp (r:=(false,.int (x1+x2))) ?_ rfl⟩
 show evE call _ (.bin .add _ _)=_
 rw [qAA,d1,d2]
 rfl
end
section
variable {call:Nat->List D->Option R}{σ:En}
noncomputable def Bst (n f:Nat) (d:D):Prop:=∃(x:Int) (p:List Nat) (q:Nat),p.Perm (List.range n)/\f<=q/\q<=n - f/\d=.tup [.int x,.lst (ptD (p.take q)),.lst (ptD (p.drop q))]
noncomputable def srN (p:List Nat):List D:=(qE2 (p.map λk:Nat=>((k:Nat):Int))).map .int
theorem qKy (p:List Nat) (h:p.length<64):biP .sorted [.lst (ptD p)]=some (true,.lst (srN p)):=by
 exact qDA _ (qAQ (λk:Nat=>((k:Nat):Int)) p) (by simpa using h)
theorem qLR (a k:Nat):qJu [.int (a:Int),.int ((a:Int)+(k:Int))]=some ((List.range k).map λi:Nat=>D.int ((a:Int)+((i:Nat):Int))):=by
 show some ((List.range (((a:Int)+(k:Int)) - (a:Int)).toNat).map λi:Nat=>D.int ((a:Int)+((i:Nat):Int)))=_
 rw [show (((a:Int)+(k:Int)) - (a:Int)).toNat=k by omega]
theorem qJb (m n rm f:Nat) (hm:0<m) (hm1:m<=100) (hr:4<=rm) (h1:rm<n) (h2:n<=2 * rm) (hn:n<64) (hf:f=max (rm / 2) (n - rm)) (c:Nat->Nat->Q4) (r:Nat->List D)
  (C6:∀c r,call 16 [tD m c r]=some (false,qAI m (cv c)))
  (C8:∀(B:Nat->Nat->P2) (j:Nat),j<m->∃p:List Nat,p.Perm (List.range n)/\call 20 [.lst (bx n λk=>qAI m (B k)),.int (j:Nat)]=some (true,.lst (ptD p)))
  (C9:∀(B:Nat->Nat->P2) (p:List Nat) (q:Nat),p.Perm (List.range n)->0<q->q<n->∃x:Int,call 21 [.lst (bx n λk=>qAI m (B k)),.lst (ptD p),.int (q:Nat)]=some (false,.int x)) :
  ∃(p:List Nat) (q:Nat),p.Perm (List.range n)/\f<=q/\q<=n - f/\qAr call [some (false,.tup (bx n λk=>tD m (c k) (r k))),some (false,.int (rm:Nat)),none,none,none,none,none,none,none] f_parted.body=some (.rt (false,.tup [.tup (srN (p.take q)),.tup (srN (p.drop q))])):=by
 have d2:qBr 2=true:=by decide
 have l3:3<=lim:=qAB (by decide)
 have l2:2<=lim:=qAB (by decide)
 have hc:=qA4 (call:=call) (σ:=[some (false,.tup (bx n λk=>tD m (c k) (r k))),some (false,.int (rm:Nat)),none,none,none,none,none,none,none]) (e:=(.call 16 [(.v 0)])) (nl:=1) (ks:=[]) (tg:=.one 0) (src:=.v 0) (r:=(false,.tup (bx n λk=>tD m (c k) (r k)))) rfl rfl rfl
  (qF9 (r:=[]) (λk=>tD m (c k) (r k)) (λk=>qAI m (cv (c k))) λk _=>⟨false,by simp only [qAo,qAn,ag,qAg,List.getElem?_cons_zero,Option.join_some,Option.bind_some,agR,qAm,C6]⟩)
 generalize hB:(λk=>cv (c k))=B
 have hc':evE call [some (false,.tup (bx n λk=>tD m (c k) (r k))),some (false,.int (rm:Nat)),none,none,none,none,none,none,none] (.compS (.call 16 [(.v 0)]) 1 [] (.one 0) (.v 0))=some (true,.lst (bx n λk=>qAI m (B k))):=by rw [hc,<-hB]
 have hfe:max ((rm:Int).fdiv 2) ((n:Int) - (rm:Int))=(f:Int):=by
  rw [Int.fdiv_eq_ediv_of_nonneg _ (by decide)]
  omega
 have h0:ixP (.lst (bx n λk=>qAI m (B k))) (.int 0)=some (false,qAI m (B 0)):=by
  rw [qCw,show ixQ (bx n λk=>qAI m (B k)) 0=some (qAI m (B 0)) from qEy (λk=>qAI m (B k)) (j:=0) (by omega)]
  rfl
 have hlen:biP .len [qAI m (B 0)]=some (false,.int (m:Nat)):=by
  show some (false,D.int ((bx m λi=>side (B 0 i)).length:Nat))=_
  rw [qDc]
 obtain⟨σ',h',hσ⟩:=qBp (call:=call) (tg:=.one 5) (body:=[.set 6 false (.call 20 [(.v 2),(.v 5)]),.forR (.one 7) [(.v 3),(.bin .add (.bin .sub (.bi .len [(.v 0)]) (.v 3)) (.k (.int 1)))] [.set 8 false (.call 21 [(.v 2),(.v 6),(.v 7)]),.ite (.or (.isC false (.v 4) .non) (.cmp .lt (.v 8) (.ix (.v 4) (.k (.int 0))))) [.set 4 false (.tup [(.v 8),(.sl (.v 6) none (some (.v 7))),(.sl (.v 6) (some (.v 7)) none)])] []]]) (λj σ=>∃(d:D) (o5 o6 o7 o8:Option R),(d=.non∨Bst n f d)/\(0<j->Bst n f d)/\σ=[some (false,.tup (bx n λk=>tD m (c k) (r k))),some (false,.int (rm:Nat)),some (false,.lst (bx n λk=>qAI m (B k))),some (false,.int (f:Nat)),some (false,d),o5,o6,o7,o8]) m (λi=>.int (i:Nat))
  [some (false,.tup (bx n λk=>tD m (c k) (r k))),some (false,.int (rm:Nat)),some (false,.lst (bx n λk=>qAI m (B k))),some (false,.int (f:Nat)),some (false,.non),none,none,none,none] ⟨.non,_,_,_,_,.inl rfl,λz=>absurd z (by decide),rfl⟩ (by
   rintro j σ hj ⟨d,o5,o6,o7,o8,hd,_,rfl⟩
   obtain⟨p,hp,q8⟩:=C8 B j hj
   obtain⟨σ',h',hσ⟩:=qBp (call:=call) (tg:=.one 7) (body:=[.set 8 false (.call 21 [(.v 2),(.v 6),(.v 7)]),.ite (.or (.isC false (.v 4) .non) (.cmp .lt (.v 8) (.ix (.v 4) (.k (.int 0))))) [.set 4 false (.tup [(.v 8),(.sl (.v 6) none (some (.v 7))),(.sl (.v 6) (some (.v 7)) none)])] []]) (λi σ=>∃(d:D) (o7 o8:Option R),(d=.non∨Bst n f d)/\(0<i->Bst n f d)/\σ=[some (false,.tup (bx n λk=>tD m (c k) (r k))),some (false,.int (rm:Nat)),some (false,.lst (bx n λk=>qAI m (B k))),some (false,.int (f:Nat)),some (false,d),some (false,.int (j:Nat)),some (false,.lst (ptD p)),o7,o8]) (n - f - f+1) (λi=>.int ((f:Int)+(i:Nat)))
    [some (false,.tup (bx n λk=>tD m (c k) (r k))),some (false,.int (rm:Nat)),some (false,.lst (bx n λk=>qAI m (B k))),some (false,.int (f:Nat)),some (false,d),some (false,.int (j:Nat)),some (false,.lst (ptD p)),o7,o8] ⟨d,_,_,hd,λz=>absurd z (by decide),rfl⟩ (by
     rintro i σ hi ⟨d,o7,o8,hd,_,rfl⟩
     obtain⟨q,hq⟩:∃q:Nat,(f:Int)+((i:Nat):Int)=(q:Nat):=⟨f+i,by omega⟩
     obtain⟨x,q9⟩:=C9 B p q hp (by omega) (by omega)
     have new:Bst n f (.tup [.int x,.lst (ptD (p.take q)),.lst (ptD (p.drop q))]):=⟨x,p,q,hp,by omega,by omega,rfl⟩
     have put:evE call [some (false,.tup (bx n λk=>tD m (c k) (r k))),some (false,.int (rm:Nat)),some (false,.lst (bx n λk=>qAI m (B k))),some (false,.int (f:Nat)),some (false,d),some (false,.int (j:Nat)),some (false,.lst (ptD p)),some (false,.int (q:Nat)),some (false,.int x)] (.tup [(.v 8),(.sl (.v 6) none (some (.v 7))),(.sl (.v 6) (some (.v 7)) none)])=some (false,.tup [.int x,.lst (ptD (p.take q)),.lst (ptD (p.drop q))]):=by
      simp only [qBc,qAG,qIW,qCp,qAg,List.getElem?_cons_succ,List.getElem?_cons_zero,Option.join_some,qGP,pk,Option.bind_some,pkR,qDZ,qCK,qMn,qJn,qIo,qF6,qAq,List.length_cons,List.length_nil,Nat.reduceAdd,l3,↓reduceIte]
      simp [ptD]
     have kk:∀b:Bool,evE call [some (false,.tup (bx n λk=>tD m (c k) (r k))),some (false,.int (rm:Nat)),some (false,.lst (bx n λk=>qAI m (B k))),some (false,.int (f:Nat)),some (false,d),some (false,.int (j:Nat)),some (false,.lst (ptD p)),some (false,.int (q:Nat)),some (false,.int x)] (.or (.isC false (.v 4) .non) (.cmp .lt (.v 8) (.ix (.v 4) (.k (.int 0)))))=some (false,.bl b)->(b=false->Bst n f d) ->
       ∃σ2,qAr call [some (false,.tup (bx n λk=>tD m (c k) (r k))),some (false,.int (rm:Nat)),some (false,.lst (bx n λk=>qAI m (B k))),some (false,.int (f:Nat)),some (false,d),some (false,.int (j:Nat)),some (false,.lst (ptD p)),some (false,.int (q:Nat)),o8] [.set 8 false (.call 21 [(.v 2),(.v 6),(.v 7)]),.ite (.or (.isC false (.v 4) .non) (.cmp .lt (.v 8) (.ix (.v 4) (.k (.int 0))))) [.set 4 false (.tup [(.v 8),(.sl (.v 6) none (some (.v 7))),(.sl (.v 6) (some (.v 7)) none)])] []]=some (.nx σ2)/\∃(d:D) (o7 o8:Option R),(d=.non∨Bst n f d)/\(0<i+1->Bst n f d)/\σ2=[some (false,.tup (bx n λk=>tD m (c k) (r k))),some (false,.int (rm:Nat)),some (false,.lst (bx n λk=>qAI m (B k))),some (false,.int (f:Nat)),some (false,d),some (false,.int (j:Nat)),some (false,.lst (ptD p)),o7,o8]:=λb hb hk=>by
      cases b with
      | true =>
       refine⟨_,qAf (false,.int x) (by simp only [qAo,qAn,ag,qAg,List.getElem?_cons_succ,List.getElem?_cons_zero,Option.join_some,Option.bind_some,agR,qAm,q9]) (qPy (x:=false) hb (qAf (false,.tup [.int x,.lst (ptD (p.take q)),.lst (ptD (p.drop q))]) put rfl) rfl),_,_,_,.inr new,λ_=>new,rfl⟩
      | false =>
       refine⟨_,qAf (false,.int x) (by simp only [qAo,qAn,ag,qAg,List.getElem?_cons_succ,List.getElem?_cons_zero,Option.join_some,Option.bind_some,agR,qAm,q9]) (qAC (x:=false) hb rfl),_,_,_,.inr (hk rfl),λ_=>hk rfl,rfl⟩
     rw [hq]
     rcases hd with rfl|⟨x0,p0,q0,a1,a2,a3,rfl⟩
     ·obtain⟨σ2,e1,e2⟩:=kk true (by simp only [qDB,qGQ,pk,qAg,List.getElem?_cons_succ,List.getElem?_cons_zero,Option.join_some,Option.bind_some,pkR,qOQ,Bool.not_false,↓reduceIte]) (λz=>nomatch z)
      exact⟨_,σ2,rfl,e1,e2⟩
     ·obtain⟨σ2,e1,e2⟩:=kk (decide (x<x0)) (by simp only [qDB,qGQ,pk,qAg,List.getElem?_cons_succ,List.getElem?_cons_zero,Option.join_some,Option.bind_some,pkR,qOP,reduceCtorEq,↓reduceIte,qBd,qA7,qBf,Option.map_some,qBR,qDV,qCr]) λ_=>⟨x0,p0,q0,a1,a2,a3,rfl⟩
      exact⟨_,σ2,rfl,e1,e2⟩)
   obtain⟨d,o7,o8,_,hv,rfl⟩:=hσ
   refine⟨_,_,rfl,?_,d,some (false,.int (j:Nat)),some (false,.lst (ptD p)),o7,o8,.inr (hv (by omega)),λ_=>hv (by omega),rfl⟩
   refine qAf (true,.lst (ptD p)) (by simp only [List.set_cons_succ,List.set_cons_zero,qAo,qAn,ag,qAg,List.getElem?_cons_succ,List.getElem?_cons_zero,Option.join_some,Option.bind_some,agR,qAm,q8]) ?_
   refine qCM (ds:=[.int (f:Int),.int ((f:Int)+((n - f - f+1:Nat):Int))]) ?_ (qLR f _) h' rfl
   simp only [List.set_cons_succ,List.set_cons_zero,qAM,Bool.and_true,qAk,pk,qAg,List.getElem?_cons_succ,List.getElem?_cons_zero,Option.join_some,Option.bind_some,pkR,qAA,qAX,qAl,qA6,qDc,Option.map_some,qA5,qBf,qAF]
   rw [show (n:Int) - (f:Int)+1=(f:Int)+((n - f - f+1:Nat):Int) by omega])
 obtain⟨d,o5,o6,o7,o8,_,hv,rfl⟩:=hσ
 obtain⟨x,p,q,hp,b1,b2,rfl⟩:=hv hm
 have hl:p.length=n:=by simpa using hp.length_eq
 refine⟨p,q,hp,b1,b2,?_⟩
 refine qAf (true,.lst (bx n λk=>qAI m (B k))) hc' ?_
 refine qAf (false,.int (f:Nat)) (by simp only [qAM,Bool.and_true,List.set_cons_succ,List.set_cons_zero,qAX,qAk,pk,qAA,qAg,List.getElem?_cons_succ,List.getElem?_cons_zero,Option.join_some,Option.bind_some,pkR,qBf,Option.map_some,qAJ,d2,↓reduceIte,qAl,qA6,qDc,qA5,qCd,hfe]) ?_
 refine qAf (false,.non) rfl ?_
 refine qCM (ds:=[.int (m:Nat)]) (by simp only [qAM,Bool.and_true,List.set_cons_succ,List.set_cons_zero,Bool.and_false,qAk,pk,qAX,qA7,qAg,List.getElem?_cons_succ,List.getElem?_cons_zero,Option.join_some,Option.bind_some,pkR,qBf,Option.map_some,h0,qAl,hlen]) (qCS (by omega)) h' ?_
 have s1:=qKy (p.take q) (by rw [List.length_take];omega)
 have s2:=qKy (p.drop q) (by rw [List.length_drop];omega)
 refine qAp (r:=(false,.tup [.tup (srN (p.take q)),.tup (srN (p.drop q))])) ?_ rfl
 simp only [qDj,qBc,qAG,qAX,qAk,pk,qA7,qAg,List.getElem?_cons_succ,List.getElem?_cons_zero,Option.join_some,Option.bind_some,pkR,qBf,Option.map_some,qBR,qHJ,qAl,s1,qD9,qDU,s2,qAq,List.length_cons,List.length_nil,Nat.reduceAdd,l2,↓reduceIte]
end
theorem qG1 (is:List Int):(qE2 is).Perm is:=List.mergeSort_perm _ _
section
variable {call:Nat->List D->Option R}{σ:En}
theorem qMD {is:List Int}{k:Nat}(h:k<is.length):ixQ (is.map .int) (k:Int)=some (.int (is[k])):=by
 unfold ixQ ixD
 rw [List.length_map,qHK _ _ h]
 simp [h]
end
noncomputable def grow (m:Nat) (f a:Nat->P2):Int:=rim m (cov f a) - rim m f
noncomputable def btr (G R:Nat->Int) (k d:Nat):Bool:=decide (G k<G d)||(decide (G k=G d)&&decide (R k<R d))
noncomputable def due (G R:Nat->Int):Nat->Nat
 | 0=>0
 | k+1=>if btr G R k (due G R k) then k else due G R k
noncomputable def key (G R:Nat->Int) (k:Nat):List Int:=[G k,R k,(k:Int)]
theorem qF5 (G R:Nat->Int):∀k,due G R (k+1)<k+1
 | 0=>by rw [due,due,ite_self];decide
 | k+1=>by
  have h:=qF5 G R k
  rw [due]
  split<;>omega
theorem qOy (G R:Nat->Int) (k d:Nat) (h:d<k):lxL (key G R k) (key G R d)=btr G R k d:=by
 unfold key btr
 simp only [lxL]
 by_cases h1:G k=G d
 ·by_cases h2:R k=R d
  ·have h3:¬((k:Int)=(d:Int)):=by omega
   have h4:decide ((k:Int)<(d:Int))=false:=decide_eq_false (by omega)
   rw [if_pos h1,if_pos h2,if_neg h3,h4,h1,h2]
   simp
  ·simp [h1,h2]
 ·simp [h1]
theorem qJO (l:List (List Int)) (m x:List Int) (h:mnT l=some m):mnT (l++[x])=some (if lxL x m then x else m):=by
 cases l with
 | nil=>cases h
 | cons a r =>
  cases h
  show some ((r++[x]).foldl (λm x=>if lxL x m then x else m) a)=_
  rw [List.foldl_append]
  rfl
theorem qHA (G R:Nat->Int):∀n,mnT ((List.range (n+1)).map (key G R))=some (key G R (due G R (n+1)))
 | 0=>by
  have:due G R 1=0:=by have h:due G R 1<1:=qF5 G R 0;omega
  rw [this]
  rfl
 | n+1=>by
  rw [List.range_succ,List.map_append]
  show mnT (_++[key G R (n+1)])=_
  rw [qJO _ _ _ (qHA G R n),qOy G R (n+1) _ (qF5 G R n)]
  rw [show due G R (n+1+1)=if btr G R (n+1) (due G R (n+1)) then n+1 else due G R (n+1) from rfl]
  cases btr G R (n+1) (due G R (n+1))<;>rfl
theorem qF1 (f:Nat->D):∀(m a:Nat),qBP a ((List.range' a m).map f)=(List.range' a m).map λk=>.tup [.int ((k:Nat):Int),f k]
 | 0,_=>rfl
 | m+1,a=>by
  rw [List.range'_succ,List.map_cons,qBP,qF1 f m (a+1)]
  rfl
theorem qMT (m:Nat) (f:Nat->D):qBP 0 (bx m f)=(List.range m).map λk=>.tup [.int ((k:Nat):Int),f k]:=by
 unfold bx
 rw [List.range_eq_range']
 exact qF1 f m 0
section
variable {call:Nat->List D->Option R}{σ:En}
theorem qJC {e nl ks tg a}{r:R}(h:evE call σ (.compE e nl ks tg a)=some r):pk σ (.compE e nl ks tg a) (evE call σ (.compE e nl ks tg a))=some r.2:=by rw [h];rfl
theorem qMU {e:C}{nl:Nat}{ks:List Nat}{tg:Tg}{a:C}{x:R}{xs zs:List D}{σ':En}(ha:evE call σ a=some x) (hx:qJr x.2=some xs) (hc:qBm σ nl ks=σ') (hf:qAz call e σ' tg (qBP 0 xs)=some zs):evE call σ (.compE e nl ks tg a)=some (true,.lst zs):=by
 subst hc
 rw [qC6,ha]
 show (qB7 x.2).bind _=_
 rw [show qB7 x.2=some xs from hx]
 show (qAz call e (qBm σ nl ks) tg (qBP 0 xs)).bind _=_
 rw [hf]
 rfl
theorem qRg (m:Nat) (C2:∀f,call 2 [qAI m f]=some (false,.int (rim m f))) (C1:∀f g,call 1 [qAI m f,qAI m g]=some (false,qAI m (cov f g))) (f a:Nat->P2):qAr call [some (false,qAI m f),some (false,qAI m a),none] f_stir_of.body=some (.rt (false,.tup [.int (grow m f a),.int (rim m f)])):=by
 have l2:2<=lim:=qAB (by decide)
 refine qAf (false,.int (rim m f)) (by simp only [qAo,qAn,ag,qAg,List.getElem?_cons_zero,Option.join_some,Option.bind_some,agR,qAm,C2]) ?_
 exact qAp (r:=(false,.tup [.int (grow m f a),.int (rim m f)])) (by simp only [qDj,qAM,Bool.and_false,List.set_cons_succ,List.set_cons_zero,qBc,qAG,qAA,pk,qAo,qAn,ag,qAg,List.getElem?_cons_zero,Option.join_some,Option.bind_some,agR,List.getElem?_cons_succ,qAm,C1,Option.map_some,C2,pkR,qA5,qIW,qCp,qAq,List.length_cons,List.length_nil,Nat.reduceAdd,l2,↓reduceIte];rfl) rfl
theorem qRo (m n:Nat) (c:Nat->Nat->Q4) (r:Nat->List D) (a:Nat->Q4) (ra:List D) (C6:∀c r,call 16 [tD m c r]=some (false,qAI m (cv c))) (C7:∀f a,call 17 [qAI m f,qAI m a]=some (false,.tup [.int (grow m f a),.int (rim m f)])) :
  qAr call [some (false,.tup (bx (n+1) λk=>tD m (c k) (r k))),some (false,tD m a ra),none] f_chosen_page.body=some (.rt (false,.int ((due (λk=>grow m (cv (c k)) (cv a)) (λk=>rim m (cv (c k))) (n+1):Nat):Int))):=by
 refine qAf (false,qAI m (cv a)) (by simp only [qAo,qAn,ag,qAg,List.getElem?_cons_succ,List.getElem?_cons_zero,Option.join_some,Option.bind_some,agR,qAm,C6]) ?_
 have l3:2+1<=lim:=qAB (by decide)
 have l1:1<=lim:=qAB (by decide)
 have hc:=qMU (call:=call) (σ:=[some (false,.tup (bx (n+1) λk=>tD m (c k) (r k))),some (false,tD m a ra),some (false,qAI m (cv a))]) (e:=(.bin .add (.call 17 [(.call 16 [(.v 1)]),(.v 2)]) (.tup [(.v 0)]))) (nl:=2) (ks:=[2]) (tg:=.two 0 1) (a:=.v 0) (x:=(false,.tup (bx (n+1) λk=>tD m (c k) (r k)))) rfl rfl rfl
  (by
   rw [qMT]
   exact qAs call [none,none,some (false,qAI m (cv a))] (e:=(.bin .add (.call 17 [(.call 16 [(.v 1)]),(.v 2)]) (.tup [(.v 0)]))) (tg:=.two 0 1) (λk:Nat=>.tup [.int ((k:Nat):Int),tD m (c k) (r k)]) (λk=>.tup ((key (λk=>grow m (cv (c k)) (cv a)) (λk=>rim m (cv (c k))) k).map .int)) (List.range (n+1)) λk _=>⟨_,false,rfl,by
    simp only [List.set_cons_zero,List.set_cons_succ,qAA,pk,qAo,qAn,ag,qAg,List.getElem?_cons_succ,List.getElem?_cons_zero,Option.join_some,Option.bind_some,agR,qAm,C6,Option.map_some,C7,qBc,qAG,qIW,qCp,qAq,List.length_cons,List.length_nil,Nat.reduceAdd,l1,↓reduceIte,qEU,qRN,List.cons_append,List.nil_append]
    rfl⟩)
 generalize hG:(λk=>grow m (cv (c k)) (cv a))=G at *
 generalize hR:(λk=>rim m (cv (c k)))=R at *
 have hi:qAK ((List.range (n+1)).map λk=>D.tup ((key G R k).map .int))=none:=by
  rw [List.range_succ_eq_map,List.map_cons]
  rfl
 have hmn:biP .min [.lst ((List.range (n+1)).map λk=>D.tup ((key G R k).map .int))]=some (false,.tup ((key G R (due G R (n+1))).map .int)):=by
  rw [qKj,qMy,hi]
  simp only
  rw [qDq (key G R),Option.bind_some,qHA]
  rfl
 refine qAp (r:=(false,.int ((due G R (n+1):Nat):Int))) ?_ rfl
 refine qCx (qEp (qBl (qJC hc) hmn)) rfl ?_
 rfl
end
end Dw.T
namespace Dw.T
open Dw
theorem qJU (t:Th) (ts:List Th) (g:Th->Int):biP .min [.lst ((t::ts).map λt=>.int (g t))]=some (false,.int ((ts.map g).foldl min (g t))):=
 qEu (qAQ g (t::ts)) (qHB _ _)
theorem qJV (t:Th) (ts:List Th) (g:Th->Int):biP .max [.lst ((t::ts).map λt=>.int (g t))]=some (false,.int ((ts.map g).foldl max (g t))):=by
 rw [qGi,qAQ,List.map_cons,Option.bind_some,qHy]
 rfl
theorem qQu (t:Th) (ts:List Th) (g:Th->Int):biP .sum [.lst ((t::ts).map λt=>.int (g t))]=some (false,.int ((ts.map g).foldl (·+·) (g t))):=by
 rw [qII,qAQ,List.map_cons,qFv]
 rfl
theorem qHY:∀(l:List Th) (a b:Nat),l.foldl (λ(s:Nat×Nat) (t:Th)=>(s.1 ||| t.mr,s.2 &&& t.mr)) (a,b)=((l.map λt=>t.mr).foldl (· ||| ·) a,(l.map λt=>t.mr).foldl (· &&& ·) b)
 | [],_,_=>rfl
 | _::l,_,_=>qHY l _ _
section
variable {call:Nat->List D->Option R}
theorem qRj (m:Nat) (hm:m<=100) (L:List Th) (hl:L.length<=100):qAr call [some (false,.lst (L.map (thD m))),none,none,none,none,none,none,none,none,none,none] f_law_told.body=some (.rt (false,oD m (qAZ L))):=by
 cases hL:L with
 | nil=>exact qEi (x:=false) (r:=(false,.non)) rfl (qAp rfl rfl) rfl
 | cons t ts =>
 rw [qEo]
 rw [<-hL]
 have h0:ixP (.lst (L.map (thD m))) (.int 0)=some (false,thD m t):=by rw [hL,List.map_cons,qCw,qDV];rfl
 have hn0:((L.length:Nat):Int)≠0:=by rw [hL];simp;omega
 have l4:4<=lim:=qAB (by decide)
 obtain⟨σ',h',hσ⟩:=qBp (call:=call) (tg:=.one 3) (body:=[.set 5 false (.compS (.ix (.ix (.ix (.v 0) (.k (.int 1))) (.v 1)) (.k (.int 0))) 1 [3] (.one 0) (.v 0)),.set 6 false (.compS (.ix (.ix (.ix (.v 0) (.k (.int 1))) (.v 1)) (.k (.int 1))) 1 [3] (.one 0) (.v 0)),.set 7 false (.compS (.ix (.ix (.ix (.v 0) (.k (.int 1))) (.v 1)) (.k (.int 2))) 1 [3] (.one 0) (.v 0)),.app 1 (.tup [(.bi .min [(.v 5)]),(.bi .max [(.v 6)]),(.bi .min [(.v 7)]),(.bi .max [(.v 7)])]),.app 2 (.tup [(.bi .max [(.v 5)]),(.bi .min [(.v 6)]),(.bi .max [(.v 7)]),(.bi .min [(.v 7)])])]) (λk σ=>∃(o3 o5 o6 o7:Option R),σ=[some (false,.lst (L.map (thD m))),some (true,.lst ((List.range k).map λj=>q4 ((po t ts).c j))),some (true,.lst ((List.range k).map λj=>q4 ((po t ts).h j))),o3,none,o5,o6,o7,none,none,none]) m (λi=>.int (i:Nat))
  [some (false,.lst (L.map (thD m))),some (true,.lst []),some (true,.lst []),none,none,none,none,none,none,none,none] ⟨_,_,_,_,rfl⟩ (by
   rintro k σ hk ⟨o3,o5,o6,o7,rfl⟩
   generalize hC:(List.range k).map (λj=>q4 ((po t ts).c j))=Cs
   generalize hH:(List.range k).map (λj=>q4 ((po t ts).h j))=Hs
   have hcl:Cs.length=k:=by rw [<-hC];simp
   have hhl:Hs.length=k:=by rw [<-hH];simp
   have cx:=λ(v5 v6:Option R) (i:Int) (g:Th->Int) (hg:∀t,ixP (sD (t.sw k)) (.int i)=some (false,.int (g t)))=>qA4 (call:=call) (σ:=[some (false,.lst (L.map (thD m))),some (true,.lst Cs),some (true,.lst Hs),some (false,.int (k:Nat)),none,v5,v6,o7,none,none,none]) (e:=(.ix (.ix (.ix (.v 0) (.k (.int 1))) (.v 1)) (.k (.int i)))) (nl:=1) (ks:=[3]) (tg:=.one 0) (src:=.v 0) (r:=(false,.lst (L.map (thD m)))) rfl rfl rfl
    (qAs call _ (thD m) (λt=>.int (g t)) L λt _=>⟨_,false,rfl,by simp only [qBm,List.replicate_succ,List.replicate_zero,qAg,List.map_cons,List.getElem?_cons_succ,List.getElem?_cons_zero,Option.join_some,List.map_nil,List.cons_append,List.nil_append,List.set_cons_zero,qA7,pk,Option.bind_some,pkR,qBf,Option.map_some,th1,qBR,qEy (λj=>sD (t.sw j)) hk,hg]⟩)
   have a1:=qJU t ts λt=>(t.sw k).1
   have a2:=qJV t ts λt=>(t.sw k).1
   have a3:=qJU t ts λt=>(t.sw k).2.1
   have a4:=qJV t ts λt=>(t.sw k).2.1
   have a5:=qJU t ts λt=>(t.sw k).2.2
   have a6:=qJV t ts λt=>(t.sw k).2.2
   rw [<-hL] at a1 a2 a3 a4 a5 a6
   have ec:q4 ((po t ts).c k)=.tup [.int ((ts.map λt=>(t.sw k).1).foldl min (t.sw k).1),.int ((ts.map λt=>(t.sw k).2.1).foldl max (t.sw k).2.1),.int ((ts.map λt=>(t.sw k).2.2).foldl min (t.sw k).2.2),.int ((ts.map λt=>(t.sw k).2.2).foldl max (t.sw k).2.2)]:=by
    unfold q4
    rw [pr (λa=>(a.c k).1) min (λ_ _=>rfl),pr (λa=>(a.c k).2.1) max (λ_ _=>rfl),pr (λa=>(a.c k).2.2.1) min (λ_ _=>rfl),pr (λa=>(a.c k).2.2.2) max (λ_ _=>rfl)]
    rfl
   have eh:q4 ((po t ts).h k)=.tup [.int ((ts.map λt=>(t.sw k).1).foldl max (t.sw k).1),.int ((ts.map λt=>(t.sw k).2.1).foldl min (t.sw k).2.1),.int ((ts.map λt=>(t.sw k).2.2).foldl max (t.sw k).2.2),.int ((ts.map λt=>(t.sw k).2.2).foldl min (t.sw k).2.2)]:=by
    unfold q4
    rw [pr (λa=>(a.h k).1) max (λ_ _=>rfl),pr (λa=>(a.h k).2.1) min (λ_ _=>rfl),pr (λa=>(a.h k).2.2.1) max (λ_ _=>rfl),pr (λa=>(a.h k).2.2.2) min (λ_ _=>rfl)]
    rfl
   refine⟨_,_,rfl,?_,some (false,.int (k:Nat)),some (false,.lst (L.map λt=>.int (t.sw k).1)),some (false,.lst (L.map λt=>.int (t.sw k).2.1)),some (false,.lst (L.map λt=>.int (t.sw k).2.2)),rfl⟩
   refine qAf _ (cx _ _ 0 (λt=>(t.sw k).1) λ_=>rfl) ?_
   refine qAf _ (cx _ _ 1 (λt=>(t.sw k).2.1) λ_=>rfl) ?_
   refine qAf _ (cx _ _ 2 (λt=>(t.sw k).2.2) λ_=>rfl) ?_
   refine qCN (false,q4 ((po t ts).c k)) (by rw [ec];simp only [List.set_cons_succ,List.set_cons_zero,qAM,Bool.and_true,qBc,qAG,qAX,qAk,pk,qAg,List.getElem?_cons_succ,List.getElem?_cons_zero,Option.join_some,Option.bind_some,pkR,qAl,a1,a4,a5,a6,qAq,List.length_cons,List.length_nil,Nat.reduceAdd,l4,↓reduceIte]) rfl (by rw [hcl];exact Nat.lt_of_lt_of_le (by omega:k<101) (qAB (by decide))) ?_
   refine qCN (false,q4 ((po t ts).h k)) (by rw [eh];simp only [List.set_cons_succ,List.set_cons_zero,qAM,Bool.and_true,qBc,qAG,qAX,qAk,pk,qAg,List.getElem?_cons_succ,List.getElem?_cons_zero,Option.join_some,Option.bind_some,pkR,qAl,a2,a3,a6,a5,qAq,List.length_cons,List.length_nil,Nat.reduceAdd,l4,↓reduceIte]) rfl (by rw [hhl];exact Nat.lt_of_lt_of_le (by omega:k<101) (qAB (by decide))) ?_
   rw [List.range_succ,List.map_append,List.map_append,hC,hH]
   rfl)
 obtain⟨o3,o5,o6,o7,rfl⟩:=hσ
 obtain⟨σ2,h2,hσ2⟩:=qCE (call:=call) (tg:=.one 4) (body:=[.set 8 false (.bin .bor (.v 8) (.ix (.v 4) (.k (.int 2)))),.set 9 false (.bin .band (.v 9) (.ix (.v 4) (.k (.int 2))))]) (thD m) (λ(s:Nat×Nat) (t:Th)=>(s.1 ||| t.mr,s.2 &&& t.mr))
  (λs σ=>∃o4,σ=[some (false,.lst (L.map (thD m))),some (true,.lst ((List.range m).map λj=>q4 ((po t ts).c j))),some (true,.lst ((List.range m).map λj=>q4 ((po t ts).h j))),o3,o4,o5,o6,o7,some (false,.int (s.1:Int)),some (false,.int (s.2:Int)),none]) L (0,65535)
  [some (false,.lst (L.map (thD m))),some (true,.lst ((List.range m).map λj=>q4 ((po t ts).c j))),some (true,.lst ((List.range m).map λj=>q4 ((po t ts).h j))),o3,none,o5,o6,o7,some (false,.int 0),some (false,.int 65535),none] ⟨_,rfl⟩ (by
   rintro x hx ⟨s1,s2⟩ σ ⟨o4,rfl⟩
   have z1:(0:Int)<=(s1:Int)/\(0:Int)<=(x.mr:Int):=by omega
   have z2:(0:Int)<=(s2:Int)/\(0:Int)<=(x.mr:Int):=by omega
   refine⟨_,_,rfl,?_,some (false,thD m x),rfl⟩
   refine qAf (false,.int ((s1 ||| x.mr:Nat):Int)) (by simp only [List.set_cons_succ,List.set_cons_zero,qAA,pk,qAg,List.getElem?_cons_succ,List.getElem?_cons_zero,Option.join_some,Option.bind_some,pkR,qA7,qBf,Option.map_some,th2,qGh,z1,and_self,↓reduceIte,Int.toNat_natCast]) ?_
   exact qAf (false,.int ((s2 &&& x.mr:Nat):Int)) (by simp only [List.set_cons_succ,List.set_cons_zero,qAM,Bool.and_false,qAA,pk,qAg,List.getElem?_cons_succ,List.getElem?_cons_zero,Option.join_some,Option.bind_some,pkR,qA7,qBf,Option.map_some,th2,qET,z2,and_self,↓reduceIte,Int.toNat_natCast]) rfl)
 obtain⟨o4,rfl⟩:=hσ2
 have hso:L.foldl (λ(s:Nat×Nat) (t:Th)=>(s.1 ||| t.mr,s.2 &&& t.mr)) (0,65535)=((po t ts).so,(po t ts).ev):=by
  rw [qHY,hL,List.map_cons,List.foldl_cons,List.foldl_cons,Nat.zero_or,qM9 _ t.mb,pr (λa=>a.so) (· ||| ·) (λ_ _=>rfl),pr (λa=>a.ev) (· &&& ·) (λ_ _=>rfl)]
  rfl
 rw [hso] at h2
 have c4:=qA4 (call:=call) (σ:=[some (false,.lst (L.map (thD m))),some (true,.lst ((List.range m).map λj=>q4 ((po t ts).c j))),some (true,.lst ((List.range m).map λj=>q4 ((po t ts).h j))),o3,o4,o5,o6,o7,some (false,.int ((po t ts).so:Int)),some (false,.int ((po t ts).ev:Int)),none]) (e:=(.ix (.v 0) (.k (.int 3)))) (nl:=1) (ks:=[]) (tg:=.one 0) (src:=.v 0) (r:=(false,.lst (L.map (thD m)))) rfl rfl rfl
  (qAs call _ (thD m) (λt=>.int t.wo) L λt _=>⟨_,false,rfl,by simp only [qBm,List.replicate_succ,List.replicate_zero,qAg,List.map_nil,List.cons_append,List.nil_append,List.set_cons_zero,qA7,pk,List.getElem?_cons_zero,Option.join_some,Option.bind_some,pkR,qBf,Option.map_some,th3]⟩)
 have a1:=qJU t ts λt=>t.wo
 have a2:=qJV t ts λt=>t.wo
 have a3:=qQu t ts λt=>t.wo
 rw [<-hL] at a1 a2 a3
 have l8:8<=lim:=qAB (by decide)
 have en:(po t ts).n=((L.length:Nat):Int):=by
  rw [pr (λa=>a.n) (·+·) (λ_ _=>rfl)]
  show (ts.map λ_=>(1:Int)).foldl (·+·) 1=_
  rw [qGc,hL,List.length_cons]
  omega
 have e1:(po t ts).mn=(ts.map λt=>t.wo).foldl min t.wo:=pr (λa=>a.mn) min (λ_ _=>rfl) t ts
 have e2:(po t ts).mx=(ts.map λt=>t.wo).foldl max t.wo:=pr (λa=>a.mx) max (λ_ _=>rfl) t ts
 have e3:(po t ts).su=(ts.map λt=>t.wo).foldl (·+·) t.wo:=pr (λa=>a.su) (·+·) (λ_ _=>rfl) t ts
 have hb:(((L.length:Nat):Int) == 0)=false:=by simpa using hn0
 refine qAC (x:=false) (by simp only [qBd,pk,qAX,qAk,qAg,List.getElem?_cons_zero,Option.join_some,Option.bind_some,pkR,qAl,qAY,List.length_map,Option.map_some,qBf,qCj];rw [show eqD (.int ((L.length:Nat):Int)) (.int 0)=false from hb]) ?_
 refine qAf (true,.lst []) (by simp only [qBo,qAq,List.length_nil,qJS,↓reduceIte]) ?_
 refine qAf (true,.lst []) (by simp only [qAM,Bool.and_true,List.set_cons_succ,List.set_cons_zero,qBo,qAq,List.length_nil,qJS,↓reduceIte]) ?_
 refine qCM (ds:=[.int (m:Int)]) (by simp only [qAM,Bool.and_true,List.set_cons_succ,List.set_cons_zero,qAk,pk,qAX,qA7,qAg,List.getElem?_cons_zero,Option.join_some,Option.bind_some,pkR,qBf,Option.map_some,h0,th1,qAl,qA6,qDc]) (qCS (by omega)) h' ?_
 refine qAf (false,.int 0) rfl ?_
 refine qAf (false,.int 65535) rfl ?_
 refine qCo (r:=(false,.lst (L.map (thD m)))) rfl rfl h2 ?_
 refine qAf _ c4 ?_
 refine qAp (r:=(false,toD m (po t ts))) ?_ rfl
 unfold toD
 rw [en,e1,e2,e3]
 simp only [qDj,qAM,Bool.and_true,List.set_cons_succ,List.set_cons_zero,qBc,qAG,qAX,qAk,pk,qAg,List.getElem?_cons_succ,List.getElem?_cons_zero,Option.join_some,Option.bind_some,pkR,qAl,qD9,qIW,qCp,qAY,List.length_map,a1,a2,a3,qAq,List.length_cons,List.length_nil,Nat.reduceAdd,l8,↓reduceIte]
 rfl
end
theorem qQN (n m:Nat) (hm:m<=100) (L:List Th) (hl:L.length<=100):qAi tab (n+1) 39 [.lst (L.map (thD m))]=some (false,oD m (qAZ L)):=
 qAe t39 rfl rfl (qRj m hm L hl) (by cases qAZ L<;>rfl)
theorem qPa (n:Nat) (ns:List Int) (k:Nat):qAi tab (n+1) 35 [.lst (ns.map .int),.int (k:Int)]=some (false,.int (qB2 ns k)):=qAe t35 rfl rfl (qND ns k)
noncomputable def qNc (w:Int) (k:Nat) (t:Th):Prop:=∃v:Int,0<=v/\v<100000000000000/\t.hd=if (w.fmod 2 == 1) then (k:Int) * 100000000000000+v else v * 1000+(k:Int)
theorem qMZ (n m:Nat) (hm:m<=100) (c w:Int) (k:Nat) (hk:k<1000):∃t:Th,qNc w k t/\qAi tab (n+2) 38 [.int c,.int (k:Int),.int (m:Int),.int w]=some (false,thD m t):=by
 obtain⟨t,ht,h⟩:=qLg (call:=qAi tab (n+1)) c w k m hk hm λs j m h1 h2 h3=>by
  obtain⟨v,b,h⟩:=qNB (call:=qAi tab n) s j m h1 h2 h3
  exact⟨v,b,qAe t37 rfl rfl h⟩
 exact⟨t,ht,qAe t38 rfl rfl h⟩
theorem qJY {w:Int}{j k:Nat}{t u:Th}(ht:qNc w j t) (hu:qNc w k u) (hj:j<1000) (hk:k<1000) (h:j≠k):t.hd≠u.hd:=by
 obtain⟨v,a1,a2,a3⟩:=ht
 obtain⟨x,b1,b2,b3⟩:=hu
 rw [a3,b3]
 cases (w.fmod 2 == 1)
 ·simp only [Bool.false_eq_true,if_false]
  omega
 ·simp only [if_true]
  omega
end Dw.T
namespace Dw.T
open Dw
theorem qRb (n m:Nat) (c:Nat->Q4) (r:List D):qAi tab (n+3) 16 [tD m c r]=some (false,qAI m (cv c)):=
 qAe t16 rfl rfl (qRn m (λc r=>qAe t12 rfl rfl (qAp (r:=(false,.tup (bx m λj=>q4 (c j)))) (qCx rfl rfl (tD0 m c r)) rfl)) (λc=>qAe t6 rfl rfl (qPR (λq=>qAe t3 rfl rfl (qPN q)) m c)) c r)
theorem qQJ (n m:Nat) (L:List (Nat->P2)) (hL:L≠[]):∃x:Int,qAi tab (n+3) 19 [.lst (L.map (qAI m))]=some (false,.int x):=by
 obtain⟨x,h⟩:=qLh (call:=qAi tab (n+2)) m (λf=>qAe t2 rfl rfl (qQY m f)) (λf g=>qAe t1 rfl rfl (qQZ (λp q=>qAe t0 rfl rfl (qQX p q)) m f g)) L hL
 exact⟨x,qAe t19 rfl rfl h⟩
theorem qKd (k m n rm f:Nat) (hm:0<m) (hm1:m<=100) (c:Nat->Nat->Q4) (r:Nat->List D) (hr:4<=rm) (h1:rm<n) (h2:n<=2 * rm) (hn:n<64) (hf:f=max (rm / 2) (n - rm)) :
  ∃(p:List Nat) (q:Nat),p.Perm (List.range n)/\f<=q/\q<=n - f/\qAi tab (k+5) 22 [.tup (bx n λk=>tD m (c k) (r k)),.int (rm:Nat)]=some (false,.tup [.tup (srN (p.take q)),.tup (srN (p.drop q))]):=by
 obtain⟨p,q,a,b,d,h⟩:=qJb (call:=qAi tab (k+4)) m n rm f hm hm1 hr h1 h2 hn hf c r (λc r=>qRb (k+1) m c r)
  (λB j hj=>by
   obtain⟨p,hp,h⟩:=qLi (call:=qAi tab (k+3)) m n j hj (by omega) hn B
   exact⟨p,hp,qAe t20 rfl rfl h⟩)
  (λB p q hp h0 h1=>by
   obtain⟨x,h⟩:=qPS (call:=qAi tab (k+3)) m n q B p hp h0 h1 (λL hL=>qQJ k m L hL)
   exact⟨x,qAe t21 rfl rfl h⟩)
 exact⟨p,q,a,b,d,qAe t22 rfl rfl h⟩
theorem qRZ (n m:Nat) (f a:Nat->P2):qAi tab (n+3) 17 [qAI m f,qAI m a]=some (false,.tup [.int (grow m f a),.int (rim m f)]):=
 qAe t17 rfl rfl (qRg m (λf=>qAe t2 rfl rfl (qQY m f)) (λf g=>qAe t1 rfl rfl (qQZ (λp q=>qAe t0 rfl rfl (qQX p q)) m f g)) f a)
theorem qR2 (n m:Nat) (T:List To) (hT:T≠[]) (a:To):∃j:Nat,j<T.length/\qAi tab (n+4) 18 [.tup (T.map (toD m)),toD m a]=some (false,.int (j:Int)):=by
 obtain⟨k,hk⟩:∃k,T.length=k+1:=⟨T.length - 1,by cases T with|nil=>exact absurd rfl hT|cons _ _=>simp⟩
 obtain⟨t0,ts,rfl⟩:∃t0 ts,T=t0::ts:=by cases T with|nil=>exact absurd rfl hT|cons t0 ts=>exact⟨t0,ts,rfl⟩
 have h:=qAe (as:=[.tup (bx (k+1) λi=>toD m ((t0::ts).getD i t0)),toD m a]) (n:=n+3) t18 rfl rfl (qRo m k (λi=>((t0::ts).getD i t0).c) (λi=>[.tup (bx m λj=>q4 (((t0::ts).getD i t0).h j)),.int (((t0::ts).getD i t0).so:Int),.int (((t0::ts).getD i t0).ev:Int),.int ((t0::ts).getD i t0).n,.int ((t0::ts).getD i t0).mn,.int ((t0::ts).getD i t0).mx,.int ((t0::ts).getD i t0).su]) a.c [.tup (bx m λj=>q4 (a.h j)),.int (a.so:Int),.int (a.ev:Int),.int a.n,.int a.mn,.int a.mx,.int a.su] (λc r=>qRb n m c r) (λf a=>qRZ n m f a))
 rw [qFb hk t0 (toD m)]
 exact⟨_,by rw [hk];exact qF5 _ _ _,h⟩
theorem qEJ (p:List Nat):∃q:List Nat,q.Perm p/\srN p=q.map λk:Nat=>D.int (k:Nat):=by
 have hp:=qG1 (p.map λk:Nat=>((k:Nat):Int))
 refine⟨(qE2 (p.map λk:Nat=>((k:Nat):Int))).map Int.toNat,?_,?_⟩
 ·have:=hp.map Int.toNat
  rw [List.map_map] at this
  refine this.trans ?_
  rw [show (Int.toNat ∘ λk:Nat=>((k:Nat):Int))=id from funext λk=>Int.toNat_natCast k,List.map_id]
 ·unfold srN
  rw [List.map_map]
  refine List.map_congr_left λi hi=>?_
  obtain⟨k,_,rfl⟩:=List.mem_map.mp (hp.mem_iff.mp hi)
  rfl
section
variable {α:Type}
noncomputable def Rows (rm:Nat) (L:List α) (rs:List (List α)):Prop:=rs.flatten.Perm L/\((rs=[L]/\L.length<=rm)∨(rs.length=2/\∀r∈rs,rm / 2<=r.length/\r.length<=rm))
theorem qKT (k m rm:Nat) (hm:0<m) (hm1:m<=100) (hr:4<=rm) (hr1:rm<=16) (enc:α->D) (L:List α) (T:List To) (hT:T.length=L.length) (hl:L.length<=2 * rm) :
  ∃rs,Rows rm L rs/\qAi tab (k+6) 30 [.tup (L.map enc),.tup (T.map (toD m)),.int (rm:Nat)]=some (true,.lst (rs.map λr=>.tup (r.map enc))):=by
 by_cases h:L.length<=rm
 ·refine⟨[L],⟨by simp,.inl ⟨rfl,h⟩⟩,qAe (σ:=[some (false,.tup (L.map enc)),some (false,.tup (T.map (toD m))),some (false,.int (rm:Nat))]) t30 rfl rfl ?_⟩
  have h1:decide (((L.length:Nat):Int)<=((rm:Nat):Int))=true:=decide_eq_true (by omega)
  have l1:1<=lim:=qAB (by decide)
  exact qEi (x:=false) (r:=(true,.lst [.tup (L.map enc)])) (by simp only [qBd,pk,qAX,qAk,qAg,List.getElem?_cons_zero,Option.join_some,Option.bind_some,pkR,qAl,qA6,List.length_map,Option.map_some,List.getElem?_cons_succ,qIr,h1]) (qAp (by simp only [qDj,qBo,qAG,qIW,qCp,qAg,List.getElem?_cons_zero,Option.join_some,qAq,List.length_cons,List.length_nil,Nat.reduceAdd,l1,↓reduceIte]) rfl) rfl
 ·obtain⟨d,Lt,hLe⟩:∃d Lt,L=d::Lt:=by cases L with|nil=>exact absurd (Nat.zero_le _) h|cons a b=>exact⟨a,b,rfl⟩
  obtain⟨t0,Tt,hTe⟩:∃t0 Tt,T=t0::Tt:=by cases T with|nil=>rw [hLe] at hT;simp at hT|cons a b=>exact⟨a,b,rfl⟩
  have h1:decide (((L.length:Nat):Int)<=((rm:Nat):Int))=false:=decide_eq_false (by omega)
  obtain⟨p,q,hp,a1,a2,hc⟩:=qKd k m L.length rm (max (rm / 2) (L.length - rm)) hm hm1 (λi=>(T.getD i t0).c) (λi=>[.tup (bx m λj=>q4 ((T.getD i t0).h j)),.int ((T.getD i t0).so:Int),.int ((T.getD i t0).ev:Int),.int (T.getD i t0).n,.int (T.getD i t0).mn,.int (T.getD i t0).mx,.int (T.getD i t0).su]) hr (by omega) hl (by omega) rfl
  have hc':qAi tab (k+5) 22 [.tup (T.map (toD m)),.int (rm:Nat)]=some (false,.tup [.tup (srN (p.take q)),.tup (srN (p.drop q))]):=by rw [qFb hT t0 (toD m)];exact hc
  obtain⟨q1,p1,e1⟩:=qEJ (p.take q)
  obtain⟨q2,p2,e2⟩:=qEJ (p.drop q)
  have hpl:p.length=L.length:=by simpa using hp.length_eq
  have m1:∀i∈q1,i<L.length:=λi hi=>by simpa using hp.mem_iff.mp (List.mem_of_mem_take (p1.mem_iff.mp hi))
  have m2:∀i∈q2,i<L.length:=λi hi=>by simpa using hp.mem_iff.mp (List.mem_of_mem_drop (p2.mem_iff.mp hi))
  have z1:=p1.length_eq
  have z2:=p2.length_eq
  rw [List.length_take] at z1
  rw [List.length_drop] at z2
  refine⟨[q1.map λi=>L.getD i d,q2.map λi=>L.getD i d],⟨?_,.inr ⟨rfl,λr hr=>?_⟩⟩,qAe (σ:=[some (false,.tup (L.map enc)),some (false,.tup (T.map (toD m))),some (false,.int (rm:Nat))]) t30 rfl rfl ?_⟩
  ·show ((q1.map λi=>L.getD i d)++((q2.map λi=>L.getD i d)++[])).Perm L
   rw [List.append_nil,<-List.map_append]
   have hq:(q1++q2).Perm (List.range L.length):=(p1.append p2).trans (by rw [List.take_append_drop];exact hp)
   refine (hq.map _).trans (.of_eq ?_)
   refine List.ext_getElem (by simp) λi h1 h2=>?_
   rw [List.getElem_map,List.getElem_range,List.getD_eq_getElem?_getD,List.getElem?_eq_getElem h2]
   rfl
  ·simp only [List.mem_cons,List.not_mem_nil,or_false] at hr
   rcases hr with rfl|rfl
   ·rw [List.length_map];omega
   ·rw [List.length_map];omega
  ·have inner:∀(qq:List Nat),(∀i∈qq,i<L.length)->∀(σ:En),σ=[some (false,.tup (qq.map λk:Nat=>D.int (k:Nat))),some (false,.tup (L.map enc))]->evE (qAi tab (k+5)) σ (.bi .tuple [(.compS (.ix (.v 1) (.v 0)) 1 [1] (.one 0) (.v 0))])=some (false,.tup ((qq.map λi=>L.getD i d).map enc)):=λqq hq σ hσ=>by
    subst hσ
    have hcc:=qA4 (call:=qAi tab (k+5)) (σ:=[some (false,.tup (qq.map λk:Nat=>D.int (k:Nat))),some (false,.tup (L.map enc))]) (e:=(.ix (.v 1) (.v 0))) (nl:=1) (ks:=[1]) (tg:=.one 0) (src:=.v 0) (r:=(false,.tup (qq.map λk:Nat=>D.int (k:Nat)))) rfl rfl rfl
     (qAs (qAi tab (k+5)) [none,some (false,.tup (L.map enc))] (e:=(.ix (.v 1) (.v 0))) (tg:=.one 0) (λk:Nat=>D.int (k:Nat)) (λi=>enc (L.getD i d)) qq λi hi=>⟨_,false,rfl,by
      refine qCx (x:=.tup (L.map enc)) (y:=.int (i:Nat)) rfl rfl ?_
      have:=hq i hi
      rw [qBR,qDT,List.getElem?_map,List.getElem?_eq_getElem this,List.getD_eq_getElem?_getD,List.getElem?_eq_getElem this]
      rfl⟩)
    rw [List.map_map]
    exact qBl (qBu hcc) rfl
   refine qAC (x:=false) (by simp only [qBd,pk,qAX,qAk,qAg,List.getElem?_cons_zero,Option.join_some,Option.bind_some,pkR,qAl,qA6,List.length_map,Option.map_some,List.getElem?_cons_succ,qIr,h1]) ?_
   refine qAp (r:=(true,.lst [.tup ((q1.map λi=>L.getD i d).map enc),.tup ((q2.map λi=>L.getD i d).map enc)])) ?_ rfl
   refine qA4 (σ':=[none,some (false,.tup (L.map enc))]) (r:=(false,.tup [.tup (srN (p.take q)),.tup (srN (p.drop q))])) (by simp only [qAo,qAn,ag,qAg,List.getElem?_cons_succ,List.getElem?_cons_zero,Option.join_some,Option.bind_some,agR,qAm,hc']) rfl rfl ?_
   rw [e1,e2]
   exact qAs _ _ (λqq:List Nat=>.tup (qq.map λk:Nat=>D.int (k:Nat))) (λqq=>.tup ((qq.map λi=>L.getD i d).map enc)) [q1,q2] λqq hqq=>⟨_,false,rfl,inner qq (λi hi=>by
    simp only [List.mem_cons,List.not_mem_nil,or_false] at hqq
    rcases hqq with rfl|rfl
    ·exact m1 i hi
    ·exact m2 i hi) _ rfl⟩
end
theorem qQL (n m:Nat) (L:List Th):qAi tab (n+5) 28 [.tup (L.map (thD m))]=some (false,pgD m (.lf (qAZ L) L)):=
 qAe t28 rfl rfl (qAp (r:=(false,pgD m (.lf (qAZ L) L))) (qF2 (x:=(false,lfS)) (y:=(false,oD m (qAZ L))) (w:=(false,.tup (L.map (thD m)))) rfl (qAR (qBL (qAR rfl (qO4 (n+1) m L))) (qIE n m _)) rfl) rfl) rfl
noncomputable def mkF (ps:List Pg):Pg:=.fk (fo (ps.map (·.o))) ps
theorem qO7 (n m:Nat) (ps:List Pg):qAi tab (n+5) 29 [.tup (ps.map (pgD m))]=some (false,pgD m (mkF ps)):=by
 have h:=qAe (as:=[.tup (ps.map (pgD m))]) (n:=n+4) t29 rfl rfl (qAp (r:=(false,.tup [fkS,oD m (fo (ps.map (·.o))),.tup (ps.map (pgD m))])) (qF2 (x:=(false,fkS)) (y:=(false,oD m (fo (ps.map (·.o))))) (w:=(false,.tup (ps.map (pgD m)))) rfl (qAR (qBL (qAR rfl (qM0 (n+2) m ps))) (qIE n m _)) rfl) rfl) rfl
 rw [h,qCv]
 rfl
section
variable {call:Nat->List D->Option R}{σ:En}
theorem qBJ {f:Nat}{a b c:C}{x y w:D}{r:Option R}(ha:ag σ a (evE call σ a)=some x) (hb:ag σ b (evE call σ b)=some y) (hc:ag σ c (evE call σ c)=some w) (h:call f [x,y,w]=r):evE call σ (.call f [a,b,c])=r:=by
 rw [qBk,qAH,ha,Option.bind_some,qAH,hb,Option.bind_some,qAH,hc,Option.bind_some,qAm,Option.bind_some,Option.bind_some,Option.bind_some]
 exact h
theorem qBK {f:Nat}{a b:C}{x y:D}{r:Option R}(ha:ag σ a (evE call σ a)=some x) (hb:ag σ b (evE call σ b)=some y) (h:call f [x,y]=r):evE call σ (.call f [a,b])=r:=by
 rw [qBk,qAH,ha,Option.bind_some,qAH,hb,Option.bind_some,qAm,Option.bind_some,Option.bind_some]
 exact h
end
theorem qQM (k m rm:Nat) (hm:0<m) (hm1:m<=100) (hr:4<=rm) (hr1:rm<=16) (L:List Th) (hl:L.length<=2 * rm) :
  ∃rs,Rows rm L rs/\qAi tab (k+7) 31 [.tup (L.map (thD m)),.int (rm:Nat)]=some (false,.tup ((rs.map λr=>Pg.lf (qAZ r) r).map (pgD m))):=by
 obtain⟨rs,h1,h2⟩:=qKT k m rm hm hm1 hr hr1 (thD m) L (L.map one) (by simp) hl
 refine⟨rs,h1,qAe t31 rfl rfl (qAp ?_ rfl)⟩
 have ht:=qO4 (k+3) m L
 rw [List.map_map,show (oD m ∘ λt=>some (one t))=(toD m ∘ one) from rfl,<-List.map_map] at ht
 have hc:=qA4 (call:=qAi tab (k+6)) (σ:=[some (false,.tup (L.map (thD m))),some (false,.int (rm:Nat))]) (e:=(.call 28 [(.v 0)])) (nl:=1) (ks:=[]) (tg:=.one 0) (src:=(.call 30 [(.v 0),(.call 26 [(.v 0)]),(.v 1)])) (r:=(true,.lst (rs.map λr:List Th=>.tup (r.map (thD m))))) (qBJ rfl (qBL (qAR rfl ht)) rfl h2) rfl rfl
  (qAs _ _ (λr:List Th=>.tup (r.map (thD m))) (λr=>pgD m (.lf (qAZ r) r)) rs λr _=>⟨_,false,rfl,qAR rfl (qQL (k+1) m r)⟩)
 rw [List.map_map]
 exact qBl (qBu hc) rfl
theorem qQO {α:Type}(π:α->Pg) (k m rm:Nat) (hm:0<m) (hm1:m<=100) (hr:4<=rm) (hr1:rm<=16) (xs:List α) (ho:∀x∈xs,(π x).o≠none) (hl:xs.length<=2 * rm) :
  ∃rs,Rows rm xs rs/\qAi tab (k+7) 32 [.tup ((xs.map π).map (pgD m)),.int (rm:Nat)]=some (false,.tup ((rs.map λr=>mkF (r.map π)).map (pgD m))):=by
 obtain⟨T,hT⟩:∃T:List To,(xs.map π).map (·.o)=T.map some:=by
  clear hl
  induction xs with
  | nil=>exact⟨[],rfl⟩
  | cons p ps ih =>
   obtain⟨T,hT⟩:=ih λq hq=>ho q (List.mem_cons_of_mem _ hq)
   cases e:(π p).o with
   | none=>exact absurd e (ho p List.mem_cons_self)
   | some t=>exact⟨t::T,by rw [List.map_cons,List.map_cons,e,hT];rfl⟩
 obtain⟨rs,h1,h2⟩:=qKT k m rm hm hm1 hr hr1 (λx=>pgD m (π x)) xs T (by have:=congrArg List.length hT;simpa using this.symm) hl
 refine⟨rs,h1,qAe t32 rfl rfl (qAp ?_ rfl)⟩
 have ht:=qM0 (k+4) m (xs.map π)
 rw [hT,List.map_map,List.map_map,show (oD m ∘ some)=toD m from rfl] at ht
 have hc:=qA4 (call:=qAi tab (k+6)) (σ:=[some (false,.tup ((xs.map π).map (pgD m))),some (false,.int (rm:Nat))]) (e:=(.call 29 [(.v 0)])) (nl:=1) (ks:=[]) (tg:=.one 0) (src:=(.call 30 [(.v 0),(.call 27 [(.v 0)]),(.v 1)])) (r:=(true,.lst (rs.map λr:List α=>.tup (r.map λx=>pgD m (π x))))) (by rw [List.map_map];exact qBJ rfl (qBL (qAR rfl ht)) rfl h2) rfl rfl
  (qAs _ _ (λr:List α=>.tup (r.map λx=>pgD m (π x))) (λr=>pgD m (mkF (r.map π))) rs λr _=>⟨_,false,rfl,qAR rfl (by have:=qO7 (k+1) m (r.map π);rw [List.map_map] at this;exact this)⟩)
 have e:((rs.map λr=>mkF (r.map π)).map (pgD m))=rs.map λr=>pgD m (mkF (r.map π)):=by rw [List.map_map];rfl
 rw [e]
 exact qBl (qBu hc) rfl
end Dw.T
namespace Dw.T
open Dw
noncomputable def np:Pg->Nat
 | .lf _ L=>L.length
 | .fk _ ps=>ps.length
noncomputable def Hy (rm:Nat):Nat->Pg->List Th->Prop
 | 0,p,L=>p=.lf (qAZ L) L/\L.length<=rm
 | h+1,p,L=>∃ps:List (Pg×List Th),p=mkF (ps.map (·.1))/\L=(ps.map (·.2)).flatten/\2<=ps.length/\ps.length<=rm/\∀x∈ps,Hy rm h x.1 x.2/\rm / 2<=np x.1
theorem qPJ {rm:Nat}:∀{h:Nat}{p:Pg}{L:List Th},Hy rm h p L->p.o=qAZ L
 | 0,_,_,⟨e,_⟩=>by rw [e];rfl
 | h+1,p,L,⟨ps,e1,e2,_,_,k⟩=>by
  rw [e1,e2,qCV]
  show fo ((ps.map (·.1)).map (·.o))=_
  rw [List.map_map,List.map_map]
  exact congrArg fo (List.map_congr_left λx hx=>qPJ (k x hx).1)
theorem qIU {rm:Nat}(hr:4<=rm):∀{h:Nat}{p:Pg}{L:List Th},Hy rm h p L->2<=np p->2^(h+1)<=L.length
 | 0,_,L,⟨e,_⟩,h2=>by rw [e] at h2;exact h2
 | h+1,p,L,⟨ps,e1,e2,h2,_,k⟩,_=>by
  rw [e2]
  have key:∀l:List (Pg×List Th),(∀x∈l,2^(h+1)<=x.2.length)->l.length * 2^(h+1)<=(l.map (·.2)).flatten.length:=λl hl=>by
   induction l with
   | nil=>simp
   | cons x l ih =>
    have a:=ih λy hy=>hl y (List.mem_cons_of_mem _ hy)
    have b:=hl x List.mem_cons_self
    rw [List.map_cons,List.flatten_cons,List.length_append,List.length_cons,Nat.succ_mul]
    omega
  have:=key ps λx hx=>qIU hr (k x hx).1 (by have:=(k x hx).2;omega)
  refine Nat.le_trans ?_ this
  rw [Nat.pow_succ 2 (h+1),Nat.mul_comm]
  exact Nat.mul_le_mul_right _ h2
theorem qPv {rm:Nat}(hr:4<=rm) {h:Nat}{p:Pg}{L:List Th}(k:Hy rm h p L) (h2:rm / 2<=np p):p.o≠none:=by
 rw [qPJ k]
 have:=qIU hr k (by omega)
 have h1:0<2^(h+1):=Nat.pow_pos (by decide)
 cases L with
 | nil=>simp at this
 | cons t ts=>rw [qEo];exact nofun
theorem qH1 {α β:Type}(f:α->List β) {l l':List α}(h:l.Perm l'):(l.map f).flatten.Perm (l'.map f).flatten:=by
 induction h with
 | nil=>exact .refl _
 | cons x _ ih=>exact ih.append_left _
 | swap x y l =>
  simp only [List.map_cons,List.flatten_cons]
  rw [<-List.append_assoc,<-List.append_assoc]
  exact List.perm_append_comm.append_right _
 | trans _ _ a b=>exact a.trans b
theorem qJ0 {α:Type}{rs:List (List α)}{r:List α}(hr:r∈rs) {x:α}(hx:x∈r):x∈rs.flatten:=List.mem_flatten.mpr ⟨r,hr,hx⟩
structure Grown (rm h:Nat) (p:Pg) (L:List Th) (t:Th) (qs:List (Pg×List Th)):Prop where
 pm:(qs.map (·.2)).flatten.Perm (L++[t])
 ln:qs.length=1∨qs.length=2
 ok:∀x∈qs,Hy rm h x.1 x.2
 np:rm / 2<=np p∨qs.length=2->∀x∈qs,rm / 2<=Dw.T.np x.1
theorem qCR {α β:Type}(f:α->List β):∀rs:List (List α),(rs.map λr=>(r.map f).flatten).flatten=(rs.flatten.map f).flatten
 | []=>rfl
 | r::rs=>by rw [List.map_cons,List.flatten_cons,qCR f rs,List.flatten_cons,List.map_append,List.flatten_append]
theorem qQb (m:Nat) (o:Option To) (L:List Th):prD m (.lf o L)=L.map (thD m):=rfl
section
variable {call:Nat->List D->Option R}
theorem qPO (m rm:Nat) (t:Th) (p:Pg) (X:D) (hp:p.isLf=true) (hl:(prD m p).length<=100) (C25:call 25 [pgD m p]=some (false,.tup (prD m p))) (C23:call 23 [pgD m p]=some (false,.bl p.isLf)) (C31:call 31 [.tup (prD m p++[thD m t]),.int (rm:Nat)]=some (false,X)) :
  qAr call [some (false,pgD m p),some (false,.int (rm:Nat)),some (false,thD m t),none,none,none] f_pages_with.body=some (.rt (false,X)):=by
 refine qAf (false,.tup (prD m p)) (qAR rfl C25) ?_
 rw [hp] at C23
 refine qEi (x:=false) (r:=(false,X)) (qAR rfl C23) (qAp (qBK (x:=.tup (prD m p++[thD m t])) ?_ rfl C31) rfl) rfl
 show (evE _ _ (.bin .add _ _)).map (·.2)=_
 rw [qDn (x:=.tup (prD m p)) (y:=.tup [thD m t]) rfl (qN7 (qOX (x:=(false,thD m t)) rfl)) (qE1 _ _ (by simp;omega))]
 rfl
theorem qPP (m rm:Nat) (t:Th) (p q:Pg) (P Q:List D) (T:D) (a:D) (j:Nat) (X:D) (hp:p.isLf=false) (hP:prD m p=P) (hl:P.length<=100) (hq:Q.length<=100) (hj:P[j]?=some (pgD m q)) (C25:call 25 [pgD m p]=some (false,.tup (prD m p))) (C23:call 23 [pgD m p]=some (false,.bl p.isLf))
  (C27:call 27 [.tup P]=some (false,T)) (C13:call 13 [thD m t]=some (false,a)) (C18:call 18 [T,a]=some (false,.int (j:Nat))) (C33:call 33 [pgD m q,.int (rm:Nat),thD m t]=some (false,.tup Q)) (C32:call 32 [.tup (P.take j++Q++P.drop (j+1)),.int (rm:Nat)]=some (false,X)) :
  qAr call [some (false,pgD m p),some (false,.int (rm:Nat)),some (false,thD m t),none,none,none] f_pages_with.body=some (.rt (false,X)):=by
 rw [hp] at C23
 rw [hP] at C25
 have hix:ixP (.tup P) (.int (j:Nat))=some (false,pgD m q):=by rw [qBR,qDT,hj];rfl
 refine qAf (false,.tup P) (qAR rfl C25) ?_
 refine qAC (x:=false) (qAR rfl C23) ?_
 refine qAf (false,.int (j:Nat)) (qBK (qBL (qAR rfl C27)) (qBL (qAR rfl C13)) C18) ?_
 refine qAf (false,.tup Q) (qBJ (qIO (qCx rfl rfl hix)) rfl rfl C33) ?_
 refine qAp (r:=(false,X)) (qBK (x:=.tup (P.take j++Q++P.drop (j+1))) ?_ rfl C32) rfl
 have s1:∀σ:En,qAg σ 3=some (false,.tup P)->qAg σ 4=some (false,.int (j:Nat))->evE call σ (.sl (.v 3) none (some (.v 4)))=some (false,.tup (P.take j)):=fun σ h3 h4=>by
  rw [qOZ (xs:=P) (l:=none) (h:=some (j:Int)) (by show (qAg σ 3).bind pkR=_;rw [h3];rfl) rfl (e_o (by show (qAg σ 4).bind pkR=_;rw [h4];rfl)),qIo]
 have s2:∀σ:En,qAg σ 3=some (false,.tup P)->qAg σ 4=some (false,.int (j:Nat))->evE call σ (.sl (.v 3) (some (.bin .add (.v 4) (.k (.int 1)))) none)=some (false,.tup (P.drop (j+1))):=fun σ h3 h4=>by
  rw [qOZ (xs:=P) (l:=some ((j+1:Nat):Int)) (h:=none) (by show (qAg σ 3).bind pkR=_;rw [h3];rfl) (e_o (qFH (r:=(false,.int ((j+1:Nat):Int))) (qDn (x:=.int (j:Nat)) (y:=.int 1) (by show (qAg σ 4).bind pkR=_;rw [h4];rfl) rfl rfl))) rfl,qF6]
 show (evE _ _ (.bin .add (.bin .add _ _) _)).map (·.2)=_
 rw [qDn (x:=.tup (P.take j++Q)) (y:=.tup (P.drop (j+1))) (qFH (r:=(false,.tup (P.take j++Q))) (qDn (x:=.tup (P.take j)) (y:=.tup Q) (qL3 (s1 _ rfl rfl)) rfl (qE1 _ _ (by rw [List.length_take];omega)))) (qL3 (s2 _ rfl rfl)) (qE1 _ _ (by rw [List.length_append,List.length_take,List.length_drop];omega))]
 rfl
theorem qNA (m rm:Nat) (t:Th) (p p':Pg) (P:List D) (C33:call 33 [pgD m p,.int (rm:Nat),thD m t]=some (false,.tup P)) (hc:(P=[pgD m p'])∨(P.length=2/\call 29 [.tup P]=some (false,pgD m p'))) :
  qAr call [some (false,pgD m p),some (false,.int (rm:Nat)),some (false,thD m t),none] f_put_thing.body=some (.rt (false,pgD m p')):=by
 refine qAf (false,.tup P) (qBJ rfl rfl rfl C33) ?_
 refine qAp (r:=(false,pgD m p')) ?_ rfl
 show evE _ _ (.ifx (.cmp .eq (.bi .len [(.v 3)]) (.k (.int 1))) (.ix (.v 3) (.k (.int 0))) (.call 29 [(.v 3)]))=_
 rcases hc with rfl|⟨hl,h29⟩
 ·rw [qKx,qEG (qEp (qBl (x:=.tup [pgD m p']) rfl rfl)) rfl (show qEH .eq (.int (([pgD m p'].length:Nat):Int)) (.int 1)=some (false,.bl true) from rfl)]
  exact qCx rfl rfl rfl
 ·rw [qKx,qEG (qEp (qBl (x:=.tup P) rfl rfl)) rfl (show qEH .eq (.int ((P.length:Nat):Int)) (.int 1)=some (false,.bl false) by rw [hl];rfl)]
  dsimp only
  rw [if_neg (by decide)]
  exact qAR rfl h29
end
theorem qQ9 (m rm:Nat) (hm:0<m) (hm1:m<=100) (hr:4<=rm) (hr1:rm<=16) (t:Th):∀(h n:Nat) (p:Pg) (L:List Th),Hy rm h p L ->
  ∃qs,Grown rm h p L t qs/\qAi tab (n+h+8) 33 [pgD m p,.int (rm:Nat),thD m t]=some (false,.tup ((qs.map (·.1)).map (pgD m)))
 | 0,n,p,L,⟨e,hl⟩=>by
  subst e
  obtain⟨rs,⟨h1,h2⟩,hc⟩:=qQM n m rm hm hm1 hr hr1 (L++[t]) (by simp;omega)
  refine⟨rs.map λr=>(Pg.lf (qAZ r) r,r),⟨?_,?_,?_,?_⟩,?_⟩
  ·rw [List.map_map,show ((λx:Pg×List Th=>x.2) ∘ λr:List Th=>(Pg.lf (qAZ r) r,r))=id from rfl,List.map_id]
   exact h1
  ·rw [List.length_map]
   rcases h2 with ⟨rfl,_⟩|⟨h,_⟩
   ·exact .inl rfl
   ·exact .inr h
  ·intro x hx
   obtain⟨r,hr',rfl⟩:=List.mem_map.mp hx
   refine⟨rfl,?_⟩
   rcases h2 with ⟨rfl,h⟩|⟨_,h⟩
   ·rw [List.mem_singleton] at hr';subst hr';exact h
   ·exact (h r hr').2
  ·intro hq x hx
   obtain⟨r,hr',rfl⟩:=List.mem_map.mp hx
   show rm / 2<=r.length
   rcases h2 with ⟨rfl,h⟩|⟨_,h⟩
   ·rw [List.mem_singleton] at hr';subst hr'
    rcases hq with hq|hq
    ·have:rm / 2<=L.length:=hq
     rw [List.length_append];omega
    ·simp at hq
   ·exact (h r hr').1
  ·have e:((rs.map λr=>(Pg.lf (qAZ r) r,r)).map (·.1))=rs.map λr=>Pg.lf (qAZ r) r:=by rw [List.map_map];rfl
   rw [e]
   rw [List.map_append] at hc
   exact qAe (σ:=[some (false,pgD m (.lf (qAZ L) L)),some (false,.int (rm:Nat)),some (false,thD m t),none,none,none]) t33 rfl (by rw [qGj]<;>rfl) (qPO m rm t (.lf (qAZ L) L) _ rfl (by rw [qQb,List.length_map];omega) (qRa (n+6) m _) (qKU (n+6) m _) hc)
 | h+1,n,p,L,⟨ps,e1,e2,b1,b2,k⟩=>by
  obtain⟨T,hT⟩:∃T:List To,(ps.map (·.1)).map (·.o)=T.map some:=by
   have ho:∀x∈ps,x.1.o≠none:=λx hx=>qPv hr (k x hx).1 (k x hx).2
   clear k b1 b2 e1 e2
   induction ps with
   | nil=>exact⟨[],rfl⟩
   | cons p ps ih =>
    obtain⟨T,hT⟩:=ih λq hq=>ho q (List.mem_cons_of_mem _ hq)
    cases e:p.1.o with
    | none=>exact absurd e (ho p List.mem_cons_self)
    | some t=>exact⟨t::T,by rw [List.map_cons,List.map_cons,e,hT];rfl⟩
  have hTl:T.length=ps.length:=by have:=congrArg List.length hT;simpa using this.symm
  obtain⟨j,hj,hcp⟩:=qR2 (n+h+4) m T (by intro z;rw [z] at hTl;simp at hTl;omega) (one t)
  rw [hTl] at hj
  have hx:=List.getElem_mem hj
  obtain⟨qs,g,hpw⟩:=qQ9 m rm hm hm1 hr hr1 t h n ps[j].1 ps[j].2 (k _ hx).1
  have hnp:=g.np (.inl (k _ hx).2)
  have split:ps=ps.take j++ps[j]::ps.drop (j+1):=by rw [List.getElem_cons_drop,List.take_append_drop]
  have all:∀x∈ps.take j++qs++ps.drop (j+1),Hy rm h x.1 x.2/\rm / 2<=np x.1:=λx hx=>by
   simp only [List.mem_append] at hx
   rcases hx with (hx|hx)|hx
   ·exact k x (List.mem_of_mem_take hx)
   ·exact⟨g.ok x hx,hnp x hx⟩
   ·exact k x (List.mem_of_mem_drop hx)
  have lens:ps.length<=(ps.take j++qs++ps.drop (j+1)).length/\(ps.take j++qs++ps.drop (j+1)).length<=ps.length+1:=by
   have:=g.ln
   rw [List.length_append,List.length_append,List.length_take,List.length_drop]
   omega
  obtain⟨rs,⟨h1,h2⟩,hc⟩:=qQO (λx:Pg×List Th=>x.1) (n+h+1) m rm hm hm1 hr hr1 (ps.take j++qs++ps.drop (j+1)) (λx hx=>qPv hr (all x hx).1 (all x hx).2) (by omega)
  generalize hps:ps.take j++qs++ps.drop (j+1)=ps' at *
  refine⟨rs.map λr=>(mkF (r.map (·.1)),(r.map (·.2)).flatten),⟨?_,?_,?_,?_⟩,?_⟩
  ·rw [List.map_map,show ((λx:Pg×List Th=>x.2) ∘ λr:List (Pg×List Th)=>(mkF (r.map (·.1)),(r.map (·.2)).flatten))=λr=>(r.map (·.2)).flatten from rfl,qCR]
   refine (qH1 _ h1).trans ?_
   rw [<-hps,e2,List.map_append,List.map_append,List.flatten_append,List.flatten_append]
   conv=>rhs;rw [split,List.map_append,List.map_cons,List.flatten_append,List.flatten_cons]
   have:=g.pm
   generalize ((ps.take j).map (·.2)).flatten=A
   generalize ((ps.drop (j+1)).map (·.2)).flatten=B
   rw [List.append_assoc,List.append_assoc,List.append_assoc]
   refine List.Perm.append_left _ ((this.append_right _).trans ?_)
   rw [List.append_assoc]
   exact List.Perm.append_left _ List.perm_append_comm
  ·rw [List.length_map]
   rcases h2 with ⟨rfl,_⟩|⟨h,_⟩
   ·exact .inl rfl
   ·exact .inr h
  ·intro x hx
   obtain⟨r,hr',rfl⟩:=List.mem_map.mp hx
   have hmem:∀x∈r,Hy rm h x.1 x.2/\rm / 2<=np x.1:=λx hx=>all x (h1.mem_iff.mp (qJ0 hr' hx))
   refine⟨r,rfl,rfl,?_,?_,hmem⟩
   ·rcases h2 with ⟨rfl,h⟩|⟨_,h⟩
    ·rw [List.mem_singleton] at hr';subst hr';omega
    ·have:=(h r hr').1;omega
   ·rcases h2 with ⟨rfl,h⟩|⟨_,h⟩
    ·rw [List.mem_singleton] at hr';subst hr';exact h
    ·exact (h r hr').2
  ·intro hq x hx
   obtain⟨r,hr',rfl⟩:=List.mem_map.mp hx
   show rm / 2<=(r.map (·.1)).length
   rw [List.length_map]
   rcases h2 with ⟨rfl,h⟩|⟨_,h⟩
   ·rw [List.mem_singleton] at hr';subst hr'
    rcases hq with hq|hq
    ·rw [e1] at hq
     have:rm / 2<=(ps.map (·.1)).length:=hq
     rw [List.length_map] at this
     omega
    ·simp at hq
   ·exact (h r hr').1
  ·rw [e1]
   show qAi tab (n+h+8+1) 33 _=_
   have ht:=qM0 (n+h+6) m (ps.map (·.1))
   rw [hT,show (T.map some).map (oD m)=T.map (toD m) by rw [List.map_map];rfl] at ht
   have e:((rs.map λr=>(mkF (r.map (·.1)),(r.map (·.2)).flatten)).map (·.1))=rs.map λr:List (Pg×List Th)=>mkF (r.map (·.1)):=by rw [List.map_map];rfl
   rw [e]
   rw [<-hps,List.map_append,List.map_append,List.map_append,List.map_append] at hc
   simp only [List.map_take,List.map_drop] at hc
   exact qAe (σ:=[some (false,pgD m (mkF (ps.map (·.1)))),some (false,.int (rm:Nat)),some (false,thD m t),none,none,none]) t33 rfl (by rw [qGj]<;>rfl) (qPP m rm t (mkF (ps.map (·.1))) ps[j].1 ((ps.map (·.1)).map (pgD m)) ((qs.map (·.1)).map (pgD m)) (.tup (T.map (toD m))) (toD m (one t)) j _ rfl rfl (by rw [List.length_map,List.length_map];omega) (by rw [List.length_map,List.length_map];rcases g.ln with h|h<;>omega) (by rw [List.getElem?_map,List.getElem?_map,List.getElem?_eq_getElem hj];rfl)
    (qRa (n+h+7) m _) (qKU (n+h+7) m _) ht (qQ8 (n+h+6) m t) hcp hpw hc)
theorem qQK (m rm:Nat) (hm:0<m) (hm1:m<=100) (hr:4<=rm) (hr1:rm<=16) (t:Th) (h n:Nat) (p:Pg) (L:List Th) (k:Hy rm h p L) :
  ∃h' p' L',Hy rm h' p' L'/\L'.Perm (L++[t])/\qAi tab (n+h+9) 34 [pgD m p,.int (rm:Nat),thD m t]=some (false,pgD m p'):=by
 obtain⟨qs,g,hc⟩:=qQ9 m rm hm hm1 hr hr1 t h n p L k
 rcases g.ln with hl|hl
 ·obtain⟨x,rfl⟩:=List.length_eq_one_iff.mp hl
  exact⟨h,x.1,x.2,g.ok x List.mem_cons_self,by simpa using g.pm,qAe (σ:=[some (false,pgD m p),some (false,.int (rm:Nat)),some (false,thD m t),none]) t34 rfl (by rw [qGj]<;>rfl) (qNA m rm t p x.1 _ hc (.inl rfl)) (by rw [qCv];rfl)⟩
 ·have hk:qAi tab (n+h+8) 29 [.tup ((qs.map (·.1)).map (pgD m))]=some (false,pgD m (mkF (qs.map (·.1)))):=qO7 (n+h+3) m _
  have h2:((qs.map (·.1)).map (pgD m)).length=2:=by rw [List.length_map,List.length_map,hl]
  exact⟨h+1,mkF (qs.map (·.1)),(qs.map (·.2)).flatten,⟨qs,rfl,rfl,by omega,by omega,λx hx=>⟨g.ok x hx,g.np (.inr hl) x hx⟩⟩,g.pm,qAe (σ:=[some (false,pgD m p),some (false,.int (rm:Nat)),some (false,thD m t),none]) t34 rfl (by rw [qGj]<;>rfl) (qNA m rm t p (mkF (qs.map (·.1))) _ hc (.inr ⟨h2,hk⟩)) (by rw [qCv];rfl)⟩
end Dw.T
namespace Dw.T
open Dw
noncomputable def pl:Nat->D->Prop
 | _,.int _=>True
 | _,.non=>True
 | n+1,.tup ds=>ds.length<=1000/\∀d∈ds,pl n d
 | _,_=>False
section
variable {call:Nat->List D->Option R}
theorem qF3 {σ:En}{a:C}(h:evE call σ a=some (false,.bl true)):evE call σ (.not a)=some (false,.bl false):=by rw [qEb,h];rfl
theorem qJc (ds:List D) (hl:ds.length<=1000) (C36:∀d∈ds,call 36 [d,d]=some (false,.bl true)):qAr call [some (false,.tup ds),some (false,.tup ds),none] f_law_alike.body=some (.rt (false,.bl true)):=by
 obtain⟨σ',h',hσ⟩:=qBp (call:=call) (tg:=.one 2) (body:=[.ite (.not (.call 36 [(.ix (.v 0) (.v 2)),(.ix (.v 1) (.v 2))])) [.ret (.k (.bl false))] []]) (λk σ=>∃o2:Option R,σ=[some (false,.tup ds),some (false,.tup ds),o2]) ds.length (λi=>.int (i:Nat))
  [some (false,.tup ds),some (false,.tup ds),none] ⟨_,rfl⟩ (by
   rintro k σ hk ⟨o2,rfl⟩
   refine⟨_,_,rfl,?_,some (false,.int (k:Nat)),rfl⟩
   have hix:ixP (.tup ds) (.int (k:Nat))=some (false,ds[k]):=by rw [qBR,qDT,List.getElem?_eq_getElem hk];rfl
   have hcl:evE call [some (false,.tup ds),some (false,.tup ds),some (false,.int (k:Nat))] (.call 36 [(.ix (.v 0) (.v 2)),(.ix (.v 1) (.v 2))])=some (false,.bl true):=qBK (qIO (qCx rfl rfl hix)) (qIO (qCx rfl rfl hix)) (C36 _ (List.getElem_mem hk))
   refine qAC (x:=false) ?_ rfl
   exact qF3 hcl)
 obtain⟨o2,rfl⟩:=hσ
 have hne:qEH .ne (.int ((ds.length:Nat):Int)) (.int ((ds.length:Nat):Int))=some (false,.bl false):=by rw [qCG];simp
 refine qEi (x:=false) (r:=(false,.bl true)) (by simp only [qDp,pk,qAg,List.getElem?_cons_succ,List.getElem?_cons_zero,Option.join_some,Option.bind_some,pkR,qFs]) ?_ rfl
 refine qAC (x:=false) (by simp only [qDB,qEb,qDp,pk,qAg,List.getElem?_cons_zero,Option.join_some,Option.bind_some,pkR,qFs,Bool.not_true,reduceCtorEq,↓reduceIte,qBd,qAX,qAk,qAl,qA6,Option.map_some,List.getElem?_cons_succ,hne]) ?_
 refine qCM (ds:=[.int ((ds.length:Nat):Int)]) (by simp only [qAk,pk,qAX,qAg,List.getElem?_cons_succ,List.getElem?_cons_zero,Option.join_some,Option.bind_some,pkR,qAl,qA6,Option.map_some]) (qCS (by omega)) h' ?_
 exact qAp rfl rfl
theorem qJe (i:Int):qAr call [some (false,.int i),some (false,.int i),none] f_law_alike.body=some (.rt (false,.bl true)):=by
 have he:qEH .eq (.int i) (.int i)=some (false,.bl true):=by rw [qCj];simp
 refine qAC (x:=false) (by simp only [qDp,pk,qAg,List.getElem?_cons_succ,List.getElem?_cons_zero,Option.join_some,Option.bind_some,pkR,qNq]) ?_
 refine qAC (x:=false) (by simp only [qGQ,pk,qAg,List.getElem?_cons_succ,List.getElem?_cons_zero,Option.join_some,Option.bind_some,pkR,qOR]) ?_
 refine qAC (x:=false) rfl ?_
 exact qAp (r:=(false,.bl true)) (by simp only [qDj,qNn,qDp,pk,qAg,List.getElem?_cons_zero,Option.join_some,Option.bind_some,pkR,qNr,↓reduceIte,qEb,qNs,Bool.not_false,qBd,List.getElem?_cons_succ,he]) rfl
theorem qJd:qAr call [some (false,.non),some (false,.non),none] f_law_alike.body=some (.rt (false,.bl true)):=by
 refine qAC (x:=false) rfl ?_
 exact qEi (x:=false) (r:=(false,.bl true)) rfl (qAp rfl rfl) rfl
end
theorem qD7:∀(n k:Nat) (d:D),pl n d->qAi tab (k+n+1) 36 [d,d]=some (false,.bl true)
 | _,k,.int i,_=>qAe t36 rfl rfl (qJe i)
 | _,k,.non,_=>qAe t36 rfl rfl qJd
 | 0,k,.tup ds,h=>absurd h (by simp [pl])
 | n+1,k,.tup ds,h=>qAe t36 rfl rfl (qJc ds h.1 λd hd=>qD7 n k d (h.2 d hd))
 | 0,_,.bl _,h=>absurd h (by simp [pl])
 | 0,_,.str _,h=>absurd h (by simp [pl])
 | 0,_,.lst _,h=>absurd h (by simp [pl])
 | 0,_,.dct _ _,h=>absurd h (by simp [pl])
 | 0,_,.obj _ _,h=>absurd h (by simp [pl])
 | 0,_,.exc _,h=>absurd h (by simp [pl])
 | _+1,_,.bl _,h=>absurd h (by simp [pl])
 | _+1,_,.str _,h=>absurd h (by simp [pl])
 | _+1,_,.lst _,h=>absurd h (by simp [pl])
 | _+1,_,.dct _ _,h=>absurd h (by simp [pl])
 | _+1,_,.obj _ _,h=>absurd h (by simp [pl])
 | _+1,_,.exc _,h=>absurd h (by simp [pl])
theorem qL2 (m n:Nat) (hm:m<=100) (f:Nat->D) (h:∀j,pl n (f j)):pl (n+1) (.tup (bx m f)):=⟨by rw [qDc];omega,λd hd=>by
 obtain⟨j,_,rfl⟩:=List.mem_map.mp hd
 exact h j⟩
theorem qL1 (q:Q4):pl 1 (q4 q):=⟨by simp,λd hd=>by
 simp only [List.mem_cons,List.not_mem_nil,or_false] at hd
 rcases hd with rfl|rfl|rfl|rfl<;>trivial⟩
theorem qN6 (m:Nat) (hm:m<=100) (o:Option To):pl 3 (oD m o):=by
 cases o with
 | none=>trivial
 | some t =>
  refine⟨by simp,λd hd=>?_⟩
  simp only [List.mem_cons,List.not_mem_nil,or_false] at hd
  rcases hd with rfl|rfl|rfl|rfl|rfl|rfl|rfl|rfl
  ·exact qL2 m 1 hm _ λj=>qL1 _
  ·exact qL2 m 1 hm _ λj=>qL1 _
  all_goals trivial
theorem qQd (m:Nat) (hm:m<=100) (t:Th):pl 3 (thD m t):=by
 refine⟨by simp,λd hd=>?_⟩
 simp only [List.mem_cons,List.not_mem_nil,or_false] at hd
 rcases hd with rfl|rfl|rfl|rfl
 ·trivial
 ·exact qL2 m 1 hm _ λj=>by rw [qP2];exact qL1 _
 all_goals trivial
theorem qDR {α:Type}(f:α->D) (l:List α) (h:∀x∈l,qBh (f x)=true):qB4 (l.map f)=true:=by
 induction l with
 | nil=>rfl
 | cons x l ih =>
  show (qBh (f x)&&qB4 (l.map f))=true
  rw [h x List.mem_cons_self,ih λy hy=>h y (List.mem_cons_of_mem _ hy)]
  rfl
theorem qPA (m:Nat) (o:Option To):qBh (oD m o)=true:=by
 cases o with
 | none=>rfl
 | some t =>
  show (qBh (.tup (bx m _))&&(qBh (.tup (bx m _))&&true))=true
  rw [show qBh (.tup (bx m λj=>q4 (t.c j)))=true from qDR _ _ λ_ _=>rfl,show qBh (.tup (bx m λj=>q4 (t.h j)))=true from qDR _ _ λ_ _=>rfl]
  rfl
theorem qQr (m:Nat) (t:Th):qBh (thD m t)=true:=by
 show (qBh (.int t.hd)&&(qBh (.tup (bx m _))&&true))=true
 rw [show qBh (.tup (bx m λj=>sD (t.sw j)))=true from qDR _ _ λ_ _=>rfl]
 rfl
noncomputable def lkD (m h:Nat) (L:List Th):D:=.tup [.int (h:Nat),.lst (L.map (thD m))]
theorem lk0 (m h:Nat) (L:List Th):ixP (lkD m h L) (.int 0)=some (false,.int (h:Nat)):=rfl
theorem lk1 (m h:Nat) (L:List Th):ixP (lkD m h L) (.int 1)=some (false,.lst (L.map (thD m))):=rfl
section
variable {call:Nat->List D->Option R}{σ:En}
theorem qK0 {o a b}{r:R}(h:evE call σ (.bin o a b)=some r):ag σ (.bin o a b) (evE call σ (.bin o a b))=some r.2:=by rw [h];rfl
theorem qKr {o as}{r:R}(h:evE call σ (.bi o as)=some r):ag σ (.bi o as) (evE call σ (.bi o as))=some r.2:=by rw [h];rfl
theorem qIZ {i:Nat}{d:D}(h:qAg σ i=some (false,d)):ag σ (.v i) (evE call σ (.v i))=some d:=by
 show (qAg σ i).bind agR=_
 rw [h]
 rfl
theorem qIh {f i:Nat}{xs:List D}{d:D}(hi:qAg σ i=some (true,.lst xs)) (hc:call f [.lst xs]=some (false,d)) (hn:qBh d=true):evE call σ (.call f [.v i])=some (false,d):=by
 have h1:evG call σ [.v i]=none:=by
  rw [qAH]
  show ((qAg σ i).bind agR).bind _=_
  rw [hi]
  rfl
 have h2:qBO call σ [.v i]=some [.lst xs]:=by
  rw [qA3]
  show ((qAg σ i).bind pkR).bind _=_
  rw [hi]
  rfl
 rw [qBk,h1,h2]
 show (call f [.lst xs]).bind nlR=_
 rw [hc]
 show (if qBh d=true then some (false,d) else none)=_
 rw [if_pos hn]
theorem qLj (m rm fw:Nat) (L:List Th) (h1:fw<=L.length) (h2:L.length<=rm) (hr:rm<=16) (C39:call 39 [.lst (L.map (thD m))]=some (false,oD m (qAZ L))) (C36:call 36 [oD m (qAZ L),oD m (qAZ L)]=some (false,.bl true)) :
  qAr call [some (false,.tup [lfS,oD m (qAZ L),.tup (L.map (thD m))]),some (false,.int (rm:Nat)),some (false,.int (fw:Nat)),none,none,none,none,none] f_law_looked.body=some (.rt (false,lkD m 0 L)):=by
 have l2:2<=lim:=qAB (by decide)
 have a1:decide (((L.length:Nat):Int)<((fw:Nat):Int))=false:=decide_eq_false (by omega)
 have a2:decide (((rm:Nat):Int)<((L.length:Nat):Int))=false:=decide_eq_false (by omega)
 generalize hP:L.map (thD m)=P at *
 have hl:P.length=L.length:=by rw [<-hP,List.length_map]
 rw [<-hl] at a1 a2
 have hnl:=qPA m (qAZ L)
 generalize hO:oD m (qAZ L)=O at *
 refine qAC (x:=false) (by simp only [qDB,qEb,qDp,pk,qAg,List.getElem?_cons_zero,Option.join_some,Option.bind_some,pkR,qFs,Bool.not_true,reduceCtorEq,↓reduceIte,qBd,qAX,qAk,qAl,qA6,List.length_cons,List.length_nil,Nat.reduceAdd,Option.map_some,qBf,qCG,qA7,qBR,qDU];rfl) ?_
 refine qAC (x:=false) (by simp only [qDB,qBd,pk,qAX,qAk,qA7,qAg,List.getElem?_cons_zero,Option.join_some,Option.bind_some,pkR,qBf,Option.map_some,qBR,qDU,qAl,qA6,List.getElem?_cons_succ,qCr,a1,reduceCtorEq,↓reduceIte,qFn,a2]) ?_
 refine qAf (true,.lst []) (by simp only [qBo,qAq,List.length_nil,qJS,↓reduceIte]) ?_
 refine qAf (false,.int 0) rfl ?_
 refine qQ1 (x:=false) (σ':=[some (false,.tup [lfS,O,.tup P]),some (false,.int (rm:Nat)),some (false,.int (fw:Nat)),some (true,.lst P),some (false,.int 0),none,none,none]) (qEG (qDM (qCx rfl rfl rfl)) rfl qQt) ?_ ?_
 ·exact qPy (x:=false) (qEG (qDM (qCx rfl rfl rfl)) rfl qOB) (qAf (true,.lst P) (by simp only [qAM,Bool.and_true,List.set_cons_succ,List.set_cons_zero,Bool.and_false,qAX,qAk,pk,qA7,qAg,List.getElem?_cons_zero,Option.join_some,Option.bind_some,pkR,qBf,Option.map_some,qBR,qDU,qAl,qKk]) rfl) rfl
 refine qAC (x:=false) (qF3 (qBK (x:=O) (y:=O) (qIO (r:=(false,O)) (qCx rfl rfl rfl)) (qBL (qIh rfl C39 hnl)) C36)) ?_
 rw [qGO]
 show qAr call [some (false,.tup [lfS,O,.tup P]),some (false,.int (rm:Nat)),some (false,.int (fw:Nat)),some (false,.lst P),some (false,.int 0),none,none,none] _=_
 unfold lkD
 rw [hP]
 exact qAp (r:=(false,.tup [.int (0:Nat),.lst P])) (by simp only [qDj,qBc,qAG,qIW,qCp,qAg,List.getElem?_cons_succ,List.getElem?_cons_zero,Option.join_some,qAq,List.length_cons,List.length_nil,Nat.reduceAdd,l2,↓reduceIte];rfl) rfl
theorem qMv (h:Int) (l:List Unit):biP .min [.lst ((()::l).map λ_=>.int h)]=some (false,.int h):=by
 refine qEu (qAQ (λ_=>h) (()::l)) ?_
 rw [List.map_cons,qHB]
 congr 1
 induction l with
 | nil=>rfl
 | cons _ l ih=>rw [List.map_cons,List.foldl_cons,Int.min_self];exact ih
theorem qMs (h:Int) (l:List Unit):biP .max [.lst ((()::l).map λ_=>.int h)]=some (false,.int h):=by
 rw [qGi,qAQ,List.map_cons,Option.bind_some,qHy]
 have:(l.map λ_=>h).foldl max h=h:=by
  induction l with
  | nil=>rfl
  | cons _ l ih=>rw [List.map_cons,List.foldl_cons,Int.max_self];exact ih
 rw [this]
 rfl
theorem qLU (n:Nat) (d:D):List.replicate n d=(List.replicate n ()).map λ_=>d:=by simp
theorem qLk (m rm fw h:Nat) (ps:List (Pg×List Th)) (h1:fw<=ps.length) (h2:ps.length<=rm) (hr:rm<=16) (hp:2<=ps.length) (hL:(ps.map (·.2)).flatten.length<=100) (C39:call 39 [.lst ((ps.map (·.2)).flatten.map (thD m))]=some (false,oD m (qAZ (ps.map (·.2)).flatten))) (C36:call 36 [oD m (qAZ (ps.map (·.2)).flatten),oD m (qAZ (ps.map (·.2)).flatten)]=some (false,.bl true))
  (C42:∀x∈ps,call 42 [pgD m x.1,.int (rm:Nat),.int ((rm / 2:Nat):Int)]=some (false,lkD m h x.2)) :
  qAr call [some (false,.tup [fkS,oD m (qAZ (ps.map (·.2)).flatten),.tup (ps.map λx=>pgD m x.1)]),some (false,.int (rm:Nat)),some (false,.int (fw:Nat)),none,none,none,none,none] f_law_looked.body=some (.rt (false,lkD m (h+1) (ps.map (·.2)).flatten)):=by
 have l2:2<=lim:=qAB (by decide)
 have d2:qBr 2=true:=by decide
 have e2:(rm:Int).fdiv 2=((rm / 2:Nat):Int):=by rw [Int.fdiv_eq_ediv_of_nonneg _ (by decide)];omega
 have a1:decide (((ps.length:Nat):Int)<((fw:Nat):Int))=false:=decide_eq_false (by omega)
 have a2:decide (((rm:Nat):Int)<((ps.length:Nat):Int))=false:=decide_eq_false (by omega)
 have a3:decide (((ps.length:Nat):Int)<2)=false:=decide_eq_false (by omega)
 have a4:decide (((h:Nat):Int)<((h:Nat):Int))=false:=decide_eq_false (by omega)
 have hnl:=qPA m (qAZ (ps.map (·.2)).flatten)
 generalize hO:oD m (qAZ (ps.map (·.2)).flatten)=O at *
 have loop:∀(l:List (Pg×List Th)) (a:Nat) (A:List Th) (o6 o7:Option R),(∀x∈l,x∈ps)->a+l.length<=100->A.length+(l.map (·.2)).flatten.length<=100->∃o6' o7':Option R,qA2 call [.set 7 false (.call 42 [(.v 6),(.v 1),(.bin .fdiv (.v 1) (.k (.int 2)))]),.ite (.isC false (.v 7) .non) [.ret (.k .non)] [],.app 5 (.ix (.v 7) (.k (.int 0))),.ext 3 (.ix (.v 7) (.k (.int 1)))] (.one 6) (l.map λx=>pgD m x.1) [some (false,.tup [fkS,O,.tup (ps.map λx=>pgD m x.1)]),some (false,.int (rm:Nat)),some (false,.int (fw:Nat)),some (true,.lst (A.map (thD m))),some (false,.int 0),some (true,.lst (List.replicate a (.int (h:Nat)))),o6,o7] =
   some (.nx [some (false,.tup [fkS,O,.tup (ps.map λx=>pgD m x.1)]),some (false,.int (rm:Nat)),some (false,.int (fw:Nat)),some (true,.lst ((A++(l.map (·.2)).flatten).map (thD m))),some (false,.int 0),some (true,.lst (List.replicate (a+l.length) (.int (h:Nat)))),o6',o7']):=by
  intro l
  induction l with
  | nil=>intro a A o6 o7 _ _ _;exact⟨o6,o7,by simp [qEE]⟩
  | cons x l ih =>
   intro a A o6 o7 hm ha hA
   rw [List.map_cons,List.flatten_cons,List.length_append] at hA
   rw [List.length_cons] at ha
   obtain⟨p6,p7,e⟩:=ih (a+1) (A++x.2) (some (false,pgD m x.1)) (some (false,lkD m h x.2)) (λy hy=>hm y (List.mem_cons_of_mem _ hy)) (by omega) (by rw [List.length_append];omega)
   refine⟨p6,p7,?_⟩
   have q:=C42 x (hm x List.mem_cons_self)
   have body:qAr call [some (false,.tup [fkS,O,.tup (ps.map λx=>pgD m x.1)]),some (false,.int (rm:Nat)),some (false,.int (fw:Nat)),some (true,.lst (A.map (thD m))),some (false,.int 0),some (true,.lst (List.replicate a (.int (h:Nat)))),some (false,pgD m x.1),o7] [.set 7 false (.call 42 [(.v 6),(.v 1),(.bin .fdiv (.v 1) (.k (.int 2)))]),.ite (.isC false (.v 7) .non) [.ret (.k .non)] [],.app 5 (.ix (.v 7) (.k (.int 0))),.ext 3 (.ix (.v 7) (.k (.int 1)))] =
     some (.nx [some (false,.tup [fkS,O,.tup (ps.map λx=>pgD m x.1)]),some (false,.int (rm:Nat)),some (false,.int (fw:Nat)),some (true,.lst ((A++x.2).map (thD m))),some (false,.int 0),some (true,.lst (List.replicate (a+1) (.int (h:Nat)))),some (false,pgD m x.1),some (false,lkD m h x.2)]):=by
    refine qAf (false,lkD m h x.2) (qBJ (x:=pgD m x.1) (y:=.int (rm:Nat)) (w:=.int ((rm / 2:Nat):Int)) rfl rfl (qK0 (r:=(false,.int ((rm / 2:Nat):Int))) (qDn (x:=.int (rm:Nat)) (y:=.int 2) rfl rfl (by rw [qAJ,if_pos d2,e2]))) q) ?_
    refine qAC (x:=false) rfl ?_
    refine qCN (false,.int (h:Nat)) (qCx rfl rfl (lk0 m h x.2)) rfl (by rw [List.length_replicate];exact Nat.lt_of_lt_of_le (by omega:a<101) (qAB (by decide))) ?_
    refine qLo (qCx rfl rfl (lk1 m h x.2)) rfl (by rw [List.length_map,List.length_map];exact Nat.le_trans (by omega:A.length+x.2.length<=100) (qAB (by decide))) ?_
    rw [List.map_append,List.replicate_succ']
    rfl
   rw [List.map_cons,qBa]
   show (qAr call _ _).bind _=_
   rw [show (List.set [some (false,D.tup [fkS,O,.tup (ps.map λx=>pgD m x.1)]),some (false,.int (rm:Nat)),some (false,.int (fw:Nat)),some (true,.lst (A.map (thD m))),some (false,.int 0),some (true,.lst (List.replicate a (.int (h:Nat)))),o6,o7] 6 (some (false,pgD m x.1)))=[some (false,.tup [fkS,O,.tup (ps.map λx=>pgD m x.1)]),some (false,.int (rm:Nat)),some (false,.int (fw:Nat)),some (true,.lst (A.map (thD m))),some (false,.int 0),some (true,.lst (List.replicate a (.int (h:Nat)))),some (false,pgD m x.1),o7] from rfl,body]
   show qA2 call _ _ _ _=_
   rw [e,List.map_cons,List.flatten_cons,List.append_assoc,List.length_cons,show a+1+l.length=a+(l.length+1) by omega]
 obtain⟨o6,o7,h'⟩:=loop ps 0 [] none none (λ_ h=>h) (by omega) (by simpa using hL)
 rw [List.nil_append,Nat.zero_add] at h'
 obtain⟨z,hz⟩:∃z,ps.length=z+1:=⟨ps.length - 1,by omega⟩
 have hrep:(List.replicate ps.length (D.int (h:Nat)))=(()::List.replicate z ()).map λ_=>.int (h:Nat):=by rw [hz,qLU];rfl
 have m1:biP .min [.lst (List.replicate ps.length (D.int (h:Nat)))]=some (false,.int (h:Nat)):=by rw [hrep];exact qMv _ _
 have m2:biP .max [.lst (List.replicate ps.length (D.int (h:Nat)))]=some (false,.int (h:Nat)):=by rw [hrep];exact qMs _ _
 have m3:ixP (.lst (List.replicate ps.length (D.int (h:Nat)))) (.int 0)=some (false,.int (h:Nat)):=by rw [hz,List.replicate_succ,qCw,qDV];rfl
 generalize hW:(ps.map (·.2)).flatten.map (thD m)=W at *
 have hP:(ps.map λx=>pgD m x.1).length=ps.length:=List.length_map ..
 have hlr:(List.replicate ps.length (D.int (h:Nat))).length=ps.length:=List.length_replicate ..
 refine qAC (x:=false) (by simp only [qDB,qEb,qDp,pk,qAg,List.getElem?_cons_zero,Option.join_some,Option.bind_some,pkR,qFs,Bool.not_true,reduceCtorEq,↓reduceIte,qBd,qAX,qAk,qAl,qA6,List.length_cons,List.length_nil,Nat.reduceAdd,Option.map_some,qBf,qCG,qA7,qBR,qDU];rfl) ?_
 refine qAC (x:=false) (by simp only [qDB,qBd,pk,qAX,qAk,qA7,qAg,List.getElem?_cons_zero,Option.join_some,Option.bind_some,pkR,qBf,Option.map_some,qBR,qDU,qAl,qA6,hP,List.getElem?_cons_succ,qCr,a1,reduceCtorEq,↓reduceIte,qFn,a2]) ?_
 refine qAf (true,.lst []) (by simp only [qBo,qAq,List.length_nil,qJS,↓reduceIte]) ?_
 refine qAf (false,.int 0) rfl ?_
 refine qPy (x:=false) (σ':=[some (false,.tup [fkS,O,.tup (ps.map λx=>pgD m x.1)]),some (false,.int (rm:Nat)),some (false,.int (fw:Nat)),some (true,.lst W),some (false,.int ((h+1:Nat):Int)),some (true,.lst (List.replicate ps.length (.int (h:Nat)))),o6,o7]) (qEG (qDM (qCx rfl rfl rfl)) rfl qQE) ?_ ?_
 ·refine qAf (true,.lst []) (by simp only [qAM,Bool.and_true,List.set_cons_succ,List.set_cons_zero,Bool.and_false,qBo,qAq,List.length_nil,qJS,↓reduceIte]) ?_
  refine qCo (r:=(false,.tup (ps.map λx=>pgD m x.1))) (qCx rfl rfl rfl) rfl h' ?_
  generalize hRR:List.replicate ps.length (D.int (h:Nat))=RR at *
  refine qAC (x:=false) (by simp only [qDB,qBd,pk,qAX,qAk,qAg,List.getElem?_cons_succ,List.getElem?_cons_zero,Option.join_some,Option.bind_some,pkR,qAl,qAY,hlr,Option.map_some,qBf,qCr,a3,reduceCtorEq,↓reduceIte,m1,m2,a4]) ?_
  refine qAf (false,.int ((h+1:Nat):Int)) (by
   show evE call _ (.bin .add (.ix (.v 5) (.k (.int 0))) (.k (.int 1)))=_
   rw [qDn (x:=.int (h:Nat)) (y:=.int 1) (qDM (qCx (x:=.lst RR) rfl rfl m3)) rfl rfl]
   rfl) rfl
 refine qAC (x:=false) (qF3 (qBK (x:=O) (y:=O) (qIO (r:=(false,O)) (qCx rfl rfl rfl)) (qBL (qIh rfl C39 hnl)) C36)) ?_
 rw [qGO]
 show qAr call [some (false,.tup [fkS,O,.tup (ps.map λx=>pgD m x.1)]),some (false,.int (rm:Nat)),some (false,.int (fw:Nat)),some (false,.lst W),some (false,.int ((h+1:Nat):Int)),some (true,.lst (List.replicate ps.length (.int (h:Nat)))),o6,o7] _=_
 unfold lkD
 rw [hW]
 exact qAp (r:=(false,.tup [.int ((h+1:Nat):Int),.lst W])) (by simp only [qDj,qBc,qAG,qIW,qCp,qAg,List.getElem?_cons_succ,List.getElem?_cons_zero,Option.join_some,qAq,List.length_cons,List.length_nil,Nat.reduceAdd,l2,↓reduceIte]) rfl
end
theorem qM2 (m rm n fw:Nat) (hm:m<=100) (hr:rm<=16) (L:List Th) (hl:L.length<=rm) (hf:fw<=L.length):qAi tab (n+5) 42 [pgD m (.lf (qAZ L) L),.int (rm:Nat),.int (fw:Nat)]=some (false,lkD m 0 L):=by
 have h39:qAi tab (n+4) 39 [.lst (L.map (thD m))]=some (false,oD m (qAZ L)):=qQN (n+3) m hm L (by omega)
 have h36:qAi tab (n+4) 36 [oD m (qAZ L),oD m (qAZ L)]=some (false,.bl true):=qD7 3 n _ (qN6 m hm _)
 exact qAe (n:=n+4) (σ:=[some (false,.tup [lfS,oD m (qAZ L),.tup (L.map (thD m))]),some (false,.int (rm:Nat)),some (false,.int (fw:Nat)),none,none,none,none,none]) t42 rfl rfl (qLj m rm fw L hf hl hr h39 h36)
theorem qM1 (m rm n h fw:Nat) (hm:m<=100) (hr:rm<=16) (ps:List (Pg×List Th)) (b1:2<=ps.length) (b2:ps.length<=rm) (hf:fw<=ps.length) (hL:(ps.map (·.2)).flatten.length<=100) (ho:(mkF (ps.map (·.1))).o=qAZ (ps.map (·.2)).flatten) (hC:∀x∈ps,qAi tab (n+5) 42 [pgD m x.1,.int (rm:Nat),.int ((rm / 2:Nat):Int)]=some (false,lkD m h x.2)) :
  qAi tab (n+6) 42 [pgD m (mkF (ps.map (·.1))),.int (rm:Nat),.int (fw:Nat)]=some (false,lkD m (h+1) (ps.map (·.2)).flatten):=by
 have hx:isX (false,lkD m (h+1) (ps.map (·.2)).flatten)=false:=rfl
 have h39:qAi tab (n+5) 39 [.lst ((ps.map (·.2)).flatten.map (thD m))]=some (false,oD m (qAZ (ps.map (·.2)).flatten)):=qQN (n+4) m hm _ hL
 have h36:qAi tab (n+5) 36 [oD m (qAZ (ps.map (·.2)).flatten),oD m (qAZ (ps.map (·.2)).flatten)]=some (false,.bl true):=qD7 3 (n+1) _ (qN6 m hm _)
 have hpr:prD m (mkF (ps.map (·.1)))=ps.map λx=>pgD m x.1:=by show (ps.map (·.1)).map (pgD m)=_;rw [List.map_map];rfl
 rw [qCv,ho,hpr,show kdS (mkF (ps.map (·.1)))=fkS from rfl]
 have hb:=qLk m rm fw h ps hf b2 hr b1 hL h39 h36 hC
 generalize oD m (qAZ (ps.map (·.2)).flatten)=O at *
 generalize hP:(ps.map λx=>pgD m x.1)=P at *
 generalize lkD m (h+1) (ps.map (·.2)).flatten=W at *
 exact qAe (n:=n+5) (as:=[.tup [fkS,O,.tup P],.int (rm:Nat),.int (fw:Nat)]) t42 rfl rfl hb hx
theorem qO8 (m rm:Nat) (hm:m<=100) (hr:rm<=16) (h:Nat):∀(n fw:Nat) (p:Pg) (L:List Th),Hy rm h p L->fw<=np p->L.length<=100->qAi tab (n+h+5) 42 [pgD m p,.int (rm:Nat),.int (fw:Nat)]=some (false,lkD m h L):=by
 induction h with
 | zero =>
  intro n fw p L hy hf hL
  obtain⟨e,hl⟩:=hy
  subst e
  exact qM2 m rm n fw hm hr L hl hf
 | succ h ih =>
  intro n fw p L hy hf hL
  have ho:=qPJ hy
  obtain⟨ps,e1,e2,b1,b2,k⟩:=hy
  subst e1
  subst e2
  have hf':fw<=(ps.map (·.1)).length:=hf
  rw [List.length_map] at hf'
  exact qM1 m rm (n+h) h fw hm hr ps b1 b2 hf' hL ho λx hx=>ih n (rm / 2) x.1 x.2 (k x hx).1 (k x hx).2 (Nat.le_trans (List.sublist_flatten_of_mem (List.mem_map_of_mem (f:=λx:Pg×List Th=>x.2) hx)).length_le hL)
end Dw.T
namespace Dw.T
open Dw
theorem qKK {α:Type}(f:α->Int):∀{l:List α},(l.map f).Nodup->∀{x y:α},x∈l->y∈l->f x=f y->x=y
 | [],_,_,_,h,_,_=>nomatch h
 | a::l,hn,x,y,hx,hy,e=>by
  rw [List.map_cons,List.nodup_cons] at hn
  rcases List.mem_cons.mp hx with e1|h1
  ·rcases List.mem_cons.mp hy with e2|h2
   ·rw [e1,e2]
   ·exact absurd (List.mem_map.mpr ⟨y,h2,by rw [<-e,e1]⟩) hn.1
  ·rcases List.mem_cons.mp hy with e2|h2
   ·exact absurd (List.mem_map.mpr ⟨x,h1,by rw [e,e2]⟩) hn.1
   ·exact qKK f hn.2 h1 h2 e
theorem qHT:∀{a b:List Th},a.Perm b->(a.map (·.hd)).Nodup->a.Pairwise (λx y=>x.hd<=y.hd)->b.Pairwise (λx y=>x.hd<=y.hd)->a=b
 | [],b,h,_,_,_=>(List.nil_perm.mp h).symm
 | x::a,[],h,_,_,_=>absurd h.length_eq (by simp)
 | x::a,y::b,h,hn,ha,hb=>by
  have a1:x∈y::b:=h.mem_iff.mp List.mem_cons_self
  have a2:y∈x::a:=h.mem_iff.mpr List.mem_cons_self
  rw [List.pairwise_cons] at ha hb
  have hx:y.hd<=x.hd:=by
   rcases List.mem_cons.mp a1 with e|e
   ·rw [e];omega
   ·exact hb.1 x e
  have hy:x.hd<=y.hd:=by
   rcases List.mem_cons.mp a2 with e|e
   ·rw [e];omega
   ·exact ha.1 y e
  obtain rfl:x=y:=qKK (·.hd) hn List.mem_cons_self a2 (by omega)
  rw [List.map_cons,List.nodup_cons] at hn
  rw [qHT ((List.perm_cons x).mp h) hn.2 ha.2 hb.2]
theorem qKM (m:Nat):∀L:List Th,qEB (L.map (thD m))=some (L.map (·.hd))
 | []=>rfl
 | t::L=>by
  show (qEB (L.map (thD m))).map (t.hd::·)=_
  rw [qKM m L]
  rfl
theorem qG4 (m:Nat) (L:List Th) (hn:(L.map (·.hd)).Nodup) (hl:L.length<64):∃L':List Th,L'.Perm L/\L'.Pairwise (λx y=>x.hd<=y.hd)/\biP .sorted [.lst (L.map (thD m))]=some (true,.lst (L'.map (thD m))):=by
 cases hL:L with
 | nil=>exact⟨[],.refl _,.nil,by rw [show List.map (thD m) []=[] from rfl,qDA [] (is:=[]) rfl (by decide)];simp [qE2]⟩
 | cons t ts =>
  rw [<-hL]
  have h0:qAK (L.map (thD m))=none:=by rw [hL];rfl
  have hp:=qCe (L.map (·.hd))
  have hu:=qLp (L.map (·.hd))
  rw [List.length_map] at hp
  have mem:∀k∈qCA (L.map (·.hd)),k<L.length:=λk hk=>by simpa using hp.mem_iff.mp hk
  refine⟨(qCA (L.map (·.hd))).map λk=>L.getD k t,?_,?_,?_⟩
  ·refine (hp.map _).trans (.of_eq ?_)
   refine List.ext_getElem (by simp) λi h1 h2=>?_
   rw [List.getElem_map,List.getElem_range,List.getD_eq_getElem?_getD,List.getElem?_eq_getElem h2]
   rfl
  ·rw [List.pairwise_map]
   refine hu.imp_of_mem λ{i j} hi hj h=>?_
   have a:=mem i hi
   have b:=mem j hj
   simpa [a,b] using h
  ·rw [qIJ _ h0 (qKM m L) hn (by rw [List.length_map];exact hl),List.map_map]
   refine congrArg (λz=>some (true,D.lst z)) (List.map_congr_left λk hk=>?_)
   have a:=mem k hk
   simp [a]
theorem qN5 (m:Nat) (hm:m<=100) (L:List Th) (hl:L.length<=1000):pl 4 (.tup (L.map (thD m))):=⟨by rw [List.length_map];exact hl,λd hd=>by
 obtain⟨t,_,rfl⟩:=List.mem_map.mp hd
 exact qQd m hm t⟩
section
variable {call:Nat->List D->Option R}
theorem qRk (m rm h:Nat) (P:D) (L M:List Th) (S:List D) (hl:L.length=M.length) (C42:call 42 [P,.int (rm:Nat),.int 0]=some (false,lkD m h L)) (s1:biP .sorted [.lst (L.map (thD m))]=some (true,.lst S)) (s2:biP .sorted [.lst (M.map (thD m))]=some (true,.lst S)) (C36:call 36 [.tup S,.tup S]=some (false,.bl true)) (hP:agR (false,P)=some P) :
  qAr call [some (false,P),some (false,.int (rm:Nat)),some (false,.lst (M.map (thD m))),none] f_law_healthy_with.body=some (.rt (false,.bl true)):=by
 have hne:qEH .ne (.int ((L.length:Nat):Int)) (.int ((M.length:Nat):Int))=some (false,.bl false):=by rw [qCG,hl];simp
 refine qAf (false,lkD m h L) (qBJ (qIZ rfl) rfl rfl C42) ?_
 refine qAC (x:=false) ?_ ?_
 ·refine qRX (x:=false) (y:=false) (p:=false) (q:=false) rfl (qEG (qEp (qBl (qDM (qCx rfl rfl (lk1 m h L))) (by rw [qAY,List.length_map]))) (qEp (qBl (x:=.lst (M.map (thD m))) rfl (by rw [qAY,List.length_map]))) hne)
 refine qAp (r:=(false,.bl true)) ?_ rfl
 exact qBK (qKr (qBl (qEp (qBl (qDM (qCx rfl rfl (lk1 m h L))) s1)) rfl)) (qKr (qBl (qEp (qBl (x:=.lst (M.map (thD m))) rfl s2)) rfl)) C36
end
theorem qR1 (m rm h n:Nat) (hm:m<=100) (hr:rm<=16) (p:Pg) (L M:List Th) (hy:Hy rm h p L) (hp:L.Perm M) (hn:(M.map (·.hd)).Nodup) (hl:M.length<64):qAi tab (n+h+6) 43 [pgD m p,.int (rm:Nat),.lst (M.map (thD m))]=some (false,.bl true):=by
 have hL:L.length=M.length:=hp.length_eq
 have hnL:(L.map (·.hd)).Nodup:=(hp.map _).nodup_iff.mpr hn
 obtain⟨A,a1,a2,a3⟩:=qG4 m L hnL (by omega)
 obtain⟨B,b1,b2,b3⟩:=qG4 m M hn hl
 obtain rfl:A=B:=qHT (a1.trans (hp.trans b1.symm)) ((a1.map _).nodup_iff.mpr hnL) a2 b2
 have hA:A.length=M.length:=b1.length_eq
 have h42:qAi tab (n+h+5) 42 [pgD m p,.int (rm:Nat),.int 0]=some (false,lkD m h L):=qO8 m rm hm hr h n 0 p L hy (Nat.zero_le _) (by omega)
 have h36:qAi tab (n+h+5) 36 [.tup (A.map (thD m)),.tup (A.map (thD m))]=some (false,.bl true):=qD7 4 (n+h) _ (qN5 m hm A (by omega))
 have hb:=qRk m rm h (pgD m p) L M (A.map (thD m)) hL h42 a3 b3 h36 rfl
 rw [qCv] at hb ⊢
 exact qAe (n:=n+h+5) (as:=[.tup [kdS p,oD m p.o,.tup (prD m p)],.int (rm:Nat),.lst (M.map (thD m))]) t43 rfl rfl hb rfl
end Dw.T
namespace Dw.T
open Dw
theorem fdn (a b:Nat):(a:Int).fdiv (b:Int)=((a / b:Nat):Int):=by rw [Int.fdiv_eq_ediv_of_nonneg _ (by omega)];rfl
theorem qIl (N rm fw mx cnt:Nat) (h4:4<=rm) (h16:rm<=16) (hf:fw=max 1 ((N+rm - 1) / rm)) (hx:mx=max fw (N / (rm / 2))) (h1:fw<=cnt) (h2:cnt<=mx):1<=cnt/\N<=cnt * rm/\(cnt=1∨cnt * (rm / 2)<=N)/\cnt<=N+1:=by
 have e:=Nat.div_add_mod (N+rm - 1) rm
 have m:=Nat.mod_lt (N+rm - 1) (show 0<rm by omega)
 generalize (N+rm - 1) % rm=r at *
 generalize (N+rm - 1) / rm=q at *
 have s:=Nat.div_mul_le_self N (rm / 2)
 have s1:=Nat.div_le_self N (rm / 2)
 have d2:2 * (rm / 2)<=rm:=by omega
 generalize N / (rm / 2)=v at *
 generalize rm / 2=d at *
 have a:=Nat.mul_le_mul_right rm (show q<=cnt by omega)
 rw [Nat.mul_comm q rm] at a
 have big:q<=1∨(q<=N/\q * d<=N):=by
  by_cases hq:q<=1
  ·exact .inl hq
  ·obtain⟨z,rfl⟩:∃z,q=z+1:=⟨q - 1,by omega⟩
   have b1:=Nat.mul_le_mul_right d (show z+1<=z * 2 by omega)
   have b2:=Nat.mul_le_mul_left z d2
   rw [<-Nat.mul_assoc] at b2
   rw [Nat.mul_succ,Nat.mul_comm rm z] at e
   have b3:=Nat.mul_le_mul_left z (show 1<=rm by omega)
   rw [Nat.mul_one] at b3
   exact .inr ⟨by omega,by omega⟩
 refine⟨by omega,by omega,?_,by omega⟩
 by_cases hc:cnt<=v
 ·exact .inr (Nat.le_trans (Nat.mul_le_mul_right d hc) s)
 ·rcases big with h|h
  ·exact .inl (by omega)
  ·obtain rfl|rfl:cnt=q∨cnt=1:=by omega
   ·exact .inr h.2
   ·exact .inl rfl
noncomputable def ct (N cnt k:Nat):Nat:=N * k / cnt
theorem qRY (N cnt:Nat):ct N cnt 0=0:=by unfold ct;simp
theorem qKR (N cnt:Nat) (h:1<=cnt):ct N cnt cnt=N:=Nat.mul_div_cancel _ h
theorem qQH {N cnt lo:Nat}(h:1<=cnt) (hl:cnt * lo<=N) (k:Nat):ct N cnt k+lo<=ct N cnt (k+1):=by
 unfold ct
 rw [<-Nat.add_mul_div_left _ _ h]
 exact Nat.div_le_div_right (by rw [Nat.mul_succ];omega)
theorem qQI {N cnt hi:Nat}(h:1<=cnt) (hl:N<=cnt * hi) (k:Nat):ct N cnt (k+1)<=ct N cnt k+hi:=by
 unfold ct
 rw [<-Nat.add_mul_div_left _ _ h]
 exact Nat.div_le_div_right (by rw [Nat.mul_succ];omega)
theorem qFl (N cnt:Nat) (k:Nat):ct N cnt k<=ct N cnt (k+1):=Nat.div_le_div_right (Nat.mul_le_mul_left _ (Nat.le_succ k))
theorem qO1 {N cnt:Nat}(h:1<=cnt) {k:Nat}(hk:k<=cnt):ct N cnt k<=N:=by
 refine Nat.le_trans ?_ (Nat.le_of_eq (qKR N cnt h))
 exact Nat.div_le_div_right (Nat.mul_le_mul_left _ hk)
section
variable {α:Type}
noncomputable def sg (L:List α) (cnt k:Nat):List α:=(L.drop (ct L.length cnt k)).take (ct L.length cnt (k+1) - ct L.length cnt k)
theorem qHf (L:List α) {cnt k:Nat}(h:1<=cnt) (hk:k<cnt):(sg L cnt k).length=ct L.length cnt (k+1) - ct L.length cnt k:=by
 unfold sg
 rw [List.length_take,List.length_drop]
 have:=qO1 (N:=L.length) h (show k+1<=cnt from hk)
 have:=qFl L.length cnt k
 omega
theorem qHg (L:List α) (cnt:Nat):∀n,((List.range n).map (sg L cnt)).flatten=L.take (ct L.length cnt n)
 | 0=>by rw [qRY];simp
 | n+1=>by
  rw [List.range_succ,List.map_append,List.flatten_append,qHg L cnt n]
  have h:=qFl L.length cnt n
  obtain⟨d,hd⟩:∃d,ct L.length cnt (n+1)=ct L.length cnt n+d:=⟨ct L.length cnt (n+1) - ct L.length cnt n,by omega⟩
  rw [hd,List.take_add]
  simp only [List.map_cons,List.map_nil,List.flatten_cons,List.flatten_nil,List.append_nil]
  unfold sg
  rw [hd,Nat.add_sub_cancel_left]
theorem qKC (L:List α) {cnt:Nat}(h:1<=cnt):((List.range cnt).map (sg L cnt)).flatten=L:=by
 rw [qHg,qKR _ _ h,List.take_length]
theorem qHe {L:List α}{cnt k:Nat}{x:α}(hx:x∈sg L cnt k):x∈L:=List.mem_of_mem_drop (List.mem_of_mem_take hx)
theorem qKB (L:List α) (enc:α->D) (cnt k:Nat):qGK (L.map enc) (some ((ct L.length cnt k:Nat):Int)) (some ((ct L.length cnt (k+1):Nat):Int))=(sg L cnt k).map enc:=by
 rw [qIn _ _ _ (qFl _ _ _)]
 unfold sg
 rw [List.map_take,List.map_drop]
end
noncomputable def ctD (N cnt:Nat):List D:=bx (cnt+1) λk=>.int (ct N cnt k:Nat)
theorem qIp (N cnt:Nat):qGK (ctD N cnt) (some 1) none=bx cnt λk=>.int (ct N cnt (k+1):Nat):=by
 rw [show (1:Int)=((1:Nat):Int) from rfl,qF6]
 unfold ctD bx
 rw [List.range_succ_eq_map,List.map_cons,List.map_map]
 rfl
theorem qF7 (N cnt:Nat):qGK (ctD N cnt) none (some (-1))=bx cnt λk=>.int (ct N cnt k:Nat):=by
 have hl:(ctD N cnt).length=cnt+1:=qDc _ _
 show ((ctD N cnt).drop 0).take ((if (-1:Int)<0 then ((-1:Int)+(ctD N cnt).length).toNat else min (-1:Int).toNat (ctD N cnt).length) - 0)=_
 rw [if_pos (by decide),hl,List.drop_zero,show ((-1:Int)+((cnt+1:Nat):Int)).toNat - 0=cnt by omega]
 unfold ctD bx
 rw [<-List.map_take,List.take_range,Nat.min_eq_left (by omega)]
section
variable {call:Nat->List D->Option R}{σ:En}{qAV:List S}{z:Option Ou}
theorem qGZ {tg:Tg}{a b:C}{body:List S}{x y:R}{xs ys:List D}{σ':En}(ha:evE call σ a=some x) (hb:evE call σ b=some y) (hx:qJr x.2=some xs) (hy:qPK y.2=some ys) (hf:qA2 call body tg (qCn xs ys) σ=some (.nx σ')) (k:qAr call σ' qAV=z):qAr call σ (.forZ tg a b body::qAV)=z:=by
 rw [qAP,qFT,ha,Option.bind_some,hb,Option.bind_some,show qB7 x.2=some xs from hx,Option.bind_some,show qGT y.2=some ys from hy,Option.bind_some,hf]
 exact k
theorem qGC {a:C}{lo hi:Option C}{xs:List D}{l h:Option Int}(ha:pk σ a (evE call σ a)=some (.lst xs)) (hl:evO call σ lo=some l) (hh:evO call σ hi=some h):evE call σ (.sl a lo hi)=some (true,.lst (qGK xs l h)):=by
 rw [qH8,ha,Option.bind_some,hl,Option.bind_some,hh,Option.bind_some]
 rfl
theorem qEY {i:Nat}{d:D}(h:qAg σ i=some (false,d)):pk σ (.v i) (evE call σ (.v i))=some d:=by
 show (qAg σ i).bind pkR=_
 rw [h]
 rfl
theorem qGt {i:Nat}{b:Bool}{xs:List D}(h:qAg σ i=some (b,.lst xs)):pk σ (.v i) (evE call σ (.v i))=some (.lst xs):=by
 show (qAg σ i).bind pkR=_
 rw [h]
 cases b<;>rfl
theorem qQU {a lo hi}{r:R}(h:evE call σ (.sl a lo hi)=some r):ag σ (.sl a lo hi) (evE call σ (.sl a lo hi))=some r.2:=by rw [h];rfl
theorem qKP {a b:C}{x y:R}(ha:evE call σ a=some x) (hb:evE call σ b=some y):evE call σ (.tup [a,b])=some (false,.tup [x.2,y.2]):=by
 have l2:2<=lim:=qAB (by decide)
 rw [qC2,qBb,ha,Option.bind_some,qBb,hb,Option.bind_some,qAq,Option.bind_some,Option.bind_some,Option.bind_some]
 exact if_pos l2
theorem qNC (N rm:Nat) (c:Int) (hN:N<=1000) (h4:4<=rm) (h16:rm<=16):∃cnt:Nat,1<=cnt/\N<=cnt * rm/\(cnt=1∨cnt * (rm / 2)<=N)/\cnt<=N+1 /\
  qAr call [some (false,.int (N:Nat)),some (false,.int (rm:Nat)),some (false,.int c),none,none,none] f_law_cuts.body=some (.rt (true,.lst (ctD N cnt))):=by
 have d2:qBr 2=true:=by decide
 have dr:=qO0 (rm:Int) (by omega) (by omega)
 have dh:=qO0 ((rm / 2:Nat):Int) (by omega) (by omega)
 have e1:((N:Nat):Int)+((rm:Nat):Int) - 1=((N+rm - 1:Nat):Int):=by omega
 have e2:=fdn (N+rm - 1) rm
 have e3:=fdn rm 2
 have e4:=fdn N (rm / 2)
 obtain⟨fw,hf⟩:∃fw,fw=max 1 ((N+rm - 1) / rm):=⟨_,rfl⟩
 obtain⟨mx,hx⟩:∃mx,mx=max fw (N / (rm / 2)):=⟨_,rfl⟩
 have e5:max 1 (((N+rm - 1) / rm:Nat):Int)=((fw:Nat):Int):=by omega
 have e6:max ((fw:Nat):Int) ((N / (rm / 2):Nat):Int)=((mx:Nat):Int):=by omega
 have hle:fw<=mx:=by omega
 have hmx:mx<=N+1:=by
  have:=qIl N rm fw mx mx h4 h16 hf hx hle (Nat.le_refl _)
  omega
 have dm:=qO0 (((mx:Nat):Int) - ((fw:Nat):Int)+1) (by omega) (by omega)
 have b:=qDX c (((mx:Nat):Int) - ((fw:Nat):Int)+1) (by omega)
 obtain⟨cnt,hc⟩:∃cnt:Nat,((fw:Nat):Int)+c.fmod (((mx:Nat):Int) - ((fw:Nat):Int)+1)=((cnt:Nat):Int):=⟨(((fw:Nat):Int)+c.fmod (((mx:Nat):Int) - ((fw:Nat):Int)+1)).toNat,by omega⟩
 obtain⟨o1,o2,o3,o4⟩:=qIl N rm fw mx cnt h4 h16 hf hx (by omega) (by omega)
 have dc:=qO0 ((cnt:Nat):Int) (by omega) (by omega)
 refine⟨cnt,o1,o2,o3,o4,?_⟩
 refine qAf (false,.int (fw:Nat)) (by simp only [qAX,qAk,pk,qBf,Option.map_some,qAA,qAg,List.getElem?_cons_zero,Option.join_some,Option.bind_some,pkR,List.getElem?_cons_succ,qAF,qA5,e1,qAJ,dr,↓reduceIte,e2,qAl,qCd,e5]) ?_
 refine qAf (false,.int (mx:Nat)) (by simp only [qAM,Bool.and_false,List.set_cons_succ,List.set_cons_zero,qAX,qAk,pk,qAg,List.getElem?_cons_succ,List.getElem?_cons_zero,Option.join_some,Option.bind_some,pkR,qAA,qBf,Option.map_some,qAJ,d2,↓reduceIte,show (rm:Int).fdiv 2=((rm / 2:Nat):Int) from e3,dh,e4,qAl,qCd,e6]) ?_
 refine qAf (false,.int (cnt:Nat)) (by simp only [qAM,Bool.and_false,List.set_cons_succ,List.set_cons_zero,qAA,pk,qAg,List.getElem?_cons_succ,List.getElem?_cons_zero,Option.join_some,Option.bind_some,pkR,qA5,Option.map_some,qBf,qAF,qAS,dm,↓reduceIte,hc]) ?_
 have hcc:((cnt:Nat):Int)+1=((cnt+1:Nat):Int):=by omega
 refine qAp (r:=(true,.lst (ctD N cnt))) ?_ rfl
 refine qIi (ds:=[.int ((cnt+1:Nat):Int)]) (by simp only [qAM,Bool.and_false,List.set_cons_succ,List.set_cons_zero,qAk,pk,qAA,qAg,List.getElem?_cons_succ,List.getElem?_cons_zero,Option.join_some,Option.bind_some,pkR,qBf,Option.map_some,qAF,hcc,qAl]) (qCS (by omega)) (by rw [List.length_map,List.length_range];exact Nat.le_trans (by omega:cnt+1<=2000) (qAB (by decide))) rfl ?_
 refine qGa (r:=[some (false,.int (cnt:Nat)),some (false,.int (N:Nat))]) (λk=>.int (ct N cnt k:Nat)) λj hj=>⟨false,?_⟩
 have mk:=qNe (N:Int) (j:Int) (by omega)
 have ek:((N:Nat):Int) * ((j:Nat):Int)=((N * j:Nat):Int):=by rw [Int.natCast_mul]
 have ed:=fdn (N * j) cnt
 simp only [qAA,pk,qAg,List.getElem?_cons_succ,List.getElem?_cons_zero,Option.join_some,Option.bind_some,pkR,qBn,mk,↓reduceIte,ek,Option.map_some,qAJ,dc,ed]
 rfl
end
theorem qO9 (n N rm:Nat) (c:Int) (hN:N<=1000) (h4:4<=rm) (h16:rm<=16):∃cnt:Nat,1<=cnt/\N<=cnt * rm/\(cnt=1∨cnt * (rm / 2)<=N)/\cnt<=N+1/\qAi tab (n+1) 40 [.int (N:Nat),.int (rm:Nat),.int c]=some (true,.lst (ctD N cnt)):=by
 obtain⟨cnt,o1,o2,o3,o4,h⟩:=qNC (call:=qAi tab n) N rm c hN h4 h16
 exact⟨cnt,o1,o2,o3,o4,qAe t40 rfl rfl h⟩
end Dw.T
namespace Dw.T
open Dw
noncomputable def rwD (m:Nat) (x:Pg×List Th):D:=.tup [pgD m x.1,.lst (x.2.map (thD m))]
theorem rw0 (m:Nat) (x:Pg×List Th):ixP (rwD m x) (.int 0)=some (false,pgD m x.1):=rfl
theorem rw1 (m:Nat) (x:Pg×List Th):ixP (rwD m x) (.int 1)=some (false,.lst (x.2.map (thD m))):=rfl
noncomputable def lfx (S:List Th):Pg×List Th:=(.lf (qAZ S) S,S)
noncomputable def fkx (S:List (Pg×List Th)):Pg×List Th:=(mkF (S.map (·.1)),(S.map (·.2)).flatten)
theorem qJ1 {α β:Type}(f:α->List β) {l l':List α}(h:l.Sublist l'):(l.map f).flatten.length<=(l'.map f).flatten.length:=by
 induction h with
 | slnil=>exact Nat.le_refl _
 | cons a _ ih=>rw [List.map_cons,List.flatten_cons,List.length_append];omega
 | cons_cons a _ ih=>rw [List.map_cons,List.map_cons,List.flatten_cons,List.flatten_cons,List.length_append,List.length_append];omega
section
variable {call:Nat->List D->Option R}
theorem qHG (m rm:Nat) (c:Int) (L:List Th) (hL:L.length<=100) (cnt:Nat) (h1:1<=cnt) (h2:cnt<=200) (C39:∀S:List Th,S.length<=100->call 39 [.lst (S.map (thD m))]=some (false,oD m (qAZ S))) :
  ∃o5 o6:Option R,qA2 call [.app 3 (.tup [(.tup [(.k (.str (PySem.Str.ofString "leaf"))),(.call 39 [(.sl (.v 0) (some (.v 5)) (some (.v 6)))]),(.bi .tuple [(.sl (.v 0) (some (.v 5)) (some (.v 6)))])]),(.sl (.v 0) (some (.v 5)) (some (.v 6)))])] (.two 5 6) (qCn (bx cnt λk=>.int (ct L.length cnt k:Nat)) (bx cnt λk=>.int (ct L.length cnt (k+1):Nat))) [some (false,.lst (L.map (thD m))),some (false,.int (rm:Nat)),some (false,.int c),some (true,.lst []),some (false,.lst (ctD L.length cnt)),none,none,none,none,none] =
   some (.nx [some (false,.lst (L.map (thD m))),some (false,.int (rm:Nat)),some (false,.int c),some (true,.lst (((List.range cnt).map λk=>lfx (sg L cnt k)).map (rwD m))),some (false,.lst (ctD L.length cnt)),o5,o6,none,none,none]):=by
 rw [qGL]
 obtain⟨σ',h',hσ⟩:=qBp (call:=call) (tg:=.two 5 6) (body:=[.app 3 (.tup [(.tup [(.k (.str (PySem.Str.ofString "leaf"))),(.call 39 [(.sl (.v 0) (some (.v 5)) (some (.v 6)))]),(.bi .tuple [(.sl (.v 0) (some (.v 5)) (some (.v 6)))])]),(.sl (.v 0) (some (.v 5)) (some (.v 6)))])]) (λk σ=>∃(o5 o6:Option R),σ=[some (false,.lst (L.map (thD m))),some (false,.int (rm:Nat)),some (false,.int c),some (true,.lst (((List.range k).map λk=>lfx (sg L cnt k)).map (rwD m))),some (false,.lst (ctD L.length cnt)),o5,o6,none,none,none]) cnt (λk=>.tup [.int (ct L.length cnt k:Nat),.int (ct L.length cnt (k+1):Nat)])
  [some (false,.lst (L.map (thD m))),some (false,.int (rm:Nat)),some (false,.int c),some (true,.lst []),some (false,.lst (ctD L.length cnt)),none,none,none,none,none] ⟨_,_,rfl⟩ (by
   rintro k σ hk ⟨o5,o6,rfl⟩
   refine⟨_,_,rfl,?_,some (false,.int (ct L.length cnt k:Nat)),some (false,.int (ct L.length cnt (k+1):Nat)),rfl⟩
   have hsl:(sg L cnt k).length<=100:=by
    rw [qHf L h1 hk]
    have:=qO1 (N:=L.length) h1 (show k+1<=cnt from hk)
    omega
   generalize hR:((List.range k).map λk=>lfx (sg L cnt k)).map (rwD m)=Rs
   have hRl:Rs.length=k:=by rw [<-hR];simp
   generalize hC:ctD L.length cnt=Cs
   have hcut:=qKB L (thD m) cnt k
   generalize hS:sg L cnt k=S at *
   have q:=C39 S hsl
   have sl:evE call [some (false,.lst (L.map (thD m))),some (false,.int (rm:Nat)),some (false,.int c),some (true,.lst Rs),some (false,.lst Cs),some (false,.int (ct L.length cnt k:Nat)),some (false,.int (ct L.length cnt (k+1):Nat)),none,none,none] (.sl (.v 0) (some (.v 5)) (some (.v 6)))=some (true,.lst (S.map (thD m))):=by
    rw [qGC (xs:=L.map (thD m)) (qEY rfl) (e_o (qEY rfl)) (e_o (qEY rfl)),hcut]
   refine qCN (false,rwD m (lfx S)) (qKP (x:=(false,pgD m (.lf (qAZ S) S))) (y:=(true,.lst (S.map (thD m)))) (qF2 (x:=(false,lfS)) (y:=(false,oD m (qAZ S))) (w:=(false,.tup (S.map (thD m)))) rfl (qAR (qQU sl) q) (qBl (qL3 sl) rfl)) sl) rfl (by rw [hRl];exact Nat.lt_of_lt_of_le (by omega:k<201) (qAB (by decide))) ?_
   rw [List.range_succ,List.map_append,List.map_append,hR,<-hS]
   rfl)
 obtain⟨o5,o6,rfl⟩:=hσ
 exact⟨o5,o6,h'⟩
theorem qHR (m rm:Nat) (c:Int) (L:List Th) (r3 r4 o5 o6 o7:Option R):∀(S:List (Pg×List Th)) (A:List Th) (o9:Option R),A.length+(S.map (·.2)).flatten.length<=1000 ->
  ∃o9':Option R,qA2 call [.set 8 false (.bin .add (.v 8) (.ix (.v 9) (.k (.int 1))))] (.one 9) (S.map (rwD m)) [some (false,.lst (L.map (thD m))),some (false,.int (rm:Nat)),some (false,.int c),r3,r4,o5,o6,o7,some (false,.lst (A.map (thD m))),o9]=some (.nx [some (false,.lst (L.map (thD m))),some (false,.int (rm:Nat)),some (false,.int c),r3,r4,o5,o6,o7,some (false,.lst ((A++(S.map (·.2)).flatten).map (thD m))),o9'])
 | [],A,o9,_=>⟨o9,by simp [qEE]⟩
 | x::S,A,o9,h=>by
  rw [List.map_cons,List.flatten_cons,List.length_append] at h
  obtain⟨p9,e⟩:=qHR m rm c L r3 r4 o5 o6 o7 S (A++x.2) (some (false,rwD m x)) (by rw [List.length_append];omega)
  refine⟨p9,?_⟩
  have hl:(A.map (thD m)).length+(x.2.map (thD m)).length<=lim:=by rw [List.length_map,List.length_map];exact Nat.le_trans (by omega:A.length+x.2.length<=1000) (qAB (by decide))
  have body:qAr call [some (false,.lst (L.map (thD m))),some (false,.int (rm:Nat)),some (false,.int c),r3,r4,o5,o6,o7,some (false,.lst (A.map (thD m))),some (false,rwD m x)] [.set 8 false (.bin .add (.v 8) (.ix (.v 9) (.k (.int 1))))]=some (.nx [some (false,.lst (L.map (thD m))),some (false,.int (rm:Nat)),some (false,.int c),r3,r4,o5,o6,o7,some (false,.lst ((A++x.2).map (thD m))),some (false,rwD m x)]):=by
   refine qAf (true,.lst ((A++x.2).map (thD m))) ?_ rfl
   rw [qDn (x:=.lst (A.map (thD m))) (y:=.lst (x.2.map (thD m))) (qEY rfl) (qDM (qCx (qEY rfl) rfl (rw1 m x))) (by rw [qIG,if_pos hl]),List.map_append]
  rw [List.map_cons,qBa]
  show (qAr call [some (false,.lst (L.map (thD m))),some (false,.int (rm:Nat)),some (false,.int c),r3,r4,o5,o6,o7,some (false,.lst (A.map (thD m))),some (false,rwD m x)] _).bind _=_
  rw [body]
  show qA2 call _ _ _ _=_
  rw [e,List.map_cons,List.flatten_cons,List.append_assoc]
theorem qHW (m rm:Nat) (c:Int) (L:List Th) (b:Bool) (rows:List (Pg×List Th)) (hR:(rows.map (·.2)).flatten.length<=100) (hRl:rows.length<=200) (cnt:Nat) (h1:1<=cnt) (h2:cnt<=200) (o5 o6 o8 o9:Option R) (C39:∀S:List Th,S.length<=100->call 39 [.lst (S.map (thD m))]=some (false,oD m (qAZ S)))
  (ho:∀x∈rows,x.1.o=qAZ x.2) :
  ∃o5' o6' o8' o9':Option R,qA2 call [.set 8 false (.lst []),.forS (.one 9) (.sl (.v 3) (some (.v 5)) (some (.v 6))) [.set 8 false (.bin .add (.v 8) (.ix (.v 9) (.k (.int 1))))],.app 7 (.tup [(.tup [(.k (.str (PySem.Str.ofString "fork"))),(.call 39 [(.v 8)]),(.bi .tuple [(.compS (.ix (.v 0) (.k (.int 0))) 1 [] (.one 0) (.sl (.v 3) (some (.v 5)) (some (.v 6))))])]),(.v 8)])] (.two 5 6) (qCn (bx cnt λk=>.int (ct rows.length cnt k:Nat)) (bx cnt λk=>.int (ct rows.length cnt (k+1):Nat))) [some (false,.lst (L.map (thD m))),some (false,.int (rm:Nat)),some (false,.int c),some (b,.lst (rows.map (rwD m))),some (false,.lst (ctD rows.length cnt)),o5,o6,some (true,.lst []),o8,o9] =
   some (.nx [some (false,.lst (L.map (thD m))),some (false,.int (rm:Nat)),some (false,.int c),some (b,.lst (rows.map (rwD m))),some (false,.lst (ctD rows.length cnt)),o5',o6',some (true,.lst (((List.range cnt).map λk=>fkx (sg rows cnt k)).map (rwD m))),o8',o9']):=by
 rw [qGL]
 obtain⟨σ',h',hσ⟩:=qBp (call:=call) (tg:=.two 5 6) (body:=[.set 8 false (.lst []),.forS (.one 9) (.sl (.v 3) (some (.v 5)) (some (.v 6))) [.set 8 false (.bin .add (.v 8) (.ix (.v 9) (.k (.int 1))))],.app 7 (.tup [(.tup [(.k (.str (PySem.Str.ofString "fork"))),(.call 39 [(.v 8)]),(.bi .tuple [(.compS (.ix (.v 0) (.k (.int 0))) 1 [] (.one 0) (.sl (.v 3) (some (.v 5)) (some (.v 6))))])]),(.v 8)])]) (λk σ=>∃(o5 o6 o8 o9:Option R),σ=[some (false,.lst (L.map (thD m))),some (false,.int (rm:Nat)),some (false,.int c),some (b,.lst (rows.map (rwD m))),some (false,.lst (ctD rows.length cnt)),o5,o6,some (true,.lst (((List.range k).map λk=>fkx (sg rows cnt k)).map (rwD m))),o8,o9]) cnt (λk=>.tup [.int (ct rows.length cnt k:Nat),.int (ct rows.length cnt (k+1):Nat)])
  [some (false,.lst (L.map (thD m))),some (false,.int (rm:Nat)),some (false,.int c),some (b,.lst (rows.map (rwD m))),some (false,.lst (ctD rows.length cnt)),o5,o6,some (true,.lst []),o8,o9] ⟨_,_,_,_,rfl⟩ (by
   rintro k σ hk ⟨o5,o6,o8,o9,rfl⟩
   have hcut:=qKB rows (rwD m) cnt k
   have hsub:((sg rows cnt k).map (·.2)).flatten.length<=100:=by
    refine Nat.le_trans ?_ hR
    exact qJ1 (λx:Pg×List Th=>x.2) (show (sg rows cnt k).Sublist rows from (List.take_sublist _ _).trans (List.drop_sublist _ _))
   have hoS:(mkF ((sg rows cnt k).map (·.1))).o=qAZ ((sg rows cnt k).map (·.2)).flatten:=by
    rw [qCV]
    show fo (((sg rows cnt k).map (·.1)).map (·.o))=_
    rw [List.map_map,List.map_map]
    exact congrArg fo (List.map_congr_left λx hx=>ho x (qHe hx))
   generalize hF:((List.range k).map λk=>fkx (sg rows cnt k)).map (rwD m)=Fs
   have hFl:Fs.length=k:=by rw [<-hF];simp
   generalize hC:ctD rows.length cnt=Cs
   generalize hS:sg rows cnt k=S at *
   generalize hW:rows.map (rwD m)=W at *
   have q:=C39 (S.map (·.2)).flatten hsub
   obtain⟨p9,e9⟩:=qHR (call:=call) m rm c L (some (b,.lst W)) (some (false,.lst Cs)) (some (false,.int (ct rows.length cnt k:Nat))) (some (false,.int (ct rows.length cnt (k+1):Nat))) (some (true,.lst Fs)) S [] o9 (by simpa using (by omega:((S.map (·.2)).flatten.length<=1000)))
   rw [List.nil_append] at e9
   generalize hA:(S.map (·.2)).flatten=A at *
   have sl:∀u8 u9:Option R,evE call [some (false,.lst (L.map (thD m))),some (false,.int (rm:Nat)),some (false,.int c),some (b,.lst W),some (false,.lst Cs),some (false,.int (ct rows.length cnt k:Nat)),some (false,.int (ct rows.length cnt (k+1):Nat)),some (true,.lst Fs),u8,u9] (.sl (.v 3) (some (.v 5)) (some (.v 6)))=some (true,.lst (S.map (rwD m))):=λu8 u9=>by
    rw [qGC (xs:=W) (qGt rfl) (e_o (qEY rfl)) (e_o (qEY rfl)),hcut]
   have hc:=qA4 (call:=call) (σ:=[some (false,.lst (L.map (thD m))),some (false,.int (rm:Nat)),some (false,.int c),some (b,.lst W),some (false,.lst Cs),some (false,.int (ct rows.length cnt k:Nat)),some (false,.int (ct rows.length cnt (k+1):Nat)),some (true,.lst Fs),some (false,.lst (A.map (thD m))),p9]) (e:=(.ix (.v 0) (.k (.int 0)))) (nl:=1) (ks:=[]) (tg:=.one 0) (src:=(.sl (.v 3) (some (.v 5)) (some (.v 6)))) (sl _ _) rfl rfl
    (qAs call _ (rwD m) (λx=>pgD m x.1) S λx _=>⟨_,false,rfl,qCx (qEY rfl) rfl (rw0 m x)⟩)
   have hpg:pgD m (mkF (S.map (·.1)))=.tup [fkS,oD m (qAZ A),.tup (S.map λx=>pgD m x.1)]:=by
    rw [qCv,hoS,show kdS (mkF (S.map (·.1)))=fkS from rfl,show prD m (mkF (S.map (·.1)))=(S.map (·.1)).map (pgD m) from rfl,List.map_map]
    rfl
   refine⟨_,_,rfl,?_,some (false,.int (ct rows.length cnt k:Nat)),some (false,.int (ct rows.length cnt (k+1):Nat)),some (false,.lst (A.map (thD m))),p9,rfl⟩
   refine qAf (true,.lst []) (by simp only [List.set_cons_succ,List.set_cons_zero,qBo,qAq,List.length_nil,qJS,↓reduceIte]) ?_
   refine qCo (r:=(true,.lst (S.map (rwD m)))) (sl _ _) rfl e9 ?_
   refine qCN (false,rwD m (fkx S)) ?_ rfl (by rw [hFl];exact Nat.lt_of_lt_of_le (by omega:k<201) (qAB (by decide))) ?_
   ·unfold rwD fkx
    rw [hpg,hA]
    refine qKP (x:=(false,.tup [fkS,oD m (qAZ A),.tup (S.map λx=>pgD m x.1)])) (y:=(false,.lst (A.map (thD m)))) ?_ ?_
    ·refine qF2 (x:=(false,fkS)) (y:=(false,oD m (qAZ A))) (w:=(false,.tup (S.map λx=>pgD m x.1))) ?_ ?_ ?_
     ·rfl
     ·exact qAR (qIZ (i:=8) rfl) q
     ·exact qBl (o:=.tuple) (qBu hc) rfl
    ·rfl
   rw [List.range_succ,List.map_append,List.map_append,hF,<-hS]
   rfl)
 obtain⟨p5,p6,p8,p9,rfl⟩:=hσ
 exact⟨p5,p6,p8,p9,h'⟩
end
end Dw.T
namespace Dw.T
open Dw
theorem qNR {α:Type}(rows:List α) {rm cnt k:Nat}(h1:1<=cnt) (hk:k<cnt) (h2:rows.length<=cnt * rm):(sg rows cnt k).length<=rm:=by
 rw [qHf rows h1 hk]
 have:=qQI h1 h2 k
 omega
theorem qJp {α:Type}(rows:List α) {lo cnt k:Nat}(h1:1<=cnt) (hk:k<cnt) (h2:cnt * lo<=rows.length):lo<=(sg rows cnt k).length:=by
 rw [qHf rows h1 hk]
 have:=qQH h1 h2 k
 omega
section
variable {call:Nat->List D->Option R}
theorem qNz (m rm:Nat) (c:Int) (L:List Th) (b:Bool) (rows:List (Pg×List Th)) (hR:(rows.map (·.2)).flatten.length<=100) (hRl:rows.length<=100) (r4 o5 o6 o7 o8 o9:Option R) (C39:∀S:List Th,S.length<=100->call 39 [.lst (S.map (thD m))]=some (false,oD m (qAZ S))) (C40:∀(N:Nat) (c:Int),N<=1000->∃cnt:Nat,1<=cnt/\N<=cnt * rm/\(cnt=1∨cnt * (rm / 2)<=N)/\cnt<=N+1/\call 40 [.int (N:Nat),.int (rm:Nat),.int c]=some (true,.lst (ctD N cnt))) (ho:∀x∈rows,x.1.o=qAZ x.2) :
  ∃(cnt:Nat) (r4' o5' o6' o7' o8' o9':Option R),1<=cnt/\rows.length<=cnt * rm/\(cnt=1∨cnt * (rm / 2)<=rows.length)/\cnt<=rows.length+1/\qAr call [some (false,.lst (L.map (thD m))),some (false,.int (rm:Nat)),some (false,.int c),some (b,.lst (rows.map (rwD m))),r4,o5,o6,o7,o8,o9] [.set 7 true (.lst []),.set 4 false (.call 40 [(.bi .len [(.v 3)]),(.v 1),(.bin .fdiv (.v 2) (.k (.int 7)))]),.forZ (.two 5 6) (.sl (.v 4) none (some (.neg (.k (.int 1))))) (.sl (.v 4) (some (.k (.int 1))) none) [.set 8 false (.lst []),.forS (.one 9) (.sl (.v 3) (some (.v 5)) (some (.v 6))) [.set 8 false (.bin .add (.v 8) (.ix (.v 9) (.k (.int 1))))],.app 7 (.tup [(.tup [(.k (.str (PySem.Str.ofString "fork"))),(.call 39 [(.v 8)]),(.bi .tuple [(.compS (.ix (.v 0) (.k (.int 0))) 1 [] (.one 0) (.sl (.v 3) (some (.v 5)) (some (.v 6))))])]),(.v 8)])],.frz [7],.set 3 true (.v 7)] =
    some (.nx [some (false,.lst (L.map (thD m))),some (false,.int (rm:Nat)),some (false,.int c),some (false,.lst (((List.range cnt).map λk=>fkx (sg rows cnt k)).map (rwD m))),r4',o5',o6',o7',o8',o9']):=by
 have d7:qBr 7=true:=by decide
 obtain⟨cnt,h1,h2,h3,h4,hc⟩:=C40 rows.length (c.fdiv 7) (by omega)
 obtain⟨p5,p6,p8,p9,hf⟩:=qHW (call:=call) m rm c L b rows hR (by omega) cnt h1 (by omega) o5 o6 o8 o9 C39 ho
 refine⟨cnt,some (false,.lst (ctD rows.length cnt)),p5,p6,some (false,.lst (((List.range cnt).map λk=>fkx (sg rows cnt k)).map (rwD m))),p8,p9,h1,h2,h3,h4,?_⟩
 have hlen:biP .len [.lst (rows.map (rwD m))]=some (false,.int ((rows.length:Nat):Int)):=by rw [qAY,List.length_map]
 generalize hF:((List.range cnt).map λk=>fkx (sg rows cnt k)).map (rwD m)=Fs at *
 generalize hW:rows.map (rwD m)=W at *
 have f1:=qF7 rows.length cnt
 have f2:=qIp rows.length cnt
 generalize hC:ctD rows.length cnt=Cs at *
 refine qAf (true,.lst []) (by simp only [qBo,qAq,List.length_nil,qJS,↓reduceIte]) ?_
 refine qAf (true,.lst Cs) (qBJ (x:=.int (rows.length:Nat)) (y:=.int (rm:Nat)) (w:=.int (c.fdiv 7)) (qKr (r:=(false,.int ((rows.length:Nat):Int))) (qBl (qGt (b:=b) rfl) hlen)) rfl (qK0 (r:=(false,.int (c.fdiv 7))) (qDn (x:=.int c) (y:=.int 7) rfl rfl (by rw [qAJ,if_pos d7]))) hc) ?_
 refine qGZ (x:=(true,.lst (bx cnt λk=>.int (ct rows.length cnt k:Nat)))) (y:=(true,.lst (bx cnt λk=>.int (ct rows.length cnt (k+1):Nat)))) ?_ ?_ rfl rfl hf ?_
 ·rw [qGC (xs:=Cs) (l:=none) (h:=some (-1)) (qEY rfl) rfl rfl,f1]
 ·rw [qGC (xs:=Cs) (l:=some 1) (h:=none) (qEY rfl) rfl rfl,f2]
 rw [qGO]
 show qAr call [some (false,.lst (L.map (thD m))),some (false,.int (rm:Nat)),some (false,.int c),some (b,.lst W),some (false,.lst Cs),p5,p6,some (false,.lst Fs),p8,p9] _=_
 exact qAf (false,.lst Fs) rfl rfl
theorem qNj (m rm:Nat) (hr:4<=rm) (c:Int) (L:List Th) (hL:L.length<=100) (C39:∀S:List Th,S.length<=100->call 39 [.lst (S.map (thD m))]=some (false,oD m (qAZ S))) (C40:∀(N:Nat) (c:Int),N<=1000->∃cnt:Nat,1<=cnt/\N<=cnt * rm/\(cnt=1∨cnt * (rm / 2)<=N)/\cnt<=N+1/\call 40 [.int (N:Nat),.int (rm:Nat),.int c]=some (true,.lst (ctD N cnt))):∀(μ:Nat) (rows:List (Pg×List Th)) (h:Nat) (b:Bool) (r4 o5 o6 o7 o8 o9:Option R) (fuel:Nat),rows.length<=μ->1<=rows.length->rows.length<=100->μ<=fuel->(∀x∈rows,Hy rm h x.1 x.2)->(2<=rows.length->∀x∈rows,rm / 2<=np x.1)->(rows.map (·.2)).flatten=L ->
  ∃(h':Nat) (p:Pg) (b':Bool) (r4' o5' o6' o7' o8' o9':Option R),Hy rm h' p L/\qDi (fun σ'=>evE call σ' (.cmp .gt (.bi .len [(.v 3)]) (.k (.int 1)))) (fun σ'=>qAr call σ' [.set 7 true (.lst []),.set 4 false (.call 40 [(.bi .len [(.v 3)]),(.v 1),(.bin .fdiv (.v 2) (.k (.int 7)))]),.forZ (.two 5 6) (.sl (.v 4) none (some (.neg (.k (.int 1))))) (.sl (.v 4) (some (.k (.int 1))) none) [.set 8 false (.lst []),.forS (.one 9) (.sl (.v 3) (some (.v 5)) (some (.v 6))) [.set 8 false (.bin .add (.v 8) (.ix (.v 9) (.k (.int 1))))],.app 7 (.tup [(.tup [(.k (.str (PySem.Str.ofString "fork"))),(.call 39 [(.v 8)]),(.bi .tuple [(.compS (.ix (.v 0) (.k (.int 0))) 1 [] (.one 0) (.sl (.v 3) (some (.v 5)) (some (.v 6))))])]),(.v 8)])],.frz [7],.set 3 true (.v 7)]) fuel [some (false,.lst (L.map (thD m))),some (false,.int (rm:Nat)),some (false,.int c),some (b,.lst (rows.map (rwD m))),r4,o5,o6,o7,o8,o9]=some (.nx [some (false,.lst (L.map (thD m))),some (false,.int (rm:Nat)),some (false,.int c),some (b',.lst [rwD m (p,L)]),r4',o5',o6',o7',o8',o9']):=by
 have cond:∀(rows:List (Pg×List Th)) (b:Bool) (r4 o5 o6 o7 o8 o9:Option R),evE call [some (false,.lst (L.map (thD m))),some (false,.int (rm:Nat)),some (false,.int c),some (b,.lst (rows.map (rwD m))),r4,o5,o6,o7,o8,o9] (.cmp .gt (.bi .len [(.v 3)]) (.k (.int 1)))=some (false,.bl (decide (1<rows.length))):=λrows b r4 o5 o6 o7 o8 o9=>by
  rw [qEG (x:=.int ((rows.length:Nat):Int)) (y:=.int 1) (qEp (r:=(false,.int ((rows.length:Nat):Int))) (qBl (qGt (b:=b) rfl) (by rw [qAY,List.length_map]))) rfl (qFn _ _)]
  rw [decide_eq_decide.mpr (by omega:((1:Int)<((rows.length:Nat):Int))↔1<rows.length)]
 intro μ
 induction μ with
 | zero=>intro rows h b r4 o5 o6 o7 o8 o9 fuel h1 h2;omega
 | succ μ ih =>
  intro rows h b r4 o5 o6 o7 o8 o9 fuel h1 h2 h3 h4 hy hn hf
  obtain⟨f,rfl⟩:∃f,fuel=f+1:=⟨fuel - 1,by omega⟩
  by_cases hl:1<rows.length
  ·obtain⟨cnt,q4,q5,q6,q7,q8,q9,a1,a2,a3,a4,hb⟩:=qNz (call:=call) m rm c L b rows (by rw [hf];exact hL) h3 r4 o5 o6 o7 o8 o9 C39 C40 (λx hx=>qPJ (hy x hx))
   have hn':=hn hl
   have hlt:cnt<rows.length:=by
    rcases a3 with a3|a3
    ·omega
    ·have h2r:2<=rm / 2:=by omega
     have:=Nat.mul_le_mul_left cnt h2r
     omega
   have hlen:((List.range cnt).map λk=>fkx (sg rows cnt k)).length=cnt:=by simp
   have lo:∀k,k<cnt->2<=(sg rows cnt k).length:=λk hk=>by
    rcases a3 with a3|a3
    ·subst a3
     exact qJp rows a1 hk (by omega)
    ·have:=qJp rows a1 hk a3
     omega
   obtain⟨h',p,b',e4,e5,e6,e7,e8,e9,hp,he⟩:=ih ((List.range cnt).map λk=>fkx (sg rows cnt k)) (h+1) false q4 q5 q6 q7 q8 q9 f (by rw [hlen];omega) (by rw [hlen];exact a1) (by rw [hlen];omega) (by omega) (λx hx=>by
     obtain⟨k,hk,rfl⟩:=List.mem_map.mp hx
     have hk':k<cnt:=by simpa using hk
     exact⟨sg rows cnt k,rfl,rfl,lo k hk',qNR rows a1 hk' a2,λx hx=>⟨hy x (qHe hx),hn' x (qHe hx)⟩⟩) (λh2 x hx=>by
     obtain⟨k,hk,rfl⟩:=List.mem_map.mp hx
     have hk':k<cnt:=by simpa using hk
     rw [hlen] at h2
     show rm / 2<=((sg rows cnt k).map (·.1)).length
     rw [List.length_map]
     exact qJp rows a1 hk' (a3.elim (λz=>by omega) λz=>z)) (by
     rw [List.map_map,show ((λx:Pg×List Th=>x.2) ∘ λk=>fkx (sg rows cnt k))=λk=>((sg rows cnt k).map (·.2)).flatten from rfl,show ((List.range cnt).map λk=>((sg rows cnt k).map (·.2)).flatten)=(((List.range cnt).map (sg rows cnt)).map λr=>(r.map (·.2)).flatten) by rw [List.map_map];rfl,qCR,qKC rows a1,hf])
   refine⟨h',p,b',e4,e5,e6,e7,e8,e9,hp,?_⟩
   rw [qDi]
   show (evE call _ _).bind _=_
   rw [cond,decide_eq_true hl]
   show (qAr call _ _).bind (qHD _)=_
   rw [hb]
   exact he
  ·obtain⟨x,rfl⟩:=List.length_eq_one_iff.mp (by omega:rows.length=1)
   have ex:x.2=L:=by simpa using hf
   refine⟨h,x.1,b,r4,o5,o6,o7,o8,o9,by rw [<-ex];exact hy x List.mem_cons_self,?_⟩
   rw [qDi]
   show (evE call _ _).bind _=_
   rw [cond,decide_eq_false hl,<-ex]
   rfl
theorem qNx (m rm:Nat) (hr:4<=rm) (c:Int) (L:List Th) (hL:L.length<=90) (C39:∀S:List Th,S.length<=100->call 39 [.lst (S.map (thD m))]=some (false,oD m (qAZ S))) (C40:∀(N:Nat) (c:Int),N<=1000->∃cnt:Nat,1<=cnt/\N<=cnt * rm/\(cnt=1∨cnt * (rm / 2)<=N)/\cnt<=N+1/\call 40 [.int (N:Nat),.int (rm:Nat),.int c]=some (true,.lst (ctD N cnt))) :
  ∃(h:Nat) (p:Pg),Hy rm h p L/\qAr call [some (false,.lst (L.map (thD m))),some (false,.int (rm:Nat)),some (false,.int c),none,none,none,none,none,none,none] f_law_tree.body=some (.rt (false,pgD m p)):=by
 obtain⟨cnt,h1,h2,h3,h4,hc⟩:=C40 L.length c (by omega)
 obtain⟨p5,p6,hf⟩:=qHG (call:=call) m rm c L (by omega) cnt h1 (by omega) C39
 have hlen:((List.range cnt).map λk=>lfx (sg L cnt k)).length=cnt:=by simp
 obtain⟨h',p,b',e4,e5,e6,e7,e8,e9,hp,he⟩:=qNj (call:=call) m rm hr c L (by omega) C39 C40 100 ((List.range cnt).map λk=>lfx (sg L cnt k)) 0 true (some (false,.lst (ctD L.length cnt))) p5 p6 none none none big (by rw [hlen];omega) (by rw [hlen];exact h1) (by rw [hlen];omega) (qPl _ (by decide)) (λx hx=>by
   obtain⟨k,hk,rfl⟩:=List.mem_map.mp hx
   have hk':k<cnt:=by simpa using hk
   exact⟨rfl,qNR L h1 hk' h2⟩) (λz x hx=>by
   obtain⟨k,hk,rfl⟩:=List.mem_map.mp hx
   have hk':k<cnt:=by simpa using hk
   rw [hlen] at z
   exact qJp L h1 hk' (h3.elim (λz=>by omega) λz=>z)) (by
   rw [List.map_map,show ((λx:Pg×List Th=>x.2) ∘ λk=>lfx (sg L cnt k))=sg L cnt from rfl]
   exact qKC L h1)
 refine⟨h',p,hp,?_⟩
 have hl:biP .len [.lst (L.map (thD m))]=some (false,.int ((L.length:Nat):Int)):=by rw [qAY,List.length_map]
 have f1:=qF7 L.length cnt
 have f2:=qIp L.length cnt
 generalize hF:((List.range cnt).map λk=>lfx (sg L cnt k)).map (rwD m)=Fs at *
 generalize hC:ctD L.length cnt=Cs at *
 refine qAf (true,.lst []) (by simp only [qBo,qAq,List.length_nil,qJS,↓reduceIte]) ?_
 refine qAf (true,.lst Cs) (qBJ (x:=.int (L.length:Nat)) (y:=.int (rm:Nat)) (w:=.int c) (qKr (r:=(false,.int ((L.length:Nat):Int))) (qBl (qEY rfl) hl)) rfl rfl hc) ?_
 refine qGZ (x:=(true,.lst (bx cnt λk=>.int (ct L.length cnt k:Nat)))) (y:=(true,.lst (bx cnt λk=>.int (ct L.length cnt (k+1):Nat)))) ?_ ?_ rfl rfl hf ?_
 ·rw [qGC (xs:=Cs) (l:=none) (h:=some (-1)) (qEY rfl) rfl rfl,f1]
 ·rw [qGC (xs:=Cs) (l:=some 1) (h:=none) (qEY rfl) rfl rfl,f2]
 refine qNG he ?_
 refine qAp (r:=(false,pgD m p)) ?_ rfl
 exact qCx (qDM (r:=(false,rwD m (p,L))) (qCx (qGt (b:=b') rfl) rfl rfl)) rfl (rw0 m (p,L))
end
theorem qO5 (n m rm:Nat) (hm:m<=100) (hr:4<=rm) (hr1:rm<=16) (c:Int) (L:List Th) (hL:L.length<=90):∃(h:Nat) (p:Pg),Hy rm h p L/\qAi tab (n+2) 41 [.lst (L.map (thD m)),.int (rm:Nat),.int c]=some (false,pgD m p):=by
 obtain⟨h,p,hp,e⟩:=qNx (call:=qAi tab (n+1)) m rm hr c L hL (λS hS=>qQN n m hm S hS) (λN c hN=>qO9 n N rm c hN hr hr1)
 exact⟨h,p,hp,qAe t41 rfl rfl e (by rw [qCv];rfl)⟩
end Dw.T
namespace Dw.T
open Dw
mutual
theorem qOu (m:Nat):∀p:Pg,qBh (pgD m p)=true
 | .lf o L=>by
  show (true&&(qBh (oD m o)&&(qB4 (L.map (thD m))&&true)))=true
  rw [qPA,qDR _ _ λt _=>qQr m t]
  rfl
 | .fk o ps=>by
  show (true&&(qBh (oD m o)&&(qB4 (qL6 m ps)&&true)))=true
  rw [qPA,qKH m ps]
  rfl
theorem qKH (m:Nat):∀ps:List Pg,qB4 (qL6 m ps)=true
 | []=>rfl
 | p::ps=>by
  show (qBh (pgD m p)&&qB4 (qL6 m ps))=true
  rw [qOu m p,qKH m ps]
  rfl
end
section
variable {call:Nat->List D->Option R}{σ:En}
theorem qFY {i:Nat}{xs:List D}{r:List C}(hi:qAg σ i=some (true,.lst xs)):evG call σ (.v i::r)=none:=by
 rw [qAH]
 show ((qAg σ i).bind agR).bind _=_
 rw [hi]
 rfl
theorem qFX {a:C}{r:List C}(h:evG call σ r=none):evG call σ (a::r)=none:=by
 rw [qAH,h]
 cases ag σ a (evE call σ a)<;>rfl
theorem qIg {f:Nat}{a b c:C}{x y w d:D}(h:evG call σ [a,b,c]=none) (ha:pk σ a (evE call σ a)=some x) (hb:pk σ b (evE call σ b)=some y) (hc:pk σ c (evE call σ c)=some w) (hf:call f [x,y,w]=some (false,d)) (hn:qBh d=true):evE call σ (.call f [a,b,c])=some (false,d):=by
 have h2:qBO call σ [a,b,c]=some [x,y,w]:=by
  rw [qA3,ha,Option.bind_some,qA3,hb,Option.bind_some,qA3,hc,Option.bind_some,qAl,Option.bind_some,Option.bind_some,Option.bind_some]
 rw [qBk,h,h2]
 show (call f [x,y,w]).bind nlR=_
 rw [hf]
 show (if qBh d=true then some (false,d) else none)=_
 rw [if_pos hn]
theorem qMV {f:Nat}{a b c e:C}{x y w u:D}{r:Option R}(ha:ag σ a (evE call σ a)=some x) (hb:ag σ b (evE call σ b)=some y) (hc:ag σ c (evE call σ c)=some w) (he:ag σ e (evE call σ e)=some u) (h:call f [x,y,w,u]=r):evE call σ (.call f [a,b,c,e])=r:=by
 rw [qBk,qAH,ha,Option.bind_some,qAH,hb,Option.bind_some,qAH,hc,Option.bind_some,qAH,he,Option.bind_some,qAm,Option.bind_some,Option.bind_some,Option.bind_some,Option.bind_some]
 exact h
theorem qPQ (m:Nat) (ns:List Int) (hns:ns.length<=63) (hm0:2+(if ((qB2 ns 0).fmod 4 == 1) then 1 else 0:Int)=(m:Int))
  (C35:∀(ns:List Int) (k:Nat),call 35 [.lst (ns.map .int),.int (k:Int)]=some (false,.int (qB2 ns k)))
  (C38:∀(c w:Int) (k:Nat),k<1000->∃t:Th,qNc w k t/\call 38 [.int c,.int (k:Int),.int (m:Int),.int w]=some (false,thD m t))
  (C41:∀(rm:Nat) (c:Int) (L:List Th),4<=rm->rm<=16->L.length<=90->∃(h:Nat) (p:Pg),Hy rm h p L/\call 41 [.lst (L.map (thD m)),.int (rm:Nat),.int c]=some (false,pgD m p))
  (C34:∀(rm h:Nat) (p:Pg) (L:List Th) (t:Th),4<=rm->rm<=16->h<=6->Hy rm h p L->∃h' p' L',Hy rm h' p' L'/\L'.Perm (L++[t])/\call 34 [pgD m p,.int (rm:Nat),thD m t]=some (false,pgD m p'))
  (C43:∀(rm h:Nat) (p:Pg) (L M:List Th),rm<=16->h<=6->Hy rm h p L->L.Perm M->(M.map (·.hd)).Nodup->M.length<64->call 43 [pgD m p,.int (rm:Nat),.lst (M.map (thD m))]=some (false,.bl true)) :
  qAr call [some (false,.lst (ns.map .int)),none,none,none,none,none,none,none,none] f_law.body=some (.rt (false,.bl true)):=by
 have q0:=C35 ns 0
 have q1:=C35 ns 1
 have q2:=C35 ns 2
 have q3:=C35 ns 3
 generalize qB2 ns 0=z0 at q0 hm0
 generalize qB2 ns 1=z1 at q1
 generalize qB2 ns 2=z2 at q2
 generalize qB2 ns 3=z3 at q3
 have d4:qBr 4=true:=by decide
 have d6:qBr 6=true:=by decide
 have d13:qBr 13=true:=by decide
 have d24:qBr 24=true:=by decide
 have d54:qBr 54=true:=by decide
 have dk:qBr 1000=true:=by decide
 have b1:=qDX z2 4 (by decide)
 have b2:=qDX (z2.fdiv 24) 13 (by decide)
 obtain⟨rm,hrm,hr4,hr16⟩:∃rm:Nat,(if ((z2.fdiv 4).fmod 6 == 1) then D.int (4+(z2.fdiv 24).fmod 13) else .int (4+z2.fmod 4))=.int (rm:Nat)/\4<=rm/\rm<=16:=by
  cases ((z2.fdiv 4).fmod 6 == 1)
  ·exact⟨(4+z2.fmod 4).toNat,by rw [if_neg (by decide)];congr 1;omega,by omega,by omega⟩
  ·exact⟨(4+(z2.fdiv 24).fmod 13).toNat,by rw [if_pos rfl];congr 1;omega,by omega,by omega⟩
 have hcut:qGK (ns.map .int) (some 4) (some 44)=((ns.drop 4).take 40).map .int:=qJ8 ns 4 44 (by decide)
 generalize hcs:(ns.drop 4).take 40=cs at hcut
 have hcl:cs.length<=40:=by rw [<-hcs,List.length_take];omega
 generalize hw:z1.fmod 54=w
 have H:∀k:Nat,∃t:Th,k<cs.length->qNc w k t/\call 38 [.int (cs.getD k 0),.int (k:Int),.int (m:Int),.int w]=some (false,thD m t):=λk=>by
  by_cases hk:k<cs.length
  ·obtain⟨t,h⟩:=C38 (cs.getD k 0) w k (by omega)
   exact⟨t,λ_=>h⟩
  ·exact⟨⟨0,λ_=>(0,0,0),0,0,by decide⟩,λz=>absurd z hk⟩
 obtain⟨F,hF⟩:=Classical.axiomOfChoice H
 obtain⟨L,hL⟩:∃L,L=(List.range cs.length).map F:=⟨_,rfl⟩
 have hLl:L.length=cs.length:=by rw [hL];simp
 have hLk:∀t∈L,∃k,k<40/\qNc w k t:=λt ht=>by
  rw [hL] at ht
  obtain⟨k,hk,rfl⟩:=List.mem_map.mp ht
  have hk':k<cs.length:=by simpa using hk
  exact⟨k,by omega,(hF k hk').1⟩
 have hnd:(L.map (·.hd)).Nodup:=by
  rw [hL,List.map_map]
  unfold List.Nodup
  rw [List.pairwise_map]
  refine (List.nodup_range (n:=cs.length)).imp_of_mem λ{i j} hi hj hij=>?_
  have hi':i<cs.length:=by simpa using hi
  have hj':j<cs.length:=by simpa using hj
  exact qJY (hF i hi').1 (hF j hj').1 (by omega) (by omega) hij
 obtain⟨h0,p0,y0,c41⟩:=C41 rm ((z0.fdiv 4).fmod 1000) L hr4 hr16 (by omega)
 obtain⟨t1,k1,c1⟩:=C38 z3 w 90 (by decide)
 obtain⟨t2,k2,c2⟩:=C38 z3 w 91 (by decide)
 have low:∀{h:Nat} {p:Pg} {M:List Th},Hy rm h p M->M.length<=60->h<=6:=λ{h p M} hy hM=>by
  cases h with
  | zero=>omega
  | succ h =>
   have h2:2<=np p:=by
    obtain⟨ps,e1,_,h2,_⟩:=hy
    rw [e1]
    show 2<=(ps.map (·.1)).length
    rw [List.length_map]
    exact h2
   have:=qIU hr4 hy h2
   by_cases hh:h+1<=6
   ·exact hh
   ·have:2^7<=2^(h+1+1):=Nat.pow_le_pow_right (by decide) (by omega)
    omega
 obtain⟨h1,p1,L1,y1,m1,c34⟩:=C34 rm h0 p0 L t1 hr4 hr16 (low y0 (by omega)) y0
 have l1:L1.length=L.length+1:=by rw [m1.length_eq,List.length_append];rfl
 obtain⟨h2,p2,L2,y2,m2,c34'⟩:=C34 rm h1 p1 L1 t2 hr4 hr16 (low y1 (by omega)) y1
 have l2:L2.length=L.length+2:=by rw [m2.length_eq,List.length_append,l1];rfl
 have nd1:((L++[t1]).map (·.hd)).Nodup:=by
  rw [List.map_append,List.nodup_append]
  refine⟨hnd,by simp,λa ha b hb=>?_⟩
  obtain⟨t,ht,rfl⟩:=List.mem_map.mp ha
  obtain⟨k,hk,hk2⟩:=hLk t ht
  simp only [List.map_cons,List.map_nil,List.mem_singleton] at hb
  rw [hb]
  exact qJY hk2 k1 (by omega) (by decide) (by omega)
 have nd2:((L++[t1]++[t2]).map (·.hd)).Nodup:=by
  rw [List.map_append,List.nodup_append]
  refine⟨nd1,by simp,λa ha b hb=>?_⟩
  obtain⟨t,ht,rfl⟩:=List.mem_map.mp ha
  simp only [List.map_cons,List.map_nil,List.mem_singleton] at hb
  rw [hb]
  rcases List.mem_append.mp ht with ht|ht
  ·obtain⟨k,hk,hk2⟩:=hLk t ht
   exact qJY hk2 k2 (by omega) (by decide) (by omega)
  ·rw [List.mem_singleton] at ht
   rw [ht]
   exact qJY k1 k2 (by decide) (by decide) (by decide)
 have c43:=C43 rm h1 p1 L1 (L++[t1]) hr16 (low y1 (by omega)) y1 m1 nd1 (by simp;omega)
 have c43':=C43 rm h2 p2 L2 (L++[t1]++[t2]) hr16 (low y2 (by omega)) y2 (m2.trans (m1.append_right _)) nd2 (by simp;omega)
 refine qAf (false,.int (m:Int)) ?_ ?_
 ·simp only [qAA,pk,qBf,Option.map_some,qAX,qAk,qBd,qAo,qAn,ag,qAg,List.getElem?_cons_zero,Option.join_some,Option.bind_some,agR,qAm,show call 35 [.lst (ns.map .int),.int 0]=_ from q0,qAS,d4,↓reduceIte,qCj,qAl,qKl,qAF]
  rw [show eqD (.int (z0.fmod 4)) (.int 1)=(z0.fmod 4 == 1) from rfl,hm0]
 refine qAf (false,.int w) (by simp only [qAM,Bool.and_false,List.set_cons_succ,List.set_cons_zero,qAA,pk,qAo,qAn,ag,qAg,List.getElem?_cons_zero,Option.join_some,Option.bind_some,agR,qBf,Option.map_some,qAm,show call 35 [.lst (ns.map .int),.int 1]=_ from q1,qAS,d54,↓reduceIte,hw]) ?_
 refine qAf (false,.int (4+z2.fmod 4)) (by simp only [qAM,Bool.and_false,List.set_cons_succ,List.set_cons_zero,qAA,pk,qBf,Option.map_some,qAo,qAn,ag,qAg,List.getElem?_cons_zero,Option.join_some,Option.bind_some,agR,qAm,show call 35 [.lst (ns.map .int),.int 2]=_ from q2,qAS,d4,↓reduceIte,qAF]) ?_
 refine qFy (b:=((z2.fdiv 4).fmod 6 == 1)) (x:=false) (y:=false) (X:=.int (4+(z2.fdiv 24).fmod 13)) (Y:=.int (4+z2.fmod 4)) (by simp only [qAM,Bool.and_false,List.set_cons_succ,List.set_cons_zero,qBd,pk,qAA,qAo,qAn,ag,qAg,List.getElem?_cons_zero,Option.join_some,Option.bind_some,agR,qBf,Option.map_some,qAm,show call 35 [.lst (ns.map .int),.int 2]=_ from q2,qAJ,d4,↓reduceIte,qAS,d6,qCj];rfl) (by simp only [qAM,Bool.and_false,List.set_cons_succ,List.set_cons_zero,qAA,pk,qBf,Option.map_some,qAo,qAn,ag,qAg,List.getElem?_cons_zero,Option.join_some,Option.bind_some,agR,qAm,show call 35 [.lst (ns.map .int),.int 2]=_ from q2,qAJ,d24,↓reduceIte,qAS,d13,qAF]) rfl ?_
 rw [hrm]
 refine qAf (true,.lst (cs.map .int)) (by simp only [qAM,Bool.and_false,List.set_cons_succ,List.set_cons_zero,qGP,pk,qAg,List.getElem?_cons_zero,Option.join_some,Option.bind_some,pkR,qCK,qBf,Option.map_some,qMn,qJn,hcut]) ?_
 have hmap:(bx cs.length λk=>thD m (F k))=L.map (thD m):=by rw [hL,List.map_map];rfl
 have hc:=qIi (call:=call) (σ:=[some (false,.lst (ns.map .int)),some (false,.int (m:Int)),some (false,.int w),some (false,.int (rm:Nat)),some (false,.lst (cs.map .int)),none,none,none,none]) (e:=(.call 38 [(.ix (.v 1) (.v 0)),(.v 0),(.v 2),(.v 3)])) (nl:=1) (ks:=[4,1,2]) (tg:=.one 0) (rs:=[(.bi .len [(.v 4)])]) (ds:=[.int ((cs.length:Nat):Int)]) (by simp only [qAk,pk,qAX,qAg,List.getElem?_cons_succ,List.getElem?_cons_zero,Option.join_some,Option.bind_some,pkR,qAl,qAY,List.length_map,Option.map_some]) (qCS (by omega)) (qAB (by simp;omega)) rfl
  (qGa (r:=[some (false,.lst (cs.map .int)),some (false,.int (m:Int)),some (false,.int w)]) (λk=>thD m (F k)) λj hj=>⟨false,by
   have hix:=qMD hj
   have hg:cs.getD j 0=cs[j]:=by rw [List.getD_eq_getElem?_getD,List.getElem?_eq_getElem hj];rfl
   have:=(hF j hj).2
   rw [hg] at this
   simp only [qAo,qAn,ag,qA7,pk,qAg,List.getElem?_cons_succ,List.getElem?_cons_zero,Option.join_some,Option.bind_some,pkR,qCw,hix,Option.map_some,agR,qAm,this]⟩)
 rw [hmap] at hc
 refine qAf (true,.lst (L.map (thD m))) hc ?_
 have hmd:∀σ:En,qAg σ 0=some (false,.lst (ns.map .int))->evE call σ (.bin .mod (.bin .fdiv (.call 35 [(.v 0),(.k (.int 0))]) (.k (.int 4))) (.k (.int 1000)))=some (false,.int ((z0.fdiv 4).fmod 1000)):=fun σ h=>by
  have hcl:evE call σ (.call 35 [(.v 0),(.k (.int 0))])=some (false,.int z0):=qBK (qIZ h) rfl q0
  rw [qDn (x:=.int (z0.fdiv 4)) (y:=.int 1000) (qFH (r:=(false,.int (z0.fdiv 4))) (by rw [qDn (x:=.int z0) (y:=.int 4) (qL4 hcl) rfl (by rw [qAJ,if_pos d4])])) rfl (by rw [qAS,if_pos dk])]
 refine qAf (false,pgD m p0) (qIg (qFY rfl) (qGt (b:=true) rfl) (qEY rfl) (qFH (hmd _ rfl)) c41 (qOu m p0)) ?_
 have iter:∀(k:Nat) (A:List Th) (p p':Pg) (t:Th) (o5 o8:Option R),A.length<=100->call 38 [.int z3,.int ((k:Nat):Int),.int (m:Int),.int w]=some (false,thD m t)->call 34 [pgD m p,.int (rm:Nat),thD m t]=some (false,pgD m p')->call 43 [pgD m p',.int (rm:Nat),.lst ((A++[t]).map (thD m))]=some (false,.bl true) ->
   qAr call [some (false,.lst (ns.map .int)),some (false,.int (m:Int)),some (false,.int w),some (false,.int (rm:Nat)),some (false,.lst (cs.map .int)),some (false,.int ((k:Nat):Int)),some (true,.lst (A.map (thD m))),some (false,pgD m p),o8] [.set 8 false (.call 38 [(.call 35 [(.v 0),(.k (.int 3))]),(.v 5),(.v 1),(.v 2)]),.set 7 false (.call 34 [(.v 7),(.v 3),(.v 8)]),.app 6 (.v 8),.ite (.not (.call 43 [(.v 7),(.v 3),(.v 6)])) [.ret (.k (.bl false))] []] =
    some (.nx [some (false,.lst (ns.map .int)),some (false,.int (m:Int)),some (false,.int w),some (false,.int (rm:Nat)),some (false,.lst (cs.map .int)),some (false,.int ((k:Nat):Int)),some (true,.lst ((A++[t]).map (thD m))),some (false,pgD m p'),some (false,thD m t)]):=λk A p p' t o5 o8 hA e38 e34 e43=>by
  refine qAf (false,thD m t) (by
   have hcl:∀σ:En,qAg σ 0=some (false,.lst (ns.map .int))->evE call σ (.call 35 [(.v 0),(.k (.int 3))])=some (false,.int z3):=fun σ h=>qBK (qIZ h) rfl q3
   exact qMV (qBL (hcl _ rfl)) (qIZ rfl) (qIZ rfl) (qIZ rfl) e38) ?_
  refine qAf (false,pgD m p') (qBJ (qIZ rfl) (qIZ rfl) (qIZ rfl) e34) ?_
  refine qCN (false,thD m t) rfl rfl (by rw [List.length_map];exact Nat.lt_of_lt_of_le (by omega:A.length<101) (qAB (by decide))) ?_
  rw [show A.map (thD m)++[thD m t]=(A++[t]).map (thD m) by rw [List.map_append];rfl]
  exact qAC (x:=false) (qF3 (qIg (qFX (qFX (qFY rfl))) (qEY rfl) (qEY rfl) (qGt (b:=true) rfl) e43 rfl)) rfl
 have l2':2<=lim:=qAB (by decide)
 refine qCo (r:=(true,.lst [.int 90,.int 91])) (its:=[.int 90,.int 91]) (by simp only [qAM,Bool.and_false,List.set_cons_succ,List.set_cons_zero,Bool.and_true,qBo,qAG,qBf,qAq,List.length_cons,List.length_nil,Nat.reduceAdd,l2',↓reduceIte]) rfl (σ':=[some (false,.lst (ns.map .int)),some (false,.int (m:Int)),some (false,.int w),some (false,.int (rm:Nat)),some (false,.lst (cs.map .int)),some (false,.int ((91:Nat):Int)),some (true,.lst ((L++[t1]++[t2]).map (thD m))),some (false,pgD m p2),some (false,thD m t2)]) ?_ ?_
 ·rw [qBa]
  show (qAr call [some (false,.lst (ns.map .int)),some (false,.int (m:Int)),some (false,.int w),some (false,.int (rm:Nat)),some (false,.lst (cs.map .int)),some (false,.int ((90:Nat):Int)),some (true,.lst (L.map (thD m))),some (false,pgD m p0),none] _).bind _=_
  rw [iter 90 L p0 p1 t1 none none (by omega) c1 c34 c43]
  show qA2 call _ _ _ _=_
  rw [qBa]
  show (qAr call [some (false,.lst (ns.map .int)),some (false,.int (m:Int)),some (false,.int w),some (false,.int (rm:Nat)),some (false,.lst (cs.map .int)),some (false,.int ((91:Nat):Int)),some (true,.lst ((L++[t1]).map (thD m))),some (false,pgD m p1),some (false,thD m t1)] _).bind _=_
  rw [iter 91 (L++[t1]) p1 p2 t2 none _ (by simp;omega) c2 c34' c43']
  rfl
 ·exact qAp (r:=(false,.bl true)) rfl rfl
end
theorem c_law33 (n:Nat) (ns:List Int) (hl:ns.length<=63):qAi tab (n+17) 44 [.lst (ns.map .int)]=some (false,.bl true):=by
 obtain⟨m,hm,hm1,hm0⟩:∃m:Nat,m<=100/\0<m/\2+(if ((qB2 ns 0).fmod 4 == 1) then 1 else 0:Int)=(m:Int):=by
  cases ((qB2 ns 0).fmod 4 == 1)
  ·exact⟨2,by decide,by decide,rfl⟩
  ·exact⟨3,by decide,by decide,rfl⟩
 have C35:∀(ns:List Int) (k:Nat),qAi tab (n+16) 35 [.lst (ns.map .int),.int (k:Int)]=some (false,.int (qB2 ns k)):=λns k=>qPa (n+15) ns k
 have C38:∀(c w:Int) (k:Nat),k<1000->∃t:Th,qNc w k t/\qAi tab (n+16) 38 [.int c,.int (k:Int),.int (m:Int),.int w]=some (false,thD m t):=λc w k hk=>qMZ (n+14) m hm c w k hk
 have C41:∀(rm:Nat) (c:Int) (L:List Th),4<=rm->rm<=16->L.length<=90->∃(h:Nat) (p:Pg),Hy rm h p L/\qAi tab (n+16) 41 [.lst (L.map (thD m)),.int (rm:Nat),.int c]=some (false,pgD m p):=λrm c L h1 h2 h3=>qO5 (n+14) m rm hm h1 h2 c L h3
 have C34:∀(rm h:Nat) (p:Pg) (L:List Th) (t:Th),4<=rm->rm<=16->h<=6->Hy rm h p L->∃h' p' L',Hy rm h' p' L'/\L'.Perm (L++[t])/\qAi tab (n+16) 34 [pgD m p,.int (rm:Nat),thD m t]=some (false,pgD m p'):=λrm h p L t h1 h2 h3 hy=>by
  obtain⟨d,hd⟩:∃d,n+16=(n+d)+h+9:=⟨7 - h,by omega⟩
  rw [hd]
  exact qQK m rm hm1 hm h1 h2 t h (n+d) p L hy
 have C43:∀(rm h:Nat) (p:Pg) (L M:List Th),rm<=16->h<=6->Hy rm h p L->L.Perm M->(M.map (·.hd)).Nodup->M.length<64->qAi tab (n+16) 43 [pgD m p,.int (rm:Nat),.lst (M.map (thD m))]=some (false,.bl true):=λrm h p L M h1 h2 hy hp hn hl=>by
  obtain⟨d,hd⟩:∃d,n+16=(n+d)+h+6:=⟨10 - h,by omega⟩
  rw [hd]
  exact qR1 m rm h (n+d) hm h1 p L M hy hp hn hl
 exact qAe t44 rfl rfl (qPQ m ns hl hm0 C35 C38 C41 C34 C43)
end Dw.T
namespace Dw.K33
open PySem L2 Dw Dw.T PyProof.Rows
open PySem.W (nsIn fnOf codeIn keepIn findIn mg_of mg_none_of Frag)
noncomputable def gx:Gx:=⟨("side_cover",0)::("box_cover",1)::("box_rim",2)::("side_at",3)::("side_joined",4)::("side_narrowed",5)::("frame_at",6)::("frames_joined",7)::("frames_narrowed",8)::("thing_swath",9)::("thing_marks",10)::("thing_worth",11)::("told_cover",12)::("thing_told",13)::("told_poured",14)::("tolds_poured",15)::("first_box",16)::("stir_of",17)::("chosen_page",18)::("rim_of",19)::("order_along",20)::("cut_rim",21)::("parted",22)::("is_leaf",23)::("page_told",24)::("page_parts",25)::("things_tolds",26)::("pages_tolds",27)::("make_leaf",28)::("make_fork",29)::("parted_rows",30)::("leaves_of",31)::("forks_of",32)::("pages_with",33)::("put_thing",34)::("_law_cell_at",35)::("_law_alike",36)::("_law_draw",37)::("_law_thing",38)::("_law_told",39)::("_law_cuts",40)::("_law_tree",41)::("_law_looked",42)::("_law_healthy_with",43)::("law",44)::[],[],[],[],[],[],[]⟩
theorem qAh:∀x∈qAu,gx.defs.lookup x=none:=by decide +kernel
noncomputable abbrev cq (s:Stmt):=cSs gx 60 (qAa s) (qAj (qAa s)) (qIY 60 (qAj (qAa s)) (qAv s)) (qAv s)
noncomputable def scB (s:Stmt) (ps:List Str):Bool:=(qAa s).kind == .function&&!(qAa s).isCoroutine&&!(qAa s).isGenerator&&decide (qAj (qAa s)).Nodup&&decide ((qAj (qAa s)).take ps.length=ps)&&ps.all (λx=>(qAa s).names.lookup x == some .local||(qAa s).names.lookup x == some .cell)&&(qAa s).names.all λy=>y.2 != .free
theorem qLQ {s:Stmt}{ps:List Str}(h:scB s ps=true):FnScope (qAj (qAa s)) ps (qAa s):=by
 unfold scB at h
 simp only [Bool.and_eq_true,List.all_eq_true,Bool.or_eq_true,beq_iff_eq,bne_iff_ne,Bool.not_eq_true',decide_eq_true_eq] at h
 obtain⟨⟨⟨⟨⟨⟨h1,h2⟩,h3⟩,h4⟩,h5⟩,h6⟩,h7⟩:=h
 exact⟨h1,h2,h3,h4,h5,h6,h7⟩
theorem us1 {P:List Value->Prop}(h:∀a,P [a]) (us:List Value) (hl:us.length=1):P us:=by
 obtain⟨a,rfl⟩:=List.length_eq_one_iff.mp hl
 exact h a
theorem us2 {P:List Value->Prop}(h:∀a0 a1,P [a0,a1]) (us:List Value) (hl:us.length=2):P us:=by
 cases us with
 | nil=>cases hl
 | cons a r=>exact us1 (P:=λr=>P (a::r)) (h a) r (Nat.succ.inj hl)
theorem us3 {P:List Value->Prop}(h:∀a0 a1 a2,P [a0,a1,a2]) (us:List Value) (hl:us.length=3):P us:=by
 cases us with
 | nil=>cases hl
 | cons a r=>exact us2 (P:=λr=>P (a::r)) (h a) r (Nat.succ.inj hl)
theorem us4 {P:List Value->Prop}(h:∀a0 a1 a2 a3,P [a0,a1,a2,a3]) (us:List Value) (hl:us.length=4):P us:=by
 cases us with
 | nil=>cases hl
 | cons a r=>exact us3 (P:=λr=>P (a::r)) (h a) r (Nat.succ.inj hl)
theorem bd1 {fd:FuncData}{ps:List Str}(hp:ps.length=1) (h:∀a0,bindArgs fd ⟨[a0],[]⟩=pure (ps.zip [a0])) (us:List Value) (hl:us.length=ps.length):bindArgs fd ⟨us,[]⟩=pure (ps.zip us):=us1 (P:=λus=>bindArgs fd ⟨us,[]⟩=pure (ps.zip us)) h us (hl.trans hp)
theorem bd2 {fd:FuncData}{ps:List Str}(hp:ps.length=2) (h:∀a0 a1,bindArgs fd ⟨[a0,a1],[]⟩=pure (ps.zip [a0,a1])) (us:List Value) (hl:us.length=ps.length):bindArgs fd ⟨us,[]⟩=pure (ps.zip us):=us2 (P:=λus=>bindArgs fd ⟨us,[]⟩=pure (ps.zip us)) h us (hl.trans hp)
theorem bd3 {fd:FuncData}{ps:List Str}(hp:ps.length=3) (h:∀a0 a1 a2,bindArgs fd ⟨[a0,a1,a2],[]⟩=pure (ps.zip [a0,a1,a2])) (us:List Value) (hl:us.length=ps.length):bindArgs fd ⟨us,[]⟩=pure (ps.zip us):=us3 (P:=λus=>bindArgs fd ⟨us,[]⟩=pure (ps.zip us)) h us (hl.trans hp)
theorem bd4 {fd:FuncData}{ps:List Str}(hp:ps.length=4) (h:∀a0 a1 a2 a3,bindArgs fd ⟨[a0,a1,a2,a3],[]⟩=pure (ps.zip [a0,a1,a2,a3])) (us:List Value) (hl:us.length=ps.length):bindArgs fd ⟨us,[]⟩=pure (ps.zip us):=us4 (P:=λus=>bindArgs fd ⟨us,[]⟩=pure (ps.zip us)) h us (hl.trans hp)
theorem fc {α:Type}{p:α->Prop}{a:α}{l:List α}(h:p a) (t:∀x∈l,p x):∀x∈a::l,p x:=List.forall_mem_cons.mpr ⟨h,t⟩
section
variable {K:Frag}{h:Heap}{mg:Str->Option Value}
noncomputable abbrev Bd (x q:Str) (s:Stmt) (ps:List Str):Prop:=∀(kV doc pm:Value) (an:Option Addr) (cdv ct:Value) (us:List Value),us.length=ps.length->bindArgs (fnOf x q (qBq s) (qAv s) (qAa s) .none kV doc pm an cdv ct) ⟨us,[]⟩=pure (ps.zip us)
theorem mkD (X:K.In h) (G:h.Ns mainGlobals mg) {x:Str}(m:Str) (t:Tok) (i f c:Nat) {g:Nat}(ps:List Str) (fd:Fd) (tt:tab[g]?=some fd) (a:nsIn K mainGlobals x=some (some (.ref f))) (l:K.lookup f=some (fo x x (top i) m t c)) (cc:codeIn K (.ref c) x=true) (k:keepIn K (.ref f)=true) (b:Bd x x (top i) ps) (sc:scB (top i) ps=true) (cs:cq (top i)=some fd.body) (np:fd.np=ps.length) (ns:fd.ns=(qAj (qAa (top i))).length):DefIn K mg gx tab 60 x g:=
 ⟨⟨f,_,top i,ps,fd,mg_of X G a,qHV (qFS (st:=top i) l cc k),(qFS (st:=top i) l cc k).binds b,qLQ sc,cs,tt,np,ns⟩⟩
theorem mkS (X:K.In h) (G:h.Ns mainGlobals mg) {x:Str}(m:Str) (t:Tok) (i f c Pt:Nat) {g:Nat}(y:Str) (ps:List Str) (fd:Fd) (tt:tab[g]?=some fd) (a:nsIn K mainGlobals x=some (some (.ref f))) (l:K.lookup f=some (fo x x (top i) m t c)) (cc:codeIn K (.ref c) x=true) (k:keepIn K (.ref f)=true) (b:Bd x x (top i) ps) (sc:scB (top i) ps=true) (cs:qQP y 60 (qAa (top i)) (qAj (qAa (top i))) x Pt (qAv (top i))=some fd.body) (np:fd.np=ps.length) (ns:fd.ns=(qAj (qAa (top i))).length) (hh:PySem.W.codeHdIn K c Pt=true) (bm:nsIn K mainGlobals "__builtins__"=some (some (.ref 4))) (bo:K.lookup 4=some { cls:=.type "module",dict:=some 0,data:=.plain }) (n4:(4:Nat)≠Pt) (hb:∀(ap:Pos) (e:Expr) (sc':Scope) (q:Str) (clos:List (Str×Addr)) (pm:Value) (c:Addr) (ctv uv:Value),bindArgs (PySem.W.kla_fn "<lambda>" q ⟨[],[⟨y,none,ap⟩],none,[],[],none,[]⟩ e sc' clos pm (.ref c) ctv) ⟨[uv],[]⟩=pure [(y,uv)]):SrtIn K mg tab x g:=
 ⟨⟨f,c,Pt,top i,ps,fd,_,_,_,_,_,_,_,_,_,mg_of X G a,k,l,(qFS (st:=top i) l cc k).binds b,cc,hh,⟨4,_,mg_of X G bm,by decide,by decide,n4,bo,rfl,rfl,rfl⟩,qLQ sc,qLr hb cs,tt,np,ns⟩⟩
end
section
variable {h:Heap}{mg:Str->Option Value}{P:Params}(X:(heap P).In h) (G:h.Ns mainGlobals mg)
include X G
theorem hxd:∀p∈gx.xdf,SpIn (heap P) mg gx tab p.1 p.2:=by
 refine λ_ h=>nomatch h
theorem hrs:∀c∈gx.rse,∃(C:Addr) (B nid iid:String) (bm:List Value),ExcBaseFacts B nid iid bm/\OwnCls c C bm nid mg h:=by
 refine λ_ h=>nomatch h
theorem hd:∀p∈gx.defs,SpIn (heap P) mg gx tab p.1 p.2∨SrtIn (heap P) mg tab p.1 p.2:=by
 refine fc (.inl (DefIn.sp qAh (mkD X G mA 187 1 21 20 ["one","two"] f_side_cover t0 ?_ ?_ ?_ ?_ ?_ ?_ ?_ ?_ ?_))) (
  fc (.inl (DefIn.sp qAh (mkD X G mA 187 2 26 25 ["one","two"] f_box_cover t1 ?_ ?_ ?_ ?_ ?_ ?_ ?_ ?_ ?_))) (
  fc (.inl (DefIn.sp qAh (mkD X G mA 187 3 31 30 ["box"] f_box_rim t2 ?_ ?_ ?_ ?_ ?_ ?_ ?_ ?_ ?_))) (
  fc (.inl (DefIn.sp qAh (mkD X G mB 209 5 38 37 ["side","beat"] f_side_at t3 ?_ ?_ ?_ ?_ ?_ ?_ ?_ ?_ ?_))) (
  fc (.inl (DefIn.sp qAh (mkD X G mB 209 6 45 44 ["one","two"] f_side_joined t4 ?_ ?_ ?_ ?_ ?_ ?_ ?_ ?_ ?_))) (
  fc (.inl (DefIn.sp qAh (mkD X G mB 209 7 52 51 ["one","two"] f_side_narrowed t5 ?_ ?_ ?_ ?_ ?_ ?_ ?_ ?_ ?_))) (
  fc (.inl (DefIn.sp qAh (mkD X G mB 209 8 57 56 ["frame","beat"] f_frame_at t6 ?_ ?_ ?_ ?_ ?_ ?_ ?_ ?_ ?_))) (
  fc (.inl (DefIn.sp qAh (mkD X G mB 209 9 62 61 ["one","two"] f_frames_joined t7 ?_ ?_ ?_ ?_ ?_ ?_ ?_ ?_ ?_))) (
  fc (.inl (DefIn.sp qAh (mkD X G mB 209 10 67 66 ["one","two"] f_frames_narrowed t8 ?_ ?_ ?_ ?_ ?_ ?_ ?_ ?_ ?_))) (
  fc (.inl (DefIn.sp qAh (mkD X G mC 253 12 74 73 ["thing"] qBF t9 ?_ ?_ ?_ ?_ ?_ ?_ ?_ ?_ ?_))) (
  fc (.inl (DefIn.sp qAh (mkD X G mC 253 13 81 80 ["thing"] qBG t10 ?_ ?_ ?_ ?_ ?_ ?_ ?_ ?_ ?_))) (
  fc (.inl (DefIn.sp qAh (mkD X G mC 253 14 88 87 ["thing"] qBE t11 ?_ ?_ ?_ ?_ ?_ ?_ ?_ ?_ ?_))) (
  fc (.inl (DefIn.sp qAh (mkD X G mC 253 15 95 94 ["told"] qBS t12 ?_ ?_ ?_ ?_ ?_ ?_ ?_ ?_ ?_))) (
  fc (.inl (DefIn.sp qAh (mkD X G mC 253 16 102 101 ["thing"] f_thing_told t13 ?_ ?_ ?_ ?_ ?_ ?_ ?_ ?_ ?_))) (
  fc (.inl (DefIn.sp qAh (mkD X G mC 253 17 109 108 ["one","two"] f_told_poured t14 ?_ ?_ ?_ ?_ ?_ ?_ ?_ ?_ ?_))) (
  fc (.inl (DefIn.sp qAh (mkD X G mC 253 18 116 115 ["tolds"] f_tolds_poured t15 ?_ ?_ ?_ ?_ ?_ ?_ ?_ ?_ ?_))) (
  fc (.inl (DefIn.sp qAh (mkD X G mD 310 20 123 122 ["told"] f_first_box t16 ?_ ?_ ?_ ?_ ?_ ?_ ?_ ?_ ?_))) (
  fc (.inl (DefIn.sp qAh (mkD X G mD 310 21 130 129 ["box","added"] f_stir_of t17 ?_ ?_ ?_ ?_ ?_ ?_ ?_ ?_ ?_))) (
  fc (.inl (DefIn.sp qAh (mkD X G mD 310 22 135 134 ["tolds","told"] f_chosen_page t18 ?_ ?_ ?_ ?_ ?_ ?_ ?_ ?_ ?_))) (
  fc (.inl (DefIn.sp qAh (mkD X G mD 310 23 142 141 ["boxes"] f_rim_of t19 ?_ ?_ ?_ ?_ ?_ ?_ ?_ ?_ ?_))) (
  fc (.inr (mkS X G mD 310 24 149 148 144 "position" ["boxes","side"] f_order_along t20 ?_ ?_ ?_ ?_ ?_ ?_ ?_ ?_ ?_ ?_ ?_ ?_ ?_ ?_)) (
  fc (.inl (DefIn.sp qAh (mkD X G mD 310 25 154 153 ["boxes","order","cut"] f_cut_rim t21 ?_ ?_ ?_ ?_ ?_ ?_ ?_ ?_ ?_))) (
  fc (.inl (DefIn.sp qAh (mkD X G mD 310 26 159 158 ["tolds","room"] f_parted t22 ?_ ?_ ?_ ?_ ?_ ?_ ?_ ?_ ?_))) (
  fc (.inl (DefIn.sp qAh (mkD X G mE 365 28 166 165 ["page"] qC1 t23 ?_ ?_ ?_ ?_ ?_ ?_ ?_ ?_ ?_))) (
  fc (.inl (DefIn.sp qAh (mkD X G mE 365 29 173 172 ["page"] qB8 t24 ?_ ?_ ?_ ?_ ?_ ?_ ?_ ?_ ?_))) (
  fc (.inl (DefIn.sp qAh (mkD X G mE 365 30 180 179 ["page"] qBT t25 ?_ ?_ ?_ ?_ ?_ ?_ ?_ ?_ ?_))) (
  fc (.inl (DefIn.sp qAh (mkD X G mE 365 31 185 184 ["things"] f_things_tolds t26 ?_ ?_ ?_ ?_ ?_ ?_ ?_ ?_ ?_))) (
  fc (.inl (DefIn.sp qAh (mkD X G mE 365 32 190 189 ["pages"] qBI t27 ?_ ?_ ?_ ?_ ?_ ?_ ?_ ?_ ?_))) (
  fc (.inl (DefIn.sp qAh (mkD X G mE 365 33 197 196 ["things"] qB9 t28 ?_ ?_ ?_ ?_ ?_ ?_ ?_ ?_ ?_))) (
  fc (.inl (DefIn.sp qAh (mkD X G mE 365 34 204 203 ["pages"] qCa t29 ?_ ?_ ?_ ?_ ?_ ?_ ?_ ?_ ?_))) (
  fc (.inl (DefIn.sp qAh (mkD X G mF 414 36 209 208 ["row","tolds","room"] qBH t30 ?_ ?_ ?_ ?_ ?_ ?_ ?_ ?_ ?_))) (
  fc (.inl (DefIn.sp qAh (mkD X G mF 414 37 214 213 ["things","room"] qCb t31 ?_ ?_ ?_ ?_ ?_ ?_ ?_ ?_ ?_))) (
  fc (.inl (DefIn.sp qAh (mkD X G mF 414 38 219 218 ["pages","room"] qCq t32 ?_ ?_ ?_ ?_ ?_ ?_ ?_ ?_ ?_))) (
  fc (.inl (DefIn.sp qAh (mkD X G mF 414 39 226 225 ["page","room","thing"] f_pages_with t33 ?_ ?_ ?_ ?_ ?_ ?_ ?_ ?_ ?_))) (
  fc (.inl (DefIn.sp qAh (mkD X G mF 414 40 233 232 ["top","room","thing"] f_put_thing t34 ?_ ?_ ?_ ?_ ?_ ?_ ?_ ?_ ?_))) (
  fc (.inl (DefIn.sp qAh (mkD X G mG 456 42 240 239 ["script","k"] f_law_cell_at t35 ?_ ?_ ?_ ?_ ?_ ?_ ?_ ?_ ?_))) (
  fc (.inl (DefIn.sp qAh (mkD X G mG 456 43 247 246 ["found","due"] f_law_alike t36 ?_ ?_ ?_ ?_ ?_ ?_ ?_ ?_ ?_))) (
  fc (.inl (DefIn.sp qAh (mkD X G mG 456 44 254 253 ["seed","j","many"] f_law_draw t37 ?_ ?_ ?_ ?_ ?_ ?_ ?_ ?_ ?_))) (
  fc (.inl (DefIn.sp qAh (mkD X G mG 456 45 261 260 ["cell","k","sides","way"] f_law_thing t38 ?_ ?_ ?_ ?_ ?_ ?_ ?_ ?_ ?_))) (
  fc (.inl (DefIn.sp qAh (mkD X G mG 456 46 266 265 ["things"] f_law_told t39 ?_ ?_ ?_ ?_ ?_ ?_ ?_ ?_ ?_))) (
  fc (.inl (DefIn.sp qAh (mkD X G mG 456 47 271 270 ["many","room","cell"] f_law_cuts t40 ?_ ?_ ?_ ?_ ?_ ?_ ?_ ?_ ?_))) (
  fc (.inl (DefIn.sp qAh (mkD X G mG 456 48 276 275 ["things","room","cell"] f_law_tree t41 ?_ ?_ ?_ ?_ ?_ ?_ ?_ ?_ ?_))) (
  fc (.inl (DefIn.sp qAh (mkD X G mG 456 49 283 282 ["page","room","fewest"] f_law_looked t42 ?_ ?_ ?_ ?_ ?_ ?_ ?_ ?_ ?_))) (
  fc (.inl (DefIn.sp qAh (mkD X G mG 456 50 290 289 ["top","room","things"] f_law_healthy_with t43 ?_ ?_ ?_ ?_ ?_ ?_ ?_ ?_ ?_))) (
  fc (.inl (DefIn.sp qAh (mkD X G mG 456 51 295 294 ["script"] f_law t44 ?_ ?_ ?_ ?_ ?_ ?_ ?_ ?_ ?_))) (
  λ_ h=>nomatch h)))))))))))))))))))))))))))))))))))))))))))))
 all_goals first|kernel_rfl|decide|exact λ_ _ _ _ _ _=>bd1 rfl λ_=>rfl|exact λ_ _ _ _ _ _=>bd2 rfl λ_ _=>rfl|exact λ_ _ _ _ _ _=>bd3 rfl λ_ _ _=>rfl|exact λ_ _ _ _ _ _=>bd4 rfl λ_ _ _ _=>rfl|exact λ_ _ _ _ _ _ _ _ _=>rfl
theorem hb:∀x∈qAu,mg x=none:=by
 refine fc (mg_none_of X G ?_) (fc (mg_none_of X G ?_) (fc (mg_none_of X G ?_) (fc (mg_none_of X G ?_) (fc (mg_none_of X G ?_) (fc (mg_none_of X G ?_) (fc (mg_none_of X G ?_) (fc (mg_none_of X G ?_) (fc (mg_none_of X G ?_) (fc (mg_none_of X G ?_) (fc (mg_none_of X G ?_) (fc (mg_none_of X G ?_) (fc (mg_none_of X G ?_) (fc (mg_none_of X G ?_) (fc (mg_none_of X G ?_) (fc (mg_none_of X G ?_) (fc (mg_none_of X G ?_) (fc (mg_none_of X G ?_) (λ_ h=>nomatch h))))))))))))))))))
 all_goals kernel_rfl
theorem fin {l:PySem.W.OpenLaw}{w:World}{fa:Addr}(hfa:mg "law"=some (.ref fa)):∃fd:FuncData,(∀(s:Shared) (v:Value),BindsTo s fd ⟨[v],[]⟩ [("script",v)])/\∀base:Heap,(heap P).In base->base.Ns mainGlobals mg->FnOk l.prog w (heap P) mg base CX0 19 fa fd ["script"] (spD (heap P) 1 (qAi tab 17 44)):=by
 have e:=hfa.symm.trans (mg_of X G (n:="law") (v:=.ref 295) (by kernel_rfl))
 cases e
 have l0:(heap P).lookup 295=some (fo "law" "law" (top 51) mG 456 294):=by kernel_rfl
 exact⟨_,λs v=>.of_eq rfl,λbase kb gb=>(fns (fuel:=60) qAh (hb X G) (λx i h=>nomatch h) kb (λx i h=>hd X G (x,i) (PySem.mem_of_lookup h)) (λ_ h=>nomatch h) (λ_ h=>nomatch h) (by decide) (hrs kb gb) (λx i h=>hxd X G (x,i) (PySem.mem_of_lookup h)) 17 "law" "law" 44 _ _ (top 51) ["script"] f_law (qHV (qFS (st:=top 51) l0 (by kernel_rfl) (by kernel_rfl))) (qLQ (by kernel_rfl)) (qD8 (fuel:=60) qAh (by kernel_rfl)) t44 rfl (by kernel_rfl)).1⟩
end
end Dw.K33
open PySem PySem.W PyProof.Rows
set_option maxRecDepth 100000 in
set_option maxHeartbeats 0 in
theorem PySem.Challenge.cw_driftwood_k33_one_thing_put_holds : PySem.Challenge.rw_driftwood_k33_one_thing_put.Holds := by
 rw [Dw.K33.lw_eq]
 w_on
 refine holds_law Dw.K33.said λsaid=>?_
 refine holds_open (q:=Dw.K33.q) (loose:=[]) (Xt:=λs=>xlAt Dw.K33.q [] s&&recOk (RowW.records Dw.K33.lw.row.toRowW) s) (XP:=XL Dw.K33.q []) (Yf:=Hook.obs Dw.K33.hk) (Ya:=Hook.val Dw.K33.hk) (YP:=Hook.says Dw.K33.hk) (N:=5000) Dw.K33.hl (Hook.of Dw.K33.hk) (Hook.keeps Dw.K33.hk) (λs e=>xl_of s (Bool.and_eq_true_iff.mp e).1) XL.keeps (by rfl) (by rfl) (by rfl) (λs e=>recFacts_of (Bool.and_eq_true_iff.mp e).2) (by rfl) (by assumption) (by kernel_rfl) ⟨rfl,rfl,rfl,rfl,rfl,by kernel_rfl⟩ ?hw ?hc
 case hw=>w_witness2
 exact Dw.dw_walk (l:=Dw.K33.lw) (tab:=Dw.T.tab) (n:=17) (i:=44) (λns h _=>Dw.T.c_law33 0 ns h) rfl rfl ⟨rfl,by decide,by decide⟩ (λw h Y=>PySem.W.km_in_of Y) (λt hm=>by have e:=List.mem_singleton.mp (show t∈[_] from hm);subst e;rfl) (λw h Y t hm=>PySem.W.km_tabs_of Y t.1 (by have e:=List.mem_singleton.mp (show t∈[_] from hm);subst e;decide)) (λw t hm=>by have e:=List.mem_singleton.mp (show t∈[_] from hm);subst e;exact⟨⟨148,by kernel_rfl⟩,by kernel_rfl⟩) λw mg fa h KX G hmg=>Dw.K33.fin KX G hmg
