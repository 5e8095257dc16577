import PyProof.Rows.All
import Wide.All
import OpenK.AllK
import Wide.FinOn
import Lean
import PyProof.EqAt
import PyProof.EqKinds
import PyProof.TupleCall
import KE.KSortAsk
import KE.KSortTup
import PySem.Challenge.RW_driftwood_k49_near_pairs_on_paper
set_option linter.all false
set_option Elab.async false
set_option maxRecDepth 100000
set_option maxHeartbeats 4000000
set_option hygiene false
local macro_rules
|`(AC)=>`((by omega))
|`(AT)=>`((model prog w))
|`(At)=>`((by decide))
|`(BT)=>`((.lst (ts.map (af m))))
|`(C0)=>`((model X.prog X.w))
|`(C2)=>`((by simp))
|`(C8)=>`((.lst (ns.map .int)))
|`(CA)=>`((Addr×Obj))
|`(CB)=>`((.int far))
|`(CC)=>`((ns.map .int))
|`(CD)=>`((by cases neg<;>simp at hb ⊢<;>exact hb))
|`(CF)=>`((.lst (rows.map (ba m))))
|`(CG)=>`((.lst []))
|`(CH)=>`((f3,.lst (rows.map (rD m))))
|`(CJ)=>`((.int (m:Int)))
|`(CK)=>`((.lst (A.map (af m))))
|`(CM)=>`((aa call Z a))
|`(CN)=>`((.lst (B.map (af m))))
|`(CO)=>`((x,W m t far x))
|`(CP)=>`((.ix V0 (kI 0)))
|`(CQ)=>`((aN sc'++aF sc'))
|`(CS)=>`((.lst (cs.map .int)))
|`(CT)=>`((λd e z h=>by cases d<;>first|(cases h;done)|(cases e<;>first|(cases h;exact⟨_,_,rfl,rfl,rfl⟩)|cases h)))
|`(CU)=>`((mg_none_of X G ?_))
|`(CV)=>`((by simpa using e))
local macro_rules
|`(CW)=>`((.int rm))
|`(CY)=>`((.lst (bx m λj=>side (qA a.sw t j))))
|`(CZ)=>`((.lst (bh rows.length q)))
|`(Ch)=>`((PySem.W.fnOf x x (f9 st) (cw st) (aE st) dV kV doc pm an (.ref c) ct))
|`(Ci)=>`((.tup xs))
|`(Cj)=>`((aS m t far))
|`(Ck)=>`((revObj a ((its.toArray.size:Int) - 1)))
|`(Cl)=>`((.lst (K.map ar)))
noncomputable section
abbrev Qa:=@PySem.Str.ofString
abbrev Qb:=@PySem.W.Frag
abbrev Qc:=@PySem.wpAny_bind
abbrev Qd:=@PySem.wpAny_pure
abbrev Qe:=@PySem.wpAny_mono
abbrev Qf:=@PySem.wpAny_field
abbrev Qg:=@PySem.Heap.get?_push_of_some
abbrev Qh:=@PySem.Heap.get?_push_size
abbrev Qi:=@PySem.Heap.lt_size
abbrev Qj:=@decide_eq_false
abbrev Qk:=@decide_eq_true
abbrev Ql:=@if_pos
abbrev Qm:=@if_neg
abbrev Qn:=@absurd
abbrev Qo:=@PySem.bootBuiltins
abbrev Qp:=@of_decide_eq_true
abbrev aw:=@List.length_map
abbrev yab:=@Option.map_eq_some_iff
abbrev au:=@Nat.le_refl
abbrev aO:=@List.size_toArray
abbrev aU:=@List.length_append
abbrev aP:=@Bool.and_eq_true
abbrev yag:=@List.mem_cons
abbrev bK:=@List.mem_cons_of_mem
abbrev bq:=@List.mem_cons_self
abbrev cN:=@List.getElem?_eq_getElem
abbrev bE:=@List.append_assoc
abbrev yal:=@List.getElem?_eq_some_iff
abbrev cm:=@List.mem_of_getElem?
abbrev ck:=@List.getElem?_set_ne
abbrev bO:=@Nat.lt_of_lt_of_le
abbrev cM:=@List.take_of_length_le
abbrev aT:=@Nat.le_trans
abbrev dg:=@List.mem_append_right
abbrev bU:=@List.getElem?_map
abbrev bN:=@Option.bind_some
abbrev cJ:=@Array.length_toList
abbrev bR:=@List.append_nil
abbrev dF:=@PySem.mem_of_lookup
abbrev bI:=@Nat.zero_add
abbrev de:=@List.length_cons
abbrev yaz:=@List.mem_singleton
abbrev gU:=@List.getElem?_append_right
abbrev yaB:=@List.mem_iff_getElem?
abbrev yaC:=@List.mem_append
abbrev bV:=@Nat.ne_of_lt
abbrev gB:=@Nat.add_sub_cancel_left
abbrev fh:=@List.flatMap_append
abbrev fT:=@List.take_append_drop
abbrev cP:=@List.map_cons
abbrev fA:=@Bool.false_ne_true
abbrev eQ:=@List.length_take
abbrev eO:=@List.not_mem_nil
abbrev fS:=@Bool.false_eq_true
abbrev jb:=@PyProof.Rows.callWith_type1
abbrev eN:=@Bool.or_eq_true
abbrev yaO:=@List.mem_map
abbrev yaP:=@PyProof.Rows.slot_tuple_getitem
abbrev gA:=@List.flatMap_cons
abbrev jH:=@List.drop_eq_getElem_cons
abbrev jG:=@List.getElem?_append_left
abbrev iM:=@List.mem_append_left
abbrev ja:=@Array.getElem?_toList
abbrev gw:=@Option.some.inj
abbrev kP:=@List.getD_eq_getElem?_getD
abbrev fg:=@Nat.le_of_lt
abbrev ik:=@List.length_drop
abbrev fR:=@Nat.lt_irrefl
abbrev fQ:=@List.all_cons
abbrev ie:=@List.nil_append
abbrev kL:=@List.getElem?_replicate
abbrev kK:=@List.getElem?_set_self
abbrev mz:=@Array.getElem?_eq_getElem
abbrev gT:=@List.sum_cons
abbrev fP:=@Nat.zero_le
abbrev i9:=@List.lookup_cons
abbrev i8:=@List.getElem_mem
abbrev kJ:=@List.mem_of_mem_drop
abbrev kH:=@List.mem_of_mem_take
abbrev ybl:=@List.length_eq_zero_iff
abbrev jE:=@List.flatten_cons
abbrev kG:=@List.replicate_succ
abbrev ybo:=@List.pairwise_cons
abbrev i7:=@List.take_zero
abbrev kF:=@Int.toNat_natCast
abbrev n6:=@PySem.slot_listiter_next
abbrev iL:=@Nat.ne_of_gt
abbrev my:=@List.reverse_append
abbrev mx:=@List.length_zipWith
abbrev jD:=@Bool.and_false
abbrev mw:=@List.filter_append
abbrev ybx:=@List.nodup_cons
abbrev n5:=@List.length_singleton
abbrev kE:=@PySem.W.kia_one
abbrev kO:=@Option.map_some
abbrev mL:=@List.reverse_cons
abbrev jF:=@Bool.and_true
abbrev oj:=@Nat.pow_le_pow_right
abbrev kN:=@List.drop_zero
abbrev oi:=@List.filterMap_cons
abbrev oh:=@List.length_reverse
abbrev rA:=@PySem.F.args_tuple_add_2
abbrev rz:=@List.getElem?_cons_succ
abbrev mK:=@List.of_mem_zip
abbrev rq:=@PySem.F.entry_tuple_add
abbrev mJ:=@List.foldl_cons
abbrev mI:=@List.length_nil
abbrev rp:=@PySem.F.plainAttrs_list
abbrev ro:=@PySem.F.slot_tuple_add
abbrev rn:=@List.filter_eq_nil_iff
abbrev rj:=@List.length_replicate
abbrev kM:=@Int.le_trans
abbrev og:=@List.zipIdx_cons
abbrev ybT:=@List.mem_filter
abbrev oa:=@Int.ediv_nonneg
abbrev ri:=@List.map_congr_left
abbrev n9:=@Nat.min_le_left
abbrev vy:=@List.exists_cons_of_ne_nil
abbrev mH:=@Nat.succ_mul
abbrev ybZ:=@Int.natAbs_eq_zero
abbrev mq:=@List.all_nil
abbrev n4:=@Bool.false_and
abbrev nZ:=@Int.mul_le_mul
abbrev rh:=@Bool.not_eq_true'
abbrev rg:=@List.take_add_one
abbrev rf:=@Option.some.injEq
abbrev ycg:=@List.nodup_append
abbrev mj:=@Int.le_refl
abbrev mi:=@Prod.mk.inj
abbrev qZ:=@List.cons_append
abbrev nY:=@Nat.sub_self
abbrev qY:=@List.forIn_cons
abbrev nX:=@Nat.succ.inj
abbrev nW:=@Nat.log2_lt
namespace L2
open PySem PySem.Spec PyProof.Rows
noncomputable def f9 (s:Stmt):Arguments:=match s with
 | .FunctionDef _ a _ _ _ _ _ _ _ _=>a
 | _=>{ posonlyargs:=[],args:=[],vararg:=none,kwonlyargs:=[],kw_defaults:=[],kwarg:=none,defaults:=[] }
noncomputable def cw (s:Stmt):List Stmt:=match s with
 | .FunctionDef _ _ b _ _ _ _ _ _ _=>b
 | _=>[]
noncomputable def aE (s:Stmt):Scope:=match s with
 | .FunctionDef _ _ _ _ _ _ sc _ _ _=>sc
 | _=>{ kind:=.function,names:=[],isGenerator:=false,isCoroutine:=false }
end L2
namespace Dw.K49
open PySem L2
open PySem.W (nsIn fnOf codeIn keepIn findIn mg_of mg_none_of Frag)
def aq (i:Nat):Stmt:=PySem.Challenge.pw_driftwood_k49_near_pairs_on_paper.main.body.getD i (.Pass ⟨0,0,0,0⟩)
noncomputable def mA:Str:="driftwood.boxes"
noncomputable def mB:Str:="driftwood.swaths"
noncomputable def mC:Str:="driftwood.things"
noncomputable def mD:Str:="driftwood.pages"
noncomputable def mE:Str:="driftwood.wants"
noncomputable def mF:Str:="driftwood.join"
noncomputable def mG:Str:="law_driftwood_k49_near_pairs_on_paper"
noncomputable def en (P:Params) (n:Str) (t:Tok) (v:Value):DictEntry:=⟨PyData.keyHash P n,.str n t,v⟩
def er (P:Params) (n:Str) (t:Tok) (a:Nat):DictEntry:=en P n t (.ref a)
noncomputable def dc (es:List DictEntry) (n:Nat):Obj:={ cls:=.type "dict",data:=.dict es.toArray n }
def fo (n q:Str) (s:Stmt) (m:Str) (t:Tok) (c:Nat):Obj:={ cls:=.type "function",data:=.func (fnOf n q (f9 s) (cw s) (aE s) .none .none .none (.str m t) none (.ref c) .none) }
def Bs (n q:Str) (s:Stmt) (m:Str) (t:Tok) (c d:Nat):Obj:={ cls:=.type "function",data:=.func (fnOf n q (f9 s) (cw s) (aE s) (.ref d) .none .none (.str m t) none (.ref c) .none) }
noncomputable def co (n q:Str) (t u x:Tok) (a b c d e r f s:Nat) (g h i:Value) (j k:Nat) (y:Tok):Obj:={ cls:=.type "code",data:=.fields #[.str n t,.str q u,.str "/claim/cut.py" x,.int a 0,.int b 0,.int c 0,.int d 0,.int e 0,.ref r,.bool true,.int f 0,.ref s,.none,g,h,i,.int j 0,.int k 0,.str "/claim/cut.py" y] }
def ca (n q:Str) (t a b r j:Nat):Obj:=co n q t (t+1) (t+2) a b 0 0 3 r 181 (r+1) (.ref (r+2)) (.ref (r+3)) (.ref (r+4)) j a (j+1)
def cn (n q:Str) (t a b r j:Nat):Obj:=co n q t (t+1) (t+2) a b 0 0 3 r 181 (r+1) .none .none (.ref (r+2)) j a (j+1)
def heap (P:Params):Frag:=(nat_lit 3,dc (en P "__name__" 165 (.str ("law_driftwood_k49_near_pairs_on_paper") 416)::en P "__doc__" 166 .none::en P "__package__" 167 .none::en P "__loader__" 168 (.builtin "__main__.__loader__#opaque")::en P "__spec__" 169 .none::er P "__annotations__" 170 6::er P "__builtins__" 171 4::en P "__file__" 173 (.str ("/claim/cut.py") 172)::en P "__cached__" 174 .none::er P "side_gap" 196 21::er P "box_gap" 202 26::er P "side_at" 212 33::er P "frame_at" 218 38::er P "thing_handle" 227 45::er P "thing_swath" 234 52::er P "thing_box" 242 59::er P "told_cover" 249 66::er P "told_heart" 256 73::er P "is_leaf" 265 80::er P "page_told" 272 87::er P "page_parts" 279 94::er P "things_in" 288 101::er P "cover_at" 298 108::er P "heart_at" 306 115::er P "parts_or_itself" 314 120::er P "places_behind" 320 125::er P "join_cut" 333 132::er P "join_paper" 339 137::er P "is_open_leaves" 347 144::er P "boxes_of" 353 149::er P "gaps_of_leaves" 359 154::er P "is_apart" 369 161::er P "is_whole_near" 379 168::er P "pairs_word" 389 175::er P "pairs_of_whole" 395 180::er P "pairs_of_rows" 401 185::er P "near_pairs" 415 193::er P "_law_cell_at" 425 200::er P "_law_alike" 434 207::er P "_law_draw" 443 214::er P "_law_thing" 464 221::er P "_law_told" 470 226::er P "_law_cuts" 476 231::er P "_law_tree" 482 236::er P "_law_two_rows" 488 241::er P "_law_frame_at" 494 246::er P "_law_gap" 506 253::er P "_law_beat" 513 260::er P "_law_far" 527 267::er P "_law_under" 533 272::er P "_law_behind" 547 279::er P "_law_things" 556 286::er P "_law_word" 566 293::er P "_law_near_ones" 581 300::er P "_law_led_to" 587 305::er P "_law_walked" 604 312::er P "law" 623 319::[]) 57) ::
 (nat_lit 4,{ cls:=.type "module",dict:=some 0,data:=.plain }) ::
 (nat_lit 20,ca "side_gap" "side_gap" 189 2 2 15 194) ::
 (nat_lit 21,fo "side_gap" "side_gap" (aq 1) mA 187 20) ::
 (nat_lit 25,cn "box_gap" "box_gap" 197 4 2 22 200) ::
 (nat_lit 26,fo "box_gap" "box_gap" (aq 2) mA 187 25) ::
 (nat_lit 32,ca "side_at" "side_at" 205 8 2 27 210) ::
 (nat_lit 33,fo "side_at" "side_at" (aq 4) mB 203 32) ::
 (nat_lit 37,cn "frame_at" "frame_at" 213 10 2 34 216) ::
 (nat_lit 38,fo "frame_at" "frame_at" (aq 5) mB 203 37) ::
 (nat_lit 44,ca "thing_handle" "thing_handle" 221 13 1 39 225) ::
 (nat_lit 45,fo "thing_handle" "thing_handle" (aq 7) mC 219 44) ::
 (nat_lit 51,ca "thing_swath" "thing_swath" 228 15 1 46 232) ::
 (nat_lit 52,fo "thing_swath" "thing_swath" (aq 8) mC 219 51) ::
 (nat_lit 58,ca "thing_box" "thing_box" 235 17 2 53 240) ::
 (nat_lit 59,fo "thing_box" "thing_box" (aq 9) mC 219 58) ::
 (nat_lit 65,ca "told_cover" "told_cover" 243 19 1 60 247) ::
 (nat_lit 66,fo "told_cover" "told_cover" (aq 10) mC 219 65) ::
 (nat_lit 72,ca "told_heart" "told_heart" 250 21 1 67 254) ::
 (nat_lit 73,fo "told_heart" "told_heart" (aq 11) mC 219 72) ::
 (nat_lit 79,ca "is_leaf" "is_leaf" 259 24 1 74 263) ::
 (nat_lit 80,fo "is_leaf" "is_leaf" (aq 13) mD 257 79) ::
 (nat_lit 86,ca "page_told" "page_told" 266 26 1 81 270) ::
 (nat_lit 87,fo "page_told" "page_told" (aq 14) mD 257 86) ::
 (nat_lit 93,ca "page_parts" "page_parts" 273 28 1 88 277) ::
 (nat_lit 94,fo "page_parts" "page_parts" (aq 15) mD 257 93) ::
 (nat_lit 100,ca "things_in" "things_in" 280 30 1 95 286) ::
 (nat_lit 101,fo "things_in" "things_in" (aq 16) mD 257 100) ::
 (nat_lit 107,ca "cover_at" "cover_at" 291 38 2 102 296) ::
 (nat_lit 108,fo "cover_at" "cover_at" (aq 18) mE 289 107) ::
 (nat_lit 114,ca "heart_at" "heart_at" 299 40 2 109 304) ::
 (nat_lit 115,fo "heart_at" "heart_at" (aq 19) mE 289 114) ::
 (nat_lit 119,cn "parts_or_itself" "parts_or_itself" 309 43 2 116 312) ::
 (nat_lit 120,fo "parts_or_itself" "parts_or_itself" (aq 21) mF 307 119) ::
 (nat_lit 124,cn "places_behind" "places_behind" 315 47 1 121 318) ::
 (nat_lit 125,fo "places_behind" "places_behind" (aq 22) mF 307 124) ::
 (nat_lit 131,ca "join_cut" "join_cut" 321 55 3 126 331) ::
 (nat_lit 132,fo "join_cut" "join_cut" (aq 23) mF 307 131) ::
 (nat_lit 136,cn "join_paper" "join_paper" 334 65 1 133 337) ::
 (nat_lit 137,fo "join_paper" "join_paper" (aq 24) mF 307 136) ::
 (nat_lit 143,ca "is_open_leaves" "is_open_leaves" 340 67 2 138 345) ::
 (nat_lit 144,fo "is_open_leaves" "is_open_leaves" (aq 25) mF 307 143) ::
 (nat_lit 148,cn "boxes_of" "boxes_of" 348 69 2 145 351) ::
 (nat_lit 149,fo "boxes_of" "boxes_of" (aq 26) mF 307 148) ::
 (nat_lit 153,cn "gaps_of_leaves" "gaps_of_leaves" 354 71 3 150 357) ::
 (nat_lit 154,fo "gaps_of_leaves" "gaps_of_leaves" (aq 27) mF 307 153) ::
 (nat_lit 160,ca "is_apart" "is_apart" 360 77 4 155 367) ::
 (nat_lit 161,fo "is_apart" "is_apart" (aq 28) mF 307 160) ::
 (nat_lit 167,ca "is_whole_near" "is_whole_near" 370 81 4 162 377) ::
 (nat_lit 168,fo "is_whole_near" "is_whole_near" (aq 29) mF 307 167) ::
 (nat_lit 174,ca "pairs_word" "pairs_word" 380 83 4 169 387) ::
 (nat_lit 175,fo "pairs_word" "pairs_word" (aq 30) mF 307 174) ::
 (nat_lit 179,cn "pairs_of_whole" "pairs_of_whole" 390 87 2 176 393) ::
 (nat_lit 180,fo "pairs_of_whole" "pairs_of_whole" (aq 31) mF 307 179) ::
 (nat_lit 184,cn "pairs_of_rows" "pairs_of_rows" 396 94 3 181 399) ::
 (nat_lit 185,fo "pairs_of_rows" "pairs_of_rows" (aq 32) mF 307 184) ::
 (nat_lit 186,{ cls:=.type "tuple",data:=.seq #[.int 0 402] }) ::
 (nat_lit 192,ca "near_pairs" "near_pairs" 403 103 4 187 413) ::
 (nat_lit 193,Bs "near_pairs" "near_pairs" (aq 33) mF 307 192 186) ::
 (nat_lit 199,ca "_law_cell_at" "_law_cell_at" 418 107 2 194 423) ::
 (nat_lit 200,fo "_law_cell_at" "_law_cell_at" (aq 35) mG 416 199) ::
 (nat_lit 206,ca "_law_alike" "_law_alike" 426 111 2 201 432) ::
 (nat_lit 207,fo "_law_alike" "_law_alike" (aq 36) mG 416 206) ::
 (nat_lit 213,ca "_law_draw" "_law_draw" 435 124 3 208 441) ::
 (nat_lit 214,fo "_law_draw" "_law_draw" (aq 37) mG 416 213) ::
 (nat_lit 220,ca "_law_thing" "_law_thing" 444 126 5 215 462) ::
 (nat_lit 221,fo "_law_thing" "_law_thing" (aq 38) mG 416 220) ::
 (nat_lit 225,cn "_law_told" "_law_told" 465 141 1 222 468) ::
 (nat_lit 226,fo "_law_told" "_law_told" (aq 39) mG 416 225) ::
 (nat_lit 230,cn "_law_cuts" "_law_cuts" 471 159 3 227 474) ::
 (nat_lit 231,fo "_law_cuts" "_law_cuts" (aq 40) mG 416 230) ::
 (nat_lit 235,cn "_law_tree" "_law_tree" 477 164 3 232 480) ::
 (nat_lit 236,fo "_law_tree" "_law_tree" (aq 41) mG 416 235) ::
 (nat_lit 240,cn "_law_two_rows" "_law_two_rows" 483 179 3 237 486) ::
 (nat_lit 241,fo "_law_two_rows" "_law_two_rows" (aq 42) mG 416 240) ::
 (nat_lit 245,cn "_law_frame_at" "_law_frame_at" 489 193 2 242 492) ::
 (nat_lit 246,fo "_law_frame_at" "_law_frame_at" (aq 43) mG 416 245) ::
 (nat_lit 252,ca "_law_gap" "_law_gap" 495 195 2 247 504) ::
 (nat_lit 253,fo "_law_gap" "_law_gap" (aq 44) mG 416 252) ::
 (nat_lit 259,ca "_law_beat" "_law_beat" 507 201 1 254 511) ::
 (nat_lit 260,fo "_law_beat" "_law_beat" (aq 45) mG 416 259) ::
 (nat_lit 266,ca "_law_far" "_law_far" 514 207 4 261 525) ::
 (nat_lit 267,fo "_law_far" "_law_far" (aq 46) mG 416 266) ::
 (nat_lit 271,cn "_law_under" "_law_under" 528 217 2 268 531) ::
 (nat_lit 272,fo "_law_under" "_law_under" (aq 47) mG 416 271) ::
 (nat_lit 278,ca "_law_behind" "_law_behind" 534 221 1 273 545) ::
 (nat_lit 279,fo "_law_behind" "_law_behind" (aq 48) mG 416 278) ::
 (nat_lit 285,ca "_law_things" "_law_things" 548 230 1 280 554) ::
 (nat_lit 286,fo "_law_things" "_law_things" (aq 49) mG 416 285) ::
 (nat_lit 292,ca "_law_word" "_law_word" 557 237 4 287 564) ::
 (nat_lit 293,fo "_law_word" "_law_word" (aq 50) mG 416 292) ::
 (nat_lit 299,ca "_law_near_ones" "_law_near_ones" 567 245 4 294 579) ::
 (nat_lit 300,fo "_law_near_ones" "_law_near_ones" (aq 51) mG 416 299) ::
 (nat_lit 304,cn "_law_led_to" "_law_led_to" 582 256 4 301 585) ::
 (nat_lit 305,fo "_law_led_to" "_law_led_to" (aq 52) mG 416 304) ::
 (nat_lit 311,ca "_law_walked" "_law_walked" 588 264 5 306 602) ::
 (nat_lit 312,fo "_law_walked" "_law_walked" (aq 53) mG 416 311) ::
 (nat_lit 318,ca "law" "law" 605 284 1 313 621) ::
 (nat_lit 319,fo "law" "law" (aq 54) mG 416 318)::[]
def c0:Stmt:=aq 0
def c1:Stmt:=aq 1
def c2:Stmt:=aq 2
def c3:Stmt:=aq 3
def c4:Stmt:=aq 4
def c5:Stmt:=aq 5
def c6:Stmt:=aq 6
def c7:Stmt:=aq 7
def c8:Stmt:=aq 8
def c9:Stmt:=aq 9
def B4:Stmt:=aq 10
def B3:Stmt:=aq 11
def c12:Stmt:=aq 12
def B2:Stmt:=aq 13
def B1:Stmt:=aq 14
def B0:Stmt:=aq 15
def qO:Stmt:=aq 16
def c17:Stmt:=aq 17
def BZ:Stmt:=aq 18
def kv:Stmt:=aq 19
def c20:Stmt:=aq 20
def BY:Stmt:=aq 21
def BX:Stmt:=aq 22
def qN:Stmt:=aq 23
def BW:Stmt:=aq 24
def BV:Stmt:=aq 25
def BU:Stmt:=aq 26
def BS:Stmt:=aq 27
def BR:Stmt:=aq 28
def qM:Stmt:=aq 29
def BQ:Stmt:=aq 30
def BP:Stmt:=aq 31
def BO:Stmt:=aq 32
def c33:Stmt:=aq 33
def c34:Stmt:=aq 34
def BN:Stmt:=aq 35
def BM:Stmt:=aq 36
def BL:Stmt:=aq 37
def BK:Stmt:=aq 38
def BJ:Stmt:=aq 39
def BH:Stmt:=aq 40
def qL:Stmt:=aq 41
def BG:Stmt:=aq 42
def lY:Stmt:=aq 43
def BF:Stmt:=aq 44
def qK:Stmt:=aq 45
def BE:Stmt:=aq 46
def BD:Stmt:=aq 47
def BC:Stmt:=aq 48
def BB:Stmt:=aq 49
def BA:Stmt:=aq 50
def Bz:Stmt:=aq 51
def By:Stmt:=aq 52
def Bx:Stmt:=aq 53
def Bw:Stmt:=aq 54
def pw:Program:={ PySem.Challenge.pw_driftwood_k49_near_pairs_on_paper with main:={ PySem.Challenge.pw_driftwood_k49_near_pairs_on_paper.main with body:=c0::c1::c2::c3::c4::c5::c6::c7::c8::c9::B4::B3::c12::B2::B1::B0::qO::c17::BZ::kv::c20::BY::BX::qN::BW::BV::BU::BS::BR::qM::BQ::BP::BO::c33::c34::BN::BM::BL::BK::BJ::BH::qL::BG::lY::BF::qK::BE::BD::BC::BB::BA::Bz::By::Bx::Bw::[] } }
def lw:PySem.W.OpenLaw:={ PySem.Challenge.rw_driftwood_k49_near_pairs_on_paper with prog:=pw }
theorem lw_eq:PySem.Challenge.rw_driftwood_k49_near_pairs_on_paper=lw:=by kernel_rfl
end Dw.K49
section
open PySem PySem.W PyProof.Rows
namespace Dw.K49
def hk:Hook:=kmHook heap (3::4::20::21::25::26::32::33::37::38::44::45::51::52::58::59::65::66::72::73::79::80::86::87::93::94::100::101::107::108::114::115::119::120::124::125::131::132::136::137::143::144::148::149::153::154::160::161::167::168::174::175::179::180::184::185::186::192::193::199::200::206::207::213::214::220::221::225::226::230::231::235::236::240::241::245::246::252::253::259::260::266::267::271::272::278::279::285::286::292::293::299::300::304::305::311::312::318::319::[]) (λ_=>by kernel_rfl) (188::[])
noncomputable def lo:List Str:="near_pairs"::[]
noncomputable def q:Program:={ lw.prog with main:={ lw.prog.main with body:=c1::c2::c4::c5::c7::c8::c9::B4::B3::B2::B1::B0::qO::BZ::kv::BY::BX::qN::BW::BV::BU::BS::BR::qM::BQ::BP::BO::BN::BM::BL::BK::BJ::BH::qL::BG::lY::BF::qK::BE::BD::BC::BB::BA::Bz::By::Bx::Bw::[] } }
theorem hl:LeftO lw.row.toRowW.prog q lo (λs=>xlAt q [] s&&recOk (RowW.records lw.row.toRowW) s) (Hook.obs hk) (Hook.val hk) 4000:=λw=>by kernel_rfl
theorem said:lw.wellSaid=true:=by kernel_rfl
end Dw.K49
end
namespace Dw.So
open PySem PyProof.Rows
noncomputable def gb:Bool->Keyed->Array Keyed->Nat->Nat->Nat->StateT SortSt Sem (Option Nat):=sortPriv% PySem.Builtin.gallop
noncomputable def lx (left:Bool) (key:Keyed) (arr:Array Keyed) (base i:Nat):StateT SortSt Sem (Option Bool):=do
 let x <-elem' arr (base+i)
 if left then lt' x key else return (<-lt' key x).map (!·)
theorem qG8 (left:Bool) (key:Keyed) (arr:Array Keyed) (base n hint:Nat):gb left key arr base n hint=(do
 let mut lastofs:=0
 let mut ofs:=1
 let mut lo:=0
 let mut hi:=0
 let some right <-lx left key arr base hint|return none
 if right then
  let maxofs:=n - hint
  for _ in [0:n] do
   if ofs ≥ maxofs then break
   let some more <-lx left key arr base (hint+ofs)|return none
   if !more then break
   lastofs:=ofs
   ofs:=2 * ofs+1
  lo:=hint+lastofs+1
  hi:=hint+min ofs maxofs
 else
  let maxofs:=hint+1
  for _ in [0:n] do
   if ofs ≥ maxofs then break
   let some found <-lx left key arr base (hint - ofs)|return none
   if found then break
   lastofs:=ofs
   ofs:=2 * ofs+1
  lo:=hint+1 - min ofs maxofs
  hi:=hint - lastofs
 for _ in [0:n] do
  if lo ≥ hi then break
  let m:=lo+(hi - lo) / 2
  let some more <-lx left key arr base m|return none
  if more then lo:=m+1 else hi:=m
 return some hi):=rfl
section
variable {prog:Program}{w:World}{A:Around}{E:Value->Shared->Prop}{s:Shared}
abbrev F3:=Nat->Option (Option Nat)×Nat×Nat->StateT SortSt Sem (ForInStep (Option (Option Nat)×Nat×Nat))
theorem qMK {b:Nat->Bool}{n:Nat}{f:F3}{st:SortSt}{Q:Option (Option Nat)×Nat×Nat->SortSt->Prop}(mono:∀i j,i<=j->j<n->b j=true->b i=true) (mono':∀i j,i<=j->j<n->b i=false->b j=false)
  (stop:∀x lo hi,lo ≥ hi->f x (none,lo,hi)=pure (.done (none,lo,hi)))
  (step:∀x lo hi (R:ForInStep (Option (Option Nat)×Nat×Nat)->SortSt->Prop),lo<hi->hi<=n->R (if b (lo+(hi - lo) / 2)=true then .yield (none,lo+(hi - lo) / 2+1,hi) else .yield (none,lo,lo+(hi - lo) / 2)) st->wpS AT A E s (f x (none,lo,hi)) R st)
  {lo hi:Nat} (h1:lo<=hi) (h2:hi<=n) (h3:∀i,i<lo->b i=true) (h4:∀i,hi<=i->i<n->b i=false)
  (h:∀l k,k<=n->(∀i,i<k->b i=true)->(∀i,k<=i->i<n->b i=false)->Q (none,l,k) st):wpS AT A E s (forIn [0:n] (none,lo,hi) f) Q st:=by
 refine wpS_forRange (I:=λx c st'=>st'=st/\∃l k,c=(none,l,k)/\l<=k/\k<=n/\k - l<=n - x/\(∀i,i<l->b i=true)/\∀i,k<=i->i<n->b i=false) ?_ ?_ ⟨rfl,lo,hi,rfl,h1,h2,by omega,h3,h4⟩
 ·rintro x c st' _ hx ⟨rfl,l,k,rfl,g1,g2,g3,g4,g5⟩
  by_cases hge:l ≥ k
  ·rw [stop x l k hge]
   exact wpS_pure (h l k g2 (λi hi=>g4 i AC) g5)
  ·refine step x l k _ AC g2 ?_
   cases e:b (l+(k - l) / 2) with
   | true =>
    rw [Ql rfl]
    exact⟨rfl,_,_,rfl,by omega,g2,by omega,λi hi=>mono i _ AC AC e,g5⟩
   | false =>
    rw [Qm C2]
    exact⟨rfl,_,_,rfl,by omega,by omega,by omega,g4,λi hi hn=>mono' _ i hi hn e⟩
 ·rintro c st' ⟨rfl,l,k,rfl,g1,g2,g3,g4,g5⟩
  exact h l k g2 (λi hi=>g4 i AC) g5
theorem qGR {left:Bool}{key:Keyed}{arr:Array Keyed}{base n hint:Nat}{st:SortSt}{b:Nat->Bool}{Q:Option Nat->SortSt->Prop}(hh:hint<n)
  (hb:∀(i:Nat) (Q:Option Bool->SortSt->Prop),i<n->Q (some (b i)) st->wpS AT A E s (lx left key arr base i) Q st)
  (mono:∀i j,i<=j->j<n->b j=true->b i=true)
  (h:∀k,k<=n->(∀i,i<k->b i=true)->(∀i,k<=i->i<n->b i=false)->Q (some k) st):wpS AT A E s (gb left key arr base n hint) Q st:=by
 have mono':∀i j,i<=j->j<n->b i=false->b j=false:=λi j h1 h2 h3=>by
  cases e:b j with
  | false=>rfl
  | true=>rw [mono i j h1 h2 e] at h3;cases h3
 rw [qG8]
 refine wpS_bind (hb hint _ hh ?_)
 dsimp only
 have fin:∀{f:F3} {g:Option (Option Nat)×Nat×Nat->StateT SortSt Sem (Option Nat)} {lo hi:Nat},(∀x lo hi,lo ≥ hi->f x (none,lo,hi)=pure (.done (none,lo,hi))) ->
   (∀x lo hi (R:ForInStep (Option (Option Nat)×Nat×Nat)->SortSt->Prop),lo<hi->hi<=n->R (if b (lo+(hi - lo) / 2)=true then .yield (none,lo+(hi - lo) / 2+1,hi) else .yield (none,lo,lo+(hi - lo) / 2)) st->wpS AT A E s (f x (none,lo,hi)) R st) ->
   (∀l k,g (none,l,k)=pure (some k))->lo<=hi->hi<=n->(∀i,i<lo->b i=true)->(∀i,hi<=i->i<n->b i=false)->wpS AT A E s (forIn [0:n] (none,lo,hi) f >>= g) Q st:=by
  intro f g lo hi stop step hg h1 h2 h3 h4
  refine wpS_bind (qMK mono mono' stop step h1 h2 h3 h4 λl k k1 k2 k3=>?_)
  rw [hg]
  exact wpS_pure (h k k1 k2 k3)
 cases hc:b hint with
 | true =>
  simp only [if_true]
  refine wpS_bind (wpS_mono (wpS_forRange (I:=λx c st'=>st'=st/\∃l o,c=(none,l,o)/\l<o/\x<o/\hint+l<n/\b (hint+l)=true)
   (Q:=λc st'=>st'=st/\∃l o,c=(none,l,o)/\l<o/\hint+l<n/\b (hint+l)=true/\(o<n - hint->b (hint+o)=false)) ?step ?fin ⟨rfl,0,1,rfl,by omega,by omega,hh,hc⟩) ?post)
  case fin =>
   rintro c st' ⟨rfl,l,o,rfl,g1,g2,g3,g4⟩
   exact⟨rfl,l,o,rfl,g1,g3,g4,λz=>by omega⟩
  case step =>
   rintro x c st' _ hx ⟨rfl,l,o,rfl,g1,g2,g3,g4⟩
   dsimp only
   by_cases hge:o ≥ n - hint
   ·rw [Ql hge]
    exact wpS_pure ⟨rfl,l,o,rfl,g1,g3,g4,λz=>by omega⟩
   ·rw [Qm hge]
    refine wpS_bind (hb (hint+o) _ AC ?_)
    dsimp only
    cases e:b (hint+o) with
    | true =>
     rw [Qm C2]
     exact wpS_pure ⟨rfl,o,2 * o+1,rfl,by omega,by omega,by omega,e⟩
    | false =>
     rw [Ql C2]
     exact wpS_pure ⟨rfl,l,o,rfl,g1,g3,g4,λ_=>e⟩
  case post =>
   rintro c st' ⟨rfl,l,o,rfl,g1,g3,g4,g5⟩
   dsimp only
   refine fin (λx lo hi z=>Ql z) (λx lo hi R z1 z2 z3=>?_) (λl k=>rfl) AC AC (λi hi=>mono i _ AC g3 g4) (λi hi hn=>mono' (hint+o) i AC hn (g5 AC))
   dsimp only
   rw [Qm AC]
   refine wpS_bind (hb _ _ AC ?_)
   dsimp only
   cases e:b (lo+(hi - lo) / 2) with
   | true=>rw [e] at z3;exact wpS_pure z3
   | false=>rw [e] at z3;exact wpS_pure z3
 | false =>
  simp only [fS,if_false]
  refine wpS_bind (wpS_mono (wpS_forRange (I:=λx c st'=>st'=st/\∃l o,c=(none,l,o)/\l<o/\x<o/\l<=hint/\b (hint - l)=false)
   (Q:=λc st'=>st'=st/\∃l o,c=(none,l,o)/\l<o/\l<=hint/\b (hint - l)=false/\(o<hint+1->b (hint - o)=true)) ?step ?fin ⟨rfl,0,1,rfl,by omega,by omega,by omega,hc⟩) ?post)
  case fin =>
   rintro c st' ⟨rfl,l,o,rfl,g1,g2,g3,g4⟩
   exact⟨rfl,l,o,rfl,g1,g3,g4,λz=>by omega⟩
  case step =>
   rintro x c st' _ hx ⟨rfl,l,o,rfl,g1,g2,g3,g4⟩
   dsimp only
   by_cases hge:o ≥ hint+1
   ·rw [Ql hge]
    exact wpS_pure ⟨rfl,l,o,rfl,g1,g3,g4,λz=>by omega⟩
   ·rw [Qm hge]
    refine wpS_bind (hb (hint - o) _ AC ?_)
    dsimp only
    cases e:b (hint - o) with
    | true =>
     rw [Ql rfl]
     exact wpS_pure ⟨rfl,l,o,rfl,g1,g3,g4,λ_=>e⟩
    | false =>
     rw [Qm C2]
     exact wpS_pure ⟨rfl,o,2 * o+1,rfl,by omega,by omega,by omega,e⟩
  case post =>
   rintro c st' ⟨rfl,l,o,rfl,g1,g3,g4,g5⟩
   dsimp only
   refine fin (λx lo hi z=>Ql z) (λx lo hi R z1 z2 z3=>?_) (λl k=>rfl) AC AC (λi hi=>mono i (hint - o) AC AC (g5 AC)) (λi hi hn=>mono' _ i hi hn g4)
   dsimp only
   rw [Qm AC]
   refine wpS_bind (hb _ _ AC ?_)
   dsimp only
   cases e:b (lo+(hi - lo) / 2) with
   | true=>rw [e] at z3;exact wpS_pure z3
   | false=>rw [e] at z3;exact wpS_pure z3
end
end Dw.So
namespace Dw.So
open PySem PyProof.Rows
noncomputable def iW:Nat->StateT SortSt Sem Unit:=sortPriv% PySem.Builtin.setMinGallop
noncomputable def qw:Array Keyed->Array Keyed->StateT SortSt Sem (Array Keyed):=sortPriv% PySem.Builtin.mergeLo
noncomputable abbrev bX (st:SortSt) (g:Nat):SortSt:=SortSt.mk' (kindOf st) (arrOf st) (pendingOf st) g (failedOf st)
theorem qE (g:Nat):iW g=modify λs=>bX s g:=rfl
theorem qFE (a b:Array Keyed):qw a b=(do
 rule "list.sort.merge-lo"
 let total:=a.size+b.size
 let done (out:Array Keyed) (ia ib:Nat):=out++a.extract ia a.size++b.extract ib b.size
 let lastOfA (out:Array Keyed) (ia ib:Nat):=out++b.extract ib b.size++a.extract ia a.size
 let mut out:Array Keyed:=#[<-elem' b 0]
 let mut ia:=0
 let mut ib:=1
 if ib == b.size then return done out ia ib
 if ia+1 == a.size then return lastOfA out ia ib
 let mut minGallop:=gallopOf (<-get)
 for _ in [0:total] do
  let mut acount:=0
  let mut bcount:=0
  for _ in [0:total] do
   let some bWins <-lt' (<-elem' b ib) (<-elem' a ia)|return done out ia ib
   if bWins then
    out:=out.push (<-elem' b ib);ib:=ib+1;bcount:=bcount+1;acount:=0
    if ib == b.size then return done out ia ib
    if bcount ≥ minGallop then break
   else
    out:=out.push (<-elem' a ia);ia:=ia+1;acount:=acount+1;bcount:=0
    if ia+1 == a.size then return lastOfA out ia ib
    if acount ≥ minGallop then break
  rule "list.sort.gallop"
  minGallop:=minGallop+1
  for _ in [0:total] do
   if minGallop > 1 then minGallop:=minGallop - 1
   iW minGallop
   let some k <-gb false (<-elem' b ib) a ia (a.size - ia) 0|return done out ia ib
   acount:=k
   if k > 0 then
    out:=out++a.extract ia (ia+k);ia:=ia+k
    if ia+1 == a.size then return lastOfA out ia ib
    if ia == a.size then return done out ia ib
   out:=out.push (<-elem' b ib);ib:=ib+1
   if ib == b.size then return done out ia ib
   let some k <-gb true (<-elem' a ia) b ib (b.size - ib) 0|return done out ia ib
   bcount:=k
   if k > 0 then
    out:=out++b.extract ib (ib+k);ib:=ib+k
    if ib == b.size then return done out ia ib
   out:=out.push (<-elem' a ia);ia:=ia+1
   if ia+1 == a.size then return lastOfA out ia ib
   if acount<7&&bcount<7 then break
  minGallop:=minGallop+1
  iW minGallop
 unsupported "internal:list.sort.merge-bound"):=rfl
section
variable {prog:Program}{w:World}{A:Around}{E:Value->Shared->Prop}{s:Shared}
def cU (prog:Program) (w:World) (A:Around) (E:Value->Shared->Prop) (s:Shared) (kd:SortKind) (ρ:Keyed->Nat) (P:Keyed->Prop):Prop:=
 ∀(x y:Keyed) (st:SortSt) (Q:Option Bool->SortSt->Prop),P x->P y->kindOf st=kd->Q (some (decide (ρ x<ρ y))) st->wpS AT A E s (lt' x y) Q st
theorem cY {arr:Array Keyed}{i:Nat}{x:Keyed}{st:SortSt}{Q:Keyed->SortSt->Prop}(e:arr.toList[i]?=some x) (h:Q x st):wpS AT A E s (elem' arr i) Q st:=by
 have e:arr[i]?=some x:=by rw [<-ja];exact e
 rw [elem'_eq,e]
 exact wpS_pure h
variable {kd:SortKind}{ρ:Keyed->Nat}{P:Keyed->Prop}
abbrev Up (ρ:Keyed->Nat) (l:List Keyed):Prop:=l.Pairwise λx y=>ρ x<=ρ y
theorem jv {l:List Keyed}(h:Up ρ l) {i j:Nat}{x y:Keyed}(hij:i<=j) (hx:l[i]?=some x) (hy:l[j]?=some y):ρ x<=ρ y:=by
 rcases Nat.lt_or_ge i j with h'|h'
 ·obtain⟨hi,rfl⟩:=yal.mp hx
  obtain⟨hj,rfl⟩:=yal.mp hy
  exact List.pairwise_iff_getElem.mp h i j hi hj h'
 ·have:i=j:=by omega
  subst this
  rw [hx] at hy
  cases hy
  exact au _
theorem nh {l:List Keyed}(h:Up ρ l) {i:Nat}{x y:Keyed}(hx:l[i]?=some x) (hy:y∈l.drop i):ρ x<=ρ y:=by
 obtain⟨j,hj⟩:=yaB.mp hy
 rw [List.getElem?_drop] at hj
 exact jv h (Nat.le_add_right _ _) hx hj
theorem lI {left:Bool}{key:Keyed}{arr:Array Keyed}{base n hint:Nat}{st:SortSt}{Q:Option Nat->SortSt->Prop}(hlt:cU prog w A E s kd ρ P) (hk:kindOf st=kd) (pk:P key) (pa:∀x∈arr.toList,P x)
  (hs:base+n<=arr.size) (up:∀i j x y,base<=i->i<=j->j<base+n->arr.toList[i]?=some x->arr.toList[j]?=some y->ρ x<=ρ y) (hh:hint<n)
  (h:∀k,k<=n->(∀i x,i<k->arr.toList[base+i]?=some x->if left then ρ x<ρ key else ρ x<=ρ key)->(∀i x,k<=i->i<n->arr.toList[base+i]?=some x->if left then ρ key<=ρ x else ρ key<ρ x)->Q (some k) st) :
  wpS AT A E s (gb left key arr base n hint) Q st:=by
 have get:∀i,i<n->∃x,arr.toList[base+i]?=some x:=λi hi=>⟨_,cN (by rw [cJ];omega)⟩
 let b:Nat->Bool:=λi=>match arr.toList[base+i]? with|some x=>if left then decide (ρ x<ρ key) else !decide (ρ key<ρ x)|none=>false
 have hbx:∀i x,arr.toList[base+i]?=some x->b i=if left then decide (ρ x<ρ key) else !decide (ρ key<ρ x):=λi x e=>by show (match arr.toList[base+i]? with|some x=>_|none=>_)=_;rw [e]
 refine qGR (b:=b) hh (λi Q hi hQ=>?_) (λi j hij hj hb=>?_) λk k1 k2 k3=>h k k1 (λi x hi hx=>?_) λi x hi hn hx=>?_
 ·obtain⟨x,hx⟩:=get i hi
  have px:P x:=pa x (cm hx)
  unfold lx
  refine wpS_bind (cY hx ?_)
  rw [hbx i x hx] at hQ
  cases left with
  | true =>
   simp only [if_true] at hQ ⊢
   exact hlt x key st _ px pk hk hQ
  | false =>
   simp only [fS,if_false] at hQ ⊢
   exact wpS_bind (hlt key x st _ pk px hk (wpS_pure hQ))
 ·obtain⟨x,hx⟩:=get i AC
  obtain⟨y,hy⟩:=get j hj
  have:=up (base+i) (base+j) x y AC AC AC hx hy
  rw [hbx j y hy] at hb
  rw [hbx i x hx]
  cases left with
  | true =>
   simp only [if_true,decide_eq_true_eq] at hb ⊢
   omega
  | false =>
   simp only [fS,if_false,rh,decide_eq_false_iff_not] at hb ⊢
   omega
 ·have:=k2 i hi
  rw [hbx i x hx] at this
  cases left with
  | true=>simpa using this
  | false=>simpa using this
 ·have:=k3 i hi hn
  rw [hbx i x hx] at this
  cases left with
  | true=>simpa using this
  | false=>simpa using this
structure Mg (ρ:Keyed->Nat) (la lb out:List Keyed) (ia ib:Nat):Prop where
 perm:(out++(la.drop ia++lb.drop ib)).Perm (la++lb)
 up:Up ρ out
 leA:∀x∈out,∀y∈la.drop ia,ρ x<=ρ y
 leB:∀x∈out,∀y∈lb.drop ib,ρ x<=ρ y
theorem eX {l m:List Keyed}(h1:Up ρ l) (h2:Up ρ m) (h:∀x∈l,∀y∈m,ρ x<=ρ y):Up ρ (l++m):=List.pairwise_append.mpr ⟨h1,h2,h⟩
theorem Mg.appA {la lb out l:List Keyed}{ia ib k:Nat}(h:Mg ρ la lb out ia ib) (ua:Up ρ la) (hl:la.drop ia=l++la.drop (ia+k)) (hb:∀x∈l,∀y∈lb.drop ib,ρ x<=ρ y):Mg ρ la lb (out++l) (ia+k) ib:=by
 have ud:Up ρ (l++la.drop (ia+k)):=by rw [<-hl];exact List.Pairwise.drop ua
 obtain⟨u1,u2,u3⟩:=List.pairwise_append.mp ud
 have sub:∀y∈l,y∈la.drop ia:=λy hy=>by rw [hl];exact iM _ hy
 have sub':∀y∈la.drop (ia+k),y∈la.drop ia:=λy hy=>by rw [hl];exact dg _ hy
 refine⟨?_,eX h.up u1 λx hx y hy=>h.leA x hx y (sub y hy),λx hx y hy=>?_,λx hx y hy=>?_⟩
 ·have:=h.perm
  rw [hl] at this
  simpa only [bE] using this
 ·rcases yaC.mp hx with hx|hx
  ·exact h.leA x hx y (sub' y hy)
  ·exact u3 x hx y hy
 ·rcases yaC.mp hx with hx|hx
  ·exact h.leB x hx y hy
  ·exact hb x hx y hy
theorem Mg.appB {la lb out l:List Keyed}{ia ib k:Nat}(h:Mg ρ la lb out ia ib) (ub:Up ρ lb) (hl:lb.drop ib=l++lb.drop (ib+k)) (ha:∀x∈l,∀y∈la.drop ia,ρ x<=ρ y):Mg ρ la lb (out++l) ia (ib+k):=by
 have ud:Up ρ (l++lb.drop (ib+k)):=by rw [<-hl];exact List.Pairwise.drop ub
 obtain⟨u1,u2,u3⟩:=List.pairwise_append.mp ud
 have sub:∀y∈l,y∈lb.drop ib:=λy hy=>by rw [hl];exact iM _ hy
 have sub':∀y∈lb.drop (ib+k),y∈lb.drop ib:=λy hy=>by rw [hl];exact dg _ hy
 refine⟨?_,eX h.up u1 λx hx y hy=>h.leB x hx y (sub y hy),λx hx y hy=>?_,λx hx y hy=>?_⟩
 ·refine List.Perm.trans ?_ h.perm
  rw [hl,bE]
  refine List.Perm.append_left _ ?_
  rw [<-bE,<-bE]
  exact List.Perm.append_right _ List.perm_append_comm
 ·rcases yaC.mp hx with hx|hx
  ·exact h.leA x hx y hy
  ·exact ha x hx y hy
 ·rcases yaC.mp hx with hx|hx
  ·exact h.leB x hx y (sub' y hy)
  ·exact u3 x hx y hy
def fe (ρ:Keyed->Nat) (la lb r:List Keyed):Prop:=r.Perm (la++lb)/\Up ρ r
theorem Mg.endB {la lb out:List Keyed}{ia ib:Nat}(h:Mg ρ la lb out ia ib) (ua:Up ρ la) (e:lb.drop ib=[]):fe ρ la lb (out++la.drop ia):=by
 have:=h.perm
 rw [e,bR] at this
 exact⟨this,eX h.up (List.Pairwise.drop ua) h.leA⟩
theorem Mg.endA {la lb out:List Keyed}{ia ib:Nat}(h:Mg ρ la lb out ia ib) (ub:Up ρ lb) (e:la.drop ia=[]):fe ρ la lb (out++lb.drop ib):=by
 have:=h.perm
 rw [e,ie] at this
 exact⟨this,eX h.up (List.Pairwise.drop ub) h.leB⟩
theorem Mg.endL {la lb out:List Keyed}{ia ib:Nat}{z:Keyed}(h:Mg ρ la lb out ia ib) (ub:Up ρ lb) (e:la.drop ia=[z]) (hz:∀x∈lb,ρ x<=ρ z):fe ρ la lb (out++lb.drop ib++la.drop ia):=by
 refine⟨?_,?_⟩
 ·refine List.Perm.trans ?_ h.perm
  rw [bE]
  exact List.Perm.append_left _ List.perm_append_comm
 ·refine eX (eX h.up (List.Pairwise.drop ub) h.leB) (by rw [e];exact List.pairwise_singleton _ _) λx hx y hy=>?_
  rcases yaC.mp hx with hx|hx
  ·exact h.leA x hx y hy
  ·rw [e] at hy
   rw [yaz.mp hy]
   exact hz x (kJ hx)
theorem drop_one {l:List Keyed}{i:Nat}{x:Keyed}(h:l[i]?=some x):l.drop i=[x]++l.drop (i+1):=by
 obtain⟨hi,rfl⟩:=yal.mp h
 rw [jH hi]
 rfl
theorem drop_take (l:List Keyed) (i k:Nat):l.drop i=(l.drop i).take k++l.drop (i+k):=by
 rw [<-List.drop_drop,fT]
theorem ka (a:Array Keyed) (i j:Nat):(a.extract i j).toList=(a.toList.drop i).take (j - i):=by simp [List.drop_take,List.extract]
end
end Dw.So
namespace Dw.So
open PySem PyProof.Rows
abbrev C6:=Option (Array Keyed)×Array Keyed×Nat×Nat×Nat×Nat
abbrev C7:=Option (Array Keyed)×Array Keyed×Nat×Nat×Nat×Nat×Nat
abbrev C5:=Option (Array Keyed)×Array Keyed×Nat×Nat×Nat
section
variable (a b:Array Keyed)
noncomputable def rQ (mg:Nat) (c:C6):StateT SortSt Sem (ForInStep C6):=do
 let some bWins <-lt' (<-elem' b c.2.2.2.1) (<-elem' a c.2.2.1)|pure (.done (some (c.2.1++a.extract c.2.2.1 a.size++b.extract c.2.2.2.1 b.size),c.2.1,c.2.2.1,c.2.2.2.1,c.2.2.2.2.1,c.2.2.2.2.2))
 if bWins then
  let x <-elem' b c.2.2.2.1
  if c.2.2.2.1+1 == b.size then pure (.done (some (c.2.1.push x++a.extract c.2.2.1 a.size++b.extract (c.2.2.2.1+1) b.size),c.2.1.push x,c.2.2.1,c.2.2.2.1+1,0,c.2.2.2.2.2+1))
  else if c.2.2.2.2.2+1 ≥ mg then pure (.done (none,c.2.1.push x,c.2.2.1,c.2.2.2.1+1,0,c.2.2.2.2.2+1))
  else pure (.yield (none,c.2.1.push x,c.2.2.1,c.2.2.2.1+1,0,c.2.2.2.2.2+1))
 else
  let x <-elem' a c.2.2.1
  if c.2.2.1+1+1 == a.size then pure (.done (some (c.2.1.push x++b.extract c.2.2.2.1 b.size++a.extract (c.2.2.1+1) a.size),c.2.1.push x,c.2.2.1+1,c.2.2.2.1,c.2.2.2.2.1+1,0))
  else if c.2.2.2.2.1+1 ≥ mg then pure (.done (none,c.2.1.push x,c.2.2.1+1,c.2.2.2.1,c.2.2.2.2.1+1,0))
  else pure (.yield (none,c.2.1.push x,c.2.2.1+1,c.2.2.2.1,c.2.2.2.2.1+1,0))
noncomputable def pL (out:Array Keyed) (ia ib mg ac bc:Nat):StateT SortSt Sem (ForInStep C7):=do
 let x <-elem' a ia
 if ia+1+1 == a.size then pure (.done (some (out.push x++b.extract ib b.size++a.extract (ia+1) a.size),out.push x,ia+1,ib,mg,ac,bc))
 else if ac<7&&bc<7 then pure (.done (none,out.push x,ia+1,ib,mg,ac,bc))
 else pure (.yield (none,out.push x,ia+1,ib,mg,ac,bc))
def oF (out:Array Keyed) (ia ib mg ac bc:Nat):StateT SortSt Sem (ForInStep C7):=do
 let x <-elem' b ib
 if ib+1 == b.size then pure (.done (some (out.push x++a.extract ia a.size++b.extract (ib+1) b.size),out.push x,ia,ib+1,mg,ac,bc))
 else
  let some k <-gb true (<-elem' a ia) b (ib+1) (b.size - (ib+1)) 0|pure (.done (some (out.push x++a.extract ia a.size++b.extract (ib+1) b.size),out.push x,ia,ib+1,mg,ac,bc))
  if k > 0 then
   if ib+1+k == b.size then pure (.done (some (out.push x++b.extract (ib+1) (ib+1+k)++a.extract ia a.size++b.extract (ib+1+k) b.size),out.push x++b.extract (ib+1) (ib+1+k),ia,ib+1+k,mg,ac,k))
   else pL a b (out.push x++b.extract (ib+1) (ib+1+k)) ia (ib+1+k) mg ac k
  else pL a b (out.push x) ia (ib+1) mg ac k
def pF (out:Array Keyed) (ia ib mg ac bc:Nat):StateT SortSt Sem (ForInStep C7):=do
 iW mg
 let some k <-gb false (<-elem' b ib) a ia (a.size - ia) 0|pure (.done (some (out++a.extract ia a.size++b.extract ib b.size),out,ia,ib,mg,ac,bc))
 if k > 0 then
  if ia+k+1 == a.size then pure (.done (some (out++a.extract ia (ia+k)++b.extract ib b.size++a.extract (ia+k) a.size),out++a.extract ia (ia+k),ia+k,ib,mg,k,bc))
  else if ia+k == a.size then pure (.done (some (out++a.extract ia (ia+k)++a.extract (ia+k) a.size++b.extract ib b.size),out++a.extract ia (ia+k),ia+k,ib,mg,k,bc))
  else oF a b (out++a.extract ia (ia+k)) (ia+k) ib mg k bc
 else oF a b out ia ib mg k bc
def rX (c:C7):StateT SortSt Sem (ForInStep C7):=if c.2.2.2.2.1 > 1 then pF a b c.2.1 c.2.2.1 c.2.2.2.1 (c.2.2.2.2.1 - 1) c.2.2.2.2.2.1 c.2.2.2.2.2.2 else pF a b c.2.1 c.2.2.1 c.2.2.2.1 c.2.2.2.2.1 c.2.2.2.2.2.1 c.2.2.2.2.2.2
def oN (c:C5):StateT SortSt Sem (ForInStep C5):=do
 let d <-forIn [0:a.size+b.size] ((none,c.2.1,c.2.2.1,c.2.2.2.1,0,0):C6) λ_ d=>rQ a b c.2.2.2.2 d
 match d.1 with
 | some r=>pure (.done (some r,d.2.1,d.2.2.1,d.2.2.2.1,c.2.2.2.2))
 | none=>do
  rule "list.sort.gallop"
  let e <-forIn [0:a.size+b.size] ((none,d.2.1,d.2.2.1,d.2.2.2.1,c.2.2.2.2+1,d.2.2.2.2.1,d.2.2.2.2.2):C7) λ_ e=>rX a b e
  match e.1 with
  | some r=>pure (.done (some r,e.2.1,e.2.2.1,e.2.2.2.1,e.2.2.2.2.1))
  | none=>do
   iW (e.2.2.2.2.1+1)
   pure (.yield (none,e.2.1,e.2.2.1,e.2.2.2.1,e.2.2.2.2.1+1))
def ve:StateT SortSt Sem (Array Keyed):=do
 rule "list.sort.merge-lo"
 let x <-elem' b 0
 if 1 == b.size then pure (#[x]++a.extract 0 a.size++b.extract 1 b.size)
 else if 0+1 == a.size then pure (#[x]++b.extract 1 b.size++a.extract 0 a.size)
 else do
  let st <-get
  let c <-forIn [0:a.size+b.size] ((none,#[x],0,1,gallopOf st):C5) λ_ c=>oN a b c
  match c.1 with
  | some r=>pure r
  | none=>unsupported "internal:list.sort.merge-bound"
theorem bc {α β:Type}{m:StateT SortSt Sem α}{f g:α->StateT SortSt Sem β}(h:∀x,f x=g x):(m >>= f)=(m >>= g):=congrArg (m >>= ·) (funext h)
theorem qI {α β:Type}{l:Std.Legacy.Range}{c:α}{u v:Nat->α->StateT SortSt Sem (ForInStep α)}{f g:α->StateT SortSt Sem β}(hu:∀x c,u x c=v x c) (h:∀x,f x=g x):(forIn l c u >>= f)=(forIn l c v >>= g):=by
 rw [show u=v from funext λx=>funext λc=>hu x c,show f=g from funext h]
theorem qSC:qw a b=ve a b:=by
 rw [qFE]
 unfold ve
 refine bc λ_=>?_
 refine bc λx=>?_
 by_cases h1:(1 == b.size)=true
 ·exact (Ql h1).trans (Ql h1).symm
 refine (Qm h1).trans (Eq.trans ?_ (Qm h1).symm)
 by_cases h2:(0+1 == a.size)=true
 ·exact (Ql h2).trans (Ql h2).symm
 refine (Qm h2).trans (Eq.trans ?_ (Qm h2).symm)
 refine bc λst=>?_
 refine qI (λ_ c=>?_) λc=>?_
 ·unfold oN
  refine bc λd=>?_
  obtain⟨d1,d2⟩:=d
  cases d1 with
  | some r=>rfl
  | none =>
   refine bc λ_=>?_
   refine bc λe=>?_
   obtain⟨e1,e2⟩:=e
   cases e1<;>rfl
 ·obtain⟨c1,c2⟩:=c
  cases c1<;>rfl
end
end Dw.So
namespace Dw.So
open PySem PyProof.Rows
section
variable {prog:Program}{w:World}{A:Around}{E:Value->Shared->Prop}{s:Shared}{kd:SortKind}{ρ:Keyed->Nat}{P:Keyed->Prop}{a b:Array Keyed}
structure In (ρ:Keyed->Nat) (P:Keyed->Prop) (a b:Array Keyed):Prop where
 ua:Up ρ a.toList
 ub:Up ρ b.toList
 pa:∀x∈a.toList,P x
 pb:∀x∈b.toList,P x
 na:0<a.size
 nb:0<b.size
 last:∀z,a.toList[a.size - 1]?=some z->∀x∈b.toList,ρ x<=ρ z
 first:∀x,b.toList[0]?=some x->∀y∈a.toList,ρ x<=ρ y
def W (ρ:Keyed->Nat) (a b:Array Keyed) (st:SortSt) (o:Option (Array Keyed)) (out:Array Keyed) (ia ib n:Nat) (st':SortSt):Prop:=(∃g,st'=bX st g)/\match o with
 | some r=>fe ρ a.toList b.toList r.toList
 | none=>Mg ρ a.toList b.toList out.toList ia ib/\ia+1<a.size/\ib<b.size/\n<=ia+ib
theorem fG {a:Array Keyed}{i:Nat}(h:i<a.size):∃x,a.toList[i]?=some x:=⟨_,cN (by rw [cJ];exact h)⟩
theorem nE {a:Array Keyed}{i:Nat}(h:a.size<=i):a.toList.drop i=[]:=List.drop_eq_nil_of_le (by rw [cJ];exact h)
theorem lF (a:Array Keyed) (i:Nat):(a.extract i a.size).toList=a.toList.drop i:=by
 rw [ka,cM (by rw [ik,cJ];omega)]
theorem pj (I:In ρ P a b) {out:Array Keyed}{ia ib:Nat}(m:Mg ρ a.toList b.toList out.toList ia ib) (h:b.size<=ib):fe ρ a.toList b.toList (out++a.extract ia a.size++b.extract ib b.size).toList:=by
 rw [Array.toList_append,Array.toList_append,lF,lF,nE h,bR]
 exact m.endB I.ua (nE h)
theorem qSe (I:In ρ P a b) {out:Array Keyed}{ia ib:Nat}(m:Mg ρ a.toList b.toList out.toList ia ib) (h:a.size<=ia):fe ρ a.toList b.toList (out++a.extract ia a.size++b.extract ib b.size).toList:=by
 rw [Array.toList_append,Array.toList_append,lF,lF,nE h,bR]
 exact m.endA I.ub (nE h)
theorem pq (I:In ρ P a b) {out:Array Keyed}{ia ib:Nat}(m:Mg ρ a.toList b.toList out.toList ia ib) (h:ia+1=a.size):fe ρ a.toList b.toList (out++b.extract ib b.size++a.extract ia a.size).toList:=by
 rw [Array.toList_append,Array.toList_append,lF,lF]
 obtain⟨z,hz⟩:=fG (a:=a) (i:=ia) AC
 refine m.endL I.ub (z:=z) ?_ (I.last z (by rw [<-h];exact hz))
 rw [drop_one hz,nE AC,bR]
theorem yc (I:In ρ P a b) {out:Array Keyed}{ia ib:Nat}{x:Keyed}(m:Mg ρ a.toList b.toList out.toList ia ib) (hx:a.toList[ia]?=some x) (h:∀y∈b.toList.drop ib,ρ x<=ρ y):Mg ρ a.toList b.toList (out.push x).toList (ia+1) ib:=by
 rw [Array.toList_push]
 exact m.appA I.ua (drop_one hx) λz hz=>by rw [yaz.mp hz];exact h
theorem tm (I:In ρ P a b) {out:Array Keyed}{ia ib:Nat}{x:Keyed}(m:Mg ρ a.toList b.toList out.toList ia ib) (hx:b.toList[ib]?=some x) (h:∀y∈a.toList.drop ia,ρ x<=ρ y):Mg ρ a.toList b.toList (out.push x).toList ia (ib+1):=by
 rw [Array.toList_push]
 exact m.appB I.ub (drop_one hx) λz hz=>by rw [yaz.mp hz];exact h
theorem Ao {l:List Keyed}{i k:Nat}{x:Keyed}(h:x∈(l.drop i).take k):∃j,j<k/\l[i+j]?=some x:=by
 obtain⟨j,hj⟩:=yaB.mp h
 rw [List.getElem?_take] at hj
 split at hj
 ·rw [List.getElem?_drop] at hj
  exact⟨j,by assumption,hj⟩
 ·cases hj
theorem qTe (I:In ρ P a b) {out:Array Keyed}{ia ib k:Nat}(m:Mg ρ a.toList b.toList out.toList ia ib) (h:∀j x,j<k->a.toList[ia+j]?=some x->∀y∈b.toList.drop ib,ρ x<=ρ y):Mg ρ a.toList b.toList (out++a.extract ia (ia+k)).toList (ia+k) ib:=by
 rw [Array.toList_append,ka,gB]
 exact m.appA I.ua (drop_take _ ia k) λx hx=>by
  obtain⟨j,hj,e⟩:=Ao hx
  exact h j x hj e
theorem qTd (I:In ρ P a b) {out:Array Keyed}{ia ib k:Nat}(m:Mg ρ a.toList b.toList out.toList ia ib) (h:∀j x,j<k->b.toList[ib+j]?=some x->∀y∈a.toList.drop ia,ρ x<=ρ y):Mg ρ a.toList b.toList (out++b.extract ib (ib+k)).toList ia (ib+k):=by
 rw [Array.toList_append,ka,gB]
 exact m.appB I.ub (drop_take _ ib k) λx hx=>by
  obtain⟨j,hj,e⟩:=Ao hx
  exact h j x hj e
abbrev R6 (ρ:Keyed->Nat) (a b:Array Keyed) (st:SortSt) (n:Nat):ForInStep C6->SortSt->Prop:=λr st'=>match r with
 | .done c=>W ρ a b st c.1 c.2.1 c.2.2.1 c.2.2.2.1 n st'
 | .yield c=>c.1=none/\W ρ a b st c.1 c.2.1 c.2.2.1 c.2.2.2.1 n st'
theorem qKG (hlt:cU prog w A E s kd ρ P) (I:In ρ P a b) {st st':SortSt}(hk:kindOf st=kd) (hg:∃g,st'=bX st g) {out:Array Keyed}{ia ib ac bc mg n:Nat}(m:Mg ρ a.toList b.toList out.toList ia ib) (ha:ia+1<a.size) (hb:ib<b.size) (hn:n<=ia+ib) :
  wpS AT A E s (rQ a b mg (none,out,ia,ib,ac,bc)) (R6 ρ a b st (n+1)) st':=by
 obtain⟨x,hx⟩:=fG hb
 obtain⟨y,hy⟩:=fG (a:=a) (i:=ia) AC
 have px:=I.pb x (cm hx)
 have py:=I.pa y (cm hy)
 have hk':kindOf st'=kd:=by obtain⟨g,rfl⟩:=hg;exact hk
 unfold rQ
 refine wpS_bind (cY hx (wpS_bind (cY hy (wpS_bind (hlt x y st' _ px py hk' ?_)))))
 dsimp only
 by_cases h:ρ x<ρ y
 ·rw [Qk h,Ql rfl]
  have m':=tm I m hx λz hz=>aT (fg h) (nh I.ua hy hz)
  refine wpS_bind (cY hx ?_)
  by_cases e:ib+1=b.size
  ·rw [Ql CV]
   exact wpS_pure ⟨hg,pj I m' AC⟩
  ·rw [Qm CV]
   split
   ·exact wpS_pure ⟨hg,m',ha,(by dsimp only;omega),(by dsimp only;omega)⟩
   ·exact wpS_pure ⟨rfl,hg,m',ha,(by dsimp only;omega),(by dsimp only;omega)⟩
 ·rw [Qj h,Qm C2]
  have m':=yc I m hy λz hz=>aT AC (nh I.ub hx hz)
  refine wpS_bind (cY hy ?_)
  by_cases e:ia+1+1=a.size
  ·rw [Ql CV]
   exact wpS_pure ⟨hg,pq I m' e⟩
  ·rw [Qm CV]
   split
   ·exact wpS_pure ⟨hg,m',(by dsimp only;omega),hb,(by dsimp only;omega)⟩
   ·exact wpS_pure ⟨rfl,hg,m',(by dsimp only;omega),hb,(by dsimp only;omega)⟩
abbrev R7 (ρ:Keyed->Nat) (a b:Array Keyed) (st:SortSt) (n:Nat):ForInStep C7->SortSt->Prop:=λr st'=>match r with
 | .done c=>W ρ a b st c.1 c.2.1 c.2.2.1 c.2.2.2.1 n st'
 | .yield c=>c.1=none/\W ρ a b st c.1 c.2.1 c.2.2.1 c.2.2.2.1 n st'
theorem AI (I:In ρ P a b) {st st':SortSt}(hg:∃g,st'=bX st g) {out:Array Keyed}{ia ib ac bc mg n:Nat}{x:Keyed}(m:Mg ρ a.toList b.toList out.toList ia ib) (ha:ia+1<a.size) (hb:ib<b.size) (hn:n<=ia+ib) (hx:a.toList[ia]?=some x) (h:∀y∈b.toList.drop ib,ρ x<=ρ y) :
  wpS AT A E s (pL a b out ia ib mg ac bc) (R7 ρ a b st n) st':=by
 unfold pL
 have m':=yc I m hx h
 refine wpS_bind (cY hx ?_)
 by_cases e:ia+1+1=a.size
 ·rw [Ql CV]
  exact wpS_pure ⟨hg,pq I m' e⟩
 ·rw [Qm CV]
  split
  ·exact wpS_pure ⟨hg,m',(by dsimp only;omega),hb,(by dsimp only;omega)⟩
  ·exact wpS_pure ⟨rfl,hg,m',(by dsimp only;omega),hb,(by dsimp only;omega)⟩
theorem zK (hlt:cU prog w A E s kd ρ P) (I:In ρ P a b) {st st':SortSt}(hk:kindOf st=kd) (hg:∃g,st'=bX st g) {out:Array Keyed}{ia ib ac bc mg n:Nat}{x:Keyed}(m:Mg ρ a.toList b.toList out.toList ia ib) (ha:ia+1<a.size) (hb:ib<b.size) (hn:n<=ia+ib) (hx:b.toList[ib]?=some x) (h:∀y∈a.toList.drop ia,ρ x<=ρ y) :
  wpS AT A E s (oF a b out ia ib mg ac bc) (R7 ρ a b st n) st':=by
 unfold oF
 have m':=tm I m hx h
 obtain⟨y,hy⟩:=fG (a:=a) (i:=ia) AC
 have py:=I.pa y (cm hy)
 have hk':kindOf st'=kd:=by obtain⟨g,rfl⟩:=hg;exact hk
 refine wpS_bind (cY hx ?_)
 by_cases e:ib+1=b.size
 ·rw [Ql CV]
  exact wpS_pure ⟨hg,pj I m' AC⟩
 ·rw [Qm CV]
  refine wpS_bind (cY hy (wpS_bind (lI (left:=true) hlt hk' py I.pb AC (λi j u v _ hij _ hu hv=>jv I.ub hij hu hv) AC λk k1 k2 k3=>?_)))
  simp only [if_true] at k2 k3
  dsimp only
  have rest:∀z∈b.toList.drop (ib+1+k),ρ y<=ρ z:=λz hz=>by
   obtain⟨j,hj⟩:=yaB.mp hz
   rw [List.getElem?_drop] at hj
   have:ib+1+k+j<b.size:=by obtain⟨q,_⟩:=yal.mp hj;rw [cJ] at q;exact q
   exact k3 (k+j) z AC AC (by rw [show ib+1+(k+j)=ib+1+k+j by omega];exact hj)
  by_cases hk0:k > 0
  ·rw [Ql hk0]
   have m2:=qTd (k:=k) I m' λj u hj hu z hz=>aT (fg (k2 j u hj hu)) (nh I.ua hy hz)
   by_cases e2:ib+1+k=b.size
   ·rw [Ql (by simpa using e2)]
    exact wpS_pure ⟨hg,pj I m2 AC⟩
   ·rw [Qm (by simpa using e2)]
    exact AI I hg m2 ha AC AC hy rest
  ·rw [Qm hk0]
   obtain rfl:k=0:=by omega
   exact AI I hg m' ha AC AC hy rest
theorem Av (hlt:cU prog w A E s kd ρ P) (I:In ρ P a b) {st st':SortSt}(hk:kindOf st=kd) (hg:∃g,st'=bX st g) {out:Array Keyed}{ia ib ac bc mg n:Nat}(m:Mg ρ a.toList b.toList out.toList ia ib) (ha:ia+1<a.size) (hb:ib<b.size) (hn:n<=ia+ib) :
  wpS AT A E s (pF a b out ia ib mg ac bc) (R7 ρ a b st n) st':=by
 unfold pF
 obtain⟨x,hx⟩:=fG hb
 have px:=I.pb x (cm hx)
 rw [qE]
 refine wpS_bind (wpS_modify ?_)
 have hg:∃g,bX st' mg=bX st g:=by obtain⟨g,rfl⟩:=hg;exact⟨mg,rfl⟩
 generalize bX st' mg=st2 at hg
 have hk':kindOf st2=kd:=by obtain⟨g,rfl⟩:=hg;exact hk
 refine wpS_bind (cY hx (wpS_bind (lI (left:=false) hlt hk' px I.pa AC (λi j u v _ hij _ hu hv=>jv I.ua hij hu hv) AC λk k1 k2 k3=>?_)))
 simp only [fS,if_false] at k2 k3
 dsimp only
 have rest:∀z∈a.toList.drop (ia+k),ρ x<=ρ z:=λz hz=>by
  obtain⟨j,hj⟩:=yaB.mp hz
  rw [List.getElem?_drop] at hj
  have:ia+k+j<a.size:=by obtain⟨q,_⟩:=yal.mp hj;rw [cJ] at q;exact q
  exact fg (k3 (k+j) z AC AC (by rw [show ia+(k+j)=ia+k+j by omega];exact hj))
 by_cases hk0:k > 0
 ·rw [Ql hk0]
  have m2:=qTe (k:=k) I m λj u hj hu z hz=>aT (k2 j u hj hu) (nh I.ub hx hz)
  by_cases e1:ia+k+1=a.size
  ·rw [Ql (by simpa using e1)]
   exact wpS_pure ⟨hg,pq I m2 e1⟩
  ·rw [Qm (by simpa using e1)]
   by_cases e2:ia+k=a.size
   ·rw [Ql (by simpa using e2)]
    exact wpS_pure ⟨hg,qSe I m2 AC⟩
   ·rw [Qm (by simpa using e2)]
    exact zK hlt I hk hg m2 AC hb AC hx rest
 ·rw [Qm hk0]
  obtain rfl:k=0:=by omega
  exact zK hlt I hk hg m ha hb hn hx rest
theorem qK9 (hlt:cU prog w A E s kd ρ P) (I:In ρ P a b) {st st':SortSt}(hk:kindOf st=kd) (hg:∃g,st'=bX st g) {out:Array Keyed}{ia ib ac bc mg n:Nat}(m:Mg ρ a.toList b.toList out.toList ia ib) (ha:ia+1<a.size) (hb:ib<b.size) (hn:n<=ia+ib) :
  wpS AT A E s (rX a b (none,out,ia,ib,mg,ac,bc)) (R7 ρ a b st n) st':=by
 unfold rX
 split
 ·exact Av hlt I hk hg m ha hb hn
 ·exact Av hlt I hk hg m ha hb hn
theorem qKA (hlt:cU prog w A E s kd ρ P) (I:In ρ P a b) {st st':SortSt}(hk:kindOf st=kd) (hg:∃g,st'=bX st g) {out:Array Keyed}{ia ib mg n:Nat}(m:Mg ρ a.toList b.toList out.toList ia ib) (ha:ia+1<a.size) (hb:ib<b.size) (hn:n<=ia+ib) :
  wpS AT A E s (oN a b (none,out,ia,ib,mg)) (λr st'=>match r with|.done c=>W ρ a b st c.1 c.2.1 c.2.2.1 c.2.2.2.1 (n+1) st'/\c.1≠none|.yield c=>c.1=none/\W ρ a b st c.1 c.2.1 c.2.2.1 c.2.2.2.1 (n+1) st') st':=by
 unfold oN
 refine wpS_bind (wpS_mono (wpS_forRange (I:=λ(x:Nat) (c:C6) (st':SortSt)=>c.1=none/\W ρ a b st c.1 c.2.1 c.2.2.1 c.2.2.2.1 (n+x) st') (Q:=λ(c:C6) (st':SortSt)=>W ρ a b st c.1 c.2.1 c.2.2.1 c.2.2.2.1 (n+1) st') ?step ?fin ⟨rfl,hg,m,ha,hb,hn⟩) ?post)
 case fin =>
  rintro c st' ⟨h1,h2,h3⟩
  refine⟨h2,?_⟩
  rw [h1] at h3 ⊢
  obtain⟨g1,g2,g3,g4⟩:=h3
  exact⟨g1,g2,g3,by omega⟩
 case step =>
  rintro x ⟨o,out,ia,ib,ac,bc⟩ st' _ hx ⟨h1,h2,h3⟩
  obtain rfl:o=none:=h1
  obtain⟨g1,g2,g3,g4⟩:=h3
  refine wpS_mono (qKG hlt I hk h2 g1 g2 g3 g4) λr st2 hr=>?_
  cases r with
  | done c =>
   obtain⟨q1,q2⟩:=hr
   refine⟨q1,?_⟩
   cases e:c.1 with
   | some r=>rw [e] at q2;exact q2
   | none=>rw [e] at q2;exact⟨q2.1,q2.2.1,q2.2.2.1,by have:=q2.2.2.2;omega⟩
  | yield c=>exact hr
 case post =>
  rintro⟨o,out,ia,ib,ac,bc⟩ st' ⟨h2,h3⟩
  dsimp only
  cases o with
  | some r=>exact wpS_pure ⟨⟨h2,h3⟩,by simp⟩
  | none =>
   obtain⟨g1,g2,g3,g4⟩:=h3
   refine wpS_bind (wpS_lift (wpAny_rule ⟨rfl,?_⟩))
   refine wpS_bind (wpS_mono (wpS_forRange (I:=λ(x:Nat) (c:C7) (st':SortSt)=>c.1=none/\W ρ a b st c.1 c.2.1 c.2.2.1 c.2.2.2.1 (n+1) st') (Q:=λ(c:C7) (st':SortSt)=>W ρ a b st c.1 c.2.1 c.2.2.1 c.2.2.2.1 (n+1) st') ?_ (λc st' h=>h.2) ⟨rfl,h2,g1,g2,g3,g4⟩) ?_)
   ·rintro x ⟨o,out,ia,ib,mg,ac,bc⟩ st' _ hx ⟨h1,h2,h3⟩
    obtain rfl:o=none:=h1
    obtain⟨g1,g2,g3,g4⟩:=h3
    refine wpS_mono (qK9 hlt I hk h2 g1 g2 g3 g4) λr st2 hr=>?_
    cases r with
    | done c=>exact hr
    | yield c=>exact hr
   ·rintro⟨o,out,ia,ib,mg,ac,bc⟩ st' ⟨h2,h3⟩
    dsimp only
    cases o with
    | some r=>exact wpS_pure ⟨⟨h2,h3⟩,by simp⟩
    | none =>
     rw [qE]
     refine wpS_bind (wpS_modify (wpS_pure ⟨rfl,?_,h3⟩))
     obtain⟨g,rfl⟩:=h2
     exact⟨_,rfl⟩
theorem qO1 (hlt:cU prog w A E s kd ρ P) (I:In ρ P a b) {st:SortSt}(hk:kindOf st=kd) {Q:Array Keyed->SortSt->Prop}(h:∀r g,fe ρ a.toList b.toList r.toList->Q r (bX st g)):wpS AT A E s (qw a b) Q st:=by
 have fin:∀{r st'},(∃g,st'=bX st g)->fe ρ a.toList b.toList r.toList->Q r st':=λ⟨g,e⟩ hr=>by rw [e];exact h _ g hr
 have hg:∃g,st=bX st g:=⟨gallopOf st,rfl⟩
 rw [qSC]
 unfold ve
 refine wpS_bind (wpS_lift (wpAny_rule ⟨rfl,?_⟩))
 obtain⟨x,hx⟩:=fG I.nb
 refine wpS_bind (cY hx ?_)
 have m0:Mg ρ a.toList b.toList (#[]:Array Keyed).toList 0 0:=⟨by simp,by simp,λx hx=>by simp at hx,λx hx=>by simp at hx⟩
 have m:Mg ρ a.toList b.toList (#[x]:Array Keyed).toList 0 1:=tm I m0 hx (I.first x hx)
 by_cases e1:1=b.size
 ·rw [Ql (by simpa using e1)]
  exact wpS_pure (fin hg (pj I m AC))
 ·rw [Qm (by simpa using e1)]
  by_cases e2:0+1=a.size
  ·rw [Ql (by simpa using e2)]
   exact wpS_pure (fin hg (pq I m e2))
  ·rw [Qm (by simpa using e2)]
   refine wpS_bind (wpS_get ?_)
   have:=I.na
   have:=I.nb
   refine wpS_bind (wpS_mono (wpS_forRange (I:=λ(x:Nat) (c:C5) (st':SortSt)=>c.1=none/\W ρ a b st c.1 c.2.1 c.2.2.1 c.2.2.2.1 (x+1) st') (Q:=λ(c:C5) (st':SortSt)=>W ρ a b st c.1 c.2.1 c.2.2.1 c.2.2.2.1 0 st'/\c.1≠none) ?_ ?_ ⟨rfl,hg,m,(by dsimp only;omega),(by dsimp only;omega),(by dsimp only;omega)⟩) ?_)
   ·rintro x ⟨o,out,ia,ib,mg⟩ st' _ hx ⟨h1,h2,h3⟩
    obtain rfl:o=none:=h1
    obtain⟨g1,g2,g3,g4⟩:=h3
    refine wpS_mono (qKA hlt I hk h2 g1 g2 g3 g4) λr st2 hr=>?_
    cases r with
    | done c =>
     obtain⟨⟨q1,q2⟩,q3⟩:=hr
     refine⟨⟨q1,?_⟩,q3⟩
     cases e:c.1 with
     | some r=>rw [e] at q2;exact q2
     | none=>exact Qn e q3
    | yield c=>exact hr
   ·rintro⟨o,out,ia,ib,mg⟩ st' ⟨h1,h2,h3⟩
    obtain rfl:o=none:=h1
    obtain⟨g1,g2,g3,g4⟩:=h3
    omega
   ·rintro⟨o,out,ia,ib,mg⟩ st' ⟨⟨h2,h3⟩,h4⟩
    cases o with
    | none=>exact Qn rfl h4
    | some r=>exact wpS_pure (fin h2 h3)
end
end Dw.So
namespace Dw.So
open PySem PyProof.Rows
noncomputable def qv:Array Keyed->Array Keyed->StateT SortSt Sem (Array Keyed):=sortPriv% PySem.Builtin.mergeHi
theorem qFF (a b:Array Keyed):qv a b=(do
 rule "list.sort.merge-hi"
 let total:=a.size+b.size
 let done (out:Array Keyed) (na nb:Nat):=a.extract 0 na++b.extract 0 nb++out.reverse
 let firstOfB (out:Array Keyed) (na nb:Nat):=b.extract 0 nb++a.extract 0 na++out.reverse
 let mut na:=a.size - 1
 let mut nb:=b.size
 let mut out:Array Keyed:=#[<-elem' a na]
 if na == 0 then return done out na nb
 if nb == 1 then return firstOfB out na nb
 let mut minGallop:=gallopOf (<-get)
 for _ in [0:total] do
  let mut acount:=0
  let mut bcount:=0
  for _ in [0:total] do
   let some aWins <-lt' (<-elem' b (nb - 1)) (<-elem' a (na - 1))|return done out na nb
   if aWins then
    na:=na - 1;out:=out.push (<-elem' a na);acount:=acount+1;bcount:=0
    if na == 0 then return done out na nb
    if acount ≥ minGallop then break
   else
    nb:=nb - 1;out:=out.push (<-elem' b nb);bcount:=bcount+1;acount:=0
    if nb == 1 then return firstOfB out na nb
    if bcount ≥ minGallop then break
  rule "list.sort.gallop"
  minGallop:=minGallop+1
  for _ in [0:total] do
   if minGallop > 1 then minGallop:=minGallop - 1
   iW minGallop
   let some at_ <-gb false (<-elem' b (nb - 1)) a 0 na (na - 1)|return done out na nb
   let k:=na - at_
   acount:=k
   if k > 0 then
    out:=out++(a.extract at_ na).reverse;na:=at_
    if na == 0 then return done out na nb
   nb:=nb - 1;out:=out.push (<-elem' b nb)
   if nb == 1 then return firstOfB out na nb
   let some at_ <-gb true (<-elem' a (na - 1)) b 0 nb (nb - 1)|return done out na nb
   let k:=nb - at_
   bcount:=k
   if k > 0 then
    out:=out++(b.extract at_ nb).reverse;nb:=at_
    if nb == 1 then return firstOfB out na nb
    if nb == 0 then return done out na nb
   na:=na - 1;out:=out.push (<-elem' a na)
   if na == 0 then return done out na nb
   if acount<7&&bcount<7 then break
  minGallop:=minGallop+1
  iW minGallop
 unsupported "internal:list.sort.merge-bound"):=rfl
abbrev H6:=Option (Array Keyed)×Nat×Nat×Array Keyed×Nat×Nat
abbrev H7:=Option (Array Keyed)×Nat×Nat×Array Keyed×Nat×Nat×Nat
abbrev H5:=Option (Array Keyed)×Nat×Nat×Array Keyed×Nat
section
variable (a b:Array Keyed)
noncomputable abbrev gP (out:Array Keyed) (na nb:Nat):Array Keyed:=a.extract 0 na++b.extract 0 nb++out.reverse
noncomputable abbrev kq (out:Array Keyed) (na nb:Nat):Array Keyed:=b.extract 0 nb++a.extract 0 na++out.reverse
def rP (mg:Nat) (c:H6):StateT SortSt Sem (ForInStep H6):=do
 let some aWins <-lt' (<-elem' b (c.2.2.1 - 1)) (<-elem' a (c.2.1 - 1))|pure (.done (some (gP a b c.2.2.2.1 c.2.1 c.2.2.1),c.2.1,c.2.2.1,c.2.2.2.1,c.2.2.2.2.1,c.2.2.2.2.2))
 if aWins then
  let x <-elem' a (c.2.1 - 1)
  if c.2.1 - 1 == 0 then pure (.done (some (gP a b (c.2.2.2.1.push x) (c.2.1 - 1) c.2.2.1),c.2.1 - 1,c.2.2.1,c.2.2.2.1.push x,c.2.2.2.2.1+1,0))
  else if c.2.2.2.2.1+1 ≥ mg then pure (.done (none,c.2.1 - 1,c.2.2.1,c.2.2.2.1.push x,c.2.2.2.2.1+1,0))
  else pure (.yield (none,c.2.1 - 1,c.2.2.1,c.2.2.2.1.push x,c.2.2.2.2.1+1,0))
 else
  let x <-elem' b (c.2.2.1 - 1)
  if c.2.2.1 - 1 == 1 then pure (.done (some (kq a b (c.2.2.2.1.push x) c.2.1 (c.2.2.1 - 1)),c.2.1,c.2.2.1 - 1,c.2.2.2.1.push x,0,c.2.2.2.2.2+1))
  else if c.2.2.2.2.2+1 ≥ mg then pure (.done (none,c.2.1,c.2.2.1 - 1,c.2.2.2.1.push x,0,c.2.2.2.2.2+1))
  else pure (.yield (none,c.2.1,c.2.2.1 - 1,c.2.2.2.1.push x,0,c.2.2.2.2.2+1))
def pM (out:Array Keyed) (na nb mg ac bc:Nat):StateT SortSt Sem (ForInStep H7):=do
 let x <-elem' a (na - 1)
 if na - 1 == 0 then pure (.done (some (gP a b (out.push x) (na - 1) nb),na - 1,nb,out.push x,mg,ac,bc))
 else if ac<7&&bc<7 then pure (.done (none,na - 1,nb,out.push x,mg,ac,bc))
 else pure (.yield (none,na - 1,nb,out.push x,mg,ac,bc))
def oG (out:Array Keyed) (na nb mg ac bc:Nat):StateT SortSt Sem (ForInStep H7):=do
 let x <-elem' b (nb - 1)
 if nb - 1 == 1 then pure (.done (some (kq a b (out.push x) na (nb - 1)),na,nb - 1,out.push x,mg,ac,bc))
 else
  let some k <-gb true (<-elem' a (na - 1)) b 0 (nb - 1) (nb - 1 - 1)|pure (.done (some (gP a b (out.push x) na (nb - 1)),na,nb - 1,out.push x,mg,ac,bc))
  if nb - 1 - k > 0 then
   if k == 1 then pure (.done (some (kq a b (out.push x++(b.extract k (nb - 1)).reverse) na k),na,k,out.push x++(b.extract k (nb - 1)).reverse,mg,ac,nb - 1 - k))
   else if k == 0 then pure (.done (some (gP a b (out.push x++(b.extract k (nb - 1)).reverse) na k),na,k,out.push x++(b.extract k (nb - 1)).reverse,mg,ac,nb - 1 - k))
   else pM a b (out.push x++(b.extract k (nb - 1)).reverse) na k mg ac (nb - 1 - k)
  else pM a b (out.push x) na (nb - 1) mg ac (nb - 1 - k)
def pG (out:Array Keyed) (na nb mg ac bc:Nat):StateT SortSt Sem (ForInStep H7):=do
 iW mg
 let some k <-gb false (<-elem' b (nb - 1)) a 0 na (na - 1)|pure (.done (some (gP a b out na nb),na,nb,out,mg,ac,bc))
 if na - k > 0 then
  if k == 0 then pure (.done (some (gP a b (out++(a.extract k na).reverse) k nb),k,nb,out++(a.extract k na).reverse,mg,na - k,bc))
  else oG a b (out++(a.extract k na).reverse) k nb mg (na - k) bc
 else oG a b out na nb mg (na - k) bc
def rW (c:H7):StateT SortSt Sem (ForInStep H7):=if c.2.2.2.2.1 > 1 then pG a b c.2.2.2.1 c.2.1 c.2.2.1 (c.2.2.2.2.1 - 1) c.2.2.2.2.2.1 c.2.2.2.2.2.2 else pG a b c.2.2.2.1 c.2.1 c.2.2.1 c.2.2.2.2.1 c.2.2.2.2.2.1 c.2.2.2.2.2.2
def oM (c:H5):StateT SortSt Sem (ForInStep H5):=do
 let d <-forIn [0:a.size+b.size] ((none,c.2.1,c.2.2.1,c.2.2.2.1,0,0):H6) λ_ d=>rP a b c.2.2.2.2 d
 match d.1 with
 | some r=>pure (.done (some r,d.2.1,d.2.2.1,d.2.2.2.1,c.2.2.2.2))
 | none=>do
  rule "list.sort.gallop"
  let e <-forIn [0:a.size+b.size] ((none,d.2.1,d.2.2.1,d.2.2.2.1,c.2.2.2.2+1,d.2.2.2.2.1,d.2.2.2.2.2):H7) λ_ e=>rW a b e
  match e.1 with
  | some r=>pure (.done (some r,e.2.1,e.2.2.1,e.2.2.2.1,e.2.2.2.2.1))
  | none=>do
   iW (e.2.2.2.2.1+1)
   pure (.yield (none,e.2.1,e.2.2.1,e.2.2.2.1,e.2.2.2.2.1+1))
def vi:StateT SortSt Sem (Array Keyed):=do
 rule "list.sort.merge-hi"
 let x <-elem' a (a.size - 1)
 if a.size - 1 == 0 then pure (gP a b #[x] (a.size - 1) b.size)
 else if b.size == 1 then pure (kq a b #[x] (a.size - 1) b.size)
 else do
  let st <-get
  let c <-forIn [0:a.size+b.size] ((none,a.size - 1,b.size,#[x],gallopOf st):H5) λ_ c=>oM a b c
  match c.1 with
  | some r=>pure r
  | none=>unsupported "internal:list.sort.merge-bound"
theorem qSJ:qv a b=vi a b:=by
 rw [qFF]
 unfold vi
 refine bc λ_=>?_
 refine bc λx=>?_
 by_cases h1:(a.size - 1 == 0)=true
 ·exact (Ql h1).trans (Ql h1).symm
 refine (Qm h1).trans (Eq.trans ?_ (Qm h1).symm)
 by_cases h2:(b.size == 1)=true
 ·exact (Ql h2).trans (Ql h2).symm
 refine (Qm h2).trans (Eq.trans ?_ (Qm h2).symm)
 refine bc λst=>?_
 refine qI (λ_ c=>?_) λc=>?_
 ·unfold oM
  refine bc λd=>?_
  obtain⟨d1,d2⟩:=d
  cases d1 with
  | some r=>rfl
  | none =>
   refine bc λ_=>?_
   refine bc λe=>?_
   obtain⟨e1,e2⟩:=e
   cases e1<;>rfl
 ·obtain⟨c1,c2⟩:=c
  cases c1<;>rfl
end
section
variable {prog:Program}{w:World}{A:Around}{E:Value->Shared->Prop}{s:Shared}{kd:SortKind}{ρ:Keyed->Nat}{P:Keyed->Prop}{a b:Array Keyed}
structure Mh (ρ:Keyed->Nat) (la lb out:List Keyed) (na nb:Nat):Prop where
 perm:(la.take na++(lb.take nb++out.reverse)).Perm (la++lb)
 up:Up ρ out.reverse
 geA:∀x∈out,∀y∈la.take na,ρ y<=ρ x
 geB:∀x∈out,∀y∈lb.take nb,ρ y<=ρ x
theorem lH {l:List Keyed}(h:Up ρ l) (n:Nat):Up ρ (l.take n):=List.Pairwise.take h
theorem Mh.appA {la lb out l:List Keyed}{na nb k:Nat}(h:Mh ρ la lb out na nb) (ua:Up ρ la) (hl:la.take na=la.take k++l) (hb:∀x∈l,∀y∈lb.take nb,ρ y<=ρ x):Mh ρ la lb (out++l.reverse) k nb:=by
 have ud:Up ρ (la.take k++l):=by rw [<-hl];exact lH ua na
 obtain⟨u1,u2,u3⟩:=List.pairwise_append.mp ud
 have sub:∀y∈l,y∈la.take na:=λy hy=>by rw [hl];exact dg _ hy
 have sub':∀y∈la.take k,y∈la.take na:=λy hy=>by rw [hl];exact iM _ hy
 refine⟨?_,?_,λx hx y hy=>?_,λx hx y hy=>?_⟩
 ·refine List.Perm.trans ?_ h.perm
  rw [hl,my,List.reverse_reverse,bE]
  refine List.Perm.append_left _ ?_
  rw [<-bE,<-bE]
  exact List.Perm.append_right _ List.perm_append_comm
 ·rw [my,List.reverse_reverse]
  exact eX u2 h.up λx hx y hy=>h.geA y (List.mem_reverse.mp hy) x (sub x hx)
 ·rcases yaC.mp hx with hx|hx
  ·exact h.geA x hx y (sub' y hy)
  ·exact u3 y hy x (List.mem_reverse.mp hx)
 ·rcases yaC.mp hx with hx|hx
  ·exact h.geB x hx y hy
  ·exact hb x (List.mem_reverse.mp hx) y hy
theorem Mh.appB {la lb out l:List Keyed}{na nb k:Nat}(h:Mh ρ la lb out na nb) (ub:Up ρ lb) (hl:lb.take nb=lb.take k++l) (ha:∀x∈l,∀y∈la.take na,ρ y<=ρ x):Mh ρ la lb (out++l.reverse) na k:=by
 have ud:Up ρ (lb.take k++l):=by rw [<-hl];exact lH ub nb
 obtain⟨u1,u2,u3⟩:=List.pairwise_append.mp ud
 have sub:∀y∈l,y∈lb.take nb:=λy hy=>by rw [hl];exact dg _ hy
 have sub':∀y∈lb.take k,y∈lb.take nb:=λy hy=>by rw [hl];exact iM _ hy
 refine⟨?_,?_,λx hx y hy=>?_,λx hx y hy=>?_⟩
 ·have:=h.perm
  rw [hl] at this
  rw [my,List.reverse_reverse]
  simpa only [bE] using this
 ·rw [my,List.reverse_reverse]
  exact eX u2 h.up λx hx y hy=>h.geB y (List.mem_reverse.mp hy) x (sub x hx)
 ·rcases yaC.mp hx with hx|hx
  ·exact h.geA x hx y hy
  ·exact ha x (List.mem_reverse.mp hx) y hy
 ·rcases yaC.mp hx with hx|hx
  ·exact h.geB x hx y (sub' y hy)
  ·exact u3 y hy x (List.mem_reverse.mp hx)
theorem oW (a:Array Keyed) (n:Nat):(a.extract 0 n).toList=a.toList.take n:=by rw [ka,kN,Nat.sub_zero]
theorem yr (a b out:Array Keyed) (na nb:Nat):(gP a b out na nb).toList=a.toList.take na++(b.toList.take nb++out.toList.reverse):=by
 unfold gP
 rw [Array.toList_append,Array.toList_append,oW,oW,Array.toList_reverse,bE]
theorem qOt (a b out:Array Keyed) (na nb:Nat):(kq a b out na nb).toList=b.toList.take nb++(a.toList.take na++out.toList.reverse):=by
 unfold kq
 rw [Array.toList_append,Array.toList_append,oW,oW,Array.toList_reverse,bE]
theorem pH (I:In ρ P a b) {out:Array Keyed}{nb:Nat}(m:Mh ρ a.toList b.toList out.toList 0 nb):fe ρ a.toList b.toList (gP a b out 0 nb).toList:=by
 have p:=m.perm
 rw [yr]
 refine⟨p,?_⟩
 rw [i7,ie]
 exact eX (lH I.ub nb) m.up λx hx y hy=>m.geB y (List.mem_reverse.mp hy) x hx
theorem qSK (I:In ρ P a b) {out:Array Keyed}{na:Nat}(m:Mh ρ a.toList b.toList out.toList na 0):fe ρ a.toList b.toList (gP a b out na 0).toList:=by
 have p:=m.perm
 rw [yr]
 refine⟨p,?_⟩
 rw [i7,ie]
 exact eX (lH I.ua na) m.up λx hx y hy=>m.geA y (List.mem_reverse.mp hy) x hx
theorem pI (I:In ρ P a b) {out:Array Keyed}{na:Nat}(m:Mh ρ a.toList b.toList out.toList na 1):fe ρ a.toList b.toList (kq a b out na 1).toList:=by
 have p:=m.perm
 rw [qOt]
 obtain⟨x,hx⟩:=fG I.nb
 have e:b.toList.take 1=[x]:=by
  rw [List.take_one,List.head?_eq_getElem?,hx]
  rfl
 refine⟨?_,?_⟩
 ·refine List.Perm.trans ?_ p
  rw [<-bE,<-bE]
  exact List.Perm.append_right _ List.perm_append_comm
 ·refine eX (by rw [e];exact List.pairwise_singleton _ _) (eX (lH I.ua na) m.up λx hx y hy=>m.geA y (List.mem_reverse.mp hy) x hx) λu hu y hy=>?_
  rcases yaC.mp hy with hy|hy
  ·rw [e] at hu
   rw [yaz.mp hu]
   exact I.first x hx y (kH hy)
  ·exact m.geB y (List.mem_reverse.mp hy) u hu
theorem AK {l:List Keyed}{n:Nat}{x:Keyed}(hn:0<n) (h:l[n - 1]?=some x):l.take n=l.take (n - 1)++[x]:=by
 obtain⟨k,rfl⟩:∃k,n=k+1:=⟨n - 1,by omega⟩
 rw [Nat.add_sub_cancel] at h ⊢
 rw [rg,h]
 rfl
theorem AJ {l:List Keyed}{k n:Nat}(h:k<=n):l.take n=l.take k++(l.take n).drop k:=by
 have:=(fT k (l.take n)).symm
 rwa [List.take_take,Nat.min_eq_left h] at this
theorem mU {l:List Keyed}(h:Up ρ l) {n:Nat}{x y:Keyed}(hx:l[n - 1]?=some x) (hy:y∈l.take n):ρ y<=ρ x:=by
 obtain⟨j,hj⟩:=yaB.mp hy
 rw [List.getElem?_take] at hj
 split at hj
 ·exact jv h AC hj hx
 ·cases hj
theorem sS (I:In ρ P a b) {out:Array Keyed}{na nb:Nat}{x:Keyed}(m:Mh ρ a.toList b.toList out.toList na nb) (hn:0<na) (hx:a.toList[na - 1]?=some x) (h:∀y∈b.toList.take nb,ρ y<=ρ x):Mh ρ a.toList b.toList (out.push x).toList (na - 1) nb:=by
 rw [Array.toList_push]
 exact m.appA (l:=[x]) I.ua (AK hn hx) λz hz=>by rw [yaz.mp hz];exact h
theorem xC (I:In ρ P a b) {out:Array Keyed}{na nb:Nat}{x:Keyed}(m:Mh ρ a.toList b.toList out.toList na nb) (hn:0<nb) (hx:b.toList[nb - 1]?=some x) (h:∀y∈a.toList.take na,ρ y<=ρ x):Mh ρ a.toList b.toList (out.push x).toList na (nb - 1):=by
 rw [Array.toList_push]
 exact m.appB (l:=[x]) I.ub (AK hn hx) λz hz=>by rw [yaz.mp hz];exact h
theorem yT (a:Array Keyed) (k n:Nat):(a.extract k n).reverse.toList=((a.toList.take n).drop k).reverse:=by
 rw [Array.toList_reverse,ka,List.drop_take]
theorem zM {l:List Keyed}{k n:Nat}{x:Keyed}(h:x∈(l.take n).drop k):∃j,k<=j/\j<n/\l[j]?=some x:=by
 obtain⟨j,hj⟩:=yaB.mp h
 rw [List.getElem?_drop,List.getElem?_take] at hj
 split at hj
 ·exact⟨k+j,by omega,by assumption,hj⟩
 ·cases hj
theorem qQY (I:In ρ P a b) {out:Array Keyed}{na nb k:Nat}(m:Mh ρ a.toList b.toList out.toList na nb) (hk:k<=na) (h:∀j x,k<=j->j<na->a.toList[j]?=some x->∀y∈b.toList.take nb,ρ y<=ρ x):Mh ρ a.toList b.toList (out++(a.extract k na).reverse).toList k nb:=by
 rw [Array.toList_append,yT]
 exact m.appA I.ua (AJ hk) λx hx=>by
  obtain⟨j,h1,h2,e⟩:=zM hx
  exact h j x h1 h2 e
theorem qQX (I:In ρ P a b) {out:Array Keyed}{na nb k:Nat}(m:Mh ρ a.toList b.toList out.toList na nb) (hk:k<=nb) (h:∀j x,k<=j->j<nb->b.toList[j]?=some x->∀y∈a.toList.take na,ρ y<=ρ x):Mh ρ a.toList b.toList (out++(b.extract k nb).reverse).toList na k:=by
 rw [Array.toList_append,yT]
 exact m.appB I.ub (AJ hk) λx hx=>by
  obtain⟨j,h1,h2,e⟩:=zM hx
  exact h j x h1 h2 e
def V (ρ:Keyed->Nat) (a b:Array Keyed) (st:SortSt) (o:Option (Array Keyed)) (na nb:Nat) (out:Array Keyed) (n:Nat) (st':SortSt):Prop:=(∃g,st'=bX st g)/\match o with
 | some r=>fe ρ a.toList b.toList r.toList
 | none=>Mh ρ a.toList b.toList out.toList na nb/\0<na/\1<nb/\na+nb+n<=a.size+b.size/\na<=a.size/\nb<=b.size
abbrev S6 (ρ:Keyed->Nat) (a b:Array Keyed) (st:SortSt) (n:Nat):ForInStep H6->SortSt->Prop:=λr st'=>match r with
 | .done c=>V ρ a b st c.1 c.2.1 c.2.2.1 c.2.2.2.1 n st'
 | .yield c=>c.1=none/\V ρ a b st c.1 c.2.1 c.2.2.1 c.2.2.2.1 n st'
abbrev S7 (ρ:Keyed->Nat) (a b:Array Keyed) (st:SortSt) (n:Nat):ForInStep H7->SortSt->Prop:=λr st'=>match r with
 | .done c=>V ρ a b st c.1 c.2.1 c.2.2.1 c.2.2.2.1 n st'
 | .yield c=>c.1=none/\V ρ a b st c.1 c.2.1 c.2.2.1 c.2.2.2.1 n st'
theorem qIg (hlt:cU prog w A E s kd ρ P) (I:In ρ P a b) {st st':SortSt}(hk:kindOf st=kd) (hg:∃g,st'=bX st g) {out:Array Keyed}{na nb ac bc mg n:Nat}(m:Mh ρ a.toList b.toList out.toList na nb) (ha:0<na) (hb:1<nb) (hn:na+nb+n<=a.size+b.size) (sa:na<=a.size) (sb:nb<=b.size) :
  wpS AT A E s (rP a b mg (none,na,nb,out,ac,bc)) (S6 ρ a b st (n+1)) st':=by
 obtain⟨x,hx⟩:=fG (a:=b) (i:=nb - 1) AC
 obtain⟨y,hy⟩:=fG (a:=a) (i:=na - 1) AC
 have px:=I.pb x (cm hx)
 have py:=I.pa y (cm hy)
 have hk':kindOf st'=kd:=by obtain⟨g,rfl⟩:=hg;exact hk
 unfold rP
 refine wpS_bind (cY hx (wpS_bind (cY hy (wpS_bind (hlt x y st' _ px py hk' ?_)))))
 dsimp only
 by_cases h:ρ x<ρ y
 ·rw [Qk h,Ql rfl]
  have m':=sS I m ha hy λz hz=>aT (mU I.ub hx hz) (fg h)
  refine wpS_bind (cY hy ?_)
  by_cases e:na - 1=0
  ·rw [Ql CV]
   rw [e] at m' ⊢
   exact wpS_pure ⟨hg,pH I m'⟩
  ·rw [Qm CV]
   split
   ·exact wpS_pure ⟨hg,m',(by dsimp only;omega),hb,(by dsimp only;omega),(by dsimp only;omega),sb⟩
   ·exact wpS_pure ⟨rfl,hg,m',(by dsimp only;omega),hb,(by dsimp only;omega),(by dsimp only;omega),sb⟩
 ·rw [Qj h,Qm C2]
  have m':=xC I m AC hx λz hz=>aT (mU I.ua hy hz) AC
  refine wpS_bind (cY hx ?_)
  by_cases e:nb - 1=1
  ·rw [Ql CV]
   rw [e] at m' ⊢
   exact wpS_pure ⟨hg,pI I m'⟩
  ·rw [Qm CV]
   split
   ·exact wpS_pure ⟨hg,m',ha,(by dsimp only;omega),(by dsimp only;omega),sa,(by dsimp only;omega)⟩
   ·exact wpS_pure ⟨rfl,hg,m',ha,(by dsimp only;omega),(by dsimp only;omega),sa,(by dsimp only;omega)⟩
theorem A3 (I:In ρ P a b) {st st':SortSt}(hg:∃g,st'=bX st g) {out:Array Keyed}{na nb ac bc mg n:Nat}{x:Keyed}(m:Mh ρ a.toList b.toList out.toList na nb) (ha:0<na) (hb:1<nb) (hn:na+nb+n<=a.size+b.size) (sa:na<=a.size) (sb:nb<=b.size) (hx:a.toList[na - 1]?=some x) (h:∀y∈b.toList.take nb,ρ y<=ρ x) :
  wpS AT A E s (pM a b out na nb mg ac bc) (S7 ρ a b st n) st':=by
 unfold pM
 have m':=sS I m ha hx h
 refine wpS_bind (cY hx ?_)
 by_cases e:na - 1=0
 ·rw [Ql CV]
  rw [e] at m' ⊢
  exact wpS_pure ⟨hg,pH I m'⟩
 ·rw [Qm CV]
  split
  ·exact wpS_pure ⟨hg,m',(by dsimp only;omega),hb,(by dsimp only;omega),(by dsimp only;omega),sb⟩
  ·exact wpS_pure ⟨rfl,hg,m',(by dsimp only;omega),hb,(by dsimp only;omega),(by dsimp only;omega),sb⟩
theorem Ax (hlt:cU prog w A E s kd ρ P) (I:In ρ P a b) {st st':SortSt}(hk:kindOf st=kd) (hg:∃g,st'=bX st g) {out:Array Keyed}{na nb ac bc mg n:Nat}{x:Keyed}(m:Mh ρ a.toList b.toList out.toList na nb) (ha:0<na) (hb:1<nb) (hn:na+nb+n<=a.size+b.size) (sa:na<=a.size) (sb:nb<=b.size) (hx:b.toList[nb - 1]?=some x) (h:∀y∈a.toList.take na,ρ y<=ρ x) :
  wpS AT A E s (oG a b out na nb mg ac bc) (S7 ρ a b st n) st':=by
 unfold oG
 have m':=xC I m AC hx h
 obtain⟨y,hy⟩:=fG (a:=a) (i:=na - 1) AC
 have py:=I.pa y (cm hy)
 have hk':kindOf st'=kd:=by obtain⟨g,rfl⟩:=hg;exact hk
 refine wpS_bind (cY hx ?_)
 by_cases e:nb - 1=1
 ·rw [Ql CV]
  rw [e] at m' ⊢
  exact wpS_pure ⟨hg,pI I m'⟩
 ·rw [Qm CV]
  refine wpS_bind (cY hy (wpS_bind (lI (left:=true) hlt hk' py I.pb AC (λi j u v _ hij _ hu hv=>jv I.ub hij hu hv) AC λk k1 k2 k3=>?_)))
  simp only [if_true,bI] at k2 k3
  dsimp only
  have rest:∀z∈b.toList.take k,ρ z<=ρ y:=λz hz=>by
   obtain⟨j,hj⟩:=yaB.mp hz
   rw [List.getElem?_take] at hj
   split at hj
   ·exact fg (k2 j z (by assumption) hj)
   ·cases hj
  by_cases hk0:nb - 1 - k > 0
  ·rw [Ql hk0]
   have m2:=qQX (k:=k) I m' k1 λj u h1 h2 hu z hz=>aT (mU I.ua hy hz) (k3 j u h1 h2 hu)
   by_cases e1:k=1
   ·rw [Ql (by simpa using e1)]
    subst e1
    exact wpS_pure ⟨hg,pI I m2⟩
   ·rw [Qm (by simpa using e1)]
    by_cases e2:k=0
    ·rw [Ql (by simpa using e2)]
     subst e2
     exact wpS_pure ⟨hg,qSK I m2⟩
    ·rw [Qm (by simpa using e2)]
     exact A3 I hg m2 ha AC AC sa AC hy rest
  ·rw [Qm hk0]
   obtain rfl:k=nb - 1:=by omega
   exact A3 I hg m' ha AC AC sa AC hy rest
theorem A1 (hlt:cU prog w A E s kd ρ P) (I:In ρ P a b) {st st':SortSt}(hk:kindOf st=kd) (hg:∃g,st'=bX st g) {out:Array Keyed}{na nb ac bc mg n:Nat}(m:Mh ρ a.toList b.toList out.toList na nb) (ha:0<na) (hb:1<nb) (hn:na+nb+n<=a.size+b.size) (sa:na<=a.size) (sb:nb<=b.size) :
  wpS AT A E s (pG a b out na nb mg ac bc) (S7 ρ a b st n) st':=by
 unfold pG
 obtain⟨x,hx⟩:=fG (a:=b) (i:=nb - 1) AC
 have px:=I.pb x (cm hx)
 rw [qE]
 refine wpS_bind (wpS_modify ?_)
 have hg:∃g,bX st' mg=bX st g:=by obtain⟨g,rfl⟩:=hg;exact⟨mg,rfl⟩
 generalize bX st' mg=st2 at hg
 have hk':kindOf st2=kd:=by obtain⟨g,rfl⟩:=hg;exact hk
 refine wpS_bind (cY hx (wpS_bind (lI (left:=false) hlt hk' px I.pa AC (λi j u v _ hij _ hu hv=>jv I.ua hij hu hv) AC λk k1 k2 k3=>?_)))
 simp only [fS,if_false,bI] at k2 k3
 dsimp only
 have rest:∀z∈a.toList.take k,ρ z<=ρ x:=λz hz=>by
  obtain⟨j,hj⟩:=yaB.mp hz
  rw [List.getElem?_take] at hj
  split at hj
  ·exact k2 j z (by assumption) hj
  ·cases hj
 by_cases hk0:na - k > 0
 ·rw [Ql hk0]
  have m2:=qQY (k:=k) I m k1 λj u h1 h2 hu z hz=>aT (mU I.ub hx hz) (fg (k3 j u h1 h2 hu))
  by_cases e2:k=0
  ·rw [Ql (by simpa using e2)]
   subst e2
   exact wpS_pure ⟨hg,pH I m2⟩
  ·rw [Qm (by simpa using e2)]
   exact Ax hlt I hk hg m2 AC hb AC AC sb hx rest
 ·rw [Qm hk0]
  obtain rfl:k=na:=by omega
  exact Ax hlt I hk hg m ha hb hn sa sb hx rest
theorem qIM (hlt:cU prog w A E s kd ρ P) (I:In ρ P a b) {st st':SortSt}(hk:kindOf st=kd) (hg:∃g,st'=bX st g) {out:Array Keyed}{na nb ac bc mg n:Nat}(m:Mh ρ a.toList b.toList out.toList na nb) (ha:0<na) (hb:1<nb) (hn:na+nb+n<=a.size+b.size) (sa:na<=a.size) (sb:nb<=b.size) :
  wpS AT A E s (rW a b (none,na,nb,out,mg,ac,bc)) (S7 ρ a b st n) st':=by
 unfold rW
 split
 ·exact A1 hlt I hk hg m ha hb hn sa sb
 ·exact A1 hlt I hk hg m ha hb hn sa sb
theorem qIf (hlt:cU prog w A E s kd ρ P) (I:In ρ P a b) {st st':SortSt}(hk:kindOf st=kd) (hg:∃g,st'=bX st g) {out:Array Keyed}{na nb mg n:Nat}(m:Mh ρ a.toList b.toList out.toList na nb) (ha:0<na) (hb:1<nb) (hn:na+nb+n<=a.size+b.size) (sa:na<=a.size) (sb:nb<=b.size) :
  wpS AT A E s (oM a b (none,na,nb,out,mg)) (λr st'=>match r with|.done c=>V ρ a b st c.1 c.2.1 c.2.2.1 c.2.2.2.1 (n+1) st'/\c.1≠none|.yield c=>c.1=none/\V ρ a b st c.1 c.2.1 c.2.2.1 c.2.2.2.1 (n+1) st') st':=by
 unfold oM
 refine wpS_bind (wpS_mono (wpS_forRange (I:=λ(x:Nat) (c:H6) (st':SortSt)=>c.1=none/\V ρ a b st c.1 c.2.1 c.2.2.1 c.2.2.2.1 (n+x) st') (Q:=λ(c:H6) (st':SortSt)=>V ρ a b st c.1 c.2.1 c.2.2.1 c.2.2.2.1 (n+1) st') ?step ?fin ⟨rfl,hg,m,ha,hb,hn,sa,sb⟩) ?post)
 case fin =>
  rintro c st' ⟨h1,h2,h3⟩
  refine⟨h2,?_⟩
  rw [h1] at h3 ⊢
  obtain⟨g1,g2,g3,g4,g5,g6⟩:=h3
  exact⟨g1,g2,g3,by omega,g5,g6⟩
 case step =>
  rintro x ⟨o,na,nb,out,ac,bc⟩ st' _ hx ⟨h1,h2,h3⟩
  obtain rfl:o=none:=h1
  obtain⟨g1,g2,g3,g4,g5,g6⟩:=h3
  refine wpS_mono (qIg hlt I hk h2 g1 g2 g3 g4 g5 g6) λr st2 hr=>?_
  cases r with
  | done c =>
   obtain⟨q1,q2⟩:=hr
   refine⟨q1,?_⟩
   cases e:c.1 with
   | some r=>rw [e] at q2;exact q2
   | none =>
    rw [e] at q2
    obtain⟨u1,u2,u3,u4,u5,u6⟩:=q2
    exact⟨u1,u2,u3,by omega,u5,u6⟩
  | yield c=>exact hr
 case post =>
  rintro⟨o,na,nb,out,ac,bc⟩ st' ⟨h2,h3⟩
  dsimp only
  cases o with
  | some r=>exact wpS_pure ⟨⟨h2,h3⟩,by simp⟩
  | none =>
   obtain⟨g1,g2,g3,g4,g5,g6⟩:=h3
   refine wpS_bind (wpS_lift (wpAny_rule ⟨rfl,?_⟩))
   refine wpS_bind (wpS_mono (wpS_forRange (I:=λ(x:Nat) (c:H7) (st':SortSt)=>c.1=none/\V ρ a b st c.1 c.2.1 c.2.2.1 c.2.2.2.1 (n+1) st') (Q:=λ(c:H7) (st':SortSt)=>V ρ a b st c.1 c.2.1 c.2.2.1 c.2.2.2.1 (n+1) st') ?_ (λc st' h=>h.2) ⟨rfl,h2,g1,g2,g3,g4,g5,g6⟩) ?_)
   ·rintro x ⟨o,na,nb,out,mg,ac,bc⟩ st' _ hx ⟨h1,h2,h3⟩
    obtain rfl:o=none:=h1
    obtain⟨g1,g2,g3,g4,g5,g6⟩:=h3
    refine wpS_mono (qIM hlt I hk h2 g1 g2 g3 g4 g5 g6) λr st2 hr=>?_
    cases r with
    | done c=>exact hr
    | yield c=>exact hr
   ·rintro⟨o,na,nb,out,mg,ac,bc⟩ st' ⟨h2,h3⟩
    dsimp only
    cases o with
    | some r=>exact wpS_pure ⟨⟨h2,h3⟩,by simp⟩
    | none =>
     rw [qE]
     refine wpS_bind (wpS_modify (wpS_pure ⟨rfl,?_,h3⟩))
     obtain⟨g,rfl⟩:=h2
     exact⟨_,rfl⟩
theorem qO2 (hlt:cU prog w A E s kd ρ P) (I:In ρ P a b) {st:SortSt}(hk:kindOf st=kd) {Q:Array Keyed->SortSt->Prop}(h:∀r g,fe ρ a.toList b.toList r.toList->Q r (bX st g)):wpS AT A E s (qv a b) Q st:=by
 have fin:∀{r st'},(∃g,st'=bX st g)->fe ρ a.toList b.toList r.toList->Q r st':=λ⟨g,e⟩ hr=>by rw [e];exact h _ g hr
 have hg:∃g,st=bX st g:=⟨gallopOf st,rfl⟩
 have na:=I.na
 have nb:=I.nb
 rw [qSJ]
 unfold vi
 refine wpS_bind (wpS_lift (wpAny_rule ⟨rfl,?_⟩))
 obtain⟨x,hx⟩:=fG (a:=a) (i:=a.size - 1) AC
 refine wpS_bind (cY hx ?_)
 have m0:Mh ρ a.toList b.toList (#[]:Array Keyed).toList a.size b.size:=⟨by rw [cM (by rw [cJ];exact au _),cM (by rw [cJ];exact au _)];simp,by simp,λx hx=>by simp at hx,λx hx=>by simp at hx⟩
 have m:Mh ρ a.toList b.toList (#[x]:Array Keyed).toList (a.size - 1) b.size:=sS I m0 na hx λy hy=>I.last x hx y (kH hy)
 by_cases e1:a.size - 1=0
 ·rw [Ql (by simpa using e1)]
  rw [e1] at m ⊢
  exact wpS_pure (fin hg (pH I m))
 ·rw [Qm (by simpa using e1)]
  by_cases e2:b.size=1
  ·rw [Ql (by simpa using e2)]
   rw [e2] at m ⊢
   exact wpS_pure (fin hg (pI I m))
  ·rw [Qm (by simpa using e2)]
   refine wpS_bind (wpS_get ?_)
   refine wpS_bind (wpS_mono (wpS_forRange (I:=λ(x:Nat) (c:H5) (st':SortSt)=>c.1=none/\V ρ a b st c.1 c.2.1 c.2.2.1 c.2.2.2.1 x st') (Q:=λ(c:H5) (st':SortSt)=>V ρ a b st c.1 c.2.1 c.2.2.1 c.2.2.2.1 0 st'/\c.1≠none) ?_ ?_ ⟨rfl,hg,m,(by dsimp only;omega),(by dsimp only;omega),(by dsimp only;omega),(by dsimp only;omega),(by dsimp only;omega)⟩) ?_)
   ·rintro x ⟨o,na,nb,out,mg⟩ st' _ hx ⟨h1,h2,h3⟩
    obtain rfl:o=none:=h1
    obtain⟨g1,g2,g3,g4,g5,g6⟩:=h3
    refine wpS_mono (qIf hlt I hk h2 g1 g2 g3 g4 g5 g6) λr st2 hr=>?_
    cases r with
    | done c =>
     obtain⟨⟨q1,q2⟩,q3⟩:=hr
     refine⟨⟨q1,?_⟩,q3⟩
     cases e:c.1 with
     | some r=>rw [e] at q2;exact q2
     | none=>exact Qn e q3
    | yield c=>exact hr
   ·rintro⟨o,na,nb,out,mg⟩ st' ⟨h1,h2,h3⟩
    obtain rfl:o=none:=h1
    obtain⟨g1,g2,g3,g4,g5,g6⟩:=h3
    omega
   ·rintro⟨o,na,nb,out,mg⟩ st' ⟨⟨h2,h3⟩,h4⟩
    cases o with
    | none=>exact Qn rfl h4
    | some r=>exact wpS_pure (fin h2 h3)
end
end Dw.So
namespace Dw.So
open PySem PyProof.Rows
theorem qFG (i:Nat):mergeAt' i=(do
 let s <-get
 let (some (sa,na,power),some (sb,nb,_)):=((pendingOf s)[i]?,(pendingOf s)[i+1]?)|unsupported "internal:list.sort.pending"
 set (setPending s (((pendingOf s).setIfInBounds i (sa,na+nb,power)).eraseIdxIfInBounds (i+1)))
 let some k <-gb false (<-elem' (arrOf s) sb) (arrOf s) sa na 0|return false
 let (sa,na):=(sa+k,na - k)
 if na == 0 then return true
 let some nb <-gb true (<-elem' (arrOf s) (sa+na - 1)) (arrOf s) sb nb (nb - 1)|return false
 if nb == 0 then return true
 let x:=(arrOf s).extract sa sb
 let y:=(arrOf s).extract sb (sb+nb)
 let merged <-if na<=nb then qw x y else qv x y
 modify λs=>setArr s (merged.toList.zipIdx.foldl (λa (p,j)=>a.setIfInBounds (sa+j) p) (arrOf s))
 return (failedOf (<-get)).isNone):=rfl
theorem zz:∀(m:List Keyed) (a:Array Keyed) (sa d:Nat),sa+d+m.length<=a.size->((m.zipIdx d).foldl (λ(a:Array Keyed) (q:Keyed×Nat)=>a.setIfInBounds (sa+q.2) q.1) a).toList=a.toList.take (sa+d)++(m++a.toList.drop (sa+d+m.length))
 | [],a,sa,d,h=>by simp
 | x::m,a,sa,d,h=>by
  rw [de] at h
  have ih:=zz m (a.setIfInBounds (sa+d) x) sa (d+1) (by rw [Array.size_setIfInBounds];omega)
  show ((m.zipIdx (d+1)).foldl _ (a.setIfInBounds (sa+d) x)).toList=_
  rw [ih,Array.toList_setIfInBounds]
  have hl:sa+d<a.toList.length:=by rw [cJ];omega
  rw [List.drop_set_of_lt AC,de,show sa+(d+1)=sa+d+1 by omega,List.take_set,rg,cN hl]
  rw [show sa+d+1+m.length=sa+d+(m.length+1) by omega]
  have:(List.take (sa+d) a.toList++(some a.toList[sa+d]).toList).set (sa+d) x=List.take (sa+d) a.toList++[x]:=by
   rw [List.set_append_right _ _ (by rw [eQ];omega),eQ,Nat.min_eq_left AC,nY]
   rfl
  rw [this]
  simp
section
variable {prog:Program}{w:World}{A:Around}{E:Value->Shared->Prop}{s:Shared}{kd:SortKind}{ρ:Keyed->Nat}{P:Keyed->Prop}
theorem yY {p u t:List Keyed}(j:Nat) (h:j<u.length):(p++(u++t))[p.length+j]?=u[j]?:=by
 rw [gU AC,gB,jG h]
theorem qMJ {st st':SortSt}{Q:PUnit->SortSt->Prop}(h:Q ⟨⟩ st'):wpS AT A E s (set st':StateT SortSt Sem PUnit) Q st:=by
 unfold wpS
 rw [StateT.run_set]
 exact Qd ⟨rfl,h⟩
theorem qFn (hlt:cU prog w A E s kd ρ P) {st:SortSt}{i na nb pw pw2:Nat}{p u v q:List Keyed}{Q:Bool->SortSt->Prop}(hk:kindOf st=kd) (hf:failedOf st=none) (hp:(pendingOf st)[i]?=some (p.length,u.length,pw)) (hp2:(pendingOf st)[i+1]?=some (p.length+u.length,v.length,pw2))
  (hL:(arrOf st).toList=p++(u++(v++q))) (hP:∀x∈(arrOf st).toList,P x) (hu:0<u.length) (hv:0<v.length) (uu:Up ρ u) (uv:Up ρ v)
  (h:∀r xs g,xs.toList=p++(r++q)->r.Perm (u++v)->Up ρ r->Q true (SortSt.mk' (kindOf st) xs (((pendingOf st).setIfInBounds i (p.length,u.length+v.length,pw)).eraseIdxIfInBounds (i+1)) g none)) :
  wpS AT A E s (mergeAt' i) Q st:=by
 rw [qFG]
 refine wpS_bind (wpS_get ?_)
 rw [hp,hp2]
 dsimp only
 refine wpS_bind (qMJ ?_)
 have gu:∀j,j<u.length->(arrOf st).toList[p.length+j]?=u[j]?:=λj hj=>by rw [hL];exact yY j hj
 have gv:∀j,j<v.length->(arrOf st).toList[p.length+u.length+j]?=v[j]?:=λj hj=>by
  rw [hL,<-bE,<-aU]
  exact yY j hj
 have hsz:(arrOf st).size=p.length+(u.length+(v.length+q.length)):=by rw [<-cJ,hL];simp
 obtain⟨v0,ev0⟩:∃x,v[0]?=some x:=⟨_,cN hv⟩
 have ev0':(arrOf st).toList[p.length+u.length]?=some v0:=by have:=gv 0 hv;rw [Nat.add_zero] at this;rw [this,ev0]
 generalize hst:setPending st (((pendingOf st).setIfInBounds i (p.length,u.length+v.length,pw)).eraseIdxIfInBounds (i+1))=st1
 have hk1:kindOf st1=kd:=by rw [<-hst];exact hk
 have whole:Up ρ (u++v)->Q true st1:=λz=>by
  have:=h (u++v) (arrOf st) (gallopOf st) (by rw [hL,bE]) (List.Perm.refl _) z
  rw [<-hf] at this
  rw [<-hst]
  exact this
 refine wpS_bind (cY ev0' (wpS_bind (lI (left:=false) hlt hk1 (hP _ (cm ev0')) hP AC (λi j x y h1 h2 h3 hx hy=>?_) hu λk k1 k2 k3=>?_)))
 ·have e1:=gu (i - p.length) AC
  have e2:=gu (j - p.length) AC
  rw [show p.length+(i - p.length)=i by omega,hx] at e1
  rw [show p.length+(j - p.length)=j by omega,hy] at e2
  exact jv uu AC e1.symm e2.symm
 simp only [fS,if_false] at k2 k3
 have k2:∀x∈u.take k,ρ x<=ρ v0:=λx hx=>by
  obtain⟨j,hj⟩:=yaB.mp hx
  rw [List.getElem?_take] at hj
  split at hj
  ·exact k2 j x (by assumption) (by rw [gu j AC,hj])
  ·cases hj
 have k3:∀x∈u.drop k,ρ v0<ρ x:=λx hx=>by
  obtain⟨j,hj⟩:=yaB.mp hx
  rw [List.getElem?_drop] at hj
  have:k+j<u.length:=(yal.mp hj).1
  exact k3 (k+j) x AC this (by rw [gu _ this,hj])
 have v0le:∀y∈v,ρ v0<=ρ y:=λy hy=>nh uv ev0 (by rw [kN];exact hy)
 dsimp only
 by_cases e:u.length - k=0
 ·rw [Ql CV]
  refine wpS_pure (whole (eX uu uv λx hx y hy=>aT (k2 x ?_) (v0le y hy)))
  rw [cM AC]
  exact hx
 rw [Qm CV]
 obtain⟨z,ez⟩:∃x,u[u.length - 1]?=some x:=⟨_,cN AC⟩
 have ez':(arrOf st).toList[p.length+k+(u.length - k) - 1]?=some z:=by rw [show p.length+k+(u.length - k) - 1=p.length+(u.length - 1) by omega,gu _ AC,ez]
 have zge:∀y∈u,ρ y<=ρ z:=λy hy=>mU uu (n:=u.length) ez (by rw [List.take_length];exact hy)
 refine wpS_bind (cY ez' (wpS_bind (lI (left:=true) hlt hk1 (hP _ (cm ez')) hP AC (λi j x y h1 h2 h3 hx hy=>?_) AC λn n1 n2 n3=>?_)))
 ·have e1:=gv (i - (p.length+u.length)) AC
  have e2:=gv (j - (p.length+u.length)) AC
  rw [show p.length+u.length+(i - (p.length+u.length))=i by omega,hx] at e1
  rw [show p.length+u.length+(j - (p.length+u.length))=j by omega,hy] at e2
  exact jv uv AC e1.symm e2.symm
 simp only [if_true] at n2 n3
 have n2:∀x∈v.take n,ρ x<ρ z:=λx hx=>by
  obtain⟨j,hj⟩:=yaB.mp hx
  rw [List.getElem?_take] at hj
  split at hj
  ·exact n2 j x (by assumption) (by rw [gv j AC,hj])
  ·cases hj
 have n3:∀x∈v.drop n,ρ z<=ρ x:=λx hx=>by
  obtain⟨j,hj⟩:=yaB.mp hx
  rw [List.getElem?_drop] at hj
  have:n+j<v.length:=(yal.mp hj).1
  exact n3 (n+j) x AC this (by rw [gv _ this,hj])
 dsimp only
 by_cases e2:n=0
 ·rw [Ql (by simpa using e2)]
  subst e2
  exact wpS_pure (whole (eX uu uv λx hx y hy=>aT (zge x hx) (n3 y (by rw [kN];exact hy))))
 rw [Qm (by simpa using e2)]
 have d1:∀m,(arrOf st).toList.drop (p.length+m)=(u++(v++q)).drop m:=λm=>by rw [hL,List.drop_append,List.drop_eq_nil_of_le AC,gB,ie]
 have d2:∀m,(arrOf st).toList.drop (p.length+u.length+m)=(v++q).drop m:=λm=>by rw [show p.length+u.length+m=p.length+(u.length+m) by omega,d1,List.drop_append,List.drop_eq_nil_of_le AC,gB,ie]
 have hx:((arrOf st).extract (p.length+k) (p.length+u.length)).toList=u.drop k:=by
  rw [ka,d1,List.drop_append,show k - u.length=0 by omega,kN,List.take_append_of_le_length (by rw [ik];omega),cM (by rw [ik];omega)]
 have hy:((arrOf st).extract (p.length+u.length) (p.length+u.length+n)).toList=v.take n:=by
  have:=d2 0
  rw [Nat.add_zero,kN] at this
  rw [ka,this,gB,List.take_append_of_le_length n1]
 have pu:∀x∈u.drop k,P x:=λx hx'=>hP x (by rw [hL];exact dg _ (iM _ (kJ hx')))
 have pv:∀x∈v.take n,P x:=λx hx'=>hP x (by rw [hL];exact dg _ (dg _ (iM _ (kH hx'))))
 have sx:((arrOf st).extract (p.length+k) (p.length+u.length)).size=u.length - k:=by rw [<-cJ,hx,ik]
 have sy:((arrOf st).extract (p.length+u.length) (p.length+u.length+n)).size=n:=by rw [<-cJ,hy,eQ];omega
 have I:In ρ P ((arrOf st).extract (p.length+k) (p.length+u.length)) ((arrOf st).extract (p.length+u.length) (p.length+u.length+n)):=by
  refine⟨?_,?_,?_,?_,by omega,by omega,?_,?_⟩
  ·rw [hx];exact List.Pairwise.drop uu
  ·rw [hy];exact List.Pairwise.take uv
  ·rw [hx];exact pu
  ·rw [hy];exact pv
  ·rw [sx,hx,hy]
   intro z' hz' y hy'
   rw [List.getElem?_drop,show k+(u.length - k - 1)=u.length - 1 by omega,ez] at hz'
   cases hz'
   exact fg (n2 y hy')
  ·rw [hy,hx]
   intro x' hx' y hy'
   rw [List.getElem?_take,Ql AC,ev0] at hx'
   cases hx'
   exact fg (k3 y hy')
 have fin:∀(m:Array Keyed) (g:Nat),fe ρ ((arrOf st).extract (p.length+k) (p.length+u.length)).toList ((arrOf st).extract (p.length+u.length) (p.length+u.length+n)).toList m.toList ->
   wpS AT A E s (do
    modify λs=>setArr s (m.toList.zipIdx.foldl (λa (q,j)=>a.setIfInBounds (p.length+k+j) q) (arrOf s))
    return (failedOf (<-get)).isNone) Q (bX st1 g):=by
  intro m g hm
  rw [hx,hy] at hm
  obtain⟨m1,m2⟩:=hm
  have ml:m.toList.length=u.length - k+n:=by rw [m1.length_eq,aU,ik,eQ];omega
  refine wpS_bind (wpS_modify (wpS_bind (wpS_get (wpS_pure ?_))))
  have pa:=zz m.toList (arrOf st) (p.length+k) 0 AC
  rw [Nat.add_zero,ml,show p.length+k+(u.length - k+n)=p.length+u.length+n by omega,d2,List.drop_append_of_le_length n1] at pa
  have tk:(arrOf st).toList.take (p.length+k)=p++u.take k:=by
   rw [hL,List.take_append,cM AC,gB,List.take_append_of_le_length k1]
  rw [tk] at pa
  have mu:∀x∈m.toList,x∈u.drop k∨x∈v.take n:=λx hx'=>yaC.mp (m1.mem_iff.mp hx')
  have main:=h (u.take k++(m.toList++v.drop n)) _ g (pa.trans (by simp only [bE])) ?_ ?_
  ·subst hst
   rw [show (failedOf _).isNone=true from by show (failedOf st).isNone=true;rw [hf];rfl]
   rw [<-hf] at main
   exact main
  ·have e1:(u++v).Perm (u.take k++((u.drop k++v.take n)++v.drop n)):=by
    rw [<-bE,<-bE,fT,bE,fT]
   exact (List.Perm.append_left _ (List.Perm.append_right _ m1)).trans e1.symm
  ·refine eX (lH uu k) (eX m2 (List.Pairwise.drop uv) λx hx' y hy'=>?_) λx hx' y hy'=>?_
   ·rcases mu x hx' with hx'|hx'
    ·exact aT (zge x (kJ hx')) (n3 y hy')
    ·have up':Up ρ (v.take n++v.drop n):=by rw [fT];exact uv
     exact (List.pairwise_append.mp up').2.2 x hx' y hy'
   ·have xv:=k2 x hx'
    rcases yaC.mp hy' with hy'|hy'
    ·rcases mu y hy' with hy'|hy'
     ·exact aT xv (fg (k3 y hy'))
     ·exact aT xv (v0le y (kH hy'))
    ·exact aT xv (v0le y (kJ hy'))
 by_cases hle:u.length - k<=n
 ·rw [Ql hle]
  exact wpS_bind (qO1 hlt I hk1 λm g hm=>fin m g hm)
 ·rw [Qm hle]
  exact wpS_bind (qO2 hlt I hk1 λm g hm=>fin m g hm)
end
end Dw.So
namespace Dw.So
open PySem PyProof.Rows
def t3 (lo nrem n:Nat):StateT SortSt Sem (Option Nat):=do
 reverseSlice' lo (lo+n)
 let mut n:=n
 for _ in [n:nrem] do
  let some smaller <-ltAt' (lo+n) (lo+n - 1)|return none
  if smaller then break
  n:=n+1
 return some n
def t2 (lo nrem n0:Nat):StateT SortSt Sem (Option Nat):=do
 rule "list.sort.descending-run"
 let mut n:=n0+1
 let mut neq:=0
 for _ in [n:nrem] do
  let some smaller <-ltAt' (lo+n) (lo+n - 1)|return none
  if smaller then
   if neq > 0 then reverseSlice' (lo+n - (neq+1)) (lo+n)
   neq:=0
  else
   let some larger <-ltAt' (lo+n - 1) (lo+n)|return none
   if larger then break
   neq:=neq+1
  n:=n+1
 if neq > 0 then
  reverseSlice' (lo+n - (neq+1)) (lo+n)
  t3 lo nrem n
 else t3 lo nrem n
def t1 (lo nrem:Nat):StateT SortSt Sem (Option Nat):=do
 let mut n:=1
 for _ in [1:nrem] do
  let some smaller <-ltAt' (lo+n) (lo+n - 1)|return none
  if smaller then break
  n:=n+1
 if n == nrem then return some n
 if n > 1 then
  let some rose <-ltAt' lo (lo+n - 1)|return none
  if rose then return some n
  reverseSlice' lo (lo+n)
  t2 lo nrem n
 else t2 lo nrem n
theorem qT8 (lo nrem:Nat):countRun' lo nrem=t1 lo nrem:=by
 rw [countRun'_eq]
 unfold t1
 refine bc λc=>?_
 obtain⟨o,n⟩:=c
 cases o with
 | some r=>rfl
 | none =>
  dsimp only
  by_cases h1:(n == nrem)=true
  ·rw [Ql h1,Ql h1]
  rw [Qm h1,Qm h1]
  by_cases h2:n > 1
  ·rw [Ql h2,Ql h2]
   refine bc λx=>?_
   cases x with
   | none=>rfl
   | some rose =>
    dsimp only
    cases rose with
    | true=>rfl
    | false =>
     simp only [fS,if_false]
     refine bc λ_=>?_
     unfold t2
     refine bc λ_=>?_
     refine bc λd=>?_
     obtain⟨d1,d2,d3⟩:=d
     cases d1 with
     | some r=>rfl
     | none =>
      dsimp only
      by_cases h3:d3 > 0
      ·rw [Ql h3,Ql h3]
       refine bc λ_=>?_
       unfold t3
       refine bc λ_=>?_
       refine bc λe=>?_
       obtain⟨e1,e2⟩:=e
       cases e1<;>rfl
      ·rw [Qm h3,Qm h3]
       unfold t3
       refine bc λ_=>?_
       refine bc λe=>?_
       obtain⟨e1,e2⟩:=e
       cases e1<;>rfl
  ·rw [Qm h2,Qm h2]
   unfold t2
   refine bc λ_=>?_
   refine bc λd=>?_
   obtain⟨d1,d2,d3⟩:=d
   cases d1 with
   | some r=>rfl
   | none =>
    dsimp only
    by_cases h3:d3 > 0
    ·rw [Ql h3,Ql h3]
     refine bc λ_=>?_
     unfold t3
     refine bc λ_=>?_
     refine bc λe=>?_
     obtain⟨e1,e2⟩:=e
     cases e1<;>rfl
    ·rw [Qm h3,Qm h3]
     unfold t3
     refine bc λ_=>?_
     refine bc λe=>?_
     obtain⟨e1,e2⟩:=e
     cases e1<;>rfl
section
variable {prog:Program}{w:World}{A:Around}{E:Value->Shared->Prop}{s:Shared}{kd:SortKind}{ρ:Keyed->Nat}{P:Keyed->Prop}
noncomputable def rk (ρ:Keyed->Nat) (xs:Array Keyed) (i:Nat):Nat:=match xs[i]? with
 | some p=>ρ p
 | none=>0
theorem ny {xs ys:Array Keyed}{i j:Nat}(h:xs[i]?=ys[j]?):rk ρ xs i=rk ρ ys j:=by unfold rk;rw [h]
theorem nI {xs:Array Keyed}{i j:Nat}(hj:j<=xs.size) (k:Nat):rk ρ (mirror xs i j ((j - i) / 2)) k=if i<=k/\k<j then rk ρ xs (i+j - 1 - k) else rk ρ xs k:=by
 have e:=getElem?_mirror_all (i:=i) hj k
 by_cases h1:i<=k/\k<j
 ·rw [Ql h1] at e ⊢;exact ny e
 ·rw [Qm h1] at e ⊢;exact ny e
theorem AA {xs:Array Keyed}{src d:Nat}(hs:src<xs.size) (hd:d<=src) (k:Nat):rk ρ (bubble xs src d) k=if k=src - d then rk ρ xs src else if src - d<k/\k<=src then rk ρ xs (k - 1) else rk ρ xs k:=by
 have e:=getElem?_bubble hs d hd k
 by_cases h1:k=src - d
 ·rw [Ql h1] at e ⊢;exact ny e
 ·rw [Qm h1] at e ⊢
  by_cases h2:src - d<k/\k<=src
  ·rw [Ql h2] at e ⊢;exact ny e
  ·rw [Qm h2] at e ⊢;exact ny e
structure Sg (st:SortSt) (lo:Nat) (xs:Array Keyed):Prop where
 perm:xs.Perm (arrOf st)
 low:∀k,k<lo->xs[k]?=(arrOf st)[k]?
theorem Sg.size {st:SortSt}{lo:Nat}{xs:Array Keyed}(h:Sg st lo xs):xs.size=(arrOf st).size:=h.perm.size_eq
theorem Sg.refl (st:SortSt) (lo:Nat):Sg st lo (arrOf st):=⟨Array.Perm.refl _,λ_ _=>rfl⟩
theorem Sg.mir {st:SortSt}{lo i j:Nat}{xs:Array Keyed}(h:Sg st lo xs) (hi:lo<=i) (hj:j<=xs.size):Sg st lo (mirror xs i j ((j - i) / 2)):=
 ⟨(mirror_perm _ _ _ _).trans h.perm,λk hk=>by rw [getElem?_mirror_all hj,Qm AC];exact h.low k hk⟩
theorem Sg.bub {st:SortSt}{lo src d:Nat}{xs:Array Keyed}(h:Sg st lo xs) (hs:src<xs.size) (hd:lo+d<=src):Sg st lo (bubble xs src d):=
 ⟨(bubble_perm _ _ _).trans h.perm,λk hk=>by rw [getElem?_bubble hs d AC,Qm AC,Qm AC];exact h.low k hk⟩
theorem lJ (hlt:cU prog w A E s kd ρ P) {st:SortSt}{lo i j:Nat}{xs:Array Keyed}{Q:Option Bool->SortSt->Prop}(hk:kindOf st=kd) (hP:∀x∈(arrOf st).toList,P x) (g:Sg st lo xs) (hi:i<xs.size) (hj:j<xs.size)
  (h:Q (some (decide (rk ρ xs i<rk ρ xs j))) (setArr st xs)):wpS AT A E s (ltAt' i j) Q (setArr st xs):=by
 have hm:∀x∈xs.toList,P x:=λx hx=>hP x ((Array.perm_iff_toList_perm.mp g.perm).mem_iff.mp hx)
 obtain⟨x,ex⟩:=fG hi
 obtain⟨y,ey⟩:=fG hj
 have ex':xs[i]?=some x:=by rw [<-ja];exact ex
 have ey':xs[j]?=some y:=by rw [<-ja];exact ey
 unfold rk at h
 rw [ex',ey'] at h
 rw [ltAt'_eq]
 refine wpS_bind (wpS_get ?_)
 show wpS _ _ _ _ (do let x <-elem' xs i;let y <-elem' xs j;lt' x y) Q _
 exact wpS_bind (cY ex (wpS_bind (cY ey (hlt x y _ _ (hm x (cm ex)) (hm y (cm ey)) hk h))))
def Inc (ρ:Keyed->Nat) (xs:Array Keyed) (lo hi:Nat):Prop:=∀i j,lo<=i->i<=j->j<hi->rk ρ xs i<=rk ρ xs j
def Dec (ρ:Keyed->Nat) (xs:Array Keyed) (lo hi:Nat):Prop:=∀i j,lo<=i->i<=j->j<hi->rk ρ xs j<=rk ρ xs i
theorem Inc.next {xs:Array Keyed}{lo n:Nat}(h:Inc ρ xs lo (lo+n)) (hn:0<n) (hl:rk ρ xs (lo+n - 1)<=rk ρ xs (lo+n)):Inc ρ xs lo (lo+(n+1)):=λi j h1 h2 h3=>by
 by_cases e:j=lo+n
 ·subst e
  by_cases e':i=lo+n
  ·rw [e'];exact au _
  ·exact aT (h i (lo+n - 1) h1 AC AC) hl
 ·exact h i j h1 h2 AC
theorem Dec.next {xs:Array Keyed}{lo n:Nat}(h:Dec ρ xs lo (lo+n)) (hn:0<n) (hl:rk ρ xs (lo+n)<=rk ρ xs (lo+n - 1)):Dec ρ xs lo (lo+(n+1)):=λi j h1 h2 h3=>by
 by_cases e:j=lo+n
 ·subst e
  by_cases e':i=lo+n
  ·rw [e'];exact au _
  ·exact aT hl (h i (lo+n - 1) h1 AC AC)
 ·exact h i j h1 h2 AC
theorem qOq {xs:Array Keyed}{lo n:Nat}(hs:lo+n<=xs.size) (h:Dec ρ xs lo (lo+n)):Inc ρ (mirror xs lo (lo+n) ((lo+n - lo) / 2)) lo (lo+n):=λi j h1 h2 h3=>by
 rw [nI hs,nI hs,Ql ⟨h1,by omega⟩,Ql ⟨by omega,h3⟩]
 exact h _ _ AC AC AC
def vk (ρ:Keyed->Nat) (st:SortSt) (lo nrem:Nat) (Q:Option Nat->SortSt->Prop):Prop:=∀n xs,1<=n->n<=nrem->Sg st lo xs->Inc ρ xs lo (lo+n)->Q (some n) (setArr st xs)
theorem ya (hlt:cU prog w A E s kd ρ P) {st:SortSt}{lo nrem n:Nat}{xs:Array Keyed}{Q:Option Nat->SortSt->Prop}(hk:kindOf st=kd) (hP:∀x∈(arrOf st).toList,P x) (hs:lo+nrem=(arrOf st).size) (g:Sg st lo xs) (h1:1<=n) (hn:n<=nrem) (hd:Dec ρ xs lo (lo+n)) (h:vk ρ st lo nrem Q) :
  wpS AT A E s (t3 lo nrem n) Q (setArr st xs):=by
 unfold t3
 rw [reverseSlice'_eq]
 have hsz:=g.size
 refine wpS_bind (wpS_modify ?_)
 have g':=g.mir (i:=lo) (j:=lo+n) (au _) AC
 have hi:=qOq (ρ:=ρ) (xs:=xs) (lo:=lo) (n:=n) AC hd
 show wpS _ _ _ _ _ _ (setArr st (mirror xs lo (lo+n) ((lo+n - lo) / 2)))
 generalize mirror xs lo (lo+n) ((lo+n - lo) / 2)=ys at g' hi
 have hsy:=g'.size
 dsimp only
 refine wpS_bind (wpS_mono (wpS_forRange (I:=λ(x:Nat) (c:Option (Option Nat)×Nat) (st':SortSt)=>c.1=none/\c.2=x/\st'=setArr st ys/\Inc ρ ys lo (lo+x))
  (Q:=λ(c:Option (Option Nat)×Nat) (st':SortSt)=>c.1=none/\n<=c.2/\c.2<=nrem/\st'=setArr st ys/\Inc ρ ys lo (lo+c.2)) ?_ ?_ ⟨rfl,rfl,rfl,hi⟩) ?_)
 ·rintro x ⟨o,m⟩ st' hx1 hx2 ⟨e1,e2,e3,e4⟩
  dsimp only at e1 e2
  subst e1 e2 e3
  dsimp only
  refine wpS_bind (lJ hlt hk hP g' AC AC ?_)
  dsimp only
  by_cases hl:rk ρ ys (lo+m)<rk ρ ys (lo+m - 1)
  ·rw [Qk hl,Ql rfl]
   exact wpS_pure ⟨rfl,hx1,(by dsimp only;omega),rfl,e4⟩
  ·rw [Qj hl,Qm C2]
   exact wpS_pure ⟨rfl,rfl,rfl,e4.next AC AC⟩
 ·rintro⟨o,m⟩ st' ⟨e1,e2,e3,e4⟩
  dsimp only at e1 e2
  subst e1 e2 e3
  rw [Nat.max_eq_right hn] at e4 ⊢
  exact⟨rfl,hn,au _,rfl,e4⟩
 ·rintro⟨o,m⟩ st' ⟨e1,e2,e3,e4,e5⟩
  dsimp only at e1 e2 e3 e5
  subst e1 e4
  exact wpS_pure (h m ys AC e3 g' e5)
theorem x9 (hlt:cU prog w A E s kd ρ P) {st:SortSt}{lo nrem n0:Nat}{xs:Array Keyed}{Q:Option Nat->SortSt->Prop}(hk:kindOf st=kd) (hP:∀x∈(arrOf st).toList,P x) (hs:lo+nrem=(arrOf st).size) (g:Sg st lo xs) (h1:1<=n0) (hn:n0+1<=nrem) (hd:Dec ρ xs lo (lo+(n0+1))) (h:vk ρ st lo nrem Q) :
  wpS AT A E s (t2 lo nrem n0) Q (setArr st xs):=by
 unfold t2
 refine wpS_bind (wpS_lift (wpAny_rule ⟨rfl,?_⟩))
 dsimp only
 refine wpS_bind (wpS_mono (wpS_forRange (I:=λ(x:Nat) (c:Option (Option Nat)×Nat×Nat) (st':SortSt)=>c.1=none/\c.2.1=x/\c.2.2+1<=c.2.1/\∃ys,st'=setArr st ys/\Sg st lo ys/\Dec ρ ys lo (lo+x)/\∀k,lo+x - (c.2.2+1)<=k->k<lo+x->rk ρ ys k=rk ρ ys (lo+x - 1))
  (Q:=λ(c:Option (Option Nat)×Nat×Nat) (st':SortSt)=>c.1=none/\n0+1<=c.2.1/\c.2.1<=nrem/\c.2.2+1<=c.2.1/\∃ys,st'=setArr st ys/\Sg st lo ys/\Dec ρ ys lo (lo+c.2.1)/\∀k,lo+c.2.1 - (c.2.2+1)<=k->k<lo+c.2.1->rk ρ ys k=rk ρ ys (lo+c.2.1 - 1)) ?_ ?_ ⟨rfl,rfl,by dsimp only;omega,xs,rfl,g,hd,λk k1 k2=>by dsimp only at k1;congr 1;omega⟩) ?_)
 ·rintro x ⟨o,m,q⟩ st' hx1 hx2 ⟨e1,e2,e3,ys,e4,gy,dy,qy⟩
  dsimp only at e1 e2 e3 qy
  subst e1 e2 e4
  have hsy:=gy.size
  dsimp only
  refine wpS_bind (lJ hlt hk hP gy AC AC ?_)
  dsimp only
  by_cases hl:rk ρ ys (lo+m)<rk ρ ys (lo+m - 1)
  ·rw [Qk hl,Ql rfl]
   by_cases hq:q > 0
   ·rw [Ql hq,reverseSlice'_eq]
    refine wpS_bind (wpS_modify (wpS_pure ⟨rfl,rfl,by dsimp only;omega,_,rfl,gy.mir (i:=lo+m - (q+1)) (j:=lo+m) AC AC,?_,?_⟩))
    ·have same:∀k,rk ρ (mirror ys (lo+m - (q+1)) (lo+m) ((lo+m - (lo+m - (q+1))) / 2)) k=rk ρ ys k:=λk=>by
      rw [nI AC]
      split
      ·rw [qy _ AC AC,qy k AC AC]
      ·rfl
     intro i j i1 i2 i3
     show rk ρ (mirror ys _ _ _) j<=rk ρ (mirror ys _ _ _) i
     rw [same,same]
     exact dy.next AC AC i j i1 i2 i3
    ·intro k k1 k2
     dsimp only at k1
     congr 1
     omega
   ·rw [Qm hq]
    exact wpS_pure ⟨rfl,rfl,by dsimp only;omega,ys,rfl,gy,dy.next AC AC,λk k1 k2=>by dsimp only at k1;congr 1;omega⟩
  ·rw [Qj hl,Qm C2]
   refine wpS_bind (lJ hlt hk hP gy AC AC ?_)
   dsimp only
   by_cases hg:rk ρ ys (lo+m - 1)<rk ρ ys (lo+m)
   ·rw [Qk hg,Ql rfl]
    exact wpS_pure ⟨rfl,hx1,(by dsimp only;omega),e3,ys,rfl,gy,dy,qy⟩
   ·rw [Qj hg,Qm C2]
    refine wpS_pure ⟨rfl,rfl,by dsimp only;omega,ys,rfl,gy,dy.next AC AC,λk k1 k2=>?_⟩
    dsimp only at k1
    rw [show lo+(m+1) - 1=lo+m by omega]
    by_cases ek:k=lo+m
    ·rw [ek]
    ·rw [qy k AC AC]
     omega
 ·rintro⟨o,m,q⟩ st' ⟨e1,e2,e3,e4⟩
  dsimp only at e1 e2 e3
  subst e1 e2
  rw [Nat.max_eq_right hn] at e4 ⊢
  exact⟨rfl,hn,au _,(by rw [Nat.max_eq_right hn] at e3;exact e3),e4⟩
 ·rintro⟨o,m,q⟩ st' ⟨e1,e2,e3,e4,ys,e5,gy,dy,qy⟩
  dsimp only at e1 e2 e3 e4 dy qy
  subst e1 e5
  dsimp only
  have hsy:=gy.size
  by_cases hq:q > 0
  ·rw [Ql hq,reverseSlice'_eq]
   refine wpS_bind (wpS_modify ?_)
   have same:∀k,rk ρ (mirror ys (lo+m - (q+1)) (lo+m) ((lo+m - (lo+m - (q+1))) / 2)) k=rk ρ ys k:=λk=>by
    rw [nI AC]
    split
    ·rw [qy _ AC AC,qy k AC AC]
    ·rfl
   exact ya (st:=st) hlt hk hP hs (gy.mir (i:=lo+m - (q+1)) (j:=lo+m) AC AC) AC e3 (λi j i1 i2 i3=>by rw [same,same];exact dy i j i1 i2 i3) h
  ·rw [Qm hq]
   exact ya hlt hk hP hs gy AC e3 dy h
theorem qHn (hlt:cU prog w A E s kd ρ P) {st:SortSt}{lo nrem:Nat}{Q:Option Nat->SortSt->Prop}(hk:kindOf st=kd) (hP:∀x∈(arrOf st).toList,P x) (hs:lo+nrem=(arrOf st).size) (h1:1<=nrem) (h:vk ρ st lo nrem Q) :
  wpS AT A E s (countRun' lo nrem) Q st:=by
 rw [qT8]
 unfold t1
 dsimp only
 have g:=Sg.refl st lo
 refine wpS_bind (wpS_mono (wpS_forRange (I:=λ(x:Nat) (c:Option (Option Nat)×Nat) (st':SortSt)=>c.1=none/\c.2=x/\st'=setArr st (arrOf st)/\Inc ρ (arrOf st) lo (lo+x))
  (Q:=λ(c:Option (Option Nat)×Nat) (st':SortSt)=>c.1=none/\1<=c.2/\c.2<=nrem/\st'=setArr st (arrOf st)/\Inc ρ (arrOf st) lo (lo+c.2)/\(c.2<nrem->rk ρ (arrOf st) (lo+c.2)<rk ρ (arrOf st) (lo+c.2 - 1))) ?_ ?_ ⟨rfl,rfl,rfl,λi j i1 i2 i3=>by rw [show i=j by omega];exact au _⟩) ?_)
 ·rintro x ⟨o,m⟩ st' hx1 hx2 ⟨e1,e2,e3,e4⟩
  dsimp only at e1 e2
  subst e1 e2 e3
  dsimp only
  refine wpS_bind (lJ hlt hk hP g AC AC ?_)
  dsimp only
  by_cases hl:rk ρ (arrOf st) (lo+m)<rk ρ (arrOf st) (lo+m - 1)
  ·rw [Qk hl,Ql rfl]
   exact wpS_pure ⟨rfl,hx1,(by dsimp only;omega),rfl,e4,λ_=>hl⟩
  ·rw [Qj hl,Qm C2]
   exact wpS_pure ⟨rfl,rfl,rfl,e4.next AC AC⟩
 ·rintro⟨o,m⟩ st' ⟨e1,e2,e3,e4⟩
  dsimp only at e1 e2
  subst e1 e2 e3
  rw [Nat.max_eq_right h1] at e4 ⊢
  exact⟨rfl,h1,au _,rfl,e4,λz=>Qn z (fR _)⟩
 ·rintro⟨o,m⟩ st' ⟨e1,e2,e3,e4,e5,e6⟩
  dsimp only at e1 e2 e3 e5 e6
  subst e1 e4
  dsimp only
  by_cases hm:m=nrem
  ·rw [Ql (by simpa using hm)]
   exact wpS_pure (h m _ e2 e3 g e5)
  rw [Qm (by simpa using hm)]
  have hlt':=e6 AC
  by_cases h2:m > 1
  ·rw [Ql h2]
   refine wpS_bind (lJ hlt hk hP g AC AC ?_)
   dsimp only
   by_cases hr:rk ρ (arrOf st) lo<rk ρ (arrOf st) (lo+m - 1)
   ·rw [Qk hr,Ql rfl]
    exact wpS_pure (h m _ e2 e3 g e5)
   rw [Qj hr,Qm C2,reverseSlice'_eq]
   refine wpS_bind (wpS_modify ?_)
   have eq:∀k,lo<=k->k<lo+m->rk ρ (arrOf st) k=rk ρ (arrOf st) lo:=λk k1 k2=>by
    have a1:=e5 lo k (au _) k1 k2
    have a2:=e5 k (lo+m - 1) k1 AC AC
    omega
   have same:∀k,rk ρ (mirror (arrOf st) lo (lo+m) ((lo+m - lo) / 2)) k=rk ρ (arrOf st) k:=λk=>by
    rw [nI AC]
    split
    ·rw [eq _ AC AC,eq k AC AC]
    ·rfl
   refine x9 hlt hk hP hs (g.mir (i:=lo) (j:=lo+m) (au _) AC) e2 AC (λi j i1 i2 i3=>?_) h
   rw [same,same]
   by_cases ej:j=lo+m
   ·by_cases ei:i=lo+m
    ·rw [ei,ej];exact au _
    ·rw [eq i i1 AC,ej]
     have:=eq (lo+m - 1) AC AC
     omega
   ·rw [eq i i1 AC,eq j AC AC]
    exact au _
  ·rw [Qm h2]
   have m1:m=1:=by omega
   subst m1
   refine x9 hlt hk hP hs g (au _) AC (λi j i1 i2 i3=>?_) h
   rw [Nat.add_sub_cancel] at hlt'
   by_cases ei:i=j
   ·rw [ei];exact au _
   ·rw [show i=lo by omega,show j=lo+1 by omega]
    omega
end
end Dw.So
namespace Dw.So
open PySem PyProof.Rows
section
variable {prog:Program}{w:World}{A:Around}{E:Value->Shared->Prop}{s:Shared}{kd:SortKind}{ρ:Keyed->Nat}{P:Keyed->Prop}
theorem qML (hlt:cU prog w A E s kd ρ P) {st:SortSt}{lo n ok:Nat}{xs:Array Keyed}{Q:Bool->SortSt->Prop}(hk:kindOf st=kd) (hP:∀x∈(arrOf st).toList,P x) (hs:lo+n<=(arrOf st).size) (g:Sg st lo xs) (h1:1<=ok) (hok:ok<=n) (hi:Inc ρ xs lo (lo+ok))
  (h:∀ys,Sg st lo ys->Inc ρ ys lo (lo+n)->Q true (setArr st ys)):wpS AT A E s (binarySort' lo n ok) Q (setArr st xs):=by
 rw [binarySort'_eq]
 rw [Nat.max_eq_left h1]
 refine wpS_bind (wpS_mono (wpS_forRange (I:=λ(k:Nat) (c:Option Bool×PUnit) (st':SortSt)=>c.1=none/\∃ys,st'=setArr st ys/\Sg st lo ys/\Inc ρ ys lo (lo+k))
  (Q:=λ(c:Option Bool×PUnit) (st':SortSt)=>c.1=none/\∃ys,st'=setArr st ys/\Sg st lo ys/\Inc ρ ys lo (lo+n)) ?_ ?_ ⟨rfl,xs,rfl,g,hi⟩) ?_)
 ·rintro k ⟨o,u⟩ st' hk1 hk2 ⟨e1,ys,e2,gy,iy⟩
  dsimp only at e1
  subst e1 e2
  have hsy:=gy.size
  refine wpS_bind (wpS_mono (wpS_forRange (I:=λ(x:Nat) (c:Option Bool×Nat×Nat) (st'':SortSt)=>st''=setArr st ys/\∃l r,c=(none,l,r)/\l<=r/\r<=k/\r - l<=k - x /\
    (∀i,i<l->rk ρ ys (lo+i)<=rk ρ ys (lo+k))/\(∀i,r<=i->i<k->rk ρ ys (lo+k)<rk ρ ys (lo+i)))
   (Q:=λ(c:Option Bool×Nat×Nat) (st'':SortSt)=>st''=setArr st ys/\∃l r,c=(none,l,r)/\l<=k /\
    (∀i,i<l->rk ρ ys (lo+i)<=rk ρ ys (lo+k))/\(∀i,l<=i->i<k->rk ρ ys (lo+k)<rk ρ ys (lo+i))) ?_ ?_ ⟨rfl,0,k,rfl,by omega,by omega,by omega,λi hi=>by omega,λi h1 h2=>by omega⟩) ?_)
  ·rintro x c st'' _ hxk ⟨rfl,l,r,rfl,hlr,hrk,hm,hlo,hhi⟩
   dsimp only
   by_cases hge:l ≥ r
   ·rw [Ql hge]
    have:l=r:=by omega
    subst this
    exact wpS_pure ⟨rfl,l,l,rfl,hrk,hlo,hhi⟩
   ·rw [Qm hge]
    refine wpS_bind (lJ hlt hk hP gy AC AC ?_)
    dsimp only
    by_cases hl:rk ρ ys (lo+k)<rk ρ ys (lo+(l+r) / 2)
    ·rw [Qk hl,Ql rfl]
     refine wpS_pure ⟨rfl,l,(l+r) / 2,rfl,by omega,by omega,by omega,hlo,λi i1 i2=>?_⟩
     exact bO hl (iy _ _ AC AC AC)
    ·rw [Qj hl,Qm C2]
     refine wpS_pure ⟨rfl,(l+r) / 2+1,r,rfl,by omega,by omega,by omega,λi i1=>?_,hhi⟩
     exact aT (iy (lo+i) (lo+(l+r) / 2) AC AC AC) AC
  ·rintro c st'' ⟨rfl,l,r,rfl,hlr,hrk,hm,hlo,hhi⟩
   have:l=r:=by omega
   subst this
   exact⟨rfl,l,l,rfl,hrk,hlo,hhi⟩
  ·rintro c st'' ⟨rfl,l,r,rfl,hlk,hlo,hhi⟩
   show wpS _ _ _ _ (do moveDown' (lo+k) (lo+l);pure (ForInStep.yield (none,PUnit.unit))) _ _
   rw [moveDown'_eq]
   refine wpS_bind (wpS_modify (wpS_pure ⟨rfl,_,rfl,gy.bub (src:=lo+k) (d:=lo+k - (lo+l)) AC AC,?_⟩))
   intro i j i1 i2 i3
   show rk ρ (bubble ys (lo+k) (lo+k - (lo+l))) i<=rk ρ (bubble ys (lo+k) (lo+k - (lo+l))) j
   rw [AA AC AC,AA AC AC,show lo+k - (lo+k - (lo+l))=lo+l by omega]
   have H1:∀i,lo<=i->i<lo+l->rk ρ ys i<=rk ρ ys (lo+k):=λi a1 a2=>by have:=hlo (i - lo) AC;rwa [show lo+(i - lo)=i by omega] at this
   have H2:∀i,lo+l<=i->i<lo+k->rk ρ ys (lo+k)<=rk ρ ys i:=λi a1 a2=>by have:=hhi (i - lo) AC AC;rw [show lo+(i - lo)=i by omega] at this;omega
   repeat' split
   all_goals first
    | (exfalso;omega)
    | exact au _
    | exact H1 _ AC AC
    | exact H2 _ AC AC
    | exact iy _ _ AC AC AC
 ·rintro⟨o,u⟩ st' ⟨e1,ys,e2,gy,iy⟩
  rw [Nat.max_eq_right hok] at iy
  exact⟨e1,ys,e2,gy,iy⟩
 ·rintro⟨o,u⟩ st' ⟨e1,ys,e2,gy,iy⟩
  dsimp only at e1
  subst e1 e2
  exact wpS_pure (h ys gy iy)
def Rn (ρ:Keyed->Nat):List (Nat×Nat)->List (List Keyed)->Nat->Prop
 | [],[],_=>True
 | q::ps,u::us,s0=>q.1=s0/\q.2=u.length/\0<u.length/\Up ρ u/\Rn ρ ps us (s0+u.length)
 | _,_,_=>False
abbrev pr (q:Nat×Nat×Nat):Nat×Nat:=(q.1,q.2.1)
theorem Rn.len:∀{ps:List (Nat×Nat)}{us:List (List Keyed)}{s0:Nat},Rn ρ ps us s0->ps.length=us.length
 | [],[],_,_=>rfl
 | q::ps,u::us,s0,⟨_,_,_,_,h⟩=>by rw [de,de,h.len]
 | [],_::_,_,h=>h.elim
 | _::_,[],_,h=>h.elim
theorem Rn.le:∀{ps:List (Nat×Nat)}{us:List (List Keyed)}{s0:Nat},Rn ρ ps us s0->us.length<=us.flatten.length
 | [],[],_,_=>au _
 | q::ps,u::us,s0,⟨_,_,h1,_,h⟩=>by have:=h.le;rw [jE,aU,de];omega
 | [],_::_,_,h=>h.elim
 | _::_,[],_,h=>h.elim
theorem Rn.app:∀{ps ps':List (Nat×Nat)}{us us':List (List Keyed)}{s0:Nat},Rn ρ ps us s0->Rn ρ ps' us' (s0+us.flatten.length)->Rn ρ (ps++ps') (us++us') s0
 | [],_,[],_,_,_,h=>by simpa using h
 | q::ps,_,u::us,_,s0,⟨h1,h2,h3,h4,h⟩,h'=>⟨h1,h2,h3,h4,h.app (by rw [jE,aU] at h';rw [Nat.add_assoc];exact h')⟩
 | [],_,_::_,_,_,h,_=>h.elim
 | _::_,_,[],_,_,h,_=>h.elim
theorem Rn.split:∀{ps ps':List (Nat×Nat)}{us:List (List Keyed)}{s0:Nat},Rn ρ (ps++ps') us s0->∃us1 us2,us=us1++us2/\Rn ρ ps us1 s0/\Rn ρ ps' us2 (s0+us1.flatten.length)
 | [],_,us,s0,h=>⟨[],us,rfl,trivial,by simpa using h⟩
 | q::ps,_,u::us,s0,⟨h1,h2,h3,h4,h⟩=>by
  obtain⟨us1,us2,e,a,b⟩:=h.split
  exact⟨u::us1,us2,by rw [e];rfl,⟨h1,h2,h3,h4,a⟩,by rw [jE,aU,<-Nat.add_assoc];exact b⟩
 | _::_,_,[],_,h=>h.elim
structure So (ρ:Keyed->Nat) (kd:SortKind) (a₀:Array Keyed) (st:SortSt) (us:List (List Keyed)) (rest:List Keyed):Prop where
 kind:kindOf st=kd
 failed:failedOf st=none
 perm:(arrOf st).Perm a₀
 arr:(arrOf st).toList=us.flatten++rest
 runs:Rn ρ ((pendingOf st).toList.map pr) us 0
theorem qPc {l:List (Nat×Nat×Nat)}{i:Nat}(h:i+1<l.length):∃l1 x y l2,l=l1++x::y::l2/\l1.length=i:=by
 refine⟨l.take i,l[i],l[i+1],l.drop (i+2),?_,by rw [eQ];omega⟩
 rw [<-jH h,<-jH AC,fT]
theorem As (hlt:cU prog w A E s kd ρ P) {a₀:Array Keyed}(hP:∀x∈a₀.toList,P x) {st:SortSt}{us:List (List Keyed)}{rest:List Keyed}{i:Nat}{Q:Bool->SortSt->Prop}(S:So ρ kd a₀ st us rest) (hi:i+1<(pendingOf st).size)
  (h:∀st' us',So ρ kd a₀ st' us' rest->us'.flatten.length=us.flatten.length->(pendingOf st').size+1=(pendingOf st).size->Q true st'):wpS AT A E s (mergeAt' i) Q st:=by
 obtain⟨l1,x,y,l2,el,e1⟩:=qPc (l:=(pendingOf st).toList) (i:=i) (by rw [cJ];exact hi)
 have R:=S.runs
 rw [el,List.map_append,cP,cP] at R
 obtain⟨us1,us2,eu,R1,R2⟩:=R.split
 match us2,R2 with
 | u::v::us2,⟨h1,h2,h3,h4,g1,g2,g3,g4,R3⟩ =>
  dsimp only [pr] at h1 h2 g1 g2
  rw [bI] at h1 g1 R3
  have hp:(pendingOf st)[i]?=some (us1.flatten.length,u.length,x.2.2):=by
   rw [<-ja,el,<-e1,gU (au _),nY,<-h1,<-h2]
   rfl
  have hp2:(pendingOf st)[i+1]?=some (us1.flatten.length+u.length,v.length,y.2.2):=by
   rw [<-ja,el,<-e1,gU AC,gB,<-g1,<-g2]
   rfl
  have hL:(arrOf st).toList=us1.flatten++(u++(v++(us2.flatten++rest))):=by rw [S.arr,eu];simp
  have pm:=S.perm
  refine qFn hlt (na:=0) (nb:=0) S.kind S.failed hp hp2 hL (λx hx=>hP x ((Array.perm_iff_toList_perm.mp pm).mem_iff.mp hx)) h3 g3 h4 g4 λr xs g hr pr' ur=>?_
  have rl:r.length=u.length+v.length:=by rw [pr'.length_eq,aU]
  refine h _ (us1++r::us2) ⟨S.kind,rfl,?_,?_,?_⟩ ?_ ?_
  ·refine Array.Perm.trans ?_ S.perm
   rw [Array.perm_iff_toList_perm]
   show xs.toList.Perm _
   rw [hr,hL]
   refine List.Perm.append_left _ ?_
   rw [<-bE u v]
   exact List.Perm.append_right _ pr'
  ·show xs.toList=_
   rw [hr]
   simp
  ·show Rn ρ ((((pendingOf st).setIfInBounds i (us1.flatten.length,u.length+v.length,x.2.2)).eraseIdxIfInBounds (i+1)).toList.map pr) _ 0
   have:(((pendingOf st).setIfInBounds i (us1.flatten.length,u.length+v.length,x.2.2)).eraseIdxIfInBounds (i+1)).toList=l1++(us1.flatten.length,u.length+v.length,x.2.2)::l2:=by
    rw [Array.eraseIdxIfInBounds,dif_pos (by rw [Array.size_setIfInBounds];exact hi),Array.toList_eraseIdx,Array.toList_setIfInBounds,el,<-e1,List.set_append_right _ _ (au _),nY,List.set_cons_zero,List.eraseIdx_append_of_length_le AC,gB]
    rfl
   rw [this,List.map_append,cP]
   exact R1.app ⟨by rw [bI],by rw [rl],by omega,ur,by rw [rl,bI];rw [<-Nat.add_assoc];exact R3⟩
  ·rw [eu]
   simp [rl]
   omega
  ·show (((pendingOf st).setIfInBounds i (us1.flatten.length,u.length+v.length,x.2.2)).eraseIdxIfInBounds (i+1)).size+1=_
   rw [Array.eraseIdxIfInBounds,dif_pos (by rw [Array.size_setIfInBounds];exact hi),Array.size_eraseIdx,Array.size_setIfInBounds]
   omega
 | [u],⟨_,_,_,_,z⟩=>exact z.elim
 | [],z=>exact z.elim
end
end Dw.So
namespace Dw.So
open PySem PyProof.Rows
noncomputable def oV (pw:Nat):StateT SortSt Sem (ForInStep (Option Unit×Unit)):=do
 let st <-get
 match (if (pendingOf st).size > 1 then (pendingOf st)[(pendingOf st).size - 2]? else none) with
 | some (_,_,older) =>
  if older<=pw then pure (.done (none,()))
  else do
   let b <-mergeAt' ((pendingOf st).size - 2)
   if !b then pure (.done (some (),())) else pure (.yield (none,()))
 | _=>pure (.done (none,()))
def mV (size lo n:Nat):StateT SortSt Sem (ForInStep (Option Unit×Nat)):=do
 let st <-get
 match (pendingOf st).back? with
 | some (s1,n1,_)=>do
  let d <-forIn [0:size] ((none,()):Option Unit×Unit) λ_ _=>oV (power' size (2 * s1+n1) (2 * s1+n1+n1+n) size)
  match d.1 with
  | some r=>pure (.done (some r,lo))
  | none=>do
   modify λs=>setPending s ((pendingOf s).modify ((pendingOf s).size - 1) λx=>(x.1,x.2.1,power' size (2 * s1+n1) (2 * s1+n1+n1+n) size))
   modify λs=>setPending s ((pendingOf s).push (lo,n,0))
   pure (.yield (none,lo+n))
 | _=>do
  modify λs=>setPending s ((pendingOf s).push (lo,n,0))
  pure (.yield (none,lo+n))
section
variable {prog:Program}{w:World}{A:Around}{E:Value->Shared->Prop}{s:Shared}{kd:SortKind}{ρ:Keyed->Nat}{P:Keyed->Prop}
theorem x8 {α:Type}{m m':StateT SortSt Sem α}{Q:α->SortSt->Prop}{st:SortSt}(e:m=m') (h:wpS AT A E s m' Q st):wpS AT A E s m Q st:=by rw [e];exact h
theorem qOe {l:List (Nat×Nat×Nat)}{i:Nat}{f:Nat×Nat×Nat->Nat×Nat×Nat}(hf:∀x,pr (f x)=pr x):(l.modify i f).map pr=l.map pr:=by
 apply List.ext_getElem?
 intro j
 rw [bU,bU,List.getElem?_modify]
 split
 ·cases l[j]? with
  | none=>rfl
  | some x=>show some (pr (f x))=some (pr x);rw [hf]
 ·cases l[j]?<;>rfl
theorem qJR (hlt:cU prog w A E s kd ρ P) {a₀:Array Keyed}(hP:∀x∈a₀.toList,P x) {st:SortSt}{us:List (List Keyed)}{u rest:List Keyed}{size:Nat}{R:ForInStep (Option Unit×Nat)->SortSt->Prop}(S:So ρ kd a₀ st us (u++rest)) (hu:0<u.length) (uu:Up ρ u)
  (h:∀st' us',So ρ kd a₀ st' us' rest->us'.flatten.length=us.flatten.length+u.length->R (.yield (none,us.flatten.length+u.length)) st'):wpS AT A E s (mV size us.flatten.length u.length) R st:=by
 have fin:∀st' us',So ρ kd a₀ st' us' (u++rest)->us'.flatten.length=us.flatten.length->R (.yield (none,us.flatten.length+u.length)) (setPending st' ((pendingOf st').push (us.flatten.length,u.length,0))):=λst' us' S' hl=>by
  refine h _ (us'++[u]) ⟨S'.kind,S'.failed,S'.perm,?_,?_⟩ ?_
  ·show (arrOf st').toList=_
   rw [S'.arr]
   simp
  ·show Rn ρ (((pendingOf st').push (us.flatten.length,u.length,0)).toList.map pr) _ 0
   rw [Array.toList_push,List.map_append]
   exact S'.runs.app ⟨by show us.flatten.length=0+us'.flatten.length;omega,rfl,hu,uu,trivial⟩
  ·rw [List.flatten_append,aU,hl]
   simp
 unfold mV
 refine wpS_bind (wpS_get ?_)
 cases e:(pendingOf st).back? with
 | none=>exact wpS_bind (wpS_modify (wpS_pure (fin st us S rfl)))
 | some q =>
  obtain⟨s1,n1,p1⟩:=q
  dsimp only
  refine wpS_bind (wpS_mono (wpS_forRange (I:=λ(x:Nat) (c:Option Unit×Unit) (st':SortSt)=>c.1=none/\∃us',So ρ kd a₀ st' us' (u++rest)/\us'.flatten.length=us.flatten.length) (Q:=λ(c:Option Unit×Unit) (st':SortSt)=>c.1=none/\∃us',So ρ kd a₀ st' us' (u++rest)/\us'.flatten.length=us.flatten.length) ?_ (λc st' h=>h) ⟨rfl,us,S,rfl⟩) ?_)
  ·rintro x ⟨o,v⟩ st' _ _ ⟨e1,us',S',hl⟩
   unfold oV
   refine wpS_bind (wpS_get ?_)
   by_cases hz:(pendingOf st').size > 1
   ·rw [Ql hz,mz AC]
    dsimp only
    split
    ·exact wpS_pure ⟨rfl,us',S',hl⟩
    ·refine wpS_bind (As hlt hP S' AC λst2 us2 S2 l2 _=>?_)
     exact wpS_pure ⟨rfl,us2,S2,l2.trans hl⟩
   ·rw [Qm hz]
    exact wpS_pure ⟨rfl,us',S',hl⟩
  ·rintro⟨o,v⟩ st' ⟨e1,us',S',hl⟩
   dsimp only at e1
   subst e1
   dsimp only
   refine wpS_bind (wpS_modify (wpS_bind (wpS_modify (wpS_pure ?_))))
   refine fin (setPending st' _) us' ⟨S'.kind,S'.failed,S'.perm,S'.arr,?_⟩ hl
   show Rn ρ (((pendingOf st').modify _ _).toList.map pr) us' 0
   have mm:=qOe (l:=(pendingOf st').toList) (i:=(pendingOf st').size - 1) (f:=λx=>(x.1,x.2.1,power' size (2 * s1+n1) (2 * s1+n1+n1+u.length) size)) λx=>rfl
   rw [Array.toList_modify,mm]
   exact S'.runs
theorem qHt {xs:Array Keyed}{lo n:Nat}(h:Inc ρ xs lo (lo+n)) (hs:lo+n<=xs.size):Up ρ ((xs.toList.drop lo).take n):=by
 refine List.pairwise_iff_getElem.mpr λi j hi hj hij=>?_
 rw [eQ,ik,cJ] at hi hj
 have:=h (lo+i) (lo+j) AC AC AC
 unfold rk at this
 rw [mz AC,mz AC] at this
 simpa using this
theorem Sg.so {a₀:Array Keyed}{st:SortSt}{us:List (List Keyed)}{rest:List Keyed}{xs:Array Keyed}(S:So ρ kd a₀ st us rest) (g:Sg st us.flatten.length xs) (n:Nat):So ρ kd a₀ (setArr st xs) us ((xs.toList.drop us.flatten.length).take n++xs.toList.drop (us.flatten.length+n)):=by
 refine⟨S.kind,S.failed,g.perm.trans S.perm,?_,S.runs⟩
 show xs.toList=_
 have e:xs.toList.take us.flatten.length=us.flatten:=by
  have:xs.toList.take us.flatten.length=(arrOf st).toList.take us.flatten.length:=by
   apply List.ext_getElem?
   intro j
   rw [List.getElem?_take,List.getElem?_take]
   split
   ·rw [ja,ja]
    exact g.low j (by assumption)
   ·rfl
  rw [this,S.arr,List.take_left']
  rfl
 rw [<-drop_take]
 have:=fT us.flatten.length xs.toList
 rw [e] at this
 exact this.symm
theorem qJQ (hlt:cU prog w A E s kd ρ P) {st:SortSt}{Q:Unit->SortSt->Prop}(hk:kindOf st=kd) (hf:failedOf st=none) (hp:pendingOf st=#[]) (hP:∀x∈(arrOf st).toList,P x)
  (h:∀st',(arrOf st').Perm (arrOf st)->failedOf st'=none->Up ρ (arrOf st').toList->Q () st'):wpS AT A E s sortRuns' Q st:=by
 rw [sortRuns'_eq]
 refine wpS_bind (wpS_get ?_)
 dsimp only
 have S0:So ρ kd (arrOf st) st [] (arrOf st).toList:=⟨hk,hf,Array.Perm.refl _,rfl,by rw [hp];trivial⟩
 refine wpS_bind (wpS_mono (wpS_forRange (I:=λ(x:Nat) (c:Option Unit×Nat) (st':SortSt)=>c.1=none/\∃us rest,So ρ kd (arrOf st) st' us rest/\c.2=us.flatten.length/\x<=us.flatten.length)
  (Q:=λ(c:Option Unit×Nat) (st':SortSt)=>c.1=none/\∃us,So ρ kd (arrOf st) st' us []) ?_ ?_ ⟨rfl,[],_,S0,rfl,au _⟩) ?_)
 ·rintro x ⟨o,lo⟩ st' _ hx ⟨e1,us,rest,S,e2,e3⟩
  dsimp only at e1 e2
  subst e1 e2
  dsimp only
  have hsz:(arrOf st').size=(arrOf st).size:=S.perm.size_eq
  have htot:us.flatten.length+rest.length=(arrOf st).size:=by rw [<-hsz,<-cJ,S.arr,aU]
  by_cases hge:us.flatten.length ≥ (arrOf st).size
  ·rw [Ql hge]
   have:rest=[]:=ybl.mp AC
   subst this
   exact wpS_pure ⟨rfl,us,S⟩
  rw [Qm hge]
  have pm:=S.perm
  have hP':∀x∈(arrOf st').toList,P x:=λx hx=>hP x ((Array.perm_iff_toList_perm.mp pm).mem_iff.mp hx)
  have key:∀(n:Nat) (ys:Array Keyed) (R:ForInStep (Option Unit×Nat)->SortSt->Prop),1<=n->n<=(arrOf st).size - us.flatten.length->Sg st' us.flatten.length ys->Inc ρ ys us.flatten.length (us.flatten.length+n) ->
    (∀st2 us2 rest2,So ρ kd (arrOf st) st2 us2 rest2->us.flatten.length+n=us2.flatten.length->R (.yield (none,us.flatten.length+n)) st2)->wpS AT A E s (mV (arrOf st).size us.flatten.length n) R (setArr st' ys):=by
   intro n ys R n1 n2 g i hR
   have gs:=g.size
   have S':=g.so S n
   have ul:((ys.toList.drop us.flatten.length).take n).length=n:=by rw [eQ,ik,cJ];omega
   have:=qJR (size:=(arrOf st).size) hlt hP S' AC (qHt i AC) (R:=R) λst2 us2 S2 l2=>by rw [ul] at l2 ⊢;exact hR st2 us2 _ S2 l2.symm
   rw [ul] at this
   exact this
  refine wpS_bind (qHn hlt S.kind hP' AC AC λn ys n1 n2 g i=>?_)
  dsimp only
  by_cases hm:n<minRun' (arrOf st).size (arrOf st).size 0
  ·rw [Ql hm]
   refine wpS_bind (wpS_lift (wpAny_rule ⟨rfl,?_⟩))
   refine wpS_bind (qML hlt S.kind hP' AC g n1 AC i λzs gz iz=>?_)
   rw [Qm C2]
   refine x8 ?_ (key _ zs _ AC AC gz iz λst2 us2 rest2 S2 l2=>⟨rfl,us2,rest2,S2,l2,by omega⟩)
   unfold mV
   refine bc λq=>?_
   cases (pendingOf q).back? with
   | none=>rfl
   | some z =>
    obtain⟨s1,n1,p1⟩:=z
    refine qI (λ_ c=>?_) λd=>?_
    ·unfold oV
     refine bc λq=>?_
     cases (if (pendingOf q).size > 1 then (pendingOf q)[(pendingOf q).size - 2]? else none) with
     | none=>rfl
     | some z=>obtain⟨z1,z2,z3⟩:=z;rfl
    ·obtain⟨d1,d2⟩:=d
     cases d1<;>rfl
  ·rw [Qm hm]
   refine x8 ?_ (key n ys _ n1 n2 g i λst2 us2 rest2 S2 l2=>⟨rfl,us2,rest2,S2,l2,by omega⟩)
   unfold mV
   refine bc λq=>?_
   cases (pendingOf q).back? with
   | none=>rfl
   | some z =>
    obtain⟨s1,n1,p1⟩:=z
    refine qI (λ_ c=>?_) λd=>?_
    ·unfold oV
     refine bc λq=>?_
     cases (if (pendingOf q).size > 1 then (pendingOf q)[(pendingOf q).size - 2]? else none) with
     | none=>rfl
     | some z=>obtain⟨z1,z2,z3⟩:=z;rfl
    ·obtain⟨d1,d2⟩:=d
     cases d1<;>rfl
 ·rintro⟨o,lo⟩ st' ⟨e1,us,rest,S,e2,e3⟩
  have hsz:(arrOf st').size=(arrOf st).size:=S.perm.size_eq
  have htot:us.flatten.length+rest.length=(arrOf st).size:=by rw [<-hsz,<-cJ,S.arr,aU]
  have:rest=[]:=ybl.mp AC
  subst this
  exact⟨e1,us,S⟩
 ·rintro⟨o,lo⟩ st' ⟨e1,us,S⟩
  dsimp only at e1
  subst e1
  dsimp only
  have sz:∀{st' us},So ρ kd (arrOf st) st' us []->(pendingOf st').size=us.length/\us.length<=(arrOf st).size:=λ{st' us} S=>by
   have h1:=S.runs.len
   have h2:=S.runs.le
   have hsz:(arrOf st').size=(arrOf st).size:=S.perm.size_eq
   rw [aw,cJ] at h1
   refine⟨h1,?_⟩
   rw [<-hsz,<-cJ,S.arr,bR]
   exact h2
  refine wpS_bind (wpS_mono (wpS_forRange (I:=λ(x:Nat) (c:Option Unit×Unit) (st':SortSt)=>c.1=none/\∃us,So ρ kd (arrOf st) st' us []/\us.length+x<=(arrOf st).size)
   (Q:=λ(c:Option Unit×Unit) (st':SortSt)=>c.1=none/\∃us,So ρ kd (arrOf st) st' us []/\us.length<=1) ?_ ?_ ⟨rfl,us,S,by have:=(sz S).2;omega⟩) ?_)
  ·rintro x ⟨o,v⟩ st' _ hx ⟨e1,us,S,hl⟩
   refine wpS_bind (wpS_get ?_)
   have h1:=(sz S).1
   by_cases hz:(pendingOf st').size<=1
   ·rw [Ql hz]
    exact wpS_pure ⟨rfl,us,S,by omega⟩
   ·rw [Qm hz]
    refine wpS_bind (As hlt hP S ?_ λst2 us2 S2 l2 z2=>?_)
    ·repeat (first|omega|split)
    ·have:=(sz S2).1
     exact wpS_pure ⟨rfl,us2,S2,by omega⟩
  ·rintro⟨o,v⟩ st' ⟨e1,us,S,hl⟩
   exact⟨e1,us,S,by omega⟩
  ·rintro⟨o,v⟩ st' ⟨e1,us,S,hl⟩
   dsimp only at e1
   subst e1
   refine wpS_pure (h st' S.perm S.failed ?_)
   rw [S.arr,bR]
   have R:=S.runs
   match us,hl,R with
   | [],_,_=>exact List.Pairwise.nil
   | [u],_,R =>
    match (pendingOf st').toList.map pr,R with
    | [q],⟨_,_,_,uu,_⟩=>simpa using uu
    | _::_::_,⟨_,_,_,_,z⟩=>exact z.elim
    | [],z=>exact z.elim
end
end Dw.So
namespace Dw.So
open PySem PySem.W PySem.Calls PyProof.Rows
section
variable {prog:Program}{w:World}{A:Around}{E:Value->Shared->Prop}{s:Shared}
theorem qOf {κ:SortKind}{ρ:Value->Nat}{vs:List Value}(hc:∀x∈vs,∀y∈vs,∀(Q:Bool->Shared->Prop) (E:Value->Shared->Prop),Q (decide (ρ x<ρ y)) s->wpAny AT A (keyLt' κ x y) Q E s):cU prog w A E s κ (λx=>ρ x.1) (λx=>x.1=x.2/\x.1∈vs):=by
 intro x y st Q hx hy hk h
 rw [lt'_eq]
 refine wpS_bind (wpS_get ?_)
 rw [hk]
 refine wpS_bind (wpS_lift (wpAny_attempt (hc x.1 hx.2 y.1 hy.2 _ _ ⟨rfl,?_⟩)))
 exact wpS_pure h
theorem sort_any {a:Addr}{vs:List Value}{n:Nat}{κ:SortKind}{ρ:Value->Nat}{P:PySem.Fin->Shared->Prop}(ho:s.heap.get? a=some (seqObj "list" vs.toArray n)) (h2:2<=vs.length) (hz:vs.length<=sizeLine)
  (hk:∀s':Shared,(∀b o,b≠a->s.heap.get? b=some o->s'.heap.get? b=some o)->wpAny AT A (keyKind' vs.toArray) (fun κ' s0=>κ'=κ/\s0=s') (λ_ _=>False) s')
  (hc:∀s':Shared,(∀b o,b≠a->s.heap.get? b=some o->s'.heap.get? b=some o)->∀x∈vs,∀y∈vs,∀(Q:Bool->Shared->Prop) (E:Value->Shared->Prop),Q (decide (ρ x<ρ y)) s'->wpAny AT A (keyLt' κ x y) Q E s')
  (k:∀h' m (us:List Value),(∀b o,b≠a->s.heap.get? b=some o->h'.get? b=some o)->us.Perm vs->us.Pairwise (λx y=>ρ x<=ρ y)->h'.get? a=some (seqObj "list" us.toArray m)->P (.done (.ret .none)) { s with heap:=h' }) :
  wpAny AT A (Builtin.«list.sort» ⟨[.ref a],[]⟩) P E s:=by
 have s1:=Heap.SameBut.update s.heap a (Obj.mapSeq λ_=>(#[]:Array Value))
 obtain⟨e1,ho1⟩:∃e1,(s.heap.update a (Obj.mapSeq λ_=>(#[]:Array Value))).get? a=some (seqObj "list" #[] e1):=⟨_,get?_update_seq ho λ_=>#[]⟩
 generalize hH:((s.heap.update a (Obj.mapSeq λ_=>(#[]:Array Value))).push (seqObj "tuple" vs.toArray 0)).push (seqObj "list" #[] 0)=H3
 have kp:∀b o,b≠a->s.heap.get? b=some o->H3.get? b=some o:=λb o hb e=>by
  rw [<-hH];exact Qg _ (Qg _ (s1.extBut b o hb e))
 have ha3:H3.get? a=some (seqObj "list" #[] e1):=by rw [<-hH];exact Qg _ (Qg _ ho1)
 rw [list_sort_plain]
 refine Qc (listItems_at ho rfl (Qc (listUpdate_at ho rfl ?_ (by rw [aO];exact hz) (fP _))))
 refine Qc (seqEpoch_at ho1 rfl (Qc (wpAny_newTuple ?_ hz)))
 refine Qc (wpAny_newList (wpAny_holding ?_) (fP _))
 show wpAny AT A _ P E { s with heap:=((s.heap.update a (Obj.mapSeq λ_=>(#[]:Array Value))).push (seqObj "tuple" vs.toArray 0)).push (seqObj "list" #[] 0) }
 rw [hH];dsimp only
 have hn2:¬vs.toArray.size<2:=by rw [aO];omega
 rw [Qm hn2,Qm hn2]
 refine Qc (Qe (hk { s with heap:=H3 } kp) (fun κ' s0 e=>?_) λ_ _ x=>x.elim)
 obtain⟨rfl,rfl⟩:=e
 have run:=qJQ (E:=E) (s:={ s with heap:=H3 }) (qOf (hc { s with heap:=H3 } kp)) (st:=SortSt.mk' κ' (vs.toArray.zip vs.toArray) #[] 7 none)
  (Q:=λ_ st'=>(arrOf st').Perm (vs.toArray.zip vs.toArray)/\failedOf st'=none/\Up (λx=>ρ x.1) (arrOf st').toList) rfl rfl rfl (λx hx=>by
   rw [show (arrOf (SortSt.mk' κ' (vs.toArray.zip vs.toArray) #[] 7 none)).toList=vs.zip vs from by show (vs.toArray.zip vs.toArray).toList=_;simp] at hx
   exact mem_zip_self hx) λst' h1 h2 h3=>⟨h1,h2,h3⟩
 refine Qc (Qe run ?_ λ_ _ e=>e)
 rintro⟨⟨⟩,st'⟩ s' ⟨rfl,hperm,hf,hup⟩
 dsimp only at hperm hf hup ⊢
 have hl:(arrOf st').toList.Perm (vs.zip vs):=by
  have:=Array.perm_iff_toList_perm.mp hperm
  simpa using this
 have hmem:∀p,p∈(arrOf st').toList->p.1=p.2/\p.1∈vs:=λp hp'=>mem_zip_self (hl.mem_iff.mp hp')
 have hout:(arrOf st').map (·.2)=((arrOf st').toList.map (·.2)).toArray:=by
  refine Array.ext' ?_
  rw [Array.toList_map]
 have p2:((arrOf st').toList.map (·.2)).Perm vs:=by
  have:=hl.map (·.2)
  rwa [List.map_snd_zip (au _)] at this
 have u2:((arrOf st').toList.map (·.2)).Pairwise (λx y=>ρ x<=ρ y):=by
  rw [List.pairwise_map]
  refine List.Pairwise.imp_of_mem (λ{x y} hx hy hxy=>?_) hup
  rw [<-(hmem x hx).1,<-(hmem y hy).1]
  exact hxy
 rw [hout]
 generalize (arrOf st').toList.map (·.2)=us at p2 u2
 have hsz:us.toArray.size=vs.length:=by rw [aO,p2.length_eq]
 obtain⟨c2,hc2⟩:∃c2,(H3.update a (Obj.mapSeq λ_=>us.toArray)).get? a=some (seqObj "list" us.toArray c2):=⟨_,get?_update_seq ha3 λ_=>us.toArray⟩
 refine Qc (seqEpoch_at ha3 rfl (Qc (listUpdate_at ha3 rfl ?_ (fP _) (aT (Nat.le_of_eq hsz) AC))))
 rw [hf];simp only [bne_self_eq_false,fS,if_false]
 exact Qd (k _ c2 us (λb o hb e=>(Heap.SameBut.update H3 a _).extBut b o hb (kp b o hb e)) p2 u2 hc2)
end
section
variable {τ:Type}{lt:τ->τ->Bool}
theorem sI {p q:τ->Bool}:∀{l:List τ},(∀z∈l,p z=true->q z=true)->l.countP p<=l.countP q
 | [],_=>au _
 | x::l,h=>by
  have ih:=sI (p:=p) (q:=q) (l:=l) λz hz=>h z (bK _ hz)
  rw [List.countP_cons,List.countP_cons]
  have:=h x bq
  cases hp:p x<;>cases hq:q x<;>simp [hp,hq] at this ⊢<;>omega
theorem xq {p q:τ->Bool}{x:τ}:∀{l:List τ},(∀z∈l,p z=true->q z=true)->x∈l->p x=false->q x=true->l.countP p<l.countP q
 | y::l,h,hx,hp,hq=>by
  rw [List.countP_cons,List.countP_cons]
  rcases yag.mp hx with rfl|hx
  ·have:=sI (p:=p) (q:=q) (l:=l) λz hz=>h z (bK _ hz)
   simp [hp,hq]
   omega
  ·have ih:=xq (l:=l) (λz hz=>h z (bK _ hz)) hx hp hq
   have:=h y bq
   cases hp':p y<;>cases hq':q y<;>simp [hp',hq'] at this ⊢<;>omega
noncomputable def rank (lt:τ->τ->Bool) (l:List τ) (x:τ):Nat:=l.countP (lt · x)
theorem rank_lt (irr:∀x,lt x x=false) (tr:∀x y z,lt x y=true->lt y z=true->lt x z=true) (nt:∀x y z,lt x z=true->lt x y=true∨lt y z=true) {l:List τ}{x y:τ}(hx:x∈l):decide (rank lt l x<rank lt l y)=lt x y:=by
 cases h:lt x y with
 | true=>exact Qk (xq (x:=x) (λz _ hz=>tr z x y hz h) hx (irr x) h)
 | false =>
  refine Qj (Nat.not_lt.mpr (sI λz _ hz=>?_))
  rcases nt z x y hz with h'|h'
  ·exact h'
  ·rw [h] at h';cases h'
end
end Dw.So
namespace Dw
open PySem
structure Kn where
 c:Nat
 ns:List Str
 deriving DecidableEq,Inhabited
inductive D where
 | non|bl (b:Bool)|int (i:Int)|str (x:Str)|tup (ds:List D)|lst (ds:List D)
  | dct (m:Bool) (ks:List Int)
  | obj (ns:Kn) (ds:List D)
 deriving Inhabited
inductive BOp where|add|sub|mul|fdiv|mod|pow|shl|shr|band|bor|bxor
 deriving DecidableEq,Inhabited
inductive COp where|eq|ne|lt|le|gt|ge|isin|notin
 deriving DecidableEq,Inhabited
inductive BI where|len|abs|min|max|sum|all|tuple|list|int|any|str|sorted
 deriving DecidableEq,Inhabited
inductive Ty where|int|bool|tuple|list|str
 deriving DecidableEq,Inhabited
inductive Tg where|one (i:Nat)|two (i j:Nat)|many (is:List Nat)
 deriving DecidableEq,Inhabited
inductive Ar where|pos (i:Nat)|kw (i:Nat)|dft (j:Nat) (d:D)
 deriving Inhabited
inductive C where
 | v (i:Nat)
 | k (d:D)
 | bin (o:BOp) (a b:C)
 | neg (a:C)
 | cmp (o:COp) (a b:C)
 | isC (neg:Bool) (a:C) (d:D)
 | and (a b:C)|or (a b:C)|not (a:C)
 | ix (a b:C)
 | sl (a:C) (lo hi:Option C)
 | tup (as:List C)|lst (as:List C)
 | call (f:Nat) (as:List C)
 | bi (b:BI) (as:List C)
 | isi (a:C) (t:Ty)
 | ifx (c a b:C)
 | compS (e:C) (nl:Nat) (ks:List Nat) (tg:Tg) (src:C)
 | compR (e:C) (nl:Nat) (ks:List Nat) (tg:Tg) (rs:List C)
 | compZ (e:C) (nl:Nat) (ks:List Nat) (tg:Tg) (a b:C)
 | compE (e:C) (nl:Nat) (ks:List Nat) (tg:Tg) (a:C)
 | compF (e c:C) (nl:Nat) (ks:List Nat) (tg:Tg) (src:C)
 | revL (a:C)
 | cv (i:Nat) (as:List C)
 | lamc (f:Nat) (as:List C) (j:Nat) (ks:List Nat)
 deriving Inhabited
inductive S where
 | frz (is:List Nat)
 | set (i:Nat) (keep:Bool) (e:C)
 | app (i:Nat) (e:C)
 | ret (e:C)
 | ite (c:C) (a b:List S)
 | forS (tg:Tg) (src:C) (body:List S)
 | forR (tg:Tg) (rs:List C) (body:List S)
 | forZ (tg:Tg) (a b:C) (body:List S)
 | ext (i:Nat) (e:C)
 | asgL (is:List Nat) (e:C)
 | pop (tg:Tg) (i:Nat)
 | whl (c:C) (body:List S)
 | brk
 | cnt
 deriving Inhabited
abbrev R:=Bool×D
abbrev En:=List (Option R)
mutual
@[simp] noncomputable def aY:D->D->Bool
 | .non,.non=>true
 | .bl a,.bl b=>a == b
 | .bl a,.int b=>(if a then (1:Int) else 0) == b
 | .int a,.bl b=>a == (if b then (1:Int) else 0)
 | .int a,.int b=>a == b
 | .str a,.str b=>a == b
 | .tup xs,.tup ys=>jK xs ys
 | .lst xs,.lst ys=>jK xs ys
 | .dct a ks,.dct b js=>a == b&&ks == js
 | .obj a xs,.obj b ys=>a == b&&jK xs ys
 | _,_=>false
@[simp] noncomputable def jK:List D->List D->Bool
 | [],[]=>true
 | x::xs,y::ys=>aY x y&&jK xs ys
 | _,_=>false
end
mutual
@[simp] noncomputable def cR:Nat->D->Bool
 | 0,.tup _=>false
 | 0,.lst _=>false
 | n+1,.tup ds=>kX n ds
 | n+1,.lst ds=>kX n ds
 | _,_=>true
@[simp] noncomputable def kX:Nat->List D->Bool
 | _,[]=>true
 | n,d::ds=>cR n d&&kX n ds
end
mutual
@[simp] noncomputable def cH:D->Bool
 | .tup ds=>fC ds
 | .lst ds=>fC ds
 | .obj _ _=>false
 | _=>true
@[simp] noncomputable def fC:List D->Bool
 | []=>true
 | d::ds=>cH d&&fC ds
end
@[simp] noncomputable def oJ:D->D->Option Bool
 | .lst xs,.lst []=>some xs.isEmpty
 | _,_=>none
noncomputable def HX:Nat:=1000000
noncomputable def lim:Nat:=2^24
noncomputable def jy:Nat:=2^4000
noncomputable def jg:Nat:=2^1048576
noncomputable def jj:Nat:=2^1048640
def iv (a b:Int):Bool:=decide ((a.natAbs<2^240/\b.natAbs<2^240)∨a.natAbs<2^64∨b.natAbs<2^64∨(a.natAbs<jj/\b.natAbs<jj))
def bf (b:Int):Bool:=decide (b≠0/\(b.natAbs<2^240∨b.natAbs<jy))
noncomputable def qSa (a b:Int):Bool:=decide (0<=b/\b<=1000/\a.natAbs<2^64)
noncomputable def hJ (a b:Int):Bool:=decide (a.natAbs<2^240/\0<=b/\b<=200)
noncomputable def g0 (is:List Int):List Int:=is.mergeSort (λa b=>decide (a<=b))
noncomputable def qT1 (i:Int):Str:=Qa (toString i)
def fV:BOp->D->D->Option R
 | .add,.int a,.int b=>some (false,.int (a+b))
 | .sub,.int a,.int b=>some (false,.int (a - b))
 | .mul,.int a,.int b=>if iv a b then some (false,.int (a * b)) else none
 | .fdiv,.int a,.int b=>if bf b then some (false,.int (a.fdiv b)) else none
 | .mod,.int a,.int b=>if bf b then some (false,.int (a.fmod b)) else none
 | .pow,.int a,.int b=>if hJ a b then some (false,.int (a^b.toNat)) else none
 | .shl,.int a,.int b=>if qSa a b then some (false,.int (a * 2^b.toNat)) else none
 | .shr,.int a,.int b=>if 0<=b then some (false,.int (a / 2^b.toNat)) else none
 | .band,.int a,.int b=>if 0<=a/\0<=b then some (false,.int ((a.toNat &&& b.toNat:Nat):Int)) else none
 | .bor,.int a,.int b=>if 0<=a/\0<=b then some (false,.int ((a.toNat ||| b.toNat:Nat):Int)) else none
 | .bxor,.int a,.int b=>if 0<=a/\0<=b then some (false,.int (((a.toNat ||| b.toNat:Nat):Int) - ((a.toNat &&& b.toNat:Nat):Int))) else none
 | .add,.lst a,.lst b=>if a.length+b.length<=lim then some (true,.lst (a++b)) else none
 | .add,.str a,.str b=>if a.length+b.length<=lim then some (false,.str (a++b)) else none
 | .add,.tup [],.tup b=>some (false,.tup b)
 | .add,.tup (x::a),.tup b=>if a.length+1+b.length<=lim then some (false,.tup (x::a++b)) else none
 | .mul,.lst a,.int b=>if a.length * b.toNat<=lim/\-(2^62)<b/\b<2^62 then some (true,.lst (List.replicate b.toNat a).flatten) else none
 | _,_,_=>none
@[simp] noncomputable def eH:List D->Option (List Int)
 | []=>some []
 | .int i::r=>(eH r).map (i::·)
 | _=>none
def il (ys:List D) (x:D):Bool:=ys.any λy=>aY y x
@[simp] def vh (n:Bool):D->D->Option R
 | x,.tup ys=>if cR 19 x&&(cH x&&fC ys) then some (false,.bl (if n then !(il ys x) else il ys x)) else none
 | x,.lst ys=>if cR 19 x&&(cH x&&fC ys) then some (false,.bl (if n then !(il ys x) else il ys x)) else none
 | _,_=>none
@[simp] def gW:COp->D->D->Option R
 | .isin,a,b=>vh false a b
 | .notin,a,b=>vh true a b
 | .eq,a,b=>if (cR 20 a||cR 20 b)&&(cH a&&cH b) then some (false,.bl (aY a b)) else none
 | .ne,a,b=>if (cR 20 a||cR 20 b)&&(cH a&&cH b) then some (false,.bl (!aY a b)) else (oJ a b).map λe=>(false,.bl (!e))
 | .lt,.int a,.int b=>some (false,.bl (decide (a<b)))
 | .le,.int a,.int b=>some (false,.bl (decide (a<=b)))
 | .gt,.int a,.int b=>some (false,.bl (decide (b<a)))
 | .ge,.int a,.int b=>some (false,.bl (decide (b<=a)))
 | _,_,_=>none
@[simp] noncomputable def ixN (n:Nat) (i:Int):Option Nat:=if 0<=i then (if i<n then some i.toNat else none) else if -(n:Int)<=i then some (i+n).toNat else none
@[simp] def iZ (xs:List D) (i:Int):Option D:=(ixN xs.length i).bind λj=>xs[j]?
@[simp] noncomputable def cutAt (n d:Nat):Option Int->Nat
 | none=>d
 | some v=>if v<0 then (v+n).toNat else min v.toNat n
@[simp] def gD (xs:List D) (lo hi:Option Int):List D:=(xs.drop (cutAt xs.length 0 lo)).take (cutAt xs.length xs.length hi - cutAt xs.length 0 lo)
@[simp] noncomputable def oT:List D->Option (List Bool)
 | []=>some []
 | .bl i::r=>(oT r).map (i::·)
 | _=>none
noncomputable def km:List Int->Option Int
 | []=>none
 | a::r=>some (r.foldl (λm x=>if x<m then x else m) a)
noncomputable def kj:List Int->Option Int
 | []=>none
 | a::r=>some (r.foldl (λm x=>if m<x then x else m) a)
noncomputable def bG:List Int->List Int->Bool
 | [],[]=>false
 | [],_::_=>true
 | _::_,[]=>false
 | x::xs,y::ys=>if x=y then bG xs ys else decide (x<y)
def lr:List D->Option (List (List Int))
 | []=>some []
 | .tup ds::r=>(eH ds).bind λis=>(lr r).map (is::·)
 | _=>none
def kR (xs:List D):Option R:=match eH xs with
 | some is=>(km is).map λm=>(false,.int m)
 | none=>none
noncomputable def g9 (ts:List (List Int)):List (List Int):=ts.mergeSort λa b=>!bG b a
def jS (xs:List D):Option R:=match eH xs with
 | some is=>if is.length<64 then some (true,.lst ((g0 is).map .int)) else none
 | none=>(lr xs).bind λts=>if ∀t∈ts,t≠[] then some (true,.lst ((g9 ts).map λt=>.tup (t.map .int))) else none
def lZ:BI->List D->Option R
 | .len,[.tup xs]=>some (false,.int xs.length)
 | .len,[.lst xs]=>some (false,.int xs.length)
 | .abs,[.int i]=>some (false,.int (if i<0 then -i else i))
 | .min,[.int i,.int j]=>some (false,.int (if j<i then j else i))
 | .max,[.int i,.int j]=>some (false,.int (if j > i then j else i))
 | .max,[.int i,.int j,.int k]=>some (false,.int (if k > (if j > i then j else i) then k else (if j > i then j else i)))
 | .min,[.lst xs]=>kR xs
 | .max,[.lst xs]=>(eH xs).bind λis=>(kj is).map λm=>(false,.int m)
 | .sum,[.lst xs]=>(eH xs).map λis=>(false,.int is.sum)
 | .all,[.lst xs]=>(oT xs).map λbs=>(false,.bl (bs.all id))
 | .sorted,[.lst xs]=>jS xs
 | .sorted,[.tup xs]=>(eH xs).bind λis=>if is.length<64 then some (true,.lst ((g0 is).map .int)) else none
 | .any,[.lst xs]=>(oT xs).map λbs=>(false,.bl (bs.any id))
 | .str,[.int i]=>if i.natAbs<2^240 then some (false,.str (qT1 i)) else none
 | .tuple,[.lst xs]=>some (false,.tup xs)
 | .tuple,[.tup xs]=>some (false,.tup xs)
 | .list,[.lst xs]=>some (true,.lst xs)
 | .list,[.tup xs]=>some (true,.lst xs)
 | .int,[.bl b]=>some (false,.int (if b then 1 else 0))
 | .int,[.int i]=>some (false,.int i)
 | _,_=>none
@[simp] noncomputable def oo:Ty->D->Bool
 | .int,.int _=>true
 | .int,.bl _=>true
 | .bool,.bl _=>true
 | .tuple,.tup _=>true
 | .list,.lst _=>true
 | .str,.str _=>true
 | _,_=>false
@[simp] def om (t:Ty):D->Option R
 | .obj _ _=>none
 | d=>some (false,.bl (oo t d))
@[simp] noncomputable def lX (neg:Bool):D->D->Option R
 | .obj _ _,.non=>some (false,.bl neg)
 | .obj _ _,_=>none
 | .non,.non=>some (false,.bl (!neg))
 | _,.non=>some (false,.bl neg)
 | .bl a,.bl b=>some (false,.bl (if a == b then !neg else neg))
 | _,.bl _=>some (false,.bl neg)
 | _,_=>none
@[simp] noncomputable def ao (Z:En) (i:Nat):Option R:=(Z[i]?).join
noncomputable def fJ (Z:En):List Nat->List D->Option En
 | [],[]=>some Z
 | i::is,d::ds=>fJ (Z.set i (some (false,d))) is ds
 | _,_=>none
def di (Z:En):Tg->D->Option En
 | .one i,d=>some (Z.set i (some (false,d)))
 | .two i j,.tup [x,y]=>some ((Z.set i (some (false,x))).set j (some (false,y)))
 | .many is,.tup ds=>fJ Z is ds
 | _,_=>none
noncomputable def fW (a b c:Int):Int:=if c > 0 then if a<b then (b - a - 1) / c+1 else 0 else if a > b then (a - b - 1) / -c+1 else 0
@[simp] def eU:List D->Option (List D)
 | [.int n]=>if -(2^62)<=n/\n<2^62 then some ((List.range n.toNat).map λi=>.int (i:Nat)) else none
 | [.int a,.int b]=>some ((List.range (b - a).toNat).map λi=>.int (a+(i:Nat)))
 | [.int a,.int b,.int c]=>if -(2^62)<=a/\a<2^62/\-(2^62)<=b/\b<2^62/\c≠0/\c.natAbs<2^30 then some ((List.range (fW a b c).toNat).map λi=>.int (a+(i:Nat) * c)) else none
 | _=>none
@[simp] noncomputable def bM:D->Option (List D)
 | .lst xs=>some xs
 | .tup xs=>some xs
 | _=>none
@[simp] noncomputable def fX:D->Option (List D)
 | .tup xs=>some xs
 | .lst xs=>some xs
 | _=>none
noncomputable def fI:Nat->List D->List D
 | _,[]=>[]
 | n,x::r=>.tup [.int (n:Nat),x]::fI (n+1) r
noncomputable def bY (a b:List D):List D:=List.zipWith (λx y=>.tup [x,y]) a b
def lC (f:En->Option R) (Z:En) (tg:Tg):List D->Option (List D)
 | []=>some []
 | x::r=>(di Z tg x).bind fun Z'=>(f Z').bind λy=>(lC f Z tg r).bind λys=>some (y.2::ys)
noncomputable def rS (a b:Option (List D)):R->Option (List D)
 | (_,.bl true)=>a
 | (_,.bl false)=>b
 | _=>none
def p7 (c f:En->Option R) (Z:En) (tg:Tg):List D->Option (List D)
 | []=>some []
 | x::r=>(di Z tg x).bind fun Z'=>(c Z').bind (rS ((f Z').bind λy=>(p7 c f Z tg r).bind λys=>some (y.2::ys)) (p7 c f Z tg r))
@[simp] def br (Z:En) (nl:Nat) (ks:List Nat):En:=List.replicate nl none++ks.map λj=>ao Z j
@[simp] noncomputable def aQ:R->Option D
 | (false,d)=>some d
 | (true,.lst ds)=>some (.lst ds)
 | _=>none
@[simp] def pk (Z:En) (c:C) (r:Option R):Option D:=match c with
 | .v i=>(ao Z i).bind aQ
 | _=>r.map (·.2)
@[simp] noncomputable def qP:R->Option D
 | (false,d)=>some d
 | (true,.dct _ ks)=>some (.dct false ks)
 | _=>none
@[simp] def ag (Z:En) (c:C) (r:Option R):Option D:=match c with
 | .v i=>(ao Z i).bind qP
 | _=>r.map (·.2)
noncomputable def CL:Nat:=1099511627776
mutual
def bW:D->Bool
 | .tup ds=>dM ds
 | .lst ds=>dM ds
 | .obj kn ds=>decide (kn.c<CL)&&dM ds
 | _=>true
def dM:List D->Bool
 | []=>true
 | d::ds=>bW d&&dM ds
end
def Bt (call:Nat->List D->Option R) (xs:List D):R->Option R
 | (false,.obj kn ds)=>if (decide (CL<=kn.c)&&(dM xs&&dM ds))=true then call (kn.c - CL) (xs++ds) else none
 | _=>none
def oH (r:R):Option R:=if bW r.2=true then some r else none
def mO (Z:En):List Nat->Option (List D)
 | []=>some []
 | k::ks=>match ao Z k with
  | some (false,d)=>(mO Z ks).map (d::·)
  | _=>none
def sD:D->Option R
 | .lst xs=>if xs.length<=lim then some (true,.lst xs.reverse) else none
 | _=>none
@[simp] noncomputable def rO:D->Option (Option Int)
 | .int i=>some (some i)
 | _=>none
@[simp] noncomputable def rN:D->Option R
 | .int i=>some (false,.int (-i))
 | _=>none
@[simp] def vg:D->D->Option R
 | .lst xs,.int i=>(iZ xs i).map (false,·)
 | .tup xs,.int i=>(iZ xs i).map (false,·)
 | _,_=>none
@[simp] def rJ (l h:Option Int):D->Option R
 | .lst xs=>some (true,.lst (gD xs l h))
 | .tup xs=>some (false,.tup (gD xs l h))
 | _=>none
@[simp] noncomputable def wu (k:Option R):R->Option R
 | (_,.bl true)=>k
 | (_,.bl false)=>some (false,.bl false)
 | _=>none
@[simp] noncomputable def Bo (k:Option R):R->Option R
 | (_,.bl true)=>some (false,.bl true)
 | (_,.bl false)=>k
 | _=>none
@[simp] noncomputable def wC:R->Option R
 | (_,.bl c)=>some (false,.bl (!c))
 | _=>none
@[simp] noncomputable def Br (a b:Option R):R->Option R
 | (_,.bl true)=>a
 | (_,.bl false)=>b
 | _=>none
@[simp] noncomputable def k4:Option R->Option R
 | some (false,d)=>some (false,d)
 | _=>none
noncomputable def arD (xs zs:List D):Ar->Option D
 | .pos i=>xs[i]?
 | .kw i=>zs[i]?
 | .dft _ d=>some d
def aK (xs zs:List D):List Ar->Option (List D)
 | []=>some []
 | a::r=>(arD xs zs a).bind λx=>(aK xs zs r).bind λys=>some (x::ys)
section
variable (call:Nat->List D->Option R)
mutual
def aa (Z:En):C->Option R
 | .v i=>k4 (ao Z i)
 | .k d=>some (false,d)
 | .bin o a b=>(pk Z a (aa Z a)).bind λx=>(pk Z b (aa Z b)).bind λy=>fV o x y
 | .neg a=>(pk Z a (aa Z a)).bind rN
 | .cmp o a b=>(pk Z a (aa Z a)).bind λx=>(pk Z b (aa Z b)).bind λy=>gW o x y
 | .isC n a d=>(pk Z a (aa Z a)).bind λx=>lX n x d
 | .and a b=>(aa Z a).bind (wu (aa Z b))
 | .or a b=>(aa Z a).bind (Bo (aa Z b))
 | .not a=>(aa Z a).bind wC
 | .ix a b=>(pk Z a (aa Z a)).bind λx=>(pk Z b (aa Z b)).bind λy=>vg x y
 | .sl a lo hi=>(pk Z a (aa Z a)).bind λx=>(gO Z lo).bind λl=>(gO Z hi).bind λh=>rJ l h x
 | .tup as=>(dC Z as).bind λxs=>if xs.length<=lim then some (false,.tup xs) else none
 | .lst as=>(dC Z as).bind λxs=>if xs.length<=lim then some (true,.lst xs) else none
 | .call f as=>(fv Z as).bind λxs=>call f xs
 | .bi b as=>(cu Z as).bind λxs=>lZ b xs
 | .isi a t=>(pk Z a (aa Z a)).bind (om t)
 | .ifx c a b=>(aa Z c).bind (Br (aa Z a) (aa Z b))
 | .compS e nl ks tg src=>(pk Z src (aa Z src)).bind λx=>(bM x).bind λits=>(lC (fun Z'=>aa Z' e) (br Z nl ks) tg its).bind λys=>some (true,.lst ys)
 | .compR e nl ks tg rs=>(cu Z rs).bind λx=>(eU x).bind λits=>if its.length<=lim then (lC (fun Z'=>aa Z' e) (br Z nl ks) tg its).bind λys=>some (true,.lst ys) else none
 | .compZ e nl ks tg a b=>(aa Z a).bind λx=>(aa Z b).bind λy=>(bM x.2).bind λxs=>(fX y.2).bind λys =>
   (lC (fun Z'=>aa Z' e) (br Z nl ks) tg (bY xs ys)).bind λzs=>some (true,.lst zs)
 | .compE e nl ks tg a=>(aa Z a).bind λx=>(bM x.2).bind λxs=>(lC (fun Z'=>aa Z' e) (br Z nl ks) tg (fI 0 xs)).bind λzs=>some (true,.lst zs)
 | .compF e c nl ks tg src=>(aa Z src).bind λx=>(bM x.2).bind λits=>(p7 (fun Z'=>aa Z' c) (fun Z'=>aa Z' e) (br Z nl ks) tg its).bind λys=>some (true,.lst ys)
 | .revL a=>(pk Z a (aa Z a)).bind sD
 | .cv i as=>(dC Z as).bind λxs=>(ao Z i).bind (Bt call xs)
 | .lamc f as j ks=>(dC Z as).bind λxs=>(mO Z ks).bind λds=>(call f (xs++[.obj ⟨CL+j,[]⟩ ds])).bind oH
termination_by structural c=>c
def dC (Z:En):List C->Option (List D)
 | []=>some []
 | a::r=>(aa Z a).bind λx=>(dC Z r).bind λxs=>some (x.2::xs)
termination_by structural c=>c
def cu (Z:En):List C->Option (List D)
 | []=>some []
 | a::r=>(pk Z a (aa Z a)).bind λx=>(cu Z r).bind λxs=>some (x::xs)
termination_by structural c=>c
def fv (Z:En):List C->Option (List D)
 | []=>some []
 | a::r=>(ag Z a (aa Z a)).bind λx=>(fv Z r).bind λxs=>some (x::xs)
termination_by structural c=>c
def gO (Z:En):Option C->Option (Option Int)
 | none=>some none
 | some c=>(pk Z c (aa Z c)).bind rO
termination_by structural c=>c
end
inductive Ou where|nx (Z:En)|rt (r:R)|bk (Z:En)|ct (Z:En)
@[simp] def frz1 (Z:En) (i:Nat):En:=match ao Z i with|some (true,.lst ds)=>Z.set i (some (false,.lst ds))|_=>Z
@[simp] noncomputable def eI (keep:Bool) (r:R):R:=(keep&&r.1,r.2)
def kY (f:En->Option Ou) (tg:Tg):List D->En->Option Ou
 | [],Z=>some (.nx Z)
 | x::r,Z=>(di Z tg x).bind fun Z1=>(f Z1).bind λo=>match o with
   | .nx Z2=>kY f tg r Z2
   | .ct Z2=>kY f tg r Z2
   | .bk Z2=>some (.nx Z2)
   | .rt v=>some (.rt v)
@[simp] noncomputable def wz (a b:Option Ou):R->Option Ou
 | (_,.bl true)=>a
 | (_,.bl false)=>b
 | _=>none
@[simp] def iO (Z:En) (i:Nat) (e:D):Option Ou:=match ao Z i with
 | some (true,.lst xs)=>if xs.length<lim then some (.nx (Z.set i (some (true,.lst (xs++[e]))))) else none
 | _=>none
@[simp] noncomputable def wg:R->Option R
 | (false,d)=>some (false,d)
 | (true,.lst ds)=>some (true,.lst ds)
 | _=>none
@[simp] def fi (Z:En) (c:C) (r:Option R):Option R:=match c with
 | .v i=>(ao Z i).bind wg
 | _=>r
@[simp] noncomputable def sH (k:En->Option Ou):Ou->Option Ou
 | .nx Z=>k Z
 | .rt r=>some (.rt r)
 | .bk Z=>some (.bk Z)
 | .ct Z=>some (.ct Z)
@[simp] noncomputable def k0 (k:En->Option Ou):Ou->Option Ou
 | .nx Z=>k Z
 | .ct Z=>k Z
 | .bk Z=>some (.nx Z)
 | .rt r=>some (.rt r)
@[simp] noncomputable def sg (Z:En) (k:Option Ou):R->Option Ou
 | (_,.bl true)=>k
 | (_,.bl false)=>some (.nx Z)
 | _=>none
def iw (c:En->Option R) (b:En->Option Ou):Nat->En->Option Ou
 | 0,_=>none
 | n+1,Z=>(c Z).bind (sg Z ((b Z).bind (k0 (iw c b n))))
@[simp] def oA (Z:En) (i:Nat):R->Option Ou
 | (true,.lst ys)=>match ao Z i with
  | some (true,.lst xs)=>if xs.length+ys.length<=lim then some (.nx (Z.set i (some (true,.lst (xs++ys))))) else none
  | _=>none
 | (false,.tup ys)=>match ao Z i with
  | some (true,.lst xs)=>if xs.length+ys.length<=lim then some (.nx (Z.set i (some (true,.lst (xs++ys))))) else none
  | _=>none
 | _=>none
@[simp] def wx (Z:En) (is:List Nat):R->Option Ou
 | (_,.lst ds)=>(fJ Z is ds).map .nx
 | (_,.tup ds)=>(fJ Z is ds).map .nx
 | _=>none
@[simp] def oP (Z:En) (tg:Tg) (i:Nat):Option Ou:=match ao Z i with
 | some (true,.lst xs)=>(xs.getLast?).bind λd=>(di (Z.set i (some (true,.lst xs.dropLast))) tg d).map .nx
 | _=>none
@[simp] noncomputable def qTW:R->Option (List D)
 | (true,.lst xs)=>some xs
 | _=>none
mutual
def dQ (Z:En):S->Option Ou
 | .frz is=>some (.nx (is.foldl frz1 Z))
 | .set i keep e=>(aa call Z e).bind λr=>some (.nx (Z.set i (some (eI keep r))))
 | .app i e=>(aa call Z e).bind λx=>iO Z i x.2
 | .ret e=>(fi Z e (aa call Z e)).bind λr=>some (.rt r)
 | .ite c a b=>(aa call Z c).bind (wz (ak Z a) (ak Z b))
 | .forS tg src body=>(aa call Z src).bind λx=>(bM x.2).bind λits=>kY (fun Z'=>ak Z' body) tg its Z
 | .forR tg rs body=>(cu call Z rs).bind λx=>(eU x).bind λits=>kY (fun Z'=>ak Z' body) tg its Z
 | .ext i e=>(aa call Z e).bind (oA Z i)
 | .asgL is e=>(aa call Z e).bind (wx Z is)
 | .pop tg i=>oP Z tg i
 | .whl c body=>iw (fun Z'=>aa call Z' c) (fun Z'=>ak Z' body) jy Z
 | .brk=>some (.bk Z)
 | .cnt=>some (.ct Z)
 | .forZ tg a b body=>(aa call Z a).bind λx=>(aa call Z b).bind λy=>(bM x.2).bind λxs=>(fX y.2).bind λys=>kY (fun Z'=>ak Z' body) tg (bY xs ys) Z
termination_by structural c=>c
def ak (Z:En):List S->Option Ou
 | []=>some (.nx Z)
 | a::r=>(dQ Z a).bind (sH fun Z'=>ak Z' r)
termination_by structural c=>c
end
end
section
variable (call:Nat->List D->Option R) (Z:En)
def cK (e:C) (Z:En) (tg:Tg) (its:List D):Option (List D):=lC (fun Z'=>aa call Z' e) Z tg its
def iE (c e:C) (Z:En) (tg:Tg) (its:List D):Option (List D):=p7 (fun Z'=>aa call Z' c) (fun Z'=>aa call Z' e) Z tg its
def cB (body:List S) (tg:Tg) (its:List D) (Z:En):Option Ou:=kY (fun Z'=>ak call Z' body) tg its Z
@[simp] theorem w9 (i):aa call Z (.v i)=k4 (ao Z i):=rfl
@[simp] theorem y9 (o a b):aa call Z (.bin o a b)=(pk Z a CM).bind λx=>(pk Z b (aa call Z b)).bind λy=>fV o x y:=rfl
@[simp] theorem zb (a):aa call Z (.neg a)=(pk Z a CM).bind rN:=rfl
@[simp] theorem tP (o a b):aa call Z (.cmp o a b)=(pk Z a CM).bind λx=>(pk Z b (aa call Z b)).bind λy=>gW o x y:=rfl
@[simp] theorem tR (n a d):aa call Z (.isC n a d)=(pk Z a CM).bind λx=>lX n x d:=rfl
@[simp] theorem y8 (a b):aa call Z (.and a b)=(aa call Z a).bind (wu (aa call Z b)):=rfl
@[simp] theorem xw (a b):aa call Z (.or a b)=(aa call Z a).bind (Bo (aa call Z b)):=rfl
@[simp] theorem zc (a):aa call Z (.not a)=(aa call Z a).bind wC:=rfl
@[simp] theorem xu (a b):aa call Z (.ix a b)=(pk Z a CM).bind λx=>(pk Z b (aa call Z b)).bind λy=>vg x y:=rfl
@[simp] theorem xy (a lo hi):aa call Z (.sl a lo hi)=(pk Z a CM).bind λx=>(gO call Z lo).bind λl=>(gO call Z hi).bind λh=>rJ l h x:=rfl
@[simp] theorem iF (as):aa call Z (.tup as)=(dC call Z as).bind λxs=>if xs.length<=lim then some (false,.tup xs) else none:=rfl
@[simp] theorem za (as):aa call Z (.lst as)=(dC call Z as).bind λxs=>if xs.length<=lim then some (true,.lst xs) else none:=rfl
@[simp] theorem lR (f as):aa call Z (.call f as)=(fv call Z as).bind λxs=>call f xs:=rfl
@[simp] theorem yN:fv call Z []=some []:=rfl
@[simp] theorem iU (a r):fv call Z (a::r)=(ag Z a CM).bind λx=>(fv call Z r).bind λxs=>some (x::xs):=rfl
@[simp] theorem sU (b as):aa call Z (.bi b as)=(cu call Z as).bind λxs=>lZ b xs:=rfl
@[simp] theorem qOw (a t):aa call Z (.isi a t)=(pk Z a CM).bind (om t):=rfl
@[simp] theorem tQ (c a b):aa call Z (.ifx c a b)=(aa call Z c).bind (Br CM (aa call Z b)):=rfl
@[simp] theorem AU (e nl ks tg src):aa call Z (.compS e nl ks tg src)=(pk Z src (aa call Z src)).bind λx=>(bM x).bind λits=>(cK call e (br Z nl ks) tg its).bind λys=>some (true,.lst ys):=rfl
@[simp] theorem AR (e nl ks tg rs):aa call Z (.compR e nl ks tg rs)=(cu call Z rs).bind λx=>(eU x).bind λits=>if its.length<=lim then (cK call e (br Z nl ks) tg its).bind λys=>some (true,.lst ys) else none:=rfl
@[simp] theorem AV (e nl ks tg a b):aa call Z (.compZ e nl ks tg a b)=(aa call Z a).bind λx=>(aa call Z b).bind λy=>(bM x.2).bind λxs=>(fX y.2).bind λys =>
   (cK call e (br Z nl ks) tg (bY xs ys)).bind λzs=>some (true,.lst zs):=rfl
@[simp] theorem AQ (e nl ks tg a):aa call Z (.compE e nl ks tg a)=(aa call Z a).bind λx=>(bM x.2).bind λxs=>(cK call e (br Z nl ks) tg (fI 0 xs)).bind λzs=>some (true,.lst zs):=rfl
@[simp] theorem nH (e c nl ks tg src):aa call Z (.compF e c nl ks tg src)=(aa call Z src).bind λx=>(bM x.2).bind λits=>(iE call c e (br Z nl ks) tg its).bind λys=>some (true,.lst ys):=rfl
@[simp] theorem zA (a):aa call Z (.revL a)=(pk Z a CM).bind sD:=rfl
@[simp] theorem xt (i as):aa call Z (.cv i as)=(dC call Z as).bind λxs=>(ao Z i).bind (Bt call xs):=rfl
@[simp] theorem qLc (f as j ks):aa call Z (.lamc f as j ks)=(dC call Z as).bind λxs=>(mO Z ks).bind λds=>(call f (xs++[.obj ⟨CL+j,[]⟩ ds])).bind oH:=rfl
@[simp] theorem jx:dC call Z []=some []:=rfl
@[simp] theorem dz (a r):dC call Z (a::r)=(aa call Z a).bind λx=>(dC call Z r).bind λxs=>some (x.2::xs):=rfl
@[simp] theorem gI:cu call Z []=some []:=rfl
@[simp] theorem ux (a r):cu call Z (a::r)=(pk Z a CM).bind λx=>(cu call Z r).bind λxs=>some (x::xs):=rfl
@[simp] theorem qRR:gO call Z none=some none:=rfl
@[simp] theorem zB (c):gO call Z (some c)=(pk Z c (aa call Z c)).bind rO:=rfl
@[simp] theorem yR (i keep e):dQ call Z (.set i keep e)=(aa call Z e).bind λr=>some (.nx (Z.set i (some (eI keep r)))):=rfl
@[simp] theorem yO (i e):dQ call Z (.app i e)=(aa call Z e).bind λx=>iO Z i x.2:=rfl
@[simp] theorem qd (e):dQ call Z (.ret e)=(fi Z e (aa call Z e)).bind λr=>some (.rt r):=rfl
@[simp] theorem yP (c a b):dQ call Z (.ite c a b)=(aa call Z c).bind (wz (ak call Z a) (ak call Z b)):=rfl
@[simp] theorem zD (tg src body):dQ call Z (.forS tg src body)=(aa call Z src).bind λx=>(bM x.2).bind λits=>cB call body tg its Z:=rfl
@[simp] theorem zC (tg rs body):dQ call Z (.forR tg rs body)=(cu call Z rs).bind λx=>(eU x).bind λits=>cB call body tg its Z:=rfl
@[simp] theorem tS (i e):dQ call Z (.ext i e)=(aa call Z e).bind (oA Z i):=rfl
@[simp] theorem tZ (is e):dQ call Z (.asgL is e)=(aa call Z e).bind (wx Z is):=rfl
@[simp] theorem yQ (tg i):dQ call Z (.pop tg i)=oP Z tg i:=rfl
@[simp] theorem yS (c body):dQ call Z (.whl c body)=iw (fun Z'=>aa call Z' c) (fun Z'=>ak call Z' body) jy Z:=rfl
@[simp] theorem qSV:dQ call Z .brk=some (.bk Z):=rfl
@[simp] theorem qSU:dQ call Z .cnt=some (.ct Z):=rfl
@[simp] theorem zE (tg a b body):dQ call Z (.forZ tg a b body)=(aa call Z a).bind λx=>(aa call Z b).bind λy=>(bM x.2).bind λxs=>(fX y.2).bind λys=>cB call body tg (bY xs ys) Z:=rfl
@[simp] theorem eY (a r):ak call Z (a::r)=(dQ call Z a).bind (sH fun Z'=>ak call Z' r):=rfl
theorem A0 (body tg x r):cB call body tg (x::r) Z=(di Z tg x).bind fun Z1=>(ak call Z1 body).bind λo=>k0 (cB call body tg r) o:=by
 show (di Z tg x).bind _=(di Z tg x).bind _
 congr
theorem qFP (e tg x r):cK call e Z tg (x::r)=(di Z tg x).bind fun Z1=>(aa call Z1 e).bind λy=>(cK call e Z tg r).bind λys=>some (y.2::ys):=rfl
theorem qE4 (c e tg x r):iE call c e Z tg (x::r)=(di Z tg x).bind fun Z1=>(aa call Z1 c).bind (rS ((aa call Z1 e).bind λy=>(iE call c e Z tg r).bind λys=>some (y.2::ys)) (iE call c e Z tg r)):=rfl
theorem f7 {α:Type}{e:C}{tg:Tg}(enc g:α->D):∀(l:List α),(∀x∈l,∃Z' b,di Z tg (enc x)=some Z'/\aa call Z' e=some (b,g x))->cK call e Z tg (l.map enc)=some (l.map g)
 | [],_=>rfl
 | x::r,h=>by
  obtain⟨Z',b,h1,h2⟩:=h x bq
  simp [qFP,h1,h2,f7 enc g r λy hy=>h y (bK _ hy)]
end
theorem nK {call:Nat->List D->Option R}{Z:En}{α:Type}{c e:C}{tg:Tg}(enc g:α->D) (p:α->Bool):∀(l:List α),(∀x∈l,∃Z',di Z tg (enc x)=some Z'/\aa call Z' c=some (false,.bl (p x))/\(p x=true->∃b,aa call Z' e=some (b,g x)))->iE call c e Z tg (l.map enc)=some ((l.filter p).map g)
 | [],_=>rfl
 | x::r,h=>by
  obtain⟨Z',h1,h2,h3⟩:=h x bq
  have ih:=nK enc g p r λy hy=>h y (bK _ hy)
  rw [cP,qE4,h1,bN,h2,bN,ih]
  cases hp:p x with
  | false=>rw [List.filter_cons_of_neg (by simp [hp])];rfl
  | true =>
   obtain⟨b,hb⟩:=h3 hp
   rw [List.filter_cons_of_pos hp]
   show (aa call Z' e).bind _=_
   rw [hb]
   rfl
theorem uQ {α:Type}(f:α->Int):∀l:List α,eH (l.map λx=>.int (f x))=some (l.map f)
 | []=>rfl
 | x::r=>by simp [uQ f r]
theorem qI9 (xs:List D):∀(n i:Nat),(fI n xs)[i]?=xs[i]?.map λx=>.tup [.int ((n+i:Nat):Int),x]:=by
 induction xs with
 | nil=>intro n i;rfl
 | cons x r ih =>
  intro n i
  cases i with
  | zero=>rfl
  | succ i=>show (fI (n+1) r)[i]?=_;rw [ih,rz,show n+1+i=n+(i+1) by omega]
theorem uY (xs:List D):∀n,(fI n xs).length=xs.length:=by
 induction xs with
 | nil=>intro n;rfl
 | cons x r ih=>intro n;show (fI (n+1) r).length+1=_;rw [ih];rfl
structure Fd where
 np:Nat
 ns:Nat
 body:List S
@[simp] noncomputable def qT6:Ou->Option R
 | .nx _=>some (false,.non)
 | .rt r=>some r
 | _=>none
@[simp] noncomputable def cj:Bool->List D->En
 | _,[]=>[]
 | true,.dct _ _::r=>none::cj true r
 | false,.dct m ks::r=>some (true,.dct m ks)::cj true r
 | b,d::r=>some (false,d)::cj b r
def jl (call:Nat->List D->Option R) (fd:Fd) (as:List D):Option R:=
 if as.length=fd.np then (ak call (cj false as++List.replicate (fd.ns - fd.np) none) fd.body).bind qT6 else none
@[simp] def qT7:Ou->Option R
 | .nx Z=>(ao Z 0).bind λr=>(qTW r).map λxs=>(true,.lst xs)
 | _=>none
def qTN (call:Nat->List D->Option R) (fd:Fd):List D->Option R
 | .lst xs::as=>if as.length+1=fd.np then (ak call (some (true,.lst xs)::as.map (λd=>some (false,d))++List.replicate (fd.ns - fd.np) none) fd.body).bind qT7 else none
 | _=>none
def aH (tab:List Fd):Nat->Nat->List D->Option R
 | 0,_,_=>none
 | n+1,f,as=>match tab[f]? with
  | some fd=>jl (aH tab n) fd as
  | none=>if HX<=f then (match tab[f - HX]? with|some fd=>qTN (aH tab n) fd as|none=>none) else none
theorem nC {tab:List Fd}{f:Nat}{fd:Fd}(h:tab[f]?=some fd) (n:Nat) (as:List D):aH tab (n+1) f as=jl (aH tab n) fd as:=by
 rw [aH,h]
end Dw
namespace Dw
open PySem
structure Gx where
 defs:List (Str×Nat)
 cons:List (Str×Int):=[]
 dfl:List (Str×Nat×Int):=[]
noncomputable def wL (x:Str) (n:Nat):Option BI:=
 if x=Qa "sorted" then (if n=1 then some .sorted else none) else none
def rM (x:Str) (n:Nat):Option BI:=
 if x=Qa "len" then (if n=1 then some .len else none) else
 if x=Qa "min" then (if n=2∨n=1 then some .min else none) else
 if x=Qa "max" then (if n=2∨n=3∨n=1 then some .max else none) else
 if x=Qa "sum" then (if n=1 then some .sum else none) else
 if x=Qa "tuple" then (if n=1 then some .tuple else none) else
 if x=Qa "list" then (if n=1 then some .list else none) else
 if x=Qa "int" then (if n=1 then some .int else none) else wL x n
noncomputable def ov (x:Str):Option Ty:=
 if x=Qa "int" then some .int else
 if x=Qa "bool" then some .bool else
 if x=Qa "tuple" then some .tuple else
 if x=Qa "list" then some .list else
 if x=Qa "str" then some .str else none
noncomputable def wN:Operator->Option BOp
 | .Add=>some .add|.Sub=>some .sub|.Mult=>some .mul|.FloorDiv=>some .fdiv|.Mod=>some .mod|.Pow=>some .pow|.BitAnd=>some .band|.BitOr=>some .bor|_=>none
noncomputable def w8:CmpOp->Option COp
 | .Eq=>some .eq|.NotEq=>some .ne|.Lt=>some .lt|.LtE=>some .le|.Gt=>some .gt|.GtE=>some .ge|_=>none
noncomputable def qG:Const->Option D
 | .int i=>some (.int i)|.bool b=>some (.bl b)|.none=>some .non|.str x=>some (.str x)|_=>none
noncomputable def bQ (N:List Str) (x:Str):Option Nat:=N.findIdx? (· == x)
noncomputable def jT (sc:Scope) (x:Str):Bool:=sc.names.lookup x == some .local||sc.names.lookup x == some .cell||sc.names.lookup x == some .free
noncomputable def bJ (sc:Scope) (x:Str):Bool:=sc.names.lookup x == some .globalImplicit
noncomputable def f6 (x:Str):Bool:=x != Qa "__debug__"&&x != Qa "__classdict__"&&x != Qa "__name__"
def dw (sc:Scope) (N:List Str) (x:Str):Option Nat:=if jT sc x&&f6 x then bQ N x else none
noncomputable def jP (sc:Scope) (x:Str):Bool:=sc.names.lookup x == some .cell||sc.names.lookup x == some .free
def iu (sc:Scope) (N:List Str) (x:Str):Option Nat:=if jP sc x then dw sc N x else none
noncomputable def aN (sc:Scope):List Str:=(sc.names.filter λp=>p.2 == .local&&p.1 != Qa ".0").map (·.1)
noncomputable def aF (sc:Scope):List Str:=(sc.names.filter λp=>p.2 == .free).map (·.1)
def qo (sc:Scope):Bool:=sc.kind == .function&&sc.names.all (λp=>p.2 != .cell)&&decide ((sc.names.map (·.1)).Nodup)&&(aN sc++aF sc).all f6
noncomputable def cI {α β:Type}(f:α->Option β):List α->Option (List β)
 | []=>some []
 | a::r=>(f a).bind λx=>(cI f r).bind λxs=>some (x::xs)
def eC (sc:Scope) (N:List Str):Expr->Option Nat
 | .Name x _=>if sc.names.lookup x == some .local||sc.names.lookup x == some .cell then bQ N x else none
 | _=>none
def fD (sc:Scope) (N:List Str):Expr->Option Tg
 | .Name x _=>if sc.names.lookup x == some .local||sc.names.lookup x == some .cell then (bQ N x).map .one else none
 | .Tuple [.Name x _,.Name y _] _ _=>if (sc.names.lookup x == some .local||sc.names.lookup x == some .cell)&&(sc.names.lookup y == some .local||sc.names.lookup y == some .cell)&&x != y then
   (bQ N x).bind λi=>(bQ N y).bind λj=>some (.two i j) else none
 | _=>none
def fB (sc:Scope) (N:List Str) (e:Expr):Option Tg:=match fD sc N e with
 | some t=>some t
 | none=>match e with
  | .Tuple es _ _=>(cI (eC sc N) es).map .many
  | _=>none
inductive Sr where|seq (e:Expr)|rng (es:List Expr)|zip (a b:Expr)|rev (es:List Expr)|enm (a:Expr)
def jR (sc:Scope):Expr->Sr
 | .Call (.Name f p) as [] pos =>
  if bJ sc f&&f == Qa "range"&&(as.length == 1||as.length == 2||as.length == 3) then .rng as else
  if bJ sc f&&f == Qa "zip" then (match as with|[a,b]=>.zip a b|_=>.seq (.Call (.Name f p) as [] pos)) else
  if bJ sc f&&f == Qa "reversed" then (match as with
   | [.Call (.Name h _) [a] [] _]=>if bJ sc h&&h == Qa "range" then .rev [a] else .seq (.Call (.Name f p) as [] pos)
   | _=>.seq (.Call (.Name f p) as [] pos)) else
  if bJ sc f&&f == Qa "enumerate" then (match as with|[a]=>.enm a|_=>.seq (.Call (.Name f p) as [] pos)) else .seq (.Call (.Name f p) as [] pos)
 | e=>.seq e
noncomputable def mT:Tg->Bool
 | .two _ _=>true
 | _=>false
variable (G:Gx)
def sE (sc:Scope) (f:Str):List Expr->Option Expr
 | [.Call (.Name h _) [a] [] _]=>if f == Qa "list"&&h == Qa "reversed"&&bJ sc h&&(G.defs.lookup h).isNone then some a else none
 | _=>none
noncomputable def nO (f:Str) (n:Nat):List C:=match G.dfl.lookup f with
 | some (m,d)=>if n=m then [.k (.int d)] else []
 | none=>[]
def ku (sc:Scope) (x:Str):Option C:=if bJ sc x&&f6 x then (G.cons.lookup x).map λi=>.k (.int i) else none
noncomputable def oB (op:CmpOp):Expr->Option (Bool×Const)
 | .Constant c _ _=>match op with|.Is=>some (false,c)|.IsNot=>some (true,c)|_=>none
 | _=>none
def oQ:Expr->Option (Option Expr×Option Expr)
 | .Slice lo hi none _=>some (lo,hi)
 | _=>none
mutual
def cE:Nat->Scope->List Str->Expr->Option C
 | 0,_,_,_=>none
 | n+1,sc,N,e=>match e with
  | .Name x _=>match dw sc N x with|some i=>some (.v i)|none=>ku G sc x
  | .Constant c _ _=>(qG c).map .k
  | .BinOp a op b _=>(wN op).bind λo=>(cE n sc N a).bind λx=>(cE n sc N b).bind λy=>some (.bin o x y)
  | .UnaryOp .USub a _=>(cE n sc N a).map .neg
  | .UnaryOp .Not a _=>(cE n sc N a).map .not
  | .BoolOp .And es _=>if 2<=es.length then jO n sc N es else none
  | .BoolOp .Or es _=>if 2<=es.length then kr n sc N es else none
  | .Compare a [op] [b] _=>(oB op b).elim ((w8 op).bind λo=>(cE n sc N a).bind λx=>(cE n sc N b).bind λy=>some (.cmp o x y)) λq=>(qG q.2).bind λd=>(cE n sc N a).bind λx=>some (.isC q.1 x d)
  | .Subscript a b _=>(oQ b).elim ((cE n sc N a).bind λx=>(cE n sc N b).bind λy=>some (.ix x y)) λq=>(cE n sc N a).bind λx=>(cO n sc N q.1).bind λl=>(cO n sc N q.2).bind λh=>some (.sl x l h)
  | .Tuple es _ _=>(fM n sc N es).map .tup
  | .List es _=>(fM n sc N es).map .lst
  | .Call (.Name f _) as [] _=>if bJ sc f&&f6 f then oU n sc N f as else (dw sc N f).bind λi=>if as.isEmpty then none else (fM n sc N as).map (.cv i)
  | .IfExp t a b _=>(cE n sc N t).bind λc=>(cE n sc N a).bind λx=>(cE n sc N b).bind λy=>some (.ifx c x y)
  | e=>cX n sc N e
def cX:Nat->Scope->List Str->Expr->Option C
 | 0,_,_,_=>none
 | n+1,sc,N,e=>match e with
  | .ListComp e [⟨tg,it,fs,0⟩] sc' _ =>
   if qo sc' then
    (fB sc' CQ tg).bind λt=>(cI (iu sc N) (aF sc')).bind λks=>(cE n sc' CQ e).bind λc =>
     match fs with
     | []=>match jR sc it with
       | .seq s=>(cE n sc N s).bind λx=>some (.compS c (aN sc').length ks t x)
       | .rng rs=>(fM n sc N rs).bind λxs=>some (.compR c (aN sc').length ks t xs)
       | .zip a b=>if mT t then (cE n sc N a).bind λx=>(cE n sc N b).bind λy=>some (.compZ c (aN sc').length ks t x y) else none
       | .rev _=>none
       | .enm a=>if mT t then (cE n sc N a).bind λx=>some (.compE c (aN sc').length ks t x) else none
     | [cd]=>(cE n sc' CQ cd).bind λcc=>match jR sc it with
       | .seq s=>(cE n sc N s).bind λx=>some (.compF c cc (aN sc').length ks t x)
       | _=>none
     | _=>none
   else none
  | _=>none
def oU:Nat->Scope->List Str->Str->List Expr->Option C
 | 0,_,_,_,_=>none
 | n+1,sc,N,f,as=>match G.defs.lookup f with
  | some i=>if as.isEmpty then none else (fM n sc N as).map λxs=>.call i (xs++nO G f as.length)
  | none=>match f == Qa "isinstance",as with
   | true,[a,.Name t _]=>if bJ sc t&&(G.defs.lookup t).isNone then (ov t).bind λty=>(cE n sc N a).bind λx=>some (.isi x ty) else none
   | false,as=>match sE G sc f as with
    | some a=>(cE n sc N a).map .revL
    | none=>(rM f as.length).bind λb=>(fM n sc N as).map (.bi b)
   | _,_=>none
def fM:Nat->Scope->List Str->List Expr->Option (List C)
 | 0,_,_,_=>none
 | n+1,sc,N,es=>match es with
  | []=>some []
  | a::r=>(cE n sc N a).bind λx=>(fM n sc N r).bind λxs=>some (x::xs)
def cO:Nat->Scope->List Str->Option Expr->Option (Option C)
 | 0,_,_,_=>none
 | n+1,sc,N,o=>match o with
  | none=>some none
  | some e=>(cE n sc N e).map some
def jO:Nat->Scope->List Str->List Expr->Option C
 | 0,_,_,_=>none
 | n+1,sc,N,es=>match es with
  | [a]=>cE n sc N a
  | a::b::r=>(cE n sc N a).bind λx=>(jO n sc N (b::r)).bind λy=>some (.and x y)
  | []=>none
def kr:Nat->Scope->List Str->List Expr->Option C
 | 0,_,_,_=>none
 | n+1,sc,N,es=>match es with
  | [a]=>cE n sc N a
  | a::b::r=>(cE n sc N a).bind λx=>(kr n sc N (b::r)).bind λy=>some (.or x y)
  | []=>none
end
def gY:Nat->List Str->List Stmt->List Nat
 | 0,_,_=>[]
 | _+1,_,[]=>[]
 | n+1,N,st::r=>(match st with
  | .Assign [.Subscript (.Name x _) _ _] _ _=>(bQ N x).toList
  | .Expr (.Call (.Attribute (.Name x _) m _) _ _ _) _=>if m == Qa "append"||m == Qa "extend"||m == Qa "pop" then (bQ N x).toList else []
  | .Assign _ (.Call (.Attribute (.Name x _) m _) _ _ _) _=>if m == Qa "pop" then (bQ N x).toList else []
  | .Assign _ (.Subscript (.Call (.Attribute (.Name x _) m _) _ _ _) _ _) _=>if m == Qa "pop" then (bQ N x).toList else []
  | .Expr (.Call (.Name _ _) (.Name x _::_) _ _) _=>(bQ N x).toList
  | .If _ a b _=>gY n N a++gY n N b
  | .For _ _ b _ _=>gY n N b
  | .While _ b _ _=>gY n N b
  | _=>[])++gY n N r
noncomputable def fN (c:C) (r:List Nat):List Nat:=match c with
 | .v _=>[]
 | _=>r
mutual
def aZ:C->List Nat
 | .v i=>[i]
 | .k _=>[]
 | .bin _ a b=>fN a (aZ a)++fN b (aZ b)
 | .neg a=>fN a (aZ a)
 | .cmp _ a b=>fN a (aZ a)++fN b (aZ b)
 | .isC _ a _=>fN a (aZ a)
 | .and a b=>aZ a++aZ b
 | .or a b=>aZ a++aZ b
 | .not a=>aZ a
 | .ix a b=>fN a (aZ a)++fN b (aZ b)
 | .sl a _ _=>fN a (aZ a)
 | .tup as=>kQ as
 | .lst as=>kQ as
 | .call _ as=>kQ as
 | .bi _ as=>ox as
 | .isi a _=>fN a (aZ a)
 | .ifx c a b=>aZ c++aZ a++aZ b
 | .compS e nl ks _ s=>fN s (aZ s)++(aZ e).filterMap λj=>if nl<=j then ks[j - nl]? else none
 | .compR e nl ks _ rs=>ox rs++(aZ e).filterMap λj=>if nl<=j then ks[j - nl]? else none
 | .compZ e nl ks _ a b=>aZ a++aZ b++(aZ e).filterMap λj=>if nl<=j then ks[j - nl]? else none
 | .compE e nl ks _ a=>aZ a++(aZ e).filterMap λj=>if nl<=j then ks[j - nl]? else none
 | .compF e c nl ks _ a=>aZ a++(aZ e++aZ c).filterMap λj=>if nl<=j then ks[j - nl]? else none
 | .revL a=>fN a (aZ a)
 | .cv _ as=>kQ as
 | .lamc _ as _ _=>kQ as
termination_by structural c=>c
def kQ:List C->List Nat
 | []=>[]
 | a::r=>aZ a++kQ r
termination_by structural c=>c
def ox:List C->List Nat
 | []=>[]
 | a::r=>fN a (aZ a)++ox r
termination_by structural c=>c
end
noncomputable def gG (mt:List Nat) (is:List Nat) (s:S):List S:=match is.filter (mt.contains ·) with
 | []=>[s]
 | js=>[.frz js,s]
def oz (n:Nat) (sc:Scope) (N:List Str) (mt:List Nat) (x:Str) (e:Expr):Option (List S):=
 if sc.names.lookup x == some .local||sc.names.lookup x == some .cell then (bQ N x).bind λi=>if i == 0&&mt.contains i then none else (cE G n sc N e).bind λc=>some (gG mt (aZ c) (.set i (mt.contains i) c)) else none
noncomputable def pD:Expr->Option Str
 | .Name x _=>some x
 | _=>none
noncomputable def oy:Expr->Option (Str×Str×Pos)
 | .Attribute (.Name x _) m p2=>some (x,m,p2)
 | _=>none
def rR:Expr->Option (Str×Str×Pos×Pos)
 | .Call f [] [] p3=>(oy f).map λy=>(y.1,y.2.1,y.2.2,p3)
 | _=>none
noncomputable def sh:Expr->Expr->Option (List Expr)
 | .Tuple es _ _,.Call _ _ _ _=>some es
 | .Tuple es _ _,.Name _ _=>some es
 | _,_=>none
def Bv (n:Nat) (sc:Scope) (N:List Str) (mt:List Nat) (tg e:Expr):Option (List S):=match rR e with
 | some (x,m,p2,p3)=>if m == Qa "pop"&&p2.endLine == p3.line then (fB sc N tg).bind λt=>(dw sc N x).bind λi=>some [.pop t i] else (pD tg).bind λy=>oz G n sc N mt y e
 | none=>match sh tg e with
  | some es=>(cI (eC sc N) es).bind λis=>(cE G n sc N e).bind λc=>some (gG mt (aZ c) (.asgL is c))
  | none=>(pD tg).bind λx=>oz G n sc N mt x e
mutual
def cS:Nat->Scope->List Str->List Nat->Stmt->Option (List S)
 | 0,_,_,_,_=>none
 | n+1,sc,N,mt,st=>match st with
  | .Assign [tg] e _=>Bv G n sc N mt tg e
  | .Expr (.Call f [e] [] p3) _=>match oy f with
   | some (x,m,p2)=>if m == Qa "append"&&p2.endLine == p3.line then (dw sc N x).bind λi=>(cE G n sc N e).bind λc=>some (gG mt (aZ c) (.app i c)) else
    if m == Qa "extend"&&p2.endLine == p3.line then (dw sc N x).bind λi=>(cE G n sc N e).bind λc=>some (gG mt (aZ c) (.ext i c)) else none
   | none=>none
  | .While t body [] _=>(cE G n sc N t).bind λc=>(fx n sc N mt body).bind λb=>some (gG mt (aZ c) (.whl c b))
  | .Return (some e) _=>(cE G n sc N e).bind λc=>some (gG mt (fN c (aZ c)) (.ret c))
  | .If t a b _=>(cE G n sc N t).bind λc=>(fx n sc N mt a).bind λx=>(fx n sc N mt b).bind λy=>some (gG mt (aZ c) (.ite c x y))
  | .For tg it body [] _=>(fB sc N tg).bind λt=>(fx n sc N mt body).bind λb=>match jR sc it with
   | .seq s=>(cE G n sc N s).bind λx=>some (gG mt (aZ x) (.forS t x b))
   | .rng rs=>(fM G n sc N rs).bind λxs=>some (gG mt (ox xs) (.forR t xs b))
   | .zip a z=>if mT t then (cE G n sc N a).bind λx=>(cE G n sc N z).bind λy=>some (gG mt (aZ x++aZ y) (.forZ t x y b)) else none
   | _=>none
  | _=>none
def fx:Nat->Scope->List Str->List Nat->List Stmt->Option (List S)
 | 0,_,_,_,_=>none
 | n+1,sc,N,mt,st=>match st with
  | []=>some []
  | a::r=>(cS n sc N mt a).bind λx=>(fx n sc N mt r).bind λy=>some (x++y)
end
noncomputable def bZ (sc:Scope):List Str:=(sc.names.filter λp=>p.2 == .local||p.2 == .cell).map (·.1)
end Dw
namespace L2
open PySem PySem.Spec PyProof.Rows
abbrev dS:=Sum Int Str
noncomputable def w4:dS->Value->Bool
 | .inl k,v=>Value.isInt k v
 | .inr x,v=>Value.isStrOf x v
noncomputable def qTZ (w:World):dS->Int
 | .inl k=>hashInt k
 | .inr x=>hashStr w x
theorem iX:∀{k:dS}{v:Value},w4 k v=true->(∃i t,k=Sum.inl i/\v=Value.int i t)∨(∃x t,k=Sum.inr x/\v=Value.str x t)
 | .inl i,v,h=>by
  obtain⟨t,e⟩:=Value.isInt_shape (k:=i) (v:=v) h
  exact .inl ⟨i,t,rfl,e⟩
 | .inr x,v,h=>by
  obtain⟨t,e⟩:=Value.isStrOf_shape (x:=x) (v:=v) h
  exact .inr ⟨x,t,rfl,e⟩
theorem qQJ (a b:Int):decide ((Sum.inl a:dS)=Sum.inl b)=(a == b):=by
 by_cases e:a=b
 ·subst e;simp
 ·have h:¬(Sum.inl a:dS)=Sum.inl b:=λq=>e (Sum.inl.inj q)
  rw [Qj h]
  exact (beq_eq_false_iff_ne.mpr e).symm
theorem qQG (a b:Str):decide ((Sum.inr a:dS)=Sum.inr b)=decide (a=b):=by
 by_cases e:a=b
 ·subst e;simp
 ·have h:¬(Sum.inr a:dS)=Sum.inr b:=λq=>e (Sum.inr.inj q)
  rw [Qj h,Qj e]
theorem qQI (a:Int) (b:Str):decide ((Sum.inl a:dS)=Sum.inr b)=false:=Qj (λq=>nomatch q)
theorem qQH (a:Str) (b:Int):decide ((Sum.inr a:dS)=Sum.inl b)=false:=Qj (λq=>nomatch q)
def yF (prog:Program) (w:World):PySem.KeyKind prog w dS where
 is:=w4
 hash:=qTZ w
 inj:=λv a b ha hb=>by
  rcases iX ha with ⟨i,t,rfl,rfl⟩|⟨x,t,rfl,rfl⟩
  ·rcases iX hb with ⟨j,u,rfl,e⟩|⟨y,u,rfl,e⟩
   ·injection e with e1 _;rw [e1]
   ·exact nomatch e
  ·rcases iX hb with ⟨j,u,rfl,e⟩|⟨y,u,rfl,e⟩
   ·exact nomatch e
   ·injection e with e1 _;rw [e1]
 byValue:=λk v h=>by
  rcases iX h with ⟨i,t,rfl,rfl⟩|⟨x,t,rfl,rfl⟩<;>rfl
 pyHash:=λhv h=>by
  rcases iX hv with ⟨i,t,rfl,rfl⟩|⟨x,t,rfl,rfl⟩
  ·exact wpAny_pyHash_int h
  ·exact wpAny_pyHash_str h
 eqBool:=λhu hv h=>by
  rcases iX hu with ⟨i,t,rfl,rfl⟩|⟨x,t,rfl,rfl⟩
  ·rcases iX hv with ⟨j,u,rfl,rfl⟩|⟨y,u,rfl,rfl⟩
   ·rw [qQJ] at h;exact wpAny_eqBool_int h
   ·rw [qQI] at h;exact SeqAt.EqAt.int_str i t y u _ _ _ _ h
  ·rcases iX hv with ⟨j,u,rfl,rfl⟩|⟨y,u,rfl,rfl⟩
   ·rw [qQH] at h;exact SeqAt.EqAt.str_int x t j u _ _ _ _ h
   ·rw [qQG] at h;exact wpAny_eqBool_str h
 «strs»:=λk x t v h=>by
  rcases iX h with ⟨i,u,rfl,e⟩|⟨y,u,rfl,e⟩
  ·exact nomatch e
  ·injection e with e1 _
   subst e1
   cases v<;>rfl
end L2
namespace L2
open PySem PySem.Spec PyProof.Rows
inductive V where
 | non|bl (b:Bool)|int (i:Int)|str (x:Str)|byt (b:Array UInt8)|flt (b:UInt64)|ref (a:Addr)|ty (n:String)
 deriving DecidableEq
def RelV:V->Value->Prop
 | .non,u=>u=Value.none
 | .bl b,u=>u=Value.bool b
 | .int i,u=>∃t,u=Value.int i t
 | .str x,u=>∃t,u=Value.str x t
 | .byt b,u=>∃t,u=Value.bytes b t
 | .flt b,u=>∃t,u=Value.float b t
 | .ref a,u=>u=Value.ref a
 | .ty n,u=>u=Value.type n
abbrev Vals:List V->List Value->Prop:=Paired RelV
theorem Vals.length {xs:List V}{us:List Value}(r:Vals xs us):xs.length=us.length:=Paired.length r
theorem Vals.get:∀{xs:List V}{us:List Value}{i:Nat}{x:V},Vals xs us->xs[i]?=some x->∃u,us[i]?=some u/\RelV x u
 | _,_,_,_,.nil,e=>by simp at e
 | _,_,0,_,.cons r _,e=>by simp at e;subst e;exact⟨_,rfl,r⟩
 | _,_,i+1,x,.cons _ t,e=>by
  obtain⟨u,h1,h2⟩:=Vals.get (i:=i) (x:=x) t CV
  exact⟨u,by simpa using h1,h2⟩
theorem Vals.append:∀{xs ys:List V}{us ws:List Value},Vals xs us->Vals ys ws->Vals (xs++ys) (us++ws)
 | _,_,_,_,.nil,s=>s
 | _,_,_,_,.cons r t,s=>.cons r (Vals.append t s)
theorem Vals.take:∀{xs:List V}{us:List Value}(n:Nat),Vals xs us->Vals (xs.take n) (us.take n)
 | _,_,0,_=>.nil
 | _,_,_+1,.nil=>.nil
 | _,_,n+1,.cons r t=>.cons r (Vals.take n t)
theorem Vals.drop:∀{xs:List V}{us:List Value}(n:Nat),Vals xs us->Vals (xs.drop n) (us.drop n)
 | _,_,0,r=>r
 | _,_,_+1,.nil=>.nil
 | _,_,n+1,.cons _ t=>Vals.drop n t
def wq:Option V->Option Value->Prop
 | some v,some u=>RelV v u
 | none,none=>True
 | _,_=>False
def KV {κ:Type}:List (κ×V)->List (κ×Value)->Prop:=Paired λ(p:κ×V) (q:κ×Value)=>p.1=q.1/\RelV p.2 q.2
noncomputable def kV:dS->V
 | .inl i=>.int i
 | .inr x=>.str x
inductive HO where
  | lst (xs:List V)
  | tup (xs:List V)
  | dK (kvs:List (dS×V))|dT (kvs:List (List dS×V))
  | set (S:Int->Bool) (n:Nat)
  | ins (C dx:Addr) (fs:List (Str×V))
  | own (x:Addr)
  | xd (fs:List (Str×V))
  | met (f x:Addr)
  | rng (lo hi:Int)
  | frz (o:Obj) (u:HO)
  | tbl (ps:Array Value)
 | tab (pos:Pos) (q:Str)
  | ext (φ:Heap->Prop)
abbrev Hp:=Addr->Option HO
noncomputable def aB (H:Hp) (a:Addr) (o:HO):Hp:=λb=>if b=a then some o else H b
theorem dX {H:Hp}{a:Addr}{o:HO}:aB H a o a=some o:=by unfold aB;rw [Ql rfl]
theorem aD {H:Hp}{a b:Addr}{o:HO}(h:b≠a):aB H a o b=H b:=by unfold aB;rw [Qm h]
theorem cG {H:Hp}{a b:Addr}{o:HO}(h:H a=some o) (h':H b=none):a≠b:=by
 intro e;subst e;rw [h] at h';cases h'
section
variable (P:Program) (w:World)
def ObjOk (H:Hp) (h:Heap) (a:Addr):HO->Prop
 | .lst xs=>xs.length<=sizeLine/\∃(its:List Value) (n:Nat),Vals xs its/\h.get? a=some { cls:=.type "list",data:=.seq its.toArray n }
 | .tup xs=>xs.length<=sizeLine/\∃its:List Value,Vals xs its/\IsTup h a its.toArray
 | .dK kvs=>kvs.length<=sizeLine/\(a == sysModules)=false/\∃vs,KV kvs vs/\h.DictOf (yF P w) a vs
 | .dT kvs=>kvs.length<=sizeLine/\(a == sysModules)=false/\∃xs:List (List dS×Addr×Value),
   Paired (λ(p:List dS×V) (q:List dS×Addr×Value)=>p.1=q.1/\H q.2.1=some (.tup (p.1.map kV))/\RelV p.2 q.2.2) kvs xs /\
   ∃o es ep,h.get? a=some o/\o.ExactDict/\o.data=.dict es ep/\es.toList=xs.map (entryOfKey (tupleKind (yF P w)))/\(xs.map (·.1)).Nodup
 | .set S n=>h.SetOf (intKind P w) a S n
 | .ins C dx fs=>H dx=some (.own a)/\fs.length<=1000/\dx≠a/\h.get? a=some (PySem.W.instObj C dx) /\
   ∃mA,h.Ns1 dx mA/\(∀f,wq (fs.lookup f) (mA f))/\PySem.Within mA (fs.map (·.1))
 | .own _=>∃o,h.get? a=some o
 | .xd fs=>∃mA,h.Ns1 a mA/\∀f,wq (fs.lookup f) (mA f)
 | .rng lo hi=>∃t u v,h.get? a=some { cls:=.type "range",data:=.fields #[.int lo t,.int hi u,.int 1 v] }
 | .frz o u=>h.get? a=some o/\ObjOk H h a u
 | .tbl ps=>h.get? a=some { cls:=.none,data:=.fields ps }
 | .met f x=>h.get? a=some (PySem.W.methodObj (.ref f) (.ref x))
 | .tab pos q=>∃ps:Array Value,h.get? a=some { cls:=.none,data:=.fields ps }/\PySem.TriplesOk ps.toList/\(PySem.codeAmong pos ps.toList=none ∨
   ∃(c:Addr) (oc:Obj) (u:HO) (vs:Array Value) (t:Tok),PySem.codeAmong pos ps.toList=some (.ref c)/\H c=some (.frz oc u)/\oc.data=.fields vs/\vs[1]?=some (.str q t))
 | .ext φ=>φ h/\(∃o,h.get? a=some o)/\∀h1 h2:Heap,φ h1->(∀o,h1.get? a=some o->h2.get? a=some o)->φ h2
def HOk (H:Hp) (h:Heap):Prop:=∀a o,H a=some o->ObjOk P w H h a o
end
section
variable {P:Program}{w:World}{H H':Hp}{h h':Heap}{a:Addr}{o:HO}
theorem ObjOk.lt (x:ObjOk P w H h a o):a<h.objs.size:=by
 cases o with
 | lst xs=>obtain⟨_,_,_,_,e⟩:=x;exact Qi e
 | tup xs=>obtain⟨_,_,_,p⟩:=x;exact p.lt
 | dK kvs=>obtain⟨_,_,_,_,o,_,_,e,_⟩:=x;exact Qi e
 | dT kvs=>obtain⟨_,_,_,_,o,_,_,e,_⟩:=x;exact Qi e
 | set S n=>obtain⟨o,_,_,_,e,_⟩:=x;exact Qi e
 | ins C dx fs=>obtain⟨_,_,_,e,_⟩:=x;exact Qi e
 | own y=>obtain⟨_,e⟩:=x;exact Qi e
 | xd fs=>obtain⟨_,⟨_,_,_,e,_⟩,_⟩:=x;exact Qi e
 | rng lo hi=>obtain⟨_,_,_,e⟩:=x;exact Qi e
 | frz ob u=>obtain⟨e,_⟩:=x;exact Qi e
 | tbl ps=>exact Qi (show h.get? a=some _ from x)
 | met f y=>exact Qi (show h.get? a=some _ from x)
 | tab pos q=>obtain⟨_,e,_⟩:=x;exact Qi e
 | ext φ=>obtain⟨_,⟨_,e⟩,_⟩:=x;exact Qi e
theorem Paired.mapP {α β:Type}{F G:α->β->Prop}:∀{l₁:List α}{l₂:List β},Paired F l₁ l₂->(∀a b,F a b->G a b)->Paired G l₁ l₂
 | _,_,.nil,_=>.nil
 | _,_,.cons r t,f=>.cons (f _ _ r) (Paired.mapP t f)
theorem ObjOk.stay (x:ObjOk P w H h a o) (k:∀b u,(b=a∨H b=some (.own a))->h.get? b=some u->h'.get? b=some u)
  (ho:∀b,H b=some (.own a)->H' b=some (.own a)) (ht:∀b xs,H b=some Ci->H' b=some Ci) (hf:∀b ob u vs,H b=some (.frz ob u)->ob.data=.fields vs->H' b=some (.frz ob u)):ObjOk P w H' h' a o:=by
 induction o with
 | lst xs=>obtain⟨z,its,n,r,e⟩:=x;exact⟨z,its,n,r,k _ _ (.inl rfl) e⟩
 | tup xs=>obtain⟨z,its,r,ob,e,c⟩:=x;exact⟨z,its,r,ob,k _ _ (.inl rfl) e,c⟩
 | dK kvs=>obtain⟨z,y,vs,r,ob,es,ep,e,c⟩:=x;exact⟨z,y,vs,r,ob,es,ep,k _ _ (.inl rfl) e,c⟩
 | dT kvs =>
  obtain⟨z,y,xs,r,ob,es,ep,e,c⟩:=x
  exact⟨z,y,xs,Paired.mapP r λp q z=>⟨z.1,ht _ _ z.2.1,z.2.2⟩,ob,es,ep,k _ _ (.inl rfl) e,c⟩
 | set S n=>obtain⟨ob,es,ep,t,e,c⟩:=x;exact⟨ob,es,ep,t,k _ _ (.inl rfl) e,c⟩
 | ins C dx fs =>
  obtain⟨d,z,ne,e,mA,⟨od,es,ep,e2,c⟩,r⟩:=x
  exact⟨ho _ d,z,ne,k _ _ (.inl rfl) e,mA,⟨od,es,ep,k _ _ (.inr d) e2,c⟩,r⟩
 | own y=>obtain⟨ob,e⟩:=x;exact⟨ob,k _ _ (.inl rfl) e⟩
 | xd fs=>obtain⟨mA,⟨od,es,ep,e,c⟩,r⟩:=x;exact⟨mA,⟨od,es,ep,k _ _ (.inl rfl) e,c⟩,r⟩
 | rng lo hi=>obtain⟨t,u,v,e⟩:=x;exact⟨t,u,v,k _ _ (.inl rfl) e⟩
 | frz ob u ih=>obtain⟨e,q⟩:=x;exact⟨k _ _ (.inl rfl) e,ih q⟩
 | tbl ps =>
  have e:h.get? a=some { cls:=.none,data:=.fields ps }:=x
  show h'.get? a=some { cls:=.none,data:=.fields ps }
  exact k a _ (.inl rfl) e
 | met f y =>
  have e:h.get? a=some (PySem.W.methodObj (.ref f) (.ref y)):=x
  show h'.get? a=some (PySem.W.methodObj (.ref f) (.ref y))
  exact k a _ (.inl rfl) e
 | tab pos q =>
  obtain⟨ps,e,ok,r⟩:=x
  refine⟨ps,k _ _ (.inl rfl) e,ok,r.imp id ?_⟩
  rintro⟨c,oc,u,vs,t,e1,e2,e4,e5⟩
  exact⟨c,oc,u,vs,t,e1,hf _ _ _ _ e2 e4,e4,e5⟩
 | ext φ=>obtain⟨p,⟨o,e⟩,st⟩:=x;exact⟨st _ _ p λo q=>k _ _ (.inl rfl) q,⟨o,k _ _ (.inl rfl) e⟩,st⟩
theorem HOk.lt (x:HOk P w H h) (e:H a=some o):a<h.objs.size:=(x a o e).lt
theorem HOk.fresh (x:HOk P w H h) (e:h.objs.size<=a):H a=none:=by
 cases q:H a with
 | none=>rfl
 | some u=>exact Qn (bO (x.lt q) e) (fR _)
theorem HOk.kept (x:HOk P w H h) (k:∀b u,h.get? b=some u->h'.get? b=some u):HOk P w H h':=λa o e =>
 (x a o e).stay (λb u _ q=>k b u q) (λ_ q=>q) (λ_ _ q=>q) λ_ _ _ _ q _=>q
theorem HOk.laid (x:HOk P w H h) (k:∀b u,h.get? b=some u->h'.get? b=some u) (hp:h.objs.size<=a) (new:ObjOk P w (aB H a o) h' a o):HOk P w (aB H a o) h':=λb u e=>by
 have hn:=x.fresh hp
 by_cases hb:b=a
 ·subst hb;rw [dX] at e;cases e;exact new
 ·rw [aD hb] at e
  exact (x b u e).stay (λc v _ q=>k c v q) (λc q=>by rw [aD (cG q hn)];exact q) (λc xs q=>by rw [aD (cG q hn)];exact q) λc ob u _ q _=>by rw [aD (cG q hn)];exact q
end
def Rd (H:Hp) (a:Addr) (u:HO):Prop:=H a=some u∨∃o,H a=some (.frz o u)
theorem Rd.ok {P:Program}{w:World}{H:Hp}{h:Heap}{a:Addr}{u:HO}(r:Rd H a u) (x:HOk P w H h):ObjOk P w H h a u:=by
 rcases r with r|⟨o,r⟩
 ·exact x a u r
 ·obtain⟨_,q⟩:=x a _ r
  exact q
def qS:Option HO->Prop
 | some (.lst _)=>True
 | some (.dK _)=>True
 | some (.dT _)=>True
 | some (.set _ _)=>True
 | some (.ins _ _ _)=>True
 | some (.ext _)=>True
 | _=>False
section
variable {P:Program}{w:World}{H:Hp}{h h':Heap}{x e:Addr}{o':HO}
theorem HOk.write (ok:HOk P w H h) (mu:qS (H x)) (he:e=x∨H e=some (.own x)) (k:∀b u,b≠e->h.get? b=some u->h'.get? b=some u) (heo:∃u,h'.get? e=some u)
  (new:ObjOk P w (aB H x o') h' x o'):HOk P w (aB H x o') h':=λb u q=>by
 have nown:∀c y,H c=some (.own y)->c≠x:=λc y r z=>by subst z;rw [r] at mu;exact mu
 have ntup:∀c xs,H c=some Ci->c≠x:=λc xs r z=>by subst z;rw [r] at mu;exact mu
 by_cases hb:b=x
 ·subst hb;rw [dX] at q;cases q;exact new
 ·rw [aD hb] at q
  by_cases hbe:b=e
  ·have q':H b=some (.own x):=by
    rcases he with z|z
    ·exact Qn (hbe.trans z) hb
    ·rw [hbe];exact z
   rw [q] at q';cases q'
   obtain⟨v,hv⟩:=heo
   exact⟨v,by rw [hbe];exact hv⟩
  ·refine (ok b u q).stay (λc v hc r=>k c v ?_ r) (λc r=>by rw [aD (nown c b r)];exact r) (λc xs r=>by rw [aD (ntup c xs r)];exact r) λc ob u _ r _=>by rw [aD (λz=>by subst z;rw [r] at mu;exact mu)];exact r
   rcases hc with rfl|hc
   ·exact hbe
   ·rintro rfl
    rcases he with z|z
    ·exact nown c b hc z
    ·rw [hc] at z;cases z;exact hb rfl
end
structure Un (fs ex:List Addr) (H H':Hp) (h h':Heap):Prop where
 keep:∀b o,h.get? b=some o->H b=none->b∉fs->b∉ex->h'.get? b=some o
 slot:∀b o,h.get? b=some o->H b=none->b∈fs->b∉ex->∃sl,h'.get? b=some { o with slots:=sl }
 free:∀b o,h.get? b=some o->H b=none->b∉ex->H' b=none
 there:∀b o,h.get? b=some o->b∉ex->∃o',h'.get? b=some o'
 tups:∀b xs,H b=some Ci->H' b=some Ci
 frzs:∀b o u,H b=some (.frz o u)->H' b=some (.frz o u)
 tbls:∀b ps,H b=some (.tbl ps)->∃more,H' b=some (.tbl (ps++more))
section
variable {fs fs' ex ex':List Addr}{H H1 H2:Hp}{h h1 h2 h':Heap}{a x e:Addr}{o:HO}
theorem Un.any (u:Un fs ex H H1 h h1) {b:Addr}{ob:Obj}(q:h.get? b=some ob) (n:H b=none) (hx:b∉ex):∃sl,h1.get? b=some { ob with slots:=sl }:=by
 by_cases hb:b∈fs
 ·exact u.slot b ob q n hb hx
 ·exact⟨ob.slots,u.keep b ob q n hb hx⟩
theorem Un.kept (k:∀b u,h.get? b=some u->h'.get? b=some u):Un fs ex H H h h':=
 ⟨λb ob q _ _ _=>k b ob q,λb ob q _ _ _=>⟨ob.slots,k b ob q⟩,λ_ _ _ n _=>n,λb ob q _=>⟨ob,k b ob q⟩,λ_ _ q=>q,λ_ _ _ q=>q,λ_ ps q=>⟨#[],by rw [q];simp⟩⟩
theorem Un.refl:Un fs ex H H h h:=Un.kept λ_ _ q=>q
theorem Un.laid (k:∀b u,h.get? b=some u->h'.get? b=some u) (hp:h.objs.size<=a) (hn:H a=none):Un fs ex H (aB H a o) h h' where
 keep:=λb u q _ _ _=>k b u q
 slot:=λb u q _ _ _=>⟨u.slots,k b u q⟩
 free:=λb u q n _=>by rw [aD (bV (bO (Qi q) hp))];exact n
 there:=λb u q _=>⟨u,k b u q⟩
 tups:=λb xs q=>by rw [aD (cG q hn)];exact q
 frzs:=λb u xs q=>by rw [aD (cG q hn)];exact q
 tbls:=λb ps q=>⟨#[],by rw [aD (cG q hn),q];simp⟩
theorem Un.write (mu:qS (H x)) (he:e=x∨H e=some (.own x)) (k:∀b u,b≠e->h.get? b=some u->h'.get? b=some u) (heo:∃u,h'.get? e=some u):Un fs ex H (aB H x o) h h':=by
 have hx:∀b,H b=none->b≠x:=λb n z=>by subst z;rw [n] at mu;exact mu
 have hb:∀b,H b=none->b≠e:=λb n z=>by
  subst z
  rcases he with r|r
  ·exact hx b n r
  ·rw [n] at r;cases r
 have hm:∀b u,H b=some u->¬qS (some u)->b≠x:=λb u q nm z=>by subst z;rw [q] at mu;exact nm mu
 refine⟨λb u q n _ _=>k b u (hb b n) q,λb u q n _ _=>⟨u.slots,k b u (hb b n) q⟩,λb u q n _=>by rw [aD (hx b n)];exact n,λb u q _=>?_,
  λb xs q=>by rw [aD (hm b _ q λz=>z)];exact q,λb u xs q=>by rw [aD (hm b _ q λz=>z)];exact q,λb ps q=>⟨#[],by rw [aD (hm b _ q λz=>z),q];simp⟩⟩
 by_cases hbe:b=e
 ·subst hbe;exact heo
 ·exact⟨u,k b u hbe q⟩
end
noncomputable def oq (h:Heap) (H:Hp):List Addr:=(List.range h.objs.size).filter λa=>(H a).isSome
def jf (h:Heap) (H:Hp):Heap:=PySem.W.hideAll h (oq h H)
theorem qIG (h:Heap) (H:Hp):(jf h H).objs.size=h.objs.size:=PySem.W.hideAll_size _ _
theorem zH {h:Heap}{H:Hp}{b:Addr}{o:Obj}(e:h.get? b=some o) (n:H b=none):(jf h H).get? b=some o:=
 PySem.W.hideAll_get _ e λhm=>by
  have q:(H b).isSome=true:=(ybT.mp hm).2
  rw [n] at q;simp at q
theorem qN8 {h:Heap}{H:Hp}{b:Addr}{o:Obj}(e:(jf h H).get? b=some o):h.get? b=some o/\H b=none:=by
 have e':h.get? b=some o:=PySem.W.of_hideAll (oq h H) e
 refine⟨e',?_⟩
 cases q:H b with
 | none=>rfl
 | some x =>
  have hm:b∈oq h H:=ybT.mpr ⟨List.mem_range.mpr (Qi e'),by simp [q]⟩
  have z:(jf h H).get? b=none:=PySem.W.hideAll_none (oq h H) hm
  rw [z] at e;cases e
noncomputable def qOQ (g h:Heap) (L:Addr):List CA:=(List.range h.objs.size).filterMap λa=>if a=L∨(g.get? a).isSome=true then none else (h.get? a).map λo=>(a,o)
def rest (g h:Heap) (L d:Addr):List CA:=(qOQ g h L).filter λp=>decide (p.1≠d)
end L2
namespace L2
open PySem PySem.Spec PyProof.Rows
structure Mod (K:Qb) (mg:Str->Option Value) (base:Heap):Prop where
 kin:K.In base
 glob:base.Ns mainGlobals mg
 blt:∃mb,base.Ns builtinsNs mb/\∀x:Str,x≠"__name__"->mb x=Qo x
 nolimit:base.NoLimit
structure Cx where
 prog:Program
 w:World
 K:Qb
 mg:Str->Option Value
 base:Heap
 A:Around
 N:List Str
 s₀:Shared
 H₀:Hp
 env:Env
 outer:List Env
 stack:List Env
 ex:List Addr
 fn:Str->Bool
 calm:Bool
 pn:List CA
 xe:Value->Shared->Prop
noncomputable def fu (l:List Env):List Addr:=l.filterMap (·.frame)
abbrev Cx.fs (X:Cx):List Addr:=fu X.outer
def jA (sc:Scope) (x:Str):Prop:=sc.names.lookup x=some .local∨sc.names.lookup x=some .cell∨sc.names.lookup x=some .free
def mf (sc:Scope) (x:Str):Prop:=sc.names.lookup x=some .local∨sc.names.lookup x=some .cell
def qUa (env:Env) (h:Heap) (m:Str->Option Value) (x:Str) (u:Value):Prop:=
 (env.kindOf x=some .local/\m x=some u)∨((env.kindOf x=some .cell∨env.kindOf x=some .free)/\∃c,env.cells.lookup x=some c/\h.IsCell c (some u))
structure Cx.Ok (X:Cx):Prop where
 mod:Mod X.K X.mg X.base
 kind:X.env.scope.kind=.function
 glob:X.env.globals=mainGlobals
 blt:X.env.builtins=builtinsNs
 above:X.s₀.heap.objs.size<=X.env.locals
 inj:∀x y c,X.env.cells.lookup x=some c->X.env.cells.lookup y=some c->x=y
 has:∀x,(X.env.kindOf x=some .cell∨X.env.kindOf x=some .free)->∃c,X.env.cells.lookup x=some c
 cab:∀x c,X.fn x=true->X.env.cells.lookup x=some c->X.s₀.heap.objs.size<=c
 hd:X.calm=true->X.A.handled=none
 frames:X.A.frames=some X.stack
 stk:X.stack=X.outer∨(X.stack=X.env::X.outer/\X.env.frame=some X.env.locals)
 exf:∀b∈X.ex,b≠X.env.locals/\∀x c,X.env.cells.lookup x=some c->c≠b
 bs:∀b o,X.base.get? b=some o->X.s₀.heap.get? b=some o/\X.H₀ b=none
 bsz:X.base.objs.size<=X.s₀.heap.objs.size
 noex:∀b o,X.base.get? b=some o->b∉X.ex
 exfs:∀b∈X.ex,b∉X.fs
 funs:X.s₀.heap.FunFrames X.base X.outer
 frf:∀b∈X.fs,X.H₀ b=none
structure Inv (X:Cx) (pins:List CA) (Z:List (Option V)) (H:Hp) (s:Shared):Prop where
 ok:X.Ok
 os:s.os=X.s₀.os
 bare:AllBare s.gens
 base:Un X.fs X.ex X.H₀ H X.s₀.heap s.heap
 loc:∃m,s.heap.Ns X.env.locals m/\∀(i:Nat) (x:Str) (v:V),X.N[i]?=some x->Z[i]?=some (some v)->jA X.env.scope x->∃u,RelV v u/\qUa X.env s.heap m x u
 cell:∀x c,X.env.cells.lookup x=some c->∃v,s.heap.IsCell c v
 free:H X.env.locals=none
 freeC:∀x c,X.env.cells.lookup x=some c->H c=none
 pin:∀p∈X.pn++pins,s.heap.get? p.1=some p.2/\H p.1=none/\p.1≠X.env.locals/\p.1∉X.fs/\∀v,p.2.data≠.cell v
 hok:HOk X.prog X.w H s.heap
 len:Z.length=X.N.length
section
variable {X:Cx}{pins:List CA}{Z:List (Option V)}{H H':Hp}{s:Shared}{h':Heap}
theorem Cx.Ok.nofr (ok:X.Ok) {b:Addr}{o:Obj}(e:X.base.get? b=some o):b∉X.fs:=λhb=>by
 have:=(ok.funs.mem hb).1
 rw [e] at this;cases this
theorem Inv.bs (I:Inv X pins Z H s):∀b o,X.base.get? b=some o->s.heap.get? b=some o/\H b=none:=λb o e =>
 ⟨I.base.keep b o (I.ok.bs b o e).1 (I.ok.bs b o e).2 (I.ok.nofr e) (I.ok.noex b o e),I.base.free b o (I.ok.bs b o e).1 (I.ok.bs b o e).2 (I.ok.noex b o e)⟩
theorem Inv.bk (I:Inv X pins Z H s):∀b o,X.base.get? b=some o->s.heap.get? b=some o:=λb o e=>(I.bs b o e).1
theorem Inv.mod (I:Inv X pins Z H s):Mod X.K X.mg X.base:=I.ok.mod
theorem Inv.kIn (I:Inv X pins Z H s):X.K.In s.heap:=I.ok.mod.kin.keeps I.bk
theorem Inv.lt (I:Inv X pins Z H s):X.env.locals<s.heap.objs.size:=let ⟨_,hn,_⟩:=I.loc;hn.lt
theorem Inv.sz (I:Inv X pins Z H s):X.s₀.heap.objs.size<=s.heap.objs.size:=aT I.ok.above (fg I.lt)
theorem Inv.nofs (I:Inv X pins Z H s) {a:Addr}(h:s.heap.objs.size<=a):a∉X.fs:=λhb=>by
 obtain⟨_,o,ho,_⟩:=I.ok.funs.mem hb
 exact Qn (bO (Qi ho) (aT I.sz h)) (fR _)
theorem Inv.cne (I:Inv X pins Z H s):∀x c,X.env.cells.lookup x=some c->c≠X.env.locals:=λx c e z=>by
 obtain⟨v,o,ho,hd⟩:=I.cell x c e
 obtain⟨m,⟨o',es,ep,ho',hd',_⟩,_⟩:=I.loc
 rw [z,ho'] at ho;cases ho;rw [hd'] at hd;cases hd
theorem Inv.funs (I:Inv X pins Z H s):s.heap.FunFrames X.base X.outer:=by
 have all:∀(l:List Env),(∀b∈fu l,b∈X.fs)->X.s₀.heap.FunFrames X.base l->s.heap.FunFrames X.base l:=by
  intro l
  induction l with
  | nil=>intro _ _;trivial
  | cons env r ih =>
   intro hs hl
   obtain⟨hk,⟨L,o,hf,hn,ho,hd⟩,hr⟩:=hl
   have hL:L∈X.fs:=hs L (by unfold fu;rw [oi,hf];exact bq)
   obtain⟨sl,e⟩:=I.base.slot L o ho (I.ok.frf L hL) hL λz=>I.ok.exfs L z hL
   exact⟨hk,⟨L,_,hf,hn,e,hd⟩,ih (λb hb=>hs b (by unfold fu;rw [oi,hf];exact bK _ hb)) hr⟩
 exact all X.outer (λ_ hb=>hb) I.ok.funs
theorem Inv.stack (I:Inv X pins Z H s):s.heap.FunFrames X.base X.stack:=by
 rcases I.ok.stk with e|⟨e,hf⟩
 ·rw [e];exact I.funs
 ·rw [e]
  obtain⟨m,hn,_⟩:=I.loc
  refine .cons (by rw [I.ok.kind];decide) hf hn ?_ I.funs
  exact Heap.get?_none_of_le (aT I.ok.bsz I.ok.above)
theorem Inv.stkSub (I:Inv X pins Z H s):∀b∈fu X.stack,b∈X.env.locals::X.fs:=λb hb=>by
 rcases I.ok.stk with e|⟨e,hf⟩
 ·rw [e] at hb;exact bK _ hb
 ·rw [e] at hb
  unfold fu at hb
  rw [oi,hf] at hb
  exact hb
theorem Inv.stkFree (I:Inv X pins Z H s):∀b∈fu X.stack,H b=none:=λb hb=>by
 rcases yag.mp (I.stkSub b hb) with e|hb
 ·rw [e];exact I.free
 ·obtain⟨_,o,ho,_⟩:=I.ok.funs.mem hb
  exact I.base.free b o ho (I.ok.frf b hb) λz=>I.ok.exfs b z hb
theorem Inv.step {g':Array GenState}{t':Nat}{d':Drawn}{ch:List Addr}(I:Inv X pins Z H s)
  (hch:∀b∈ch,(b∈X.ex∨X.s₀.heap.objs.size<=b)/\b≠X.env.locals/\(∀x c,X.env.cells.lookup x=some c->c≠b)/\∀p∈X.pn++pins,p.1≠b)
  (keep:∀b o,b≠X.env.locals->b∉X.fs->b∉ch->s.heap.get? b=some o->H b=none->h'.get? b=some o)
  (slot:∀b o,b≠X.env.locals->b∈X.fs->b∉ch->s.heap.get? b=some o->H b=none->∃sl,h'.get? b=some { o with slots:=sl }) (free:∀b o,b∉ch->s.heap.get? b=some o->H b=none->H' b=none)
  (there:∀b o,b∉ch->s.heap.get? b=some o->∃o',h'.get? b=some o')
  (tups:∀b xs,H b=some Ci->H' b=some Ci) (frzs:∀b o u,H b=some (.frz o u)->H' b=some (.frz o u)) (tbls:∀b ps,H b=some (.tbl ps)->∃more,H' b=some (.tbl (ps++more)))
  (ns:∀m,s.heap.Ns X.env.locals m->h'.Ns X.env.locals m) (hok:HOk X.prog X.w H' h') (hg:AllBare g') :
  Inv X pins Z H' { s with heap:=h',gens:=g',drawn:=d',toks:=t' }:=by
 have neL:∀b o,X.s₀.heap.get? b=some o->b≠X.env.locals:=λb o e=>bV (bO (Qi e) I.ok.above)
 have neC:∀b o,X.s₀.heap.get? b=some o->b∉X.ex->b∉ch:=λb o e hx hb=>by
  rcases (hch b hb).1 with z|z
  ·exact hx z
  ·exact Qn (bO (Qi e) z) (fR _)
 have cellK:∀x c,X.env.cells.lookup x=some c->∀v,s.heap.IsCell c v->h'.IsCell c v:=λx c e v ⟨o,ho,hd⟩=>by
  have nch:c∉ch:=λz=>(hch c z).2.2.1 x c e rfl
  by_cases hc:c∈X.fs
  ·obtain⟨sl,q⟩:=slot c o (I.cne x c e) hc nch ho (I.freeC x c e)
   exact⟨_,q,hd⟩
  ·exact⟨o,keep c o (I.cne x c e) hc nch ho (I.freeC x c e),hd⟩
 refine⟨I.ok,I.os,hg,⟨λb o e n hb hx=>?_,λb o e n hb hx=>?_,λb o e n hx=>?_,λb o e hx=>?_,λb xs e=>tups b xs (I.base.tups b xs e),λb o xs e=>frzs b o xs (I.base.frzs b o xs e),λb ps e=>?_⟩,?_,λx c e=>?_,?_,λx c e=>?_,λp hp=>?_,hok,I.len⟩
 ·exact keep b o (neL b o e) hb (neC b o e hx) (I.base.keep b o e n hb hx) (I.base.free b o e n hx)
 ·obtain⟨sl,e1⟩:=I.base.slot b o e n hb hx
  obtain⟨sl',e2⟩:=slot b _ (neL b o e) hb (neC b o e hx) e1 (I.base.free b o e n hx)
  exact⟨sl',e2⟩
 ·obtain⟨o',e1⟩:=I.base.there b o e hx
  exact free b o' (neC b o e hx) e1 (I.base.free b o e n hx)
 ·obtain⟨o',e1⟩:=I.base.there b o e hx
  exact there b o' (neC b o e hx) e1
 ·obtain⟨m1,e1⟩:=I.base.tbls b ps e
  obtain⟨m2,e2⟩:=tbls b _ e1
  exact⟨m1++m2,by rw [e2,Array.append_assoc]⟩
 ·obtain⟨m,hn,hl⟩:=I.loc
  refine⟨m,ns m hn,λi x v e1 e2 e3=>?_⟩
  obtain⟨u,r,l⟩:=hl i x v e1 e2 e3
  refine⟨u,r,?_⟩
  rcases l with l|⟨k,c,e,z⟩
  ·exact .inl l
  ·exact .inr ⟨k,c,e,cellK x c e _ z⟩
 ·obtain⟨v,z⟩:=I.cell x c e
  exact⟨v,cellK x c e v z⟩
 ·obtain⟨m,⟨o,_,_,ho,_⟩,_⟩:=I.loc
  exact free _ o (λz=>(hch _ z).2.1 rfl) ho I.free
 ·obtain⟨v,o,ho,hd⟩:=I.cell x c e
  exact free c o (λz=>(hch c z).2.2.1 x c e rfl) ho (I.freeC x c e)
 ·obtain⟨e,n,ne,nf,d⟩:=I.pin p hp
  have nch:p.1∉ch:=λz=>(hch p.1 z).2.2.2 p hp rfl
  exact⟨keep p.1 p.2 ne nf nch e n,free p.1 p.2 nch e n,ne,nf,d⟩
theorem Inv.un {t':Nat}(I:Inv X pins Z H s) (u:Un X.fs [] H H' s.heap h') (hok:HOk X.prog X.w H' h'):Inv X pins Z H' { s with heap:=h',toks:=t' }:=by
 obtain⟨m,⟨o,es,ep,ho,r⟩,_⟩:=id I.loc
 obtain⟨sl,hL⟩:=u.any ho I.free C2
 exact I.step (g':=s.gens) (d':=s.drawn) (ch:=[]) (λ_ z=>nomatch z) (λb o _ hb _ e n=>u.keep b o e n hb C2) (λb o _ hb _ e n=>u.slot b o e n hb C2) (λb o _ e n=>u.free b o e n C2) (λb o _ e=>u.there b o e C2) u.tups u.frzs u.tbls (λm' hm=>by
  obtain⟨o',es',ep',ho',r'⟩:=hm
  rw [ho] at ho';cases ho'
  exact⟨_,es',ep',hL,r'⟩) hok I.bare
theorem Inv.call {g':Array GenState}{t':Nat}{d':Drawn}{ch:List Addr}(I:Inv X pins Z H s) (u:Un (fu X.stack) ch H H' s.heap h') (hok:HOk X.prog X.w H' h') (hg:AllBare g')
  (hch:∀b∈ch,(b∈X.ex∨X.s₀.heap.objs.size<=b)/\b≠X.env.locals/\(∀x c,X.env.cells.lookup x=some c->c≠b)/\∀p∈X.pn++pins,p.1≠b) :
  Inv X pins Z H' { s with heap:=h',gens:=g',drawn:=d',toks:=t' }:=by
 obtain⟨m,⟨o,es,ep,ho,r⟩,_⟩:=id I.loc
 obtain⟨sl,hL⟩:=u.any ho I.free λz=>(hch _ z).2.1 rfl
 exact I.step (ch:=ch) hch (λb o hL hb hc e n=>u.keep b o e n (λz=>(yag.mp (I.stkSub b z)).elim hL hb) hc) (λb o _ _ hc e n=>u.any e n hc) (λb o hc e n=>u.free b o e n hc) (λb o hc e=>u.there b o e hc) u.tups u.frzs u.tbls (λm' hm=>by
  obtain⟨o',es',ep',ho',r'⟩:=hm
  rw [ho] at ho';cases ho'
  exact⟨_,es',ep',hL,r'⟩) hok hg
theorem Inv.turned {t':Nat}{it:Addr}(I:Inv X pins Z H s) (k:∀b o,b≠it->s.heap.get? b=some o->h'.get? b=some o) (hn:H it=none) (hL:it≠X.env.locals)
  (h1:it∈X.ex∨X.s₀.heap.objs.size<=it) (h2:∀x c,X.env.cells.lookup x=some c->c≠it) (h3:∀p∈X.pn++pins,p.1≠it):Inv X pins Z H { s with heap:=h',toks:=t' }:=by
 have nit:∀b u,H b=some u->b≠it:=λb u e z=>by rw [z,hn] at e;cases e
 refine I.step (g':=s.gens) (d':=s.drawn) (ch:=[it]) (λb hb=>?_) (λb o _ _ hc e _=>k b o (λz=>hc (by simp [z])) e) (λb o _ _ hc e _=>⟨o.slots,k b o (λz=>hc (by simp [z])) e⟩) (λ_ _ _ _ n=>n)
  (λb o hc e=>⟨o,k b o (λz=>hc (by simp [z])) e⟩) (λ_ _ e=>e) (λ_ _ _ e=>e) (λb ps e=>⟨#[],by rw [e];simp⟩) (λm hm=>?_) (λb u e=>?_) I.bare
 ·have e:b=it:=by simpa using hb
  subst e
  exact⟨h1,hL,h2,h3⟩
 ·obtain⟨o,es,ep,ho,r⟩:=hm
  exact⟨o,es,ep,k _ o (Ne.symm hL) ho,r⟩
 ·refine (I.hok b u e).stay (λc v hc q=>k c v ?_ q) (λ_ q=>q) (λ_ _ q=>q) λ_ _ _ _ q _=>q
  rcases hc with z|z
  ·rw [z];exact nit b u e
  ·exact nit c _ z
theorem Inv.tok (I:Inv X pins Z H s) (t:Nat):Inv X pins Z H { s with toks:=t }:=I.un (h':=s.heap) (t':=t) Un.refl I.hok
theorem Inv.kept {t':Nat}(I:Inv X pins Z H s) (k:∀b u,s.heap.get? b=some u->h'.get? b=some u):Inv X pins Z H { s with heap:=h',toks:=t' }:=I.un (Un.kept k) (I.hok.kept k)
theorem Inv.laid {a:Addr}{o:HO}{t':Nat}(I:Inv X pins Z H s) (k:∀b u,s.heap.get? b=some u->h'.get? b=some u) (hp:s.heap.objs.size<=a) (new:ObjOk X.prog X.w (aB H a o) h' a o) :
  Inv X pins Z (aB H a o) { s with heap:=h',toks:=t' }:=I.un (Un.laid k hp (I.hok.fresh hp)) (I.hok.laid k hp new)
theorem Inv.write {x e:Addr}{o:HO}{t':Nat}(I:Inv X pins Z H s) (mu:qS (H x)) (he:e=x∨H e=some (.own x)) (k:∀b u,b≠e->s.heap.get? b=some u->h'.get? b=some u) (heo:∃u,h'.get? e=some u)
  (new:ObjOk X.prog X.w (aB H x o) h' x o):Inv X pins Z (aB H x o) { s with heap:=h',toks:=t' }:=I.un (Un.write mu he k heo) (I.hok.write mu he k heo new)
theorem Inv.pins_of {pins':List CA}(I:Inv X pins Z H s) (h:∀p∈pins',s.heap.get? p.1=some p.2/\H p.1=none/\p.1≠X.env.locals/\p.1∉X.fs/\∀v,p.2.data≠.cell v):Inv X pins' Z H s:=
 ⟨I.ok,I.os,I.bare,I.base,I.loc,I.cell,I.free,I.freeC,λp hp=>(yaC.mp hp).elim (λz=>I.pin p (iM _ z)) (h p),I.hok,I.len⟩
theorem ue {N:List Str}(hN:N.Nodup) {i j:Nat}{x:Str}(a:N[i]?=some x) (b:N[j]?=some x):i=j:=by
 obtain⟨h1,e1⟩:=yal.mp a
 obtain⟨h2,e2⟩:=yal.mp b
 exact (List.getElem_inj hN).mp (e1.trans e2.symm)
theorem AF {M:Model}{A:Around}{E:Value->Shared->Prop}{i:Nat}{x:Str}{v:V}{u:Value}{Q:Unit->Shared->Prop}(I:Inv X pins Z H s) (hN:X.N.Nodup) (hi:X.N[i]?=some x) (hx:mf X.env.scope x) (r:RelV v u)
  (h:∀s',Inv X pins (Z.set i (some v)) H s'->(∃a,Heap.SameBut a s.heap s'.heap/\(a=X.env.locals∨X.env.cells.lookup x=some a))->Q () s') (hf:X.fn x=true∨X.env.scope.names.lookup x=some .local:=by first|exact .inl rfl|exact .inr rfl|assumption):wpAny M A (storeName X.env x u) Q E s:=by
 obtain⟨m,hn,hl⟩:=id I.loc
 have hcls:(X.env.scope.kind == .class||(X.env.scope.kind == .module&&X.env.locals != X.env.globals))=false:=by rw [I.ok.kind];rfl
 have hiZ:i<Z.length:=by rw [I.len];exact (yal.mp hi).1
 have cne:=I.cne
 have tracked:∀{a:Addr} {h':Heap},(∃o,s.heap.get? a=some o/\H a=none)->Heap.SameBut a s.heap h'->HOk X.prog X.w H h':=λ{a h'} ha hs b ob e=>by
  obtain⟨_,_,hfree⟩:=ha
  refine (I.hok b ob e).stay (λc w' hc q=>(hs.2 c ?_).trans q) (λ_ q=>q) (λ_ _ q=>q) λ_ _ _ _ q _=>q
  rintro rfl
  rcases hc with rfl|hc
  ·rw [hfree] at e;cases e
  ·rw [hfree] at hc;cases hc
 rcases hx with hk|hk
 ·refine wpAny_storeName_local hk hn (λh' hn' hs=>?_) hcls
  obtain⟨oL,_,_,hoL,_⟩:=id hn
  refine h _ ⟨I.ok,I.os,I.bare,⟨λb o e n hb hx=>?_,λb o e n hb hx=>?_,I.base.free,λb o e hx=>?_,I.base.tups,I.base.frzs,I.base.tbls⟩,⟨_,hn',λj y v' e1 e2 e3=>?_⟩,λy c e=>?_,I.free,I.freeC,λp hp=>?_,tracked ⟨oL,hoL,I.free⟩ hs,by simpa using I.len⟩ ⟨_,hs,.inl rfl⟩
  ·exact (hs.2 b (bV (bO (Qi e) I.ok.above))).trans (I.base.keep b o e n hb hx)
  ·obtain⟨sl,e1⟩:=I.base.slot b o e n hb hx
   exact⟨sl,(hs.2 b (bV (bO (Qi e) I.ok.above))).trans e1⟩
  ·obtain⟨o',e1⟩:=I.base.there b o e hx
   exact⟨o',(hs.2 b (bV (bO (Qi e) I.ok.above))).trans e1⟩
  ·by_cases hj:j=i
   ·subst hj
    rw [hi] at e1;cases e1
    rw [kK hiZ] at e2
    cases e2
    exact⟨u,r,.inl ⟨hk,by simp⟩⟩
   ·rw [ck (Ne.symm hj)] at e2
    obtain⟨u',r',q⟩:=hl j y v' e1 e2 e3
    refine⟨u',r',?_⟩
    rcases q with ⟨k,e⟩|⟨k,c,e,z⟩
    ·refine .inl ⟨k,?_⟩
     have:y≠x:=λe=>hj (ue hN e1 (e▸hi))
     simp [this,e]
    ·exact .inr ⟨k,c,e,z.sameBut hs (cne y c e)⟩
  ·obtain⟨w',z⟩:=I.cell y c e
   exact⟨w',z.sameBut hs (cne y c e)⟩
  ·obtain⟨e,n,ne,nf,d⟩:=I.pin p hp
   exact⟨(hs.2 p.1 ne).trans e,n,ne,nf,d⟩
 ·have hfn:X.fn x=true:=by
   rcases hf with z|z
   ·exact z
   ·rw [z] at hk;cases hk
  obtain⟨c,hc⟩:=I.ok.has x (.inl hk)
  obtain⟨w',z⟩:=I.cell x c hc
  refine wpAny_storeName_cell I.ok.kind hk hc z (λh' hc' hs=>?_)
  obtain⟨oc,hoc,hocd⟩:=id z
  refine h { s with heap:=h' } ⟨I.ok,I.os,I.bare,⟨λb o e n hb hx=>?_,λb o e n hb hx=>?_,I.base.free,λb o e hx=>?_,I.base.tups,I.base.frzs,I.base.tbls⟩,⟨m,hn.sameBut hs (Ne.symm (cne x c hc)),λj y v' e1 e2 e3=>?_⟩,λy c' e=>?_,I.free,I.freeC,λp hp=>?_,tracked ⟨oc,hoc,I.freeC x c hc⟩ hs,by simpa using I.len⟩ ⟨c,hs,.inr hc⟩
  ·exact (hs.2 b (bV (bO (Qi e) (I.ok.cab x c hfn hc)))).trans (I.base.keep b o e n hb hx)
  ·obtain⟨sl,e1⟩:=I.base.slot b o e n hb hx
   exact⟨sl,(hs.2 b (bV (bO (Qi e) (I.ok.cab x c hfn hc)))).trans e1⟩
  ·obtain⟨o',e1⟩:=I.base.there b o e hx
   exact⟨o',(hs.2 b (bV (bO (Qi e) (I.ok.cab x c hfn hc)))).trans e1⟩
  ·by_cases hj:j=i
   ·subst hj
    rw [hi] at e1;cases e1
    rw [kK hiZ] at e2
    cases e2
    exact⟨u,r,.inr ⟨.inl hk,c,hc,hc'⟩⟩
   ·rw [ck (Ne.symm hj)] at e2
    obtain⟨u',r',q⟩:=hl j y v' e1 e2 e3
    refine⟨u',r',?_⟩
    rcases q with q|⟨k,c',e,z'⟩
    ·exact .inl q
    ·refine .inr ⟨k,c',e,z'.sameBut hs ?_⟩
     rintro rfl
     exact hj (ue hN e1 (I.ok.inj _ _ _ e hc▸hi))
  ·by_cases hcc:c'=c
   ·subst hcc;exact⟨_,hc'⟩
   ·obtain⟨w2,z2⟩:=I.cell y c' e
    exact⟨w2,z2.sameBut hs hcc⟩
  ·obtain⟨e,n,ne,nf,d⟩:=I.pin p hp
   refine⟨(hs.2 p.1 ?_).trans e,n,ne,nf,d⟩
   intro q
   rw [q,hoc] at e
   have q':oc=p.2:=gw e
   exact d w' (by rw [<-q'];exact hocd)
theorem Al {M:Model}{A:Around}{E:Value->Shared->Prop}{i:Nat}{x:Str}{v:V}{u:Value}{Q:Unit->Shared->Prop}(I:Inv X pins Z H s) (hN:X.N.Nodup) (hi:X.N[i]?=some x) (hx:mf X.env.scope x) (r:RelV v u)
  (h:∀s',Inv X pins (Z.set i (some v)) H s'->Q () s') (hf:X.fn x=true∨X.env.scope.names.lookup x=some .local:=by first|exact .inl rfl|exact .inr rfl|assumption):wpAny M A (storeName X.env x u) Q E s:=
 AF I hN hi hx r (λs' I' _=>h s' I') hf
theorem Inv.call' {s':Shared}{ch:List Addr}(I:Inv X pins Z H s) (ho:s'.os=s.os) (u:Un (fu X.stack) ch H H' s.heap s'.heap) (hok:HOk X.prog X.w H' s'.heap) (hg:AllBare s'.gens)
  (hch:∀b∈ch,(b∈X.ex∨X.s₀.heap.objs.size<=b)/\b≠X.env.locals/\(∀x c,X.env.cells.lookup x=some c->c≠b)/\∀p∈X.pn++pins,p.1≠b):Inv X pins Z H' s':=by
 obtain⟨h',g',d',t',o'⟩:=s'
 have e:o'=s.os:=ho
 subst e
 exact I.call (g':=g') (t':=t') (d':=d') u hok hg hch
end
abbrev XK:=Value->Option Addr->Hp->Prop
abbrev St:=List (Option V)
abbrev VK:=V->Hp->Prop
abbrev TE:=St->Hp->VK->Prop
abbrev TT:=St->Hp->(Bool->Hp->Prop)->Prop
abbrev TA:=St->Hp->(List V->Hp->Prop)->Prop
structure Ends where
 nx:St->Hp->Prop
 rt:VK
 bk:St->Hp->Prop:=λ_ _=>False
 ct:St->Hp->Prop:=λ_ _=>False
abbrev TS:=Ends->St->Hp->Prop
def EP (X:Cx) (pins:List CA) (Z:St) (Q:VK) (u:Value) (s':Shared):Prop:=∃v H',Inv X pins Z H' s'/\RelV v u/\Q v H'
def TP (X:Cx) (pins:List CA) (Z:St) (Q:Bool->Hp->Prop) (b:Bool) (s':Shared):Prop:=∃H',Inv X pins Z H' s'/\Q b H'
def AP (X:Cx) (pins:List CA) (Z:St) (Q:List V->Hp->Prop) (us:List Value) (s':Shared):Prop:=∃vs H',Inv X pins Z H' s'/\Vals vs us/\Q vs H'
def SP (X:Cx) (pins:List CA) (D:Ends) (f:Flow) (s':Shared):Prop:=
 match f with
 | .next=>∃Z' H',Inv X pins Z' H' s'/\D.nx Z' H'
 | .brk=>∃Z' H',Inv X pins Z' H' s'/\D.bk Z' H'
 | .cont=>∃Z' H',Inv X pins Z' H' s'/\D.ct Z' H'
 | .ret u=>∃v Z' H',Inv X pins Z' H' s'/\RelV v u/\D.rt v H'
def PE (X:Cx) (e:Expr) (t:TE):Prop:=
 ∀(pins:List CA) (s:Shared) (Z:St) (H:Hp) (Q:VK),Inv X pins Z H s->t Z H Q->wpAny C0 X.A (eval e X.env) (EP X pins Z Q) X.xe s
def PT (X:Cx) (e:Expr) (t:TT):Prop:=
 ∀(pins:List CA) (s:Shared) (Z:St) (H:Hp) (Q:Bool->Hp->Prop),Inv X pins Z H s->t Z H Q->wpAny C0 X.A (isTrue e X.env (eval e X.env)) (TP X pins Z Q) X.xe s
def PW (X:Cx) (e:Expr) (t:TT):Prop:=
 ∀(whole:Sem Value) (pins:List CA) (s:Shared) (Z:St) (H:Hp) (Q:Bool->Hp->Prop),Inv X pins Z H s->t Z H Q->wpAny C0 X.A (isTrue e X.env whole) (TP X pins Z Q) X.xe s
theorem PW.pt {X:Cx}{e:Expr}{t:TT}(h:PW X e t):PT X e t:=h _
def PA (X:Cx) (es:List Expr) (t:TA):Prop:=
 ∀(pos:Pos) (pins:List CA) (s:Shared) (Z:St) (H:Hp) (Q:List V->Hp->Prop),Inv X pins Z H s->t Z H Q->wpAny C0 X.A (spliced (backTo pos (starEach es X.env))) (AP X pins Z Q) X.xe s
def PS (X:Cx) (st:Stmt) (t:TS):Prop:=
 ∀(pins:List CA) (s:Shared) (Z:St) (H:Hp) (D:Ends),Inv X pins Z H s->t D Z H->wpAny C0 X.A (exec st X.env) (SP X pins D) X.xe s
def PSs (X:Cx) (st:List Stmt) (t:TS):Prop:=
 ∀(pins:List CA) (s:Shared) (Z:St) (H:Hp) (D:Ends),Inv X pins Z H s->t D Z H->wpAny C0 X.A (execs st X.env) (SP X pins D) X.xe s
theorem aC {α:Type}{t:Sem α}{Q Q':α->Shared->Prop}{M:Model}{A:Around}{E:Value->Shared->Prop}{s:Shared}(h:wpAny M A t Q E s) (hQ:∀a s,Q a s->Q' a s):wpAny M A t Q' E s:=Qe h hQ λ_ _ x=>x
end L2
namespace L2
open PySem PySem.Spec PyProof.Rows
section
variable {X:Cx}
theorem bin {a b:Expr}{ta tb:TE}(ha:PE X a ta) (hb:PE X b tb) {pins:List CA}{s:Shared}{Z:St}{H:Hp}{R:V->V->Hp->Prop}(I:Inv X pins Z H s) (h:ta Z H λx H1=>tb Z H1 λy H2=>R x y H2)
  {α:Type} {Q:α->Shared->Prop} {f:Value->Value->Sem α}
  (hf:∀v u s2 x y H2,Inv X pins Z H2 s2->RelV x v->RelV y u->R x y H2->wpAny C0 X.A (f v u) Q X.xe s2) :
  wpAny C0 X.A (eval a X.env) (λv s₁=>wpAny C0 X.A (eval b X.env) (λu s₂=>wpAny C0 X.A (f v u) Q X.xe s₂) X.xe s₁) X.xe s:=by
 refine aC (ha pins s Z H _ I h) λv s1 ⟨x,H1,I1,r1,q1⟩=>?_
 refine aC (hb pins s1 Z H1 _ I1 q1) λu s2 ⟨y,H2,I2,r2,q2⟩=>?_
 exact hf v u s2 x y H2 I2 r1 r2 q2
noncomputable def mP (i:Nat):TE:=fun Z H Q=>∃v,Z[i]?=some (some v)/\Q v H
noncomputable def tC (v:V):TE:=λ_ H Q=>Q v H
theorem ju {i:Nat}{x:Str}{pos:Pos}(hN:X.N[i]?=some x) (hv:jA X.env.scope x) (hd:(x == ("__debug__":Str))=false:=by decide) (hcd:(x == ("__classdict__":Str))=false:=by decide):PE X (.Name x pos) (mP i):=by
 intro pins s Z H Q I h
 obtain⟨v,e,h⟩:=h
 obtain⟨m,hn,hl⟩:=I.loc
 obtain⟨u,r,l⟩:=hl i x v hN e hv
 have fin:EP X pins Z Q u s:=⟨v,H,I,r,h⟩
 rcases l with ⟨hk,hm⟩|⟨hk,c,hc,hcell⟩
 ·exact wpAny_Name (wpAny_loadName_local I.ok.kind hk hn hm fin) hd
 ·rcases hk with hk|hk
  ·exact wpAny_Name (wpAny_loadName_cell I.ok.kind hk hc hcell fin) hd
  ·exact wpAny_Name (wpAny_loadName_free I.ok.kind hk hc hcell fin hcd) hd
theorem qQc {i j pos}:PE X (.Constant (.int i) j pos) (tC (.int i)):=λ_ _ _ H _ I h=>wpAny_Constant_int ⟨.int i,H,I.tok _,⟨_,rfl⟩,h⟩
theorem qSp {b j pos}:PE X (.Constant (.bool b) j pos) (tC (.bl b)):=λ_ _ _ H _ I h=>Constant_bool ⟨.bl b,H,I,rfl,h⟩
theorem qP9 {j pos}:PE X (.Constant .none j pos) (tC .non):=λ_ _ _ H _ I h=>Constant_none ⟨.non,H,I,rfl,h⟩
theorem qP6 {x j pos}:PE X (.Constant (.str x) j pos) (tC (.str x)):=λ_ _ _ H _ I h=>Calls.Constant_str ⟨.str x,H,I.tok _,⟨_,rfl⟩,h⟩
def Gl (X:Cx) (x:Str):Prop:=X.env.kindOf x=some .globalImplicit
theorem tU {E:Value->Shared->Prop}{pins:List CA}{s:Shared}{Z:St}{H:Hp}{x:Str}{u:Value}{pos:Pos}{Q:Value->Shared->Prop}(I:Inv X pins Z H s) (hg:Gl X x) (hm:X.mg x=some u) (h:Q u s)
  (hd:(x == ("__debug__":Str))=false:=by decide):wpAny C0 X.A (eval (.Name x pos) X.env) Q E s:=
 Calls.Name_function_global I.ok.kind hg (Calls.loadGlobal_global (by rw [I.ok.glob];exact I.mod.glob.keeps I.bk) hm h) hd
theorem iA {E:Value->Shared->Prop}{pins:List CA}{s:Shared}{Z:St}{H:Hp}{x:Str}{u:Value}{pos:Pos}{Q:Value->Shared->Prop}(I:Inv X pins Z H s) (hg:Gl X x) (hm:X.mg x=none) (hv:Qo x=some u) (h:Q u s)
  (hn:x≠"__name__":=by decide) (hd:(x == ("__debug__":Str))=false:=by decide):wpAny C0 X.A (eval (.Name x pos) X.env) Q E s:=by
 obtain⟨mb,h1,h2⟩:=I.mod.blt
 exact Calls.Name_function_global I.ok.kind hg (Calls.loadGlobal_builtin (by rw [I.ok.glob];exact I.mod.glob.keeps I.bk) hm (by rw [I.ok.blt];exact h1.keeps I.bk) ((h2 x hn).trans hv) h) hd
theorem qNT {x:Str}{v:V}{u:Value}{pos:Pos}(hg:Gl X x) (hm:X.mg x=some u) (r:RelV v u) (hd:(x == ("__debug__":Str))=false:=by decide):PE X (.Name x pos) (tC v):=
 λ_ _ _ H _ I h=>tU I hg hm ⟨v,H,I,r,h⟩ hd
theorem qNU {x:Str}{v:V}{u:Value}{pos:Pos}(hg:Gl X x) (hm:X.mg x=none) (hv:Qo x=some u) (r:RelV v u) (hn:x≠"__name__":=by decide) (hd:(x == ("__debug__":Str))=false:=by decide):PE X (.Name x pos) (tC v):=
 λ_ _ _ H _ I h=>iA I hg hm hv ⟨v,H,I,r,h⟩ hn hd
variable {a b:Expr}{ta tb:TE}{pos:Pos}
noncomputable def tB (t:TE):TT:=fun Z H Q=>t Z H λx H1=>∃c,x=.bl c/\Q c H1
theorem qPW {e:Expr}{t:TE}(h:PE X e t) (he:∀whole,isTrue e X.env whole=(do let v <-whole;standAt e.pos;holding [v] (truthy v)):=by intro _;rfl):PT X e (tB t):=by
 intro pins s Z H Q I hw
 refine isTrue_plain (aC (h pins s Z H _ I hw) λv s1 ⟨x,H1,I1,r1,q1⟩=>?_) (he _)
 obtain⟨d,rfl,q⟩:=q1
 cases r1
 exact wpAny_truthy_bool ⟨H1,I1,q⟩
variable {tA tB':TT}{rest:List Expr}
noncomputable def qTL (t u:TT):TT:=fun Z H Q=>t Z H λc H1=>if c=true then u Z H1 Q else Q false H1
noncomputable def tOr (t u:TT):TT:=fun Z H Q=>t Z H λc H1=>if c=true then Q true H1 else u Z H1 Q
noncomputable def qTG (t:TT):TT:=fun Z H Q=>t Z H λc H1=>Q (!c) H1
theorem qNO (ha:PT X a tA):PW X (.BoolOp .And [a] pos) tA:=by
 intro wh pins s Z H Q I h
 refine isTrue_and (aC (ha pins s Z H Q I h) λc s1 e=>?_)
 cases c with
 | true=>exact isTrue_and_nil e
 | false=>exact e
theorem qPT (ha:PT X a tA):PW X (.BoolOp .Or [a] pos) tA:=by
 intro wh pins s Z H Q I h
 refine isTrue_or (aC (ha pins s Z H Q I h) λc s1 e=>?_)
 cases c with
 | false=>exact isTrue_or_nil e
 | true=>exact e
theorem qPV (ha:PT X a tA) (hb:PW X (.BoolOp .And (b::rest) pos) tB'):PW X (.BoolOp .And (a::b::rest) pos) (qTL tA tB'):=by
 intro wh pins s Z H Q I h
 refine isTrue_and (aC (ha pins s Z H _ I h) λc s1 ⟨H1,I1,q1⟩=>?_)
 cases c with
 | true=>exact hb wh pins s1 Z H1 Q I1 q1
 | false=>exact⟨H1,I1,q1⟩
theorem qSi (ha:PT X a tA) (hb:PW X (.BoolOp .Or (b::rest) pos) tB'):PW X (.BoolOp .Or (a::b::rest) pos) (tOr tA tB'):=by
 intro wh pins s Z H Q I h
 refine isTrue_or (aC (ha pins s Z H _ I h) λc s1 ⟨H1,I1,q1⟩=>?_)
 cases c with
 | true=>exact⟨H1,I1,q1⟩
 | false=>exact hb wh pins s1 Z H1 Q I1 q1
theorem qPX (ha:PT X a tA):PT X (.UnaryOp .Not a pos) (qTG tA):=by
 intro pins s Z H Q I h
 exact isTrue_not (ha pins s Z H (λc H1=>Q (!c) H1) I h)
noncomputable def qR9 (ta tb:TE):TE:=fun Z H Q=>ta Z H λx H1=>∃c,x=.bl c/\if c=true then tb Z H1 Q else Q (.bl false) H1
noncomputable def qTF (ta tb:TE):TE:=fun Z H Q=>ta Z H λx H1=>∃c,x=.bl c/\if c=true then Q (.bl true) H1 else tb Z H1 Q
noncomputable def qR5 (ta:TE):TE:=fun Z H Q=>ta Z H λx H1=>∃c,x=.bl c/\Q (.bl (!c)) H1
theorem qP7 {op}{t:TE}(h:PE X a t):PE X (.BoolOp op [a] pos) t:=λpins s Z H Q I hw=>BoolOp_one (h pins s Z H Q I hw)
theorem qQf (ha:PE X a ta) (hb:PE X (.BoolOp .And (b::rest) pos) tb):PE X (.BoolOp .And (a::b::rest) pos) (qR9 ta tb):=by
 intro pins s Z H Q I h
 refine BoolOp_and (aC (ha pins s Z H _ I h) λv s1 ⟨x,H1,I1,r1,q1⟩=>?_)
 obtain⟨c,rfl,q1⟩:=q1
 cases r1
 refine wpAny_truthy_bool ?_
 cases c with
 | true=>exact hb pins s1 Z H1 Q I1 q1
 | false=>exact⟨.bl false,H1,I1,rfl,q1⟩
theorem qSm (ha:PE X a ta) (hb:PE X (.BoolOp .Or (b::rest) pos) tb):PE X (.BoolOp .Or (a::b::rest) pos) (qTF ta tb):=by
 intro pins s Z H Q I h
 refine BoolOp_or (aC (ha pins s Z H _ I h) λv s1 ⟨x,H1,I1,r1,q1⟩=>?_)
 obtain⟨c,rfl,q1⟩:=q1
 cases r1
 refine wpAny_truthy_bool ?_
 cases c with
 | false=>exact hb pins s1 Z H1 Q I1 q1
 | true=>exact⟨.bl true,H1,I1,rfl,q1⟩
theorem qP8 (ha:PE X a ta):PE X (.UnaryOp .Not a pos) (qR5 ta):=by
 intro pins s Z H Q I h
 refine UnaryOp_ (aC (ha pins s Z H _ I h) λv s1 ⟨x,H1,I1,r1,q1⟩=>?_)
 obtain⟨c,rfl,q1⟩:=q1
 cases r1
 exact not_of (wpAny_truthy_bool ⟨.bl (!c),H1,I1,rfl,q1⟩)
noncomputable def tIf (t:TT) (ta tb:TE):TE:=fun Z H Q=>t Z H λc H1=>if c=true then ta Z H1 Q else tb Z H1 Q
theorem qKy {c:Expr}(hc:PT X c tA) (ha:PE X a ta) (hb:PE X b tb):PE X (.IfExp c a b pos) (tIf tA ta tb):=by
 intro pins s Z H Q I h
 refine wpAny_IfExp (aC (hc pins s Z H _ I h) λd s1 ⟨H1,I1,q1⟩=>?_)
 cases d with
 | true=>exact ha pins s1 Z H1 Q I1 q1
 | false=>exact hb pins s1 Z H1 Q I1 q1
end
end L2
namespace L2
open PySem PySem.Spec PyProof.Rows
def SqL (K:Qb) (H:Hp) (a:Addr) (xs:List V):Prop:=
 Rd H a (.lst xs) ∨
  ∃(o:Obj) (its:Array Value) (n:Nat),K.lookup a=some o/\o.cls=.type "list"/\o.dict=none/\o.data=.seq its n/\its.size<=sizeLine/\Vals xs its.toList
def SqT (K:Qb) (H:Hp) (a:Addr) (xs:List V):Prop:=
 Rd H a Ci ∨
  ∃(o:Obj) (its:Array Value) (n:Nat),K.lookup a=some o/\o.cls=.type "tuple"/\o.data=.seq its n/\its.size<=sizeLine/\Vals xs its.toList
noncomputable def qT9:Value->Option V
 | .none=>some .non
 | .bool b=>some (.bl b)
 | .int i _=>some (.int i)
 | .str x _=>some (.str x)
 | .bytes b _=>some (.byt b)
 | .float b _=>some (.flt b)
 | .ref a=>some (.ref a)
 | .type n=>some (.ty n)
 | _=>none
theorem RelV.abs {x:V}{u:Value}(r:RelV x u):qT9 u=some x:=by
 cases x with
 | non=>cases r;rfl
 | bl _=>cases r;rfl
 | int _=>obtain⟨t,rfl⟩:=r;rfl
 | str _=>obtain⟨t,rfl⟩:=r;rfl
 | byt _=>obtain⟨t,rfl⟩:=r;rfl
 | flt _=>obtain⟨t,rfl⟩:=r;rfl
 | ref _=>cases r;rfl
 | ty _=>cases r;rfl
theorem RelV.inj {x y:V}{u:Value}(r:RelV x u) (q:RelV y u):x=y:=gw (r.abs.symm.trans q.abs)
theorem Vals.inj:∀{xs ys:List V}{us:List Value},Vals xs us->Vals ys us->xs=ys
 | _,_,_,.nil,.nil=>rfl
 | _,_,_,.cons r t,.cons r' t'=>by rw [r.inj r',Vals.inj t t']
section
variable {X:Cx}{pins:List CA}{Z:St}{H:Hp}{s:Shared}{a:Addr}{xs ys:List V}
theorem SqL.of {K:Qb}(h:H a=some (.lst xs)):SqL K H a xs:=.inl (.inl h)
theorem SqT.of {K:Qb}(h:H a=some Ci):SqT K H a xs:=.inl (.inl h)
theorem Inv.list (I:Inv X pins Z H s) (h:SqL X.K H a xs):∃its:List Value,Vals xs its/\PlainL s.heap a its.toArray/\xs.length<=sizeLine:=by
 rcases h with h|⟨o,its,n,hk,hc,hd,hs,hz,r⟩
 ·obtain⟨z,its,n,r,e⟩:=h.ok I.hok
  exact⟨its,r,⟨_,n,e,rfl,rfl,rfl⟩,z⟩
 ·refine⟨its.toList,r,⟨o,n,I.kIn a o hk,hc,hd,by simpa using hs⟩,?_⟩
  have e:=r.length
  simp only [cJ] at e
  omega
theorem Inv.tuple (I:Inv X pins Z H s) (h:SqT X.K H a xs):∃its:List Value,Vals xs its/\IsTup s.heap a its.toArray/\xs.length<=sizeLine:=by
 rcases h with h|⟨o,its,n,hk,hc,hs,hz,r⟩
 ·obtain⟨z,its,r,p⟩:=h.ok I.hok
  exact⟨its,r,p,z⟩
 ·refine⟨its.toList,r,⟨o,I.kIn a o hk,hc,n,by simpa using hs⟩,?_⟩
  have e:=r.length
  simp only [cJ] at e
  omega
theorem Inv.list_inj (I:Inv X pins Z H s) (h:SqL X.K H a xs) (h':SqL X.K H a ys):xs=ys:=by
 obtain⟨its,r,⟨o,n,e,_,_,d⟩,_⟩:=I.list h
 obtain⟨its',r',⟨o',n',e',_,_,d'⟩,_⟩:=I.list h'
 rw [e] at e';cases e'
 rw [d] at d'
 injection d' with d1 _
 have:its=its':=by simpa using congrArg Array.toList d1
 subst this
 exact r.inj r'
theorem Inv.tuple_inj (I:Inv X pins Z H s) (h:SqT X.K H a xs) (h':SqT X.K H a ys):xs=ys:=by
 obtain⟨its,r,⟨o,e,_,n,d⟩,_⟩:=I.tuple h
 obtain⟨its',r',⟨o',e',_,n',d'⟩,_⟩:=I.tuple h'
 rw [e] at e';cases e'
 rw [d] at d'
 injection d' with d1 _
 have:its=its':=by simpa using congrArg Array.toList d1
 subst this
 exact r.inj r'
end
noncomputable abbrev Cx.wish (X:Cx) (E:Value->Shared->Prop):Cx:={ X with xe:=E }
abbrev Cx.nox (X:Cx):Cx:=X.wish λ_ _=>False
theorem Cx.Ok.wish {X:Cx}(ok:X.Ok) (E:Value->Shared->Prop):(X.wish E).Ok:=
 ⟨ok.mod,ok.kind,ok.glob,ok.blt,ok.above,ok.inj,ok.has,ok.cab,ok.hd,ok.frames,ok.stk,ok.exf,ok.bs,ok.bsz,ok.noex,ok.exfs,ok.funs,ok.frf⟩
theorem Cx.Ok.unwish {X:Cx}{E:Value->Shared->Prop}(ok:(X.wish E).Ok):X.Ok:=
 ⟨ok.mod,ok.kind,ok.glob,ok.blt,ok.above,ok.inj,ok.has,ok.cab,ok.hd,ok.frames,ok.stk,ok.exf,ok.bs,ok.bsz,ok.noex,ok.exfs,ok.funs,ok.frf⟩
section
variable {X:Cx}{pins:List CA}{Z:St}{H:Hp}{s:Shared}{E:Value->Shared->Prop}
theorem Inv.wish (I:Inv X pins Z H s) (E:Value->Shared->Prop):Inv (X.wish E) pins Z H s:=⟨I.ok.wish E,I.os,I.bare,I.base,I.loc,I.cell,I.free,I.freeC,I.pin,I.hok,I.len⟩
theorem Inv.unwish (I:Inv (X.wish E) pins Z H s):Inv X pins Z H s:=⟨I.ok.unwish,I.os,I.bare,I.base,I.loc,I.cell,I.free,I.freeC,I.pin,I.hok,I.len⟩
theorem SP.unwish {D:Ends}{f:Flow}{s':Shared}(h:SP (X.wish E) pins D f s'):SP X pins D f s':=by
 cases f with
 | next=>obtain⟨Z',H',I,q⟩:=h;exact⟨Z',H',I.unwish,q⟩
 | brk=>obtain⟨Z',H',I,q⟩:=h;exact⟨Z',H',I.unwish,q⟩
 | cont=>obtain⟨Z',H',I,q⟩:=h;exact⟨Z',H',I.unwish,q⟩
 | ret u=>obtain⟨v,Z',H',I,r,q⟩:=h;exact⟨v,Z',H',I.unwish,r,q⟩
theorem PSs.nox {st:List Stmt}{t:TS}(h:PSs X.nox st t):PSs X st t:=λpins s Z H D I hw =>
 Qe (h pins s Z H D (I.wish _) hw) (λ_ _ q=>q.unwish) λ_ _ z=>False.elim z
end
section
variable {X:Cx}{st:Stmt}{rest:List Stmt}{t u:TS}{e:Expr}{te:TE}{pos:Pos}
noncomputable def qR6:TS:=λD Z H=>D.nx Z H
noncomputable def qTD (t u:TS):TS:=λD Z H=>t { D with nx:=u D } Z H
theorem qNP:PSs X [] qR6:=λ_ _ Z H _ I h=>wpAny_execs_nil ⟨Z,H,I,h⟩
theorem qKt (h1:PS X st t) (h2:PSs X rest u):PSs X (st::rest) (qTD t u):=by
 intro pins s Z H D I h
 refine wpAny_execs_cons (aC (h1 pins s Z H { D with nx:=u D } I h) λf s1 q=>?_)
 cases f with
 | next =>
  obtain⟨Z',H',I',q⟩:=q
  exact h2 pins s1 Z' H' D I' q
 | ret v=>exact q
 | brk=>exact q
 | cont=>exact q
theorem Inv.quiet {pins:List CA}{Z:St}{H:Hp}{s:Shared}(I:Inv X pins Z H s):interactive X.env=false:=by simp [interactive,I.ok.kind]
noncomputable def qR7 (te:TE):TS:=λD Z H=>te Z H λ_ H1=>D.nx Z H1
theorem zx (he:PE X e te) (hs:swapsWith e none pos.line X.env=pure false:=by rfl):PS X (.Expr e pos) (qR7 te):=by
 intro pins s Z H D I h
 exact wpAny_Expr_any (aC (he pins s Z H _ I h) λv s1 ⟨x,H1,I1,r1,q1⟩=>⟨Z,H1,I1,q1⟩) I.quiet hs
noncomputable def qTE (te:TE):TS:=λD Z H=>te Z H D.rt
theorem xO (he:PE X e te):PS X (.Return (some e) pos) (qTE te):=by
 intro pins s Z H D I h
 exact wpAny_Return_some (aC (he pins s Z H _ I h) λv s1 ⟨x,H1,I1,r1,q1⟩=>⟨x,Z,H1,I1,r1,q1⟩)
noncomputable def qTI (c:TT) (t u:TS):TS:=λD Z H=>c Z H λb H1=>if b=true then t D Z H1 else u D Z H1
theorem qSj {c:Expr}{a b:List Stmt}{tc:TT}(hc:PT X c tc) (ha:PSs X a t) (hb:PSs X b u):PS X (.If c a b pos) (qTI tc t u):=by
 intro pins s Z H D I h
 refine wpAny_If (aC (hc pins s Z H _ I h) λd s1 ⟨H1,I1,q1⟩=>?_)
 cases d with
 | true=>exact ha pins s1 Z H1 D I1 q1
 | false=>exact hb pins s1 Z H1 D I1 q1
end
abbrev TG:=V->St->Hp->(St->Hp->Prop)->Prop
abbrev iK:=List V->St->Hp->(St->Hp->Prop)->Prop
def PG (X:Cx) (target:Expr) (t:TG):Prop:=
 ∀(pins:List CA) (s:Shared) (Z:St) (H:Hp) (v:V) (u:Value) (Q:St->Hp->Prop),Inv X pins Z H s->RelV v u->t v Z H Q ->
   wpAny C0 X.A (assign target X.env u) (λ_ s'=>∃Z' H',Inv X pins Z' H' s'/\Q Z' H') X.xe s
def md (X:Cx) (ts:List Expr) (t:iK):Prop:=
 ∀(pins:List CA) (s:Shared) (Z:St) (H:Hp) (vs:List V) (us:List Value) (Q:St->Hp->Prop),Inv X pins Z H s->Vals vs us->t vs Z H Q ->
   wpAny C0 X.A (assignInOrder ((assignEach ts X.env).map (·.2)) us) (λ_ s'=>∃Z' H',Inv X pins Z' H' s'/\Q Z' H') X.xe s
section
variable {X:Cx}{pos:Pos}
noncomputable def jW (i:Nat):TG:=λv Z H Q=>Q (Z.set i (some v)) H
theorem qk {i:Nat}{x:Str}(hN:X.N.Nodup) (hi:X.N[i]?=some x) (hx:mf X.env.scope x) (hf:X.fn x=true∨X.env.scope.names.lookup x=some .local:=by first|exact .inl rfl|exact .inr rfl|assumption):PG X (.Name x pos) (jW i):=by
 intro pins s Z H v u Q I r h
 exact wpAny_assign_Name (Al I hN hi hx r (λs' I'=>⟨_,H,I',h⟩) hf)
noncomputable def rT:iK:=λvs Z H Q=>vs=[]/\Q Z H
noncomputable def oX (t:TG) (u:iK):iK:=λvs Z H Q=>∃v r,vs=v::r/\t v Z H fun Z' H'=>u r Z' H' Q
theorem yM:md X [] rT:=by
 intro pins s Z H vs us Q I r h
 obtain⟨e,h⟩:=h
 subst e
 cases r
 exact assignInOrder_nil ⟨Z,H,I,h⟩
theorem uk {e:Expr}{es:List Expr}{t:TG}{u:iK}(h1:PG X e t) (h2:md X es u)
  (hs:(assignEach (e::es) X.env).map (·.2)=assign e X.env::(assignEach es X.env).map (·.2):=by rfl):md X (e::es) (oX t u):=by
 intro pins s Z H vs us Q I r h
 obtain⟨v,vr,e1,h⟩:=h
 subst e1
 cases r with
 | cons r rr =>
  rw [hs]
  refine assignInOrder_cons (aC (h1 pins s Z H _ _ _ I r h) λ_ s1 ⟨Z1,H1,I1,q1⟩=>?_)
  exact h2 pins s1 Z1 H1 _ _ Q I1 rr q1
noncomputable def rV (K:Qb) (n:Nat) (t:iK):TG:=λv Z H Q=>∃a xs,v=.ref a/\SqT K H a xs/\xs.length=n/\t xs Z H Q
theorem lh {es:List Expr}{k:Nat}{t:iK}{n:Nat}(hc:X.calm=true) (h:md X es t)
  (hn:(assignEach es X.env).length=n:=by rfl) (hst:(assignEach es X.env).findIdx? (·.1)=none:=by rfl):PG X (.Tuple es k pos) (rV X.K n t):=by
 intro pins s Z H v u Q I r hw
 obtain⟨a,xs,e1,hq,hl,hw⟩:=hw
 subst e1
 cases r
 obtain⟨its,rv,ht,hz⟩:=I.tuple hq
 refine assign_Tuple_tuple (I.ok.hd hc) ht (by simp [hn,<-hl,rv.length]) hst λh' hx=>?_
 have I1:Inv X pins Z H { s with heap:=h' }:=I.kept (t':=s.toks) λb o e=>hx b o (bV (Qi e)) e
 exact h pins _ Z H xs _ Q I1 (by simpa using rv) hw
noncomputable def wG (te:TE) (g:TG):TS:=λD Z H=>te Z H λx H1=>g x Z H1 D.nx
theorem tf {tg e:Expr}{te:TE}{g:TG}(he:PE X e te) (hg:PG X tg g) (hs:swapsWithSole [tg] e pos.line X.env=pure false:=by rfl) (hw:swappedStores [tg] e X.env=pure none:=by rfl)
  (h1:(assignEach [tg] X.env).map (·.2)=[assign tg X.env]:=by rfl):PS X (.Assign [tg] e pos) (wG te g):=by
 intro pins s Z H D I h
 refine wpAny_Assign_stores (aC (he pins s Z H _ I h) λv s1 ⟨x,H1,I1,r1,q1⟩=>?_) hs hw
 rw [h1]
 exact aC (hg pins s1 Z H1 x v _ I1 r1 q1) λ_ s2 q=>q
theorem xP {i:Nat}{x:Str}{e:Expr}{te:TE}{pos':Pos}(hN:X.N.Nodup) (hi:X.N[i]?=some x) (hx:mf X.env.scope x) (he:PE X e te) (hs:swapsWith e (some (.Name x pos')) pos.line X.env=pure false:=by rfl) (hf:X.fn x=true∨X.env.scope.names.lookup x=some .local:=by first|exact .inl rfl|exact .inr rfl|assumption) :
  PS X (.Assign [.Name x pos'] e pos) (wG te (jW i)):=by
 intro pins s Z H D I h
 refine wpAny_Assign_Name (aC (he pins s Z H _ I h) λv s1 ⟨y,H1,I1,r1,q1⟩=>?_) hs
 exact Al I1 hN hi hx r1 (λs2 I2=>⟨_,H1,I2,q1⟩) hf
end
section
variable {X:Cx}{pos:Pos}
noncomputable def qPs (c:TT) (tb:TS):TS:=λD Z H=>∃W:Nat->St->Hp->Prop,(∃m,W m Z H)/\∀m Z H,W m Z H ->
 c Z H λb H1=>if b=true then ∃N:St->Hp->Prop,(∀Z' H',N Z' H'->∃m',m'<m/\W m' Z' H')/\tb { D with nx:=N,ct:=N,bk:=D.nx } Z H1 else D.nx Z H1
theorem qKu {c:Expr}{body:List Stmt}{tc:TT}{tb:TS}(hp:PassesOwn C0 X.A X.env X.xe) (hc:PT X c tc) (hb:PSs X body tb):PS X (.While c body [] pos) (qPs tc tb):=by
 intro pins s Z H D I h
 obtain⟨W,⟨m0,w0⟩,turn⟩:=h
 refine wpAny_While (codeAny_whileLoop (λn s'=>∃Z' H',Inv X pins Z' H' s'/\W n Z' H') ?_ m0 ⟨Z,H,I,w0⟩)
 rintro n s1 ⟨Z1,H1,I1,w1⟩
 refine wpAny_passesOwn hp (aC (hc pins s1 Z1 H1 _ I1 (turn n Z1 H1 w1)) λb s2 ⟨H2,I2,q2⟩=>?_)
 cases b with
 | true =>
  obtain⟨N,hN,q2⟩:=q2
  rw [Ql rfl]
  refine wpAny_passesOwn hp (aC (hb pins s2 Z1 H2 _ I2 q2) λf s3 q3=>?_)
  cases f with
  | next =>
   obtain⟨Z3,H3,I3,n3⟩:=q3
   obtain⟨m',hm,w3⟩:=hN Z3 H3 n3
   exact⟨m',hm,Z3,H3,I3,w3⟩
  | cont =>
   obtain⟨Z3,H3,I3,n3⟩:=q3
   obtain⟨m',hm,w3⟩:=hN Z3 H3 n3
   exact⟨m',hm,Z3,H3,I3,w3⟩
  | brk=>exact q3
  | ret v=>exact q3
 | false =>
  rw [Qm fA]
  exact wpAny_execs_nil ⟨Z1,H2,I2,q2⟩
end
structure It where
 go:Nat->Hp->Prop
 yld:Nat->Hp->V->Hp->Prop
 stop:Nat->Hp->Prop
def d6 (X:Cx) (pins:List CA) (H:Hp) (b:Addr):Prop:=
 H b=none/\b≠X.env.locals/\b∉X.fs/\(b∈X.ex∨X.s₀.heap.objs.size<=b)/\(∀x c,X.env.cells.lookup x=some c->c≠b)/\∀p∈X.pn++pins,p.1≠b
theorem Inv.fpOk {X:Cx}{pins:List CA}{Z:St}{H H':Hp}{s:Shared}{b:Addr}(I:Inv X pins Z H s) (hb:s.heap.objs.size<=b) (hn:H' b=none):d6 X pins H' b:=by
 refine⟨hn,iL (bO I.lt hb),I.nofs hb,.inr (aT I.sz hb),λx c e z=>?_,λp hp z=>?_⟩
 ·obtain⟨v,q⟩:=I.cell x c e
  exact Qn (bO q.lt (by rw [z];exact hb)) (fR _)
 ·exact Qn (bO (Qi (I.pin p hp).1) (by rw [z];exact hb)) (fR _)
structure Turn (P:Program) (w:World) (K:Qb) (tg:Expr) (J:It) (fp:List Addr) (it:Addr) (tn:Nat->Heap->Prop):Prop where
 mem:it∈fp
 obj:∀i h,tn i h->∀b∈fp,∃o,h.get? b=some o/\∀v,o.data≠.cell v
 keep:∀i h h',tn i h->(∀b∈fp,∀o,h.get? b=some o->h'.get? b=some o)->tn i h'
 item:∀(X:Cx),X.prog=P->X.w=w->X.K=K->X.calm=true->∀(i:Nat) (pins:List CA) (s:Shared) (Z:St) (H:Hp) (E:Value->Shared->Prop),Inv X pins Z H s->(∀b∈fp,d6 X pins H b)->tn i s.heap->J.go i H ->
  wpAny (model P w) X.A (pyNext (.ref it)) (λr s1=>∃u,r=some u /\
   wpAny (model P w) X.A (letOwnedTupleGo tg (.ref it) u) (λ_ s2=>∃x H',Inv X pins Z H' s2/\RelV x u/\J.yld i H x H'/\tn (i+1) s2.heap/\∀b∈fp,H' b=none) E s1) E s
 done:∀(X:Cx),X.prog=P->X.w=w->X.K=K->X.calm=true->∀(i:Nat) (pins:List CA) (s:Shared) (Z:St) (H:Hp) (E:Value->Shared->Prop),Inv X pins Z H s->(∀b∈fp,d6 X pins H b)->tn i s.heap->J.stop i H ->
  wpAny (model P w) X.A (pyNext (.ref it)) (λr s1=>r=none/\Inv X pins Z H s1) E s
 self:∀(A:Around) (i:Nat) (s:Shared) (Q:Value->Shared->Prop) (E:Value->Shared->Prop),tn i s.heap->Q (.ref it) s->wpAny (model P w) A (pyIter (.ref it)) Q E s
abbrev TI:=St->Hp->(It->Hp->Prop)->Prop
def qR (X:Cx) (pins:List CA) (Z:St) (tg:Expr) (R:It->Hp->Prop) (itv:Value) (s2:Shared):Prop:=
 ∃(it:Addr) (fp:List Addr) (tn:Nat->Heap->Prop) (J:It) (H':Hp),itv=.ref it/\Inv X pins Z H' s2/\Turn X.prog X.w X.K tg J fp it tn/\tn 0 s2.heap/\(∀b∈fp,d6 X pins H' b)/\R J H'
def PI (X:Cx) (tg iter:Expr) (wi:TI):Prop:=
 ∀(pins:List CA) (s:Shared) (Z:St) (H:Hp) (R:It->Hp->Prop),Inv X pins Z H s->wi Z H R ->
   wpAny C0 X.A (eval iter X.env) (λv s1=>wpAny C0 X.A (pyIter v) (qR X pins Z tg R) X.xe s1) X.xe s
theorem mS {M:Model}{A:Around}{E:Value->Shared->Prop}{s:Shared}{tg:Expr}{it:Addr}{u:Value}{o:Obj}{n:String}{vs:Array Value}{Q:Unit->Shared->Prop}(ho:s.heap.get? it=some o) (hc:o.cls=.type n) (hd:o.data=.fields vs)
  (hn:["enumerate","zip","dict_itemiterator","dict_reverseitemiterator","odict_iterator","itertools.zip_longest","itertools.pairwise"].contains n=false) (hQ:Q () s):wpAny M A (letOwnedTupleGo tg (.ref it) u) Q E s:=by
 unfold letOwnedTupleGo
 cases tg<;>first
  | exact Qd hQ
  | (cases u<;>first
    | exact Qd hQ
    | (refine Qc (wpAny_load ho ?_)
       rw [hc,hd]
       show wpAny M A (if (["enumerate","zip","dict_itemiterator","dict_reverseitemiterator","odict_iterator","itertools.zip_longest","itertools.pairwise"].contains n&&vs[0]? == some (rawInt _))=true then _ else _) Q E s
       rw [Qm (by intro h;rw [hn,n4] at h;cases h)]
       exact Qd hQ))
noncomputable def qU (K:Qb) (a:Addr):It:=
 ⟨λi H=>∃xs x,SqL K H a xs/\xs[i]?=some x,λi H x H'=>H'=H/\∀xs,SqL K H a xs->xs[i]?=some x,λi H=>∃xs,SqL K H a xs/\xs.length<=i⟩
noncomputable def vn (K:Qb) (a:Addr):It:=
 ⟨λi H=>∃xs x,SqT K H a xs/\xs[i]?=some x,λi H x H'=>H'=H/\∀xs,SqT K H a xs->xs[i]?=some x,λi H=>∃xs,SqT K H a xs/\xs.length<=i⟩
def qT (lo:Int) (n:Nat):It:=⟨λi _=>i<n,λi H x H'=>H'=H/\x=.int (lo+i),λi _=>n<=i⟩
theorem qHv {P:Program}{w:World}{K:Qb}{tg:Expr}(a it:Addr):Turn P w K tg (qU K a) [it] it (λi h=>h.IsListIter it a i) where
 mem:=by simp
 obj:=λi h st b hb=>by
  have e:b=it:=by simpa using hb
  subst e
  obtain⟨o,e,c,d⟩:=st
  exact⟨o,e,λv z=>by rw [d] at z;cases z⟩
 keep:=λi h h' st k=>st.at λo e=>k it C2 o e
 item:=by
  intro X hP hw hK hc i pins s Z H E I hf st hg
  subst hP hw hK
  obtain⟨xs,x,hq,hx⟩:=hg
  obtain⟨its,rv,p,hz⟩:=I.list hq
  obtain⟨u,hu,ru⟩:=rv.get hx
  obtain⟨f0,f1,f2,f3,f4,f5⟩:=hf it C2
  refine wpAny_pyNext_list_item st p.isList (x:=u) (by simpa using hu) λh' st' sb=>?_
  have I1:Inv X pins Z H { s with heap:=h' }:=I.turned (t':=s.toks) (λb o hb e=>(sb.2 b hb).trans e) f0 f1 f3 f4 f5
  obtain⟨o,e,c,d⟩:=id st'
  exact⟨u,rfl,mS (s:={ s with heap:=h' }) e c d At ⟨x,H,I1,ru,⟨rfl,λys hy=>by rw [I.list_inj hy hq];exact hx⟩,st',λb hb=>(hf b hb).1⟩⟩
 done:=by
  intro X hP hw hK hc i pins s Z H E I hf st hg
  subst hP hw hK
  obtain⟨xs,hq,hx⟩:=hg
  obtain⟨its,rv,p,hz⟩:=I.list hq
  obtain⟨f0,f1,f2,f3,f4,f5⟩:=hf it C2
  have hl:=rv.length
  exact wpAny_pyNext_list_end (I.ok.hd hc) st p.isList (by simp;omega) λh' eb=>⟨rfl,I.turned (t':=s.toks) (λb o hb e=>eb b o hb e) f0 f1 f3 f4 f5⟩
 self:=λ_ _ _ _ _ st h=>wpAny_pyIter_listiter st h
theorem qGS {P:Program}{w:World}{K:Qb}{tg:Expr}(a it:Addr):Turn P w K tg (vn K a) [it] it (λi h=>h.IsTupleIter it a i) where
 mem:=by simp
 obj:=λi h st b hb=>by
  have e:b=it:=by simpa using hb
  subst e
  obtain⟨o,e,c,d⟩:=st
  exact⟨o,e,λv z=>by rw [d] at z;cases z⟩
 keep:=λi h h' st k=>st.at λo e=>k it C2 o e
 item:=by
  intro X hP hw hK hc i pins s Z H E I hf st hg
  subst hP hw hK
  obtain⟨xs,x,hq,hx⟩:=hg
  obtain⟨its,rv,p,hz⟩:=I.tuple hq
  obtain⟨u,hu,ru⟩:=rv.get hx
  obtain⟨f0,f1,f2,f3,f4,f5⟩:=hf it C2
  refine wpAny_pyNext_tuple_item st (show s.heap.IsTuple a its.toArray from p) (x:=u) (by simpa using hu) λh' st' sb=>?_
  have I1:Inv X pins Z H { s with heap:=h' }:=I.turned (t':=s.toks) (λb o hb e=>(sb.2 b hb).trans e) f0 f1 f3 f4 f5
  obtain⟨o,e,c,d⟩:=id st'
  exact⟨u,rfl,mS (s:={ s with heap:=h' }) e c d At ⟨x,H,I1,ru,⟨rfl,λys hy=>by rw [I.tuple_inj hy hq];exact hx⟩,st',λb hb=>(hf b hb).1⟩⟩
 done:=by
  intro X hP hw hK hc i pins s Z H E I hf st hg
  subst hP hw hK
  obtain⟨xs,hq,hx⟩:=hg
  obtain⟨its,rv,p,hz⟩:=I.tuple hq
  obtain⟨f0,f1,f2,f3,f4,f5⟩:=hf it C2
  have hl:=rv.length
  exact wpAny_pyNext_tuple_end (I.ok.hd hc) st (show s.heap.IsTuple a its.toArray from p) (by simp;omega) λh' eb=>⟨rfl,I.turned (t':=s.toks) (λb o hb e=>eb b o hb e) f0 f1 f3 f4 f5⟩
 self:=λ_ _ _ _ _ st h=>wpAny_pyIter_tupleiter st h
theorem qGT {P:Program}{w:World}{K:Qb}{tg:Expr}(it:Addr) (lo:Int) (n:Nat):Turn P w K tg (qT lo n) [it] it (λi h=>IsRangeIter h it (lo+(i:Nat) * 1) ((n:Int) - (i:Nat)) 1) where
 mem:=by simp
 obj:=λi h st b hb=>by
  have e:b=it:=by simpa using hb
  subst e
  exact⟨_,st,λv z=>by
   have z':Data.fields _=Data.cell v:=z
   cases z'⟩
 keep:=λi h h' st k=>k it C2 _ st
 item:=by
  intro X hP hw hK hc i pins s Z H E I hf st hg
  subst hP hw hK
  obtain⟨f0,f1,f2,f3,f4,f5⟩:=hf it C2
  have W:=Walks.range (prog:=X.prog) (w:=X.w) (I.ok.hd hc) it lo 1 n
  refine W.item i s _ _ hg st λv h' tk hv st' kk=>?_
  obtain⟨t,rfl⟩:=hv
  have I1:Inv X pins Z H { s with heap:=h',toks:=tk }:=I.turned (λb o hb e=>kk b o (by simpa using hb) e) f0 f1 f3 f4 f5
  refine⟨_,rfl,mS (s:={ s with heap:=h',toks:=tk }) (n:="range_iterator") st' rfl rfl (by decide) ⟨.int (lo+i),H,I1,⟨t,?_⟩,⟨rfl,rfl⟩,st',λb hb=>(hf b hb).1⟩⟩
  rw [Int.mul_one]
 done:=by
  intro X hP hw hK hc i pins s Z H E I hf st hg
  subst hP hw hK
  obtain⟨f0,f1,f2,f3,f4,f5⟩:=hf it C2
  exact wpAny_pyNext_range_end (I.ok.hd hc) st (by have:n<=i:=hg;omega) λh' eb=>⟨rfl,I.turned (t':=s.toks) (λb o hb e=>eb b o hb e) f0 f1 f3 f4 f5⟩
 self:=λ_ _ _ _ _ st h=>wpAny_pyIter_rangeiter st h
end L2
namespace L2
open PySem PySem.Spec PyProof.Rows
section
variable {X:Cx}{tg:Expr}
theorem qKs {pins:List CA}{Z:St}{H:Hp}{s:Shared}{R:It->Hp->Prop}{E:Value->Shared->Prop}{lo hi:Int}{t u v:Tok}{tk:Nat}(I:Inv X pins Z H s) (h1:-(2^62)<=lo) (h2:lo<2^62) (h3:-(2^62)<=hi) (h4:hi<2^62)
  (q:R (qT lo (hi - lo).toNat) H):wpAny C0 X.A (pyIter (.ref s.heap.objs.size)) (qR X pins Z tg R) E { s with heap:=s.heap.push { cls:=.type "range",data:=.fields #[.int lo t,.int hi u,.int 1 v] },toks:=tk }:=by
 refine wpAny_pyIter_range (IsRange.new ..) (small_one h1 h2 h3 h4) ?_
 have I1:Inv X pins Z H { s with heap:=s.heap.push { cls:=.type "range",data:=.fields #[.int lo t,.int hi u,.int 1 v] },toks:=tk }:=I.kept λb o e=>Qg _ e
 refine⟨(s.heap.push { cls:=.type "range",data:=.fields #[.int lo t,.int hi u,.int 1 v] }).objs.size,[(s.heap.push { cls:=.type "range",data:=.fields #[.int lo t,.int hi u,.int 1 v] }).objs.size],_,_,H,rfl,
  I1.kept (t':=tk) λb o e=>Qg _ e,qGT _ lo (hi - lo).toNat,?_,λb hb=>?_,q⟩
 ·have e1:lo+((0:Nat):Int) * 1=lo:=by simp
  have e2:(((hi - lo).toNat:Nat):Int) - ((0:Nat):Int)=Builtin.Range.rangeSize lo hi 1:=by rw [rangeSize_one];split<;>omega
  show IsRangeIter _ _ (lo+((0:Nat):Int) * 1) ((((hi - lo).toNat:Nat):Int) - ((0:Nat):Int)) 1
  rw [e1,e2]
  exact Qh _ rfl
 ·have e:b=(s.heap.push { cls:=.type "range",data:=.fields #[.int lo t,.int hi u,.int 1 v] }).objs.size:=by simpa using hb
  subst e
  exact I1.fpOk (au _) (I1.hok.fresh (au _))
def qSI (ta:TA):TI:=fun Z H R=>ta Z H λvs H1=>∃j:Int,vs=[.int j]/\-(2^62)<=j/\j<2^62/\R (qT 0 j.toNat) H1
theorem qIa {a:Expr}{ta:TA}{p pos:Pos}(hg:Gl X "range") (hm:X.mg "range"=none) (ha:PA X [a] ta) (hs:starEach [a] X.env=[(false,eval a X.env)]:=by rfl):PI X tg (.Call (.Name "range" p) [a] [] pos) (qSI ta):=by
 intro pins s Z H R I h
 refine Call_ (iA I hg hm boot_range (jb (aC (ha pos pins s Z H _ I h) λus s1 ⟨vs,H1,I1,r1,q1⟩=>?_) hs rfl))
 obtain⟨j,e,q1,q2,q⟩:=q1
 subst e
 cases r1 with
 | cons r rr =>
  cases rr
  obtain⟨t,rfl⟩:=r
  exact call_range_1 (qKs I1 AC AC q1 q2 (by simpa using q))
noncomputable def qTJ (wi:TI) (g:TG) (tb:TS):TS:=λD Z H=>wi Z H λJ H1=>∃W:Nat->Nat->St->Hp->Prop,(∃m,W 0 m Z H1)/\∀i m Z H,W i m Z H ->
 (J.stop i H/\D.nx Z H)∨(J.go i H/\∃N:St->Hp->Prop,(∀Z' H',N Z' H'->∃m',m'<m/\W (i+1) m' Z' H')/\∀x H',J.yld i H x H'->g x Z H' fun Z2 H2=>tb { D with nx:=N,ct:=N,bk:=D.nx } Z2 H2)
noncomputable def pU (fp:List Addr) (h:Heap):List CA:=fp.filterMap λb=>(h.get? b).map λo=>(b,o)
theorem lK {fp:List Addr}{h:Heap}{b:Addr}{o:Obj}(hb:b∈fp) (e:h.get? b=some o):(b,o)∈pU fp h:=List.mem_filterMap.mpr ⟨b,hb,by rw [e];rfl⟩
theorem qIh {fp:List Addr}{h:Heap}{p:Addr×Obj}(hp:p∈pU fp h):p.1∈fp/\h.get? p.1=some p.2:=by
 obtain⟨b,hb,e⟩:=List.mem_filterMap.mp hp
 cases q:h.get? b with
 | none=>rw [q] at e;cases e
 | some o =>
  rw [q] at e
  have e':(b,o)=p:=gw e
  subst e'
  exact⟨hb,q⟩
theorem Inv.pinned {pins:List CA}{Z:St}{H:Hp}{s:Shared}{fp:List Addr}(I:Inv X pins Z H s) (hf:∀b∈fp,d6 X pins H b) (ho:∀b∈fp,∃o,s.heap.get? b=some o/\∀v,o.data≠.cell v):Inv X (pins++pU fp s.heap) Z H s:=
 I.pins_of λp hp=>(yaC.mp hp).elim (λz=>I.pin p (dg _ z)) λz=>by
  obtain⟨hb,e⟩:=qIh z
  obtain⟨f0,f1,f2,_⟩:=hf p.1 hb
  obtain⟨o,e',d⟩:=ho p.1 hb
  rw [e] at e';cases e'
  exact⟨e,f0,f1,f2,d⟩
theorem Inv.unpinned {pins pl:List CA}{Z:St}{H:Hp}{s:Shared}(I:Inv X (pins++pl) Z H s):Inv X pins Z H s:=I.pins_of λp hp=>I.pin p (dg _ (iM _ hp))
theorem qPZ {iter:Expr}{body:List Stmt}{wi:TI}{g:TG}{tb:TS}{pos:Pos}(hp:PassesOwn C0 X.A X.env X.xe) (hc:X.calm=true) (hi:PI X tg iter wi) (hg:PG X tg g) (hb:PSs X body tb)
  (hs:∀x,foldedSetIterable iter X.env x=pure x:=by intro _;rfl):PS X (.For tg iter body [] pos) (qTJ wi g tb):=by
 intro pins s Z H D I h
 refine wpAny_For (aC (hi pins s Z H _ I h) λv s1 h1=>aC h1 λitv s2 h2=>?_) hs
 obtain⟨it,fp,tn,J,H2,e,I2,T,st2,f2,W,⟨m0,w0⟩,turn⟩:=h2
 subst e
 have stat:∀{H':Hp},(∀b∈fp,H' b=none)->∀b∈fp,d6 X pins H' b:=λhn b hb=>⟨hn b hb,(f2 b hb).2⟩
 refine codeAny_forLoop_any (λn s'=>∃i Z' H',Inv X pins Z' H' s'/\tn i s'.heap/\(∀b∈fp,H' b=none)/\W i n Z' H') ?_ m0 ⟨0,Z,H2,I2,st2,λb hb=>(f2 b hb).1,w0⟩
 rintro n s3 ⟨i,Z3,H3,I3,st3,fr3,w3⟩
 rcases turn i n Z3 H3 w3 with ⟨stop,qn⟩|⟨go,N,hN,step⟩
 ·refine wpAny_passesOwn hp (aC (T.done X rfl rfl rfl hc i pins s3 Z3 H3 X.xe I3 (stat fr3) st3 stop) λr s4 ⟨hr,I4⟩=>?_)
  subst hr
  exact wpAny_execs_nil ⟨Z3,H3,I4,qn⟩
 ·refine wpAny_passesOwn hp (aC (T.item X rfl rfl rfl hc i pins s3 Z3 H3 X.xe I3 (stat fr3) st3 go) λr s4 ⟨u,hr,h4⟩=>?_)
  subst hr
  refine wpAny_passesOwn hp (aC h4 λ_ s5 ⟨x,H5,I5,r5,y5,st5,fr5⟩=>?_)
  have I5':=I5.pinned (stat fr5) (T.obj _ _ st5)
  refine wpAny_passesOwn hp (aC (hg _ s5 Z3 H5 x u _ I5' r5 (step x H5 y5)) λ_ s6 ⟨Z6,H6,I6,q6⟩=>?_)
  refine wpAny_passesOwn hp (aC (hb _ s6 Z6 H6 _ I6 q6) λf s7 q7=>?_)
  have again:∀{Z7:St} {H7:Hp},Inv X (pins++pU fp s5.heap) Z7 H7 s7->N Z7 H7->∃m,m<n/\∃i Z' H',Inv X pins Z' H' s7/\tn i s7.heap/\(∀b∈fp,H' b=none)/\W i m Z' H':=λ{Z7 H7} I7 n7=>by
   obtain⟨m',hm,w7⟩:=hN Z7 H7 n7
   refine⟨m',hm,i+1,Z7,H7,I7.unpinned,T.keep _ _ _ st5 λb hb o e=>(I7.pin (b,o) (dg _ (dg _ (lK hb e)))).1,λb hb=>?_,w7⟩
   obtain⟨o,e,d⟩:=T.obj _ _ st5 b hb
   exact (I7.pin (b,o) (dg _ (dg _ (lK hb e)))).2.1
  cases f with
  | next=>obtain⟨Z7,H7,I7,n7⟩:=q7;exact again I7 n7
  | cont=>obtain⟨Z7,H7,I7,n7⟩:=q7;exact again I7 n7
  | brk=>obtain⟨Z7,H7,I7,q7⟩:=q7;exact⟨Z7,H7,I7.unpinned,q7⟩
  | ret v=>obtain⟨x7,Z7,H7,I7,r7,q7⟩:=q7;exact⟨x7,Z7,H7,I7.unpinned,r7,q7⟩
end
end L2
namespace L2
open PySem PySem.Spec PyProof.Rows
abbrev R2:=V->V->Hp->VK->Prop
def OpR (X:Cx) (f:Value->Value->Sem Value) (r:R2):Prop:=
 ∀(pins:List CA) (s:Shared) (Z:St) (H:Hp) (x y:V) (v u:Value) (Q:VK),Inv X pins Z H s->RelV x v->RelV y u->r x y H Q ->
   wpAny C0 X.A (f v u) (EP X pins Z Q) X.xe s
def vj (X:Cx) (f:Value->Sem Value) (r:V->Hp->VK->Prop):Prop:=
 ∀(pins:List CA) (s:Shared) (Z:St) (H:Hp) (x:V) (v:Value) (Q:VK),Inv X pins Z H s->RelV x v->r x H Q ->
   wpAny C0 X.A (f v) (EP X pins Z Q) X.xe s
def CallR (X:Cx) (f:Value) (r:List V->Hp->VK->Prop):Prop:=
 ∀(pins:List CA) (s:Shared) (Z:St) (H:Hp) (xs:List V) (us:List Value) (Q:VK),Inv X pins Z H s->Vals xs us->r xs H Q ->
   wpAny C0 X.A (call f us) (EP X pins Z Q) X.xe s
noncomputable def ot (r:R2) (ta tb:TE):TE:=fun Z H Q=>ta Z H λx H1=>tb Z H1 λy H2=>r x y H2 Q
noncomputable def tUn (r:V->Hp->VK->Prop) (ta:TE):TE:=fun Z H Q=>ta Z H λx H1=>r x H1 Q
noncomputable def rI (C:Int->Int->Prop) (g:Int->Int->V):R2:=λx y H Q=>∃i j,x=.int i/\y=.int j/\C i j/\Q (g i j) H
noncomputable def iN (g:Int->Int->V):R2:=λx y H Q=>∃i j,x=.int i/\y=.int j/\Q (g i j) H
def rU (g:Int->V):V->Hp->VK->Prop:=λx H Q=>∃i,x=.int i/\Q (g i) H
section
variable {X:Cx}{a b c:Expr}{ta tb tc:TE}{pos:Pos}
theorem rZ (ha:PE X a ta) (hb:PE X b tb) {pins:List CA}{s:Shared}{Z:St}{H:Hp}{R:V->V->Hp->Prop}(I:Inv X pins Z H s)
  (h:ta Z H λx H1=>tb Z H1 λy H2=>R x y H2) {Q:Value->Shared->Prop}{f:Value->Value->Sem Value}
  (hf:∀v u s2 x y H2,Inv X pins Z H2 s2->RelV x v->RelV y u->R x y H2->wpAny C0 X.A (f v u) Q X.xe s2) :
  wpAny C0 X.A (eval a X.env) (λv s₁=>wpAny C0 X.A (eval b X.env) (λu s₂=>wpAny C0 X.A (f v u) Q X.xe s₂) X.xe s₁) X.xe s:=by
 refine aC (ha pins s Z H _ I h) λv s1 ⟨x,H1,I1,r1,q1⟩=>?_
 refine aC (hb pins s1 Z H1 _ I1 q1) λu s2 ⟨y,H2,I2,r2,q2⟩=>?_
 exact hf v u s2 x y H2 I2 r1 r2 q2
theorem qSn {op:Operator}{r:R2}(ho:OpR X (binaryOp op) r) (ha:PE X a ta) (hb:PE X b tb):PE X (.BinOp a op b pos) (ot r ta tb):=by
 intro pins s Z H Q I h
 exact wpAny_BinOp (rZ ha hb I h λv u s2 x y H2 I2 rx ry q=>ho pins s2 Z H2 x y v u Q I2 rx ry q)
theorem qSl {op:UnaryOp}{r:V->Hp->VK->Prop}(ho:vj X (unaryOp op) r) (ha:PE X a ta):PE X (.UnaryOp op a pos) (tUn r ta):=by
 intro pins s Z H Q I h
 exact UnaryOp_ (aC (ha pins s Z H _ I h) λv s1 ⟨x,H1,I1,r1,q1⟩=>ho pins s1 Z H1 x v Q I1 r1 q1)
theorem lW {f:Value->Value->Sem Value}{C:Int->Int->Prop}{g:Int->Int->Int}
  (rule:∀(i j:Int) (t u:Tok) (s:Shared) (Q:Value->Shared->Prop) (E:Value->Shared->Prop),C i j->Q (.int (g i j) s.toks) { s with toks:=s.toks+1 }->wpAny C0 X.A (f (.int i t) (.int j u)) Q E s) :
  OpR X f (rI C λi j=>.int (g i j)):=by
 intro pins s Z H x y v u Q I rx ry h
 obtain⟨i,j,rfl,rfl,hc,q⟩:=h
 obtain⟨t,rfl⟩:=rx
 obtain⟨t',rfl⟩:=ry
 exact rule i j t t' s _ _ hc ⟨.int (g i j),H,I.tok _,⟨_,rfl⟩,q⟩
theorem wD {f:Value->Value->Sem Value}{g:Int->Int->Int}
  (rule:∀(i j:Int) (t u:Tok) (s:Shared) (Q:Value->Shared->Prop) (E:Value->Shared->Prop),Q (.int (g i j) s.toks) { s with toks:=s.toks+1 }->wpAny C0 X.A (f (.int i t) (.int j u)) Q E s) :
  OpR X f (iN λi j=>.int (g i j)):=by
 intro pins s Z H x y v u Q I rx ry h
 obtain⟨i,j,rfl,rfl,q⟩:=h
 obtain⟨t,rfl⟩:=rx
 obtain⟨t',rfl⟩:=ry
 exact rule i j t t' s _ _ ⟨.int (g i j),H,I.tok _,⟨_,rfl⟩,q⟩
theorem oK {f:Value->Value->Sem Value}{g:Int->Int->Bool}
  (rule:∀(i j:Int) (t u:Tok) (s:Shared) (Q:Value->Shared->Prop) (E:Value->Shared->Prop),Q (.bool (g i j)) s->wpAny C0 X.A (f (.int i t) (.int j u)) Q E s) :
  OpR X f (iN λi j=>.bl (g i j)):=by
 intro pins s Z H x y v u Q I rx ry h
 obtain⟨i,j,rfl,rfl,q⟩:=h
 obtain⟨t,rfl⟩:=rx
 obtain⟨t',rfl⟩:=ry
 exact rule i j t t' s _ _ ⟨.bl (g i j),H,I,rfl,q⟩
theorem op_add:OpR X (binaryOp .Add) (iN λi j=>.int (i+j)):=wD λ_ _ _ _ _ _ _ q=>add_int q
theorem qQj:OpR X (binaryOp .Sub) (iN λi j=>.int (i - j)):=wD λ_ _ _ _ _ _ _ q=>sub_int q
theorem unI {f:Value->Sem Value}{g:Int->Int}
  (rule:∀(i:Int) (t:Tok) (s:Shared) (Q:Value->Shared->Prop) (E:Value->Shared->Prop),Q (.int (g i) s.toks) { s with toks:=s.toks+1 }->wpAny C0 X.A (f (.int i t)) Q E s) :
  vj X f (rU λi=>.int (g i)):=by
 intro pins s Z H x v Q I rx h
 obtain⟨i,rfl,q⟩:=h
 obtain⟨t,rfl⟩:=rx
 exact rule i t s _ _ ⟨.int (g i),H,I.tok _,⟨_,rfl⟩,q⟩
theorem qPb:vj X (unaryOp .USub) (rU λi=>.int (-i)):=unI λ_ _ _ _ _ q=>neg_int q
end
section
variable {X:Cx}{a b c:Expr}{ta tb tc:TE}{pos:Pos}
theorem qSr:OpR X (compareOp .Lt) (iN λi j=>.bl (decide (i<j))):=oK λ_ _ _ _ _ _ _ q=>lt_int q
theorem qSs:OpR X (compareOp .LtE) (iN λi j=>.bl (decide (i<=j))):=oK λ_ _ _ _ _ _ _ q=>le_int q
theorem qSt:OpR X (compareOp .Gt) (iN λi j=>.bl (decide (j<i))):=oK λ_ _ _ _ _ _ _ q=>gt_int q
theorem qSu:OpR X (compareOp .GtE) (iN λi j=>.bl (decide (j<=i))):=oK λ_ _ _ _ _ _ _ q=>ge_int q
theorem OpR.or {f:Value->Value->Sem Value}{r r':R2}(h:OpR X f r) (h':OpR X f r'):OpR X f (λx y H Q=>r x y H Q∨r' x y H Q):=by
 intro pins s Z H x y v u Q I rx ry q
 rcases q with q|q
 ·exact h pins s Z H x y v u Q I rx ry q
 ·exact h' pins s Z H x y v u Q I rx ry q
theorem qQr (b:Expr) {op:CmpOp}(h:op≠.In:=by decide) (h2:op≠.NotIn:=by decide):behindInMarks op b=false:=by
 have e1:(op == CmpOp.In)=false:=by cases op<;>first|rfl|exact Qn rfl h
 have e2:(op == CmpOp.NotIn)=false:=by cases op<;>first|rfl|exact Qn rfl h2
 cases b<;>simp [behindInMarks,e1,e2]
theorem yL {op:CmpOp}{r:R2}(ho:OpR X (compareOp op) r) (ha:PE X a ta) (hb:PE X b tb) (hm:behindInMarks op b=false):PE X (.Compare a [op] [b] pos) (ot r ta tb):=by
 intro pins s Z H Q I h
 exact wpAny_Compare1 (rZ ha hb I h λv u s2 x y H2 I2 rx ry q=>ho pins s2 Z H2 x y v u Q I2 rx ry q) hm
noncomputable def qR3 (t:TE):TT:=fun Z H Q=>t Z H λx H'=>∃k,x=.bl k/\Q k H'
theorem zy {op:CmpOp}{r:R2}(ho:OpR X (compareOp op) r) (ha:PE X a ta) (hb:PE X b tb) (hm:behindInMarks op b=false):PT X (.Compare a [op] [b] pos) (qR3 (ot r ta tb)):=by
 intro pins s Z H Q I h
 refine wpAny_isTrue_Compare1 (aC (ha pins s Z H _ I h) λv s1 ⟨x,H1,I1,r1,q1⟩=>aC (hb pins s1 Z H1 _ I1 q1) λu s2 ⟨y,H2,I2,r2,q2⟩ =>
  aC (ho pins s2 Z H2 x y v u _ I2 r1 r2 q2) λc s3 ⟨z,H3,I3,r3,k,e,q3⟩=>?_) hm
 subst e
 cases r3
 exact wpAny_truthy_bool ⟨H3,I3,q3⟩
theorem sM:(sizeLine:Nat)<2^63:=by rw [sizeLine_eq];decide
theorem qG3:OpR X (binaryOp .Add) (λx y H Q=>∃i j,x=.str i/\y=.str j/\i.length+j.length<=sizeLine/\Q (.str (i++j)) H):=by
 intro pins s Z H x y v u Q I rx ry h
 obtain⟨i,j,rfl,rfl,hz,q⟩:=h
 obtain⟨t,rfl⟩:=rx
 obtain⟨t',rfl⟩:=ry
 exact add_str (λt' tk=>⟨.str (i++j),H,I.tok _,⟨_,rfl⟩,q⟩) hz
theorem gF {x:V}{us:List Value}(r:Vals [x] us):∃u,us=[u]/\RelV x u:=by
 cases r with
 | cons r1 r2=>cases r2;exact⟨_,rfl,r1⟩
theorem sG {x y:V}{us:List Value}(r:Vals [x,y] us):∃u w',us=[u,w']/\RelV x u/\RelV y w':=by
 cases r with
 | cons r1 r2 =>
  cases r2 with
  | cons r3 r4=>cases r4;exact⟨_,_,rfl,r1,r3⟩
theorem qJp (hc:X.calm=true):CallR X (.builtin "max") (λxs H Q=>∃i j,xs=[.int i,.int j]/\Q (.int (if j > i then j else i)) H):=by
 intro pins s Z H xs us Q I r h
 obtain⟨i,j,rfl,q⟩:=h
 obtain⟨u,w',rfl,⟨t,rfl⟩,⟨t',rfl⟩⟩:=sG r
 refine max_two_ints (I.ok.hd hc) λh' tk k=>⟨_,H,I.kept k,?_,q⟩
 by_cases hj:j > i
 ·rw [Ql hj,Ql hj];exact⟨_,rfl⟩
 ·rw [Qm hj,Qm hj];exact⟨_,rfl⟩
theorem qJm (hc:X.calm=true):CallR X (.builtin "min") (λxs H Q=>∃i j,xs=[.int i,.int j]/\Q (.int (if j<i then j else i)) H):=by
 intro pins s Z H xs us Q I r h
 obtain⟨i,j,rfl,q⟩:=h
 obtain⟨u,w',rfl,⟨t,rfl⟩,⟨t',rfl⟩⟩:=sG r
 refine min_two_ints (I.ok.hd hc) λh' tk k=>⟨_,H,I.kept k,?_,q⟩
 by_cases hj:j<i
 ·rw [Ql hj,Ql hj];exact⟨_,rfl⟩
 ·rw [Qm hj,Qm hj];exact⟨_,rfl⟩
theorem qJs:CallR X (.type "int") (λxs H Q=>(∃i,xs=[.int i]/\Q (.int i) H)∨∃k,xs=[.bl k]/\Q (.int (if k then 1 else 0)) H):=by
 intro pins s Z H xs us Q I r h
 rcases h with ⟨i,rfl,q⟩|⟨k,rfl,q⟩
 ·obtain⟨u,rfl,t,rfl⟩:=gF r
  exact call_int_int ⟨.int i,H,I,⟨_,rfl⟩,q⟩
 ·obtain⟨u,rfl,r1⟩:=gF r
  cases r1
  exact call_int_bool ⟨.int (if k then 1 else 0),H,I.tok _,⟨_,rfl⟩,q⟩
end
end L2
namespace L2
open PySem PySem.Spec PyProof.Rows
structure ObjM (h:Heap) (x dx C:Addr) (mA:Str->Option Value):Prop where
 obj:h.get? x=some (PySem.W.instObj C dx)
 ns:h.Ns1 dx mA
 ne:dx≠x
structure Cls (K:Qb) (C:Addr):Prop where
 pg:PySem.W.plainGet K C Str.empty=true
 hd:PySem.W.hasDictIn K C=true
 po:PySem.W.plainOver K C=true
 sa:PySem.W.findIn K (.ref C) "__setattr__"=some (some (.builtin "object.__setattr__"))
def qRw (K:Qb) (C:Addr) (f:Str):Prop:=PySem.W.findIn K (.ref C) f=some none
structure Con (K:Qb) (C:Addr) (f:Str) (v:V) (u:Value):Prop where
 at_:PySem.W.findIn K (.ref C) f=some (some u)
 rel:RelV v u
 get:PySem.W.specialIn K u "__get__"=some none
 cp:PySem.W.copiedNames.contains f=false
structure Meth (K:Qb) (C:Addr) (m:Str) (f:Addr):Prop where
 at_:PySem.W.findIn K (.ref C) m=some (some (.ref f))
 fn:PySem.W.isFn K (.ref f)=true
 kp:PySem.W.keepIn K (.ref f)=true
section
variable {X:Cx}{pins:List CA}{Z:St}{H:Hp}{s:Shared}{A:Around}{E:Value->Shared->Prop}{Q:Value->Shared->Prop}{c:Value}{b:Bool}
inductive TyOf (K:Qb) (H:Hp):V->Value->Prop where
 | non:TyOf K H .non (.type "NoneType")
 | bl (x:Bool):TyOf K H (.bl x) (.type "bool")
 | int (i:Int):TyOf K H (.int i) (.type "int")
 | str (x:Str):TyOf K H (.str x) (.type "str")
 | flt (x:UInt64):TyOf K H (.flt x) (.type "float")
 | lst {a:Addr} {xs:List V} (e:H a=some (.lst xs)):TyOf K H (.ref a) (.type "list")
 | frz {a:Addr} {o:Obj} {xs:List V} (e:H a=some (.frz o (.lst xs))):TyOf K H (.ref a) (.type "list")
 | tup {a:Addr} {xs:List V} (e:H a=some Ci):TyOf K H (.ref a) (.type "tuple")
 | dK {a:Addr} {kvs:List (dS×V)} (e:H a=some (.dK kvs)):TyOf K H (.ref a) (.type "dict")
 | dT {a:Addr} {kvs:List (List dS×V)} (e:H a=some (.dT kvs)):TyOf K H (.ref a) (.type "dict")
 | ins {a C dx:Addr} {fs:List (Str×V)} (e:H a=some (.ins C dx fs)) (cl:Cls K C) (ha:PySem.W.findIn K (.ref C) "__class__"=some (some (.builtin "object.__class__")))
   (hn:PySem.W.specialIn K (.builtin "object.__class__") "__get__"=some (some (.builtin "getset_descriptor.__get__"))) (htk:PySem.W.takesIn K (.builtin "object.__class__")=some true)
   (hm:PySem.W.mroIn K C (.type "object")=some true):TyOf K H (.ref a) (.ref C)
end
end L2
namespace L2
open PySem PySem.Spec PyProof.Rows
structure Room (k:Nat) (A:Around):Prop where
 hd:A.handled=none
 dp:A.depth+3 * k+5<recursionLimit
 un:A.units+16 * k+200<cLine
theorem Room.deeper {k:Nat}{A:Around}(r:Room (k+1) A) (env:Env):Room k (A.deeper env):=
 ⟨r.hd,by have:=r.dp;show A.depth+1+3 * k+5<_;omega,by have:=r.un;show A.units+3+16 * k+200<_;omega⟩
theorem Room.depth {k:Nat}{A:Around}(r:Room k A):A.depth<recursionLimit:=by have:=r.dp;omega
theorem Room.units {k:Nat}{A:Around}(r:Room k A):A.units+64<cLine:=by have:=r.un;omega
noncomputable def wH:TA:=λ_ H Q=>Q [] H
noncomputable def xf (ta:TE) (tr:TA):TA:=fun Z H Q=>ta Z H λx H1=>tr Z H1 λxs H2=>Q (x::xs) H2
section
variable {X:Cx}{e:Expr}{es:List Expr}{te:TE}{t:TA}{pos:Pos}
theorem iB:PA X [] wH:=λ_ _ _ _ H Q I h=>Calls.spliced_nil ⟨[],H,I,.nil,h⟩
theorem gd (ha:PE X e te) (hr:PA X es t) (hs:starEach (e::es) X.env=(false,eval e X.env)::starEach es X.env:=by rfl):PA X (e::es) (xf te t):=by
 intro pos pins s Z H Q I h
 rw [hs]
 show wpAny _ _ (spliced ((false,eval e X.env)::backTo pos (starEach es X.env))) _ _ s
 refine Calls.spliced_cons (aC (ha pins s Z H _ I h) λu s1 ⟨x,H1,I1,r1,q1⟩=>?_)
 exact aC (hr pos pins s1 Z H1 _ I1 q1) λus s2 ⟨xs,H2,I2,r2,q2⟩=>⟨x::xs,H2,I2,.cons r1 r2,q2⟩
def qTC (t:TA):TE:=fun Z H Q=>t Z H λxs H1=>xs.length<=sizeLine/\∀p,H1 p=none->Q (.ref p) (aB H1 p Ci)
def qTH (t:TA):TE:=fun Z H Q=>t Z H λxs H1=>xs.length<=sizeLine/\∀p,H1 p=none->Q (.ref p) (aB H1 p (.lst xs))
theorem qP5 {x1}(h:PA X es t):PE X (.Tuple es x1 pos) (qTC t):=by
 intro pins s Z H Q I hq
 refine wpAny_Tuple_spliced (aC (h pos pins s Z H _ I hq) λus s1 ⟨xs,H1,I1,r,z,q⟩=>⟨by rw [<-r.length];exact z,?_⟩)
 have hf:H1 s1.heap.objs.size=none:=I1.hok.fresh (au _)
 refine⟨.ref s1.heap.objs.size,aB H1 s1.heap.objs.size Ci,I1.laid (t':=s1.toks) (λb u e=>Qg _ e) (au _) ?_,rfl,q _ hf⟩
 exact⟨z,us,r,⟨_,Qh _ rfl,rfl,_,rfl⟩⟩
theorem qQa (h:PA X es t):PE X (.List es pos) (qTH t):=by
 intro pins s Z H Q I hq
 refine wpAny_List_spliced (aC (h pos pins s Z H _ I hq) λus s1 ⟨xs,H1,I1,r,z,q⟩=>⟨by rw [<-r.length];exact z,?_⟩)
 have hf:H1 s1.heap.objs.size=none:=I1.hok.fresh (au _)
 refine⟨.ref s1.heap.objs.size,aB H1 s1.heap.objs.size (.lst xs),I1.laid (t':=s1.toks) (λb u e=>Qg _ e) (au _) ?_,rfl,q _ hf⟩
 exact⟨z,us,0,r,Qh _ rfl⟩
end
abbrev Sp:=List V->Hp->VK->XK->Prop
abbrev ic:=List Env->Hp->Shared->XK->Value->Shared->Prop
structure Env0 (P:Program) (w:World) (K:Qb) (mg:Str->Option Value) (base:Heap) (A:Around) (outer:List Env) (s:Shared) (H:Hp):Prop where
 frames:A.frames=some outer
 mod:Mod K mg base
 bs:∀b o,base.get? b=some o->s.heap.get? b=some o/\H b=none
 bsz:base.objs.size<=s.heap.objs.size
 funs:s.heap.FunFrames base outer
 frf:∀b∈fu outer,H b=none
 hok:HOk P w H s.heap
 bare:AllBare s.gens
def CE (outer:List Env) (P:Program) (w:World) (H:Hp) (s:Shared) (Q:VK) (u:Value) (s':Shared):Prop:=
 ∃v H',s'.os=s.os/\AllBare s'.gens/\Un (fu outer) [] H H' s.heap s'.heap/\HOk P w H' s'.heap/\RelV v u/\Q v H'
def CR (CX:ic) (outer:List Env) (P:Program) (w:World) (H:Hp) (s:Shared) (Q:VK) (E:XK) (r:Result) (s':Shared):Prop:=
 match r with
 | .ok (.ret u)=>CE outer P w H s Q u s'
 | .ok _=>False
 | .error e=>CX outer H s E e s'
structure FnOk (P:Program) (w:World) (K:Qb) (mg:Str->Option Value) (base:Heap) (CX:ic) (k:Nat) (f:Addr) (fd:FuncData) (ps:List Str) (sp:Sp):Prop where
 len:∀vs H Q E,sp vs H Q E->vs.length=ps.length
 run:∀(A:Around) (outer:List Env) (s:Shared) (H:Hp) (args:Args) (us:List Value) (vs:List V) (Q:VK) (E:XK),Room k A->Env0 P w K mg base A outer s H->BindsTo s fd args (ps.zip us)->Vals vs us->sp vs H Q E ->
  codeAny (model P w) A (.call (.ref f) args) (CR CX outer P w H s Q E) s
section
variable {X:Cx}{pins:List CA}{Z:St}{H:Hp}{s s':Shared}
theorem Inv.env0 (I:Inv X pins Z H s):Env0 X.prog X.w X.K X.mg X.base X.A X.stack s H:=
 ⟨I.ok.frames,I.ok.mod,I.bs,aT I.ok.bsz I.sz,I.stack,I.stkFree,I.hok,I.bare⟩
theorem Inv.after {Q:VK}{u:Value}(I:Inv X pins Z H s) (h:CE X.stack X.prog X.w H s Q u s'):EP X pins Z Q u s':=by
 obtain⟨v,H',os,bare,un,hok,r,q⟩:=h
 obtain⟨hh,g,d,t,os'⟩:=s'
 obtain rfl:os'=s.os:=os
 exact⟨v,H',I.call (h':=hh) (g':=g) (d':=d) (t':=t) (ch:=[]) un hok bare (λb z=>Qn z C2),r,q⟩
end
noncomputable def qR8 (sp:Sp) (dvs:List V) (E:XK) (t:TA):TE:=fun Z H Q=>t Z H λvs H1=>sp (vs++dvs) H1 Q E
def Binds (K:Qb) (fd:FuncData) (ps:List Str) (ds:List Value):Prop:=
 ∀(s:Shared) (us:List Value),K.In s.heap->(us++ds).length=ps.length->BindsTo s fd ⟨us,[]⟩ (ps.zip (us++ds))
theorem Binds.all {K:Qb}{fd:FuncData}{ps:List Str}(h:∀us:List Value,us.length=ps.length->bindArgs fd ⟨us,[]⟩=pure (ps.zip us)):Binds K fd ps []:=λs us _ hl=>by
 rw [bR] at hl ⊢
 exact .of_eq (h us hl)
def sJ (CX:ic) (X:Cx) (E:XK):Prop:=∀(pins:List CA) (Z:St) (H:Hp) (s:Shared) (e:Value) (s':Shared),Inv X pins Z H s->CX X.stack H s E e s'->X.xe e s'
section
variable {X:Cx}{CX:ic}{k:Nat}{f C:Addr}{fd:FuncData}{ps:List Str}{sp:Sp}{dvs:List V}{ds:List Value}{E:XK}{x m:Str}{p pos apos:Pos}{e o:Expr}{es:List Expr}{ta:TE}{t:TA}
theorem qPM {pins:List CA}{Z:St}{H:Hp}{s:Shared}{Q:VK}{us:List Value}{vs:List V}(F:FnOk X.prog X.w X.K X.mg X.base CX k f fd ps sp) (hr:Room k X.A) (hb:Binds X.K fd ps ds) (hd:Vals dvs ds) (hx:sJ CX X E)
  (I:Inv X pins Z H s) (r:Vals vs us) (h:sp (vs++dvs) H Q E):wpAny C0 X.A (call (.ref f) us) (EP X pins Z Q) X.xe s:=by
 have r2:Vals (vs++dvs) (us++ds):=r.append hd
 have hl:(us++ds).length=ps.length:=by rw [<-r2.length];exact F.len _ _ _ _ h
 refine wpAny_call (codeAny_mono (F.run X.A X.stack s H ⟨us,[]⟩ (us++ds) (vs++dvs) Q E hr I.env0 (hb s us I.kIn hl) r2 h) λr s' hq=>?_)
 cases r with
 | error e=>exact hx pins Z H s e s' I hq
 | ok fl =>
  cases fl with
  | ret u=>exact I.after hq
  | next=>exact False.elim hq
  | brk=>exact False.elim hq
  | cont=>exact False.elim hq
theorem yK (F:FnOk X.prog X.w X.K X.mg X.base CX k f fd ps sp) (hr:Room k X.A) (hg:Gl X x) (hm:X.mg x=some (.ref f)) (hk:PySem.W.keepIn X.K (.ref f)=true) (hb:Binds X.K fd ps ds) (hd:Vals dvs ds) (hx:sJ CX X E)
  (ha:PA X (e::es) t) (hdb:(x == ("__debug__":Str))=false:=by decide) (he:starEach (e::es) X.env=(false,eval e X.env)::starEach es X.env:=by rfl) (hpl:(backTo pos (starEach es X.env)).any (·.1)=false:=by rfl) :
  PE X (.Call (.Name x p) (e::es) [] pos) (qR8 sp dvs E t):=by
 intro pins s Z H Q I h
 refine wpAny_Call_Name_kw (tU I hg hm ?_ hdb)
 refine PySem.W.callWith_K (h₀:=X.base) I.ok.mod.kin hk (aC (ha pos pins s Z H _ I h) λus s1 ⟨vs,H1,I1,r,q⟩=>⟨I1.kIn,?_⟩) he hpl
 exact qPM F hr hb hd hx I1 r q
structure Mk (K:Qb) (C f:Addr):Prop where
 makes:PySem.W.makesIn K C=true
 init:PySem.W.findIn K (.ref C) "__init__"=some (some (.ref f))
 fn:PySem.W.isFn K (.ref f)=true
 kp:PySem.W.keepIn K (.ref C)=true
end
section
variable {X:Cx}{CX:ic}{k:Nat}{f C:Addr}{fd:FuncData}{ps ks:List Str}{sp:Sp}{E:XK}{x m:Str}{p pos apos kpos:Pos}{e o:Expr}{es:List Expr}{kws:List Keyword}{te ta:TE}{t tk:TA}{nm:Option Str}
structure KBinds (K:Qb) (fd:FuncData) (ps ks:List Str) (g:List Value->List Value->List Value) (gV:List V->List V->List V):Prop where
 to:∀(s:Shared) (us ws:List Value),K.In s.heap->(g us ws).length=ps.length->BindsTo s fd ⟨us,ks.zip ws⟩ (ps.zip (g us ws))
 rel:∀{vs:List V} {us:List Value} {zs:List V} {ws:List Value},Vals vs us->Vals zs ws->Vals (gV vs zs) (g us ws)
variable {g:List Value->List Value->List Value}{gV:List V->List V->List V}
end
structure FnScope (N P:List Str) (sc:Scope):Prop where
 kind:sc.kind=.function
 co:sc.isCoroutine=false
 gen:sc.isGenerator=false
 nd:N.Nodup
 pre:N.take P.length=P
 par:∀x∈P,sc.names.lookup x=some .local∨sc.names.lookup x=some .cell
 nofree:∀y∈sc.names,y.2≠.free
theorem Aj {kindOf:Str->Option NameKind}{x:Str}:∀{binds:List (Str×Value)}{m:Str->Option Value},(∀v,(x,v)∉binds)->bindL kindOf binds m x=m x
 | [],_,_=>rfl
 | (n,v)::r,m,h=>by
  unfold bindL
  rw [Aj λw hw=>h w (bK _ hw)]
  split
  ·have:x≠n:=by rintro rfl;exact h v bq
   simp [this]
  ·rfl
theorem Ah {kindOf:Str->Option NameKind}{x:Str}:∀{binds:List (Str×Value)}{m:Str->Option Value},(∀v,(x,v)∉binds)->bindC kindOf binds m x=m x
 | [],_,_=>rfl
 | (n,v)::r,m,h=>by
  unfold bindC
  rw [Ah λw hw=>h w (bK _ hw)]
  split
  ·rfl
  ·have:x≠n:=by rintro rfl;exact h v bq
   simp [this]
theorem Ai {kindOf:Str->Option NameKind}{x:Str}{v:Value}:∀{P:List Str}{vs:List Value}{i:Nat}{m:Str->Option Value},P.Nodup->P[i]?=some x->vs[i]?=some v->kindOf x=some .local ->
  bindL kindOf (P.zip vs) m x=some v
 | [],_,_,_,_,h,_,_=>by simp at h
 | _::_,[],_,_,_,_,h,_=>by simp at h
 | p::P,w::vs,0,m,nd,h1,h2,hk=>by
  simp at h1 h2;subst h1;subst h2
  show bindL kindOf ((p,w)::P.zip vs) m p=_
  unfold bindL
  rw [Aj λv hv=>(ybx.mp nd).1 (mK hv).1,Ql hk]
  simp
 | p::P,w::vs,i+1,m,nd,h1,h2,hk=>by
  show bindL kindOf ((p,w)::P.zip vs) m x=_
  unfold bindL
  exact Ai (i:=i) (ybx.mp nd).2 (by simpa using h1) (by simpa using h2) hk
theorem Ag {kindOf:Str->Option NameKind}{x:Str}{v:Value}:∀{P:List Str}{vs:List Value}{i:Nat}{m:Str->Option Value},P.Nodup->P[i]?=some x->vs[i]?=some v->kindOf x≠some .local ->
  bindC kindOf (P.zip vs) m x=some v
 | [],_,_,_,_,h,_,_=>by simp at h
 | _::_,[],_,_,_,_,h,_=>by simp at h
 | p::P,w::vs,0,m,nd,h1,h2,hk=>by
  simp at h1 h2;subst h1;subst h2
  show bindC kindOf ((p,w)::P.zip vs) m p=_
  unfold bindC
  rw [Ah λv hv=>(ybx.mp nd).1 (mK hv).1,Qm hk]
  simp
 | p::P,w::vs,i+1,m,nd,h1,h2,hk=>by
  show bindC kindOf ((p,w)::P.zip vs) m x=_
  unfold bindC
  exact Ag (i:=i) (ybx.mp nd).2 (by simpa using h1) (by simpa using h2) hk
noncomputable def start (N:List Str) (vs:List V):St:=vs.map some++List.replicate (N.length - vs.length) none
def je (CX:ic) (P:Program) (w:World) (K:Qb) (mg:Str->Option Value) (base:Heap) (N:List Str) (qual:Str) (scope:Scope) (f:Addr) (cd:Value) (A:Around) (outer:List Env) (s:Shared) (H:Hp) (E:XK):Cx where
 prog:=P
 w:=w
 K:=K
 mg:=mg
 base:=base
 A:=A.deeper (envOfC qual scope s.heap.objs.size f cd)
 N:=N
 s₀:=s
 H₀:=H
 env:=envOfC qual scope s.heap.objs.size f cd
 outer:=outer
 stack:=envOfC qual scope s.heap.objs.size f cd::outer
 ex:=[]
 calm:=true
 fn:=λ_=>true
 pn:=[]
 xe:=λe s'=>wpAny (model P w) (A.deeper (envOfC qual scope s.heap.objs.size f cd)) (leaving (envOfC qual scope s.heap.objs.size f cd) e) (λ_ s''=>CX outer H s E e s'') (λe' s''=>CX outer H s E e' s'') s'
theorem zX {sc:Scope}{n:Nat}{x:Str}(h:sc.names.lookup x=some .cell):∃c,(cellsFrom n sc.names []).lookup x=some c:=by
 have q:=PySem.W.cellsFrom_some sc.names n [] (.inl h)
 exact Option.isSome_iff_exists.mp q
theorem qIC {CX:ic}{P:Program}{w:World}{K:Qb}{mg:Str->Option Value}{base:Heap}{N ps:List Str}{qual:Str}{scope:Scope}{f:Addr}{cd:Value}{A:Around}{outer:List Env}{s s1:Shared}{H:Hp}{E:XK}{us:List Value}{vs:List V}
  (S:FnScope N ps scope) (hd:A.handled=none) (e0:Env0 P w K mg base A outer s H) (hl:vs.length=ps.length) (r:Vals vs us)
  (x:InCallC s s.heap.objs.size (bindL (envOfC qual scope s.heap.objs.size f cd).kindOf (ps.zip us) λ_=>none) (cellsFrom (s.heap.objs.size+1) scope.names []) (bindC (envOfC qual scope s.heap.objs.size f cd).kindOf (ps.zip us) λ_=>none) s1) :
  Inv (je CX P w K mg base N qual scope f cd A outer s H E) [] (start N vs) H s1:=by
 have hpl:ps.length<=N.length:=by have:=congrArg List.length S.pre;rw [eQ] at this;omega
 obtain⟨h1,tk,rfl,hk⟩:=x.done
 have noA:∀b:Addr,b∉(je CX P w K mg base N qual scope f cd A outer s H E).ex:=λb z=>Qn (show b∈([]:List Addr) from z) C2
 refine⟨⟨e0.mod,S.kind,rfl,rfl,au _,λy z c h1 h2=>?_,λy hy=>?_,λy c _ h=>?_,λ_=>hd,Around.frames_deeper e0.frames,.inr ⟨rfl,rfl⟩,λb z=>Qn z (noA b),e0.bs,e0.bsz,λb _ _=>noA b,λb z=>Qn z (noA b),e0.funs,e0.frf⟩,
  rfl,e0.bare,Un.kept hk,⟨_,x.toInCall.ns,λi y v h1 h2 h3=>?_⟩,λy c h=>⟨_,x.cell y c h⟩,e0.hok.fresh (au _),λy c h=>?_,λp hp=>Qn (show p∈([]:List CA) from hp) C2,e0.hok.kept hk,?_⟩
 ·exact name_of_addr x.apart (dF h1) (dF h2)
 ·have hy:scope.names.lookup y=some .cell∨scope.names.lookup y=some .free:=hy
  rcases hy with hy|hy
  ·exact zX hy
  ·exact Qn rfl (S.nofree _ (dF hy))
 ·exact fg (x.above y c (dF h))
 ·have hi:i<vs.length:=by
   unfold start at h2
   by_cases hi:i<vs.length
   ·exact hi
   ·rw [gU (by simpa using hi)] at h2
    rw [kL] at h2
    split at h2<;>cases h2
  have ha:vs[i]?=some v:=by
   unfold start at h2
   rw [jG (by simpa using hi),bU] at h2
   cases e:vs[i]? with
   | none=>rw [e] at h2;cases h2
   | some a=>rw [e] at h2;cases h2;rfl
  obtain⟨u,hu,rv⟩:=r.get ha
  have hp:ps[i]?=some y:=by
   rw [<-S.pre,List.getElem?_take_of_lt AC];exact h1
  have ndP:ps.Nodup:=by rw [<-S.pre];exact S.nd.sublist (List.take_sublist _ _)
  refine⟨u,rv,?_⟩
  rcases S.par y (cm hp) with k|k
  ·exact .inl ⟨k,Ai ndP hp hu k⟩
  ·obtain⟨c,e⟩:=zX (n:=s.heap.objs.size+1) k
   refine .inr ⟨.inl k,c,e,?_⟩
   have q:=x.cell y c e
   rw [Ag ndP hp hu (by show scope.names.lookup y≠_;rw [k];decide)] at q
   exact q
 ·exact e0.hok.fresh (fg (x.above y c (dF h)))
 ·unfold start
  show _=N.length
  rw [aU,aw,rj]
  omega
theorem xb {CX:ic}{P:Program}{w:World}{K:Qb}{mg:Str->Option Value}{base:Heap}{k:Nat}{f:Addr}{name qual:Str}{params:Arguments}{body:List Stmt}{scope:Scope}{dV kV doc pm cdv ct oc:Value}{an od:Option Addr}
  {osl:Array (Option Value)} {N ps:List Str} {sp:Sp} (lk:K.lookup f=some ⟨oc,od,.func (PySem.W.fnOf name qual params body scope dV kV doc pm an cdv ct),osl⟩) (hcd:PySem.W.codeIn K cdv qual=true) (S:FnScope N ps scope)
  (len:∀vs H Q E,sp vs H Q E->vs.length=ps.length)
  (hbody:∀(A:Around) (outer:List Env) (s:Shared) (H:Hp) (vs:List V) (Q:VK) (E:XK),Room k (A.deeper (envOfC qual scope s.heap.objs.size f cdv))->sp vs H Q E ->
   ∃t,PSs (je CX P w K mg base N qual scope f cdv A outer s H E) body t/\t { nx:=λ_ H'=>Q .non H',rt:=Q } (start N vs) H) :
  FnOk P w K mg base CX (k+1) f (PySem.W.fnOf name qual params body scope dV kV doc pm an cdv ct) ps sp:=by
 refine⟨len,λA outer s H args us vs Q E hr e0 hb r hsp=>?_⟩
 have hl:=len _ _ _ _ hsp
 have KX:K.In s.heap:=e0.mod.kin.keeps λb o e=>(e0.bs b o e).1
 have lim:s.heap.NoLimit:=e0.mod.nolimit.keeps λb o e=>(e0.bs b o e).1
 have hkind:∀y∈ps.zip us,scope.names.lookup y.1=some .local∨(scope.names.lookup y.1=some .cell/\((cellsFrom (s.heap.objs.size+1) scope.names []).lookup y.1).isSome=true):=λ⟨n,v⟩ hy=>by
  rcases S.par n (mK hy).1 with q|q
  ·exact .inl q
  ·exact .inr ⟨q,PySem.W.cellsFrom_some _ _ _ (.inl q)⟩
 refine codeAny_call_function hr.depth (KX _ _ lk) rfl S.co S.gen rfl (PySem.W.codeRec_of KX hcd) (hb _ _ _ _ ?_)
 refine wpAny_newFunctionEnv_cells S.kind hkind λenv he s1 x=>?_
 subst he
 refine⟨lim.keeps x.toInCall.keep,codeAny_func ?_⟩
 obtain⟨t,ht,hq⟩:=hbody A outer s H vs Q E (hr.deeper _) hsp
 have I:Inv (je CX P w K mg base N qual scope f cdv A outer s H E) [] (start N vs) H s1:=qIC S hr.hd e0 hl r x
 refine Qe (ht [] s1 (start N vs) H _ I hq) (λfl s' hs=>?_) λe s' hs=>hs
 have fin:∀{Z':St} {H':Hp} {v:V} {u:Value},Inv (je CX P w K mg base N qual scope f cdv A outer s H E) [] Z' H' s'->RelV v u->Q v H'->CE outer P w H s Q u s':=
  λ{Z' H' v u} J rv q=>⟨v,H',J.os,J.bare,J.base,J.hok,rv,q⟩
 cases fl with
 | ret u =>
  obtain⟨v,Z',H',J,rv,q⟩:=hs
  exact fin J rv q
 | next =>
  obtain⟨Z',H',J,q⟩:=hs
  exact fin (v:=V.non) (u:=Value.none) J rfl q
 | brk =>
  obtain⟨_,_,_,q⟩:=hs
  exact False.elim q
 | cont =>
  obtain⟨_,_,_,q⟩:=hs
  exact False.elim q
end L2
namespace L2
open PySem PySem.Spec PyProof.Rows
section
variable {X:Cx}{x:Str}{p pos:Pos}{e:Expr}{es:List Expr}{t:TA}{id T:String}{r:List V->Hp->VK->Prop}
noncomputable def vA (r:List V->Hp->VK->Prop) (t:TA):TE:=fun Z H Q=>t Z H λvs H1=>r vs H1 Q
theorem zN (hc:CallR X (.builtin id) r) (hg:Gl X x) (hm:X.mg x=none) (hv:Qo x=some (.builtin id)) (ha:PA X (e::es) t) (hn:x≠"__name__":=by decide) (hdb:(x == ("__debug__":Str))=false:=by decide)
  (he:starEach (e::es) X.env=(false,eval e X.env)::starEach es X.env:=by rfl) (hpl:(backTo pos (starEach es X.env)).any (·.1)=false:=by rfl):PE X (.Call (.Name x p) (e::es) [] pos) (vA r t):=by
 intro pins s Z H Q I h
 refine wpAny_Call_Name_kw (iA I hg hm hv ?_ hn hdb)
 exact PyProof.Rows.callWith_builtin1 (aC (ha pos pins s Z H _ I h) λus s1 ⟨vs,H1,I1,r1,q1⟩=>hc pins s1 Z H1 vs us Q I1 r1 q1) he hpl
theorem qId (hc:CallR X (.type T) r) (hg:Gl X x) (hm:X.mg x=none) (hv:Qo x=some (.type T)) (ha:PA X (e::es) t) (hn:x≠"__name__":=by decide) (hdb:(x == ("__debug__":Str))=false:=by decide)
  (he:starEach (e::es) X.env=(false,eval e X.env)::starEach es X.env:=by rfl) (hpl:(backTo pos (starEach es X.env)).any (·.1)=false:=by rfl):PE X (.Call (.Name x p) (e::es) [] pos) (vA r t):=by
 intro pins s Z H Q I h
 refine wpAny_Call_Name_kw (iA I hg hm hv ?_ hn hdb)
 exact jb (aC (ha pos pins s Z H _ I h) λus s1 ⟨vs,H1,I1,r1,q1⟩=>hc pins s1 Z H1 vs us Q I1 r1 q1) he hpl
end
end L2
namespace HT
open PySem PyProof.Rows
section
variable {prog:Program}{w:World}{A:Around}{E:Value->Shared->Prop}{s:Shared}
theorem cat_tup {t b:Addr}{vs ws:List Value}{Q:Value->Shared->Prop}(ht:IsTup s.heap t vs.toArray) (hb:IsTup s.heap b ws.toArray) (hv:vs≠[])
  (h1:ws=[]->Q (.ref t) s) (h2:ws≠[]->Q (.ref s.heap.objs.size) { s with heap:=s.heap.push { cls:=.type "tuple",data:=.seq (vs++ws).toArray } })
  (hsz:vs.length+ws.length<=sizeLine):wpAny AT A (binaryOp .Add (.ref t) (.ref b)) Q E s:=by
 obtain⟨⟨cls,dd,data,sl⟩,ho,hc,n,hd⟩:=id ht
 obtain⟨⟨cls2,dd2,data2,sl2⟩,ho2,hc2,n2,hd2⟩:=id hb
 simp only at hc hd hc2 hd2
 subst hc hd hc2 hd2
 have e:vs.toArray++ws.toArray=(vs++ws).toArray:=by simp
 by_cases hw:ws=[]
 ·exact concat_meets ⟨_,ho,rfl⟩ ⟨_,ho2,rfl⟩ noFill_tuple_add seq_tuple_add ro rq (rA _ _)
   (tuple_addW1 t b vs.toArray ws.toArray n n2 dd dd2 sl sl2 (by simpa using hv) (by simp [hw])) ⟨ho,ho2,h1 hw⟩
 ·refine concat_meets ⟨_,ho,rfl⟩ ⟨_,ho2,rfl⟩ noFill_tuple_add seq_tuple_add ro rq (rA _ _)
   (tuple_addW2 t b vs.toArray ws.toArray n n2 dd dd2 sl sl2 (by simpa using hv) (by simpa using hw) (by rw [aO,aO];exact hsz)) ⟨ho,ho2,?_⟩
  rw [e]
  exact h2 hw
noncomputable def sIx (n d:Nat):Option Int->Nat
 | none=>d
 | some v=>if v<0 then (v+(n:Int)).toNat else min v.toNat n
theorem qPL (n d:Nat) (hd:d<=n) (o:Option Int):sIx n d o<=n:=by
 cases o with
 | none=>exact hd
 | some v =>
  show (if v<0 then (v+(n:Int)).toNat else min v.toNat n)<=n
  by_cases hv:v<0
  ·rw [Ql hv];omega
  ·rw [Qm hv];exact Nat.min_le_right _ _
theorem clip_eq (v:Int) (n d:Nat):(if v<0 then max (v+(n:Int)) 0 else min v (n:Int))=((sIx n d (some v):Nat):Int):=by
 show (if v<0 then max (v+(n:Int)) 0 else min v (n:Int))=(((if v<0 then (v+(n:Int)).toNat else min v.toNat n):Nat):Int)
 by_cases hv:v<0
 ·simp only [Ql hv];omega
 ·simp only [Qm hv];omega
theorem qHg (lo hi:Option Int) (n:Nat):Builtin.Slice.sliceAdjust lo hi 1 (n:Int)=(((sIx n 0 lo:Nat):Int),((sIx n n hi:Nat):Int)):=by
 have h1:¬((1:Int)<0):=by omega
 unfold Builtin.Slice.sliceAdjust
 simp only [h1,if_false]
 refine Prod.ext ?_ ?_
 ·cases lo with
  | none=>rfl
  | some v=>exact clip_eq v n 0
 ·cases hi with
  | none=>rfl
  | some v=>exact clip_eq v n n
theorem qG1 (i j:Nat):Builtin.Slice.slicePlaces (i:Int) (j:Int) 1=j - i:=by
 unfold Builtin.Slice.slicePlaces
 have h1:(1:Int) > 0:=by omega
 simp only [h1,if_true,Int.ediv_one]
 split<;>omega
theorem A2 {v:Value}{o:Option Int}{Q:Option Int->Shared->Prop}(p:IsPart v o) (h:Q o s):wpAny AT A (Builtin.Slice.slicePartIndex v) Q E s:=by
 cases p with
 | none=>exact slicePart_none h
 | int i t=>exact slicePart_int h
theorem Bm {sl:Addr}{vl vu:Value}{lo hi:Option Int}{n:Nat}{Q:Int×Int×Nat->Shared->Prop}(hs:s.heap.IsSliceOf sl vl vu .none) (pl:IsPart vl lo) (pu:IsPart vu hi)
  (h:Q (((sIx n 0 lo:Nat):Int),1,sIx n n hi - sIx n 0 lo) s):wpAny AT A (Builtin.Slice.sliceApplied (.ref sl) (pure (n:Int))) Q E s:=by
 obtain⟨os,hos,hcs,hds⟩:=id hs
 unfold Builtin.Slice.sliceApplied Builtin.Slice.sliceFields
 refine Qc (Qc (Qf hos hds (x:=vl) rfl (Qc (Qf hos hds (x:=vu) rfl (Qc (Qf hos hds (x:=.none) rfl (Qd ?_)))))))
 refine Qc (slicePart_none ?_)
 show wpAny _ _ (if ((1:Int) == 0)=true then _ else _) _ _ s
 rw [Qm At]
 refine Qc (A2 pl (Qc (A2 pu (Qc (Qd ?_)))))
 show wpAny _ _ (match Builtin.Slice.sliceAdjust lo hi 1 (n:Int) with|(lo,hi)=>pure (lo,(1:Int),Builtin.Slice.slicePlaces lo hi 1)) _ _ s
 rw [qHg lo hi n]
 show wpAny _ _ (pure (((sIx n 0 lo:Nat):Int),(1:Int),Builtin.Slice.slicePlaces ((sIx n 0 lo:Nat):Int) ((sIx n n hi:Nat):Int) 1)) _ _ s
 rw [qG1]
 exact Qd h
theorem qKw (xs:Array Value) (i k:Nat):((List.range k).filterMap λ(m:Nat)=>xs[((i:Int)+(m:Int) * 1).toNat]?).toArray=((xs.toList.drop i).take k).toArray:=by
 have e:(λ(m:Nat)=>xs[((i:Int)+(m:Int) * 1).toNat]?)=λm=>xs[i+m]?:=by
  funext m
  have:((i:Int)+(m:Int) * 1).toNat=i+m:=by omega
  rw [this]
 rw [e]
 have:=pick_run xs i k
 rw [List.filterMap_map] at this
 have e2:((λx=>xs[x]?) ∘ λx=>i+x)=λm=>xs[i+m]?:=rfl
 rw [e2] at this
 rw [this]
theorem getItem_tuple_cut {t sl:Addr}{items:Array Value}{vl vu:Value}{lo hi:Option Int}{Q:Value->Shared->Prop}(ht:IsTup s.heap t items) (hs:s.heap.IsSliceOf sl vl vu .none) (pl:IsPart vl lo) (pu:IsPart vu hi)
  (hw:¬(sIx items.size 0 lo=0/\sIx items.size items.size hi=items.size))
  (h:Q (.ref s.heap.objs.size) { s with heap:=s.heap.push { cls:=.type "tuple",data:=.seq ((items.toList.drop (sIx items.size 0 lo)).take (sIx items.size items.size hi - sIx items.size 0 lo)).toArray } })
  (hsz:items.size<=sizeLine):wpAny AT A (getItem (.ref t) (.ref sl)) Q E s:=by
 have htake:sizeOk (.seq ((items.toList.drop (sIx items.size 0 lo)).take (sIx items.size items.size hi - sIx items.size 0 lo)).toArray):=by
  show ((items.toList.drop (sIx items.size 0 lo)).take (sIx items.size items.size hi - sIx items.size 0 lo)).toArray.size<=sizeLine
  rw [aO,eQ,ik,cJ]
  omega
 have hj:sIx items.size items.size hi<=items.size:=qPL _ _ (au _) hi
 obtain⟨os,hos,hcs,hds⟩:=id hs
 have hTs:s.TypeIs (.ref sl) "slice":=⟨os,hos,hcs⟩
 unfold getItem
 try with_reducible refine wpAny_holding ?_
 first|refine Qc (Qd ?_)|skip
 refine Qc (wpAny_sequenceKey ht.typeIs At ?_)
 refine Qc (wpAny_callSpecial?_slot (name:=Qa "__getitem__") ht.typeIs yaP
  (wpAny_call_entry yaP ht.typeIs entry_tuple_getitem ?_ (args_tuple_getitem _ _)))
 show wpAny _ _ (Builtin.Tuple.tupleItemsOf (.ref t) >>= _) _ _ s
 refine Qc (tupleItemsOf_ ht ?_)
 refine Qc (wpAny_typeOf hTs ?_)
 rw [Ql At]
 refine Qc (Bm hs pl pu ?_)
 have hno:¬((((sIx items.size 0 lo:Nat):Int) == 0&&(1:Int) == 1&&(sIx items.size items.size hi - sIx items.size 0 lo) == items.size)=true):=by
  intro q
  rw [aP,aP] at q
  have q1:((sIx items.size 0 lo:Nat):Int)=0:=eq_of_beq q.1.1
  have q2:sIx items.size items.size hi - sIx items.size 0 lo=items.size:=eq_of_beq q.2
  exact hw ⟨by omega,by omega⟩
 show wpAny _ _ (if (((sIx items.size 0 lo:Nat):Int) == 0&&(1:Int) == 1&&(sIx items.size items.size hi - sIx items.size 0 lo) == items.size)=true then _ else _) _ _ s
 rw [Qm hno,qKw]
 first
  | exact Qc (m:=Builtin.Tuple.tupleExact _) (wpAny_newObj_type (Qd ⟨_,rfl,Qd h⟩) htake)
  | exact Qc (m:=Builtin.Tuple.tupleExact _) (wpAny_newObj_type (Qc (Qd (Qd ⟨_,rfl,Qd h⟩))) htake)
  | exact Qc (Qc (m:=Builtin.Tuple.tupleExact _) (wpAny_newObj_type (Qd (Qd ⟨_,rfl,Qd h⟩)) htake))
  | exact Qc (Qc (m:=Builtin.Tuple.tupleExact _) (wpAny_newObj_type (Qd ⟨_,rfl,Qd h⟩) htake))
end
end HT
namespace L2
open PySem PySem.Spec PyProof.Rows
abbrev TO:=St->Hp->(Option Int->Hp->Prop)->Prop
def PO (X:Cx) (e:Option Expr) (t:TO):Prop:=
 ∀(pins:List CA) (s:Shared) (Z:St) (H:Hp) (Q:Option Int->Hp->Prop),Inv X pins Z H s->t Z H Q ->
   wpAny C0 X.A (evalPart e X.env) (λu s'=>∃o H',Inv X pins Z H' s'/\IsPart u o/\Q o H') X.xe s
noncomputable def qNg:TO:=λ_ H Q=>Q none H
noncomputable def qR4 (t:TE):TO:=fun Z H Q=>t Z H λx H1=>∃i,x=.int i/\Q (some i) H1
theorem qG7 {ns:List Int}:∀{us:List Value},Vals (ns.map V.int) us->IntsAre us ns:=by
 induction ns with
 | nil=>intro us r;rw [List.map_nil] at r;cases r;exact .nil
 | cons n ns ih =>
  intro us r
  rw [cP] at r
  cases r with
  | cons r1 r2 =>
   obtain⟨t,e⟩:=r1
   subst e
   exact .cons n t (ih r2)
section
variable {X:Cx}{e:Expr}{te:TE}{lo hi:Option Expr}{tl th:TO}{pos p2:Pos}
theorem qNS:PO X none qNg:=by
 intro pins s Z H Q I h
 rw [evalPart_none]
 exact Qd ⟨none,H,I,.none,h⟩
theorem qNR (h:PE X e te):PO X (some e) (qR4 te):=by
 intro pins s Z H Q I hw
 rw [evalPart_some]
 refine aC (h pins s Z H _ I hw) λu s1 ⟨x,H1,I1,r1,q1⟩=>?_
 obtain⟨i,rfl,q⟩:=q1
 obtain⟨t,rfl⟩:=r1
 exact⟨some i,H1,I1,.int i t,q⟩
def SlR (X:Cx) (r:V->Option Int->Option Int->Hp->VK->Prop):Prop:=
 ∀(pins:List CA) (s:Shared) (Z:St) (H:Hp) (x:V) (v vl vu:Value) (lo hi:Option Int) (sl:Addr) (Q:VK),Inv X pins Z H s->RelV x v->s.heap.IsSliceOf sl vl vu .none->IsPart vl lo->IsPart vu hi->r x lo hi H Q ->
   ∃T id,typeLookup (.type T) "__getitem__"=pure (some (.builtin id))/\s.TypeIs v T/\wpAny C0 X.A (getItem v (.ref sl)) (EP X pins Z Q) X.xe s
theorem SlR.or {r r':V->Option Int->Option Int->Hp->VK->Prop}(h:SlR X r) (h':SlR X r'):SlR X (λx lo hi H Q=>r x lo hi H Q∨r' x lo hi H Q):=by
 intro pins s Z H x v vl vu lo hi sl Q I rx hs pl pu q
 rcases q with q|q
 ·exact h pins s Z H x v vl vu lo hi sl Q I rx hs pl pu q
 ·exact h' pins s Z H x v vl vu lo hi sl Q I rx hs pl pu q
noncomputable def tSl (r:V->Option Int->Option Int->Hp->VK->Prop) (te:TE) (tl th:TO):TE:=fun Z H Q=>te Z H λx H1=>tl Z H1 λl H2=>th Z H2 λu H3=>r x l u H3 Q
theorem qKx {r:V->Option Int->Option Int->Hp->VK->Prop}(hr:SlR X r) (he:PE X e te) (hl:PO X lo tl) (hu:PO X hi th):PE X (.Subscript e (.Slice lo hi none p2) pos) (tSl r te tl th):=by
 intro pins s Z H Q I h
 refine Subscript_ (aC (he pins s Z H _ I h) λv s1 ⟨x,H1,I1,r1,q1⟩=>?_)
 refine wpAny_Slice (aC (hl pins s1 Z H1 _ I1 q1) λvl s2 ⟨l,H2,I2,pl,q2⟩=>aC (hu pins s2 Z H2 _ I2 q2) λvu s3 ⟨u,H3,I3,pu,q3⟩=>?_)
 rw [evalPart_none]
 refine Qd ?_
 have I4:Inv X pins Z H3 { s3 with heap:=s3.heap.push { cls:=.type "slice",data:=.fields #[vl,vu,.none] } }:=I3.kept (t':=s3.toks) λb ob q=>Qg _ q
 obtain⟨T,id,hT,ht,hg⟩:=hr pins { s3 with heap:=s3.heap.push { cls:=.type "slice",data:=.fields #[vl,vu,.none] } } Z H3 x v vl vu l u s3.heap.objs.size Q I4 r1 (Heap.IsSliceOf.new ..) pl pu q3
 show wpAny C0 X.A (subscriptTail e (.Slice lo hi none p2) v (.ref s3.heap.objs.size)) (EP X pins Z Q) X.xe { s3 with heap:=s3.heap.push { cls:=.type "slice",data:=.fields #[vl,vu,.none] } }
 exact tail_any (ops:=[.ref s3.heap.objs.size,v]) ht hT hg (by with_unfolding_all rfl)
def jd (xs:List V) (lo hi:Option Int):List V:=(xs.drop (HT.sIx xs.length 0 lo)).take (HT.sIx xs.length xs.length hi - HT.sIx xs.length 0 lo)
theorem AW (xs:List V) (lo hi:Option Int):(jd xs lo hi).length<=xs.length:=by
 unfold jd
 rw [eQ,ik]
 omega
def qTO (K:Qb):V->Option Int->Option Int->Hp->VK->Prop:=λx lo hi H Q=>∃a xs,x=.ref a/\SqT K H a xs /\
 ¬(HT.sIx xs.length 0 lo=0/\HT.sIx xs.length xs.length hi=xs.length)/\∀p,H p=none->Q (.ref p) (aB H p (.tup (jd xs lo hi)))
theorem qPH:SlR X (qTO X.K):=by
 intro pins s Z H x v vl vu lo hi sl Q I rx hs pl pu h
 obtain⟨a,xs,rfl,hx,hw,q⟩:=h
 cases rx
 obtain⟨its,r,ht,hz⟩:=I.tuple hx
 have hlen:its.toArray.size=xs.length:=by rw [aO];exact r.length.symm
 refine⟨"tuple",_,yaP.lookup,ht.typeIs,?_⟩
 refine HT.getItem_tuple_cut ht hs pl pu (by rw [hlen];exact hw) ?_ (by rw [hlen];exact hz)
 rw [hlen]
 refine⟨.ref s.heap.objs.size,_,I.laid (t':=s.toks) (o:=.tup (jd xs lo hi)) (λb ob q=>Qg _ q) (au _) ?_,rfl,q _ (I.hok.fresh (au _))⟩
 exact⟨aT (AW xs lo hi) hz,_,(r.drop (HT.sIx xs.length 0 lo)).take (HT.sIx xs.length xs.length hi - HT.sIx xs.length 0 lo),IsTup.new _ _⟩
def qSg (K:Qb):R2:=λx y H Q=>∃a b xs ys,x=.ref a/\y=.ref b/\SqT K H a xs/\SqT K H b ys/\xs≠[]/\xs.length+ys.length<=sizeLine /\
 (ys=[]->Q (.ref a) H)/\(ys≠[]->∀p,H p=none->Q (.ref p) (aB H p (.tup (xs++ys))))
theorem Vals.nil_iff {xs:List V}{us:List Value}(r:Vals xs us):us=[]↔xs=[]:=by
 cases r with
 | nil=>simp
 | cons _ _=>simp
theorem qN4:OpR X (binaryOp .Add) (qSg X.K):=by
 intro pins s Z H x y v u Q I rx ry h
 obtain⟨a,b,xs,ys,rfl,rfl,ha,hb,hx,hz,q1,q2⟩:=h
 cases rx
 cases ry
 obtain⟨its,r1,p1,_⟩:=I.tuple ha
 obtain⟨its2,r2,p2,_⟩:=I.tuple hb
 refine HT.cat_tup p1 p2 (λz=>hx (r1.nil_iff.mp z)) (λz=>⟨.ref a,H,I,rfl,q1 (r2.nil_iff.mp z)⟩) (λz=>?_) (by rw [<-r1.length,<-r2.length];exact hz)
 refine⟨.ref s.heap.objs.size,_,I.laid (t':=s.toks) (o:=.tup (xs++ys)) (λb ob q=>Qg _ q) (au _) ?_,rfl,q2 (λw=>z (r2.nil_iff.mpr w)) _ (I.hok.fresh (au _))⟩
 exact⟨by rw [aU];exact hz,_,r1.append r2,IsTup.new _ _⟩
end
end L2
namespace L2
open PySem PySem.Spec PyProof.Rows
noncomputable def ixN (n:Nat) (i:Int):Option Nat:=if 0<=i then (if i<n then some i.toNat else none) else if -(n:Int)<=i then some (i+n).toNat else none
def ma {α:Type}(xs:List α) (i:Int):Option α:=(ixN xs.length i).bind λj=>xs[j]?
theorem qOm {n:Nat}{i:Int}{j:Nat}(h:ixN n i=some j):seqIndex? i n=some j/\j<n/\-(n:Int)<=i/\i<n:=by
 unfold ixN at h
 by_cases h0:0<=i
 ·rw [Ql h0] at h
  by_cases h1:i<n
  ·rw [Ql h1] at h
   have e:i.toNat=j:=gw h
   exact⟨by rw [seqIndex_of h0 h1,e],by omega,by omega,h1⟩
  ·rw [Qm h1] at h;cases h
 ·rw [Qm h0] at h
  by_cases h1:-(n:Int)<=i
  ·rw [Ql h1] at h
   have e:(i+n).toNat=j:=gw h
   exact⟨by rw [seqIndex_neg AC h1,e],by omega,h1,by omega⟩
  ·rw [Qm h1] at h;cases h
theorem yy {α:Type}{xs:List α}{i:Int}{v:α}(h:ma xs i=some v):∃j,seqIndex? i xs.length=some j/\xs[j]?=some v/\j<xs.length/\-(xs.length:Int)<=i/\i<xs.length:=by
 unfold ma at h
 cases e:ixN xs.length i with
 | none=>rw [e] at h;cases h
 | some j =>
  rw [e] at h
  obtain⟨h1,h2,h3,h4⟩:=qOm e
  exact⟨j,h1,h,h2,h3,h4⟩
def qp (b:Expr):Prop:=∀o i,subscripted b false o i=operate [o,i] (getItem o i)
def IxR (X:Cx) (r:R2):Prop:=
 ∀(value slice:Expr) (pins:List CA) (s:Shared) (Z:St) (H:Hp) (x y:V) (v u:Value) (Q:VK),Inv X pins Z H s->RelV x v->RelV y u->r x y H Q ->
   subscripted slice false v u=operate [v,u] (getItem v u)->wpAny C0 X.A (subscriptTail value slice v u) (EP X pins Z Q) X.xe s
def Cf (X:Cx) (id:String) (r:V->List V->Hp->VK->Prop):Prop:=
 ∀(pins:List CA) (s:Shared) (Z:St) (H:Hp) (x:V) (xs:List V) (v:Value) (us:List Value) (Q:VK),Inv X pins Z H s->RelV x v->Vals xs us->r x xs H Q ->
   wpAny C0 X.A (call (.builtin id) (v::us)) (EP X pins Z Q) X.xe s
section
variable {X:Cx}{a b:Expr}{ta tb:TE}{pos:Pos}
theorem IxR.or {r r':R2}(h:IxR X r) (h':IxR X r'):IxR X (λx y H Q=>r x y H Q∨r' x y H Q):=by
 intro value slice pins s Z H x y v u Q I rx ry q hs
 rcases q with q|q
 ·exact h value slice pins s Z H x y v u Q I rx ry q hs
 ·exact h' value slice pins s Z H x y v u Q I rx ry q hs
theorem qSo {r:R2}(hr:IxR X r) (ha:PE X a ta) (hb:PE X b tb) (hs:qp b):PE X (.Subscript a b pos) (ot r ta tb):=by
 intro pins s Z H Q I h
 exact Subscript_ (rZ ha hb I h λv u s2 x y H2 I2 rx ry q=>hr a b pins s2 Z H2 x y v u Q I2 rx ry q (hs _ _))
def qTT (K:Qb):R2:=λx y H Q=>∃p xs i v,x=.ref p/\y=.int i/\SqL K H p xs/\ma xs i=some v/\Q v H
def qTS (K:Qb):R2:=λx y H Q=>∃p xs i v,x=.ref p/\y=.int i/\SqT K H p xs/\ma xs i=some v/\Q v H
theorem ix_list:IxR X (qTT X.K):=by
 intro value slice pins s Z H x y v u Q I rx ry h hs
 obtain⟨p,xs,i,z,rfl,rfl,hq,he,q⟩:=h
 cases rx
 obtain⟨t,rfl⟩:=ry
 obtain⟨its,r,pl,hz⟩:=I.list hq
 obtain⟨j,h1,h2,h3,h4,h5⟩:=yy he
 obtain⟨w,ew,rw'⟩:=r.get h2
 have hl:=r.length
 have hn:=sM
 have fin:EP X pins Z Q w s:=⟨z,H,I,rw',q⟩
 by_cases h0:0<=i
 ·have hj:i.toNat=j:=by
   rw [seqIndex_of h0 h5] at h1
   exact gw h1
  exact item_listR pl.isList h0 AC (by rw [hj];simpa using ew) fin hs
 ·have hj:(i+(its.toArray.size:Int)).toNat=j:=by
   rw [seqIndex_neg AC h4] at h1
   rw [aO,<-hl]
   exact gw h1
  exact subscriptTail_builtinR (x:=w) pl.isList.typeIs slot_list_getitem.lookup
   (wpAny_getItem_list_neg (Q:=λr s'=>r=w/\EP X pins Z Q r s') pl.isList AC (by rw [aO]<;>omega) AC (by rw [hj];simpa using ew) ⟨rfl,fin⟩) hs
theorem qQM:IxR X (qTS X.K):=by
 intro value slice pins s Z H x y v u Q I rx ry h hs
 obtain⟨p,xs,i,z,rfl,rfl,hq,he,q⟩:=h
 cases rx
 obtain⟨t,rfl⟩:=ry
 obtain⟨its,r,pl,hz⟩:=I.tuple hq
 obtain⟨j,h1,h2,h3,h4,h5⟩:=yy he
 obtain⟨w,ew,rw'⟩:=r.get h2
 have hl:=r.length
 have hn:=sM
 have fin:EP X pins Z Q w s:=⟨z,H,I,rw',q⟩
 exact subscriptTail_builtinR (x:=w) pl.typeIs slot_tuple_getitem.lookup
  (getItem_tuple (j:=j) (Q:=λr s'=>r=w/\EP X pins Z Q r s') pl AC AC (by rw [aO,<-hl];exact h1) (by simpa using ew) ⟨rfl,fin⟩) hs
theorem qEQ (lo hi:Option Int) (n:Nat):(sliceBounds lo hi none n).1=((HT.sIx n 0 lo:Nat):Int)/\(sliceBounds lo hi none n).2.1=((HT.sIx n n hi:Nat):Int)/\(sliceBounds lo hi none n).2.2=1:=by
 refine⟨?_,?_,rfl⟩
 ·cases lo with
  | none=>simp [sliceBounds,HT.sIx]
  | some i =>
   simp only [sliceBounds,HT.sIx,Option.getD_none,show (1:Int) > 0 by decide,if_true]
   by_cases h:i<0
   ·simp only [h,if_true]<;>omega
   ·simp only [h,if_false]<;>omega
 ·cases hi with
  | none=>simp [sliceBounds,HT.sIx]
  | some i =>
   simp only [sliceBounds,HT.sIx,Option.getD_none,show (1:Int) > 0 by decide,if_true]
   by_cases h:i<0
   ·simp only [h,if_true]<;>omega
   ·simp only [h,if_false]<;>omega
theorem qD9 (its:List Value) (lo hi:Option Int):slicePick its.toArray lo hi none=((its.drop (HT.sIx its.length 0 lo)).take (HT.sIx its.length its.length hi - HT.sIx its.length 0 lo)).toArray:=by
 obtain⟨h1,h2,h3⟩:=qEQ lo hi its.toArray.size
 unfold slicePick
 rw [h1,h2,h3]
 simp only [sliceRange_one,pick_run,aO]<;>rfl
def qTP (K:Qb):V->Option Int->Option Int->Hp->VK->Prop:=λx lo hi H Q=>∃a xs,x=.ref a/\SqL K H a xs/\∀p,H p=none->Q (.ref p) (aB H p (.lst (jd xs lo hi)))
theorem sl_list:SlR X (qTP X.K):=by
 intro pins s Z H x v vl vu lo hi sl Q I rx hs pl pu h
 obtain⟨a,xs,rfl,hx,q⟩:=h
 cases rx
 obtain⟨its,r,ht,hz⟩:=I.list hx
 have hlen:=r.length
 refine⟨"list",_,slot_list_getitem.lookup,ht.isList.typeIs,?_⟩
 refine wpAny_getItem_list_slice ht.isList hs pl pu .none C2 ?_ (by rw [aO]<;>omega)
 rw [qD9,<-hlen]
 refine⟨.ref s.heap.objs.size,_,I.laid (t':=s.toks) (o:=.lst (jd xs lo hi)) (λb ob q=>Qg _ q) (au _) ?_,rfl,q _ (I.hok.fresh (au _))⟩
 exact⟨aT (AW xs lo hi) hz,_,0,(r.drop (HT.sIx xs.length 0 lo)).take (HT.sIx xs.length xs.length hi - HT.sIx xs.length 0 lo),Qh _ rfl⟩
theorem qFc:CallR X (.builtin "len") (λxs H Q=>∃p ys,xs=[.ref p]/\(SqL X.K H p ys∨SqT X.K H p ys)/\Q (.int ys.length) H):=by
 intro pins s Z H xs us Q I r h
 obtain⟨p,ys,rfl,hq,q⟩:=h
 obtain⟨u,rfl,rx⟩:=gF r
 cases rx
 have hn:=sM
 rcases hq with hq|hq
 ·obtain⟨its,r',pl,hz⟩:=I.list hq
  have hlen:=r'.length
  exact Calls.call_len_list pl.isList (by simp only [aO]<;>omega) ⟨.int ys.length,H,I.tok _,⟨s.toks+1,by rw [aO,hlen]⟩,q⟩
 ·obtain⟨its,r',pl,hz⟩:=I.tuple hq
  have hlen:=r'.length
  exact len_tuple pl (by simp only [aO]<;>omega) ⟨.int ys.length,H,I.tok _,⟨s.toks+1,by rw [aO,hlen]⟩,q⟩
theorem CallR.or {f:Value}{r r':List V->Hp->VK->Prop}(h:CallR X f r) (h':CallR X f r'):CallR X f (λxs H Q=>r xs H Q∨r' xs H Q):=by
 intro pins s Z H xs us Q I rs q
 rcases q with q|q
 ·exact h pins s Z H xs us Q I rs q
 ·exact h' pins s Z H xs us Q I rs q
theorem qFb:CallR X (.type "list") (λxs H Q=>∃p ys,xs=[.ref p]/\(SqL X.K H p ys∨SqT X.K H p ys)/\∀l,H l=none->Q (.ref l) (aB H l (.lst ys))):=by
 intro pins s Z H xs us Q I r h
 obtain⟨p,ys,rfl,hq,q⟩:=h
 obtain⟨u,rfl,rx⟩:=gF r
 cases rx
 have fin:∀(its:List Value),Vals ys its->ys.length<=sizeLine->∀(h':Heap) (c':Nat),(∀b o',s.heap.get? b=some o'->h'.get? b=some o') ->
   h'.get? s.heap.objs.size=some { cls:=.type "list",dict:=none,data:=.seq its.toArray c',slots:=#[] }->EP X pins Z Q (.ref s.heap.objs.size) { s with heap:=h' }:=λits r' hz h' c' kp e =>
  ⟨.ref s.heap.objs.size,_,I.laid (t':=s.toks) kp (au _) (show ObjOk X.prog X.w _ h' _ (.lst ys) from ⟨hz,its,c',r',e⟩),rfl,q _ (I.hok.fresh (au _))⟩
 rcases hq with hq|hq
 ·obtain⟨its,r',pl,hz⟩:=I.list hq
  have hlen:=r'.length
  obtain⟨o,ho,hc,n,hd⟩:=pl.isList
  exact call_list_seq p (.inl rfl) ho hc hd (λh' c' kp e=>fin its r' hz h' c' kp e) (by simp only [aO]<;>omega)
 ·obtain⟨its,r',pl,hz⟩:=I.tuple hq
  have hlen:=r'.length
  obtain⟨o,ho,hc,n,hd⟩:=pl
  exact call_list_seq p (.inr rfl) ho hc hd (λh' c' kp e=>fin its r' hz h' c' kp e) (by simp only [aO]<;>omega)
theorem qEt:CallR X (.type "tuple") (λxs H Q=>∃p ys,xs=[.ref p]/\((SqL X.K H p ys/\∀l,H l=none->Q (.ref l) (aB H l (.tup ys)))∨(SqT X.K H p ys/\Q (.ref p) H))):=by
 intro pins s Z H xs us Q I r h
 obtain⟨p,ys,rfl,h⟩:=h
 obtain⟨u,rfl,rx⟩:=gF r
 cases rx
 rcases h with ⟨hq,q⟩|⟨hq,q⟩
 ·obtain⟨its,r',pl,hz⟩:=I.list hq
  have hlen:=r'.length
  refine call_tuple_list pl.isList (λh' kp=>?_) (by simp only [aO]<;>omega)
  have I1:Inv X pins Z H { s with heap:=h' }:=I.kept (t':=s.toks) kp
  have I2:Inv X pins Z (aB H h'.objs.size (.tup ys)) { s with heap:=h'.push { cls:=.type "tuple",data:=.seq its.toArray } }:=
   I1.laid (t':=s.toks) (λb o e=>Qg _ e) (au _) (show ObjOk X.prog X.w _ _ _ (.tup ys) from ⟨hz,its,r',IsTup.new _ _⟩)
  exact⟨.ref h'.objs.size,_,I2,rfl,q _ (I1.hok.fresh (au _))⟩
 ·obtain⟨its,r',pl,hz⟩:=I.tuple hq
  exact call_tuple_same pl ⟨.ref p,H,I,rfl,q⟩
def rC (K:Qb) (T:String) (x:V) (H:Hp):Prop:=match x with
 | .str _=>T="str"
 | .int _=>T="int"
 | .ref p=>(T="list"/\∃xs,SqL K H p xs)∨(T="tuple"/\∃o,K.lookup p=some o/\o.cls=.type "tuple"/\o.dict=none) ∨
   (T="dict"/\((∃kvs,H p=some (.dK kvs))∨∃kvs,H p=some (.dT kvs)))∨(T="set"/\∃S n,H p=some (.set S n))
 | _=>False
theorem xY {pins:List CA}{Z:St}{H:Hp}{s:Shared}{T:String}{x:V}{v:Value}(I:Inv X pins Z H s) (r:RelV x v) (ty:rC X.K T x H) :
  s.TypeIs v T/\∀a,v=.ref a->∃ob,s.heap.get? a=some ob/\ob.dict=none:=by
 cases x with
 | str z =>
  obtain⟨t,rfl⟩:=r
  cases (show T="str" from ty)
  exact⟨typeIs_str s z t,λ_ e=>nomatch e⟩
 | int i =>
  obtain⟨t,rfl⟩:=r
  cases (show T="int" from ty)
  exact⟨typeIs_int s i t,λ_ e=>nomatch e⟩
 | ref p =>
  cases r
  rcases ty with ⟨rfl,xs,hq⟩|⟨rfl,o,hk,hc,hd⟩|⟨rfl,hk⟩|⟨rfl,S,n,hk⟩
  ·obtain⟨its,_,pl,_⟩:=I.list hq
   refine⟨pl.isList.typeIs,λa e=>?_⟩
   cases e
   obtain⟨o,n,e,c,hd,_⟩:=pl
   exact⟨o,e,hd⟩
  ·refine⟨⟨o,I.kIn p o hk,hc⟩,λa e=>?_⟩
   cases e
   exact⟨o,I.kIn _ o hk,hd⟩
  ·have z:∃o,s.heap.get? p=some o/\o.ExactDict:=by
    rcases hk with ⟨kvs,hk⟩|⟨kvs,hk⟩
    ·obtain⟨_,_,_,_,o,_,_,e,ex,_⟩:=I.hok p _ hk
     exact⟨o,e,ex⟩
    ·obtain⟨_,_,_,_,o,_,_,e,ex,_⟩:=I.hok p _ hk
     exact⟨o,e,ex⟩
   obtain⟨o,e,ex⟩:=z
   refine⟨⟨o,e,ex.1⟩,λa e2=>?_⟩
   cases e2
   exact⟨o,e,ex.2.1⟩
  ·obtain⟨o,_,_,_,e,ex,_⟩:=I.hok p _ hk
   refine⟨⟨o,e,ex.1⟩,λa e2=>?_⟩
   cases e2
   exact⟨o,e,ex.2.1⟩
 | _=>exact False.elim ty
noncomputable def qTK (K:Qb) (T:String) (r:V->List V->Hp->VK->Prop) (to:TE):TE:=fun Z H Q=>to Z H λx H1=>rC K T x H1/\r x [] H1 Q
noncomputable def tBM (K:Qb) (T:String) (r:V->List V->Hp->VK->Prop) (to:TE) (t:TA):TE:=fun Z H Q=>to Z H λx H1=>rC K T x H1/\t Z H1 λxs H2=>r x xs H2 Q
variable {o e:Expr}{es:List Expr}{to:TE}{t:TA}{name:Str}{apos cpos:Pos}{T id:String}{r:V->List V->Hp->VK->Prop}
theorem qQd (pa:PlainAttrs T) (slot:Slot T name id) (hty:typeOf (.builtin id)=pure (.type "method_descriptor")) (hm:Cf X id r) (ho:PE X o to)
  (hbase:attributeBase o name X.env (eval o X.env)=eval o X.env:=by rfl) (hline:(apos.endLine == cpos.line)=true:=by rfl):PE X (.Call (.Attribute o name apos) [] [] cpos) (qTK X.K T r to):=by
 intro pins s Z H Q I h
 refine wpAny_Call_method0_late hbase hline (aC (ho pins s Z H _ I h) λv s1 ⟨x,H1,I1,r1,ty,q1⟩=>?_)
 obtain⟨h1,h2⟩:=xY I1 r1 ty
 exact⟨T,id,pa,slot,hty,h1,h2,Calls.callWith_builtin rfl (PySem.evalArgs_none (hm pins s1 Z H1 x [] v [] Q I1 r1 .nil q1))⟩
theorem wV (pa:PlainAttrs T) (slot:Slot T name id) (hty:typeOf (.builtin id)=pure (.type "method_descriptor")) (hm:Cf X id r) (ho:PE X o to) (ha:PA X (e::es) t)
  (hbase:attributeBase o name X.env (eval o X.env)=eval o X.env:=by rfl)
  (hfew:((backTo cpos (starEach (e::es) X.env)).all (λx=>!x.1)&&(backToKw cpos (keywordEach [] X.env)).all (λx=>x.1.isSome)
   && decide ((e::es).length+([]:List Keyword).length+(if ([]:List Keyword).isEmpty then 0 else 1)<30))=true:=by rfl)
  (hline:(apos.endLine == cpos.line)=true:=by rfl) (hs:starEach (e::es) X.env=(false,eval e X.env)::starEach es X.env:=by rfl) (hplain:(backTo cpos (starEach es X.env)).any (·.1)=false:=by rfl) :
  PE X (.Call (.Attribute o name apos) (e::es) [] cpos) (tBM X.K T r to t):=by
 intro pins s Z H Q I h
 refine wpAny_Call_method_late hbase hfew hline rfl (aC (ho pins s Z H _ I h) λv s1 ⟨x,H1,I1,r1,ty,q1⟩=>?_)
 obtain⟨h1,h2⟩:=xY I1 r1 ty
 refine⟨T,id,pa,slot,hty,h1,h2,?_⟩
 have hA:=ha cpos pins s1 Z H1 _ I1 q1
 rw [hs] at hA ⊢
 refine Calls.callWith_builtin (by show (false||(backTo cpos (starEach es X.env)).any (·.1))=false;rw [hplain]<;>rfl) (Calls.evalArgs_plain ?_)
 exact aC hA λus s2 ⟨vs,H2,I2,r2,q2⟩=>hm pins s2 Z H2 x vs v us Q I2 r1 r2 q2
end
end L2
namespace L2
open PySem PySem.Spec PyProof.Rows
def kB (X:Cx) (id:String) (r:V->List V->Hp->VK->Prop):Prop:=
 ∀(pins:List CA) (s:Shared) (Z:St) (H:Hp) (x:V) (xs:List V) (v:Value) (us:List Value) (Q:VK),Inv X pins Z H s->RelV x v->Vals xs us->r x xs H Q ->
   wpAny C0 X.A (call (.builtin id) (v::us)) (EP X pins Z Q) X.xe s
theorem Vals.one:∀{x:V}{us:List Value},Vals [x] us->∃u,us=[u]/\RelV x u
 | _,_,.cons r .nil=>⟨_,rfl,r⟩
theorem Vals.zero:∀{us:List Value},Vals [] us->us=[]
 | _,.nil=>rfl
theorem Vals.dropLast {xs:List V}{us:List Value}(h:Vals xs us):Vals xs.dropLast us.dropLast:=by
 induction h with
 | nil=>exact .nil
 | cons r t ih =>
  cases t with
  | nil=>exact .nil
  | cons q t'=>exact .cons r ih
theorem Vals.reverse {xs:List V}{us:List Value}(h:Vals xs us):Vals xs.reverse us.reverse:=by
 induction h with
 | nil=>exact .nil
 | cons r t ih=>rw [mL,mL];exact Vals.append ih (.cons r .nil)
theorem Vals.rep {xs:List V}{us:List Value}(h:Vals xs us):∀k:Nat,Vals (List.replicate k xs).flatten (List.replicate k us).flatten
 | 0=>.nil
 | k+1=>by
  rw [kG,kG,jE,jE]
  exact Vals.append h (Vals.rep h k)
theorem qHb {α:Type}(l:List α):l.eraseIdx (l.length - 1)=l.dropLast:=by
 induction l with
 | nil=>rfl
 | cons a r ih =>
  cases r with
  | nil=>rfl
  | cons b r =>
   have e:(a::b::r).length - 1=((b::r).length - 1)+1:=by
    have h1:(a::b::r).length=r.length+2:=rfl
    have h2:(b::r).length=r.length+1:=rfl
    omega
   rw [e,List.eraseIdx_cons_succ,ih]
   all_goals rfl
theorem Au (its:List Value):∀(k:Nat) (acc:List Value),
  List.foldl (λx1 x2=>x1++x2) acc.toArray (List.replicate k its.toArray)=(acc++(List.replicate k its).flatten).toArray
 | 0,acc=>by simp
 | k+1,acc=>by
  have e:acc.toArray++its.toArray=(acc++its).toArray:=by simp
  have e2:(acc++its)++(List.replicate k its).flatten=acc++(List.replicate (k+1) its).flatten:=by
   rw [kG,jE,bE]
  rw [<-e2,<-Au its k (acc++its),<-e,kG,mJ]
section
variable {X:Cx}{pins:List CA}{Z:St}{H:Hp}{s:Shared}{l b:Addr}{xs ys zs:List V}
theorem Inv.lset {its its':List Value}{n:Nat}{f:Array Value->Array Value}{t':Nat}(I:Inv X pins Z H s) (hH:H l=some (.lst xs))
  (e:s.heap.get? l=some { cls:=.type "list",data:=.seq its.toArray n }) (hf:f its.toArray=its'.toArray) (hv:Vals ys its') (hz:ys.length<=sizeLine) :
  Inv X pins Z (aB H l (.lst ys)) { s with heap:=s.heap.update l (Obj.mapSeq f),toks:=t' }:=by
 have q:=PySem.IsL.update e f
 rw [hf] at q
 refine I.write (x:=l) (e:=l) (by rw [hH];exact trivial) (.inl rfl) (λb' u hb hu=>(Heap.get?_update_other s.heap (Obj.mapSeq f) (Ne.symm hb)).trans hu) ⟨_,q⟩ ?_
 exact⟨hz,its',_,hv,q⟩
theorem Inv.lnew {its:List Value}{t':Nat}(I:Inv X pins Z H s) (hv:Vals ys its) (hz:ys.length<=sizeLine) :
  Inv X pins Z (aB H s.heap.objs.size (.lst ys)) { s with heap:=s.heap.push { cls:=.type "list",data:=.seq its.toArray },toks:=t' }:=
 I.laid (λ_ _ q=>Qg _ q) (au _) ⟨hz,its,0,hv,Qh _ rfl⟩
theorem Inv.fresh (I:Inv X pins Z H s):H s.heap.objs.size=none:=I.hok.fresh (au _)
theorem Inv.lstM (I:Inv X pins Z H s) (hH:H l=some (.lst xs)):xs.length<=sizeLine/\∃(its:List Value) (n:Nat),Vals xs its/\xs.length=its.length/\s.heap.get? l=some { cls:=.type "list",data:=.seq its.toArray n }:=by
 obtain⟨z,its,n,r,e⟩:=I.hok l _ hH
 exact⟨z,its,n,r,r.length,e⟩
theorem ug {n:Nat}(h:n<=sizeLine):Builtin.List.listTooLong n=false:=by
 unfold Builtin.List.listTooLong
 exact Qj AC
end
section
variable {X:Cx}
def qNN:V->List V->Hp->VK->Prop:=λx vs H Q=>∃l xs y,x=.ref l/\vs=[y]/\H l=some (.lst xs)/\xs.length<sizeLine/\Q .non (aB H l (.lst (xs++[y])))
theorem Ay:kB X "list.append" qNN:=by
 intro pins s Z H x vs v us Q I rx rv h
 obtain⟨l,xs,y,rfl,rfl,hH,hz,q⟩:=h
 cases rx
 obtain⟨u,rfl,ru⟩:=rv.one
 obtain⟨z,its,n,r,hl,e⟩:=I.lstM hH
 refine call_meets F.slot_list_append ⟨_,e,rfl⟩ F.entry_list_append (F.args_list_append_2 _ _) (PySem.list_append l its.toArray n u (by rw [aO];omega)) ⟨e,?_⟩
 refine⟨.non,_,I.lset (its':=its++[u]) hH e C2 (r.append (.cons ru .nil)) ?_,rfl,q⟩
 rw [aU,n5]
 omega
def qNM:V->List V->Hp->VK->Prop:=λx vs H Q=>∃l b xs zs,x=.ref l/\vs=[.ref b]/\H l=some (.lst xs)/\H b=some (.lst zs)/\xs.length+zs.length<=sizeLine/\Q .non (aB H l (.lst (xs++zs)))
theorem qIp:kB X "list.extend" qNM:=by
 intro pins s Z H x vs v us Q I rx rv h
 obtain⟨l,b,xs,zs,rfl,rfl,hH,hB,hz,q⟩:=h
 cases rx
 obtain⟨u,rfl,ru⟩:=rv.one
 cases ru
 obtain⟨z,its,n,r,hl,e⟩:=I.lstM hH
 obtain⟨z2,its2,n2,r2,hl2,e2⟩:=I.lstM hB
 have hsz:its.toArray.size+its2.toArray.size<=sizeLine:=by rw [aO,aO];omega
 have hlong:¬(!its.toArray.isEmpty&&Builtin.List.listTooLong (its.toArray.size+its2.toArray.size))=true:=by
  rw [ug hsz,jD]
  exact fA
 refine call_meets F.slot_list_extend ⟨_,e,rfl⟩ F.entry_list_extend (F.args_list_extend_2 _ _)
  (AutoSeq1.list_extend_list_list_0 l its.toArray n b its2.toArray n2 hlong (by rw [aO];omega) AC) ⟨e,e2,?_⟩
 refine⟨.non,_,I.lset (its':=its++its2) hH e C2 (r.append r2) ?_,rfl,q⟩
 rw [aU]
 omega
def qTR:V->List V->Hp->VK->Prop:=λx vs H Q=>∃l xs y,x=.ref l/\vs=[]/\H l=some (.lst xs)/\xs[xs.length - 1]?=some y/\Q y (aB H l (.lst xs.dropLast))
theorem qQz:kB X "list.pop" qTR:=by
 intro pins s Z H x vs v us Q I rx rv h
 obtain⟨l,xs,y,rfl,rfl,hH,hy,q⟩:=h
 cases rx
 have hus:=rv.zero
 subst hus
 obtain⟨z,its,n,r,hl,e⟩:=I.lstM hH
 obtain⟨u,hu,ru⟩:=r.get hy
 have hy':its.toArray[its.toArray.size - 1]?=some u:=by
  show its.toArray[its.length - 1]?=some u
  rw [<-ja,<-hl]
  exact hu
 refine call_meets F.slot_list_pop ⟨_,e,rfl⟩ F.entry_list_pop (F.args_list_pop_1 _) (MeetsSeq.list_pop_last l its.toArray n u hy' (by rw [aO];omega)) ⟨e,?_⟩
 refine⟨y,_,I.lset (its':=its.dropLast) hH e ?_ r.dropLast ?_,ru,q⟩
 ·show its.toArray.eraseIdxIfInBounds (its.toArray.size - 1)=its.dropLast.toArray
  rw [aO,List.eraseIdxIfInBounds_toArray,qHb]
 ·rw [List.length_dropLast]
  omega
theorem qOh {α:Type}(xs:List α) (k:Nat):(List.replicate k xs).flatten.length=k * xs.length:=by
 induction k with
 | zero=>simp
 | succ k ih=>rw [kG,jE,aU,ih,mH,Nat.add_comm]
end
end L2
namespace Att
open PySem PySem.W PySem.Calls PyProof.Rows
theorem qDw {P:Params}{h:Heap}:∀(ns:List Int) (vs:List Value),WellAll P h vs (ns.map WData.int)->IntsAre vs ns:=by
 intro ns
 induction ns with
 | nil =>
  intro vs w
  rw [List.map_nil] at w
  cases w
  exact .nil
 | cons n ns ih =>
  intro vs w
  rw [cP] at w
  cases w with
  | cons a b =>
   cases a
   exact .cons _ _ (ih _ b)
theorem script_of {l:OpenLaw}{n:Nat}(hn:l.most=some n) {P:Params}{h:Heap}{args:List WData}{vals:List Value}
  (hpre:l.row.toRowW.claim.pre args=true) (hwl:WellAll P h vals args) :
  ∃a vs ns,vals=[Value.ref a]/\args=[WData.list (ns.map WData.int)]/\h.get? a=some { cls:=.type "list",data:=.seq vs.toArray }/\IntsAre vs ns/\ns.length<=n:=by
 have hsh:WShape.hasAll [] args [.list .int]=true:=(pre_splitW hpre).1
 have hc:l.pre.holds [] { args:=args }=true:=(pre_splitW hpre).2
 obtain⟨d,r,rfl,h1,h2⟩:=hasAllW_cons hsh
 obtain rfl:=hasAllW_nil h2
 obtain⟨xs,rfl,h3⟩:=hasW_list h1
 obtain⟨ns,rfl⟩:=items_int h3
 have hlen:ns.length<=n:=by
  unfold OpenLaw.pre at hc
  have h4:(WTm.not (.lt (.lit (.int (n:Int))) (.len (.arg 0)))).holds [] { args:=[.list CC] }=true:=by
   have h4:=(holds_andW hc).1
   rw [hn] at h4
   exact h4
  have h5:=condW_of h4 (w_not (w_lt w_lit (w_len_list (w_arg rfl))))
  rw [aw] at h5
  refine Nat.le_of_not_lt λq=>?_
  have q':(n:Int)<((ns.length:Nat):Int):=by omega
  first
   | (rw [Qk q'] at h5;exact Qn h5 At)
   | (simp at h5;omega)
 cases hwl with
 | cons w1 w2 =>
  cases w2
  cases w1 with
  | list ho hall=>exact⟨_,_,ns,rfl,rfl,ho,qDw ns _ hall,hlen⟩
theorem post_true (l:OpenLaw) (args:List WData):l.row.toRowW.claim.post args (.bool true) args=true:=
 postW_of (r:=l.row.toRowW) (X:=(true == true))
  (show WShape.has [] (.bool true) .bool=true by first|rfl|decide|simp [WShape.has,WShape.arms,WShape.armsAll])
  (show (WTm.eq .res (.lit (.bool true))).value [] { args:=args,res:=some (.bool true),after:=args }=some (.bool (true == true)) from w_eq_bool (w_res rfl) w_lit) rfl
end Att
namespace L2
open PySem PySem.Spec PyProof.Rows
theorem uF:∀{vs:List Value}{ns:List Int},IntsAre vs ns->Vals (ns.map V.int) vs
 | _,_,.nil=>.nil
 | _,_,.cons n t h=>.cons ⟨t,rfl⟩ (uF h)
end L2
namespace L2
open PySem PySem.Spec PyProof.Rows
noncomputable abbrev fO:ic:=λ_ _ _ _ _ _=>False
noncomputable abbrev E0:XK:=λ_ _ _=>False
theorem wU {X:Cx}:sJ fO X E0:=λ_ _ _ _ _ _ _ h=>h.elim
structure Fun (K:Qb) (x qual:Str) (st:Stmt) (f:Addr) (fd:FuncData):Prop where
 ex:∃(oc:Value) (od:Option Addr) (kV doc pm:Value) (an:Option Addr) (cdv ct:Value) (osl:Array (Option Value)),
  fd=PySem.W.fnOf x qual (f9 st) (cw st) (aE st) .none kV doc pm an cdv ct/\K.lookup f=some ⟨oc,od,.func fd,osl⟩/\PySem.W.codeIn K cdv qual=true
 kp:PySem.W.keepIn K (.ref f)=true
section
variable {P:Program}{w:World}{K:Qb}{mg:Str->Option Value}{base:Heap}
theorem Fun.binds {x qual:Str}{st:Stmt}{f:Addr}{fd:FuncData}{ps:List Str}(F:Fun K x qual st f fd)
  (h:∀(kV doc pm:Value) (an:Option Addr) (cdv ct:Value) (us:List Value),us.length=ps.length->bindArgs (PySem.W.fnOf x qual (f9 st) (cw st) (aE st) .none kV doc pm an cdv ct) ⟨us,[]⟩=pure (ps.zip us)):Binds K fd ps []:=by
 obtain⟨oc,od,kV,doc,pm,an,cdv,ct,osl,rfl,lk,hcd⟩:=F.ex
 exact .all (h kV doc pm an cdv ct)
theorem sQ {x qual:Str}{st:Stmt}{f:Addr}{oc:Value}{od an:Option Addr}{osl:Array (Option Value)}{kV doc pm cdv ct:Value}(l:K.lookup f=some ⟨oc,od,.func (PySem.W.fnOf x qual (f9 st) (cw st) (aE st) .none kV doc pm an cdv ct),osl⟩)
  (c:PySem.W.codeIn K cdv qual=true) (k:PySem.W.keepIn K (.ref f)=true):Fun K x qual st f (PySem.W.fnOf x qual (f9 st) (cw st) (aE st) .none kV doc pm an cdv ct):=⟨⟨oc,od,kV,doc,pm,an,cdv,ct,osl,rfl,l,c⟩,k⟩
end
section
variable {X:Cx}
theorem pv (i:Nat) {x:Str}{pos:Pos}(hN:X.N[i]?=some x:=by rfl) (hv:jA X.env.scope x:=by first|exact Or.inl rfl|exact Or.inr (Or.inl rfl)|exact Or.inr (Or.inr rfl)) (hd:(x == ("__debug__":Str))=false:=by decide)
  (hcd:(x == ("__classdict__":Str))=false:=by decide):PE X (.Name x pos) (mP i):=ju hN hv hd hcd
end
theorem oC {A B:Prop}(h:B):if false=true then A else B:=by
 rw [Qm fA]
 exact h
theorem oD {A B:Prop}(h:A):if true=true then A else B:=by
 rw [Ql rfl]
 exact h
def Same (H H':Hp):Prop:=∀b o,H b=some o->H' b=some o
theorem Same.refl (H:Hp):Same H H:=λ_ _ h=>h
theorem Same.trans {H H1 H2:Hp}(a:Same H H1) (b:Same H1 H2):Same H H2:=λc o h=>b c o (a c o h)
theorem Same.free {H H':Hp}(e:Same H H') {l:Addr}(h:H' l=Option.none):H l=Option.none:=by
 cases q:H l with
 | none=>rfl
 | some o =>
  rw [e l o q] at h
  cases h
end L2
namespace L2
open PySem PySem.W PySem.Calls PyProof.Rows
section
variable {X:Cx}{pins:List CA}{Z:St}{H:Hp}{s:Shared}{h':Heap}
theorem Inv.tabGrow {P c:Addr}{pos:Pos}{q:Str}{ps:Array Value}{oc:Obj}{vs:Array Value}{t:Tok}{t':Nat}(I:Inv X pins Z H s) (hP:H P=some (.tab pos q)) (hx:Heap.ExtBut P s.heap h') (hc:s.heap.objs.size<=c)
  (ho:h'.get? c=some oc) (hd:oc.data=.fields vs) (hv:vs[1]?=some (.str q t)) (hp:h'.get? P=some (tabObj ps)) (ht:TriplesOk ps.toList) (hf:codeAmong pos ps.toList=some (.ref c)) :
  Inv X pins Z (aB H c (.frz oc (.own c))) { s with heap:=h',toks:=t' }:=by
 have hn:H c=none:=I.hok.fresh hc
 have nP:∀b,H b=none->b≠P:=λb n z=>by subst z;rw [hP] at n;cases n
 have u:Un X.fs [] H (aB H c (.frz oc (.own c))) s.heap h':=⟨λb o e n _ _=>hx b o (nP b n) e,λb o e n _ _=>⟨o.slots,hx b o (nP b n) e⟩,
  λb o e n _=>by rw [aD (bV (bO (Qi e) hc))];exact n,λb o e _=>by
   by_cases z:b=P
   ·subst z;exact⟨_,hp⟩
   ·exact⟨o,hx b o z e⟩,
  λb xs e=>by rw [aD (cG e hn)];exact e,λb o v e=>by rw [aD (cG e hn)];exact e,λb xs e=>⟨#[],by rw [aD (cG e hn),e];simp⟩⟩
 refine I.un u λa o e=>?_
 by_cases z:a=c
 ·subst z
  rw [dX] at e;cases e
  exact⟨ho,_,ho⟩
 ·rw [aD z] at e
  by_cases zP:a=P
  ·subst zP
   rw [hP] at e;cases e
   exact⟨ps,hp,ht,.inr ⟨c,oc,_,vs,t,hf,dX,hd,hv⟩⟩
  ·refine (I.hok a o e).stay (λb v hb q=>hx b v ?_ q) (λb q=>by rw [aD (cG q hn)];exact q) (λb xs q=>by rw [aD (cG q hn)];exact q) λb ob v _ q _=>by rw [aD (cG q hn)];exact q
   rcases hb with rfl|hb
   ·exact zP
   ·rintro rfl;rw [hP] at hb;cases hb
noncomputable def oR (X:Cx) (la:Arguments) (e:Expr) (sc:Scope) (clos:List (Str×Addr)) (pos:Pos) (P:Addr):TE:=λ_ H Q=>H P=some (.tab pos (X.env.qual++"<lambda>")) /\
 ∀(f c:Addr) (oc:Obj) (vs:Array Value) (t:Tok) (ctv:Value) (H':Hp),(∀b o,H b=some o->H' b=some o)->H f=none->H' f=some (.frz (kla_obj "<lambda>" (X.env.qual++"<lambda>") la e sc clos ((X.mg "__name__").getD .none) c ctv) (.own f)) ->
   (∃u,H' c=some (.frz oc u))->oc.data=.fields vs->vs[1]?=some (.str (X.env.qual++"<lambda>") t)->(∀b o,H' b=some o->H b=some o∨∃ob u,o=.frz ob u)->Q (.ref f) H'
theorem qQb {c P:Addr}{la:Arguments}{e:Expr}{sc:Scope}{pos:Pos}{clos:List (Str×Addr)}(hdef:defaultsOf la X.env=([],[])) (hcl:closureFor sc X.env=pure clos) (hcode:X.env.code=.ref c) (C:CodeHd X.base c P) (hb:X.base.BuiltinsAt X.mg P) :
  PE X (.Lambda la e sc pos) (oR X la e sc clos pos P):=by
 intro pins s Z H Q I ⟨hP,k⟩
 refine kla_eval hdef ?_
 obtain⟨ps,hp,ht,r⟩:=I.hok P _ hP
 have hg:=I.mod.glob.keeps I.bk
 obtain⟨bm,ob,b1,b2,b3,b4,b5,b6⟩:=hb
 have hb':s.heap.BuiltinsAt X.mg P:=⟨bm,ob,b1,b2,b3,b4,I.bk _ _ b5,b6⟩
 have hgP:mainGlobals≠P:=λz=>by
  obtain⟨o,es,ep,ho,_⟩:=I.mod.glob
  have:=(I.bs _ _ ho).2
  rw [z,hP] at this;cases this
 rcases r with hn|⟨c',oc,u,vs,t,hf,hc,hd,hv⟩
 ·refine kla_makeFunction (mg:=X.mg) hcl I.ok.glob hg hcode (C.keeps I.bk) hp ht hn hgP hb' λc' ctv h' tk hx hge hlt hrec htb=>?_
  obtain⟨c₂,oc,vs,t,e2,hoc,hd,hv⟩:=hrec
  cases e2
  have hnc:H c'=none:=I.hok.fresh hge
  have I1:=I.tabGrow (t':=tk) hP hx hge hoc hd hv htb (by rw [Array.toList_append];exact TriplesOk_snoc _ _ _ _ ht) (by rw [Array.toList_append];exact codeAmong_snoc _ ht hn)
  have hsz:s.heap.objs.size<=h'.objs.size:=aT hge (fg hlt)
  have hfn:H h'.objs.size=none:=I.hok.fresh hsz
  have ne:c'≠h'.objs.size:=bV hlt
  have I2:=I1.laid (a:=h'.objs.size) (o:=.frz (kla_obj "<lambda>" (X.env.qual++"<lambda>") la e sc clos ((X.mg "__name__").getD .none) c' ctv) (.own h'.objs.size)) (t':=tk) (λb u e=>Qg _ e) (au _) ⟨Qh _ rfl,_,Qh _ rfl⟩
  refine⟨.ref h'.objs.size,_,I2,rfl,k _ c' oc vs t ctv _ (λb o e=>?_) hfn dX ⟨_,(by rw [aD ne];exact dX)⟩ hd hv λb o e=>?_⟩
  ·rw [aD (cG e hfn),aD (cG e hnc)];exact e
  ·by_cases z:b=h'.objs.size
   ·subst z;rw [dX] at e;cases e;exact .inr ⟨_,_,rfl⟩
   ·rw [aD z] at e
    by_cases z:b=c'
    ·subst z;rw [dX] at e;cases e;exact .inr ⟨_,_,rfl⟩
    ·rw [aD z] at e;exact .inl e
 ·refine kla_makeFunctionHit (mg:=X.mg) hcl I.ok.glob hg hcode (C.keeps I.bk) hp ht hf hb' λctv h' tk hk hsz=>?_
  have hfn:H h'.objs.size=none:=I.hok.fresh hsz
  have I2:=I.laid (a:=h'.objs.size) (h':=h'.push { cls:=.type "function",data:=.func (kla_fn "<lambda>" (X.env.qual++"<lambda>") la e sc clos ((X.mg "__name__").getD .none) (.ref c') ctv) }) (o:=.frz (kla_obj "<lambda>" (X.env.qual++"<lambda>") la e sc clos ((X.mg "__name__").getD .none) c' ctv) (.own h'.objs.size)) (t':=tk) (λb u e=>Qg _ (hk b u e)) hsz ⟨Qh _ rfl,_,Qh _ rfl⟩
  refine⟨.ref h'.objs.size,_,I2,rfl,k _ c' oc vs t ctv _ (λb o e=>?_) hfn dX ⟨u,?_⟩ hd hv λb o e=>?_⟩
  ·rw [aD (cG e hfn)];exact e
  ·rw [aD (cG hc hfn)];exact hc
  ·by_cases z:b=h'.objs.size
   ·subst z;rw [dX] at e;cases e;exact .inr ⟨_,_,rfl⟩
   ·rw [aD z] at e;exact .inl e
end
end L2
namespace L2
open PySem PySem.W PySem.Calls PyProof.Rows
def kW (P:Program) (w:World) (K:Frag) (mg:Str->Option Value) (base:Heap) (N:List Str) (qual:Str) (scope:Scope) (f:Addr) (cd:Value) (clos:List (Str×Addr)) (A:Around) (outer:List Env) (s:Shared) (H:Hp):Cx where
 prog:=P
 w:=w
 K:=K
 mg:=mg
 base:=base
 A:=A.deeper (envX qual scope s.heap.objs.size f cd clos)
 N:=N
 s₀:=s
 H₀:=H
 env:=envX qual scope s.heap.objs.size f cd clos
 outer:=outer
 stack:=envX qual scope s.heap.objs.size f cd clos::outer
 ex:=[]
 calm:=true
 fn:=λ_=>false
 pn:=[]
 xe:=λ_ _=>False
section
variable {P:Program}{w:World}{K:Frag}{mg:Str->Option Value}{base:Heap}{N:List Str}{name qual:Str}{params:Arguments}{body:Expr}{scope:Scope}{f c:Addr}{clos:List (Str×Addr)}{pm ctv:Value}{A:Around}{outer:List Env}{s:Shared}{H:Hp}
theorem qJO:∀{ps:List Str}{us:List Value}{j:Nat}{y:Str}{u:Value},ps.Nodup->ps[j]?=some y->us[j]?=some u->(ps.zip us).reverse.lookup y=some u:=by
 intro ps
 induction ps with
 | nil=>intro us j y u _ h;simp at h
 | cons p ps ih =>
  intro us j y u nd h1 h2
  cases us with
  | nil=>simp at h2
  | cons w us =>
   obtain⟨np,nd⟩:=ybx.mp nd
   rw [List.zip_cons_cons,mL,List.lookup_append]
   cases j with
   | zero =>
    simp at h1 h2
    subst h1 h2
    have:(ps.zip us).reverse.lookup p=none:=by
     rw [List.lookup_eq_none_iff]
     intro q hq
     have:=(mK (List.mem_reverse.mp hq)).1
     simp only [bne_iff_ne,ne_eq,Bool.not_eq_true,beq_eq_false_iff_ne]
     intro e
     exact np (e▸this)
    rw [this]
    simp
   | succ j =>
    rw [rz] at h1 h2
    rw [ih nd h1 h2]
    rfl
theorem qOj {ps:List Str}{vs:List V}{us:List Value}{t:TE}{Q:VK}{Z:St}(hf:s.heap.get? f=some (kla_obj name qual params body scope clos pm c ctv)) (hcd:s.heap.CodeRec (.ref c) qual) (hdep:A.depth<recursionLimit) (hh:A.handled=none)
  (e0:Env0 P w K mg base A outer s H) (hk:scope.kind=.function) (hco:scope.isCoroutine=false) (hgen:scope.isGenerator=false) (hcell:∀y∈scope.names,y.2≠.cell)
  (hbind:bindArgs (kla_fn name qual params body scope clos pm (.ref c) ctv) ⟨us,[]⟩=pure (ps.zip us)) (hloc:∀x∈ps,scope.names.lookup x=some .local) (nd:ps.Nodup) (rv:Vals vs us) (hlen:Z.length=N.length)
  (hZ:∀(i:Nat) (y:Str) (v':V),N[i]?=some y->Z[i]?=some (some v')->(∃j:Nat,ps[j]?=some y/\vs[j]?=some v')∨(scope.names.lookup y=some .free/\∃c u,clos.lookup y=some c/\s.heap.IsCell c (some u)/\RelV v' u))
  (inj:∀y z c,clos.lookup y=some c->clos.lookup z=some c->y=z) (has:∀y,scope.names.lookup y=some .free->∃c,clos.lookup y=some c)
  (cells:∀y c,clos.lookup y=some c->(∃v,s.heap.IsCell c v)/\H c=none)
  (ht:PE (kW P w K mg base N qual scope f (.ref c) clos A outer s H) body t) (hq:t Z H Q) :
  codeAny (model P w) A (.call (.ref f) ⟨us,[]⟩) (λr s'=>match r with|.ok (.ret u)=>CE outer P w H s Q u s'|_=>False) s:=by
 have lim:s.heap.NoLimit:=e0.mod.nolimit.keeps λb o e=>(e0.bs b o e).1
 refine kla_callFunE hdep hf rfl hco hgen rfl hcd ?_
 rw [hbind]
 refine Qd (wpAny_newFunctionEnv hcell (λy hy=>hloc y.1 (mK hy).1) (λh₁ hns hsb=>?_) hk)
 have kp:∀b o,s.heap.get? b=some o->h₁.get? b=some o:=λb o e=>hsb.extBut b o (bV (Qi e)) (Qg _ e)
 refine⟨lim.keeps kp,?_⟩
 show codeAny _ _ (.expr body (envX qual scope s.heap.objs.size f (.ref c) clos)) _ _
 have I:Inv (kW P w K mg base N qual scope f (.ref c) clos A outer s H) [] Z H { s with heap:=h₁,toks:=s.toks+(ps.zip us).length }:=by
  refine⟨⟨e0.mod,hk,rfl,rfl,au _,inj,λy hy=>?_,λy c hy=>(nomatch hy),λ_=>hh,Around.frames_deeper e0.frames,.inr ⟨rfl,rfl⟩,λb z=>(nomatch z),e0.bs,e0.bsz,λb _ _ z=>(nomatch z),λb z=>(nomatch z),e0.funs,e0.frf⟩,
   rfl,e0.bare,Un.kept kp,⟨_,hns,λi y v' h1 h2 h3=>?_⟩,λy c h=>?_,e0.hok.fresh (au _),λy c h=>(cells y c h).2,λp hp=>(nomatch hp),e0.hok.kept kp,hlen⟩
  ·have hy:scope.names.lookup y=some .cell∨scope.names.lookup y=some .free:=hy
   rcases hy with hy|hy
   ·exact Qn rfl (hcell _ (dF hy))
   ·exact has y hy
  ·rcases hZ i y v' h1 h2 with ⟨j,j1,j2⟩|⟨hy,c,u,e1,e2,e3⟩
   ·obtain⟨u,u1,u2⟩:=rv.get j2
    exact⟨u,u2,.inl ⟨hloc y (cm j1),qJO nd j1 u1⟩⟩
   ·obtain⟨o,ho,hd⟩:=e2
    exact⟨u,e3,.inr ⟨.inr hy,c,e1,o,kp _ _ ho,hd⟩⟩
  ·obtain⟨v,o,ho,hd⟩:=(cells y c h).1
   exact⟨v,o,kp _ _ ho,hd⟩
 exact kla_codeExpr (Qe (ht [] _ Z H Q I hq) (λu s' ⟨v',H',J,r,q⟩=>⟨v',H',J.os,J.bare,J.base,J.hok,r,q⟩) λ_ _ z=>z.elim)
end
end L2
namespace L2
open PySem PySem.W PySem.Calls PyProof.Rows
noncomputable def cg (H:Hp) (cs:List CA):Hp:=λa=>match cs.lookup a with
 | some o=>some (.frz o (.own a))
 | none=>H a
noncomputable def bS (H:Hp) (cs:List CA):Hp:=λa=>match cs.lookup a with
 | some _=>none
 | none=>H a
section
variable {P:Program}{w:World}{H H':Hp}{h:Heap}{cs:List CA}{a:Addr}{o:Obj}
theorem iR (e:cs.lookup a=some o):cg H cs a=some (.frz o (.own a)):=by unfold cg;rw [e]
theorem dE (e:cs.lookup a=none):cg H cs a=H a:=by unfold cg;rw [e]
theorem j7 (e:cs.lookup a=some o):bS H cs a=none:=by unfold bS;rw [e]
theorem cW (e:cs.lookup a=none):bS H cs a=H a:=by unfold bS;rw [e]
def xQ (o:HO):Prop:=∀ob u v,o=.frz ob u->ob.data≠.cell v
def hO (cs:List CA):Prop:=∀a o,cs.lookup a=some o->∃v,o.data=.cell v
def du (H:Hp) (cs:List CA):Prop:=∀a o,cs.lookup a=some o->H a=some (.frz o (.own a))
theorem qKH (C:hO cs) (I:du H cs) {x:HO}(e:H a=some x) (n:xQ x):cs.lookup a=none:=by
 cases k:cs.lookup a with
 | none=>rfl
 | some o =>
  rw [I a o k] at e
  cases e
  obtain⟨v,hv⟩:=C a o k
  exact Qn hv (n o _ v rfl)
theorem uC (C:hO cs) (I:du H cs) {x:HO}(e:H a=some x) (n:xQ x):bS H cs a=some x:=by rw [cW (qKH C I e n)];exact e
theorem HOk.off (k:HOk P w H h) (C:hO cs) (I:du H cs):HOk P w (bS H cs) h:=by
 intro a o e
 cases z:cs.lookup a with
 | some ob=>rw [j7 z] at e;cases e
 | none =>
  rw [cW z] at e
  refine (k a o e).stay (λb u _ q=>q) (λb q=>uC C I q (λ_ _ _ r=>by cases r)) (λb xs q=>uC C I q (λ_ _ _ r=>by cases r)) λb ob u vs q d=>uC C I q λob' u' v r d'=>?_
  cases r
  rw [d] at d'
  cases d'
theorem HOk.on (k:HOk P w H h) (n:∀a o,cs.lookup a=some o->H a=none/\h.get? a=some o):HOk P w (cg H cs) h:=by
 have kp:∀b x,H b=some x->cg H cs b=some x:=λb x e=>by
  cases z:cs.lookup b with
  | some ob=>rw [(n b ob z).1] at e;cases e
  | none=>rw [dE z];exact e
 intro a o e
 cases z:cs.lookup a with
 | some ob =>
  rw [iR z] at e
  cases e
  exact⟨(n a ob z).2,ob,(n a ob z).2⟩
 | none =>
  rw [dE z] at e
  exact (k a o e).stay (λb u _ q=>q) (λb q=>kp _ _ q) (λb xs q=>kp _ _ q) λb ob u vs q _=>kp _ _ q
end
section
variable {P:Program}{w:World}{H:Hp}{s s':Shared}{cs:List CA}{outer:List Env}{Q:VK}{u:Value}
theorem qS3 (k:HOk P w H s.heap) (C:hO cs) (I:du H cs) (nf:∀a o,cs.lookup a=some o->a∉fu outer) (c:CE outer P w (bS H cs) s (λv H'=>(∀a o,cs.lookup a=some o->H' a=none)->Q v (cg H' cs)) u s'):CE outer P w H s Q u s':=by
 obtain⟨v,H',os,bare,un,hok,r,q⟩:=c
 have at0:∀a o,cs.lookup a=some o->s.heap.get? a=some o:=λa o e=>(k a _ (I a o e)).1
 have ne:∀{b x},H b=some x->(∀a o,cs.lookup a=some o->x≠.frz o (.own a))->cs.lookup b=none:=λ{b x} e n=>by
  cases z:cs.lookup b with
  | none=>rfl
  | some o=>rw [I b o z] at e;cases e;exact Qn rfl (n b o z)
 have no:∀{b},H b=none->cs.lookup b=none:=λ{b} e=>by
  cases z:cs.lookup b with
  | none=>rfl
  | some o=>rw [I b o z] at e;cases e
 refine⟨v,cg H' cs,os,bare,⟨λb o e n f x=>un.keep b o e (by rw [cW (no n)];exact n) f x,λb o e n f x=>un.slot b o e (by rw [cW (no n)];exact n) f x,λb o e n x=>?_,un.there,λb xs e=>?_,λb o w' e=>?_,λb ps e=>?_⟩,?_,r,q λa o e=>un.free a o (at0 a o e) (j7 e) C2⟩
 ·rw [dE (no n)];exact un.free b o e (by rw [cW (no n)];exact n) x
 ·have z:=ne e (λa o _ r=>by cases r)
  rw [dE z];exact un.tups b xs (by rw [cW z];exact e)
 ·cases z:cs.lookup b with
  | some ob =>
   rw [I b ob z] at e
   cases e
   exact iR z
  | none=>rw [dE z];exact un.frzs b o w' (by rw [cW z];exact e)
 ·have z:=ne e (λa o _ r=>by cases r)
  obtain⟨m,e2⟩:=un.tbls b ps (by rw [cW z];exact e)
  exact⟨m,by rw [dE z];exact e2⟩
 ·refine hok.on λa o e=>?_
  have g:=at0 a o e
  exact⟨un.free a o g (j7 e) C2,un.keep a o g (j7 e) (nf a o e) C2⟩
theorem qQ8 (C:hO cs) (n:∀a o,cs.lookup a=some o->H a=none/\s.heap.get? a=some o) (c:CE outer P w (cg H cs) s (λv H'=>du H' cs->Q v (bS H' cs)) u s'):CE outer P w H s Q u s':=by
 obtain⟨v,H',os,bare,un,hok,r,q⟩:=c
 have I:du H' cs:=λa o e=>un.frzs a o _ (iR e)
 have ne:∀{b x},H b=some x->cs.lookup b=none:=λ{b x} e=>by
  cases z:cs.lookup b with
  | none=>rfl
  | some o=>rw [(n b o z).1] at e;cases e
 refine⟨v,bS H' cs,os,bare,⟨λb o e m f x=>?_,λb o e m f x=>?_,λb o e m x=>?_,un.there,λb xs e=>?_,λb o w' e=>?_,λb ps e=>?_⟩,hok.off C I,r,q I⟩
 ·cases z:cs.lookup b with
  | none=>exact un.keep b o e (by rw [dE z];exact m) f x
  | some ob =>
   have e2:=(n b ob z).2
   rw [e] at e2
   cases e2
   exact (hok b _ (I b o z)).1
 ·cases z:cs.lookup b with
  | none=>exact un.slot b o e (by rw [dE z];exact m) f x
  | some ob =>
   have e2:=(n b ob z).2
   rw [e] at e2
   cases e2
   exact⟨o.slots,(hok b _ (I b o z)).1⟩
 ·cases z:cs.lookup b with
  | none=>rw [cW z];exact un.free b o e (by rw [dE z];exact m) x
  | some ob=>exact j7 z
 ·have z:=ne e
  rw [cW z];exact un.tups b xs (by rw [dE z];exact e)
 ·have z:=ne e
  rw [cW z];exact un.frzs b o w' (by rw [dE z];exact e)
 ·have z:=ne e
  obtain⟨m,e2⟩:=un.tbls b ps (by rw [dE z];exact e)
  exact⟨m,by rw [cW z];exact e2⟩
end
end L2
namespace L2
open PySem PySem.W PySem.Calls PyProof.Rows
section
variable {X:Cx}{pins:List CA}{τ:St}{H:Hp}{s:Shared}{cs:List CA}{Q:VK}
theorem Inv.env0off (I:Inv X pins τ H s) (C:hO cs) (CI:du H cs):Env0 X.prog X.w X.K X.mg X.base X.A X.stack s (bS H cs):=by
 have e:=I.env0
 have nn:∀b,H b=none->bS H cs b=none:=λb n=>by
  cases z:cs.lookup b with
  | some o=>exact j7 z
  | none=>rw [cW z];exact n
 exact⟨e.frames,e.mod,λb o q=>⟨(e.bs b o q).1,nn b (e.bs b o q).2⟩,e.bsz,e.funs,λb q=>nn b (e.frf b q),e.hok.off C CI,e.bare⟩
theorem qNG {N:List Str}{name qual:Str}{params:Arguments}{body:Expr}{scope:Scope}{f c:Addr}{clos:List (Str×Addr)}{pm ctv:Value}{oc:Obj}{uf uc:HO}{vs:Array Value}{t0:Tok}{ps:List Str}{ws:List V}{us:List Value}{t:TE}{Z:St}
  (I:Inv X pins τ H s) (hdep:X.A.depth<recursionLimit) (hh:X.A.handled=none) (hf:H f=some (.frz (kla_obj name qual params body scope clos pm c ctv) uf)) (hc:H c=some (.frz oc uc)) (hd:oc.data=.fields vs) (hv:vs[1]?=some (.str qual t0))
  (C:hO cs) (CI:du H cs) (hcl:∀y a,clos.lookup y=some a->∃o,cs.lookup a=some o)
  (hk:scope.kind=.function) (hco:scope.isCoroutine=false) (hgen:scope.isGenerator=false) (hcell:∀y∈scope.names,y.2≠.cell)
  (hbind:bindArgs (kla_fn name qual params body scope clos pm (.ref c) ctv) ⟨us,[]⟩=pure (ps.zip us)) (hloc:∀x∈ps,scope.names.lookup x=some .local) (nd:ps.Nodup) (rv:Vals ws us) (hlen:Z.length=N.length)
  (hZ:∀(i:Nat) (y:Str) (v':V),N[i]?=some y->Z[i]?=some (some v')->(∃j:Nat,ps[j]?=some y/\ws[j]?=some v')∨(scope.names.lookup y=some .free/\∃a o u,clos.lookup y=some a/\cs.lookup a=some o/\o.data=.cell (some u)/\RelV v' u))
  (inj:∀y z a,clos.lookup y=some a->clos.lookup z=some a->y=z) (has:∀y,scope.names.lookup y=some .free->∃a,clos.lookup y=some a)
  (ht:PE (kW X.prog X.w X.K X.mg X.base N qual scope f (.ref c) clos X.A X.stack s (bS H cs)) body t) (hq:t Z (bS H cs) λv H'=>(∀a o,cs.lookup a=some o->H' a=none)->Q v (cg H' cs)) :
  wpAny C0 X.A (call (.ref f) us) (EP X pins τ Q) X.xe s:=by
 have gc:∀a o,cs.lookup a=some o->s.heap.get? a=some o:=λa o e=>(I.hok a _ (CI a o e)).1
 refine wpAny_call (codeAny_mono (qOj (H:=bS H cs) (I.hok f _ hf).1 ⟨c,oc,vs,t0,rfl,(I.hok c _ hc).1,hd,hv⟩ hdep hh (I.env0off C CI) hk hco hgen hcell hbind hloc nd rv hlen (λi y v' h1 h2=>?_) inj has (λy a e=>?_) ht hq) λr s' h=>?_)
 ·rcases hZ i y v' h1 h2 with z|⟨z,a,o,u,e1,e2,e3,e4⟩
  ·exact .inl z
  ·exact .inr ⟨z,a,u,e1,⟨o,gc a o e2,e3⟩,e4⟩
 ·obtain⟨o,e2⟩:=hcl y a e
  obtain⟨w',e3⟩:=C a o e2
  exact⟨⟨w',o,gc a o e2,e3⟩,j7 e2⟩
 ·cases r with
  | error e=>exact h.elim
  | ok fl =>
   cases fl with
   | ret u=>exact I.after (qS3 I.hok C CI (λa o e hb=>by have:=I.stkFree a hb;rw [CI a o e] at this;cases this) h)
   | next=>exact h.elim
   | brk=>exact h.elim
   | cont=>exact h.elim
theorem qNF {CX:ic}{k:Nat}{f:Addr}{fd:FuncData}{ps:List Str}{sp:Sp}{E:XK}{us:List Value}{vs:List V}(F:FnOk X.prog X.w X.K X.mg X.base CX k f fd ps sp) (hr:Room k X.A) (hb:Binds X.K fd ps []) (hE:∀outer H s E e s',¬CX outer H s E e s')
  (I:Inv X pins τ H s) (r:Vals vs us) (C:hO cs) (n:∀a o,cs.lookup a=some o->H a=none/\s.heap.get? a=some o) (nb:∀a o,cs.lookup a=some o->X.base.get? a=none) (nf:∀a o,cs.lookup a=some o->a∉fu X.stack)
  (h:sp vs (cg H cs) (λv H'=>du H' cs->Q v (bS H' cs)) E):wpAny C0 X.A (call (.ref f) us) (EP X pins τ Q) X.xe s:=by
 have hl:us.length=ps.length:=by rw [<-r.length];exact F.len _ _ _ _ h
 have e:=I.env0
 have no:∀b,H b=none->cs.lookup b=none->cg H cs b=none:=λb m z=>by rw [dE z];exact m
 have e0:Env0 X.prog X.w X.K X.mg X.base X.A X.stack s (cg H cs):=⟨e.frames,e.mod,λb o q=>⟨(e.bs b o q).1,no b (e.bs b o q).2 (by
   cases z:cs.lookup b with
   | none=>rfl
   | some ob=>rw [nb b ob z] at q;cases q)⟩,e.bsz,e.funs,λb q=>no b (e.frf b q) (by
   cases z:cs.lookup b with
   | none=>rfl
   | some ob=>exact Qn q (nf b ob z)),e.hok.on n,e.bare⟩
 refine wpAny_call (codeAny_mono (F.run X.A X.stack s (cg H cs) ⟨us,[]⟩ us vs _ E hr e0 (by have:=hb s us I.kIn (by simpa using hl);simpa using this) r h) λr s' hq=>?_)
 cases r with
 | error e=>exact Qn hq (hE _ _ _ _ _ _)
 | ok fl =>
  cases fl with
  | ret u=>exact I.after (qQ8 C n hq)
  | next=>exact False.elim hq
  | brk=>exact False.elim hq
  | cont=>exact False.elim hq
end
end L2
namespace L2
open PySem PySem.W PySem.Calls PyProof.Rows
section
variable {X:Cx}{pins:List CA}{τ:St}{H:Hp}{s:Shared}{Q:VK}
structure CsOk (X:Cx) (τ:St) (H:Hp) (clos:List (Str×Addr)) (cs:List CA):Prop where
 cell:hO cs
 non:∀a o,cs.lookup a=some o->H a=none
 has:∀y b,clos.lookup y=some b->∃o,cs.lookup b=some o
 inj:∀y z b,clos.lookup y=some b->clos.lookup z=some b->y=z
 val:∀(i:Nat) (y:Str) (v:V) (b:Addr),X.N[i]?=some y->τ[i]?=some (some v)->jA X.env.scope y->clos.lookup y=some b->∃o u,cs.lookup b=some o/\o.data=.cell (some u)/\RelV v u
theorem uy {a b:Addr}{o:Obj}{cs:List CA}:((b,o)::cs).lookup a=if a=b then some o else cs.lookup a:=by
 rw [i9]
 by_cases e:a=b
 ·subst e;simp
 ·rw [Qm e]
  have:(a == b)=false:=by simpa using e
  rw [this]
theorem zY (I:Inv X pins τ H s):∀(clos:List (Str×Addr)),(∀p∈clos,X.env.cells.lookup p.1=some p.2)->∃cs:List CA,hO cs/\(∀a o,cs.lookup a=some o->s.heap.get? a=some o/\∃y,X.env.cells.lookup y=some a)/\∀p∈clos,∃o,cs.lookup p.2=some o
 | [],_=>⟨[],λa o e=>(nomatch e),λa o e=>(nomatch e),λp h=>(nomatch h)⟩
 | (y,b)::clos,h=>by
  obtain⟨cs,h1,h2,h3⟩:=zY I clos λp hp=>h p (bK _ hp)
  have hb:=h (y,b) bq
  obtain⟨v,o,ho,hd⟩:=I.cell y b hb
  refine⟨(b,o)::cs,λa o' e=>?_,λa o' e=>?_,λp hp=>?_⟩
  ·rw [uy] at e
   split at e
   ·cases e;exact⟨v,hd⟩
   ·exact h1 a o' e
  ·rw [uy] at e
   split at e
   ·rename_i z;cases e;subst z;exact⟨ho,y,hb⟩
   ·exact h2 a o' e
  ·rw [uy]
   split
   ·exact⟨_,rfl⟩
   ·rename_i z
    rcases yag.mp hp with e|e
    ·subst e;exact Qn rfl z
    ·exact h3 p e
theorem qOE (I:Inv X pins τ H s) {clos:List (Str×Addr)}(hc:∀p∈clos,X.env.cells.lookup p.1=some p.2) (hk:∀y b,clos.lookup y=some b->X.env.kindOf y=some .cell∨X.env.kindOf y=some .free) :
  ∃cs,CsOk X τ H clos cs/\(∀a o,cs.lookup a=some o->s.heap.get? a=some o/\H a=none)/\∀a o,cs.lookup a=some o->∃y,X.env.cells.lookup y=some a:=by
 obtain⟨cs,h1,h2,h3⟩:=zY I clos hc
 have non:∀a o,cs.lookup a=some o->H a=none:=λa o e=>by obtain⟨_,y,hy⟩:=h2 a o e;exact I.freeC y a hy
 refine⟨cs,⟨h1,non,λy b e=>h3 (y,b) (dF e),λy z b e1 e2=>I.ok.inj y z b (hc (y,b) (dF e1)) (hc (z,b) (dF e2)),λi y v b e1 e2 e3 e4=>?_⟩,λa o e=>⟨(h2 a o e).1,non a o e⟩,λa o e=>(h2 a o e).2⟩
 obtain⟨o,eo⟩:=h3 (y,b) (dF e4)
 obtain⟨m,hm,hl⟩:=I.loc
 obtain⟨u,ru,lk⟩:=hl i y v e1 e2 e3
 have hb:=hc (y,b) (dF e4)
 rcases lk with ⟨kl,_⟩|⟨kc,c,ec,o2,ho2,hd2⟩
 ·rcases hk y b e4 with z|z
  ·rw [show X.env.kindOf y=some .local from kl] at z;cases z
  ·rw [show X.env.kindOf y=some .local from kl] at z;cases z
 ·have hb:X.env.cells.lookup y=some b:=hb
  rw [hb] at ec
  cases ec
  have:=(h2 b o eo).1
  rw [ho2] at this
  cases this
  exact⟨_,u,eo,hd2,ru⟩
end
section
variable {X:Cx}{CX:ic}{k:Nat}{f P c:Addr}{fd:FuncData}{ps:List Str}{sp:Sp}{E:XK}{x:Str}{p pos lp:Pos}{ea le:Expr}{er:List Expr}{tA:TA}{la:Arguments}{lsc:Scope}{clos:List (Str×Addr)}
def qPv (X:Cx) (sp:Sp) (E:XK) (tA:TA) (la:Arguments) (le:Expr) (lsc:Scope) (clos:List (Str×Addr)) (lp:Pos) (P:Addr):TE:=fun τ H Q =>
 tA τ H λvs H2=>oR X la le lsc clos lp P τ H2 λvf H3=>∀cs,CsOk X τ H3 clos cs->sp (vs++[vf]) (cg H3 cs) (λv H'=>du H' cs->Q v (bS H' cs)) E
theorem qKz (F:FnOk X.prog X.w X.K X.mg X.base CX k f fd ps sp) (hr:Room k X.A) (hg:Gl X x) (hm:X.mg x=some (.ref f)) (hk:PySem.W.keepIn X.K (.ref f)=true) (hb:Binds X.K fd ps []) (hE:∀outer H s E e s',¬CX outer H s E e s')
  (hc:X.Ok->∀p∈clos,X.env.cells.lookup p.1=some p.2) (hkc:∀y b,clos.lookup y=some b->X.env.kindOf y=some .cell∨X.env.kindOf y=some .free) (hst:∀y,X.fn y=true)
  (hdb:(x == ("__debug__":Str))=false) (hs1:starEach (ea::er) X.env=(false,eval ea X.env)::starEach er X.env) (hpl:(backTo pos (starEach er X.env)).any (·.1)=false)
  (hp:PA X (ea::er) (fun τ H Q=>tA τ H λvs H2=>oR X la le lsc clos lp P τ H2 λvf H3=>Q (vs++[vf]) H3)) :
  PE X (.Call (.Name x p) (ea::er) [] pos) (qPv X sp E tA la le lsc clos lp P):=by
 intro pins s Z H Q I h
 refine wpAny_Call_Name_kw (tU (pos:=p) I hg hm ?_ hdb)
 refine PySem.W.callWith_K (h₀:=X.base) I.ok.mod.kin hk (aC (hp pos pins s Z H (λvs H3=>∀cs,CsOk X Z H3 clos cs->sp vs (cg H3 cs) (λv H'=>du H' cs->Q v (bS H' cs)) E) I h) λus s1 ⟨vs,H1,I1,r,q⟩=>⟨I1.kIn,?_⟩) hs1 hpl
 obtain⟨cs,ok,at0,cl⟩:=qOE I1 (hc I1.ok) hkc
 refine qNF F hr hb hE I1 r ok.cell (λa o e=>⟨(at0 a o e).2,(at0 a o e).1⟩) (λa o e=>?_) (λa o e hb=>?_) (q cs ok)
 ·obtain⟨y,hy⟩:=cl a o e
  have hge:=I1.ok.cab y a (hst y) hy
  cases z:X.base.get? a with
  | none=>rfl
  | some ob=>exact Qn (bO (Qi z) (aT I1.ok.bsz hge)) (fR _)
 ·obtain⟨y,hy⟩:=cl a o e
  have hge:=I1.ok.cab y a (hst y) hy
  have hne:=I1.cne y a hy
  rcases I1.ok.stk with z|⟨z,z2⟩
  ·rw [z] at hb
   obtain⟨_,o',ho',_⟩:=I1.ok.funs.mem hb
   exact Qn (bO (Qi ho') hge) (fR _)
  ·rw [z] at hb
   have hb:a∈fu (X.env::X.outer):=hb
   unfold fu at hb
   rw [oi,z2] at hb
   rcases yag.mp hb with q|q
   ·exact hne q
   ·obtain⟨_,o',ho',_⟩:=I1.ok.funs.mem q
    exact Qn (bO (Qi ho') hge) (fR _)
end
end L2
namespace L2
open PySem PySem.W PySem.Calls PyProof.Rows
section
variable {prog:Program}{w:World}{A:Around}{E:Value->Shared->Prop}
theorem qOB {it l:Addr}{items:Array Value}(hne:l≠it):∀(n i:Nat) (s:Shared) (Q:List Value->Shared->Prop),s.heap.IsListIter it l i->s.heap.IsList l items->i+n=items.size ->
  (∀h',h'.IsListIter it l items.size->h'.IsList l items->Heap.SameBut it s.heap h'->Q (items.toList.drop i) { s with heap:=h' })->wpAny AT A (draw (.ref it) n) Q E s:=by
 intro n
 induction n with
 | zero =>
  intro i s Q hi hl e k
  obtain rfl:i=items.size:=by omega
  have:=k s.heap hi hl (Heap.SameBut.refl ..)
  rw [List.drop_eq_nil_of_le (by rw [cJ];exact au _)] at this
  exact Qd this
 | succ n ih =>
  intro i s Q hi hl e k
  have hlt:i<items.size:=by omega
  show wpAny _ _ (pyNext (.ref it) >>= _) Q E s
  refine Qc (wpAny_pyNext_list_item hi hl (x:=items[i]) (mz hlt) λh1 hi1 sb1=>?_)
  have hl1:h1.IsList l items:=hl.extBut sb1.extBut hne
  refine Qc (wpAny_holding (ih (i+1) { s with heap:=h1 } _ hi1 hl1 AC λh2 hi2 hl2 sb2=>Qd ?_))
  have:=k h2 hi2 hl2 (sb1.trans sb2)
  rw [jH (by rw [cJ];exact hlt)] at this
  simpa using this
theorem qO9 {s:Shared}{l:Addr}{items:Array Value}{Q:List Value->Shared->Prop}(hh:A.handled=none) (hl:s.heap.IsList l items)
  (k:∀h',Heap.ExtBut s.heap.objs.size s.heap h'->Q items.toList { s with heap:=h' }):wpAny AT A (unpackItems (.ref l) items.size none) Q E s:=by
 have hlt:l≠s.heap.objs.size:=by obtain⟨o,ho,_⟩:=hl;exact bV (Qi ho)
 unfold unpackItems notIterableAtAll
 refine Qc (Qc (wpAny_specialOf hl.typeIs slot_list_iter.lookup (Qd ?_)))
 rw [Qm C2]
 refine Qc (wpAny_holding (wpAny_pyIter_list hl ?_))
 have hl0:=hl.push { cls:=.type "list_iterator",data:=.fields #[.ref l,.int 0 0] }
 refine Qc (wpAny_holding (qOB hlt items.size 0 _ _ ⟨_,Qh _ rfl,rfl,rfl⟩ hl0 AC λh1 hi1 hl1 sb1=>?_))
 rw [kN,Qm C2]
 refine Qc (wpAny_holding (wpAny_pyNext_list_end hh hi1 hl1 (Array.getElem?_eq_none (au _)) λh2 eb=>?_))
 rw [Qm C2]
 exact Qd (k h2 λb o hb e=>eb b o hb (sb1.extBut b o hb (Qg _ e)))
end
section
variable {X:Cx}{pos:Pos}
noncomputable def qT5 (K:Qb) (n:Nat) (t:iK):TG:=λv Z H Q=>∃a xs,v=.ref a/\SqL K H a xs/\xs.length=n/\t xs Z H Q
theorem xm {es:List Expr}{k:Nat}{t:iK}{n:Nat}(hc:X.calm=true) (h:md X es t) (hn:(assignEach es X.env).length=n) (hst:(assignEach es X.env).findIdx? (·.1)=none):PG X (.Tuple es k pos) (qT5 X.K n t):=by
 intro pins s Z H v u Q I r hw
 obtain⟨a,xs,e1,hq,hl,hw⟩:=hw
 subst e1
 cases r
 obtain⟨its,rv,ht,hz⟩:=I.list hq
 rw [assign_Tuple]
 refine Qc (wpAny_standAt ?_)
 unfold unpack
 rw [hst,show (assignEach es X.env).length=its.toArray.size by rw [hn,<-hl,rv.length,aO]]
 refine Qc (wpAny_holding (qO9 (I.ok.hd hc) ht.isList λh' hx=>?_))
 have I1:Inv X pins Z H { s with heap:=h' }:=I.kept (t':=s.toks) λb o e=>hx b o (bV (Qi e)) e
 exact h pins _ Z H xs _ Q I1 (by simpa using rv) hw
end
end L2
namespace Dw
open PySem L2
structure LamD where
 la:Arguments
 e:Expr
 sc:Scope
 pos:Pos
 q:Str
 P:Addr
noncomputable def lamL:LamD:=⟨⟨[],[⟨"told",none,⟨104,37,104,41⟩⟩,⟨"other",none,⟨104,43,104,48⟩⟩],none,[],[],none,[]⟩,.Call (.Name "pairs_word" ⟨104,50,104,60⟩) [.Name "told" ⟨104,61,104,65⟩,.Name "other" ⟨104,67,104,72⟩,.Name "far" ⟨104,74,104,77⟩,.Name "beat" ⟨104,79,104,83⟩] [] ⟨104,50,104,84⟩,{ kind:=.function,names:=[("told",.local),("other",.local),("beat",.free),("far",.free),("pairs_word",.globalImplicit)],isGenerator:=false,isCoroutine:=false,more:=[] },⟨104,30,104,84⟩,"near_pairs.<locals>.<lambda>",188⟩
def lamX:List (Nat×LamD):=[(48,lamL)]
def tbs:List (Addr×Pos×Str):=lamX.map λp=>(p.2.P,p.2.pos,p.2.q)
def TB (H:Hp):Prop:=∀t∈tbs,H t.1=some (.tab t.2.1 t.2.2)
theorem TB.same {H H':Hp}(h:TB H) (s:Same H H'):TB H':=λt m=>s _ _ (h t m)
end Dw
namespace Dw
open PySem PySem.Spec PyProof.Rows L2
def kC (lo st:Int) (n:Nat):It:={ go:=λi _=>i<n,yld:=λi H x H'=>H'=H/\x=V.int (lo+(i:Nat) * st),stop:=λi _=>n<=i }
theorem yg (a b c:Int):Builtin.Range.rangeSize a b c=fW a b c:=rfl
theorem yf (a b c:Int) (h:c≠0):0<=fW a b c/\fW a b c<=(b - a).natAbs:=by
 unfold fW
 split
 ·split
  ·have h1:0<=(b - a - 1) / c:=oa AC AC
   have h2:(b - a - 1) / c<=b - a - 1:=Int.ediv_le_self _ AC
   omega
  ·omega
 ·split
  ·have h1:0<=(a - b - 1) / -c:=oa AC AC
   have h2:(a - b - 1) / -c<=a - b - 1:=Int.ediv_le_self _ AC
   omega
  ·omega
theorem qHZ (h1:-(2^62)<=a) (h2:a<2^62) (h3:-(2^62)<=b) (h4:b<2^62) (h5:c≠0) (h6:c.natAbs<2^30):Builtin.Range.small a b c=true:=by
 have hb:=yf a b c h5
 unfold Builtin.Range.small
 rw [yg]
 generalize fW a b c=z at hb
 have f:∀x:Int,-(2^63)<=x->x<2^63->Builtin.Range.rangeFitsLong x=true:=by
  intro x p q
  simp [Builtin.Range.rangeFitsLong];omega
 rw [f a AC AC,f b AC AC,f c AC AC,f z AC AC]
 simp only [Bool.true_and,eN]
 right
 split
 ·exact f _ AC AC
 ·exact f _ AC AC
theorem Aq {K:Qb}{tg:Expr}(j:Addr) (lo st:Int) (n:Nat):Turn P w K tg (kC lo st n) [j] j (λi h=>IsRangeIter h j (lo+(i:Nat) * st) ((n:Int) - (i:Nat)) st) where
 mem:=by simp
 obj:=λi h y b hb=>by
  have e:b=j:=by simpa using hb
  subst e
  exact⟨_,y,λv z=>by
   have z':Data.fields _=Data.cell v:=z
   cases z'⟩
 keep:=λi h h' y k=>k j C2 _ y
 item:=by
  intro X hP hw hK hc i pins s Z H E I hf y hg
  subst hP hw hK
  obtain⟨u0,u1,u2,u3,u4,u5⟩:=hf j C2
  have W:=Walks.range (prog:=X.prog) (w:=X.w) (I.ok.hd hc) j lo st n
  refine W.item i s _ _ hg y λv h' tk hv y' kk=>?_
  obtain⟨t,rfl⟩:=hv
  have J:Inv X pins Z H { s with heap:=h',toks:=tk }:=I.turned (λb o hb e=>kk b o (by simpa using hb) e) u0 u1 u3 u4 u5
  exact⟨_,rfl,mS (s:={ s with heap:=h',toks:=tk }) (n:="range_iterator") y' rfl rfl (by decide) ⟨.int (lo+i * st),H,J,⟨t,rfl⟩,⟨rfl,rfl⟩,y',λb hb=>(hf b hb).1⟩⟩
 done:=by
  intro X hP hw hK hc i pins s Z H E I hf y hg
  subst hP hw hK
  obtain⟨u0,u1,u2,u3,u4,u5⟩:=hf j C2
  exact wpAny_pyNext_range_end (I.ok.hd hc) y (by have:n<=i:=hg;omega) λh' eb=>⟨rfl,I.turned (t':=s.toks) (λb o hb e=>eb b o hb e) u0 u1 u3 u4 u5⟩
 self:=λ_ _ _ _ _ y h=>wpAny_pyIter_rangeiter y h
section
variable {X:Cx}{tg:Expr}
theorem qPx {R:It->Hp->Prop}{E:Value->Shared->Prop}{lo hi st:Int}{t u v:Tok}{tk:Nat}(I:L2.Inv X pins Z H s) (h1:-(2^62)<=lo) (h2:lo<2^62) (h3:-(2^62)<=hi) (h4:hi<2^62) (h5:st≠0) (h6:st.natAbs<2^30)
  (q:R (kC lo st (fW lo hi st).toNat) H):wpAny C0 X.A (pyIter (.ref s.heap.objs.size)) (qR X pins Z tg R) E { s with heap:=s.heap.push { cls:=.type "range",data:=.fields #[.int lo t,.int hi u,.int st v] },toks:=tk }:=by
 refine wpAny_pyIter_range (IsRange.new ..) (qHZ h1 h2 h3 h4 h5 h6) ?_
 have J:Inv X pins Z H { s with heap:=s.heap.push { cls:=.type "range",data:=.fields #[.int lo t,.int hi u,.int st v] },toks:=tk }:=I.kept λb o e=>Qg _ e
 refine⟨(s.heap.push { cls:=.type "range",data:=.fields #[.int lo t,.int hi u,.int st v] }).objs.size,[(s.heap.push { cls:=.type "range",data:=.fields #[.int lo t,.int hi u,.int st v] }).objs.size],_,_,H,rfl,
  J.kept (t':=tk) λb o e=>Qg _ e,Aq _ lo st (fW lo hi st).toNat,?_,λb hb=>?_,q⟩
 ·have e1:lo+((0:Nat):Int) * st=lo:=by simp
  have e2:(((fW lo hi st).toNat:Nat):Int) - ((0:Nat):Int)=Builtin.Range.rangeSize lo hi st:=by
   have:=yf lo hi st h5
   rw [yg];omega
  show IsRangeIter _ _ (lo+((0:Nat):Int) * st) ((((fW lo hi st).toNat:Nat):Int) - ((0:Nat):Int)) st
  rw [e1,e2]
  exact Qh _ rfl
 ·have e:b=(s.heap.push { cls:=.type "range",data:=.fields #[.int lo t,.int hi u,.int st v] }).objs.size:=by simpa using hb
  subst e
  exact J.fpOk (au _) (J.hok.fresh (au _))
def qSH (ta:TA):TI:=fun Z H R=>ta Z H λvs H1=>∃i j c:Int,vs=[.int i,.int j,.int c]/\(-(2^62)<=i/\i<2^62/\-(2^62)<=j/\j<2^62/\c≠0/\c.natAbs<2^30)/\R (kC i c (fW i j c).toNat) H1
theorem qIi (x y:Int) (h:y.natAbs<2^30):Builtin.divisionGoesByPylong x y=false:=by
 unfold Builtin.divisionGoesByPylong
 simp only [Bool.and_eq_false_iff,decide_eq_false_iff_not]
 left
 split
 ·decide
 ·have:y.natAbs.log2<30:=by
   by_cases h0:y.natAbs=0
   ·rw [h0];decide
   ·exact (nW h0).mpr h
  omega
theorem qH9 {ta:TA}{p pos:Pos}(hg:Gl X "range") (hm:X.mg "range"=none) (ha:PA X [a,b,c] ta) (hs:starEach [a,b,c] X.env=[(false,eval a X.env),(false,eval b X.env),(false,eval c X.env)]) (hs2:starEach [b,c] X.env=[(false,eval b X.env),(false,eval c X.env)]) :
  PI X tg (.Call (.Name "range" p) [a,b,c] [] pos) (qSH ta):=by
 intro pins s Z H R I h
 refine Call_ (iA I hg hm boot_range (jb (aC (ha pos pins s Z H _ I h) λus s1 ⟨vs,H1,J,r1,q1⟩=>?_) (by rw [hs,hs2]) (by rw [hs2];rfl)))
 obtain⟨i,j,k,e,⟨q1,q2,q3,q4,q5,q6⟩,q⟩:=q1
 subst e
 cases r1 with
 | cons r rr =>
  cases rr with
  | cons r' rr =>
   cases rr with
   | cons r'' rr =>
    cases rr
    obtain⟨t,rfl⟩:=r
    obtain⟨t',rfl⟩:=r'
    obtain⟨t'',rfl⟩:=r''
    exact call_range_3 q5 (qPx J q1 q2 q3 q4 q5 q6 q) (.inl (qIi _ _ q6))
end
end Dw
namespace Dw
open PySem PySem.Spec PyProof.Rows L2 HT
section
variable {prog:Program}{w:World}{A:Around}{E:Value->Shared->Prop}{s:Shared}
theorem qIT (ht:IsTup s.heap t items) (h:Q true s):wpAny AT A (Builtin.Tuple.tupleIsExact (.ref t)) Q E s:=by
 unfold Builtin.Tuple.tupleIsExact
 exact Qc (wpAny_typeOf ht.typeIs (Qd h))
theorem qHw {vl vu:Value}{lo hi:Option Int}{Q:Value->Shared->Prop}(ht:IsTup s.heap t items) (hs:s.heap.IsSliceOf sl vl vu .none) (pl:IsPart vl lo) (pu:IsPart vu hi)
  (hw:sIx items.size 0 lo=0/\sIx items.size items.size hi=items.size) (h:Q (.ref t) s):wpAny AT A (getItem (.ref t) (.ref sl)) Q E s:=by
 obtain⟨os,hos,hcs,hds⟩:=id hs
 have hTs:s.TypeIs (.ref sl) "slice":=⟨os,hos,hcs⟩
 unfold getItem
 try with_reducible refine wpAny_holding ?_
 first|refine Qc (Qd ?_)|skip
 refine Qc (wpAny_sequenceKey ht.typeIs At ?_)
 refine Qc (wpAny_callSpecial?_slot (name:=Qa "__getitem__") ht.typeIs yaP
  (wpAny_call_entry yaP ht.typeIs entry_tuple_getitem ?_ (args_tuple_getitem _ _)))
 show wpAny _ _ (Builtin.Tuple.tupleItemsOf (.ref t) >>= _) _ _ s
 refine Qc (tupleItemsOf_ ht (Qc (wpAny_typeOf hTs ?_)))
 rw [Ql At]
 refine Qc (Bm hs pl pu ?_)
 have yes:(((sIx items.size 0 lo:Nat):Int) == 0&&(1:Int) == 1&&(sIx items.size items.size hi - sIx items.size 0 lo) == items.size)=true:=by
  rw [hw.1,hw.2];simp
 show wpAny _ _ (if (((sIx items.size 0 lo:Nat):Int) == 0&&(1:Int) == 1&&(sIx items.size items.size hi - sIx items.size 0 lo) == items.size)=true then _ else _) _ _ s
 rw [Ql yes]
 refine Qc (qIT ht ?_)
 rw [Ql rfl]
 refine Qc (wpAny_rule ?_)
 first
  | exact Qc (Qd (Qd ⟨_,rfl,Qd h⟩))
  | exact Qc (Qd ⟨_,rfl,Qd h⟩)
  | exact Qd ⟨_,rfl,Qd h⟩
end
section
variable {X:Cx}
def qTQ (K:Qb):V->Option Int->Option Int->Hp->VK->Prop:=λx lo hi H Q=>∃a xs,x=.ref a/\SqT K H a xs/\(HT.sIx xs.length 0 lo=0/\HT.sIx xs.length xs.length hi=xs.length)/\Q (.ref a) H
theorem qPI:SlR X (qTQ X.K):=by
 intro pins s Z H x v vl vu lo hi sl Q I rx hs pl pu h
 obtain⟨a,xs,rfl,hx,hw,q⟩:=h
 cases rx
 obtain⟨its,r,ht,hz⟩:=I.tuple hx
 have hlen:its.toArray.size=xs.length:=by rw [aO];exact r.length.symm
 exact⟨"tuple",_,yaP.lookup,ht.typeIs,qHw ht hs pl pu (by rw [hlen];exact hw) ⟨.ref a,H,I,rfl,q⟩⟩
theorem qOG (ht:IsTup s.heap t #[]) (hb:IsTup s.heap b ws) (h:Q (.ref b) s):wpAny AT A (binaryOp .Add (.ref t) (.ref b)) Q E s:=by
 obtain⟨⟨cls,dd,data,sl⟩,ho,hc,n,hd⟩:=id ht
 obtain⟨⟨cls2,dd2,data2,sl2⟩,ho2,hc2,n2,hd2⟩:=id hb
 simp only at hc hd hc2 hd2
 subst hc hd hc2 hd2
 exact concat_meets ⟨_,ho,rfl⟩ ⟨_,ho2,rfl⟩ noFill_tuple_add seq_tuple_add ro rq (rA _ _) (tuple_addW0 t b #[] ws n n2 dd dd2 sl sl2 rfl) ⟨ho,ho2,h⟩
theorem op_catN:OpR X (binaryOp .Add) (λx y H Q=>∃a b ys,x=.ref a/\y=.ref b/\SqT X.K H a []/\SqT X.K H b ys/\Q (.ref b) H):=by
 intro pins s Z H x y v u Q I rx ry h
 obtain⟨a,b,ys,rfl,rfl,ha,hb,q⟩:=h
 cases rx
 cases ry
 obtain⟨its,r1,p1,_⟩:=I.tuple ha
 obtain⟨its2,r2,p2,_⟩:=I.tuple hb
 cases r1
 exact qOG p1 p2 ⟨.ref b,H,I,rfl,q⟩
end
end Dw
namespace Dw
open PySem PySem.Spec PyProof.Rows L2
theorem qJX {K:Qb}{tg:Expr}(j:Addr) (lo st:Int) (n:Nat):Turn P w K tg (kC lo st n) [j] j (λi h=>IsLongIter h j (lo+(i:Nat) * st) ((n:Int) - (i:Nat)) st) where
 mem:=by simp
 obj:=λi h y b hb=>by
  have e:b=j:=by simpa using hb
  subst e
  exact⟨_,y,λv z=>by
   have z':Data.fields _=Data.cell v:=z
   cases z'⟩
 keep:=λi h h' y k=>k j C2 _ y
 item:=by
  intro X hP hw hK hc i pins s Z H E I hf y hg
  subst hP hw hK
  obtain⟨u0,u1,u2,u3,u4,u5⟩:=hf j C2
  have W:=Walks.longrange (prog:=X.prog) (w:=X.w) (I.ok.hd hc) j lo st n
  refine W.item i s _ _ hg y λv h' tk hv y' kk=>?_
  obtain⟨t,rfl⟩:=hv
  have J:Inv X pins Z H { s with heap:=h',toks:=tk }:=I.turned (λb o hb e=>kk b o (by simpa using hb) e) u0 u1 u3 u4 u5
  exact⟨_,rfl,mS (s:={ s with heap:=h',toks:=tk }) (n:="longrange_iterator") y' rfl rfl (by decide) ⟨.int (lo+i * st),H,J,⟨t,rfl⟩,⟨rfl,rfl⟩,y',λb hb=>(hf b hb).1⟩⟩
 done:=by
  intro X hP hw hK hc i pins s Z H E I hf y hg
  subst hP hw hK
  obtain⟨u0,u1,u2,u3,u4,u5⟩:=hf j C2
  exact wpAny_pyNext_long_end (I.ok.hd hc) y (by have:n<=i:=hg;omega) λh' eb=>⟨rfl,I.turned (t':=s.toks) (λb o hb e=>eb b o hb e) u0 u1 u3 u4 u5⟩
 self:=λ_ _ _ _ _ y h=>wpAny_pyIter_longiter y h
section
variable {X:Cx}{tg:Expr}
theorem qQC {R:It->Hp->Prop}{E:Value->Shared->Prop}{lo hi:Int}{t u v:Tok}{tk:Nat}(I:L2.Inv X pins Z H s)
  (q:R (kC lo 1 (hi - lo).toNat) H):wpAny C0 X.A (pyIter (.ref s.heap.objs.size)) (qR X pins Z tg R) E { s with heap:=s.heap.push { cls:=.type "range",data:=.fields #[.int lo t,.int hi u,.int 1 v] },toks:=tk }:=by
 have J:Inv X pins Z H { s with heap:=s.heap.push { cls:=.type "range",data:=.fields #[.int lo t,.int hi u,.int 1 v] },toks:=tk }:=I.kept λb o e=>Qg _ e
 have e1:lo+((0:Nat):Int) * 1=lo:=by simp
 have e2:(((hi - lo).toNat:Nat):Int) - ((0:Nat):Int)=Builtin.Range.rangeSize lo hi 1:=by rw [rangeSize_one];split<;>omega
 have fp:∀b∈[(s.heap.push { cls:=.type "range",data:=.fields #[.int lo t,.int hi u,.int 1 v] }).objs.size],d6 X pins H b:=λb hb=>by
  have e:b=(s.heap.push { cls:=.type "range",data:=.fields #[.int lo t,.int hi u,.int 1 v] }).objs.size:=by simpa using hb
  subst e
  exact J.fpOk (au _) (J.hok.fresh (au _))
 cases hsm:Builtin.Range.small lo hi 1 with
 | true =>
  refine wpAny_pyIter_range (IsRange.new ..) hsm ⟨_,[(s.heap.push { cls:=.type "range",data:=.fields #[.int lo t,.int hi u,.int 1 v] }).objs.size],_,_,H,rfl,J.kept (t':=tk) λb o e=>Qg _ e,Aq _ lo 1 (hi - lo).toNat,?_,fp,q⟩
  show IsRangeIter _ _ (lo+((0:Nat):Int) * 1) ((((hi - lo).toNat:Nat):Int) - ((0:Nat):Int)) 1
  rw [e1,e2]
  exact Qh _ rfl
 | false =>
  refine wpAny_pyIter_longrange (IsRange.new ..) hsm ⟨_,[(s.heap.push { cls:=.type "range",data:=.fields #[.int lo t,.int hi u,.int 1 v] }).objs.size],_,_,H,rfl,J.kept (t':=tk) λb o e=>Qg _ e,qJX _ lo 1 (hi - lo).toNat,?_,fp,q⟩
  show IsLongIter _ _ (lo+((0:Nat):Int) * 1) ((((hi - lo).toNat:Nat):Int) - ((0:Nat):Int)) 1
  rw [e1,e2]
  exact Qh _ rfl
def qSG (ta:TA):TI:=fun Z H R=>ta Z H λvs H1=>∃i j:Int,vs=[.int i,.int j]/\R (kC i 1 (j - i).toNat) H1
theorem qH8 (hg:Gl X "range") (hm:X.mg "range"=none) (ha:PA X [a,b] ta) (hs:starEach [a,b] X.env=[(false,eval a X.env),(false,eval b X.env)]) (hs2:starEach [b] X.env=[(false,eval b X.env)]) :
  PI X tg (.Call (.Name "range" p) [a,b] [] pos) (qSG ta):=by
 intro pins s Z H R I h
 refine Call_ (iA I hg hm boot_range (jb (aC (ha pos pins s Z H _ I h) λus s1 ⟨vs,H1,I1,r1,q1⟩=>?_) (by rw [hs,hs2]) (by rw [hs2];rfl)))
 obtain⟨i,j,e,q⟩:=q1
 subst e
 cases r1 with
 | cons r rr =>
  cases rr with
  | cons r' rr =>
   cases rr
   obtain⟨t,rfl⟩:=r
   obtain⟨t',rfl⟩:=r'
   exact call_range_2 (qQC I1 q)
theorem Ak:∀{xs ys:List Int},xs.Perm ys->xs.Pairwise (·<=·)->ys.Pairwise (·<=·)->xs=ys
 | [],ys,h,_,_=>h.nil_eq
 | x::xs,[],h,_,_=>Qn h.length_eq C2
 | x::xs,y::ys,h,h1,h2=>by
  have a1:x∈y::ys:=h.subset bq
  have a2:y∈x::xs:=h.symm.subset bq
  have b1:y<=x:=(yag.mp a1).elim (λe=>by omega) λm=>(ybo.mp h2).1 x m
  have b2:x<=y:=(yag.mp a2).elim (λe=>by omega) λm=>(ybo.mp h1).1 y m
  have e:x=y:=by omega
  subst e
  rw [Ak (List.perm_cons _ |>.mp h) (ybo.mp h1).2 (ybo.mp h2).2]
end
end Dw
namespace Dw
open PySem PySem.Spec PyProof.Rows L2
abbrev Fz:=Addr->Prop
def qUb (K:Qb) (a:Addr) (xs:List V):Prop:=
 ∃(o:Obj) (its:Array Value) (n:Nat),K.lookup a=some o/\o.cls=.type "list"/\o.dict=none/\o.data=.seq its n/\its.size<=sizeLine/\Vals xs its.toList
def LsR (K:Qb) (H:Hp) (F:Fz) (a:Addr) (xs:List V):Prop:=(F a/\Rd H a (.lst xs))∨qUb K a xs
theorem LsR.sq {K:Qb}{H:Hp}{F:Fz}{a:Addr}{xs:List V}(h:LsR K H F a xs):SqL K H a xs:=h.elim (λh=>.inl h.2) .inr
noncomputable def dk (ks:List Int):List (dS×V):=ks.map λk=>(Sum.inl k,V.bl true)
@[simp] noncomputable def jM:D->Bool
 | .dct _ _=>true
 | _=>false
def InsR (K:Qb) (H:Hp) (a:Addr) (kn:Kn) (vs:List V):Prop:=
 ∃(dx:Addr) (fs:List (Str×V)),H a=some (.ins kn.c dx fs)/\Cls K kn.c/\(∀(j:Nat) (f:Str),kn.ns[j]?=some f->qRw K kn.c f/\∃u,fs.lookup f=some u/\vs[j]?=some u)/\∀g,g∉kn.ns->fs.lookup g=none
def CloR (H:Hp) (a:Addr) (kn:Kn) (vs:List V):Prop:=
 kn.ns=[]/\∃(L:LamD) (clos:List (Str×Addr)) (pm ctv:Value) (c:Addr) (uf:HO) (oc:Obj) (uc:HO) (fs:Array Value) (t:Tok) (cs:List CA),
  lamX.lookup (kn.c - CL)=some L/\H a=some (.frz (PySem.W.kla_obj "<lambda>" L.q L.la L.e L.sc clos pm c ctv) uf)/\H c=some (.frz oc uc)/\oc.data=.fields fs/\fs[1]?=some (.str L.q t) /\
  hO cs/\du H cs/\(∀y b,clos.lookup y=some b->∃o,cs.lookup b=some o)/\(∀y z b,clos.lookup y=some b->clos.lookup z=some b->y=z)/\(∀y,L.sc.names.lookup y=some .free->∃b,clos.lookup y=some b) /\
  vs.length=(aF L.sc).length/\∀(i:Nat) (y:Str) (v:V),(aF L.sc)[i]?=some y->vs[i]?=some v->∃b o u,clos.lookup y=some b/\cs.lookup b=some o/\o.data=.cell (some u)/\RelV v u
def ObjR (K:Qb) (H:Hp) (a:Addr) (kn:Kn) (vs:List V):Prop:=if CL<=kn.c then CloR H a kn vs else InsR K H a kn vs
mutual
def RD (K:Qb) (H:Hp) (F:Fz):D->V->Prop
 | .non,v=>v=.non
 | .bl b,v=>v=.bl b
 | .int i,v=>v=.int i
 | .str x,v=>v=.str x
 | .tup ds,v=>∃a vs,v=.ref a/\SqT K H a vs/\RDs K H F ds vs
 | .lst ds,v=>∃a vs,v=.ref a/\LsR K H F a vs/\RDs K H F ds vs
 | .dct _ _,_=>False
 | .obj kn ds,v=>∃a vs,v=.ref a/\ObjR K H a kn vs/\RDs K H F ds vs
def RDs (K:Qb) (H:Hp) (F:Fz):List D->List V->Prop
 | [],vs=>vs=[]
 | d::ds,vs=>∃v r,vs=v::r/\RD K H F d v/\RDs K H F ds r
end
structure Keep (H:Hp) (F:Fz) (H':Hp) (F':Fz):Prop where
 tups:∀a xs,Rd H a Ci->Rd H' a Ci
 lsts:∀a xs,F a->Rd H a (.lst xs)->F' a/\Rd H' a (.lst xs)
 inss:∀a C dx fs,H a=some (.ins C dx fs)->H' a=some (.ins C dx fs)
 frzs:∀a o u,H a=some (.frz o u)->H' a=some (.frz o u)
theorem InsR.mono {K:Qb}{H H':Hp}{a:Addr}{kn:Kn}{vs:List V}(k:∀a C dx fs,H a=some (.ins C dx fs)->H' a=some (.ins C dx fs)):InsR K H a kn vs->InsR K H' a kn vs:=
 λ⟨dx,fs,h1,h2⟩=>⟨dx,fs,k _ _ _ _ h1,h2⟩
theorem CloR.mono {H H':Hp}{a:Addr}{kn:Kn}{vs:List V}(k:∀a o u,H a=some (.frz o u)->H' a=some (.frz o u)):CloR H a kn vs->CloR H' a kn vs:=
 λ⟨n,L,clos,pm,ctv,c,uf,oc,uc,fs,t,cs,h1,h2,h3,h4,h5,h6,h7,h8⟩=>⟨n,L,clos,pm,ctv,c,uf,oc,uc,fs,t,cs,h1,k _ _ _ h2,k _ _ _ h3,h4,h5,h6,λb o e=>k _ _ _ (h7 b o e),h8⟩
theorem ObjR.mono {K:Qb}{H H':Hp}{a:Addr}{kn:Kn}{vs:List V}(k:∀a C dx fs,H a=some (.ins C dx fs)->H' a=some (.ins C dx fs)) (k2:∀a o u,H a=some (.frz o u)->H' a=some (.frz o u)) (h:ObjR K H a kn vs):ObjR K H' a kn vs:=by
 unfold ObjR at h ⊢
 split
 ·rename_i z;rw [Ql z] at h;exact h.mono k2
 ·rename_i z;rw [Qm z] at h;exact h.mono k
theorem ObjR.ins {K:Qb}{H:Hp}{a:Addr}{kn:Kn}{vs:List V}(h:ObjR K H a kn vs) (n:kn.c<CL):InsR K H a kn vs:=by
 unfold ObjR at h;rwa [Qm (Nat.not_le.mpr n)] at h
theorem ObjR.of {K:Qb}{H:Hp}{a:Addr}{kn:Kn}{vs:List V}(n:kn.c<CL) (h:InsR K H a kn vs):ObjR K H a kn vs:=by
 unfold ObjR;rwa [Qm (Nat.not_le.mpr n)]
section
variable {K:Qb}{H H' H'':Hp}{F F' F'':Fz}
mutual
theorem RD.mono (k:Keep H F H' F'):∀{d:D}{v:V},RD K H F d v->RD K H' F' d v
 | .non,_,h=>h
 | .bl _,_,h=>h
 | .int _,_,h=>h
 | .str _,_,h=>h
 | .tup ds,v,h=>by
  simp only [RD] at h ⊢
  obtain⟨a,vs,e,hs,hr⟩:=h
  exact⟨a,vs,e,hs.elim (λz=>.inl (k.tups _ _ z)) .inr,RDs.mono k hr⟩
 | .lst ds,v,h=>by
  simp only [RD] at h ⊢
  obtain⟨a,vs,e,hs,hr⟩:=h
  exact⟨a,vs,e,hs.elim (λz=>.inl (k.lsts _ _ z.1 z.2)) .inr,RDs.mono k hr⟩
 | .dct _ _,_,h=>by simp only [RD] at h
 | .obj kn ds,v,h=>by
  simp only [RD] at h ⊢
  obtain⟨a,vs,e,hs,hr⟩:=h
  exact⟨a,vs,e,hs.mono k.inss k.frzs,RDs.mono k hr⟩
theorem RDs.mono (k:Keep H F H' F'):∀{ds:List D}{vs:List V},RDs K H F ds vs->RDs K H' F' ds vs
 | [],_,h=>h
 | d::ds,vs,h=>by
  simp only [RDs] at h ⊢
  obtain⟨v,r,e,h1,h2⟩:=h
  exact⟨v,r,e,RD.mono k h1,RDs.mono k h2⟩
end
theorem RDs.length:∀{ds:List D}{vs:List V},RDs K H F ds vs->vs.length=ds.length
 | [],_,h=>by simp only [RDs] at h;subst h;rfl
 | d::ds,vs,h=>by
  simp only [RDs] at h
  obtain⟨v,r,rfl,_,h2⟩:=h
  simp [RDs.length h2]
theorem RDs.get:∀{ds:List D}{vs:List V}{i:Nat}{d:D},RDs K H F ds vs->ds[i]?=some d->∃v,vs[i]?=some v/\RD K H F d v
 | [],_,_,_,_,e=>by simp at e
 | x::ds,vs,i,d,h,e=>by
  simp only [RDs] at h
  obtain⟨v,r,rfl,h1,h2⟩:=h
  cases i with
  | zero=>simp at e;subst e;exact⟨v,rfl,h1⟩
  | succ i=>simp at e;obtain⟨w,e1,e2⟩:=RDs.get h2 e;exact⟨w,by simpa using e1,e2⟩
theorem RDs.append:∀{ds es:List D}{vs ws:List V},RDs K H F ds vs->RDs K H F es ws->RDs K H F (ds++es) (vs++ws)
 | [],_,_,_,h,h'=>by simp only [RDs] at h;subst h;exact h'
 | d::ds,es,vs,ws,h,h'=>by
  simp only [RDs] at h
  obtain⟨v,r,rfl,h1,h2⟩:=h
  exact⟨v,r++ws,rfl,h1,RDs.append h2 h'⟩
theorem RDs.take:∀{ds:List D}{vs:List V}(n:Nat),RDs K H F ds vs->RDs K H F (ds.take n) (vs.take n)
 | _,_,0,_=>by simp [RDs]
 | [],_,n+1,h=>by simp only [RDs] at h;subst h;simp [RDs]
 | d::ds,vs,n+1,h=>by
  simp only [RDs] at h
  obtain⟨v,r,rfl,h1,h2⟩:=h
  exact⟨v,r.take n,rfl,h1,RDs.take n h2⟩
theorem RDs.drop:∀{ds:List D}{vs:List V}(n:Nat),RDs K H F ds vs->RDs K H F (ds.drop n) (vs.drop n)
 | _,_,0,h=>by simpa using h
 | [],_,n+1,h=>by simp only [RDs] at h;subst h;simp [RDs]
 | d::ds,vs,n+1,h=>by
  simp only [RDs] at h
  obtain⟨v,r,rfl,h1,h2⟩:=h
  simpa using RDs.drop n h2
theorem RDs.rep (h:RDs K H F ds vs):∀n:Nat,RDs K H F (List.replicate n ds).flatten (List.replicate n vs).flatten
 | 0=>by simp [RDs]
 | n+1=>by simpa [kG] using RDs.append h (RDs.rep h n)
theorem RDs.ints:∀{ds:List D}{vs:List V}{is:List Int},RDs K H F ds vs->eH ds=some is->vs=is.map V.int
 | [],_,_,h,e=>by simp only [RDs] at h;subst h;simp at e;subst e;rfl
 | d::ds,vs,is,h,e=>by
  simp only [RDs] at h
  obtain⟨v,r,rfl,h1,h2⟩:=h
  cases d with
  | int i =>
   cases q:eH ds with
   | none=>simp [q] at e
   | some js =>
    simp [q] at e
    subst e
    have h1':v=.int i:=h1
    rw [h1',RDs.ints h2 q];rfl
  | _=>simp at e
theorem RDs.of_ints (is:List Int):RDs K H F (is.map .int) (is.map V.int):=by
 induction is with
 | nil=>simp [RDs]
 | cons i r ih=>exact⟨_,_,rfl,rfl,ih⟩
end
structure Gr (H:Hp) (F:Fz) (H':Hp) (F':Fz):Prop where
 same:Same H H'
 sub:∀a,F a->F' a
 new:∀a,F' a->F a∨H a=none
 dom:∀a,H' a=none->¬F' a
section
variable {K:Qb}{H H1 H2:Hp}{F F1 F2:Fz}
theorem tu (s:Same H H1) (h:Rd H a u):Rd H1 a u:=h.elim (λz=>.inl (s _ _ z)) λ⟨o,z⟩=>.inr ⟨o,s _ _ z⟩
theorem Gr.keep (g:Gr H F H1 F1):Keep H F H1 F1:=⟨λ_ _ h=>tu g.same h,λ_ _ f h=>⟨g.sub _ f,tu g.same h⟩,λ_ _ _ _ h=>g.same _ _ h,λ_ _ _ h=>g.same _ _ h⟩
theorem Gr.refl (d:∀a,H a=none->¬F a):Gr H F H F:=⟨Same.refl H,λ_ h=>h,λ_ h=>.inl h,d⟩
theorem Gr.trans (g:Gr H F H1 F1) (g':Gr H1 F1 H2 F2):Gr H F H2 F2:=
 ⟨g.same.trans g'.same,λa h=>g'.sub a (g.sub a h),λa h=>(g'.new a h).elim (λz=>g.new a z) λz=>.inr (g.same.free z),g'.dom⟩
theorem Gr.laid (d:∀a,H a=none->¬F a) (hp:H p=none):Gr H F (aB H p o) F:=
 ⟨λb u q=>by rw [aD (cG q hp)];exact q,λ_ h=>h,λ_ h=>.inl h,λa e=>by
  by_cases z:a=p
  ·subst z;exact d a hp
  ·rw [aD z] at e;exact d a e⟩
theorem Gr.fz (g:Gr H F H1 F1) (hp:H p=none) (h1:H1 p=some o):Gr H F H1 (λa=>a=p∨F1 a):=
 ⟨g.same,λa h=>.inr (g.sub a h),λa h=>h.elim (λz=>.inr (z▸hp)) (λz=>g.new a z),λa e h=>h.elim (λz=>by subst z;rw [h1] at e;cases e) (g.dom a e)⟩
def RR (K:Qb) (H H':Hp) (F':Fz):R->V->Prop
 | (false,d),v=>RD K H' F' d v
 | (true,d),v=>∃a ds vs,d=.lst ds/\v=.ref a/\H a=none/\¬F' a/\H' a=some (.lst vs)/\RDs K H' F' ds vs
def RP (K:Qb) (H:Hp) (F:Fz) (d:D) (v:V):Prop:=
 RD K H F d v∨∃a ds vs,d=.lst ds/\v=.ref a/\H a=some (.lst vs)/\RDs K H F ds vs
theorem RR.back (h:RR K H H1 F1 r v) (s:Same H0 H):RR K H0 H1 F1 r v:=by
 obtain⟨b,d⟩:=r
 cases b with
 | false=>exact h
 | true =>
  obtain⟨a,ds,vs,e1,e2,e3,e⟩:=h
  exact⟨a,ds,vs,e1,e2,s.free e3,e⟩
theorem RR.look (h:RR K H H1 F1 r v):RP K H1 F1 r.2 v:=by
 obtain⟨b,d⟩:=r
 cases b with
 | false=>exact .inl h
 | true =>
  obtain⟨a,ds,vs,e1,e2,e3,e4,e5,e6⟩:=h
  exact .inr ⟨a,ds,vs,e1,e2,e5,e6⟩
theorem RR.fz (h:RR K H H1 F1 r v) (g:Gr H F H1 F1):∃F2,Gr H F H1 F2/\RD K H1 F2 r.2 v:=by
 obtain⟨b,d⟩:=r
 cases b with
 | false=>exact⟨F1,g,h⟩
 | true =>
  obtain⟨a,ds,vs,rfl,rfl,e3,e4,e5,e6⟩:=h
  have g2:Keep H1 F1 H1 (λb=>b=a∨F1 b):=⟨λ_ _ h=>h,λ_ _ f h=>⟨.inr f,h⟩,λ_ _ _ _ h=>h,λ_ _ _ h=>h⟩
  exact⟨λb=>b=a∨F1 b,g.fz e3 e5,⟨a,vs,rfl,.inl ⟨.inl rfl,.inl e5⟩,RDs.mono g2 e6⟩⟩
theorem RP.grow (h:RP K H F d v) (g:Gr H F H1 F1):RP K H1 F1 d v:=
 h.elim (λz=>.inl (RD.mono g.keep z)) λ⟨a,ds,vs,e1,e2,e3,e4⟩=>.inr ⟨a,ds,vs,e1,e2,g.same _ _ e3,RDs.mono g.keep e4⟩
theorem RP.int (h:RP K H F (.int i) v):v=.int i:=h.elim (λz=>z) λ⟨_,_,_,e,_⟩=>by cases e
theorem RP.bl (h:RP K H F (.bl i) v):v=.bl i:=h.elim (λz=>z) λ⟨_,_,_,e,_⟩=>by cases e
theorem RP.non (h:RP K H F .non v):v=.non:=h.elim (λz=>z) λ⟨_,_,_,e,_⟩=>by cases e
theorem RP.str (h:RP K H F (.str x) v):v=.str x:=h.elim (λz=>z) λ⟨_,_,_,e,_⟩=>by cases e
theorem RP.tup (h:RP K H F (.tup ds) v):∃a vs,v=.ref a/\SqT K H a vs/\RDs K H F ds vs:=h.elim (λz=>z) λ⟨_,_,_,e,_⟩=>by cases e
theorem RP.noDct:¬RP K H F (.dct m ks) v:=λh=>h.elim (λz=>by simp only [RD] at z) λ⟨_,_,_,e,_⟩=>by cases e
theorem RP.obj (h:RP K H F (.obj kn ds) v):∃a vs,v=.ref a/\ObjR K H a kn vs/\RDs K H F ds vs:=h.elim (λz=>by simpa only [RD] using z) λ⟨_,_,_,e,_⟩=>by cases e
theorem RP.lst (h:RP K H F (.lst ds) v):∃a vs,v=.ref a/\SqL K H a vs/\RDs K H F ds vs:=by
 rcases h with ⟨a,vs,e,h1,h2⟩|⟨a,ds',vs,e1,e2,e3,e4⟩
 ·exact⟨a,vs,e,h1.sq,h2⟩
 ·cases e1;exact⟨a,vs,e2,SqL.of e3,e4⟩
end
structure Gp where
 h:Hp
 pin:Option Addr
 tb:TB h
instance:Coe Gp Hp:=⟨Gp.h⟩
instance:CoeFun Gp λ_=>Addr->Option HO:=⟨Gp.h⟩
structure SR (K:Qb) (G:Gp) (H:Hp) (F:Fz) (Z:En) (τ:L2.St):Prop where
 len:Z.length=τ.length
 ent:Same G.h H
 dom:∀a,H a=none->¬F a
 val:∀i d,ao Z i=some (false,d)->∃v,τ[i]?=some (some v)/\RD K H F d v
 own:∀i d,ao Z i=some (true,d)->jM d=false->∃a ds vs,d=.lst ds/\τ[i]?=some (some (.ref a))/\G a=none/\¬F a/\H a=some (.lst vs)/\RDs K H F ds vs
 sep:∀i j d e,ao Z i=some (true,d)->ao Z j=some (true,e)->τ[i]?=τ[j]?->i=j
 dct:∀i m ks,ao Z i=some (true,.dct m ks)->∃a,τ[i]?=some (some (.ref a))/\¬F a/\H a=some (.dK (dk ks))/\(m=true->G a=none)
 pin:∀p d,G.pin=some p->ao Z 0=some (true,d)->τ[0]?=some (some (.ref p))
theorem SR.grow {K:Qb}{G:Gp}{H H1:Hp}{F F1:Fz}{Z:En}{τ:L2.St}(s:SR K G H F Z τ) (g:Gr H F H1 F1):SR K G H1 F1 Z τ:=
 ⟨s.len,s.ent.trans g.same,g.dom,λi d e=>let ⟨v,h1,h2⟩:=s.val i d e;⟨v,h1,RD.mono g.keep h2⟩,
  λi d e hd=>let ⟨a,ds,vs,h1,h2,h3,h4,h5,h6⟩:=s.own i d e hd
   ⟨a,ds,vs,h1,h2,h3,(λz=>(g.new a z).elim h4 λz=>Qn (h5.symm.trans z) C2),g.same _ _ h5,RDs.mono g.keep h6⟩,s.sep,
  λi m ks e=>let ⟨a,h1,h2,h3,h4⟩:=s.dct i m ks e
   ⟨a,h1,(λz=>(g.new a z).elim h2 λz=>Qn (h3.symm.trans z) C2),g.same _ _ h3,h4⟩,s.pin⟩
theorem SR.tbH {K:Qb}{G:Gp}{H:Hp}{F:Fz}{Z:En}{τ:L2.St}(s:SR K G H F Z τ):TB H:=G.tb.same s.ent
theorem SR.addr {K:Qb}{G:Gp}{H:Hp}{F:Fz}{Z:En}{τ:L2.St}{i:Nat}{d:D}(s:SR K G H F Z τ) (h:ao Z i=some (true,d)):∃a u,τ[i]?=some (some (.ref a))/\¬F a/\H a=some u:=by
 cases hd:jM d with
 | false=>obtain⟨a,ds,vs,h1,h2,h3,h4,h5,h6⟩:=s.own i d h hd;exact⟨a,_,h2,h4,h5⟩
 | true =>
  cases d with
  | dct m ks=>obtain⟨a,h1,h2,h3,h4⟩:=s.dct i m ks h;exact⟨a,_,h1,h2,h3⟩
  | _=>cases hd
end Dw
namespace Dw
open PySem PySem.Spec PyProof.Rows L2
section
variable {K:Qb}{H H' H'':Hp}{F F':Fz}{cs:List CA}
theorem qQq (CI:du H cs) {a:Addr}{u:HO}(h:Rd H a u) (n:u≠.own a) (n2:∀o,u≠.frz o (.own a)):cs.lookup a=none:=by
 cases z:cs.lookup a with
 | none=>rfl
 | some o =>
  have e:=CI a o z
  rcases h with h|⟨o',h⟩<;>rw [h] at e
  ·cases e;exact Qn rfl (n2 o)
  ·cases e;exact Qn rfl n
theorem xM (CI:du H cs) {a:Addr}{u:HO}(h:Rd H a u) (n:u≠.own a) (n2:∀o,u≠.frz o (.own a)):Rd (bS H cs) a u:=by
 have z:cs.lookup a=none:=by
  cases z:cs.lookup a with
  | none=>rfl
  | some o =>
   have e:=CI a o z
   rcases h with h|⟨o',h⟩<;>rw [h] at e
   ·cases e;exact Qn rfl (n2 o)
   ·cases e;exact Qn rfl n
 unfold Rd
 rw [cW z]
 exact h
noncomputable def Fc (F:Fz) (cs:List CA):Fz:=λa=>F a/\cs.lookup a=none
mutual
theorem RD.off (CI:du H cs):∀{d:D}{v:V},bW d=true->RD K H F d v->RD K (bS H cs) (Fc F cs) d v
 | .non,_,_,h=>h
 | .bl _,_,_,h=>h
 | .int _,_,_,h=>h
 | .str _,_,_,h=>h
 | .tup ds,v,n,h=>by
  simp only [RD] at h ⊢
  obtain⟨a,vs,e,hs,hr⟩:=h
  exact⟨a,vs,e,hs.elim (λz=>.inl (xM CI z (λr=>by cases r) λo r=>by cases r)) .inr,RDs.off CI (by simpa only [bW] using n) hr⟩
 | .lst ds,v,n,h=>by
  simp only [RD] at h ⊢
  obtain⟨a,vs,e,hs,hr⟩:=h
  exact⟨a,vs,e,hs.elim (λz=>.inl ⟨⟨z.1,qQq CI z.2 (λr=>by cases r) λo r=>by cases r⟩,xM CI z.2 (λr=>by cases r) λo r=>by cases r⟩) .inr,RDs.off CI (by simpa only [bW] using n) hr⟩
 | .dct _ _,_,_,h=>by simp only [RD] at h
 | .obj kn ds,v,n,h=>by
  simp only [RD] at h ⊢
  simp only [bW,aP,decide_eq_true_eq] at n
  obtain⟨a,vs,e,hs,hr⟩:=h
  obtain⟨dx,fs,h1,h2⟩:=hs.ins n.1
  refine⟨a,vs,e,.of n.1 ⟨dx,fs,?_,h2⟩,RDs.off CI n.2 hr⟩
  have z:cs.lookup a=none:=by
   cases z:cs.lookup a with
   | none=>rfl
   | some o=>have e:=CI a o z;rw [h1] at e;cases e
  rw [cW z]
  exact h1
theorem RDs.off (CI:du H cs):∀{ds:List D}{vs:List V},dM ds=true->RDs K H F ds vs->RDs K (bS H cs) (Fc F cs) ds vs
 | [],_,_,h=>h
 | d::ds,vs,n,h=>by
  simp only [RDs] at h ⊢
  simp only [dM,aP] at n
  obtain⟨v,r,e,h1,h2⟩:=h
  exact⟨v,r,e,RD.off CI n.1 h1,RDs.off CI n.2 h2⟩
end
theorem yU:Keep H (Fc F cs) H F:=⟨λ_ _ h=>h,λ_ _ f h=>⟨f.1,h⟩,λ_ _ _ _ h=>h,λ_ _ _ h=>h⟩
theorem qN6 (n:∀a o,cs.lookup a=some o->H a=none):Same H (cg H cs):=λb x e=>by
 cases z:cs.lookup b with
 | none=>rw [dE z];exact e
 | some o=>rw [n b o z] at e;cases e
theorem wR (d:∀a,H a=none->¬F a) (n:∀a o,cs.lookup a=some o->H a=none):Gr H F (cg H cs) F:=⟨qN6 n,λ_ h=>h,λ_ h=>.inl h,λa e=>by
 cases z:cs.lookup a with
 | none=>rw [dE z] at e;exact d a e
 | some o=>rw [iR z] at e;cases e⟩
theorem qQZ (d:∀a,H a=none->¬F a) (n:∀a o,cs.lookup a=some o->H a=none) (CI:du H' cs) (g:Gr (cg H cs) F H' F'):Gr H F (bS H' cs) F':=by
 refine⟨λb x e=>?_,g.sub,λa f=>?_,λa e f=>?_⟩
 ·have z:cs.lookup b=none:=by
   cases z:cs.lookup b with
   | none=>rfl
   | some o=>rw [n b o z] at e;cases e
  rw [cW z]
  exact g.same b x (by rw [dE z];exact e)
 ·rcases g.new a f with q|q
  ·exact .inl q
  ·cases z:cs.lookup a with
   | none=>rw [dE z] at q;exact .inr q
   | some o=>exact .inr (n a o z)
 ·cases z:cs.lookup a with
  | none=>rw [cW z] at e;exact g.dom a e f
  | some o =>
   rcases g.new a f with q|q
   ·exact d a (n a o z) q
   ·rw [iR z] at q;cases q
theorem qPN (n:∀a o,cs.lookup a=some o->H a=none) (CI:du H' cs) {r:R}{v:V}(nc:bW r.2=true) (h:RR K (cg H cs) H' F' r v):RR K H (bS H' cs) F' r v:=by
 obtain⟨b,d⟩:=r
 cases b with
 | false=>exact RD.mono yU (RD.off CI nc h)
 | true =>
  obtain⟨a,ds,vs,rfl,rfl,e3,e4,e5,e6⟩:=h
  have z:cs.lookup a=none:=by
   cases z:cs.lookup a with
   | none=>rfl
   | some o=>rw [iR z] at e3;cases e3
  exact⟨a,ds,vs,rfl,rfl,by rw [dE z] at e3;exact e3,e4,by rw [cW z];exact e5,RDs.mono yU (RDs.off CI (by simpa only [bW] using nc) e6)⟩
theorem qSL (d:∀a,H a=none->¬F a) (CI:du H cs) (n:∀a o,cs.lookup a=some o->H' a=none) (g:Gr (bS H cs) (Fc F cs) H' F'):Gr H F (cg H' cs) (λa=>F' a∨F a):=by
 have sm:Same H (cg H' cs):=λb x e=>by
  cases z:cs.lookup b with
  | none=>rw [dE z];exact g.same b x (by rw [cW z];exact e)
  | some o=>rw [CI b o z] at e;cases e;exact iR z
 refine⟨sm,λ_ f=>.inr f,λa f=>?_,λa e f=>?_⟩
 ·rcases f with f|f
  ·rcases g.new a f with q|q
   ·exact .inl q.1
   ·cases z:cs.lookup a with
    | none=>rw [cW z] at q;exact .inr q
    | some o=>exact Qn f (g.dom a (n a o z))
  ·exact .inl f
 ·rcases f with f|f
  ·cases z:cs.lookup a with
   | none=>rw [dE z] at e;exact g.dom a e f
   | some o=>rw [iR z] at e;cases e
  ·cases q:H a with
   | none=>exact d a q f
   | some x=>rw [sm a x q] at e;cases e
theorem qN7 (d:∀a,H a=none->¬F a):∀a,bS H cs a=none->¬Fc F cs a:=λa e f=>by
 rw [cW f.2] at e
 exact d a e f.1
theorem qSc (d:∀a,H a=none->¬F a) (CI:du H cs) (n:∀a o,cs.lookup a=some o->H' a=none) (d':∀a,H' a=none->¬F' a) {r:R}{v:V}(h:RR K (bS H cs) H' F' r v):RR K H (cg H' cs) (λa=>F' a∨F a) r v:=by
 have s:=wR (F:=F') d' n
 have k2:Keep (cg H' cs) F' (cg H' cs) (λa=>F' a∨F a):=⟨λ_ _ h=>h,λ_ _ f h=>⟨.inl f,h⟩,λ_ _ _ _ h=>h,λ_ _ _ h=>h⟩
 obtain⟨b,dd⟩:=r
 cases b with
 | false=>exact RD.mono k2 (RD.mono s.keep h)
 | true =>
  obtain⟨a,ds,vs,rfl,rfl,e3,e4,e5,e6⟩:=h
  have z:cs.lookup a=none:=by
   cases z:cs.lookup a with
   | none=>rfl
   | some o=>rw [n a o z] at e5;cases e5
  rw [cW z] at e3
  exact⟨a,ds,vs,rfl,rfl,e3,λf=>f.elim e4 (d a e3),s.same _ _ e5,RDs.mono k2 (RDs.mono s.keep e6)⟩
end
end Dw
namespace Dw
open PySem PySem.Spec PyProof.Rows L2
theorem j6 (h:a.natAbs<2^n):Builtin.Int.intBits a<=n:=by
 unfold Builtin.Int.intBits
 split
 ·exact fP _
 ·rename_i hz
  have h0:a.natAbs≠0:=λz=>by
   have:a=0:=ybZ.mp z
   subst this;simp at hz
  have:=(nW h0).mpr h
  omega
theorem qKN (ha:Builtin.Int.intBits a<=1048640) (hb:Builtin.Int.intBits b<=1048640):IntMulOk a b:=by
 have h:Builtin.Int.intTooBig (Builtin.Int.intBits a+Builtin.Int.intBits b)=false:=by
  unfold Builtin.Int.intTooBig bitsLine
  exact Qj AC
 unfold IntMulOk
 rw [h,jD]
 exact fA
theorem qQy (h:iv a b=true):IntMulOk a b:=by
 have h':=Qp h
 rcases h' with ⟨h1,h2⟩|h1|h1|⟨h1,h2⟩
 ·exact IntMulOk.of_bits (aT (j6 h1) At) (aT (j6 h2) At)
 ·exact IntMulOk.of_left (j6 h1)
 ·exact IntMulOk.of_right (j6 h1)
 ·exact qKN (j6 h1) (j6 h2)
section
variable {X:Cx}
theorem op_mulD:OpR X (binaryOp .Mult) (rI (λi j=>iv i j=true) λi j=>.int (i * j)):=lW λ_ _ _ _ _ _ _ hc q=>mul_int q (qQy hc)
theorem qKE:OpR X (binaryOp .FloorDiv) (rI (λ_ j=>bf j=true) λi j=>.int (i.fdiv j)):=lW λi j _ _ _ _ _ hc q=>by
 have h:=Qp hc
 refine floordiv_int h.1 q (.inl (PyProof.noPylong_of_log2 ?_))
 rcases h.2 with h2|h2
 ·have:=(nW (λz=>h.1 (ybZ.mp z))).mpr h2
  omega
 ·have:=(nW (λz=>h.1 (ybZ.mp z))).mpr h2
  omega
theorem qN3:OpR X (binaryOp .Mod) (rI (λ_ j=>bf j=true) λi j=>.int (i.fmod j)):=lW λ_ _ _ _ _ _ _ hc q=>mod_int' (Qp hc).1 q
theorem qN2:OpR X (binaryOp .Pow) (rI (λi j=>hJ i j=true) λi j=>.int (i^j.toNat)):=lW λi j _ _ _ _ _ hc q=>by
 obtain⟨h1,h2,h3⟩:=Qp hc
 refine pow_int h2 ?_ q
 have:=j6 h1
 calc (Builtin.Int.intBits i:Int) * j<=240 * 200:=nZ (by exact_mod_cast this) h3 h2 At
  _<=2^27:=by decide
theorem qKV (l:Addr) (items:Array Value) (n:Nat) (sl:Array (Option Value)) (b:Addr) (items2:Array Value) (n2:Nat) (sl2:Array (Option Value)) (hc0:items.size+items2.size<=sizeLine) :
  Meets (Builtin.«list.__add__» ⟨[.ref l,.ref b],[]⟩) (λ_ R s=>s.heap.get? l=some ⟨.type "list",none,.seq items n,sl⟩/\s.heap.get? b=some ⟨.type "list",none,.seq items2 n2,sl2⟩ /\
   R (.ok (.ret (Value.ref s.heap.objs.size))) { s with heap:=s.heap.push { cls:=.type "list",data:=.seq (items++items2) } }):=
 .of_wp λprog w A R s h=>by
  obtain⟨hp,g,d,tk,os⟩:=s
  obtain⟨hl,hb,h⟩:=h
  have f3:=F.sub_list_list
  wp_walk using AutoSeq1.wpAny_loadPart' hl,AutoSeq1.wpAny_loadPart' hb
  exact⟨_,rfl,h⟩
theorem qKU (l:Addr) (items:Array Value) (n:Nat) (sl:Array (Option Value)) (x:Int) (u:Tok) (hc0:¬(!Builtin.List.listFitsIndex x)=true) (hc1:¬items.size * x.toNat > (2^63 - 1) / 8) (hc2:¬Builtin.List.listTooLong (items.size * x.toNat)=true) :
  Meets (Builtin.«list.__mul__» ⟨[.ref l,.int x u],[]⟩) (λ_ R s=>s.heap.get? l=some ⟨.type "list",none,.seq items n,sl⟩ /\
   R (.ok (.ret (Value.ref s.heap.objs.size))) { s with heap:=s.heap.push { cls:=Value.type "list",data:=Data.seq (List.foldl (λx1 x2=>x1++x2) #[] (List.replicate (if items.isEmpty=true then 0 else x.toNat) items)) } }):=
 .of_wp λprog w A R s h=>by
  obtain⟨hp,g,d,tk,os⟩:=s
  obtain⟨hl,h⟩:=h
  have hsz:=AutoListH.joined_fits hc2
  wp_walk
  refine wpAny_ite_false (Qj (Nat.not_lt.mpr hsz)) ?_
  wp_walk
  exact⟨_,rfl,h⟩
theorem qSd (a:Int) (t:Tok) (l:Addr) (items:Array Value) (n:Nat) (sl:Array (Option Value)) :
  Meets (Builtin.«int.__rmul__» ⟨[.int a t,.ref l],[]⟩) (λ_ R s=>s.heap.get? l=some ⟨.type "list",none,.seq items n,sl⟩/\R (.ok (.ret Value.notImplemented)) s):=
 .of_wp λprog w A R s h=>by
  obtain⟨hp,g,d,tk,os⟩:=s
  obtain⟨hl,h⟩:=h
  wp_walk
  exact⟨_,rfl,h⟩
theorem Inv.lobj (I:Inv X pins Z H s) (h:SqL X.K H a xs) :
  ∃(its:List Value) (n:Nat) (sl:Array (Option Value)),Vals xs its/\xs.length=its.length/\s.heap.get? a=some ⟨.type "list",none,.seq its.toArray n,sl⟩/\xs.length<=sizeLine:=by
 obtain⟨its,r,⟨⟨c,dd,da,sl⟩,n,e,e1,e2,e3⟩,z⟩:=I.list h
 simp only at e1 e2 e3
 subst e1 e2 e3
 exact⟨its,n,sl,r,r.length,e,z⟩
def qSh (K:Qb):R2:=λx y H Q=>∃l b xs zs,x=.ref l/\y=.ref b/\SqL K H l xs/\SqL K H b zs/\xs.length+zs.length<=sizeLine/\∀p,H p=none->Q (.ref p) (aB H p (.lst (xs++zs)))
theorem op_catD:OpR X (binaryOp .Add) (qSh X.K):=by
 intro pins s Z H x y v u Q I rx ry h
 obtain⟨l,b,xs,zs,rfl,rfl,hH,hB,hz,q⟩:=h
 cases rx
 cases ry
 obtain⟨its,n,sl,r,hl,e,z⟩:=Inv.lobj I hH
 obtain⟨its2,n2,sl2,r2,hl2,e2,z2⟩:=Inv.lobj I hB
 refine concat_meets ⟨_,e,rfl⟩ ⟨_,e2,rfl⟩ noFill_list_add seq_list_add F.slot_list_add F.entry_list_add (F.args_list_add_2 _ _)
  (qKV l its.toArray n sl b its2.toArray n2 sl2 (by rw [aO,aO];omega)) ⟨e,e2,?_⟩
 have ea:its.toArray++its2.toArray=(its++its2).toArray:=by simp
 rw [ea]
 exact⟨.ref _,_,I.lnew (t':=s.toks) (r.append r2) (by rw [aU];omega),rfl,q _ I.fresh⟩
def qSf (K:Qb):R2:=λx y H Q=>∃l k xs,x=.ref l/\y=.int k/\SqL K H l xs/\-(2^63)<=k/\k<2^63/\xs.length * k.toNat<=sizeLine /\
 ∀p,H p=none->Q (.ref p) (aB H p (.lst (List.replicate k.toNat xs).flatten))
theorem qN1:OpR X (binaryOp .Mult) (qSf X.K):=by
 intro pins s Z H x y v u Q I rx ry h
 obtain⟨l,k,xs,rfl,rfl,hH,h1,h2,hz,q⟩:=h
 cases rx
 obtain⟨t,rfl⟩:=ry
 obtain⟨its,n,sl,r,hl,e,z⟩:=Inv.lobj I hH
 have hlen:its.toArray.size * k.toNat<=sizeLine:=by rw [aO,<-hl];exact hz
 have hcap:¬its.toArray.size * k.toNat > (2^63 - 1) / 8:=by
  have:(sizeLine:Nat)<=(2^63 - 1) / 8:=by decide
  omega
 have hfit:¬(!Builtin.List.listFitsIndex k)=true:=by rw [fitsIndex_both h1 h2];exact fA
 have hlong:¬Builtin.List.listTooLong (its.toArray.size * k.toNat)=true:=by rw [ug hlen];exact fA
 have hnew:List.foldl (λx1 x2=>x1++x2) #[] (List.replicate (if its.toArray.isEmpty=true then 0 else k.toNat) its.toArray)=(List.replicate k.toNat its).flatten.toArray:=by
  have f0:∀m:Nat,List.foldl (λx1 x2=>x1++x2) #[] (List.replicate m its.toArray)=(List.replicate m its).flatten.toArray:=λm=>by simpa using Au its m []
  rw [f0]
  cases its with
  | nil=>simp
  | cons a r'=>rw [Qm C2]
 refine wpAny_binaryOp_repeat_ref (T:="list") (U:="int") At ⟨_,e,rfl⟩ (λs'=>typeIs_int s' k t) noFill_list_mul F.fills_int_mul F.slot_int_rmul repeat_list F.slot_int_index.lookup
  (call_meets F.slot_int_rmul (typeIs_int s k t) F.entry_int_rmul (F.args_int_rmul_2 _ _) (qSd k t l its.toArray n sl)
   ⟨e,rfl,⟨_,e,rfl⟩,call_meets F.slot_list_mul ⟨_,e,rfl⟩ F.entry_list_mul (F.args_list_mul_2 _ _) (qKU l its.toArray n sl k t hfit hcap hlong) ⟨e,?_⟩⟩)
 rw [hnew]
 exact⟨.ref _,_,I.lnew (t':=s.toks) (r.rep k.toNat) (by rw [qOh,Nat.mul_comm];exact hz),rfl,q _ I.fresh⟩
theorem qJo (hc:X.calm=true):CallR X (.builtin "max") (λxs H Q=>∃i j k,xs=[.int i,.int j,.int k]/\Q (.int (if k > (if j > i then j else i) then k else (if j > i then j else i))) H):=by
 intro pins s Z H xs us Q I r h
 obtain⟨i,j,k,rfl,q⟩:=h
 obtain _|⟨⟨t,rfl⟩,_|⟨⟨t',rfl⟩,_|⟨⟨t2,rfl⟩,_|_⟩⟩⟩:=r
 refine max_three_ints (I.ok.hd hc) λh' tk hk=>?_
 have I1:Inv X pins Z H { s with heap:=h',toks:=tk }:=I.kept hk
 have fin:∀(z:Int) (tok:Tok),z=(if k > (if j > i then j else i) then k else (if j > i then j else i))->EP X pins Z Q (.int z tok) { s with heap:=h',toks:=tk }:=λz tok e=>⟨.int z,H,I1,⟨_,rfl⟩,by rw [e];exact q⟩
 by_cases hba:j > i<;>by_cases hc1:k > j<;>by_cases hc2:k > i<;>simp only [hba,hc1,hc2,if_true,if_false] at fin ⊢<;>first|exact fin _ _ rfl|exact fin _ _ AC
end
end Dw
namespace Dw
open PySem PySem.Spec PyProof.Rows L2
section
variable {X:Cx}
theorem qD:∀{is:List Int}{its:List Value},Vals (is.map V.int) its->∃xs:List (Int×Tok),its=xs.map (λp=>Value.int p.1 p.2)/\xs.map (·.1)=is
 | [],_,.nil=>⟨[],rfl,rfl⟩
 | i::is,_,.cons ⟨t,e⟩ r=>by
  obtain⟨xs,h1,h2⟩:=qD r
  exact⟨(i,t)::xs,by rw [e,h1];rfl,by rw [cP,h2]⟩
theorem qFz (xs:Array (Int×Tok)):preSum (numAt xs) xs.size=(xs.toList.map (·.1)).sum:=by
 rw [preSum_eq,cM C2]
theorem qJl (hc:X.calm=true):CallR X (.builtin "sum") (λxs H Q=>∃(p:Addr) (is:List Int),xs=[.ref p]/\SqL X.K H p (is.map V.int)/\Q (.int is.sum) H):=by
 intro pins s Z H xs us Q I r h
 obtain⟨p,is,rfl,hq,q⟩:=h
 obtain⟨u,rfl,ru⟩:=gF r
 cases ru
 obtain⟨its,rv,pl,z⟩:=I.list hq
 obtain⟨ps,rfl,rfl⟩:=qD rv
 have e:(ps.map λp=>Value.int p.1 p.2).toArray=intItems ps.toArray:=by simp [intItems]
 have hl:s.heap.IsList p (intItems ps.toArray):=by rw [<-e];exact pl.isList
 refine sum_intListG (I.ok.hd hc) hl λh' tk t' hk=>?_
 rw [qFz]
 exact⟨.int _,H,I.kept hk,⟨_,rfl⟩,q⟩
theorem qKO (h:km is=some m):m∈is/\∀a∈is,m<=a:=by
 cases is with
 | nil=>cases h
 | cons a r =>
  cases h
  have:∀(l:List Int) (b:Int),(l.foldl (λm x=>if x<m then x else m) b=b∨l.foldl (λm x=>if x<m then x else m) b∈l)/\l.foldl (λm x=>if x<m then x else m) b<=b/\∀y∈l,l.foldl (λm x=>if x<m then x else m) b<=y:=by
   intro l
   induction l with
   | nil=>intro b;exact⟨.inl rfl,mj _,λ_ h=>nomatch h⟩
   | cons x l ih =>
    intro b
    rw [mJ]
    obtain⟨h1,h2,h3⟩:=ih (if x<b then x else b)
    generalize l.foldl (λm x=>if x<m then x else m) (if x<b then x else b)=z at h1 h2 h3
    refine⟨?_,?_,λy hy=>?_⟩
    ·rcases h1 with h1|h1
     ·split at h1
      ·exact .inr (h1▸bq)
      ·exact .inl h1
     ·exact .inr (bK _ h1)
    ·split at h2<;>omega
    ·rcases yag.mp hy with rfl|hy
     ·split at h2<;>omega
     ·exact h3 y hy
  obtain⟨h1,h2,h3⟩:=this r a
  exact⟨yag.mpr h1,λy hy=>(yag.mp hy).elim (λe=>e▸h2) (h3 y)⟩
theorem qKM (h:kj is=some m):m∈is/\∀a∈is,a<=m:=by
 cases is with
 | nil=>cases h
 | cons a r =>
  cases h
  have:∀(l:List Int) (b:Int),(l.foldl (λm x=>if m<x then x else m) b=b∨l.foldl (λm x=>if m<x then x else m) b∈l)/\b<=l.foldl (λm x=>if m<x then x else m) b/\∀y∈l,y<=l.foldl (λm x=>if m<x then x else m) b:=by
   intro l
   induction l with
   | nil=>intro b;exact⟨.inl rfl,mj _,λ_ h=>nomatch h⟩
   | cons x l ih =>
    intro b
    rw [mJ]
    obtain⟨h1,h2,h3⟩:=ih (if b<x then x else b)
    generalize l.foldl (λm x=>if m<x then x else m) (if b<x then x else b)=z at h1 h2 h3
    refine⟨?_,?_,λy hy=>?_⟩
    ·rcases h1 with h1|h1
     ·split at h1
      ·exact .inr (h1▸bq)
      ·exact .inl h1
     ·exact .inr (bK _ h1)
    ·split at h2<;>omega
    ·rcases yag.mp hy with rfl|hy
     ·split at h2<;>omega
     ·exact h3 y hy
  obtain⟨h1,h2,h3⟩:=this r a
  exact⟨yag.mpr h1,λy hy=>(yag.mp hy).elim (λe=>e▸h2) (h3 y)⟩
theorem qJn (hc:X.calm=true):CallR X (.builtin "min") (λxs H Q=>∃(p:Addr) (is:List Int) (m:Int),xs=[.ref p]/\SqL X.K H p (is.map V.int)/\km is=some m/\Q (.int m) H):=by
 intro pins s Z H xs us Q I r h
 obtain⟨p,is,m,rfl,hq,hm,q⟩:=h
 obtain⟨u,rfl,ru⟩:=gF r
 cases ru
 obtain⟨its,rv,pl,z⟩:=I.list hq
 obtain⟨ps,rfl,rfl⟩:=qD rv
 have e:(ps.map λp=>Value.int p.1 p.2).toArray=intItems ps.toArray:=by simp [intItems]
 have hl:s.heap.IsList p (intItems ps.toArray):=by rw [<-e];exact pl.isList
 obtain⟨m1,m2⟩:=qKO hm
 have hsz:0<ps.toArray.size:=by
  cases ps with
  | nil=>cases hm
  | cons _ _=>simp
 refine min_intList (I.ok.hd hc) hl hsz λv h' tk hv hk=>?_
 obtain⟨t,rfl⟩:=intItems_at hv
 obtain⟨h1,h2⟩:=argBest_lt (numAt ps.toArray) (ps.toArray.size - 1)
 have key:numAt ps.toArray (argBest (λi j=>decide (numAt ps.toArray i<numAt ps.toArray j)) (ps.toArray.size - 1))=m:=by
  refine Int.le_antisymm ?_ (m2 _ ?_)
  ·obtain⟨j,hj,e⟩:=List.getElem_of_mem m1
   have:=h2 j (by simp at hj ⊢;omega)
   refine kM this (Int.le_of_eq ?_)
   rw [<-e]
   simp [numAt] at hj ⊢
   rw [cN hj];rfl
  ·generalize argBest (λi j=>decide (numAt ps.toArray i<numAt ps.toArray j)) (ps.toArray.size - 1)=k at h1 ⊢
   have hk:k<ps.length:=by simp at h1 hsz;omega
   refine yaO.mpr ⟨ps[k],i8 hk,?_⟩
   simp [numAt]
   rw [cN hk];rfl
 rw [key]
 exact⟨.int _,H,I.kept hk,⟨_,rfl⟩,q⟩
theorem qJq (hc:X.calm=true):CallR X (.builtin "max") (λxs H Q=>∃(p:Addr) (is:List Int) (m:Int),xs=[.ref p]/\SqL X.K H p (is.map V.int)/\kj is=some m/\Q (.int m) H):=by
 intro pins s Z H xs us Q I r h
 obtain⟨p,is,m,rfl,hq,hm,q⟩:=h
 obtain⟨u,rfl,ru⟩:=gF r
 cases ru
 obtain⟨its,rv,pl,z⟩:=I.list hq
 obtain⟨ps,rfl,rfl⟩:=qD rv
 have e:(ps.map λp=>Value.int p.1 p.2).toArray=intItems ps.toArray:=by simp [intItems]
 have hl:s.heap.IsList p (intItems ps.toArray):=by rw [<-e];exact pl.isList
 obtain⟨m1,m2⟩:=qKM hm
 have hsz:0<ps.toArray.size:=by
  cases ps with
  | nil=>cases hm
  | cons _ _=>simp
 refine max_intList (I.ok.hd hc) hl hsz λv h' tk hv hk=>?_
 obtain⟨t,rfl⟩:=intItems_at hv
 obtain⟨h1,h2⟩:=argBest_gt (numAt ps.toArray) (ps.toArray.size - 1)
 have key:numAt ps.toArray (argBest (λi j=>decide (numAt ps.toArray i > numAt ps.toArray j)) (ps.toArray.size - 1))=m:=by
  refine Int.le_antisymm (m2 _ ?_) ?_
  ·generalize argBest (λi j=>decide (numAt ps.toArray i > numAt ps.toArray j)) (ps.toArray.size - 1)=k at h1 ⊢
   have hk:k<ps.length:=by simp at h1 hsz;omega
   refine yaO.mpr ⟨ps[k],i8 hk,?_⟩
   simp [numAt]
   rw [cN hk];rfl
  ·obtain⟨j,hj,e⟩:=List.getElem_of_mem m1
   have:=h2 j (by simp at hj ⊢;omega)
   refine kM (Int.le_of_eq ?_) this
   rw [<-e]
   simp [numAt] at hj ⊢
   rw [cN hj];rfl
 rw [key]
 exact⟨.int _,H,I.kept hk,⟨_,rfl⟩,q⟩
theorem qHF (is:List Int):(g0 is).Perm is/\(g0 is).Pairwise (·<=·):=by
 refine⟨List.mergeSort_perm is _,?_⟩
 have h:=List.pairwise_mergeSort (le:=λa b:Int=>decide (a<=b)) (λa b c h1 h2=>by simp at *;omega) (λa b=>by simp;omega) is
 exact h.imp λh=>by simpa using h
theorem qFa:CallR X (.builtin "sorted") (λxs H Q=>∃(p:Addr) (is:List Int),xs=[.ref p]/\(SqL X.K H p (is.map V.int)∨SqT X.K H p (is.map V.int))/\is.length<64/\∀l,H l=none->Q (.ref l) (aB H l (.lst ((g0 is).map V.int)))):=by
 intro pins s Z H xs us Q I r h
 obtain⟨p,is,rfl,hq,hl,q⟩:=h
 obtain⟨u,rfl,ru⟩:=gF r
 cases ru
 have jy:(64:Nat)<=sizeLine:=by decide
 have ob:∃(its:List Value) (T:String) (o:Obj) (n:Nat),(T="list"∨T="tuple")/\Vals (is.map V.int) its/\s.heap.get? p=some o/\o.cls=.type T/\o.data=.seq its.toArray n:=by
  rcases hq with hq|hq
  ·obtain⟨its,n,sl,rv,_,e,_⟩:=Inv.lobj I hq
   exact⟨its,_,_,n,.inl rfl,rv,e,rfl,rfl⟩
  ·obtain⟨its,rv,⟨o,e1,e2,n,e3⟩,_⟩:=I.tuple hq
   exact⟨its,_,o,n,.inr rfl,rv,e1,e2,e3⟩
 obtain⟨its,T,o,n,hT,rv,e1,e2,e3⟩:=ob
 have hI:IntsAre its is:=qG7 rv
 have hlen:its.length=is.length:=by simpa using rv.length.symm
 refine PySem.Calls.call_function_entry kind_sorted plain_sorted entry_sorted (args_sorted1 _) ?_
 unfold Builtin.«sorted»
 refine Qc (m:=checkCount "sorted" 1 1 _) (Qd ?_)
 refine Qc (wpAny_collect_seq p hT e1 e2 e3 (λh' kp=>?_) (by rw [aO];omega))
 refine Qc (wpAny_newList ?_ (by rw [List.toList_toArray];omega))
 have hoL:(h'.push (seqObj "list" its.toArray 0)).get? h'.objs.size=some (seqObj "list" its.toArray 0):=Qh _ rfl
 refine Qc (wpAny_holding (wpAny_call_entry slot_list_sort ⟨_,hoL,rfl⟩ entry_list_sort (list_sort_tree hoL hI AC λout ns' a1 a2 a3=>⟨_,rfl,?_⟩) (args_list_sort _)))
 obtain⟨s1,s2⟩:=qHF is
 obtain rfl:ns'=g0 is:=Ak (a2.trans s1.symm) a3 s2
 have I1:Inv X pins Z H { s with heap:=h' }:=I.kept (t':=s.toks) kp
 obtain⟨ep,he⟩:=sortedHeap_at (out:=out) hoL
 have kept:∀b ob,h'.get? b=some ob->(sortedHeap (h'.push (seqObj "list" its.toArray 0)) h'.objs.size its out).get? b=some ob:=λb ob hb=>by
  have hlt:=Qi hb
  rw [sortedHeap_old (bV hlt) (by rw [Heap.size_push];exact Nat.lt_succ_of_lt hlt)]
  exact Qg _ hb
 refine Qd ⟨_,rfl,.ref h'.objs.size,_,I1.laid (t':=s.toks) (o:=.lst ((g0 is).map V.int)) kept (au _) ⟨?_,out.toList,ep,uF a1,?_⟩,rfl,q _ (I1.hok.fresh (au _))⟩
 ·rw [aw,s1.length_eq]
  omega
 ·rw [he]
end
theorem Aw (A:Around):A.in1.units=A.units+1:=rfl
theorem qr:∀ds es:List D,jK ds es=((List.range (min ds.length es.length)).all (λj=>aY (ds.getD j .non) (es.getD j .non))&&ds.length == es.length)
 | [],[]=>rfl
 | [],e::es=>by
  have h:(([]:List D).length == (e::es).length)=false:=rfl
  rw [h,jD];rfl
 | d::ds,[]=>by
  have h:((d::ds).length == ([]:List D).length)=false:=rfl
  rw [h,jD];rfl
 | d::ds,e::es=>by
  have h:=qr ds es
  simp only [jK,h,de,Nat.succ_min_succ,List.range_succ_eq_map,fQ,List.getD_cons_zero,List.all_map]
  have e2:((λj=>aY ((d::ds).getD j .non) ((e::es).getD j .non)) ∘ Nat.succ)=λj=>aY (ds.getD j .non) (es.getD j .non):=by funext j;simp
  rw [e2,Bool.and_assoc]
  congr 2
  simp
mutual
theorem Af:∀d:D,aY d d=true
 | .non=>by simp
 | .bl _=>by simp
 | .int _=>by simp
 | .str _=>by simp
 | .tup ds=>by simpa using qC ds
 | .lst ds=>by simpa using qC ds
 | .dct _ _=>by simp
 | .obj _ ds=>by simpa using qC ds
theorem qC:∀ds:List D,jK ds ds=true
 | []=>by simp
 | d::ds=>by simp [Af d,qC ds]
end
section
variable {X:Cx}{pins:List CA}{Z:L2.St}{H:Hp}{s:Shared}{F:Fz}
theorem w5 (I:Inv X pins Z H s) (h:SqL X.K H a xs) (h':SqT X.K H a ys):False:=by
 obtain⟨its,_,p,_⟩:=I.list h
 obtain⟨its',_,p',_⟩:=I.tuple h'
 exact SeqAt.ne_of_list_tuple p.isList (show s.heap.IsTuple a its'.toArray from p') rfl
mutual
theorem RP.inj (I:Inv X pins Z H s):∀{d e:D}{v:V},cH d=true->cH e=true->RP X.K H F d v->RP X.K H F e v->d=e
 | .non,e,v,n,n',h,h'=>by
  have:=h.non;subst this
  cases e with
  | dct _ _=>exact Qn h' RP.noDct
  | obj _ _=>exact Qn n' C2
  | non=>rfl
  | bl _=>exact Qn h'.bl C2
  | int _=>exact Qn h'.int C2
  | str _=>exact Qn h'.str C2
  | tup _=>obtain⟨_,_,q,_⟩:=h'.tup;cases q
  | lst _=>obtain⟨_,_,q,_⟩:=h'.lst;cases q
 | .bl b,e,v,n,n',h,h'=>by
  have:=h.bl;subst this
  cases e with
  | dct _ _=>exact Qn h' RP.noDct
  | obj _ _=>exact Qn n' C2
  | non=>exact Qn h'.non C2
  | bl _=>have:=h'.bl;cases this;rfl
  | int _=>exact Qn h'.int C2
  | str _=>exact Qn h'.str C2
  | tup _=>obtain⟨_,_,q,_⟩:=h'.tup;cases q
  | lst _=>obtain⟨_,_,q,_⟩:=h'.lst;cases q
 | .int b,e,v,n,n',h,h'=>by
  have:=h.int;subst this
  cases e with
  | dct _ _=>exact Qn h' RP.noDct
  | obj _ _=>exact Qn n' C2
  | non=>exact Qn h'.non C2
  | bl _=>exact Qn h'.bl C2
  | int _=>have:=h'.int;cases this;rfl
  | str _=>exact Qn h'.str C2
  | tup _=>obtain⟨_,_,q,_⟩:=h'.tup;cases q
  | lst _=>obtain⟨_,_,q,_⟩:=h'.lst;cases q
 | .str b,e,v,n,n',h,h'=>by
  have:=h.str;subst this
  cases e with
  | dct _ _=>exact Qn h' RP.noDct
  | obj _ _=>exact Qn n' C2
  | non=>exact Qn h'.non C2
  | bl _=>exact Qn h'.bl C2
  | int _=>exact Qn h'.int C2
  | str _=>have:=h'.str;cases this;rfl
  | tup _=>obtain⟨_,_,q,_⟩:=h'.tup;cases q
  | lst _=>obtain⟨_,_,q,_⟩:=h'.lst;cases q
 | .tup ds,e,v,n,n',h,h'=>by
  obtain⟨a,vs,rfl,h1,h2⟩:=h.tup
  cases e with
  | dct _ _=>exact Qn h' RP.noDct
  | obj _ _=>exact Qn n' C2
  | non=>exact Qn h'.non C2
  | bl _=>exact Qn h'.bl C2
  | int _=>exact Qn h'.int C2
  | str _=>exact Qn h'.str C2
  | tup es=>obtain⟨b,ws,q,h3,h4⟩:=h'.tup;cases q;rw [I.tuple_inj h3 h1] at h4;rw [RDs.inj I (by simpa using n) (by simpa using n') h2 h4]
  | lst _=>obtain⟨b,ws,q,h3,h4⟩:=h'.lst;cases q;exact (w5 I h3 h1).elim
 | .lst ds,e,v,n,n',h,h'=>by
  obtain⟨a,vs,rfl,h1,h2⟩:=h.lst
  cases e with
  | dct _ _=>exact Qn h' RP.noDct
  | obj _ _=>exact Qn n' C2
  | non=>exact Qn h'.non C2
  | bl _=>exact Qn h'.bl C2
  | int _=>exact Qn h'.int C2
  | str _=>exact Qn h'.str C2
  | lst es=>obtain⟨b,ws,q,h3,h4⟩:=h'.lst;cases q;rw [I.list_inj h3 h1] at h4;rw [RDs.inj I (by simpa using n) (by simpa using n') h2 h4]
  | tup _=>obtain⟨b,ws,q,h3,h4⟩:=h'.tup;cases q;exact (w5 I h1 h3).elim
 | .dct _ _,e,v,n,n',h,h'=>Qn h RP.noDct
 | .obj _ _,e,v,n,n',h,h'=>Qn n C2
theorem RDs.inj (I:Inv X pins Z H s):∀{ds es:List D}{vs:List V},fC ds=true->fC es=true->RDs X.K H F ds vs->RDs X.K H F es vs->ds=es
 | [],es,vs,n,n',h,h'=>by
  simp only [RDs] at h;subst h
  cases es with
  | nil=>rfl
  | cons _ _=>simp only [RDs] at h';obtain⟨_,_,q,_⟩:=h';cases q
 | d::ds,es,vs,n,n',h,h'=>by
  simp only [RDs] at h
  obtain⟨v,r,rfl,h1,h2⟩:=h
  cases es with
  | nil=>simp only [RDs] at h';cases h'
  | cons e es =>
   simp only [RDs] at h'
   obtain⟨v',r',q,h3,h4⟩:=h'
   cases q
   simp only [fC,aP] at n n'
   rw [RP.inj I n.1 n'.1 (.inl h1) (.inl h3),RDs.inj I n.2 n'.2 h2 h4]
end
theorem RDs.vals (h:RDs X.K H F ds vs) (r:Vals vs us) (j:Nat) (hj:j<us.toArray.size) :
  ∃v,RD X.K H F (ds.getD j .non) v/\RelV v us.toArray[j]:=by
 have l1:=RDs.length h
 have l2:=r.length
 have hj':j<us.length:=by simpa using hj
 have hd:ds[j]?=some (ds.getD j .non):=by simp [List.getD,show j<ds.length by omega]
 obtain⟨v,e1,e2⟩:=RDs.get h hd
 obtain⟨u,e3,e4⟩:=r.get e1
 refine⟨v,e2,?_⟩
 have:us.toArray[j]=u:=by
  have:=yal.mp e3
  obtain⟨_,q⟩:=this
  simpa using q
 rw [this];exact e4
theorem lT:∀{ds:List D}(j:Nat),fC ds=true->cH (ds.getD j .non)=true
 | [],j,_=>by simp [List.getD]
 | d::ds,0,h=>by simp at h;simpa using h.1
 | d::ds,j+1,h=>by simp at h;simpa using lT j h.2
theorem uD:∀{n:Nat}{ds:List D}(j:Nat),kX n ds=true->cR n (ds.getD j .non)=true
 | n,[],j,_=>by cases n<;>simp [List.getD]
 | n,d::ds,0,h=>by simp at h;simpa using h.1
 | n,d::ds,j+1,h=>by simp at h;simpa using uD j h.2
def VS (X:Cx) (H:Hp) (F:Fz) (s:Shared):D->Value->Prop
 | .non,u=>u=.none
 | .bl b,u=>u=.bool b
 | .int i,u=>∃t,u=.int i t
 | .str x,u=>∃t,u=.str x t
 | .tup ds,u=>∃a its vs,u=.ref a/\s.heap.IsTuple a its.toArray/\RDs X.K H F ds vs/\Vals vs its
 | .lst ds,u=>∃a its vs,u=.ref a/\s.heap.IsList a its.toArray/\RDs X.K H F ds vs/\Vals vs its
 | .dct _ _,_=>False
 | .obj _ _,_=>True
theorem fZ (I:Inv X pins Z H s):∀{d:D}{x:V}{u:Value},RP X.K H F d x->RelV x u->VS X H F s d u
 | .non,x,u,h,r=>by have:=h.non;subst this;exact r
 | .bl _,x,u,h,r=>by have:=h.bl;subst this;exact r
 | .int _,x,u,h,r=>by have:=h.int;subst this;exact r
 | .str _,x,u,h,r=>by have:=h.str;subst this;exact r
 | .tup ds,x,u,h,r=>by
  obtain⟨a,vs,rfl,h1,h2⟩:=h.tup
  obtain⟨its,rv,p,_⟩:=I.tuple h1
  exact⟨a,its,vs,r,p,h2,rv⟩
 | .lst ds,x,u,h,r=>by
  obtain⟨a,vs,rfl,h1,h2⟩:=h.lst
  obtain⟨its,rv,p,_⟩:=I.list h1
  exact⟨a,its,vs,r,p.isList,h2,rv⟩
 | .dct _ _,x,u,h,r=>Qn h RP.noDct
 | .obj _ _,x,u,h,r=>trivial
inductive VW (X:Cx) (H:Hp) (F:Fz) (s:Shared):D->Value->Prop
 | non:VW X H F s .non .none
 | bl (b):VW X H F s (.bl b) (.bool b)
 | int (i t):VW X H F s (.int i) (.int i t)
 | str (x t):VW X H F s (.str x) (.str x t)
 | tup (ds a its vs):s.heap.IsTuple a its.toArray->RDs X.K H F ds vs->Vals vs its->VW X H F s (.tup ds) (.ref a)
 | lst (ds a its vs):s.heap.IsList a its.toArray->RDs X.K H F ds vs->Vals vs its->VW X H F s (.lst ds) (.ref a)
theorem jr {u:Value}:∀{d:D},VS X H F s d u->cH d=true->VW X H F s d u
 | .non,k,_=>by cases (show u=.none from k);exact .non
 | .bl b,k,_=>by cases (show u=.bool b from k);exact .bl b
 | .int _,⟨t,e⟩,_=>e▸.int _ t
 | .str _,⟨t,e⟩,_=>e▸.str _ t
 | .tup ds,⟨a,its,vs,e,p,h,v⟩,_=>e▸.tup ds a its vs p h v
 | .lst ds,⟨a,its,vs,e,p,h,v⟩,_=>e▸.lst ds a its vs p h v
noncomputable def flt:D->D->Bool
 | .tup _,.tup _=>false
 | .lst _,.lst _=>false
 | _,_=>true
theorem y7 {A:Around}{d e:D}{u v:Value}(kx:VW X H F s d u) (ky:VW X H F s e v) (hA:A.units<cLine) (hf:flt d e=true):SeqAt.EqAt A s u v (aY d e)/\SeqAt.RcAt A s u v (aY d e)/\SeqAt.RcNeAt A s u v (!aY d e):=by
 cases kx with
 | non=>cases ky with
  | non=>exact⟨.same _,.none_none,.none_none⟩
  | bl b=>exact⟨.none_bool _,.none_bool _,.none_bool _⟩
  | int b t=>exact⟨.none_int _ _,.none_int _ _,.none_int _ _⟩
  | str b t=>exact⟨.none_str _ _,.none_str _ _,.none_str _ _⟩
  | tup es b its2 vs2 p2 hd2 hv2=>exact⟨.none_tuple p2 hA,.none_tuple p2 hA,.none_tuple p2 hA⟩
  | lst es b its2 vs2 p2 hd2 hv2=>exact⟨.none_list p2 hA,.none_list p2 hA,.none_list p2 hA⟩
 | bl c=>cases ky with
  | non=>exact⟨.bool_none _,.bool_none _,.bool_none _⟩
  | bl b=>exact⟨.bool_bool _ _,.bool_bool _ _,.bool_bool _ _⟩
  | int b t=>exact⟨.bool_int _ _ _,.bool_int _ _ _,.bool_int _ _ _⟩
  | str b t=>exact⟨.bool_str _ _ _,.bool_str _ _ _,.bool_str _ _ _⟩
  | tup es b its2 vs2 p2 hd2 hv2=>exact⟨.bool_tuple _ p2 hA,.bool_tuple _ p2 hA,.bool_tuple _ p2 hA⟩
  | lst es b its2 vs2 p2 hd2 hv2=>exact⟨.bool_list _ p2 hA,.bool_list _ p2 hA,.bool_list _ p2 hA⟩
 | int c tc=>cases ky with
  | non=>exact⟨.int_none _ _,.int_none _ _,.int_none _ _⟩
  | bl b=>exact⟨.int_bool _ _ _,.int_bool _ _ _,.int_bool _ _ _⟩
  | int b t=>exact⟨.int_int _ _ _ _,.int_int _ _ _ _,.int_int _ _ _ _⟩
  | str b t=>exact⟨.int_str _ _ _ _,.int_str _ _ _ _,.int_str _ _ _ _⟩
  | tup es b its2 vs2 p2 hd2 hv2=>exact⟨.int_tuple _ _ p2 hA,.int_tuple _ _ p2 hA,.int_tuple _ _ p2 hA⟩
  | lst es b its2 vs2 p2 hd2 hv2=>exact⟨.int_list _ _ p2 hA,.int_list _ _ p2 hA,.int_list _ _ p2 hA⟩
 | str c tc=>cases ky with
  | non=>exact⟨.str_none _ _,.str_none _ _,.str_none _ _⟩
  | bl b=>exact⟨.str_bool _ _ _,.str_bool _ _ _,.str_bool _ _ _⟩
  | int b t=>exact⟨.str_int _ _ _ _,.str_int _ _ _ _,.str_int _ _ _ _⟩
  | str b t=>exact⟨.str_str _ _ _ _,.str_str _ _ _ _,.str_str _ _ _ _⟩
  | tup es b its2 vs2 p2 hd2 hv2=>exact⟨.str_tuple _ _ p2 hA,.str_tuple _ _ p2 hA,.str_tuple _ _ p2 hA⟩
  | lst es b its2 vs2 p2 hd2 hv2=>exact⟨.str_list _ _ p2 hA,.str_list _ _ p2 hA,.str_list _ _ p2 hA⟩
 | tup ds a its vs p hd hv=>cases ky with
  | non=>exact⟨.tuple_none p hA,.tuple_none p hA,.tuple_none p hA⟩
  | bl b=>exact⟨.tuple_bool _ p hA,.tuple_bool _ p hA,.tuple_bool _ p hA⟩
  | int b t=>exact⟨.tuple_int _ _ p hA,.tuple_int _ _ p hA,.tuple_int _ _ p hA⟩
  | str b t=>exact⟨.tuple_str _ _ p hA,.tuple_str _ _ p hA,.tuple_str _ _ p hA⟩
  | tup es b its2 vs2 p2 hd2 hv2=>cases hf
  | lst es b its2 vs2 p2 hd2 hv2=>exact⟨.tuple_list p p2 hA,.tuple_list p p2 hA,.tuple_list p p2 hA⟩
 | lst ds a its vs p hd hv=>cases ky with
  | non=>exact⟨.list_none p hA,.list_none p hA,.list_none p hA⟩
  | bl b=>exact⟨.list_bool _ p hA,.list_bool _ p hA,.list_bool _ p hA⟩
  | int b t=>exact⟨.list_int _ _ p hA,.list_int _ _ p hA,.list_int _ _ p hA⟩
  | str b t=>exact⟨.list_str _ _ p hA,.list_str _ _ p hA,.list_str _ _ p hA⟩
  | tup es b its2 vs2 p2 hd2 hv2=>exact⟨.list_tuple p p2 hA,.list_tuple p p2 hA,.list_tuple p p2 hA⟩
  | lst es b its2 vs2 p2 hd2 hv2=>cases hf
theorem xA {d e:D}(h:¬flt d e=true):(∃ds es,d=.tup ds/\e=.tup es)∨∃ds es,d=.lst ds/\e=.lst es:=by
 cases d with
 | tup ds=>cases e with
  | tup es=>exact .inl ⟨_,_,rfl,rfl⟩
  | _=>exact Qn rfl h
 | lst ds=>cases e with
  | lst es=>exact .inr ⟨_,_,rfl,rfl⟩
  | _=>exact Qn rfl h
 | _=>exact Qn rfl h
theorem zO {x:V}{a:Addr}(h:RelV x (.ref a)):x=.ref a:=by
 cases x<;>first|(cases h;done)|(obtain⟨_,h⟩:=h;cases h;done)|(have z:Value.ref _=Value.ref _:=h;cases z;rfl)
theorem si (I:Inv X pins Z H s) (n:Nat):∀(d e:D) (x y:V) (u v:Value) (A:Around),RP X.K H F d x->RP X.K H F e y->RelV x u->RelV y v->(cR n d||cR n e)=true->cH d=true->cH e=true->A.units+n<cLine ->
   SeqAt.EqAt A s u v (aY d e)/\SeqAt.RcAt A s u v (aY d e)/\SeqAt.RcNeAt A s u v (!aY d e):=by
 induction n with
 | zero =>
  intro d e x y u v A hx hy ru rv hs hn hn' hu
  refine y7 (jr (fZ I hx ru) hn) (jr (fZ I hy rv) hn') AC (Decidable.byContradiction λh=>?_)
  rcases xA h with ⟨_,_,rfl,rfl⟩|⟨_,_,rfl,rfl⟩<;>cases hs
 | succ n ih =>
  intro d e x y u v A hx hy ru rv hs hn hn' hu
  have hA:A.units<cLine:=by omega
  by_cases hf:flt d e=true
  ·exact y7 (jr (fZ I hx ru) hn) (jr (fZ I hy rv) hn') hA hf
  have hj:∀{ds es:List D} {vs vs2:List V} {its its2:List Value},RDs X.K H F ds vs->Vals vs its->RDs X.K H F es vs2->Vals vs2 its2->(kX n ds||kX n es)=true->fC ds=true->fC es=true ->
    ∀j (h1:j<its.toArray.size) (h2:j<its2.toArray.size),SeqAt.EqAt A.in1 s its.toArray[j] its2.toArray[j] (aY (ds.getD j .non) (es.getD j .non)):=λhd hv hd2 hv2 hs hn hn' j h1 h2=>by
   obtain⟨v1,q1,q2⟩:=RDs.vals hd hv j h1
   obtain⟨v2,q3,q4⟩:=RDs.vals hd2 hv2 j h2
   refine (ih _ _ v1 v2 _ _ A.in1 (.inl q1) (.inl q3) q2 q4 ?_ (lT j hn) (lT j hn') (by rw [Aw];omega)).1
   rw [eN] at hs ⊢
   exact hs.imp (uD j) (uD j)
  have two:∀{a b:Addr},u=.ref a->v=.ref b->SeqAt.RcAt A s u v (aY d e)->SeqAt.EqAt A s u v (aY d e):=λ{a b} e1 e2 r=>by
   subst e1 e2
   by_cases hab:a=b
   ·subst hab
    rw [zO ru] at hx
    rw [zO rv] at hy
    rw [RP.inj I hn hn' hx hy,Af]
    exact SeqAt.EqAt.same _
   ·exact SeqAt.EqAt.of_refs hab r
  rcases xA hf with ⟨ds,es,rfl,rfl⟩|⟨ds,es,rfl,rfl⟩
  ·cases jr (fZ I hx ru) hn with
   | tup _ a its vs p hd hv=>cases jr (fZ I hy rv) hn' with
    | tup _ b its2 vs2 p2 hd2 hv2 =>
     have e1:((List.range (min its.toArray.size its2.toArray.size)).all (λj=>aY (ds.getD j .non) (es.getD j .non))&&its.toArray.size == its2.toArray.size)=aY (.tup ds) (.tup es):=by
      simp only [aY,qr,aO,<-hv.length,<-hv2.length,RDs.length hd,RDs.length hd2]
     have r1:=SeqAt.RcAt.tuples p p2 hA (hj hd hv hd2 hv2 hs hn hn')
     have r2:=SeqAt.RcNeAt.tuples p p2 hA (hj hd hv hd2 hv2 hs hn hn')
     rw [e1] at r1 r2
     exact⟨two rfl rfl r1,r1,r2⟩
  ·cases jr (fZ I hx ru) hn with
   | lst _ a its vs p hd hv=>cases jr (fZ I hy rv) hn' with
    | lst _ b its2 vs2 p2 hd2 hv2 =>
     have l1:=RDs.length hd
     have l2:=RDs.length hd2
     have l3:=hv.length
     have l4:=hv2.length
     have both:SeqAt.RcAt A s (.ref a) (.ref b) (aY (.lst ds) (.lst es))/\SeqAt.RcNeAt A s (.ref a) (.ref b) (!aY (.lst ds) (.lst es)):=by
      by_cases hsz:its.toArray.size=its2.toArray.size
      ·have e1:(List.range its.toArray.size).all (λj=>aY (ds.getD j .non) (es.getD j .non))=aY (.lst ds) (.lst es):=by
        have hl:ds.length=es.length:=by simp only [aO] at hsz;omega
        have hm:its.toArray.size=min ds.length es.length:=by simp only [aO];omega
        simp only [aY,qr,hm,hl,beq_self_eq_true,jF]
       have r1:=SeqAt.RcAt.lists p p2 hsz hA (hj hd hv hd2 hv2 hs hn hn')
       have r2:=SeqAt.RcNeAt.lists p p2 hsz hA (hj hd hv hd2 hv2 hs hn hn')
       rw [e1] at r1 r2
       exact⟨r1,r2⟩
      ·have hb:(its.toArray.size != its2.toArray.size)=true:=by simpa using hsz
       have e1:aY (.lst ds) (.lst es)=false:=by
        have hl:(ds.length == es.length)=false:=by
         simp only [aO] at hsz
         rw [beq_eq_false_iff_ne];omega
        simp only [aY,qr,hl,jD]
       rw [e1]
       exact⟨SeqAt.RcAt.lists_lengths p p2 hb hA,SeqAt.RcNeAt.lists_lengths p p2 hb hA⟩
     exact⟨two rfl rfl both.1,both⟩
end
end Dw
namespace Dw
section
open PySem PySem.W PySem.Calls PyProof.Rows
variable {prog:Program}{w:World}{A:Around}{E:Value->Shared->Prop}{s:Shared}
def IR:List Value->List Int->Prop
 | [],[]=>True
 | v::vs,i::is=>(∃t,v=.int i t)/\IR vs is
 | _,_=>False
theorem IR.len:∀{vs:List Value}{is:List Int},IR vs is->vs.length=is.length
 | [],[],_=>rfl
 | _::_,_::_,x=>congrArg (·+1) x.2.len
theorem zJ {Q:Bool->Shared->Prop}:∀{a b:List Int}{va vb:List Value}(i:Nat),IR va a->IR vb b->Q (bG a b) s->KatLex prog w A true (decide (a.length<b.length)) Q (va.zip vb) i s
 | [],[],[],[],i,_,_,h=>kat_nil h
 | [],_::_,[],_::_,i,_,_,h=>by
  rw [List.zip_nil_left,Qk C2]
  exact kat_nil h
 | _::_,[],_::_,[],i,_,_,h=>by
  rw [List.zip_nil_right,Qj C2]
  exact kat_nil h
 | x::a,y::b,v::va,u::vb,i,ha,hb,h=>by
  obtain⟨⟨t,rfl⟩,ha⟩:=ha
  obtain⟨⟨t',rfl⟩,hb⟩:=hb
  rw [List.zip_cons_cons]
  refine kat_cons (wpAny_eqBool_int ?_)
  rw [bG] at h
  by_cases e:x=y
  ·rw [Ql e] at h
   rw [show (x == y)=true from beq_iff_eq.mpr e]
   refine kat_yes ?_
   have:=zJ (i+1) ha hb h
   rw [show decide ((x::a).length<(y::b).length)=decide (a.length<b.length) by simp]
   exact this
  ·rw [Qm e] at h
   rw [show (x == y)=false from beq_eq_false_iff_ne.mpr e]
   refine kat_no ?_
   cases i with
   | zero=>exact oneLt_int h
   | succ i=>exact kat_one _ _ (wpAny_lt_int h)
def TpAt (h:Heap) (v:Value) (is:List Int):Prop:=∃x o n vs,v=.ref x/\h.get? x=some o/\o.cls=.type "tuple"/\o.data=.seq vs.toArray n/\IR vs is
theorem TpAt.mv {h h':Heap}{v:Value}{i:List Int}(x:TpAt h v i) (k:∀a o,v=.ref a->h.get? a=some o->h'.get? a=some o):TpAt h' v i:=
 let ⟨a,o,n,vs,e,h1,h2⟩:=x;⟨a,o,n,vs,e,k a o e h1,h2⟩
theorem qSB {v z:Value}{p q:List Int}{Q:Bool->Shared->Prop}(hv:TpAt s.heap v p) (hz:TpAt s.heap z q) (h:Q (bG p q) s):wpAny AT A (keyLt' (tuples' true) v z) Q E s:=by
 obtain⟨x,o,n,r,rfl,x1,x2,x3,x4⟩:=hv
 obtain⟨y,o',n',r',rfl,y1,y2,y3,y4⟩:=hz
 refine kat_lt x1 x3 y1 y3 ?_
 rw [aO,aO,x4.len,y4.len]
 exact zJ 0 x4 y4 h
def AllT (h:Heap):List Value->List (List Int)->Prop
 | [],[]=>True
 | v::vs,p::ps=>TpAt h v p/\AllT h vs ps
 | _,_=>False
theorem AllT.len {h:Heap}:∀{vs:List Value}{ps:List (List Int)},AllT h vs ps->vs.length=ps.length
 | [],[],_=>rfl
 | _::_,_::_,x=>congrArg (·+1) x.2.len
theorem AllT.mv {h h':Heap}:∀{vs:List Value}{ps:List (List Int)},AllT h vs ps->(∀v∈vs,∀a o,v=.ref a->h.get? a=some o->h'.get? a=some o)->AllT h' vs ps
 | [],[],_,_=>trivial
 | v::_,_::_,x,k=>⟨x.1.mv (k v bq),AllT.mv x.2 λv hv=>k v (bK _ hv)⟩
theorem AllT.tups {h:Heap}:∀{vs:List Value}{ps:List (List Int)},AllT h vs ps->(∀t∈ps,t≠[])->∃fs:List Value,KatTups h vs fs/\fs.length=ps.length/\∀v∈fs,∃i t,v=.int i t
 | [],[],_,_=>⟨[],trivial,rfl,λ_ h=>nomatch h⟩
 | _::vs,p::ps,x,hn=>by
  obtain⟨fs,h1,h2,h3⟩:=AllT.tups (vs:=vs) (ps:=ps) x.2 λt ht=>hn t (bK _ ht)
  obtain⟨a,o,n,r,rfl,e1,e2,e3,e4⟩:=x.1
  match p,r,e4,hn p bq with
  | q::p,u::r,e4,_ =>
   obtain⟨⟨t,rfl⟩,_⟩:=e4
   refine⟨.int q t::fs,KatTups.cons e1 e2 e3 rfl h1,congrArg (·+1) h2,λv hv=>?_⟩
   rcases yag.mp hv with rfl|hv
   ·exact⟨_,_,rfl⟩
   ·exact h3 v hv
  | [],_,_,hp=>exact Qn rfl hp
theorem qIx {vs:List Value}{ps:List (List Int)}{Q:SortKind->Shared->Prop}(h:AllT s.heap vs ps) (hn:∀t∈ps,t≠[]) (h0:0<vs.length) (k:Q (tuples' true) s):wpAny AT A (keyKind' vs.toArray) Q E s:=by
 obtain⟨fs,h1,h2,h3⟩:=h.tups hn
 refine kat_kind (T:=.type "int") h1 (by rw [h2,<-h.len];exact h0) (λv hv=>?_) At k
 obtain⟨i,t,rfl⟩:=h3 v hv
 exact Looks.of_pure rfl
theorem qKf {a:Addr}{vs:List Value}{n:Nat}{P:PySem.Fin->Shared->Prop}(ho:s.heap.get? a=some (seqObj "list" vs.toArray n)) (h2:vs.length<2)
  (k:∀h' m,(∀b o,b≠a->s.heap.get? b=some o->h'.get? b=some o)->h'.get? a=some (seqObj "list" vs.toArray m)->P (.done (.ret .none)) { s with heap:=h' }) :
  wpAny AT A (Builtin.«list.sort» ⟨[.ref a],[]⟩) P E s:=by
 have s1:=Heap.SameBut.update s.heap a (Obj.mapSeq λ_=>(#[]:Array Value))
 obtain⟨e1,ho1⟩:∃e1,(s.heap.update a (Obj.mapSeq λ_=>(#[]:Array Value))).get? a=some (seqObj "list" #[] e1):=⟨_,get?_update_seq ho λ_=>#[]⟩
 generalize hH:((s.heap.update a (Obj.mapSeq λ_=>(#[]:Array Value))).push (seqObj "tuple" vs.toArray 0)).push (seqObj "list" #[] 0)=H3
 have kp:∀b o,b≠a->s.heap.get? b=some o->H3.get? b=some o:=λb o hb e=>by
  rw [<-hH];exact Qg _ (Qg _ (s1.extBut b o hb e))
 have ha3:H3.get? a=some (seqObj "list" #[] e1):=by rw [<-hH];exact Qg _ (Qg _ ho1)
 rw [list_sort_plain]
 refine Qc (listItems_at ho rfl (Qc (listUpdate_at ho rfl ?_ (by rw [aO,sizeLine_eq];omega) (fP _))))
 refine Qc (seqEpoch_at ho1 rfl (Qc (wpAny_newTuple ?_ (by show vs.length<=_;rw [sizeLine_eq];omega))))
 refine Qc (wpAny_newList (wpAny_holding ?_) (fP _))
 show wpAny AT A _ P E { s with heap:=((s.heap.update a (Obj.mapSeq λ_=>(#[]:Array Value))).push (seqObj "tuple" vs.toArray 0)).push (seqObj "list" #[] 0) }
 rw [hH];dsimp only
 have hn2:vs.toArray.size<2:=by rw [aO];omega
 rw [Ql hn2,Ql hn2]
 refine Qc (Qd ?_)
 rw [StateT.run_pure]
 refine Qc (Qd ?_)
 dsimp only
 have hout:(arrOf (SortSt.mk' general' (vs.toArray.zip vs.toArray) #[] 7 none)).map (·.2)=vs.toArray:=by
  show (vs.toArray.zip vs.toArray).map (·.2)=vs.toArray
  refine Array.ext' ?_
  rw [Array.toList_map,Array.toList_zip]
  exact List.map_snd_zip (au _)
 rw [hout]
 obtain⟨c2,hc2⟩:∃c2,(H3.update a (Obj.mapSeq λ_=>vs.toArray)).get? a=some (seqObj "list" vs.toArray c2):=⟨_,get?_update_seq ha3 λ_=>vs.toArray⟩
 refine Qc (seqEpoch_at ha3 rfl (Qc (listUpdate_at ha3 rfl ?_ (fP _) (by rw [aO,sizeLine_eq];omega))))
 simp only [bne_self_eq_false,fS,if_false]
 exact Qd (k _ c2 (λb o hb e=>(Heap.SameBut.update H3 a _).extBut b o hb (kp b o hb e)) hc2)
theorem IR.inj:∀{vs:List Value}{a b:List Int},IR vs a->IR vs b->a=b
 | [],[],[],_,_=>rfl
 | _::_,_::_,_::_,⟨⟨t,e⟩,x⟩,⟨⟨t',e'⟩,y⟩=>by
  rw [e] at e'
  cases e'
  rw [IR.inj x y]
theorem TpAt.inj {h:Heap}{v:Value}{a b:List Int}(x:TpAt h v a) (y:TpAt h v b):a=b:=by
 obtain⟨p,o,n,r,rfl,x1,x2,x3,x4⟩:=x
 obtain⟨p',o',n',r',e,y1,y2,y3,y4⟩:=y
 cases e
 rw [x1] at y1
 cases y1
 rw [x3] at y3
 injection y3 with e1 e2
 have e1:r=r':=by simpa using e1
 subst e1
 exact x4.inj y4
open Classical in
noncomputable def gE (h:Heap) (v:Value):List Int:=if e:∃t,TpAt h v t then e.choose else []
theorem qf {h:Heap}{v:Value}{t:List Int}(x:TpAt h v t):gE h v=t:=by
 have e:∃t,TpAt h v t:=⟨t,x⟩
 unfold gE
 rw [dif_pos e]
 exact e.choose_spec.inj x
theorem AllT.map {h:Heap}:∀{vs:List Value}{ps:List (List Int)},AllT h vs ps->vs.map (gE h)=ps
 | [],[],_=>rfl
 | v::vs,p::ps,x=>by rw [cP,qf x.1,AllT.map x.2]
theorem AllT.mem {h:Heap}:∀{vs:List Value}{ps:List (List Int)},AllT h vs ps->∀v∈vs,TpAt h v (gE h v)
 | v::vs,p::ps,x,u,hu=>by
  rcases yag.mp hu with rfl|hu
  ·rw [qf x.1];exact x.1
  ·exact AllT.mem x.2 u hu
theorem pP:∀a:List Int,bG a a=false
 | []=>rfl
 | x::a=>by rw [bG,Ql rfl];exact pP a
theorem pA:∀a b c:List Int,bG a b=true->bG b c=true->bG a c=true
 | [],b,[],h1,h2=>by cases b<;>simp [bG] at h1 h2
 | [],_,_::_,_,_=>rfl
 | _::_,[],_,h1,_=>by simp [bG] at h1
 | _::_,_::_,[],_,h2=>by simp [bG] at h2
 | x::a,y::b,z::c,h1,h2=>by
  rw [bG] at h1 h2 ⊢
  by_cases e1:x=y
  ·rw [Ql e1] at h1
   by_cases e2:y=z
   ·rw [Ql e2] at h2
    rw [Ql (e1.trans e2)]
    exact pA a b c h1 h2
   ·rw [Qm e2] at h2
    rw [e1,Qm e2]
    exact h2
  ·rw [Qm e1] at h1
   by_cases e2:y=z
   ·rw [<-e2,Qm e1]
    exact h1
   ·rw [Qm e2] at h2
    have h1:=Qp h1
    have h2:=Qp h2
    rw [Qm AC]
    exact Qk AC
theorem pz:∀a b c:List Int,bG a c=true->bG a b=true∨bG b c=true
 | [],[],_,h=>.inr h
 | [],_::_,_,_=>.inl rfl
 | _::_,_,[],h=>by simp [bG] at h
 | _::_,[],_::_,_=>.inr rfl
 | x::a,y::b,z::c,h=>by
  rw [bG] at h
  rw [bG,bG]
  by_cases e1:x=y
  ·rw [Ql e1]
   by_cases e2:y=z
   ·rw [Ql e2]
    rw [Ql (e1.trans e2)] at h
    exact pz a b c h
   ·rw [Qm e2]
    rw [e1,Qm e2] at h
    exact .inr h
  ·rw [Qm e1]
   by_cases e2:y=z
   ·rw [Ql e2]
    rw [<-e2,Qm e1] at h
    exact .inl h
   ·rw [Qm e2]
    by_cases e3:x=z
    ·by_cases e4:x<y
     ·exact .inl (Qk e4)
     ·exact .inr (Qk AC)
    ·rw [Qm e3] at h
     have h:=Qp h
     by_cases e4:x<y
     ·exact .inl (Qk e4)
     ·exact .inr (Qk AC)
theorem xH:∀a b:List Int,bG a b=false->bG b a=false->a=b
 | [],[],_,_=>rfl
 | [],_::_,h,_=>by simp [bG] at h
 | _::_,[],_,h=>by simp [bG] at h
 | x::a,y::b,h1,h2=>by
  rw [bG] at h1 h2
  by_cases e:x=y
  ·rw [Ql e] at h1
   rw [Ql e.symm] at h2
   rw [e,xH a b h1 h2]
  ·rw [Qm e] at h1
   rw [Qm (λz=>e z.symm)] at h2
   have h1:=of_decide_eq_false h1
   have h2:=of_decide_eq_false h2
   omega
theorem uE (ts:List (List Int)):(g9 ts).Perm ts:=List.mergeSort_perm _ _
theorem qNj (ts:List (List Int)):(g9 ts).Pairwise λa b=>bG b a=false:=by
 have:=List.pairwise_mergeSort (le:=λa b:List Int=>!bG b a) (λa b c h1 h2=>?_) (λa b=>?_) ts
 ·exact List.Pairwise.imp (λh=>by simpa using h) this
 ·simp only [rh] at h1 h2 ⊢
  cases e:bG c a with
  | false=>rfl
  | true =>
   rcases pz c b a e with h|h
   ·rw [h2] at h;cases h
   ·rw [h1] at h;cases h
 ·cases e:bG b a with
  | false=>rfl
  | true =>
   cases e':bG a b with
   | false=>rfl
   | true=>have:=pA _ _ _ e e';rw [pP] at this;cases this
theorem yE:∀{xs ys:List (List Int)},xs.Perm ys->xs.Pairwise (λa b=>bG b a=false)->ys.Pairwise (λa b=>bG b a=false)->xs=ys
 | [],ys,h,_,_=>(List.nil_perm.mp h).symm
 | x::xs,[],h,_,_=>by simpa using h.length_eq
 | x::xs,y::ys,h,h1,h2=>by
  obtain⟨a1,a2⟩:=ybo.mp h1
  obtain⟨b1,b2⟩:=ybo.mp h2
  have e:x=y:=by
   rcases yag.mp (h.mem_iff.mp bq) with e|hx
   ·exact e
   ·rcases yag.mp (h.mem_iff.mpr bq) with e|hy
    ·exact e.symm
    ·exact xH x y (b1 x hx) (a1 y hy)
  subst e
  rw [yE (h.cons_inv) a2 b2]
theorem qHK {a:Addr}{vs:List Value}{ps:List (List Int)}{n:Nat}{P:PySem.Fin->Shared->Prop}(ho:s.heap.get? a=some (seqObj "list" vs.toArray n)) (hp:AllT s.heap vs ps) (hn:∀t∈ps,t≠[]) (hne:∀v∈vs,v≠.ref a) (hz:vs.length<=sizeLine)
  (k:∀h' m (us:List Value),(∀b o,b≠a->s.heap.get? b=some o->h'.get? b=some o)->us.Perm vs->us.map (gE s.heap)=g9 ps->h'.get? a=some (seqObj "list" us.toArray m)->P (.done (.ret .none)) { s with heap:=h' }) :
  wpAny AT A (Builtin.«list.sort» ⟨[.ref a],[]⟩) P E s:=by
 have hl:=hp.len
 have hm:=hp.map
 by_cases h2:vs.length<2
 ·refine qKf ho h2 λh' m kp ha=>k h' m vs kp (List.Perm.refl _) ?_ ha
  rw [hm]
  match ps,(by omega:ps.length<2) with
  | [],_=>simp [g9]
  | [_],_=>simp [g9]
 ·have mv:∀s':Shared,(∀b o,b≠a->s.heap.get? b=some o->s'.heap.get? b=some o)->AllT s'.heap vs ps:=λs' kp=>hp.mv λv hv b o e q=>kp b o (λz=>hne v hv (by rw [e,z])) q
  refine So.sort_any (κ:=tuples' true) (ρ:=λv=>So.rank bG ps (gE s.heap v)) ho AC hz (λs' kp=>qIx (mv s' kp) hn AC ⟨rfl,rfl⟩) (λs' kp x hx y hy Q E hQ=>?_) λh' m us kp hu hup ha=>k h' m us kp hu ?_ ha
  ·rw [So.rank_lt pP pA pz (by rw [<-hm];exact List.mem_map_of_mem hx)] at hQ
   have tx:=(hp.mem x hx).mv λb o e q=>kp b o (λz=>hne x hx (by rw [e,z])) q
   have ty:=(hp.mem y hy).mv λb o e q=>kp b o (λz=>hne y hy (by rw [e,z])) q
   exact qSB tx ty hQ
  ·refine yE ((hu.map _).trans (by rw [hm];exact (uE ps).symm)) ?_ (qNj ps)
   rw [List.pairwise_map]
   refine List.Pairwise.imp_of_mem (λ{x y} hx hy hxy=>?_) hup
   have e:=So.rank_lt pP pA pz (l:=ps) (x:=gE s.heap y) (y:=gE s.heap x) (by rw [<-hm];exact List.mem_map_of_mem (hu.mem_iff.mp hy))
   rw [<-e]
   exact Qj AC
end
section
open PySem PySem.Spec PyProof.Rows L2
variable {X:Cx}
def TpV (K:Qb) (H:Hp):List V->List (List Int)->Prop
 | [],[]=>True
 | v::vs,i::is=>(∃a,v=.ref a/\SqT K H a (i.map V.int))/\TpV K H vs is
 | _,_=>False
theorem TpV.len {K:Qb}{H:Hp}:∀{vs:List V}{is:List (List Int)},TpV K H vs is->vs.length=is.length
 | [],[],_=>rfl
 | _::_,_::_,x=>congrArg (·+1) x.2.len
theorem wY:∀{is:List Int}{us:List Value},Vals (is.map V.int) us->IR us is
 | [],_,.nil=>trivial
 | _::_,_,.cons r t=>⟨r,wY t⟩
theorem yx {pins:List CA}{Z:L2.St}{H:Hp}{s:Shared}(I:Inv X pins Z H s):∀{vs:List V}{is:List (List Int)}{us:List Value},TpV X.K H vs is->Vals vs us->AllT s.heap us is
 | [],[],_,_,.nil=>trivial
 | v::vs,i::is,_,⟨⟨a,e,hq⟩,hr⟩,.cons r t=>by
  subst e
  cases r
  refine⟨?_,yx I hr t⟩
  obtain⟨its,rv,⟨o,e1,e2,n,e3⟩,hz⟩:=I.tuple hq
  exact⟨a,o,n,_,rfl,e1,e2,e3,wY rv⟩
noncomputable def rE:Value->V
 | .ref a=>.ref a
 | _=>.non
theorem xW {K:Qb}{H:Hp}{h:Heap}:∀{us:List Value},(∀u∈us,∃a,u=.ref a/\SqT K H a ((gE h u).map V.int))->TpV K H (us.map rE) (us.map (gE h))/\Vals (us.map rE) us
 | [],_=>⟨trivial,.nil⟩
 | u::us,hu=>by
  obtain⟨a,e,q⟩:=hu u bq
  obtain⟨x,y⟩:=xW (us:=us) λv hv=>hu v (bK _ hv)
  subst e
  exact⟨⟨⟨a,rfl,q⟩,x⟩,.cons rfl y⟩
theorem qMY {K:Qb}{H:Hp}{h:Heap}:∀(vs:List V) (is:List (List Int)) (us:List Value),TpV K H vs is->Vals vs us->AllT h us is->∀u∈us,∃a,u=.ref a/\SqT K H a ((gE h u).map V.int):=by
 intro vs
 induction vs with
 | nil =>
  intro is us _ r _ u hu
  cases r
  cases hu
 | cons v vs ih =>
  intro is us tp r ta u hu
  cases is with
  | nil=>exact tp.elim
  | cons i is =>
   cases r with
   | cons r1 t =>
    obtain⟨⟨a,e,hq⟩,hr⟩:=tp
    obtain⟨ta,tr⟩:=ta
    rcases yag.mp hu with rfl|hu
    ·subst e
     cases r1
     rw [qf ta]
     exact⟨a,rfl,hq⟩
    ·exact ih is _ hr t tr u hu
theorem qE9:CallR X (.builtin "sorted") (λxs H Q=>∃(p:Addr) (vs:List V) (is:List (List Int)),xs=[.ref p]/\SqL X.K H p vs/\TpV X.K H vs is/\(∀t∈is,t≠[])/\∀l ws,H l=none->TpV X.K H ws (g9 is)->Q (.ref l) (aB H l (.lst ws))):=by
 intro pins s Z H xs us Q I r h
 obtain⟨p,vs,is,rfl,hq,hh,hnd,q⟩:=h
 obtain⟨u,rfl,ru⟩:=gF r
 cases ru
 obtain⟨its,n,sl,rv,hls,e,hz0⟩:=Inv.lobj I hq
 have hlen:its.length=is.length:=by rw [<-rv.length];exact hh.len
 have hsz:its.length<=sizeLine:=by rw [<-hls];exact hz0
 refine PySem.Calls.call_function_entry kind_sorted plain_sorted entry_sorted (args_sorted1 _) ?_
 unfold Builtin.«sorted»
 refine Qc (m:=checkCount "sorted" 1 1 _) (Qd ?_)
 refine Qc (wpAny_collect_seq p (.inl rfl) e rfl rfl (λh' kp=>?_) (by rw [aO];omega))
 refine Qc (wpAny_newList ?_ (by rw [List.toList_toArray];omega))
 have I1:Inv X pins Z H { s with heap:=h' }:=I.kept (t':=s.toks) kp
 have hoL:(h'.push (seqObj "list" its.toArray 0)).get? h'.objs.size=some (seqObj "list" its.toArray 0):=Qh _ rfl
 have hA:AllT h' its is:=yx I1 hh rv
 have hA1:AllT (h'.push (seqObj "list" its.toArray 0)) its is:=hA.mv λv hv a o e q=>Qg _ q
 have back:∀v∈its,v≠.ref h'.objs.size:=λv hv z=>by
  obtain⟨x,o,_,_,e,e1,_⟩:=hA.mem v hv
  rw [e] at z
  cases z
  exact Qn (Qi e1) (fR _)
 refine Qc (wpAny_holding (wpAny_call_entry slot_list_sort ⟨_,hoL,rfl⟩ entry_list_sort (qHK hoL hA1 hnd back hsz λh'' m us kp2 hu hkey ha=>⟨_,rfl,?_⟩) (args_list_sort _)))
 have keys:us.map (gE h')=g9 is:=by
  rw [<-hkey]
  refine ri λu hu'=>?_
  have:=hA1.mem u (hu.mem_iff.mp hu')
  have t':=hA.mem u (hu.mem_iff.mp hu')
  exact (qf (t'.mv λa o e q=>Qg _ q)).symm
 obtain⟨tp,tv⟩:=xW (h:=h') (us:=us) λu hu'=>qMY _ _ _ hh rv hA u (hu.mem_iff.mp hu')
 rw [keys] at tp
 refine Qd ⟨.ref h'.objs.size,rfl,.ref h'.objs.size,_,I1.laid (t':=s.toks) (h':=h'') (a:=h'.objs.size) (o:=.lst (us.map rE)) (λb ob hb=>kp2 b ob (bV (Qi hb)) (Qg _ hb)) (au _) ⟨?_,us,m,tv,ha⟩,rfl,q _ _ (I1.hok.fresh (au _)) tp⟩
 rw [aw,hu.length_eq]
 exact hsz
theorem qKB {f:Value}{r r':List V->Hp->VK->Prop}(h:CallR X f r) (h':CallR X f r'):CallR X f (λxs H Q=>r xs H Q∨r' xs H Q):=
 λpins s Z H xs us Q I rv z=>z.elim (h pins s Z H xs us Q I rv) (h' pins s Z H xs us Q I rv)
end
end Dw
namespace Dw
open PySem PySem.Spec PyProof.Rows L2
noncomputable def mX:Ty->String
 | .int=>"int"|.bool=>"bool"|.tuple=>"tuple"|.list=>"list"|.str=>"str"
noncomputable def qKY:D->String
 | .non=>"NoneType"|.bl _=>"bool"|.int _=>"int"|.str _=>"str"|.tup _=>"tuple"|.lst _=>"list"|.dct _ _=>"NoneType"|.obj _ _=>"NoneType"
theorem qOk (K:Qb) (ty:Ty) (d:D):PySem.W.kitOne K (.type (qKY d)) (.type (mX ty))=some (oo ty d):=by
 cases ty<;>cases d<;>kernel_rfl
section
variable {X:Cx}
theorem qJr:CallR X (.builtin "isinstance") (λxs H Q=>∃(x:V) (d:D) (F:Fz) (ty:Ty) (b:Bool),xs=[x,.ty (mX ty)]/\RP X.K H F d x/\om ty d=some (false,.bl b)/\Q (.bl b) H):=by
 intro pins s Z H xs us Q I r h
 obtain⟨x,d,F,ty,b,rfl,hx,hb,q⟩:=h
 have hb2:b=oo ty d:=by cases d<;>first|(cases hb;rfl)|cases hb
 subst hb2
 obtain⟨u,w',rfl,ru,rw'⟩:=sG r
 have rw'':w'=Value.type (mX ty):=rw'
 subst rw''
 have fin:∀tk,EP X pins Z Q (.bool (oo ty d)) { s with toks:=tk }:=λtk=>⟨.bl _,H,I.tok tk,rfl,q⟩
 have e:=qOk X.K ty d
 have k:=fZ I hx ru
 cases d with
 | dct _ _=>exact Qn hx RP.noDct
 | obj _ _=>cases hb
 | non=>have k:u=.none:=k;subst k;exact kE PySem.W.kitx_none I.kIn True.intro e (λz=>nomatch z) fin
 | bl b=>have k:u=.bool b:=k;subst k;exact kE PySem.W.kitx_bool I.kIn True.intro e (λz=>nomatch z) fin
 | int i=>obtain⟨t,rfl⟩:=k;exact kE PySem.W.kitx_int I.kIn True.intro e (λz=>nomatch z) fin
 | str i=>obtain⟨t,rfl⟩:=k;exact kE PySem.W.kitx_str I.kIn True.intro e (λz=>nomatch z) fin
 | tup ds=>obtain⟨a,its,vs,rfl,⟨o,h1,h2,_⟩,_⟩:=k;exact kE PySem.W.kitx_tuple I.kIn ⟨o,h1,h2⟩ e (λz=>nomatch z) fin
 | lst ds=>obtain⟨a,its,vs,rfl,⟨o,h1,h2,_⟩,_⟩:=k;exact kE PySem.W.kitx_list I.kIn ⟨o,h1,h2⟩ e (λz=>nomatch z) fin
theorem qQl (neg:Bool):OpR X (compareOp (if neg then .IsNot else .Is)) (λx y H Q=>∃(d e:D) (F:Fz) (b:Bool),RP X.K H F d x/\RP X.K H F e y/\lX neg d e=some (false,.bl b)/\Q (.bl b) H):=by
 intro pins s Z H x y v u Q I rx ry h
 obtain⟨d,e,F,b,hx,hy,hb,q⟩:=h
 have kx:=fZ I hx rx
 have ky:=fZ I hy ry
 have fin:∀c:Bool,c=b->EP X pins Z Q (.bool c) s:=λc z=>⟨.bl c,H,I,rfl,by rw [z];exact q⟩
 have go:∀(c:Bool),plainIs v u=true->(v == u)=c->(if neg then !c else c)=b->wpAny C0 X.A (compareOp (if neg then .IsNot else .Is) v u) (EP X pins Z Q) X.xe s:=λc hp hv hc=>by
  subst hv
  cases neg with
  | true=>exact wpAny_isNot_plain hp (fin _ hc)
  | false=>exact wpAny_is_plain hp (fin _ hc)
 have no:∀{x y:Value},x≠y->(x == y)=false:=λh=>beq_eq_false_iff_ne.mpr h
 cases e with
 | non =>
  have ky:u=.none:=ky
  subst ky
  cases d with
  | dct _ _=>exact Qn hx RP.noDct
  | obj kn ds =>
   obtain⟨a,vs,rfl,_⟩:=hx.obj
   cases rx
   exact go false rfl (no (λz=>nomatch z)) CD
  | non=>have kx:v=.none:=kx;subst kx;exact go true rfl (beq_self_eq_true _) CD
  | bl c=>have kx:v=.bool c:=kx;subst kx;exact go false rfl (no (λz=>nomatch z)) CD
  | int c=>obtain⟨t,rfl⟩:=kx;exact go false rfl (no (λz=>nomatch z)) CD
  | str c=>obtain⟨t,rfl⟩:=kx;exact go false rfl (no (λz=>nomatch z)) CD
  | tup ds=>obtain⟨a,its,vs,rfl,_⟩:=kx;exact go false rfl (no (λz=>nomatch z)) CD
  | lst ds=>obtain⟨a,its,vs,rfl,_⟩:=kx;exact go false rfl (no (λz=>nomatch z)) CD
 | bl c2 =>
  have ky:u=.bool c2:=ky
  subst ky
  cases d with
  | dct _ _=>exact Qn hx RP.noDct
  | obj _ _=>cases hb
  | non=>have kx:v=.none:=kx;subst kx;exact go false rfl (no (λz=>nomatch z)) CD
  | bl c =>
   have kx:v=.bool c:=kx
   subst kx
   by_cases hc:c=c2
   ·subst hc
    exact go true rfl (beq_self_eq_true _) CD
   ·exact go false rfl (no (λz=>hc (by injection z))) (by cases neg<;>cases c<;>cases c2<;>simp at hb hc ⊢<;>exact hb)
  | int c=>obtain⟨t,rfl⟩:=kx;exact go false rfl (no (λz=>nomatch z)) CD
  | str c=>obtain⟨t,rfl⟩:=kx;exact go false rfl (no (λz=>nomatch z)) CD
  | tup ds=>obtain⟨a,its,vs,rfl,_⟩:=kx;exact go false rfl (no (λz=>nomatch z)) CD
  | lst ds=>obtain⟨a,its,vs,rfl,_⟩:=kx;exact go false rfl (no (λz=>nomatch z)) CD
 | _=>cases d<;>simp at hb
theorem qQm (hu:X.A.units+20<cLine):OpR X (compareOp .Eq) (λx y H Q=>∃(d e:D) (F:Fz),RP X.K H F d x/\RP X.K H F e y/\(cR 20 d||cR 20 e)=true/\cH d=true/\cH e=true/\Q (.bl (aY d e)) H):=by
 intro pins s Z H x y v u Q I rx ry h
 obtain⟨d,e,F,hx,hy,hs,n1,n2,q⟩:=h
 exact (si I 20 d e x y v u X.A hx hy rx ry hs n1 n2 hu).2.1 _ _ _ _ ⟨.bl _,H,I,rfl,q⟩
theorem qQt (I:Inv X pins Z H s) (hx:RP X.K H F (.lst ds) x) (hy:RP X.K H F CG y) (ru:RelV x u) (rv:RelV y v) (hA:A.units<cLine):SeqAt.RcNeAt A s u v (!ds.isEmpty):=by
 obtain⟨a,its,vs,rfl,p,hd,hv⟩:=fZ I hx ru
 obtain⟨b,its2,vs2,rfl,p2,hd2,hv2⟩:=fZ I hy rv
 have l1:=RDs.length hd
 have l2:=RDs.length hd2
 have l3:=hv.length
 have l4:=hv2.length
 rw [mI] at l2
 by_cases hsz:its.toArray.size=its2.toArray.size
 ·simp only [aO] at hsz
  have e:ds=[]:=ybl.mp AC
  have e0:its.length=0:=by omega
  subst e
  have r2:=SeqAt.RcNeAt.lists (e:=λ_=>true) p p2 (by simpa using hsz) hA (λj h1 h2=>Qn h1 (by simp [e0]))
  rw [show its.toArray.size=0 by simpa using e0] at r2
  exact r2
 ·have hb:(its.toArray.size != its2.toArray.size)=true:=by simpa using hsz
  simp only [aO] at hsz
  have e:ds.isEmpty=false:=by
   cases ds with
   | nil=>rw [mI] at l1;omega
   | cons _ _=>rfl
  rw [e]
  exact SeqAt.RcNeAt.lists_lengths p p2 hb hA
theorem qQk (hu:X.A.units+20<cLine):OpR X (compareOp .NotEq) (λx y H Q=>∃(d e:D) (F:Fz) (b:Bool),RP X.K H F d x/\RP X.K H F e y/\gW .ne d e=some (false,.bl b)/\Q (.bl b) H):=by
 intro pins s Z H x y v u Q I rx ry h
 obtain⟨d,e,F,b,hx,hy,hs,q⟩:=h
 rw [gW] at hs
 split at hs
 ·rename_i hc
  cases hs
  simp only [aP] at hc
  exact (si I 20 d e x y v u X.A hx hy rx ry hc.1 hc.2.1 hc.2.2 hu).2.2 _ _ _ _ ⟨.bl _,H,I,rfl,q⟩
 ·unfold oJ at hs
  split at hs
  ·cases hs
   exact qQt I hx hy rx ry AC _ _ _ _ ⟨.bl _,H,I,rfl,q⟩
  ·cases hs
theorem RDs.at_ {K:Qb}{H:Hp}{F:Fz}:∀{ds:List D}{vs:List V},RDs K H F ds vs->∀i,i<vs.length->RD K H F (ds.getD i .non) (vs.getD i .non)
 | [],_,h,i,hi=>by cases h;exact Qn hi (Nat.not_lt_zero _)
 | _::_,_,⟨v,r,e,h1,h2⟩,i,hi=>by
  subst e
  cases i with
  | zero=>exact h1
  | succ i=>exact RDs.at_ h2 i (Nat.lt_of_succ_lt_succ hi)
theorem uL (r:Vals vs us) (i:Nat) (hi:i<vs.length):L2.RelV (vs.getD i .non) (us.getD i .none):=by
 obtain⟨u,e1,e2⟩:=r.get (i:=i) (x:=vs[i]) (cN hi)
 rw [kP,cN hi,kP,e1]
 exact e2
theorem iP {Z:L2.St}{H:Hp}{F:Fz}(I:Inv X pins Z H s) (hu:X.A.units+20<cLine) {d:D}{ds:List D}{x:V}{v:Value}{vs:List V}{us:List Value}(hx:RP X.K H F d x) (rx:L2.RelV x v) (hr:RDs X.K H F ds vs) (rv:Vals vs us) (hs:cR 19 d=true) (n1:cH d=true) (n2:fC ds=true) :
  ∃e:Value->Bool,(∀y,y∈us.toArray->SeqAt.EqAt X.A.in1 s y v (e y))/\us.toArray.any e=il ds d/\∀i,i<vs.length->e (us.getD i .none)=aY (ds.getD i .non) d:=by
 have hl:vs.length=us.length:=rv.length
 have hd:vs.length=ds.length:=RDs.length hr
 have he:∀i,i<vs.length->SeqAt.EqAt X.A.in1 s (us.getD i .none) v (aY (ds.getD i .non) d):=λi hi =>
  (si I 19 _ _ _ _ _ _ X.A.in1 (.inl (RDs.at_ hr i hi)) hx (uL rv i hi) rx (by rw [hs,Bool.or_true]) (lT i n2) n1 (by rw [Aw];omega)).1
 have same:∀i j,i<vs.length->j<vs.length->us.getD i .none=us.getD j .none->ds.getD i .non=ds.getD j .non:=λi j hi hj e=>by
  have a:=uL rv i hi
  rw [e] at a
  have b:=a.inj (uL rv j hj)
  have c:=RDs.at_ hr i hi
  rw [b] at c
  exact RP.inj I (lT i n2) (lT j n2) (.inl c) (.inl (RDs.at_ hr j hj))
 have val:∀i,i<vs.length->@decide (∃j,j<vs.length/\us.getD j .none=us.getD i .none/\aY (ds.getD j .non) d=true) (Classical.propDecidable _)=aY (ds.getD i .non) d:=λi hi'=>by
  cases hq:aY (ds.getD i .non) d with
  | true=>exact @decide_eq_true _ (Classical.propDecidable _) ⟨i,hi',rfl,hq⟩
  | false =>
   refine @decide_eq_false _ (Classical.propDecidable _) ?_
   rintro⟨j,hj,ej,qj⟩
   rw [same j i hj hi' ej,hq] at qj
   cases qj
 refine⟨λy=>@decide (∃i,i<vs.length/\us.getD i .none=y/\aY (ds.getD i .non) d=true) (Classical.propDecidable _),λy hy=>?_,?_,val⟩
 ·obtain⟨i,hi,rfl⟩:=List.mem_iff_getElem.mp (by simpa using hy:y∈us)
  have hi':i<vs.length:=by omega
  have g:us.getD i .none=us[i]:=by rw [kP,cN hi];rfl
  have h:=he i hi'
  rw [g] at h
  have e:=val i hi'
  rw [g] at e
  show SeqAt.EqAt X.A.in1 s us[i] v (@decide (∃j,j<vs.length/\us.getD j .none=us[i]/\aY (ds.getD j .non) d=true) (Classical.propDecidable _))
  rw [e]
  exact h
 ·unfold il
  rw [List.any_toArray,Bool.eq_iff_iff,List.any_eq_true,List.any_eq_true]
  constructor
  ·rintro⟨y,_,hy⟩
   obtain⟨i,hi,_,q⟩:=@of_decide_eq_true _ (Classical.propDecidable _) hy
   rw [kP,cN (show i<ds.length by omega)] at q
   exact⟨_,i8 (show i<ds.length by omega),q⟩
  ·rintro⟨d',hd',q⟩
   obtain⟨i,hi,rfl⟩:=List.mem_iff_getElem.mp hd'
   refine⟨us[i],i8 (show i<us.length by omega),@decide_eq_true _ (Classical.propDecidable _) ⟨i,by omega,?_,?_⟩⟩
   ·rw [kP,cN (show i<us.length by omega)];rfl
   ·rw [kP,cN hi];exact q
end
end Dw
namespace Dw
open PySem PySem.Spec PyProof.Rows L2
def RG (K:Qb) (H:Hp) (F:Fz) (d:D) (v:V):Prop:=RD K H F d v∨∃a ks,d=.dct false ks/\v=.ref a/\¬F a/\H a=some (.dK (dk ks))
def RGs (K:Qb) (H:Hp) (F:Fz):List D->List V->Prop
 | [],vs=>vs=[]
 | d::ds,vs=>∃v r,vs=v::r/\RG K H F d v/\RGs K H F ds r
theorem RG.grow {K:Qb}{H H1:Hp}{F F1:Fz}(g:Gr H F H1 F1) {d:D}{v:V}(h:RG K H F d v):RG K H1 F1 d v:=
 h.elim (λz=>.inl (RD.mono g.keep z)) λ⟨a,ks,e1,e2,e3,e4⟩=>.inr ⟨a,ks,e1,e2,(λz=>(g.new a z).elim e3 λz=>Qn (e4.symm.trans z) C2),g.same _ _ e4⟩
theorem RGs.of {K:Qb}{H:Hp}{F:Fz}:∀{ds:List D}{vs:List V},RDs K H F ds vs->RGs K H F ds vs
 | [],_,h=>h
 | _::_,_,⟨v,r,e,h1,h2⟩=>⟨v,r,e,.inl h1,RGs.of h2⟩
theorem RGs.length {K:Qb}{H:Hp}{F:Fz}:∀{ds:List D}{vs:List V},RGs K H F ds vs->vs.length=ds.length
 | [],_,h=>by rw [show _=[] from h];rfl
 | _::_,_,⟨v,r,e,h1,h2⟩=>by rw [e,de,de,RGs.length h2]
theorem RGs.get {K:Qb}{H:Hp}{F:Fz}:∀{ds:List D}{vs:List V}{i:Nat}{d:D},RGs K H F ds vs->ds[i]?=some d->∃v,vs[i]?=some v/\RG K H F d v
 | [],_,_,_,_,e=>by simp at e
 | x::ds,_,i,d,⟨v,r,e1,h1,h2⟩,e=>by
  subst e1
  cases i with
  | zero=>simp at e;subst e;exact⟨v,rfl,h1⟩
  | succ i=>simp at e;obtain⟨w,q1,q2⟩:=RGs.get h2 e;exact⟨w,by simpa using q1,q2⟩
noncomputable def jI (K:Qb) (n:Nat) (f:List D->Option R):Sp:=λvs H Q _=>vs.length=n/\∃(F:Fz) (ds:List D) (r:R),TB H/\(∀a,H a=none->¬F a)/\RGs K H F ds vs/\f ds=some r /\
 ∀v H' F',Gr H F H' F'->RR K H H' F' r v->Q v H'
noncomputable def del (H:Hp) (a:Addr):Hp:=λb=>if b=a then none else H b
def spH (K:Qb) (n:Nat) (f:List D->Option R):Sp:=λvs H Q _=>vs.length=n/\∃(F:Fz) (a:Addr) (xs ds ys:List D) (ws us:List V) (b:Bool),vs=.ref a::us/\(∀a,H a=none->¬F a)/\H a=some (.lst ws)/\¬F a/\RDs K H F xs ws/\RDs K H F ds us/\f (.lst xs::ds)=some (b,.lst ys) /\
 ∀H' F' zs,Gr (del H a) F H' F'->H' a=some (.lst zs)->¬F' a->RDs K H' F' ys zs->Q .non H'
structure Dfh (call:Nat->List D->Option R) (k:Nat) (X:Cx) (f:Str) (i:Nat):Prop where
 ex:∃(a:Addr) (fd:FuncData) (ps:List Str),X.mg f=some (.ref a)/\PySem.W.keepIn X.K (.ref a)=true/\Binds X.K fd ps []/\FnOk X.prog X.w X.K X.mg X.base fO k a fd ps (spH X.K ps.length (call (i+HX)))/\∀ds r,call (i+HX) ds=some r->ds.length=ps.length
structure Dfn (G:Gx) (call:Nat->List D->Option R) (k:Nat) (X:Cx) (f:Str) (i:Nat):Prop where
 ex:∃(a:Addr) (fd:FuncData) (ps:List Str),X.mg f=some (.ref a)/\PySem.W.keepIn X.K (.ref a)=true/\Binds X.K fd ps []/\FnOk X.prog X.w X.K X.mg X.base fO k a fd ps (jI X.K ps.length (call i))/\(∀ds r,call i ds=some r->ds.length=ps.length)/\∀m d,G.dfl.lookup f=some (m,d)->∃t,Binds X.K fd ps [.int d t]
noncomputable def kV:D->V
 | .int i=>.int i
 | .bl b=>.bl b
 | .str x=>.str x
 | _=>.non
noncomputable def cf:List Str:=["len","abs","min","max","sum","all","tuple","list","int","bool","str","isinstance","range","zip","reversed","sorted","enumerate","any"].map Qa
structure Dfl (call:Nat->List D->Option R) (k:Nat) (P:Program) (w:World) (K:Qb) (mg:Str->Option Value) (base:Heap) (i:Nat) (L:LamD):Prop where
 ex:∃ps:List Str,L.sc.kind=.function/\L.sc.isCoroutine=false/\L.sc.isGenerator=false/\(∀y∈L.sc.names,y.2≠.cell)/\(∀x∈ps,L.sc.names.lookup x=some .local)/\(∀y∈aF L.sc,L.sc.names.lookup y=some .free)/\ps.Nodup /\
  (∀clos pm c ctv (us:List Value),us.length=ps.length->bindArgs (PySem.W.kla_fn "<lambda>" L.q L.la L.e L.sc clos pm (.ref c) ctv) ⟨us,[]⟩=pure (ps.zip us))/\(∀as r,call i as=some r->as.length=ps.length+(aF L.sc).length) /\
  ∀(f c:Addr) (clos:List (Str×Addr)) (A:Around) (outer:List Env) (s:Shared) (H0:Hp),Room k A->∃t:TE,PE (kW P w K mg base (ps++aF L.sc) L.q L.sc f (.ref c) clos A outer s H0) L.e t /\
    ∀(H:Hp) (F:Fz) (es ds:List D) (ws vs:List V) (r:R) (Q:VK),TB H->(∀a,H a=none->¬F a)->call i (es++ds)=some r->RDs K H F es ws->RDs K H F ds vs->ws.length=ps.length->vs.length=(aF L.sc).length ->
      (∀v' H' F',Gr H F H' F'->RR K H H' F' r v'->Q v' H')->t (ws.map some++vs.map some) H Q
structure CnD (P:Program) (w:World) (K:Qb) (mg:Str->Option Value) (G:Gx):Prop where
 c:∀x i,G.cons.lookup x=some i->∃t,mg x=some (.int i t)
structure XG (call:Nat->List D->Option R) (G:Gx) (k:Nat) (X:Cx) (sc:Scope) (N:List Str):Prop where
 hN:X.N=N
 nd:N.Nodup
 vis:∀x,jT sc x=true->jA X.env.scope x
 loc:∀x,(sc.names.lookup x == some .local||sc.names.lookup x == some .cell)=true->mf X.env.scope x/\(X.fn x=true∨X.env.scope.names.lookup x=some .local)
 gl:∀x,bJ sc x=true->Gl X x
 cap:∀x,jP sc x=true->X.env.kindOf x=some .cell∨X.env.kindOf x=some .free
 calm:X.calm=true
 xe:X.xe=λ_ _=>False
 room:Room k X.A
 defs:∀f i,G.defs.lookup f=some i->Dfn G call k X f i
 blt:∀x,G.defs.lookup x=none->x∈cf->X.mg x=none
 cons:CnD X.prog X.w X.K X.mg G
 lam:∀i L,lamX.lookup i=some L->Dfl call k X.prog X.w X.K X.mg X.base i L
section
variable {call:Nat->List D->Option R}{G:Gx}{k:Nat}{X:Cx}{sc:Scope}{N:List Str}
variable (call X) in
def SndE (e:Expr) (c:C):Prop:=∃t:TE,PE X e t/\∀(Ge:Gp) (H:Hp) (F:Fz) (Z:En) (τ:L2.St) (r:R) (Q:VK),aa call Z c=some r->SR X.K Ge H F Z τ->(∀v H' F',Gr H F H' F'->RR X.K H H' F' r v->Q v H')->t τ H Q
variable (call X) in
def eg (e:Expr) (c:C):Prop:=∃t:TE,PE X e t/\∀(Ge:Gp) (H:Hp) (F:Fz) (Z:En) (τ:L2.St) (d:D) (Q:VK),pk Z c (aa call Z c)=some d->SR X.K Ge H F Z τ->(∀v H' F',Gr H F H' F'->RP X.K H' F' d v->Q v H')->t τ H Q
variable (call X) in
def dH (e:Expr) (c:C):Prop:=∃t:TT,PT X e t/\∀(Ge:Gp) (H:Hp) (F:Fz) (Z:En) (τ:L2.St) (x b:Bool) (Q:Bool->Hp->Prop),aa call Z c=some (x,.bl b)->SR X.K Ge H F Z τ->(∀H' F',Gr H F H' F'->Q b H')->t τ H Q
variable (call X) in
def jN (es:List Expr) (cs:List C):Prop:=∃t:TA,PA X es t/\∀(Ge:Gp) (H:Hp) (F:Fz) (Z:En) (τ:L2.St) (ds:List D) (Q:List V->Hp->Prop),dC call Z cs=some ds->SR X.K Ge H F Z τ->(∀vs H' F',Gr H F H' F'->RDs X.K H' F' ds vs->Q vs H')->t τ H Q
def RPs (K:Qb) (H:Hp) (F:Fz):List D->List V->Prop
 | [],vs=>vs=[]
 | d::ds,vs=>∃v r,vs=v::r/\RP K H F d v/\RPs K H F ds r
variable (call X) in
def jo (es:List Expr) (cs:List C):Prop:=∃t:TA,PA X es t/\∀(Ge:Gp) (H:Hp) (F:Fz) (Z:En) (τ:L2.St) (ds:List D) (Q:List V->Hp->Prop),cu call Z cs=some ds->SR X.K Ge H F Z τ->(∀vs H' F',Gr H F H' F'->RPs X.K H' F' ds vs->Q vs H')->t τ H Q
variable (call X) in
def oZ (e:Expr) (c:C):Prop:=∃t:TE,PE X e t/\∀(Ge:Gp) (H:Hp) (F:Fz) (Z:En) (τ:L2.St) (d:D) (Q:VK),ag Z c (aa call Z c)=some d->SR X.K Ge H F Z τ->(∀v H' F',Gr H F H' F'->RG X.K H' F' d v->Q v H')->t τ H Q
variable (call X) in
def mR (es:List Expr) (cs:List C):Prop:=∃t:TA,PA X es t/\∀(Ge:Gp) (H:Hp) (F:Fz) (Z:En) (τ:L2.St) (ds:List D) (Q:List V->Hp->Prop),fv call Z cs=some ds->SR X.K Ge H F Z τ->(∀vs H' F',Gr H F H' F'->RGs X.K H' F' ds vs->Q vs H')->t τ H Q
variable (call X) in
def mM (e:Option Expr) (c:Option C):Prop:=∃t:TO,PO X e t/\∀(Ge:Gp) (H:Hp) (F:Fz) (Z:En) (τ:L2.St) (o:Option Int) (Q:Option Int->Hp->Prop),gO call Z c=some o->SR X.K Ge H F Z τ->(∀H' F',Gr H F H' F'->Q o H')->t τ H Q
theorem SndE.look (h:SndE call X e c) (hc:∀i,c≠.v i):eg call X e c:=by
 obtain⟨t,p,q⟩:=h
 refine⟨t,p,λGe H F Z τ d Q hd hs k=>?_⟩
 have hd':(aa call Z c).map (·.2)=some d:=by
  cases c with
  | v i=>exact Qn rfl (hc i)
  | _=>exact hd
 cases hr:aa call Z c with
 | none=>rw [hr] at hd';cases hd'
 | some r =>
  rw [hr] at hd'
  cases hd'
  exact q Ge H F Z τ r Q hr hs λv H' F' g z=>k v H' F' g z.look
theorem SndE.lend (h:SndE call X e c) (hc:∀i,c≠.v i):oZ call X e c:=by
 obtain⟨t,p,q⟩:=h
 refine⟨t,p,λGe H F Z τ d Q hd hs k=>?_⟩
 have hd':(aa call Z c).map (·.2)=some d:=by
  cases c with
  | v i=>exact Qn rfl (hc i)
  | _=>exact hd
 cases hr:aa call Z c with
 | none=>rw [hr] at hd';cases hd'
 | some r =>
  rw [hr] at hd'
  cases hd'
  refine q Ge H F Z τ r Q hr hs λv H' F' g z=>?_
  obtain⟨F2,g2,rd⟩:=z.fz g
  exact k v H' F2 g2 (.inl rd)
theorem iJ (h:bQ N x=some i):N[i]?=some x:=by
 unfold bQ at h
 obtain⟨h1,h2,_⟩:=List.findIdx?_eq_some_iff_getElem.mp h
 rw [cN h1]
 simpa using h2
theorem mY (g:XG call G k X sc N) (h:dw sc N x=some i):X.N[i]?=some x/\jA X.env.scope x/\(x == ("__debug__":Str))=false/\(x == ("__classdict__":Str))=false:=by
 unfold dw at h
 split at h
 ·rename_i hv
  rw [aP] at hv
  have hp:=hv.2
  unfold f6 at hp
  simp only [aP,bne_iff_ne,ne_eq] at hp
  refine⟨by rw [g.hN];exact iJ h,g.vis x hv.1,?_,?_⟩
  ·exact beq_eq_false_iff_ne.mpr hp.1.1
  ·exact beq_eq_false_iff_ne.mpr hp.1.2
 ·cases h
theorem zS (g:XG call G k X sc N) (h:dw sc N x=some i):SndE call X (.Name x pos) (.v i)/\eg call X (.Name x pos) (.v i)/\oZ call X (.Name x pos) (.v i):=by
 obtain⟨h1,h2,h3,h4⟩:=mY g h
 refine⟨?_,?_,?_⟩
 ·refine⟨_,ju h1 h2 h3 h4,λGe H F Z τ r Q hr hs k=>?_⟩
  change k4 (ao Z i)=some r at hr
  cases hv:ao Z i with
  | none=>rw [hv] at hr;cases hr
  | some z =>
   obtain⟨b,d⟩:=z
   rw [hv] at hr
   cases b with
   | true=>cases hr
   | false =>
    cases hr
    obtain⟨v,e,rd⟩:=hs.val i d hv
    exact⟨v,e,k v H F (Gr.refl hs.dom) rd⟩
 ·refine⟨_,ju h1 h2 h3 h4,λGe H F Z τ d Q hr hs k=>?_⟩
  change (ao Z i).bind aQ=some d at hr
  cases hv:ao Z i with
  | none=>rw [hv] at hr;cases hr
  | some z =>
   obtain⟨b,d'⟩:=z
   rw [hv] at hr
   cases b with
   | false =>
    cases hr
    obtain⟨v,e,rd⟩:=hs.val i _ hv
    exact⟨v,e,k v H F (Gr.refl hs.dom) (.inl rd)⟩
   | true =>
    cases d' with
    | lst ds' =>
     cases hr
     obtain⟨a,ds,vs,e1,e2,e3,e4,e5,e6⟩:=hs.own i _ hv rfl
     exact⟨.ref a,e2,k _ H F (Gr.refl hs.dom) (.inr ⟨a,ds,vs,e1,rfl,e5,e6⟩)⟩
    | _=>cases hr
 ·refine⟨_,ju h1 h2 h3 h4,λGe H F Z τ d Q hr hs k=>?_⟩
  change (ao Z i).bind qP=some d at hr
  cases hv:ao Z i with
  | none=>rw [hv] at hr;cases hr
  | some z =>
   obtain⟨b,d'⟩:=z
   rw [hv] at hr
   cases b with
   | false =>
    cases hr
    obtain⟨v,e,rd⟩:=hs.val i _ hv
    exact⟨v,e,k v H F (Gr.refl hs.dom) (.inl rd)⟩
   | true =>
    cases d' with
    | dct m ks =>
     cases hr
     obtain⟨a,e1,e2,e3,e4⟩:=hs.dct i m ks hv
     exact⟨.ref a,e1,k _ H F (Gr.refl hs.dom) (.inr ⟨a,ks,rfl,rfl,e2,e3⟩)⟩
    | _=>cases hr
theorem AB (h:qG c=some d):SndE call X (.Constant c j pos) (.k d):=by
 cases c with
 | int i=>cases h;exact⟨_,qQc,λGe H F Z τ r Q hr hs k=>by cases hr;exact k _ H F (Gr.refl hs.dom) rfl⟩
 | bool i=>cases h;exact⟨_,qSp,λGe H F Z τ r Q hr hs k=>by cases hr;exact k _ H F (Gr.refl hs.dom) rfl⟩
 | str x=>cases h;exact⟨_,qP6,λGe H F Z τ r Q hr hs k=>by cases hr;exact k _ H F (Gr.refl hs.dom) rfl⟩
 | none=>cases h;exact⟨_,qP9,λGe H F Z τ r Q hr hs k=>by cases hr;exact k _ H F (Gr.refl hs.dom) rfl⟩
 | _=>cases h
theorem qPF (g:XG call G k X sc N) (h:ku G sc x=some c):SndE call X (.Name x pos) c/\∀i,c≠.v i:=by
 unfold ku at h
 split at h
 ·rename_i hb
  rw [aP] at hb
  cases hc:G.cons.lookup x with
  | none=>rw [hc] at h;cases h
  | some i =>
   rw [hc] at h
   cases h
   obtain⟨t,ht⟩:=g.cons.c x i hc
   have hd:(x == ("__debug__":Str))=false:=by
    have:=hb.2
    unfold f6 at this
    simp only [aP,bne_iff_ne,ne_eq] at this
    simpa using this.1.1
   exact⟨⟨_,qNT (v:=.int i) (g.gl x hb.1) ht ⟨t,rfl⟩ hd,λGe H F Z τ r Q hr hs k=>by cases hr;exact k _ H F (Gr.refl hs.dom) rfl⟩,λi z=>nomatch z⟩
 ·cases h
def fy (X:Cx) (f:Value->Value->Sem Value) (b:D->D->Option R):Prop:=
 ∃r:R2,OpR X f r/\∀(H:Hp) (F:Fz) (d e:D) (x y:V) (z:R) (Q:VK),b d e=some z->(∀a,H a=none->¬F a)->RP X.K H F d x->RP X.K H F e y->(∀v H' F',Gr H F H' F'->RR X.K H H' F' z v->Q v H')->r x y H Q
theorem oS {α β γ:Type}{a:Option α}{b:Option β}{f:α->β->Option γ}{z:γ}(h:(a.bind λx=>b.bind λy=>f x y)=some z):∃x y,a=some x/\b=some y/\f x y=some z:=by
 cases a with
 | none=>cases h
 | some x =>
  cases b with
  | none=>cases h
  | some y=>exact⟨x,y,rfl,rfl,h⟩
theorem ah {α γ:Type}{a:Option α}{f:α->Option γ}{z:γ}(h:a.bind f=some z):∃x,a=some x/\f x=some z:=by
 cases a with
 | none=>cases h
 | some x=>exact⟨x,rfl,h⟩
theorem k6 {a b:Expr}{ca cb:C}{ta tb:TE}{Ge:Gp}{H:Hp}{F:Fz}{Z:En}{τ:L2.St}{x y:D}{R':V->V->Hp->Prop}
  (qa:∀(Ge:Gp) (H:Hp) (F:Fz) (Z:En) (τ:L2.St) (d:D) (Q:VK),pk Z ca (aa call Z ca)=some d->SR X.K Ge H F Z τ->(∀v H' F',Gr H F H' F'->RP X.K H' F' d v->Q v H')->ta τ H Q)
  (qb:∀(Ge:Gp) (H:Hp) (F:Fz) (Z:En) (τ:L2.St) (d:D) (Q:VK),pk Z cb (aa call Z cb)=some d->SR X.K Ge H F Z τ->(∀v H' F',Gr H F H' F'->RP X.K H' F' d v->Q v H')->tb τ H Q)
  (ex:pk Z ca (aa call Z ca)=some x) (ey:pk Z cb (aa call Z cb)=some y) (hs:SR X.K Ge H F Z τ)
  (h:∀v w H2 F2,Gr H F H2 F2->RP X.K H2 F2 x v->RP X.K H2 F2 y w->R' v w H2):ta τ H λv H1=>tb τ H1 λw H2=>R' v w H2:=by
 refine qa Ge H F Z τ x _ ex hs λv H1 F1 g1 r1=>?_
 refine qb Ge H1 F1 Z τ y _ ey (hs.grow g1) λw H2 F2 g2 r2=>?_
 exact h v w H2 F2 (g1.trans g2) (r1.grow g2) r2
theorem qNB {a b:Expr}{ca cb:C}{op:Operator}{o:BOp}{pos:Pos}(ho:fy X (binaryOp op) (fV o)) (ha:eg call X a ca) (hb:eg call X b cb):SndE call X (.BinOp a op b pos) (.bin o ca cb):=by
 obtain⟨r,hr,hq⟩:=ho
 obtain⟨ta,pa,qa⟩:=ha
 obtain⟨tb,pb,qb⟩:=hb
 refine⟨_,qSn hr pa pb,λGe H F Z τ z Q hz hs k=>?_⟩
 obtain⟨x,y,ex,ey,ez⟩:=oS (by simpa only [y9] using hz)
 refine k6 (a:=a) (b:=b) qa qb ex ey hs λv w H2 F2 g rx ry=>?_
 exact hq H2 F2 x y v w z Q ez g.dom rx ry λu H' F' g' rr=>k u H' F' (g.trans g') (rr.back g.same)
theorem qNA {a b:Expr}{ca cb:C}{op:CmpOp}{o:COp}{pos:Pos}(ho:fy X (compareOp op) (gW o)) (hm:behindInMarks op b=false) (hb2:∀x y z,gW o x y=some z->∃c,z=(false,.bl c)) (ha:eg call X a ca) (hb:eg call X b cb) :
  SndE call X (.Compare a [op] [b] pos) (.cmp o ca cb)/\dH call X (.Compare a [op] [b] pos) (.cmp o ca cb):=by
 obtain⟨r,hr,hq⟩:=ho
 obtain⟨ta,pa,qa⟩:=ha
 obtain⟨tb,pb,qb⟩:=hb
 constructor
 ·refine⟨_,yL hr pa pb hm,λGe H F Z τ z Q hz hs k=>?_⟩
  obtain⟨x,y,ex,ey,ez⟩:=oS (by simpa only [tP] using hz)
  refine k6 (a:=a) (b:=b) qa qb ex ey hs λv w H2 F2 g rx ry=>?_
  exact hq H2 F2 x y v w z Q ez g.dom rx ry λu H' F' g' rr=>k u H' F' (g.trans g') (rr.back g.same)
 ·refine⟨_,zy hr pa pb hm,λGe H F Z τ xx bb Q hz hs k=>?_⟩
  obtain⟨x,y,ex,ey,ez⟩:=oS (by simpa only [tP] using hz)
  refine k6 (a:=a) (b:=b) qa qb ex ey hs λv w H2 F2 g rx ry=>?_
  obtain⟨c,ec⟩:=hb2 _ _ _ ez
  cases ec
  exact hq H2 F2 x y v w _ _ ez g.dom rx ry λu H' F' g' rr=>⟨bb,rr,k H' F' (g.trans g')⟩
theorem iI {K:Qb}{H:Hp}{F:Fz}{ds:List D}{vs:List V}{p:Addr}(dom:∀a,H a=none->¬F a) (hp:H p=none) (h:RDs K H F ds vs) :
  Gr H F (aB H p (.lst vs)) F/\RR K H (aB H p (.lst vs)) F (true,.lst ds) (.ref p):=by
 have g:Gr H F (aB H p (.lst vs)) F:=Gr.laid dom hp
 exact⟨g,p,ds,vs,rfl,rfl,hp,dom p hp,dX,RDs.mono g.keep h⟩
theorem lS {K:Qb}{H:Hp}{F:Fz}{ds:List D}{vs:List V}{p:Addr}(dom:∀a,H a=none->¬F a) (hp:H p=none) (h:RDs K H F ds vs) :
  Gr H F (aB H p (.tup vs)) F/\RR K H (aB H p (.tup vs)) F (false,.tup ds) (.ref p):=by
 have g:Gr H F (aB H p (.tup vs)) F:=Gr.laid dom hp
 exact⟨g,p,vs,rfl,SqT.of dX,RDs.mono g.keep h⟩
theorem ng {Cc:Int->Int->Prop}{gg:Int->Int->V}{kk:Int->Int->D}(h:OpR X f (rI Cc gg))
  (hb:∀d e z,b d e=some z->∃i j,d=.int i/\e=.int j/\Cc i j/\z=(false,kk i j)) (hk:∀(H:Hp) (F:Fz) i j,RD X.K H F (kk i j) (gg i j)):fy X f b:=by
 refine⟨_,h,λH F d e x y z Q hz dom hx hy k=>?_⟩
 obtain⟨i,j,rfl,rfl,hc,rfl⟩:=hb d e z hz
 exact⟨i,j,hx.int,hy.int,hc,k _ H F (Gr.refl dom) (hk H F i j)⟩
theorem nk {gg:Int->Int->V}{kk:Int->Int->D}(h:OpR X f (iN gg))
  (hb:∀d e z,b d e=some z->∃i j,d=.int i/\e=.int j/\z=(false,kk i j)) (hk:∀(H:Hp) (F:Fz) i j,RD X.K H F (kk i j) (gg i j)):fy X f b:=by
 refine⟨_,h,λH F d e x y z Q hz dom hx hy k=>?_⟩
 obtain⟨i,j,rfl,rfl,rfl⟩:=hb d e z hz
 exact⟨i,j,hx.int,hy.int,k _ H F (Gr.refl dom) (hk H F i j)⟩
theorem dj [Decidable c] (h:(if c then some a else none)=some b):c/\a=b:=by
 by_cases hc:c
 ·rw [Ql hc] at h;exact⟨hc,gw h⟩
 ·rw [Qm hc] at h;cases h
theorem qNV:fy X (binaryOp .Sub) (fV .sub):=nk (kk:=λi j=>.int (i - j)) qQj (λd e z h=>by
 cases d<;>first|(cases h;done)|(cases e<;>first|(cases h;exact⟨_,_,rfl,rfl,rfl⟩)|cases h)) λ_ _ _ _=>rfl
theorem qKC:fy X (binaryOp .FloorDiv) (fV .fdiv):=ng (kk:=λi j=>.int (i.fdiv j)) qKE (λd e z h=>by
 cases d<;>first|(cases h;done)|(cases e<;>first|(obtain⟨h1,rfl⟩:=dj h;exact⟨_,_,rfl,rfl,h1,rfl⟩)|cases h)) λ_ _ _ _=>rfl
theorem qNY:fy X (binaryOp .Mod) (fV .mod):=ng (kk:=λi j=>.int (i.fmod j)) qN3 (λd e z h=>by
 cases d<;>first|(cases h;done)|(cases e<;>first|(obtain⟨h1,rfl⟩:=dj h;exact⟨_,_,rfl,rfl,h1,rfl⟩)|cases h)) λ_ _ _ _=>rfl
theorem qNW:fy X (binaryOp .Pow) (fV .pow):=ng (kk:=λi j=>.int (i^j.toNat)) qN2 (λd e z h=>by
 cases d<;>first|(cases h;done)|(cases e<;>first|(obtain⟨h1,rfl⟩:=dj h;exact⟨_,_,rfl,rfl,h1,rfl⟩)|cases h)) λ_ _ _ _=>rfl
theorem qOO (h1:0<=x) (h2:0<=y):Builtin.bitAnd x y=((x.toNat &&& y.toNat:Nat):Int):=by
 unfold Builtin.bitAnd;rw [Qk h1,Qk h2]
theorem qRk (h1:0<=x) (h2:0<=y):Builtin.bitOr x y=((x.toNat ||| y.toNat:Nat):Int):=by
 have n:∀z:Int,Builtin.bitNot z=-z - 1:=λz=>by simp only [Builtin.bitNot]<;>omega
 unfold Builtin.bitOr Builtin.bitAnd
 rw [Qj (show ¬0<=Builtin.bitNot x by rw [n];omega),Qj (show ¬0<=Builtin.bitNot y by rw [n];omega)]
 simp only
 rw [n,n,n,n,n,n]
 rw [show -(-x - 1) - 1=x by omega,show -(-y - 1) - 1=y by omega]
 omega
theorem qKF:OpR X (binaryOp .BitAnd) (rI (λi j=>0<=i/\0<=j) λi j=>.int ((i.toNat &&& j.toNat:Nat):Int)):=lW λi j _ _ _ _ _ hc q=>and_int (by rw [qOO hc.1 hc.2];exact q)
theorem qN5:OpR X (binaryOp .BitOr) (rI (λi j=>0<=i/\0<=j) λi j=>.int ((i.toNat ||| j.toNat:Nat):Int)):=lW λi j _ _ _ _ _ hc q=>or_int (by rw [qRk hc.1 hc.2];exact q)
theorem qKD:fy X (binaryOp .BitAnd) (fV .band):=ng (kk:=λi j=>.int ((i.toNat &&& j.toNat:Nat):Int)) qKF (λd e z h=>by
 cases d<;>first|(cases h;done)|(cases e<;>first|(obtain⟨h1,rfl⟩:=dj h;exact⟨_,_,rfl,rfl,h1,rfl⟩)|cases h)) λ_ _ _ _=>rfl
theorem qNZ:fy X (binaryOp .BitOr) (fV .bor):=ng (kk:=λi j=>.int ((i.toNat ||| j.toNat:Nat):Int)) qN5 (λd e z h=>by
 cases d<;>first|(cases h;done)|(cases e<;>first|(obtain⟨h1,rfl⟩:=dj h;exact⟨_,_,rfl,rfl,h1,rfl⟩)|cases h)) λ_ _ _ _=>rfl
theorem qNX:fy X (binaryOp .Mult) (fV .mul):=by
 refine⟨_,op_mulD.or qN1,λH F d e x y z Q hz dom hx hy k=>?_⟩
 cases d with
 | int i =>
  cases e with
  | int j=>obtain⟨h1,rfl⟩:=dj hz;exact .inl ⟨i,j,hx.int,hy.int,h1,k _ H F (Gr.refl dom) rfl⟩
  | _=>cases hz
 | lst xs =>
  cases e with
  | int j =>
   obtain⟨⟨h1,h2,h3⟩,rfl⟩:=dj hz
   obtain⟨a,vs,rfl,hl,hr⟩:=hx.lst
   refine .inr ⟨a,j,vs,rfl,hy.int,hl,by omega,by omega,by rw [RDs.length hr];exact h1,λp hp=>?_⟩
   obtain⟨g,rr⟩:=iI dom hp (RDs.rep hr j.toNat)
   exact k _ _ _ g rr
  | _=>cases hz
 | _=>cases e<;>cases hz
theorem qN0:fy X (binaryOp .Add) (fV .add):=by
 refine⟨_,(op_add.or (op_catD.or qN4)).or (op_catN.or qG3),λH F d e x y z Q hz dom hx hy k=>?_⟩
 cases d with
 | int i =>
  cases e with
  | int j=>cases hz;exact .inl (.inl ⟨i,j,hx.int,hy.int,k _ H F (Gr.refl dom) rfl⟩)
  | _=>cases hz
 | str xs =>
  cases e with
  | str ys =>
   obtain⟨h1,rfl⟩:=dj hz
   exact .inr (.inr ⟨xs,ys,hx.str,hy.str,h1,k _ H F (Gr.refl dom) rfl⟩)
  | _=>cases hz
 | lst xs =>
  cases e with
  | lst ys =>
   obtain⟨h1,rfl⟩:=dj hz
   obtain⟨a,vs,rfl,hl,hr⟩:=hx.lst
   obtain⟨a2,vs2,rfl,hl2,hr2⟩:=hy.lst
   refine .inl (.inr (.inl ⟨a,a2,vs,vs2,rfl,rfl,hl,hl2,by rw [RDs.length hr,RDs.length hr2];exact h1,λp hp=>?_⟩))
   obtain⟨g,rr⟩:=iI dom hp (RDs.append hr hr2)
   exact k _ _ _ g rr
  | _=>cases hz
 | tup xs =>
  cases e with
  | tup ys =>
   cases xs with
   | nil =>
    cases hz
    obtain⟨a,vs,rfl,hl,hr⟩:=hx.tup
    obtain⟨a2,vs2,rfl,hl2,hr2⟩:=hy.tup
    have hr:vs=[]:=hr
    subst hr
    exact .inr (.inl ⟨a,a2,vs2,rfl,rfl,hl,hl2,k _ H F (Gr.refl dom) ⟨a2,vs2,rfl,hl2,hr2⟩⟩)
   | cons x0 xs =>
    obtain⟨h1,rfl⟩:=dj hz
    obtain⟨a,vs,rfl,hl,hr⟩:=hx.tup
    obtain⟨a2,vs2,rfl,hl2,hr2⟩:=hy.tup
    have hv:vs≠[]:=λz=>by have:=RDs.length hr;rw [z] at this;cases this
    refine .inl (.inr (.inr ⟨a,a2,vs,vs2,rfl,rfl,hl,hl2,hv,by rw [RDs.length hr,RDs.length hr2];exact h1,λz=>?_,λ_ p hp=>?_⟩))
    ·subst z
     have e0:ys=[]:=by have:=RDs.length hr2;exact ybl.mp this.symm
     subst e0
     rw [bR] at k
     exact k _ H F (Gr.refl dom) ⟨a,vs,rfl,hl,hr⟩
    ·obtain⟨g,rr⟩:=lS dom hp (RDs.append hr hr2)
     exact k _ _ _ g rr
  | _=>cases xs<;>cases hz
 | _=>cases e<;>cases hz
theorem qQi (h:wN op=some o):fy X (binaryOp op) (fV o):=by
 cases op<;>first|(cases h;first|exact qN0|exact qNV|exact qNX|exact qKC|exact qNY|exact qNW|exact qKD|exact qNZ)|cases h
theorem wQ (h:gW .ne d e=some z):∃c,z=(false,.bl c):=by
 rw [gW] at h
 split at h
 ·cases h;exact⟨_,rfl⟩
 ·cases e1:oJ d e with
  | none=>rw [e1] at h;cases h
  | some c=>rw [e1] at h;cases h;exact⟨_,rfl⟩
theorem qOF {o:COp}(hu:X.A.units+20<cLine) (h:w8 op=some o):fy X (compareOp op) (gW o):=by
 cases op with
 | Eq =>
  cases h
  refine⟨_,qQm hu,λH F d e x y z Q hz dom hx hy k=>?_⟩
  obtain⟨h1,rfl⟩:=dj (show (if ((cR 20 d||cR 20 e)&&(cH d&&cH e))=true then some (false,D.bl (aY d e)) else none)=some z from hz)
  simp only [aP] at h1
  exact⟨d,e,F,hx,hy,h1.1,h1.2.1,h1.2.2,k _ H F (Gr.refl dom) rfl⟩
 | NotEq =>
  cases h
  refine⟨_,qQk hu,λH F d e x y z Q hz dom hx hy k=>?_⟩
  obtain⟨c,rfl⟩:=wQ hz
  exact⟨d,e,F,c,hx,hy,hz,k _ H F (Gr.refl dom) rfl⟩
 | Lt=>cases h;exact nk (kk:=λi j=>.bl (decide (i<j))) qSr CT λ_ _ _ _=>rfl
 | LtE=>cases h;exact nk (kk:=λi j=>.bl (decide (i<=j))) qSs CT λ_ _ _ _=>rfl
 | Gt=>cases h;exact nk (kk:=λi j=>.bl (decide (j<i))) qSt CT λ_ _ _ _=>rfl
 | GtE=>cases h;exact nk (kk:=λi j=>.bl (decide (j<=i))) qSu CT λ_ _ _ _=>rfl
 | _=>cases h
theorem wX (h:vh n d e=some z):∃c,z=(false,.bl c):=by
 cases e with
 | tup ys=>exact⟨_,(dj (show (if (cR 19 d&&(cH d&&fC ys))=true then some (false,D.bl (if n then !(il ys d) else il ys d)) else none)=some z by cases d<;>exact h)).2.symm⟩
 | lst ys=>exact⟨_,(dj (show (if (cR 19 d&&(cH d&&fC ys))=true then some (false,D.bl (if n then !(il ys d) else il ys d)) else none)=some z by cases d<;>exact h)).2.symm⟩
 | _=>cases d<;>cases h
theorem qQ7 (h:gW o d e=some z):∃c,z=(false,.bl c):=by
 cases o with
 | eq=>obtain⟨_,rfl⟩:=dj (show (if ((cR 20 d||cR 20 e)&&(cH d&&cH e))=true then some (false,D.bl (aY d e)) else none)=some z from h);exact⟨_,rfl⟩
 | ne=>exact wQ h
 | isin=>exact wX h
 | notin=>exact wX h
 | _=>cases d<;>first|(cases h;done)|(cases e<;>first|(cases h;exact⟨_,rfl⟩)|cases h)
end
end Dw
namespace Dw
open PySem PySem.Spec PyProof.Rows L2
section
variable {call:Nat->List D->Option R}{G:Gx}{k:Nat}{X:Cx}{sc:Scope}{N:List Str}
theorem qQS (neg:Bool):fy X (compareOp (if neg then .IsNot else .Is)) (lX neg):=by
 refine⟨_,qQl neg,λH F d e x y z Q hz dom hx hy k=>?_⟩
 obtain⟨b,rfl⟩:∃b,z=(false,.bl b):=by
  cases d<;>first|(cases hz;done)|(cases e<;>first|(cases hz;exact⟨_,rfl⟩)|cases hz)
 exact⟨d,e,F,b,hx,hy,hz,k _ H F (Gr.refl dom) rfl⟩
theorem qSF (h:lX neg d e=some z):∃c,z=(false,.bl c):=by
 cases d<;>first|(cases h;done)|(cases e<;>first|(cases h;exact⟨_,rfl⟩)|cases h)
theorem qPD (neg:Bool) (hop:op=if neg then .IsNot else .Is) (hc:qG c=some d) (ha:eg call X a ca) :
  SndE call X (.Compare a [op] [.Constant c j pos'] pos) (.isC neg ca d)/\dH call X (.Compare a [op] [.Constant c j pos'] pos) (.isC neg ca d):=by
 subst hop
 obtain⟨r,hr,hq⟩:=qQS (X:=X) neg
 obtain⟨ta,pa,qa⟩:=ha
 obtain⟨tb,pb,qb⟩:=(AB (call:=call) (X:=X) (j:=j) (pos:=pos') hc).look (λi z=>nomatch z)
 have hm:behindInMarks (if neg then CmpOp.IsNot else CmpOp.Is) (.Constant c j pos')=false:=by cases neg<;>exact qQr _
 constructor
 ·refine⟨_,yL hr pa pb hm,λGe H F Z τ z Q hz hs k=>?_⟩
  obtain⟨x,ex,ez⟩:=ah (by simpa only [tR] using hz)
  refine k6 (call:=call) (cb:=.k d) (a:=a) (b:=a) (y:=d) qa qb ex rfl hs λv w H2 F2 g rx ry=>?_
  exact hq H2 F2 x d v w z Q ez g.dom rx ry λu H' F' g' rr=>k u H' F' (g.trans g') (rr.back g.same)
 ·refine⟨_,zy hr pa pb hm,λGe H F Z τ xx bb Q hz hs k=>?_⟩
  obtain⟨x,ex,ez⟩:=ah (by simpa only [tR] using hz)
  refine k6 (call:=call) (cb:=.k d) (a:=a) (b:=a) (y:=d) qa qb ex rfl hs λv w H2 F2 g rx ry=>?_
  obtain⟨c,ec⟩:=qSF ez
  cases ec
  exact hq H2 F2 x d v w _ _ ez g.dom rx ry λu H' F' g' rr=>⟨bb,rr,k H' F' (g.trans g')⟩
theorem qNu (ha:eg call X a ca):SndE call X (.UnaryOp .USub a pos) (.neg ca):=by
 obtain⟨ta,pa,qa⟩:=ha
 refine⟨_,qSl qPb pa,λGe H F Z τ z Q hz hs k=>?_⟩
 obtain⟨x,ex,ez⟩:=ah (by simpa only [zb] using hz)
 refine qa Ge H F Z τ x _ ex hs λv H1 F1 g rx=>?_
 cases x with
 | int i=>cases ez;exact⟨i,rx.int,k _ H1 F1 g rfl⟩
 | _=>cases ez
theorem SndE.test (h:SndE call X e c) (he:∀whole,isTrue e X.env whole=(do let v <-whole;standAt e.pos;holding [v] (truthy v))):dH call X e c:=by
 obtain⟨t,p,q⟩:=h
 refine⟨_,qPW p he,λGe H F Z τ x b Q hz hs k=>?_⟩
 refine q Ge H F Z τ (x,.bl b) _ hz hs λv H' F' g rr=>?_
 cases x with
 | false=>exact⟨b,rr,k H' F' g⟩
 | true=>obtain⟨_,_,_,e,_⟩:=rr;cases e
theorem zo (ha:SndE call X a ca) (ht:dH call X a ca):SndE call X (.UnaryOp .Not a pos) (.not ca)/\dH call X (.UnaryOp .Not a pos) (.not ca):=by
 have inv:∀{Z:En} {z:R},aa call Z (.not ca)=some z->∃x b,aa call Z ca=some (x,.bl b)/\z=(false,.bl (!b)):=λ{Z z} hz=>by
  obtain⟨⟨x,d⟩,e1,e2⟩:=ah (by simpa only [zc] using hz)
  cases d with
  | bl b=>cases e2;exact⟨x,b,e1,rfl⟩
  | _=>cases e2
 constructor
 ·obtain⟨t,p,q⟩:=ha
  refine⟨_,qP8 p,λGe H F Z τ z Q hz hs k=>?_⟩
  obtain⟨x,b,e1,rfl⟩:=inv hz
  refine q Ge H F Z τ _ _ e1 hs λv H' F' g rr=>?_
  cases x with
  | false=>exact⟨b,rr,k _ H' F' g rfl⟩
  | true=>obtain⟨_,_,_,e,_⟩:=rr;cases e
 ·obtain⟨t,p,q⟩:=ht
  refine⟨_,qPX p,λGe H F Z τ x b Q hz hs k=>?_⟩
  obtain⟨x',b',e1,e2⟩:=inv hz
  cases e2
  exact q Ge H F Z τ x' b' _ e1 hs λH' F' g=>k H' F' g
variable (call X) in
def SndW (op:BoolOp) (es:List Expr) (c:C):Prop:=∀pos:Pos,SndE call X (.BoolOp op es pos) c/\∃t:TT,PW X (.BoolOp op es pos) t /\
 ∀(Ge:Gp) (H:Hp) (F:Fz) (Z:En) (τ:L2.St) (x b:Bool) (Q:Bool->Hp->Prop),aa call Z c=some (x,.bl b)->SR X.K Ge H F Z τ->(∀H' F',Gr H F H' F'->Q b H')->t τ H Q
theorem SndW.test (h:SndW call X op es c):dH call X (.BoolOp op es pos) c:=by
 obtain⟨_,t,p,q⟩:=h pos
 exact⟨t,p.pt,q⟩
theorem zp (ha:SndE call X a ca) (ht:dH call X a ca):SndW call X op [a] ca:=λpos=>by
 obtain⟨t,p,q⟩:=ha
 obtain⟨t',p',q'⟩:=ht
 refine⟨⟨t,qP7 p,q⟩,?_⟩
 cases op with
 | And=>exact⟨t',qNO p',q'⟩
 | Or=>exact⟨t',qPT p',q'⟩
theorem wM {K:Qb}{H H':Hp}{F':Fz}{x b:Bool}{v:V}(h:RR K H H' F' (x,.bl b) v):v=.bl b:=by
 cases x with
 | false=>exact h
 | true=>obtain⟨_,_,_,e,_⟩:=h;cases e
theorem qND {a b:Expr}{rest:List Expr}{ca cb:C}(ha:SndE call X a ca) (hta:dH call X a ca) (hb:SndW call X .And (b::rest) cb):SndW call X .And (a::b::rest) (.and ca cb):=λpos=>by
 obtain⟨hb1,tb',pb',qb'⟩:=hb pos
 have inv:∀{Z:En} {z:R},aa call Z (.and ca cb)=some z->∃x c,aa call Z ca=some (x,.bl c)/\(if c=true then aa call Z cb=some z else z=(false,.bl false)):=λ{Z z} hz=>by
  obtain⟨⟨x,d⟩,e1,e2⟩:=ah (by simpa only [y8] using hz)
  cases d with
  | bl c=>cases c with
   | true=>exact⟨x,true,e1,e2⟩
   | false=>cases e2;exact⟨x,false,e1,rfl⟩
  | _=>cases e2
 constructor
 ·obtain⟨ta,pa,qa⟩:=ha
  obtain⟨tb,pb,qb⟩:=hb1
  refine⟨_,qQf pa pb,λGe H F Z τ z Q hz hs k=>?_⟩
  obtain⟨x,c,e1,e2⟩:=inv hz
  refine qa Ge H F Z τ _ _ e1 hs λv H' F' g rr=>⟨c,wM rr,?_⟩
  cases c with
  | true=>exact qb Ge H' F' Z τ z Q e2 (hs.grow g) λu H2 F2 g2 r2=>k u H2 F2 (g.trans g2) (r2.back g.same)
  | false=>have e2':z=(false,.bl false):=e2;subst e2';exact k _ H' F' g rfl
 ·obtain⟨ta,pa,qa⟩:=hta
  refine⟨_,qPV pa pb',λGe H F Z τ x b Q hz hs k=>?_⟩
  obtain⟨x',c,e1,e2⟩:=inv hz
  refine qa Ge H F Z τ x' c _ e1 hs λH' F' g=>?_
  cases c with
  | true=>exact qb' Ge H' F' Z τ x b Q e2 (hs.grow g) λH2 F2 g2=>k H2 F2 (g.trans g2)
  | false=>have e2':(x,D.bl b)=(false,.bl false):=e2;cases e2';exact k H' F' g
theorem qPB {a b:Expr}{rest:List Expr}{ca cb:C}(ha:SndE call X a ca) (hta:dH call X a ca) (hb:SndW call X .Or (b::rest) cb):SndW call X .Or (a::b::rest) (.or ca cb):=λpos=>by
 obtain⟨hb1,tb',pb',qb'⟩:=hb pos
 have inv:∀{Z:En} {z:R},aa call Z (.or ca cb)=some z->∃x c,aa call Z ca=some (x,.bl c)/\(if c=true then z=(false,.bl true) else aa call Z cb=some z):=λ{Z z} hz=>by
  obtain⟨⟨x,d⟩,e1,e2⟩:=ah (by simpa only [xw] using hz)
  cases d with
  | bl c=>cases c with
   | false=>exact⟨x,false,e1,e2⟩
   | true=>cases e2;exact⟨x,true,e1,rfl⟩
  | _=>cases e2
 constructor
 ·obtain⟨ta,pa,qa⟩:=ha
  obtain⟨tb,pb,qb⟩:=hb1
  refine⟨_,qSm pa pb,λGe H F Z τ z Q hz hs k=>?_⟩
  obtain⟨x,c,e1,e2⟩:=inv hz
  refine qa Ge H F Z τ _ _ e1 hs λv H' F' g rr=>⟨c,wM rr,?_⟩
  cases c with
  | false=>exact qb Ge H' F' Z τ z Q e2 (hs.grow g) λu H2 F2 g2 r2=>k u H2 F2 (g.trans g2) (r2.back g.same)
  | true=>have e2':z=(false,.bl true):=e2;subst e2';exact k _ H' F' g rfl
 ·obtain⟨ta,pa,qa⟩:=hta
  refine⟨_,qSi pa pb',λGe H F Z τ x b Q hz hs k=>?_⟩
  obtain⟨x',c,e1,e2⟩:=inv hz
  refine qa Ge H F Z τ x' c _ e1 hs λH' F' g=>?_
  cases c with
  | false=>exact qb' Ge H' F' Z τ x b Q e2 (hs.grow g) λH2 F2 g2=>k H2 F2 (g.trans g2)
  | true=>have e2':(x,D.bl b)=(false,.bl true):=e2;cases e2';exact k H' F' g
theorem qNx (ht:dH call X t ct) (ha:SndE call X a ca) (hb:SndE call X b cb):SndE call X (.IfExp t a b pos) (.ifx ct ca cb):=by
 obtain⟨tt,pt,qt⟩:=ht
 obtain⟨ta,pa,qa⟩:=ha
 obtain⟨tb,pb,qb⟩:=hb
 refine⟨_,qKy pt pa pb,λGe H F Z τ z Q hz hs k=>?_⟩
 obtain⟨⟨x,d⟩,e1,e2⟩:=ah (by simpa only [tQ] using hz)
 cases d with
 | bl c =>
  refine qt Ge H F Z τ x c _ e1 hs λH' F' g=>?_
  cases c with
  | true=>exact oD (qa Ge H' F' Z τ z Q e2 (hs.grow g) λu H2 F2 g2 r2=>k u H2 F2 (g.trans g2) (r2.back g.same))
  | false=>exact oC (qb Ge H' F' Z τ z Q e2 (hs.grow g) λu H2 F2 g2 r2=>k u H2 F2 (g.trans g2) (r2.back g.same))
 | _=>cases e2
theorem qPY (ht:PT X t tt) (ha:PT X a ta) (hb:PT X b tb):PT X (.IfExp t a b pos) (fun Z H Q=>tt Z H λc H1=>if c=true then ta Z H1 Q else tb Z H1 Q):=by
 intro pins s Z H Q I h
 rw [PySem.isTrue]
 refine Qc (aC (ht pins s Z H _ I h) λd s1 ⟨H1,I1,q1⟩=>?_)
 cases d with
 | true=>exact ha pins s1 Z H1 Q I1 q1
 | false=>exact hb pins s1 Z H1 Q I1 q1
theorem qKj (ht:dH call X t ct) (ha:dH call X a ca) (hb:dH call X b cb):dH call X (.IfExp t a b pos) (.ifx ct ca cb):=by
 obtain⟨tt,pt,qt⟩:=ht
 obtain⟨ta,pa,qa⟩:=ha
 obtain⟨tb,pb,qb⟩:=hb
 refine⟨_,qPY pt pa pb,λGe H F Z τ x b Q hz hs k=>?_⟩
 obtain⟨⟨x',d⟩,e1,e2⟩:=ah (by simpa only [tQ] using hz)
 cases d with
 | bl c =>
  refine qt Ge H F Z τ x' c _ e1 hs λH' F' g=>?_
  cases c with
  | true=>exact oD (qa Ge H' F' Z τ x b Q e2 (hs.grow g) λH2 F2 g2=>k H2 F2 (g.trans g2))
  | false=>exact oC (qb Ge H' F' Z τ x b Q e2 (hs.grow g) λH2 F2 g2=>k H2 F2 (g.trans g2))
 | _=>cases e2
theorem qQP (n:Nat) (i:Int):Dw.ixN n i=L2.ixN n i:=rfl
theorem yB {K:Qb}{H:Hp}{F:Fz}{ds:List D}{vs:List V}{i:Int}{d:D}(h:RDs K H F ds vs) (e:iZ ds i=some d):∃v,ma vs i=some v/\RD K H F d v:=by
 obtain⟨j,e1,e2⟩:=ah e
 obtain⟨v,e3,e4⟩:=RDs.get h e2
 refine⟨v,?_,e4⟩
 unfold ma
 rw [RDs.length h,<-qQP,e1]
 exact e3
theorem qPC {a b:Expr}{ca cb:C}{pos:Pos}(hp:qp b) (ha:eg call X a ca) (hb:eg call X b cb):SndE call X (.Subscript a b pos) (.ix ca cb):=by
 obtain⟨ta,pa,qa⟩:=ha
 obtain⟨tb,pb,qb⟩:=hb
 refine⟨_,qSo (ix_list.or qQM) pa pb hp,λGe H F Z τ z Q hz hs k=>?_⟩
 obtain⟨x,y,ex,ey,ez⟩:=oS (by simpa only [xu] using hz)
 refine k6 (a:=a) (b:=b) qa qb ex ey hs λv w H2 F2 g rx ry=>?_
 cases x with
 | lst xs =>
  cases y with
  | int i =>
   obtain⟨d,e1,e2⟩:=yab.mp ez
   subst e2
   obtain⟨p,vs,rfl,hl,hr⟩:=rx.lst
   obtain⟨u,e3,e4⟩:=yB hr e1
   exact .inl ⟨p,vs,i,u,rfl,ry.int,hl,e3,k u H2 F2 g e4⟩
  | _=>cases ez
 | tup xs =>
  cases y with
  | int i =>
   obtain⟨d,e1,e2⟩:=yab.mp ez
   subst e2
   obtain⟨p,vs,rfl,hl,hr⟩:=rx.tup
   obtain⟨u,e3,e4⟩:=yB hr e1
   exact .inr ⟨p,vs,i,u,rfl,ry.int,hl,e3,k u H2 F2 g e4⟩
  | _=>cases ez
 | _=>cases y<;>cases ez
theorem lQ (n d:Nat) (o:Option Int):Dw.cutAt n d o=HT.sIx n d o:=by
 cases o with
 | none=>rfl
 | some v =>
  have h:=HT.clip_eq v n d
  unfold Dw.cutAt
  by_cases hv:v<0
  ·simp only [hv,if_true] at h ⊢;omega
  ·simp only [hv,if_false] at h ⊢;omega
theorem yq {K:Qb}{H:Hp}{F:Fz}{ds:List D}{vs:List V}(h:RDs K H F ds vs) (l u:Option Int):RDs K H F (gD ds l u) (jd vs l u):=by
 unfold gD jd
 rw [RDs.length h,lQ,lQ]
 exact RDs.take _ (RDs.drop _ h)
theorem qPA {a:Expr}{lo hi:Option Expr}{ca:C}{cl ch:Option C}{p2 pos:Pos}(ha:eg call X a ca) (hl:mM call X lo cl) (hh:mM call X hi ch):SndE call X (.Subscript a (.Slice lo hi none p2) pos) (.sl ca cl ch):=by
 obtain⟨ta,pa,qa⟩:=ha
 obtain⟨tl,pl,ql⟩:=hl
 obtain⟨th,ph,qh⟩:=hh
 refine⟨_,qKx ((sl_list.or qPH).or qPI) pa pl ph,λGe H F Z τ z Q hz hs k=>?_⟩
 obtain⟨x,ex,hz⟩:=ah (by simpa only [xy] using hz)
 obtain⟨l,el,hz⟩:=ah hz
 obtain⟨u,eu,hz⟩:=ah hz
 refine qa Ge H F Z τ x _ ex hs λv H1 F1 g1 rx=>?_
 refine ql Ge H1 F1 Z τ l _ el (hs.grow g1) λH2 F2 g2=>?_
 refine qh Ge H2 F2 Z τ u _ eu ((hs.grow g1).grow g2) λH3 F3 g3=>?_
 have g:=(g1.trans g2).trans g3
 have rx3:=(rx.grow g2).grow g3
 cases x with
 | lst xs =>
  cases hz
  obtain⟨p,vs,rfl,hl',hr⟩:=rx3.lst
  refine .inl (.inl ⟨p,vs,rfl,hl',λq hq=>?_⟩)
  obtain⟨g4,rr⟩:=iI g.dom hq (yq hr l u)
  exact k _ _ _ (g.trans g4) (rr.back g.same)
 | tup xs =>
  cases hz
  obtain⟨p,vs,rfl,hl',hr⟩:=rx3.tup
  by_cases hw:Dw.cutAt xs.length 0 l=0/\Dw.cutAt xs.length xs.length u=xs.length
  ·refine .inr ⟨p,vs,rfl,hl',?_,?_⟩
   ·rw [RDs.length hr,<-lQ,<-lQ];exact hw
   ·have e:gD xs l u=xs:=by
     unfold gD
     rw [hw.1,hw.2]
     simp
    have e':(false,D.tup (gD xs l u))=(false,D.tup xs):=by rw [e]
    refine k _ H3 F3 g ?_
    rw [e]
    exact⟨p,vs,rfl,hl',hr⟩
  ·refine .inl (.inr ⟨p,vs,rfl,hl',?_,λq hq=>?_⟩)
   ·rw [RDs.length hr,<-lQ,<-lQ];exact hw
   ·obtain⟨g4,rr⟩:=lS g.dom hq (yq hr l u)
    exact k _ _ _ (g.trans g4) (rr.back g.same)
 | _=>cases hz
theorem RDs.rev {K:Qb}{H:Hp}{F:Fz}:∀{ds:List D}{vs:List V},RDs K H F ds vs->RDs K H F ds.reverse vs.reverse
 | [],vs,h=>by have h:vs=[]:=h;subst h;rfl
 | d::ds,vs,h=>by
  obtain⟨v,r,rfl,h1,h2⟩:=h
  rw [mL,mL]
  exact RDs.append (RDs.rev h2) ⟨v,[],rfl,h1,rfl⟩
theorem qHO:mM call X none none:=⟨_,qNS,λGe H F Z τ o Q ho hs k=>by cases ho;exact k H F (Gr.refl hs.dom)⟩
theorem qHN (h:eg call X e c):mM call X (some e) (some c):=by
 obtain⟨t,p,q⟩:=h
 refine⟨_,qNR p,λGe H F Z τ o Q ho hs k=>?_⟩
 obtain⟨x,ex,ez⟩:=ah (by simpa only [zB] using ho)
 refine q Ge H F Z τ x _ ex hs λv H1 F1 g rx=>?_
 cases x with
 | int i=>cases ez;exact⟨i,rx.int,k H1 F1 g⟩
 | _=>cases ez
theorem qKn:jN call X [] []:=⟨_,iB,λGe H F Z τ ds Q h hs k=>by cases h;exact k [] H F (Gr.refl hs.dom) rfl⟩
theorem qHW (hst:starEach (e::es) X.env=(false,eval e X.env)::starEach es X.env) (h:SndE call X e c) (hr:jN call X es cs):jN call X (e::es) (c::cs):=by
 obtain⟨t,p,q⟩:=h
 obtain⟨t',p',q'⟩:=hr
 refine⟨_,gd p p' hst,λGe H F Z τ ds Q hd hs k=>?_⟩
 obtain⟨r,er,hd⟩:=ah (by simpa only [dz] using hd)
 obtain⟨ds',ed,hd⟩:=ah hd
 cases hd
 refine q Ge H F Z τ r _ er hs λv H1 F1 g rr=>?_
 obtain⟨F2,g2,rd⟩:=rr.fz g
 refine q' Ge H1 F2 Z τ ds' _ ed (hs.grow g2) λvs H3 F3 g3 rs=>?_
 exact k (v::vs) H3 F3 (g2.trans g3) ⟨v,vs,rfl,RD.mono g3.keep rd,rs⟩
theorem qHS:mR call X [] []:=⟨_,iB,λGe H F Z τ ds Q h hs k=>by cases h;exact k [] H F (Gr.refl hs.dom) rfl⟩
theorem RGs.grow {K:Qb}{H H1:Hp}{F F1:Fz}(g:Gr H F H1 F1):∀{ds:List D}{vs:List V},RGs K H F ds vs->RGs K H1 F1 ds vs
 | [],_,h=>h
 | _::_,_,⟨v,r,e,h1,h2⟩=>⟨v,r,e,h1.grow g,RGs.grow g h2⟩
theorem qGW (hst:starEach (e::es) X.env=(false,eval e X.env)::starEach es X.env) (h:oZ call X e c) (hr:mR call X es cs):mR call X (e::es) (c::cs):=by
 obtain⟨t,p,q⟩:=h
 obtain⟨t',p',q'⟩:=hr
 refine⟨_,gd p p' hst,λGe H F Z τ ds Q hd hs k=>?_⟩
 obtain⟨r,er,hd⟩:=ah (by simpa only [iU] using hd)
 obtain⟨ds',ed,hd⟩:=ah hd
 cases hd
 refine q Ge H F Z τ r _ er hs λv H1 F1 g rr=>?_
 refine q' Ge H1 F1 Z τ ds' _ ed (hs.grow g) λvs H3 F3 g3 rs=>?_
 exact k (v::vs) H3 F3 (g.trans g3) ⟨v,vs,rfl,rr.grow g3,rs⟩
theorem qHV:jo call X [] []:=⟨_,iB,λGe H F Z τ ds Q h hs k=>by cases h;exact k [] H F (Gr.refl hs.dom) rfl⟩
theorem qGX (hst:starEach (e::es) X.env=(false,eval e X.env)::starEach es X.env) (h:eg call X e c) (hr:jo call X es cs):jo call X (e::es) (c::cs):=by
 obtain⟨t,p,q⟩:=h
 obtain⟨t',p',q'⟩:=hr
 refine⟨_,gd p p' hst,λGe H F Z τ ds Q hd hs k=>?_⟩
 obtain⟨r,er,hd⟩:=ah (by simpa only [ux] using hd)
 obtain⟨ds',ed,hd⟩:=ah hd
 cases hd
 refine q Ge H F Z τ r _ er hs λv H1 F1 g rr=>?_
 refine q' Ge H1 F1 Z τ ds' _ ed (hs.grow g) λvs H3 F3 g3 rs=>?_
 exact k (v::vs) H3 F3 (g.trans g3) ⟨v,vs,rfl,rr.grow g3,rs⟩
theorem qNp (h:jN call X es cs):SndE call X (.Tuple es x1 pos) (.tup cs):=by
 obtain⟨t,p,q⟩:=h
 refine⟨_,qP5 p,λGe H F Z τ z Q hz hs k=>?_⟩
 obtain⟨ds,ed,hz⟩:=ah (by simpa only [iF] using hz)
 obtain⟨h1,rfl⟩:=dj hz
 refine q Ge H F Z τ ds _ ed hs λvs H1 F1 g rs=>⟨by rw [RDs.length rs];exact h1,λp hp=>?_⟩
 obtain⟨g4,rr⟩:=lS g.dom hp rs
 exact k _ _ _ (g.trans g4) (rr.back g.same)
theorem qNv (h:jN call X es cs):SndE call X (.List es pos) (.lst cs):=by
 obtain⟨t,p,q⟩:=h
 refine⟨_,qQa p,λGe H F Z τ z Q hz hs k=>?_⟩
 obtain⟨ds,ed,hz⟩:=ah (by simpa only [za] using hz)
 obtain⟨h1,rfl⟩:=dj hz
 refine q Ge H F Z τ ds _ ed hs λvs H1 F1 g rs=>⟨by rw [RDs.length rs];exact h1,λp hp=>?_⟩
 obtain⟨g4,rr⟩:=iI g.dom hp rs
 exact k _ _ _ (g.trans g4) (rr.back g.same)
noncomputable def dP:Expr->Bool
 | .Starred _ _=>false
 | _=>true
theorem cF (h:dP e=true):starEach (e::es) env=(false,eval e env)::starEach es env:=by
 cases e<;>first|rfl|cases h
theorem kh:∀{es:List Expr}{env:Env}{pos:Pos},es.all dP=true->(backTo pos (starEach es env)).any (·.1)=false
 | [],env,pos,_=>rfl
 | e::es,env,pos,h=>by
  rw [fQ,aP] at h
  rw [cF h.1]
  have:=kh (env:=env) (pos:=pos) h.2
  simpa [backTo] using this
theorem xa {Z:En}{d:Int}:∀{cs:List C}{ds:List D},fv call Z (cs++[.k (.int d)])=some ds->∃es,fv call Z cs=some es/\ds=es++[.int d]
 | [],ds,h=>⟨[],rfl,by cases h;rfl⟩
 | c::cs,ds,h=>by
  obtain⟨x,e1,h⟩:=ah h
  obtain⟨xs,e2,h⟩:=ah h
  cases h
  obtain⟨es,e3,rfl⟩:=xa e2
  exact⟨x::es,by show (ag Z c (aa call Z c)).bind _=_;rw [e1];show (fv call Z cs).bind _=_;rw [e3];rfl,rfl⟩
theorem RGs.add {K:Qb}{H:Hp}{F:Fz}{d:Int}:∀{ds:List D}{vs:List V},RGs K H F ds vs->RGs K H F (ds++[.int d]) (vs++[.int d])
 | [],_,h=>by cases show _=[] from h;exact⟨_,[],rfl,.inl rfl,rfl⟩
 | _::_,_,⟨v,r,e,h1,h2⟩=>⟨v,r++[.int d],by rw [e];rfl,h1,h2.add⟩
theorem qKl (g:XG call G k X sc N) (hf:G.defs.lookup f=some i) (hg:bJ sc f=true) (hd:(f == ("__debug__":Str))=false) (hn:es.all dP=true) (hne:es≠[]) (h:mR call X es cs) :
  SndE call X (.Call (.Name f p) es [] pos) (.call i (cs++nO G f es.length)):=by
 obtain⟨a,fd,ps,hm,hk,hb,hF,hl,hq⟩:=(g.defs f i hf).ex
 obtain⟨t,pt,q⟩:=h
 have hz:nO G f es.length=[]∨∃m d,G.dfl.lookup f=some (m,d)/\nO G f es.length=[.k (.int d)]:=by
  unfold nO
  cases e:G.dfl.lookup f with
  | none=>exact .inl rfl
  | some u =>
   obtain⟨m,d⟩:=u
   by_cases z:es.length=m
   ·exact .inr ⟨m,d,rfl,Ql z⟩
   ·exact .inl (Qm z)
 cases es with
 | nil=>exact Qn rfl hne
 | cons e es =>
  rw [fQ,aP] at hn
  rcases hz with hz|⟨m,d,e1,hz⟩
  ·rw [hz,bR]
   refine⟨_,yK hF g.room (g.gl f hg) hm hk hb .nil wU pt hd (cF hn.1) (kh hn.2),λGe H F Z τ z Q hz hs k=>?_⟩
   obtain⟨ds,ed,hz⟩:=ah hz
   refine q Ge H F Z τ ds _ ed hs λvs H1 F1 g1 rs=>?_
   rw [bR]
   exact⟨by rw [RGs.length rs];exact hl ds z hz,F1,ds,z,(hs.grow g1).tbH,g1.dom,rs,hz,λv H' F' g2 rr=>k v H' F' (g1.trans g2) (rr.back g1.same)⟩
  ·rw [hz]
   obtain⟨tk,hb⟩:=hq m d e1
   refine⟨_,yK (dvs:=[.int d]) hF g.room (g.gl f hg) hm hk hb (.cons ⟨tk,rfl⟩ .nil) wU pt hd (cF hn.1) (kh hn.2),λGe H F Z τ z Q hz hs k=>?_⟩
   obtain⟨ds,ed,hz⟩:=ah hz
   obtain⟨ds',ed',rfl⟩:=xa ed
   refine q Ge H F Z τ ds' _ ed' hs λvs H1 F1 g1 rs=>?_
   exact⟨by rw [RGs.length rs.add];exact hl _ z hz,F1,_,z,(hs.grow g1).tbH,g1.dom,rs.add,hz,λv H' F' g2 rr=>k v H' F' (g1.trans g2) (rr.back g1.same)⟩
theorem mW {id:String}{b:BI}{es:List Expr}{cs:List C}{p pos:Pos}{r:List V->Hp->VK->Prop}(hc:CallR X (.builtin id) r) (hg:Gl X x) (hm:X.mg x=none) (hv:Qo x=some (.builtin id)) (hnm:x≠"__name__") (hdb:(x == ("__debug__":Str))=false)
  (hn:es.all dP=true) (hne:es≠[]) (h:jo call X es cs)
  (hr:∀(H:Hp) (F:Fz) (ds:List D) (vs:List V) (z:R) (Q:VK),lZ b ds=some z->(∀a,H a=none->¬F a)->RPs X.K H F ds vs->(∀v H' F',Gr H F H' F'->RR X.K H H' F' z v->Q v H')->r vs H Q) :
  SndE call X (.Call (.Name x p) es [] pos) (.bi b cs):=by
 obtain⟨t,pt,q⟩:=h
 cases es with
 | nil=>exact Qn rfl hne
 | cons e es =>
  rw [fQ,aP] at hn
  refine⟨_,zN hc hg hm hv pt hnm hdb (cF hn.1) (kh hn.2),λGe H F Z τ z Q hz hs k=>?_⟩
  obtain⟨ds,ed,hz⟩:=ah (by simpa only [sU] using hz)
  refine q Ge H F Z τ ds _ ed hs λvs H1 F1 g1 rs=>?_
  exact hr H1 F1 ds vs z Q hz g1.dom rs λv H' F' g2 rr=>k v H' F' (g1.trans g2) (rr.back g1.same)
theorem uI {id:String}{b:BI}{es:List Expr}{cs:List C}{p pos:Pos}{r:List V->Hp->VK->Prop}(hc:CallR X (.type id) r) (hg:Gl X x) (hm:X.mg x=none) (hv:Qo x=some (.type id)) (hnm:x≠"__name__") (hdb:(x == ("__debug__":Str))=false)
  (hn:es.all dP=true) (hne:es≠[]) (h:jo call X es cs)
  (hr:∀(H:Hp) (F:Fz) (ds:List D) (vs:List V) (z:R) (Q:VK),lZ b ds=some z->(∀a,H a=none->¬F a)->RPs X.K H F ds vs->(∀v H' F',Gr H F H' F'->RR X.K H H' F' z v->Q v H')->r vs H Q) :
  SndE call X (.Call (.Name x p) es [] pos) (.bi b cs):=by
 obtain⟨t,pt,q⟩:=h
 cases es with
 | nil=>exact Qn rfl hne
 | cons e es =>
  rw [fQ,aP] at hn
  refine⟨_,qId hc hg hm hv pt hnm hdb (cF hn.1) (kh hn.2),λGe H F Z τ z Q hz hs k=>?_⟩
  obtain⟨ds,ed,hz⟩:=ah (by simpa only [sU] using hz)
  refine q Ge H F Z τ ds _ ed hs λvs H1 F1 g1 rs=>?_
  exact hr H1 F1 ds vs z Q hz g1.dom rs λv H' F' g2 rr=>k v H' F' (g1.trans g2) (rr.back g1.same)
end
end Dw
namespace Dw
open PySem PySem.Spec PyProof.Rows L2
section
variable {call:Nat->List D->Option R}{G:Gx}{k:Nat}{X:Cx}{sc:Scope}{N:List Str}
theorem TB.off {H:Hp}{cs:List CA}(h:TB H) (CI:du H cs):TB (bS H cs):=λt m=>by
 have e:=h t m
 have z:cs.lookup t.1=none:=by
  cases z:cs.lookup t.1 with
  | none=>rfl
  | some o=>have q:=CI _ o z;rw [e] at q;cases q
 rw [cW z];exact e
theorem qPG (g:XG call G k X sc N) {x:Str}{i:Nat}{es:List Expr}{ca:List C}{p pos:Pos}(hv:dw sc N x=some i) (hn:es.all dP=true) (hne:es≠[]) (h:jN call X es ca):SndE call X (.Call (.Name x p) es [] pos) (.cv i ca):=by
 obtain⟨e0,es,rfl⟩:=vy hne
 rw [fQ,aP] at hn
 obtain⟨tn,pn,qn⟩:=(zS (call:=call) (pos:=p) g hv).1
 obtain⟨ta,pa,qa⟩:=h
 refine⟨fun τ H Q=>∃Ge F Z r,aa call Z (.cv i ca)=some r/\SR X.K Ge H F Z τ/\∀v H' F',Gr H F H' F'->RR X.K H H' F' r v->Q v H',λpins s τ H Q I ⟨Ge,F,Z,r,h1,h2,h3⟩=>?_,λGe H F Z τ r Q h1 h2 h3=>⟨Ge,F,Z,r,h1,h2,h3⟩⟩
 rw [xt] at h1
 obtain⟨y,e1,h1⟩:=ah h1
 obtain⟨⟨b,d⟩,e2,h1⟩:=ah h1
 cases b with
 | true=>cases h1
 | false =>
  cases d with
  | obj kn ds =>
   have h1:(if (decide (CL<=kn.c)&&(dM y&&dM ds))=true then call (kn.c - CL) (y++ds) else none)=some r:=h1
   split at h1
   ·rename_i hc
    rw [aP,aP,decide_eq_true_eq] at hc
    obtain⟨c1,c2,c3⟩:=hc
    refine wpAny_Call_Name_kw (aC (pn pins s τ H (λv H1=>∃F1,Gr H F H1 F1/\RD X.K H1 F1 (.obj kn ds) v) I (qn Ge H F Z τ (false,.obj kn ds) _ (by rw [w9,e2];rfl) h2 λv H1 F1 g1 rr=>⟨F1,g1,rr⟩)) λu s1 ⟨v,H1,I1,ru,F1,g1,rd⟩=>?_)
    obtain⟨f,vs,rfl,ho,hds⟩:=rd
    have ru:u=.ref f:=ru
    subst ru
    unfold ObjR at ho
    rw [Ql c1] at ho
    have keep:∀{H2:Hp},Same H1 H2->CloR H2 f kn vs:=λs=>ho.mono λa o w e=>s _ _ e
    have fat:∀{s2:Shared} {τ2:L2.St} {pins2:List CA} {H2:Hp},Inv X pins2 τ2 H2 s2->CloR H2 f kn vs->PySem.W.FnAt f s2.heap:=λJ c=>by
     obtain⟨_,L,clos,pm,ctv,c',uf,oc,uc,fs,t0,cs,_,q2,_⟩:=c
     exact⟨_,_,_,_,(J.hok f _ q2).1⟩
    refine PySem.W.callWith_F (first:=[]) (fat I1 ho) (aC (pa pos pins s1 τ H1 (λws H2=>∃F2,Gr H1 F1 H2 F2/\RDs X.K H2 F2 y ws) I1 (qa Ge H1 F1 Z τ y _ e1 (h2.grow g1) λws H2 F2 g2 rs=>⟨F2,g2,rs⟩)) λus s2 ⟨ws,H2,I2,rus,F2,g2,rs⟩=>⟨fat I2 (keep g2.same),?_⟩) (cF hn.1) (kh hn.2)
    obtain⟨_,L,clos,pm,ctv,c',uf,oc,uc,fs,t0,cs,l1,l2,l3,l4,l5,l6,l7,l8,l9,l10,l11,l12⟩:=keep g2.same
    obtain⟨px,b1,b2,b3,b4,b5,b6,bn,b7,bl,b8⟩:=(g.lam _ L l1).ex
    have hlw:ws.length=px.length:=by
     have q1:=bl _ _ h1
     have q2:=RDs.length rs
     have q3:=RDs.length hds
     rw [aU] at q1
     omega
    obtain⟨t,pt,qt⟩:=b8 f c' clos X.A X.stack s2 (bS H2 cs) g.room
    refine qNG (N:=px++aF L.sc) (Z:=ws.map some++vs.map some) I2 g.room.depth g.room.hd l2 l3 l4 l5 l6 l7 l8 b1 b2 b3 b4 (b7 clos pm c' ctv us (by rw [<-rus.length];exact hlw)) b5 bn rus (by simp [l11,hlw]) (λi y v q1 q2=>?_) l9 l10 pt (qt (bS H2 cs) (Fc F2 cs) y ds ws vs r _ (((h2.grow g1).grow g2).tbH.off l7) (qN7 g2.dom) h1 (RDs.off l7 c2 rs) (RDs.off l7 c3 (RDs.mono g2.keep hds)) hlw l11 λv' H' F' g3 rr non=>?_)
    ·by_cases hi:i<px.length
     ·rw [jG hi] at q1
      rw [jG (by rw [aw];omega),bU] at q2
      obtain⟨v2,q3,q4⟩:=yab.mp q2
      cases q4
      exact .inl ⟨i,q1,q3⟩
     ·rw [gU AC] at q1
      rw [gU (by rw [aw];omega),aw,hlw,bU] at q2
      obtain⟨v2,q3,q4⟩:=yab.mp q2
      cases q4
      obtain⟨b,o,u,e3,e4,e5,e6⟩:=l12 _ y v q1 q3
      exact .inr ⟨b6 y (cm q1),b,o,u,e3,e4,e5,e6⟩
    ·exact h3 v' (cg H' cs) _ ((g1.trans g2).trans (qSL g2.dom l7 non g3)) ((qSc g2.dom l7 non g3.dom rr).back (g1.trans g2).same)
   ·cases h1
  | _=>cases h1
end
end Dw
namespace Dw
open PySem PySem.W PySem.Calls PyProof.Rows
section
variable {prog:Program}{w:World}{A:Around}{E:Value->Shared->Prop}{s:Shared}{r l:Addr}
theorem qOg:typeLookup (.type "list_reverseiterator") "__len__"=pure none:=by rw [typeLookup_type,builtinLookup_eq_fast];kernel_rfl
theorem qKT:typeLookup (.type "list_reverseiterator") "__length_hint__"=pure (some (.builtin "list_reverseiterator.__length_hint__")):=by rw [typeLookup_type,builtinLookup_eq_fast];kernel_rfl
theorem qK3 {Q:Bool->Shared->Prop}(hT:s.TypeIs (.ref r) "list_reverseiterator") (h:Q false s):wpAny AT A (Builtin.List.listLengthHint (.ref r)) Q E s:=by
 unfold Builtin.List.listLengthHint
 refine Qc (wpAny_specialOf hT qOg ?_)
 try dsimp only
 refine wpAny_ite_split (λz=>Qn z At) λ_=>?_
 refine wpAny_ite_split (λz=>Qn z At) λ_=>?_
 refine Qc (wpAny_specialOf hT qKT ?_)
 try dsimp only
 rw [show splitId "list_reverseiterator.__length_hint__"=some ("list_reverseiterator","__length_hint__") from by decide +kernel]
 try dsimp only
 refine Qc (wpAny_isInstance (T:="list_reverseiterator") (b:=true) hT (by rw [isSubtype_type];kernel_rfl) ?_)
 refine wpAny_ite_split (λz=>Qn z At) λ_=>?_
 refine wpAny_ite_split (λ_=>?_) λz=>Qn (by decide +kernel) z
 refine wpAny_ite_split (λz=>Qn z (by decide +kernel)) λ_=>?_
 exact Qd h
theorem qHa {R:Result->Shared->Prop}{items:Array Value}(hh:A.handled=none) (hI:s.heap.IsRevIter r l ((items.size:Int) - 1)) (hl:s.heap.IsList l items) (hrl:l≠r) (S:Addr) (hSr:S≠r) (hSl:S≠l) (res:Value) (c₀:Nat) (hS:s.heap.get? S=some { cls:=.type "list",data:=.seq #[] c₀ }) (hn:items.size<=sizeLine)
  (hR:∀hp k (row:Array Value) m,(∀b o,b≠S->b≠r->s.heap.get? b=some o->hp.get? b=some o)->hp.get? S=some { cls:=.type "list",dict:=none,data:=.seq row m,slots:=#[] }->ItemsOf (λi v=>items[items.size - 1 - i]?=some v) row items.size->R (.ok (.ret res)) { s with heap:=hp,toks:=k }) :
  wpAny AT A.in1 (Builtin.List.listExtendWith (.ref S) (.ref r) res)
   (λfin z=>match fin with|.done f=>R (.ok f) z|.again cd=>cd.quiet=true/\codeAny AT A cd R z) (λe z=>R (.error e) z) s:=by
 have W:=Walks.listRev (prog:=prog) (w:=w) (A:=A.in1) hh r l hrl items
 have hSf:S∉[r,l]:=by simp [hSr,hSl]
 have loop:codeAny AT A (.builtin "list.extend.loop" ⟨[.ref S,.ref r,res],[]⟩) R s:=by
  refine codeAny_extend_loopS W.toS hn S hSf res items.size 0 s #[] c₀ rfl (fP _) ⟨fP _,by simpa using hI,hl⟩ hS (ItemsOf.nil _) λz row m mv at_ its=>?_
  rw [Moved.eq_with mv]
  refine hR z.heap z.toks row m (λb o h1 h2 e=>mv.heap b o (λq=>?_) e) at_ its
  rcases yag.mp q with q|q
  ·exact h1 q
  ·exact h2 (yaz.mp q)
 unfold Builtin.List.listExtendWith
 refine Qc (wpAny_typeOf hI.typeIs ?_)
 have e1:Builtin.List.listSameRef (.ref S) (.ref r)=false:=by simp [Builtin.List.listSameRef,hSr]
 rw [e1]
 refine wpAny_ite_split (λz=>Qn z (by decide +kernel)) λ_=>?_
 refine Qc (wpAny_pyIter_revIter hI ?_)
 refine Qc (wpAny_holding (qK3 hI.typeIs ?_))
 refine wpAny_ite_split (λz=>Qn z (by decide +kernel)) λ_=>?_
 exact Qd ⟨plainId_quiet PySem.F.plain_extend_loop _,loop⟩
theorem qEu {Q:Value->Shared->Prop}{items:Array Value}(hh:A.handled=none) (hI:s.heap.IsRevIter r l ((items.size:Int) - 1)) (hl:s.heap.IsList l items) (hrl:l≠r) (hn:items.size<=sizeLine)
  (hQ:∀hp k (row:Array Value) m,(∀b o,b≠r->s.heap.get? b=some o->hp.get? b=some o)->hp.get? s.heap.objs.size=some { cls:=.type "list",dict:=none,data:=.seq row m,slots:=#[] }->ItemsOf (λi v=>items[items.size - 1 - i]?=some v) row items.size->Q (.ref s.heap.objs.size) { s with heap:=hp,toks:=k }) :
  wpAny AT A (call (.type "list") [.ref r]) Q E s:=by
 obtain⟨oI,hoI,hcI,hdI⟩:=id hI
 obtain⟨ol,hol,_⟩:=id hl
 have nr:=iL (Qi hoI)
 have nl:=iL (Qi hol)
 refine callType_codes (Q₁:=λobj z=>obj=.ref s.heap.objs.size/\z={ s with heap:=s.heap.push { cls:=.type "list",data:=.seq #[] } }) PySem.F.called_list (PySem.F.typeCall_list_1 _) PySem.F.entry_list_init (code_list_new _ ⟨rfl,rfl⟩) λobj z hz=>?_
 obtain⟨rfl,rfl⟩:=hz
 have at0:(s.heap.push { cls:=.type "list",data:=.seq #[] }).get? s.heap.objs.size=some { cls:=.type "list",data:=.seq #[] }:=Qh _ rfl
 refine⟨⟨_,at0,rfl⟩,PySem.F.args_list_init_2 _ _,?_⟩
 show wpAny _ _ (do let old <-Builtin.List.listItems (.ref s.heap.objs.size);Builtin.List.listUpdate (.ref s.heap.objs.size) (λ_=>#[]);letGo old.toList.reverse;Builtin.List.listExtendWith (.ref s.heap.objs.size) (.ref r) .none) _ _ _
 refine Qc ?_
 unfold Builtin.List.listItems
 refine Qc (wpAny_seqItems at0 rfl (Qd ?_))
 refine Qc (m:=Builtin.List.listUpdate (.ref s.heap.objs.size) (λ_=>#[])) (show wpAny _ _ (updateSeq s.heap.objs.size (λ_=>#[])) _ _ _ from wpAny_updateSeq at0 rfl ?_)
 have at1:=Heap.get?_update_self (Obj.mapSeq (λ_=>(#[]:Array Value))) at0 rfl
 have on:∀b o,s.heap.get? b=some o->((s.heap.push { cls:=.type "list",data:=.seq #[] }).update s.heap.objs.size (Obj.mapSeq (λ_=>(#[]:Array Value)))).get? b=some o:=λb o e =>
  (Heap.get?_update_other _ _ (iL (Qi e))).trans (Qg _ e)
 refine Qc (wpAny_letGo ?_)
 refine qHa (prog:=prog) (w:=w) (A:=A.in1) (s:={ s with heap:=(s.heap.push { cls:=.type "list",data:=.seq #[] }).update s.heap.objs.size (Obj.mapSeq (λ_=>(#[]:Array Value))) }) (items:=items) (l:=l) hh ⟨oI,on _ _ hoI,hcI,hdI⟩ ?_ hrl _ nr nl .none _ at1 hn λhp k row m keep at_ its=>?_
 ·obtain⟨o,h1,h2⟩:=hl
  exact⟨o,on _ _ h1,h2⟩
 ·exact⟨rfl,hQ hp k row m (λb o hb e=>keep b o (bV (Qi e)) hb (on b o e)) at_ its⟩
end
end Dw
namespace Dw
open PySem PySem.Spec PyProof.Rows L2
theorem qNH {its:List Value}{row:Array Value}(h:ItemsOf (λi v=>its.toArray[its.toArray.size - 1 - i]?=some v) row its.toArray.size):row.toList=its.reverse:=by
 obtain⟨h1,h2⟩:=h
 have h1:row.size=its.length:=by simpa using h1
 apply List.ext_getElem
 ·simp [h1]
 ·intro i q1 q2
  have q1:i<row.size:=by simpa using q1
  have:=h2 i row[i] (mz q1)
  simp only [aO,List.getElem?_toArray] at this
  obtain⟨q,e⟩:=yal.mp this
  rw [List.getElem_reverse,Array.getElem_toList]
  exact e.symm
section
variable {X:Cx}
theorem qG2 {x y:Str}{e:Expr}{te:TE}{p p2 pos pos2:Pos}(hc:X.calm=true) (hg:Gl X x) (hm:X.mg x=none) (hv:Qo x=some (.type "list")) (hn:x≠"__name__") (hd:(x == ("__debug__":Str))=false)
  (hg':Gl X y) (hm':X.mg y=none) (hv':Qo y=some (.type "reversed")) (hn':y≠"__name__") (hd':(y == ("__debug__":Str))=false) (he:PE X e te) (hst:starEach [e] X.env=[(false,eval e X.env)]) :
  PE X (.Call (.Name x p) [.Call (.Name y p2) [e] [] pos2] [] pos) (fun Z H Q=>te Z H λv H1=>∃a xs,v=.ref a/\SqL X.K H1 a xs/\∀l,H1 l=none->Q (.ref l) (aB H1 l (.lst xs.reverse))):=by
 intro pins s Z H Q I h
 refine wpAny_Call_Name_kw (iA I hg hm hv ?_ hn hd)
 refine jb (Calls.spliced_cons ?_)
 refine wpAny_Call_Name_kw (iA I hg' hm' hv' ?_ hn' hd')
 have ha:wpAny C0 X.A (spliced (backTo pos2 (starEach [e] X.env))) (λus s1=>∃vs H1,Inv X pins Z H1 s1/\Vals vs us/\match vs with|[v]=>∃a xs,v=.ref a/\SqL X.K H1 a xs/\∀l,H1 l=none->Q (.ref l) (aB H1 l (.lst xs.reverse))|_=>False) X.xe s:=
  (gd he iB hst) pos2 pins s Z H (λvs H1=>match vs with|[v]=>∃a xs,v=.ref a/\SqL X.K H1 a xs/\∀l,H1 l=none->Q (.ref l) (aB H1 l (.lst xs.reverse))|_=>False) I h
 refine jb (aC ha λus s1 hq=>?_) hst rfl
 obtain⟨vs,H1,I1,r1,q⟩:=hq
 match vs,r1,q with
 | [v],r1,q =>
  obtain⟨a,xs,rfl,hq,q⟩:=q
  obtain⟨u,rfl,ru⟩:=gF r1
  cases ru
  obtain⟨its,rv,pl,hz⟩:=I1.list hq
  refine call_reversed_list pl.isList ?_
  have hit:H1 s1.heap.objs.size=none:=I1.hok.fresh (au _)
  have I2:Inv X pins Z H1 { s1 with heap:=s1.heap.push Ck }:=I1.kept (t':=s1.toks) λb o eb=>Qg _ eb
  obtain⟨f0,f1,f2,f3,f4,f5⟩:=I1.fpOk (au _) hit
  obtain⟨o,ho,hcl,n,hda⟩:=pl.isList
  have hlt:=Qi ho
  refine Calls.spliced_nil ?_
  refine qEu (items:=its.toArray) (l:=a) (I2.ok.hd hc) ⟨_,Qh _ rfl,rfl,rfl⟩ ⟨o,Qg _ ho,hcl,n,hda⟩ (bV hlt) (by rw [aO,<-rv.length];exact hz) λhp k row m keep at_ rows=>?_
  have hrow:=qNH rows
  have hL:H1 (s1.heap.push Ck).objs.size=none:=I2.hok.fresh (au _)
  have hne:s1.heap.objs.size≠(s1.heap.push Ck).objs.size:=by rw [Heap.size_push];omega
  have hz2:xs.reverse.length<=sizeLine:=by rw [oh];exact hz
  have I3:Inv X pins Z (aB H1 (s1.heap.push Ck).objs.size (.lst xs.reverse)) { s1 with heap:=(s1.heap.push Ck).push { cls:=.type "list",dict:=none,data:=.seq row m,slots:=#[] } }:=
   I2.laid (t':=s1.toks) (λb o eb=>Qg _ eb) (au _) ⟨hz2,row.toList,m,by rw [hrow];exact rv.reverse,by have:=Qh (s1.heap.push Ck) (o:={ cls:=.type "list",dict:=none,data:=.seq row m,slots:=#[] }) rfl;simpa using this⟩
  have I4:=I3.turned (h':=hp) (t':=k) (it:=s1.heap.objs.size) (λb o hb eb=>by
   by_cases z:b=(s1.heap.push Ck).objs.size
   ·subst z
    have e2:=Qh (s1.heap.push Ck) (o:={ cls:=.type "list",dict:=none,data:=.seq row m,slots:=#[] }) rfl
    rw [e2] at eb
    cases eb
    exact at_
   ·refine keep b o hb ?_
    rcases Heap.get?_push_cases eb with ⟨y,_⟩|y
    ·exact Qn y z
    ·exact y) (by rw [aD hne];exact hit) f1 f3 f4 f5
  exact⟨.ref _,_,I4,rfl,q _ hL⟩
end
end Dw
namespace Dw
open PySem PySem.Spec PyProof.Rows L2
section
variable {call:Nat->List D->Option R}{G:Gx}{k:Nat}{X:Cx}{sc:Scope}{N:List Str}
theorem RPs.one {K:Qb}{H:Hp}{F:Fz}{d:D}{vs:List V}(h:RPs K H F [d] vs):∃v,vs=[v]/\RP K H F d v:=by
 obtain⟨v,r,e,h1,h2⟩:=h
 cases h2
 exact⟨v,e,h1⟩
theorem RPs.two {K:Qb}{H:Hp}{F:Fz}{d e:D}{vs:List V}(h:RPs K H F [d,e] vs):∃v w,vs=[v,w]/\RP K H F d v/\RP K H F e w:=by
 obtain⟨v,r,e1,h1,h2⟩:=h
 obtain⟨w,e2,h3⟩:=RPs.one h2
 exact⟨v,w,by rw [e1,e2],h1,h3⟩
theorem RPs.three {K:Qb}{H:Hp}{F:Fz}{d e f:D}{vs:List V}(h:RPs K H F [d,e,f] vs):∃v w u,vs=[v,w,u]/\RP K H F d v/\RP K H F e w/\RP K H F f u:=by
 obtain⟨v,r,e1,h1,h2⟩:=h
 obtain⟨w,u,e2,h3,h4⟩:=RPs.two h2
 exact⟨v,w,u,by rw [e1,e2],h1,h3,h4⟩
variable (X) in
def jB (b:BI) (r:List V->Hp->VK->Prop):Prop:=∀(H:Hp) (F:Fz) (ds:List D) (vs:List V) (z:R) (Q:VK),lZ b ds=some z->(∀a,H a=none->¬F a)->RPs X.K H F ds vs->(∀v H' F',Gr H F H' F'->RR X.K H H' F' z v->Q v H')->r vs H Q
theorem qRq:jB X .len (λxs H Q=>∃p ys,xs=[.ref p]/\(SqL X.K H p ys∨SqT X.K H p ys)/\Q (.int ys.length) H):=by
 intro H F ds vs z Q hz dom hs kk
 match ds,hz,hs with
 | [.tup xs],hz,hs =>
  cases hz
  obtain⟨v,rfl,hv⟩:=RPs.one hs
  obtain⟨p,ws,rfl,h1,h2⟩:=hv.tup
  exact⟨p,ws,rfl,.inr h1,by rw [RDs.length h2];exact kk _ H F (Gr.refl dom) rfl⟩
 | [.lst xs],hz,hs =>
  cases hz
  obtain⟨v,rfl,hv⟩:=RPs.one hs
  obtain⟨p,ws,rfl,h1,h2⟩:=hv.lst
  exact⟨p,ws,rfl,.inl h1,by rw [RDs.length h2];exact kk _ H F (Gr.refl dom) rfl⟩
theorem qRo:jB X .min (λxs H Q=>(∃i j,xs=[.int i,.int j]/\Q (.int (if j<i then j else i)) H)∨∃(p:Addr) (is:List Int) (m:Int),xs=[.ref p]/\SqL X.K H p (is.map V.int)/\km is=some m/\Q (.int m) H):=by
 intro H F ds vs z Q hz dom hs kk
 match ds,hz,hs with
 | [.int i,.int j],hz,hs =>
  cases hz
  obtain⟨v,w,rfl,hv,hw⟩:=RPs.two hs
  exact .inl ⟨i,j,by rw [hv.int,hw.int],kk _ H F (Gr.refl dom) rfl⟩
 | [.lst xs],hz,hs =>
  have hz:kR xs=some z:=hz
  unfold kR at hz
  split at hz
  ·rename_i is e1
   obtain⟨m,e3,e4⟩:=yab.mp hz
   subst e4
   obtain⟨v,rfl,hv⟩:=RPs.one hs
   obtain⟨p,ws,rfl,h1,h2⟩:=hv.lst
   rw [RDs.ints h2 e1] at h1
   exact .inr ⟨p,is,m,rfl,h1,e3,kk _ H F (Gr.refl dom) rfl⟩
  ·cases hz
theorem qRp:jB X .max (λxs H Q=>((∃i j,xs=[.int i,.int j]/\Q (.int (if j > i then j else i)) H)∨∃i j k,xs=[.int i,.int j,.int k]/\Q (.int (if k > (if j > i then j else i) then k else (if j > i then j else i))) H)∨∃(p:Addr) (is:List Int) (m:Int),xs=[.ref p]/\SqL X.K H p (is.map V.int)/\kj is=some m/\Q (.int m) H):=by
 intro H F ds vs z Q hz dom hs kk
 match ds,hz,hs with
 | [.int i,.int j],hz,hs =>
  cases hz
  obtain⟨v,w,rfl,hv,hw⟩:=RPs.two hs
  exact .inl (.inl ⟨i,j,by rw [hv.int,hw.int],kk _ H F (Gr.refl dom) rfl⟩)
 | [.int i,.int j,.int l],hz,hs =>
  cases hz
  obtain⟨v,w,u,rfl,hv,hw,hu⟩:=RPs.three hs
  exact .inl (.inr ⟨i,j,l,by rw [hv.int,hw.int,hu.int],kk _ H F (Gr.refl dom) rfl⟩)
 | [.lst xs],hz,hs =>
  obtain⟨is,e1,e2⟩:=ah hz
  obtain⟨m,e3,e4⟩:=yab.mp e2
  subst e4
  obtain⟨v,rfl,hv⟩:=RPs.one hs
  obtain⟨p,ws,rfl,h1,h2⟩:=hv.lst
  rw [RDs.ints h2 e1] at h1
  exact .inr ⟨p,is,m,rfl,h1,e3,kk _ H F (Gr.refl dom) rfl⟩
theorem qRn:jB X .sum (λxs H Q=>∃(p:Addr) (is:List Int),xs=[.ref p]/\SqL X.K H p (is.map V.int)/\Q (.int is.sum) H):=by
 intro H F ds vs z Q hz dom hs kk
 match ds,hz,hs with
 | [.lst xs],hz,hs =>
  obtain⟨is,e1,e2⟩:=yab.mp hz
  subst e2
  obtain⟨v,rfl,hv⟩:=RPs.one hs
  obtain⟨p,ws,rfl,h1,h2⟩:=hv.lst
  rw [RDs.ints h2 e1] at h1
  exact⟨p,is,rfl,h1,kk _ H F (Gr.refl dom) rfl⟩
theorem RDs.of_tps {K:Qb}{H:Hp}{F:Fz}:∀{ts:List (List Int)}{vs:List V},TpV K H vs ts->RDs K H F (ts.map λt=>.tup (t.map .int)) vs
 | [],[],_=>rfl
 | t::ts,v::vs,⟨⟨a,e,q⟩,h⟩=>⟨v,vs,rfl,⟨a,_,e,q,RDs.of_ints t⟩,RDs.of_tps h⟩
theorem RDs.tps {K:Qb}{H:Hp}{F:Fz}:∀{ds:List D}{vs:List V}{ts:List (List Int)},RDs K H F ds vs->lr ds=some ts->TpV K H vs ts
 | [],vs,ts,h,e=>by cases h;cases e;trivial
 | d::ds,vs,ts,h,e=>by
  obtain⟨v,r,rfl,h1,h2⟩:=h
  cases d<;>first|cases e|skip
  obtain⟨is,e1,e2⟩:=ah e
  obtain⟨rs,e3,rfl⟩:=yab.mp e2
  obtain⟨p,ws,rfl,g1,g2⟩:=h1
  rw [RDs.ints g2 e1] at g1
  exact⟨⟨p,rfl,g1⟩,RDs.tps h2 e3⟩
theorem qJz:jB X .sorted (λxs H Q=>(∃(p:Addr) (is:List Int),xs=[.ref p]/\(SqL X.K H p (is.map V.int)∨SqT X.K H p (is.map V.int))/\is.length<64/\∀l,H l=none->Q (.ref l) (aB H l (.lst ((g0 is).map V.int)))) ∨
  ∃(p:Addr) (vs:List V) (is:List (List Int)),xs=[.ref p]/\SqL X.K H p vs/\TpV X.K H vs is/\(∀t∈is,t≠[])/\∀l ws,H l=none->TpV X.K H ws (g9 is)->Q (.ref l) (aB H l (.lst ws))):=by
 intro H F ds vs z Q hz dom hs kk
 match ds,hz,hs with
 | [.lst xs],hz,hs =>
  obtain⟨v,rfl,hv⟩:=RPs.one hs
  obtain⟨p,ws,rfl,h1,h2⟩:=hv.lst
  have hz':jS xs=some z:=hz
  unfold jS at hz'
  split at hz'
  ·rename_i is e1
   obtain⟨h64,rfl⟩:=dj hz'
   rw [RDs.ints h2 e1] at h1
   refine .inl ⟨p,is,rfl,.inl h1,h64,λl hl=>?_⟩
   obtain⟨g,rr⟩:=iI dom hl (RDs.of_ints (g0 is))
   exact kk _ _ _ g rr
  ·obtain⟨is,e1,e2⟩:=ah hz'
   obtain⟨h64,rfl⟩:=dj e2
   have hh:=RDs.tps h2 e1
   refine .inr ⟨p,ws,is,rfl,h1,hh,h64,λl us hl hu=>?_⟩
   obtain⟨g,rr⟩:=iI dom hl (RDs.of_tps hu)
   exact kk _ _ _ g rr
 | [.tup xs],hz,hs =>
  obtain⟨is,e1,e2⟩:=ah hz
  obtain⟨h64,rfl⟩:=dj e2
  obtain⟨v,rfl,hv⟩:=RPs.one hs
  obtain⟨p,ws,rfl,h1,h2⟩:=hv.tup
  rw [RDs.ints h2 e1] at h1
  refine .inl ⟨p,is,rfl,.inr h1,h64,λl hl=>?_⟩
  obtain⟨g,rr⟩:=iI dom hl (RDs.of_ints (g0 is))
  exact kk _ _ _ g rr
theorem qLz:jB X .tuple (λxs H Q=>∃p ys,xs=[.ref p]/\((SqL X.K H p ys/\∀l,H l=none->Q (.ref l) (aB H l (.tup ys)))∨(SqT X.K H p ys/\Q (.ref p) H))):=by
 intro H F ds vs z Q hz dom hs kk
 match ds,hz,hs with
 | [.lst xs],hz,hs =>
  cases hz
  obtain⟨v,rfl,hv⟩:=RPs.one hs
  obtain⟨p,ws,rfl,h1,h2⟩:=hv.lst
  refine⟨p,ws,rfl,.inl ⟨h1,λl hl=>?_⟩⟩
  obtain⟨g,rr⟩:=lS dom hl h2
  exact kk _ _ _ g rr
 | [.tup xs],hz,hs =>
  cases hz
  obtain⟨v,rfl,hv⟩:=RPs.one hs
  obtain⟨p,ws,rfl,h1,h2⟩:=hv.tup
  exact⟨p,ws,rfl,.inr ⟨h1,kk _ H F (Gr.refl dom) ⟨p,ws,rfl,h1,h2⟩⟩⟩
theorem qON:jB X .list (λxs H Q=>∃p ys,xs=[.ref p]/\(SqL X.K H p ys∨SqT X.K H p ys)/\∀l,H l=none->Q (.ref l) (aB H l (.lst ys))):=by
 intro H F ds vs z Q hz dom hs kk
 match ds,hz,hs with
 | [.lst xs],hz,hs =>
  cases hz
  obtain⟨v,rfl,hv⟩:=RPs.one hs
  obtain⟨p,ws,rfl,h1,h2⟩:=hv.lst
  refine⟨p,ws,rfl,.inl h1,λl hl=>?_⟩
  obtain⟨g,rr⟩:=iI dom hl h2
  exact kk _ _ _ g rr
 | [.tup xs],hz,hs =>
  cases hz
  obtain⟨v,rfl,hv⟩:=RPs.one hs
  obtain⟨p,ws,rfl,h1,h2⟩:=hv.tup
  refine⟨p,ws,rfl,.inr h1,λl hl=>?_⟩
  obtain⟨g,rr⟩:=iI dom hl h2
  exact kk _ _ _ g rr
theorem qRr:jB X .int (λxs H Q=>(∃i,xs=[.int i]/\Q (.int i) H)∨∃k,xs=[.bl k]/\Q (.int (if k then 1 else 0)) H):=by
 intro H F ds vs z Q hz dom hs kk
 match ds,hz,hs with
 | [.bl b],hz,hs =>
  cases hz
  obtain⟨v,rfl,hv⟩:=RPs.one hs
  exact .inr ⟨b,by rw [hv.bl],kk _ H F (Gr.refl dom) rfl⟩
 | [.int i],hz,hs =>
  cases hz
  obtain⟨v,rfl,hv⟩:=RPs.one hs
  exact .inl ⟨i,by rw [hv.int],kk _ H F (Gr.refl dom) rfl⟩
theorem qRi:Qo (Qa "len")=some (.builtin "len"):=by decide +kernel
theorem qRg:Qo (Qa "min")=some (.builtin "min"):=by decide +kernel
theorem qRh:Qo (Qa "max")=some (.builtin "max"):=by decide +kernel
theorem qRe:Qo (Qa "sum")=some (.builtin "sum"):=by decide +kernel
theorem qJx:Qo (Qa "sorted")=some (.builtin "sorted"):=by decide +kernel
theorem qRj:Qo (Qa "isinstance")=some (.builtin "isinstance"):=by decide +kernel
theorem zW:Qo (Qa "tuple")=some (.type "tuple"):=by decide +kernel
theorem tM:Qo (Qa "list")=some (.type "list"):=by decide +kernel
theorem xR:Qo (Qa "int")=some (.type "int"):=by decide +kernel
theorem qOM:Qo (Qa "bool")=some (.type "bool"):=by decide +kernel
theorem qRf:Qo (Qa "str")=some (.type "str"):=by decide +kernel
theorem uo (h:f6 x=true):x≠"__name__"/\(x == ("__debug__":Str))=false:=by
 unfold f6 at h
 simp only [aP,bne_iff_ne,ne_eq] at h
 exact⟨h.2,beq_eq_false_iff_ne.mpr h.1.1⟩
theorem hU (h:x=Qa s) (hs:s∈["len","abs","min","max","sum","all","tuple","list","int","bool","str","isinstance","range","zip","reversed","sorted","enumerate","any"]):x∈cf:=by
 subst h
 exact yaO.mpr ⟨s,hs,rfl⟩
theorem qHT (g:XG call G k X sc N) (hb:rM x es.length=some b) (hd:G.defs.lookup x=none) (hg:bJ sc x=true) (hp:f6 x=true) (hn:es.all dP=true) (h:jo call X es cs) :
  SndE call X (.Call (.Name x p) es [] pos) (.bi b cs):=by
 obtain⟨h1,h2⟩:=uo hp
 have gx:=g.gl x hg
 have bl:∀s:String,x=Qa s->s∈["len","abs","min","max","sum","all","tuple","list","int","bool","str","isinstance","range","zip","reversed","sorted","enumerate","any"]->X.mg x=none:=λs e hs=>g.blt x hd (hU e hs)
 have ne:∀{n:Nat},es.length=n+1->es≠[]:=λe z=>by rw [z] at e;cases e
 unfold rM at hb
 split at hb
 ·rename_i e
  split at hb
  ·rename_i hl
   cases hb
   exact mW qFc gx (bl _ e At) (by rw [e];exact qRi) h1 h2 hn (ne hl) h qRq
  ·cases hb
 split at hb
 ·rename_i e
  split at hb
  ·rename_i hl
   cases hb
   exact mW ((qJm g.calm).or (qJn g.calm)) gx (bl _ e At) (by rw [e];exact qRg) h1 h2 hn (hl.elim (λz=>ne z) (λz=>ne z)) h qRo
  ·cases hb
 split at hb
 ·rename_i e
  split at hb
  ·rename_i hl
   cases hb
   exact mW (((qJp g.calm).or (qJo g.calm)).or (qJq g.calm)) gx (bl _ e At) (by rw [e];exact qRh) h1 h2 hn (hl.elim (λz=>ne z) (λz=>z.elim (λz=>ne z) (λz=>ne z))) h qRp
  ·cases hb
 split at hb
 ·rename_i e
  split at hb
  ·rename_i hl
   cases hb
   exact mW (qJl g.calm) gx (bl _ e At) (by rw [e];exact qRe) h1 h2 hn (ne hl) h qRn
  ·cases hb
 split at hb
 ·rename_i e
  split at hb
  ·rename_i hl
   cases hb
   exact uI qEt gx (bl _ e At) (by rw [e];exact zW) h1 h2 hn (ne hl) h qLz
  ·cases hb
 split at hb
 ·rename_i e
  split at hb
  ·rename_i hl
   cases hb
   exact uI qFb gx (bl _ e At) (by rw [e];exact tM) h1 h2 hn (ne hl) h qON
  ·cases hb
 split at hb
 ·rename_i e
  split at hb
  ·rename_i hl
   cases hb
   exact uI qJs gx (bl _ e At) (by rw [e];exact xR) h1 h2 hn (ne hl) h qRr
  ·cases hb
 unfold wL at hb
 split at hb
 ·rename_i e
  split at hb
  ·rename_i hl
   cases hb
   exact mW (qKB qFa qE9) gx (bl _ e At) (by rw [e];exact qJx) h1 h2 hn (ne hl) h qJz
  ·cases hb
 ·cases hb
theorem qMW (h:ov t=some ty):Qo t=some (.type (mX ty))/\t∈cf/\f6 t=true:=by
 unfold ov at h
 split at h
 ·rename_i e;subst e;cases h;exact⟨xR,hU rfl (by decide),by decide +kernel⟩
 split at h
 ·rename_i e;subst e;cases h;exact⟨qOM,hU rfl (by decide),by decide +kernel⟩
 split at h
 ·rename_i e;subst e;cases h;exact⟨zW,hU rfl (by decide),by decide +kernel⟩
 split at h
 ·rename_i e;subst e;cases h;exact⟨tM,hU rfl (by decide),by decide +kernel⟩
 split at h
 ·rename_i e;subst e;cases h;exact⟨qRf,hU rfl (by decide),by decide +kernel⟩
 ·cases h
theorem qNw (g:XG call G k X sc N) (hf:f=Qa "isinstance") (hd:G.defs.lookup f=none) (hdt:G.defs.lookup t=none) (hg:bJ sc f=true) (hgt:bJ sc t=true) (ht:ov t=some ty) (hn:dP a=true) (h:eg call X a ca) :
  SndE call X (.Call (.Name f p) [a,.Name t p2] [] pos) (.isi ca ty):=by
 obtain⟨b1,b2,b3⟩:=qMW ht
 obtain⟨n1,n2⟩:=uo b3
 have hm:X.mg f=none:=g.blt f hd (hU hf At)
 obtain⟨ta,pa,qa⟩:=h
 have pt:PE X (.Name t p2) (tC (.ty (mX ty))):=qNU (g.gl t hgt) (g.blt t hdt b2) b1 rfl n1 n2
 refine⟨_,zN qJr (g.gl f hg) hm (by rw [hf];exact qRj) (gd pa (gd pt iB) (cF hn)) (by rw [hf];decide +kernel) (by rw [hf];decide +kernel) (cF hn) (by rfl),λGe H F Z τ z Q hz hs kk=>?_⟩
 obtain⟨x,ex,ez⟩:=ah (by simpa only [qOw] using hz)
 have ez0:om ty x=some z:=ez
 obtain⟨b,rfl⟩:∃b,z=(false,.bl b):=by cases x<;>first|(cases ez;exact⟨_,rfl⟩)|cases ez
 refine qa Ge H F Z τ x _ ex hs λv H1 F1 g1 rx=>?_
 exact⟨v,x,F1,ty,b,rfl,rx,ez0,kk _ H1 F1 g1 rfl⟩
theorem qFW:Qo (Qa "reversed")=some (.type "reversed"):=by decide +kernel
theorem qKh (g:XG call G k X sc N) (hf:f=Qa "list") (hh:h=Qa "reversed") (hd:G.defs.lookup f=none) (hdh:G.defs.lookup h=none) (hg:bJ sc f=true) (hgh:bJ sc h=true) (hn:dP e=true) (hs:eg call X e c) :
  SndE call X (.Call (.Name f p) [.Call (.Name h p2) [e] [] pos2] [] pos) (.revL c):=by
 obtain⟨t,pt,qt⟩:=hs
 refine⟨_,qG2 g.calm (g.gl f hg) (g.blt f hd (hU hf At)) (by rw [hf];exact tM) (by rw [hf];decide +kernel) (by rw [hf];decide +kernel) (g.gl h hgh) (g.blt h hdh (hU hh At)) (by rw [hh];exact qFW) (by rw [hh];decide +kernel) (by rw [hh];decide +kernel) pt (cF hn),λGe H F Z τ z Q hz hs kk=>?_⟩
 obtain⟨d,e1,hz⟩:=ah (by simpa only [zA] using hz)
 refine qt Ge H F Z τ d _ e1 hs λv H1 F1 g1 rx=>?_
 cases d with
 | lst xs =>
  obtain⟨h1,rfl⟩:=dj (show (if xs.length<=lim then some (true,D.lst xs.reverse) else none)=some z from hz)
  obtain⟨a,vs,rfl,hl,hr⟩:=rx.lst
  refine⟨a,vs,rfl,hl,λl hl2=>?_⟩
  obtain⟨g4,rr⟩:=iI g1.dom hl2 (RDs.rev hr)
  exact kk _ _ _ (g1.trans g4) (rr.back g1.same)
 | _=>cases hz
theorem qH0 (h:sE G sc f as=some a):∃y p2 pos2,as=[.Call (.Name y p2) [a] [] pos2]/\f=Qa "list"/\y=Qa "reversed"/\bJ sc y=true/\G.defs.lookup y=none:=by
 unfold sE at h
 split at h
 ·split at h
  ·rename_i hq
   simp only [aP] at hq
   cases h
   exact⟨_,_,_,rfl,by simpa using hq.1.1.1,by simpa using hq.1.1.2,hq.1.2,by simpa using hq.2⟩
  ·cases h
 ·cases h
end
end Dw
namespace Dw
open PySem PySem.Spec PyProof.Rows L2
theorem eZ {Z:En}{i:Nat}{o:Option R}(h:i<Z.length):ao (Z.set i o) i=o:=by
 simp [ao,h]
theorem cL (h:i≠j):ao (Z.set i o) j=ao Z j:=by
 simp [ao,ck h]
theorem gH (h:ao Z i=some r):i<Z.length:=by
 by_cases hi:i<Z.length
 ·exact hi
 ·have:Z[i]?=none:=List.getElem?_eq_none AC
  simp [ao,this] at h
section
variable {K:Qb}{G:Gp}{H H1:Hp}{F F1:Fz}{Z:En}{τ:L2.St}{i:Nat}{d:D}{v:V}
theorem SR.bind (s:SR K G H F Z τ) (h:RD K H F d v):SR K G H F (Z.set i (some (false,d))) (τ.set i (some v)):=by
 refine⟨by simp [s.len],s.ent,s.dom,λj e hj=>?_,λj e hj hd=>?_,λj k e e' hj hk hjk=>?_,λj m ks hj=>?_,λp e hp hj=>?_⟩
 ·by_cases hij:i=j
  ·subst hij
   have hl:i<Z.length:=by simpa using gH hj
   rw [eZ hl] at hj
   cases hj
   exact⟨v,by rw [kK (by rw [<-s.len];exact hl)],h⟩
  ·rw [cL hij] at hj
   obtain⟨u,h1,h2⟩:=s.val j e hj
   exact⟨u,by rw [ck hij];exact h1,h2⟩
 ·have hij:i≠j:=λz=>by
   subst z
   have hl:i<Z.length:=by simpa using gH hj
   rw [eZ hl] at hj
   cases hj
  rw [cL hij] at hj
  obtain⟨a,ds,vs,h1,h2,h3⟩:=s.own j e hj hd
  exact⟨a,ds,vs,h1,by rw [ck hij];exact h2,h3⟩
 ·have nj:∀{j:Nat} {e:D},ao (Z.set i (some (false,d))) j=some (true,e)->i≠j:=λ{j e} hj z=>by
   subst z
   have hl:i<Z.length:=by simpa using gH hj
   rw [eZ hl] at hj
   cases hj
  have n1:=nj hj
  have n2:=nj hk
  rw [cL n1] at hj
  rw [cL n2] at hk
  rw [ck n1,ck n2] at hjk
  exact s.sep j k e e' hj hk hjk
 ·have hij:i≠j:=λz=>by
   subst z
   have hl:i<Z.length:=by simpa using gH hj
   rw [eZ hl] at hj
   cases hj
  rw [cL hij] at hj
  obtain⟨a,h1,h2⟩:=s.dct j m ks hj
  exact⟨a,by rw [ck hij];exact h1,h2⟩
 ·have hij:i≠0:=λz=>by
   subst z
   have hl:0<Z.length:=by simpa using gH hj
   rw [eZ hl] at hj
   cases hj
  rw [cL hij] at hj
  rw [ck hij]
  exact s.pin p e hp hj
theorem SR.skip (s:SR K G H F Z τ) (h:ao Z i=none):SR K G H F Z (τ.set i (some v)):=by
 have ne:∀{j:Nat} {r:R},ao Z j=some r->i≠j:=λ{j r} e z=>by subst z;rw [h] at e;cases e
 refine⟨by simp [s.len],s.ent,s.dom,λj e hj=>?_,λj e hj hd=>?_,λj k e e' hj hk hjk=>?_,λj m ks hj=>?_,λp e hp hj=>?_⟩
 ·obtain⟨u,h1,h2⟩:=s.val j e hj
  exact⟨u,by rw [ck (ne hj)];exact h1,h2⟩
 ·obtain⟨a,ds,vs,h1,h2,h3⟩:=s.own j e hj hd
  exact⟨a,ds,vs,h1,by rw [ck (ne hj)];exact h2,h3⟩
 ·rw [ck (ne hj),ck (ne hk)] at hjk
  exact s.sep j k e e' hj hk hjk
 ·obtain⟨a,h1,h2⟩:=s.dct j m ks hj
  exact⟨a,by rw [ck (ne hj)];exact h1,h2⟩
 ·rw [ck (ne hj)]
  exact s.pin p e hp hj
theorem SR.keep (s:SR K G H F Z τ) (k:Keep H F H1 F1) (ent:Same G'.h H1) (dom:∀a,H1 a=none->¬F1 a)
  (own:∀i d,ao Z i=some (true,d)->jM d=false->∃a ds vs,d=.lst ds/\τ[i]?=some (some (.ref a))/\G' a=none/\¬F1 a/\H1 a=some (.lst vs)/\RDs K H1 F1 ds vs)
  (dct:∀i m ks,ao Z i=some (true,.dct m ks)->∃a,τ[i]?=some (some (.ref a))/\¬F1 a/\H1 a=some (.dK (dk ks))/\(m=true->G' a=none))
  (pin:∀p d,G'.pin=some p->ao Z 0=some (true,d)->τ[0]?=some (some (.ref p))):SR K G' H1 F1 Z τ:=
 ⟨s.len,ent,dom,λi d e=>let ⟨v,h1,h2⟩:=s.val i d e;⟨v,h1,RD.mono k h2⟩,own,s.sep,dct,pin⟩
theorem Keep.trans (a:Keep H F H1 F1) (b:Keep H1 F1 H2 F2):Keep H F H2 F2:=
 ⟨λp xs h=>b.tups p xs (a.tups p xs h),λp xs f h=>b.lsts p xs (a.lsts p xs f h).1 (a.lsts p xs f h).2,λp C dx fs h=>b.inss p C dx fs (a.inss p C dx fs h),λp o u h=>b.frzs p o u (a.frzs p o u h)⟩
theorem Keep.refl:Keep H F H F:=⟨λ_ _ h=>h,λ_ _ f h=>⟨f,h⟩,λ_ _ _ _ h=>h,λ_ _ _ h=>h⟩
end
section
variable {call:Nat->List D->Option R}{G:Gx}{k:Nat}{X:Cx}{sc:Scope}{N:List Str}
def gL:List Nat->iK
 | []=>rT
 | i::is=>oX (jW i) (gL is)
def nN (K:Qb):Tg->TG
 | .one i=>jW i
 | .two i j=>rV K 2 (oX (jW i) (oX (jW j) rT))
 | .many is=>rV K is.length (gL is)
theorem jZ (g:XG call G k X sc N) (h:(sc.names.lookup x == some .local||sc.names.lookup x == some .cell)=true):mf X.env.scope x/\(X.fn x=true∨X.env.scope.names.lookup x=some .local):=g.loc x h
theorem qPz (g:XG call G k X sc N) (h:fD sc N tg=some t):PG X tg (nN X.K t):=by
 unfold fD at h
 split at h
 ·rename_i x pos
  split at h
  ·rename_i hx
   cases hi:bQ N x with
   | none=>rw [hi] at h;cases h
   | some i =>
    rw [hi] at h
    cases h
    obtain⟨l1,l2⟩:=jZ g hx
    exact qk (by rw [g.hN];exact g.nd) (by rw [g.hN];exact iJ hi) l1 l2
  ·cases h
 ·rename_i x p y p' kk pos
  split at h
  ·rename_i hx
   rw [aP,aP] at hx
   obtain⟨⟨hx,hy⟩,hne⟩:=hx
   cases hi:bQ N x with
   | none=>rw [hi] at h;cases h
   | some i =>
    cases hj:bQ N y with
    | none=>rw [hi,hj] at h;cases h
    | some j =>
     rw [hi,hj] at h
     cases h
     obtain⟨l1,l2⟩:=jZ g hx
     obtain⟨m1,m2⟩:=jZ g hy
     exact lh g.calm (uk (qk (by rw [g.hN];exact g.nd) (by rw [g.hN];exact iJ hi) l1 l2) (uk (qk (by rw [g.hN];exact g.nd) (by rw [g.hN];exact iJ hj) m1 m2) yM))
  ·cases h
 ·cases h
theorem ze {K:Qb}{Ge:Gp}{H:Hp}{F:Fz}{Z Z':En}{τ:L2.St}{t:Tg}{d:D}{v:V}{Q:L2.St->Hp->Prop}(hm:∀is,t≠.many is) (s:SR K Ge H F Z τ) (hb:di Z t d=some Z') (hv:RD K H F d v)
  (h:∀τ',SR K Ge H F Z' τ'->(∀Z0:En,SR K Ge H F Z0 τ->(∀i,(t=.one i∨∃j,t=.two i j∨t=.two j i)->ao Z0 i=none)->SR K Ge H F Z0 τ')->Q τ' H):nN K t v τ H Q:=by
 cases t with
 | one i =>
  cases hb
  exact h _ (s.bind hv) fun Z0 s0 hn=>s0.skip (hn i (.inl rfl))
 | two i j =>
  unfold di at hb
  split at hb
  ·rename_i heq;cases heq
  ·rename_i i' j' x y heq
   cases heq
   cases hb
   obtain⟨a,vs,rfl,hs,hr⟩:=hv
   obtain⟨v1,r,rfl,h1,w,r2,e2,h2,h3⟩:=hr
   have h3:r2=[]:=h3
   subst h3
   subst e2
   exact⟨a,[v1,w],rfl,hs,rfl,v1,[w],rfl,w,[],rfl,rfl,h _ ((s.bind h1).bind h2) fun Z0 s0 hn=>(s0.skip (hn i (.inr ⟨j,.inl rfl⟩))).skip (hn j (.inr ⟨i,.inr rfl⟩))⟩
  ·rename_i heq;cases heq
  ·cases hb
 | many is=>exact Qn rfl (hm is)
theorem lV {K:Qb}{Ge:Gp}{H:Hp}{F:Fz}{Q:L2.St->Hp->Prop}:∀{is:List Nat}{ds:List D}{vs:List V}{Z Z':En}{τ:L2.St},SR K Ge H F Z τ->fJ Z is ds=some Z'->RDs K H F ds vs->(∀τ',SR K Ge H F Z' τ'->Q τ' H)->gL is vs τ H Q
 | [],ds,vs,Z,Z',τ,s,hb,hv,h=>by
  cases ds with
  | nil=>cases hb;have hv:vs=[]:=hv;exact⟨hv,h _ s⟩
  | cons d r=>cases hb
 | i::is,ds,vs,Z,Z',τ,s,hb,hv,h=>by
  cases ds with
  | nil=>cases hb
  | cons d r =>
   obtain⟨v,w,rfl,h1,h2⟩:=hv
   exact⟨v,w,rfl,lV (s.bind h1) hb h2 h⟩
theorem ki:∀{is:List Nat}{ds:List D}{Z Z':En},fJ Z is ds=some Z'->ds.length=is.length
 | [],[],_,_,_=>rfl
 | [],_::_,_,_,h=>by cases h
 | _::_,[],_,_,h=>by cases h
 | i::is,d::ds,Z,Z',h=>by rw [de,de,ki (show fJ (Z.set i (some (false,d))) is ds=some Z' from h)]
theorem nz {K:Qb}{Ge:Gp}{H:Hp}{F:Fz}{Z Z':En}{τ:L2.St}{t:Tg}{d:D}{v:V}{Q:L2.St->Hp->Prop}(s:SR K Ge H F Z τ) (hb:di Z t d=some Z') (hv:RD K H F d v)
  (h:∀τ',SR K Ge H F Z' τ'->Q τ' H):nN K t v τ H Q:=by
 cases t with
 | one i=>exact ze (λ_ z=>nomatch z) s hb hv fun τ' s' _=>h τ' s'
 | two i j=>exact ze (λ_ z=>nomatch z) s hb hv fun τ' s' _=>h τ' s'
 | many is =>
  unfold di at hb
  split at hb
  ·rename_i heq;cases heq
  ·rename_i heq;cases heq
  ·rename_i is' ds heq
   cases heq
   obtain⟨a,vs,rfl,hs,hr⟩:=hv
   exact⟨a,vs,rfl,hs,by rw [RDs.length hr];exact ki hb,lV s hb hr h⟩
  ·cases hb
theorem qSy (g:XG call G k X sc N) (h:eC sc N e=some i):PG X e (jW i)/\∃x p,e=.Name x p:=by
 unfold eC at h
 split at h
 ·rename_i x pos
  split at h
  ·rename_i hx
   obtain⟨l1,l2⟩:=jZ g hx
   exact⟨qk (by rw [g.hN];exact g.nd) (by rw [g.hN];exact iJ h) l1 l2,x,pos,rfl⟩
  ·cases h
 ·cases h
theorem pR (g:XG call G k X sc N):∀{es:List Expr}{is:List Nat},cI (eC sc N) es=some is->md X es (gL is)/\(assignEach es X.env).length=is.length/\(assignEach es X.env).findIdx? (·.1)=none
 | [],is,h=>by cases h;exact⟨yM,rfl,rfl⟩
 | e::es,is,h=>by
  unfold cI at h
  cases hx:eC sc N e with
  | none=>rw [hx] at h;cases h
  | some i =>
   rw [hx] at h
   cases hy:cI (eC sc N) es with
   | none=>simp only [bN] at h;rw [hy] at h;cases h
   | some js =>
    simp only [bN] at h
    rw [hy] at h
    cases h
    obtain⟨p1,x,p,rfl⟩:=qSy g hx
    obtain⟨q1,q2,q3⟩:=pR g hy
    refine⟨uk p1 q1 rfl,?_,?_⟩
    ·show (assignEach es X.env).length+1=_
     rw [q2];rfl
    ·show List.findIdx? _ ((false,_)::assignEach es X.env)=none
     rw [List.findIdx?_cons,q3];rfl
theorem qM2 (h:fD sc N tg=some t):∀is,t≠.many is:=by
 intro is z
 subst z
 unfold fD at h
 split at h
 ·split at h
  ·rename_i x _ _;cases hx:bQ N x<;>(rw [hx] at h;cases h)
  ·cases h
 ·split at h
  ·rename_i x _ y _ _ _ _;cases hx:bQ N x<;>rw [hx] at h<;>first|cases h|(cases hy:bQ N y<;>(rw [hy] at h;cases h))
  ·cases h
 ·cases h
theorem tD (g:XG call G k X sc N) (h:fB sc N tg=some t):PG X tg (nN X.K t):=by
 unfold fB at h
 cases ht:fD sc N tg with
 | some t' =>
  rw [ht] at h
  cases h
  exact qPz g ht
 | none =>
  rw [ht] at h
  cases tg with
  | Tuple es kk pos =>
   have h:(cI (eC sc N) es).map Tg.many=some t:=h
   cases hx:cI (eC sc N) es with
   | none=>rw [hx] at h;cases h
   | some is =>
    rw [hx] at h
    cases h
    obtain⟨q1,q2,q3⟩:=pR g hx
    exact lh g.calm q1 q2 q3
  | _=>cases h
end
def ItOk (K:Qb) (J:It) (H:Hp) (F:Fz) (its:List D):Prop:=∀H' F',Keep H F H' F'->(∀a,H' a=none->¬F' a) ->
 (∀i d,its[i]?=some d->J.go i H'/\∀x H3,J.yld i H' x H3->∃F3,Gr H' F' H3 F3/\RD K H3 F3 d x)/\J.stop its.length H'
def oY (K:Qb) (J:It) (H:Hp) (F:Fz) (its:List D):Prop:=∀H' F',Gr H F H' F' ->
 (∀i d,its[i]?=some d->J.go i H'/\∀x H3,J.yld i H' x H3->∃F3,Gr H' F' H3 F3/\RD K H3 F3 d x)/\J.stop its.length H'
theorem ItOk.g {K:Qb}{J:It}{H:Hp}{F:Fz}{its:List D}(h:ItOk K J H F its):oY K J H F its:=λH' F' g=>h H' F' g.keep g.dom
theorem qQQ {K:Qb}{H:Hp}{F:Fz}{a:Addr}{ds:List D}{vs:List V}(h:SqL K H a vs) (r:RDs K H F ds vs):oY K (qU K a) H F ds:=by
 intro H' F' g
 have h':SqL K H' a vs:=h.elim (λz=>.inl (tu g.same z)) .inr
 have r':=RDs.mono g.keep r
 have hl:=RDs.length r'
 refine⟨λi d hd=>?_,⟨vs,h',by omega⟩⟩
 obtain⟨v,e1,e2⟩:=RDs.get r' hd
 refine⟨⟨vs,v,h',e1⟩,λx H3 y=>?_⟩
 obtain⟨rfl,y⟩:=y
 have:=y vs h'
 rw [e1] at this
 cases this
 exact⟨F',Gr.refl g.dom,e2⟩
theorem qOn {K:Qb}{H:Hp}{F:Fz}{a:Addr}{ds:List D}{vs:List V}(h:LsR K H F a vs) (r:RDs K H F ds vs):ItOk K (qU K a) H F ds:=by
 intro H' F' k dom
 have h':LsR K H' F' a vs:=h.elim (λz=>.inl (k.lsts _ _ z.1 z.2)) .inr
 have r':=RDs.mono k r
 have hl:=RDs.length r'
 refine⟨λi d hd=>?_,⟨vs,h'.sq,by omega⟩⟩
 obtain⟨v,e1,e2⟩:=RDs.get r' hd
 refine⟨⟨vs,v,h'.sq,e1⟩,λx H3 y=>?_⟩
 obtain⟨rfl,y⟩:=y
 have:=y vs h'.sq
 rw [e1] at this
 cases this
 exact⟨F',Gr.refl dom,e2⟩
theorem xE {K:Qb}{H:Hp}{F:Fz}{a:Addr}{ds:List D}{vs:List V}(h:SqT K H a vs) (r:RDs K H F ds vs):ItOk K (vn K a) H F ds:=by
 intro H' F' k dom
 have h':SqT K H' a vs:=h.elim (λz=>.inl (k.tups _ _ z)) .inr
 have r':=RDs.mono k r
 have hl:=RDs.length r'
 refine⟨λi d hd=>?_,⟨vs,h',by omega⟩⟩
 obtain⟨v,e1,e2⟩:=RDs.get r' hd
 refine⟨⟨vs,v,h',e1⟩,λx H3 y=>?_⟩
 obtain⟨rfl,y⟩:=y
 have:=y vs h'
 rw [e1] at this
 cases this
 exact⟨F',Gr.refl dom,e2⟩
theorem qQR {K:Qb}{H:Hp}{F:Fz}(lo:Int) (n:Nat):ItOk K (qT lo n) H F ((List.range n).map λi=>.int (lo+(i:Nat))):=by
 intro H' F' k dom
 refine⟨λi d hd=>?_,?_⟩
 ·rw [bU] at hd
  cases q:(List.range n)[i]? with
  | none=>rw [q] at hd;cases hd
  | some j =>
   rw [q] at hd
   obtain⟨hl,ej⟩:=yal.mp q
   simp at hl ej
   subst ej
   cases hd
   refine⟨hl,λx H3 y=>?_⟩
   obtain⟨rfl,rfl⟩:=y
   exact⟨F',Gr.refl dom,rfl⟩
 ·show n<=_
  simp
theorem y6 {K:Qb}{H:Hp}{F:Fz}(lo st:Int) (n:Nat):ItOk K (kC lo st n) H F ((List.range n).map λi=>.int (lo+(i:Nat) * st)):=by
 intro H' F' k dom
 refine⟨λi d hd=>?_,?_⟩
 ·rw [bU] at hd
  cases q:(List.range n)[i]? with
  | none=>rw [q] at hd;cases hd
  | some j =>
   rw [q] at hd
   obtain⟨hl,ej⟩:=yal.mp q
   simp at hl ej
   subst ej
   cases hd
   refine⟨hl,λx H3 y=>?_⟩
   obtain⟨rfl,rfl⟩:=y
   exact⟨F',Gr.refl dom,rfl⟩
 ·show n<=_
  simp
end Dw
namespace Dw
open PySem PySem.Spec PyProof.Rows L2
section
variable {prog:Program}{w:World}{A:Around}{E:Value->Shared->Prop}{s:Shared}
theorem qN9 (hp:s.heap.IsTupleIter p t k) (ht:s.heap.IsTuple t its) (hy:its[k]?=some y)
  (q:∀h1,h1.IsTupleIter p t (k+1)->Heap.SameBut p s.heap h1->Q y { s with heap:=h1 }):wpAny AT A (Builtin.SmallTypes.nextOf (.ref p)) Q E s:=by
 obtain⟨b,b1,b2,b3⟩:=id hp;obtain⟨c,c1,_,n1,c3⟩:=ht;unfold Builtin.SmallTypes.nextOf
 refine Qc (wpAny_callSpecial?_slot (name:=Qa "__next__") hp.typeIs F.slot_tuple_iterator_next (wpAny_call_entry F.slot_tuple_iterator_next hp.typeIs F.entry_tuple_iterator_next ?_ (F.args_tuple_iterator_next_1 _)))
 show wpAny _ _ (field (.ref p) 0 >>= _) _ _ s
 refine Qc (Qf b1 b3 (x:=.ref t) rfl ?_);show wpAny _ _ (if (Value.ref t == Value.none)=true then _ else _) _ _ s
 rw [Qm (show ¬((Value.ref t == Value.none)=true) from fA)];show wpAny _ _ (field (.ref p) 1 >>= _) _ _ s
 refine Qc (Qf b1 b3 (x:=.int k 0) rfl ?_);show wpAny _ _ (seqItems? (.ref t) >>= _) _ _ s
 refine Qc (wpAny_seqItems c1 c3 ?_);simp only [hy,kF]
 refine Qc (wpAny_setField b1 b3 C2 (Qd ⟨y,rfl,Qd (q _ ?_ (Heap.SameBut.update ..))⟩))
 exact⟨_,Heap.get?_update_self _ b1 (Obj.isFreed_of_fields (Obj.data_mapFields b3 _)),(Obj.cls_mapFields ..).trans b2,by (rw [Obj.data_mapFields b3];simp [rawInt])⟩
theorem qQo (hh:A.handled=none) (hp:s.heap.IsTupleIter p t k) (ht:s.heap.IsTuple t its) (hy:its[k]?=none)
  (q:∀h1 e,Heap.ExtBut p s.heap h1->(∃o,h1.get? e=some o/\o.cls=.type "StopIteration")->E (.ref e) { s with heap:=h1 }):wpAny AT A (Builtin.SmallTypes.nextOf (.ref p)) Q E s:=by
 obtain⟨b,b1,b2,b3⟩:=id hp;obtain⟨c,c1,_,n1,c3⟩:=ht;unfold Builtin.SmallTypes.nextOf
 refine Qc (wpAny_callSpecial?_slot (name:=Qa "__next__") hp.typeIs F.slot_tuple_iterator_next (wpAny_call_entry F.slot_tuple_iterator_next hp.typeIs F.entry_tuple_iterator_next ?_ (F.args_tuple_iterator_next_1 _)))
 show wpAny _ _ (field (.ref p) 0 >>= _) _ _ s
 refine Qc (Qf b1 b3 (x:=.ref t) rfl ?_);show wpAny _ _ (if (Value.ref t == Value.none)=true then _ else _) _ _ s
 rw [Qm (show ¬((Value.ref t == Value.none)=true) from fA)];show wpAny _ _ (field (.ref p) 1 >>= _) _ _ s
 refine Qc (Qf b1 b3 (x:=.int k 0) rfl ?_);show wpAny _ _ (seqItems? (.ref t) >>= _) _ _ s
 refine Qc (wpAny_seqItems c1 c3 ?_);simp only [hy,kF]
 refine Qc (wpAny_rule (Qc (wpAny_setField b1 b3 C2 ?_)));show wpAny _ _ (newExc (.type "StopIteration") [] >>= _) _ _ _
 refine Qc ?_;simp only [newExc,newTuple];refine Qc (wpAny_newObj_type ?_ (by size_fits))
 refine Qc (m:=firstArgMember _ _) (wpAny_of_eq (a:=Value.none) (by first|rfl|(simp only [firstArgMember];rfl)) ?_);refine wpAny_newObj_type ?_ (by size_fits)
 simp only [raiseNew];refine Qc (wpAny_handled ?_);first|rw [show A.in1.handled=none from hh]|rw [hh]
 refine Qc (Qd (wpAny_throw ?_));exact q _ _ (((Heap.SameBut.update ..).extBut.push _).push _) ⟨_,Qh _ rfl,rfl⟩
theorem qOc (hp:s.heap.IsListIter p t k) (ht:s.heap.IsList t its) (hy:its[k]?=some y)
  (q:∀h1,h1.IsListIter p t (k+1)->Heap.SameBut p s.heap h1->Q y { s with heap:=h1 }):wpAny AT A (Builtin.SmallTypes.nextOf (.ref p)) Q E s:=by
 obtain⟨b,b1,b2,b3⟩:=id hp;obtain⟨c,c1,_,n1,c3⟩:=ht;unfold Builtin.SmallTypes.nextOf
 refine Qc (wpAny_callSpecial?_slot (name:=Qa "__next__") hp.typeIs n6 (wpAny_call_entry n6 hp.typeIs PySem.entry_listiter_next ?_ (PySem.args_listiter_next _)))
 show wpAny _ _ (field (.ref p) 0 >>= _) _ _ s
 refine Qc (Qf b1 b3 (x:=.ref t) rfl ?_);show wpAny _ _ (if (Value.ref t == Value.none)=true then _ else _) _ _ s
 rw [Qm (show ¬((Value.ref t == Value.none)=true) from fA)];show wpAny _ _ (field (.ref p) 1 >>= _) _ _ s
 refine Qc (Qf b1 b3 (x:=.int k 0) rfl ?_);show wpAny _ _ (seqItems? (.ref t) >>= _) _ _ s
 refine Qc (wpAny_seqItems c1 c3 ?_);simp only [hy,kF]
 refine Qc (wpAny_setField b1 b3 C2 (Qd ⟨y,rfl,Qd (q _ ?_ (Heap.SameBut.update ..))⟩))
 exact⟨_,Heap.get?_update_self _ b1 (Obj.isFreed_of_fields (Obj.data_mapFields b3 _)),(Obj.cls_mapFields ..).trans b2,by (rw [Obj.data_mapFields b3];simp [rawInt])⟩
theorem qQs (hh:A.handled=none) (hp:s.heap.IsListIter p t k) (ht:s.heap.IsList t its) (hy:its[k]?=none)
  (q:∀h1 e,Heap.ExtBut p s.heap h1->(∃o,h1.get? e=some o/\o.cls=.type "StopIteration")->E (.ref e) { s with heap:=h1 }):wpAny AT A (Builtin.SmallTypes.nextOf (.ref p)) Q E s:=by
 obtain⟨b,b1,b2,b3⟩:=id hp;obtain⟨c,c1,_,n1,c3⟩:=ht;unfold Builtin.SmallTypes.nextOf
 refine Qc (wpAny_callSpecial?_slot (name:=Qa "__next__") hp.typeIs n6 (wpAny_call_entry n6 hp.typeIs PySem.entry_listiter_next ?_ (PySem.args_listiter_next _)))
 show wpAny _ _ (field (.ref p) 0 >>= _) _ _ s
 refine Qc (Qf b1 b3 (x:=.ref t) rfl ?_);show wpAny _ _ (if (Value.ref t == Value.none)=true then _ else _) _ _ s
 rw [Qm (show ¬((Value.ref t == Value.none)=true) from fA)];show wpAny _ _ (field (.ref p) 1 >>= _) _ _ s
 refine Qc (Qf b1 b3 (x:=.int k 0) rfl ?_);show wpAny _ _ (seqItems? (.ref t) >>= _) _ _ s
 refine Qc (wpAny_seqItems c1 c3 ?_);simp only [hy,kF]
 refine Qc (wpAny_rule (Qc (wpAny_setField b1 b3 C2 ?_)));show wpAny _ _ (newExc (.type "StopIteration") [] >>= _) _ _ _
 refine Qc ?_;simp only [newExc,newTuple];refine Qc (wpAny_newObj_type ?_ (by size_fits))
 refine Qc (m:=firstArgMember _ _) (wpAny_of_eq (a:=Value.none) (by first|rfl|(simp only [firstArgMember];rfl)) ?_);refine wpAny_newObj_type ?_ (by size_fits)
 simp only [raiseNew];refine Qc (wpAny_handled ?_);first|rw [show A.in1.handled=none from hh]|rw [hh]
 refine Qc (Qd (wpAny_throw ?_));exact q _ _ (((Heap.SameBut.update ..).extBut.push _).push _) ⟨_,Qh _ rfl,rfl⟩
def SqH:Bool->Heap->Addr->Array Value->Prop
 | true,h,t,its=>h.IsList t its
 | false,h,t,its=>h.IsTuple t its
def SqI:Bool->Heap->Addr->Addr->Nat->Prop
 | true,h,p,t,k=>h.IsListIter p t k
 | false,h,p,t,k=>h.IsTupleIter p t k
theorem SqI.extBut (x:SqI kd h a t i) (hs:Heap.ExtBut b h h') (hab:a≠b):SqI kd h' a t i:=by
 cases kd with
 | true=>exact Heap.IsListIter.extBut x hs hab
 | false=>exact Heap.IsTupleIter.extBut x hs hab
theorem SqI.at (x:SqI kd h a t i) (e:∀o,h.get? a=some o->h'.get? a=some o):SqI kd h' a t i:=by
 cases kd with
 | true=>exact Heap.IsListIter.at x e
 | false=>exact Heap.IsTupleIter.at x e
theorem SqI.rec' (x:SqI kd h a t i):∃o,h.get? a=some o/\∀v,o.data≠.cell v:=by
 cases kd with
 | true=>obtain⟨o,e,c,d⟩:=x;exact⟨o,e,λv r=>by rw [d] at r;cases r⟩
 | false=>obtain⟨o,e,c,d⟩:=x;exact⟨o,e,λv r=>by rw [d] at r;cases r⟩
theorem SqH.but (ht:SqH kd h t its) (hs:Heap.SameBut p h h') (ne:t≠p):SqH kd h' t its:=by
 cases kd with
 | true=>exact Heap.IsList.extBut ht hs.extBut ne
 | false=>exact Heap.IsTuple.extBut ht hs.extBut ne
theorem qg (hp:SqI kd s.heap p t k) (ht:SqH kd s.heap t its) (hy:its[k]?=some y)
  (q:∀h1,SqI kd h1 p t (k+1)->Heap.SameBut p s.heap h1->Q y { s with heap:=h1 }):wpAny AT A (Builtin.SmallTypes.nextOf (.ref p)) Q E s:=by
 cases kd with
 | true=>exact qOc hp ht hy q
 | false=>exact qN9 hp ht hy q
theorem pS (hh:A.handled=none) (hp:SqI kd s.heap p t k) (ht:SqH kd s.heap t its) (hy:its[k]?=none)
  (q:∀h1 e,Heap.ExtBut p s.heap h1->(∃o,h1.get? e=some o/\o.cls=.type "StopIteration")->E (.ref e) { s with heap:=h1 }):wpAny AT A (Builtin.SmallTypes.nextOf (.ref p)) Q E s:=by
 cases kd with
 | true=>exact qQs hh hp ht hy q
 | false=>exact qQo hh hp ht hy q
structure Zp (z a b i j:Addr):Prop where
 az:a≠z
 bz:b≠z
 iz:i≠z
 jz:j≠z
 ab:a≠b
 ai:a≠i
 aj:a≠j
 bi:b≠i
 bj:b≠j
 ij:i≠j
structure Zs (kd ke:Bool) (h:Heap) (z a b i j t u:Addr) (k:Nat):Prop where
 hz:IsZip h z a b .none
 ha:IsPair h a (.ref i) (.ref j)
 hb:∃x y,IsPair h b x y
 hi:SqI kd h i t k
 hj:SqI ke h j u k
theorem qMH (D:Zp z a b i j) (S:Zs kd ke s.heap z a b i j t u k) (ht:SqH kd s.heap t xs) (hu:SqH ke s.heap u ys)
  (nt:t∉[z,a,b,i,j]) (nu:u∉[z,a,b,i,j]) (hx:xs[k]?=some x) (hy:ys[k]?=some y)
  (q:∀h',IsZip h' z a b (rawInt s.heap.objs.size)->(∃x y,IsPair h' b x y)->SqI kd h' i t (k+1)->SqI ke h' j u (k+1)->IsPair h' s.heap.objs.size x y->h'.objs.size=s.heap.objs.size+1 ->
   (∀c o,c∉[z,b,i,j]->s.heap.get? c=some o->h'.get? c=some o)->Q (some (.ref s.heap.objs.size)) { s with heap:=h' }):wpAny AT A (pyNext (.ref z)) Q E s:=by
 obtain⟨hz,ha,⟨x0,y0,hb⟩,hi,hj⟩:=S
 simp only [yag,eO,or_false,not_or] at nt nu
 obtain⟨tz,ta,tb,ti,tj⟩:=nt
 obtain⟨uz,ua,ub,ui,uj⟩:=nu
 have hT:s.TypeIs (.ref z) "zip":=⟨_,hz,rfl⟩
 unfold pyNext
 refine Qc (wpAny_attempt (wpAny_callSpecial?_slot (name:=Qa "__next__") hT F.slot_zip_next (wpAny_call_entry F.slot_zip_next hT F.entry_zip_next ?_ (F.args_zip_next_1 _))))
 show wpAny _ _ (field (.ref z) 2 >>= _) _ _ _
 refine Qc (Qf hz rfl (x:=.bool false) rfl ?_);show wpAny _ _ (field (.ref z) 3 >>= _) _ _ _
 refine Qc (Qf hz rfl (x:=.ref a) rfl ?_);refine Qc (wpAny_seqItems ha rfl ?_)
 show wpAny _ _ (Builtin.SmallTypes.ownedTupleIsFree (.ref z) >>= _) _ _ _
 refine Qc ?_;unfold Builtin.SmallTypes.ownedTupleIsFree
 refine Qc (Qf hz rfl (x:=.none) rfl (Qd ?_));simp only [if_true]
 refine Qc (wpAny_rule ?_);refine Qc (Qf hz rfl (x:=.ref b) rfl ?_)
 refine Qc (wpAny_setField_rec hz C2 λh1 z1 s1=>?_)
 replace z1:IsZip h1 z a b .ellipsis:=z1
 refine Qc ?_
 simp only [og,List.zipIdx_nil,List.forIn_nil,qY]
 refine Qc (Qc (wpAny_onRaise ?_));show wpAny _ _ (Builtin.SmallTypes.nextOf (.ref i) >>= _) _ _ _
 refine Qc (qg (hi.extBut s1.extBut D.iz) (ht.but s1 tz) hx λh2 i2 s2=>Qd ?_)
 have b2:IsPair h2 b x0 y0:=s2.extBut _ _ D.bi (s1.extBut _ _ D.bz hb)
 refine Qc (wpAny_seqItems b2 rfl ?_)
 refine Qc (wpAny_updateSeq_pair b2 λh3 b3 s3=>?_)
 replace b3:IsPair h3 b x y0:=b3
 refine Qc (wpAny_letGo (Qd ?_));refine Qc (Qc (wpAny_onRaise ?_))
 show wpAny _ _ (Builtin.SmallTypes.nextOf (.ref j) >>= _) _ _ _
 refine Qc (qg (((hj.extBut s1.extBut D.jz).extBut s2.extBut D.ij.symm).extBut s3.extBut D.bj.symm) (((hu.but s1 uz).but s2 ui).but s3 ub) hy λh4 j4 s4=>Qd ?_)
 have b4:IsPair h4 b x y0:=s4.extBut _ _ D.bj b3
 refine Qc (wpAny_seqItems b4 rfl ?_)
 refine Qc (wpAny_updateSeq_pair b4 λh5 b5 s5=>?_)
 replace b5:IsPair h5 b x y:=b5
 refine Qc (wpAny_letGo (Qd (Qd ?_)));refine Qc (wpAny_seqItems b5 rfl ?_)
 refine Qc (wpAny_newTuple ?_)
 have hsz:h5.objs.size=s.heap.objs.size:=by rw [s5.1,s4.1,s3.1,s2.1,s1.1]
 have z5:IsZip h5 z a b .ellipsis:=s5.extBut _ _ D.bz.symm (s4.extBut _ _ D.jz.symm (s3.extBut _ _ D.bz.symm (s2.extBut _ _ D.iz.symm z1)))
 have k5:∀c o,c∉[z,b,i,j]->s.heap.get? c=some o->h5.get? c=some o:=λc o hc e=>by
  simp only [yag,eO,or_false,not_or] at hc
  exact s5.extBut _ _ hc.2.1 (s4.extBut _ _ hc.2.2.2 (s3.extBut _ _ hc.2.1 (s2.extBut _ _ hc.2.2.1 (s1.extBut _ _ hc.1 e))))
 have i5:SqI kd h5 i t (k+1):=((i2.extBut s3.extBut D.bi.symm).extBut s4.extBut D.ij).extBut s5.extBut D.bi.symm
 have j5:SqI ke h5 j u (k+1):=j4.extBut s5.extBut D.bj.symm
 have lz:z<h5.objs.size:=Qi z5
 show wpAny _ _ (Builtin.SmallTypes.ownedTupleHandOut (.ref z) (.ref h5.objs.size) >>= _) _ _ _
 refine Qc ?_;unfold Builtin.SmallTypes.ownedTupleHandOut
 have z6:IsZip (h5.push { cls:=.type "tuple",data:=.seq #[x,y] }) z a b .ellipsis:=Qg _ z5
 refine Qc (wpAny_setField_rec z6 C2 λh7 z7 s7=>?_)
 replace z7:IsZip h7 z a b (rawInt h5.objs.size):=z7
 refine wpAny_setField_rec z7 C2 λh8 z8 s8=>?_
 replace z8:IsZip h8 z a b (rawInt h5.objs.size):=z8
 have up:∀c o,c≠z->h5.get? c=some o->h8.get? c=some o:=λc o c1 e=>s8.extBut _ _ c1 (s7.extBut _ _ c1 (Qg _ e))
 have t8:IsPair h8 h5.objs.size x y:=s8.extBut _ _ (iL lz) (s7.extBut _ _ (iL lz) (Qh _ rfl))
 have n8:h8.objs.size=h5.objs.size+1:=by rw [s8.1,s7.1,Heap.size_push]
 rw [hsz] at z8 t8 n8
 refine Qd ⟨_,rfl,Qd ?_⟩
 show Q (some (.ref h5.objs.size)) _
 rw [hsz]
 refine q h8 z8 ⟨_,_,up _ _ D.bz b5⟩ (i5.at λo e=>up _ o D.iz e) (j5.at λo e=>up _ o D.jz e) t8 n8 λc o hc e=>up c o (λr=>hc (by simp [r])) (k5 c o hc e)
theorem qMG (hh:A.handled=none) (D:Zp z a b i j) (S:Zs kd ke s.heap z a b i j t u k) (ht:SqH kd s.heap t xs) (hu:SqH ke s.heap u ys)
  (nt:t∉[z,a,b,i,j]) (nu:u∉[z,a,b,i,j]) (hend:xs[k]?=none∨ys[k]?=none)
  (q:∀h',(∀c o,c∉[z,b,i,j]->s.heap.get? c=some o->h'.get? c=some o)->Q none { s with heap:=h' }):wpAny AT A (pyNext (.ref z)) Q E s:=by
 obtain⟨hz,ha,⟨x0,y0,hb⟩,hi,hj⟩:=S
 simp only [yag,eO,or_false,not_or] at nt nu
 obtain⟨tz,ta,tb,ti,tj⟩:=nt
 obtain⟨uz,ua,ub,ui,uj⟩:=nu
 have hT:s.TypeIs (.ref z) "zip":=⟨_,hz,rfl⟩
 unfold pyNext
 refine Qc (wpAny_attempt (wpAny_callSpecial?_slot (name:=Qa "__next__") hT F.slot_zip_next (wpAny_call_entry F.slot_zip_next hT F.entry_zip_next ?_ (F.args_zip_next_1 _))))
 show wpAny _ _ (field (.ref z) 2 >>= _) _ _ _
 refine Qc (Qf hz rfl (x:=.bool false) rfl ?_);show wpAny _ _ (field (.ref z) 3 >>= _) _ _ _
 refine Qc (Qf hz rfl (x:=.ref a) rfl ?_);refine Qc (wpAny_seqItems ha rfl ?_)
 show wpAny _ _ (Builtin.SmallTypes.ownedTupleIsFree (.ref z) >>= _) _ _ _
 refine Qc ?_;unfold Builtin.SmallTypes.ownedTupleIsFree
 refine Qc (Qf hz rfl (x:=.none) rfl (Qd ?_));simp only [if_true]
 refine Qc (wpAny_rule ?_);refine Qc (Qf hz rfl (x:=.ref b) rfl ?_)
 refine Qc (wpAny_setField_rec hz C2 λh1 z1 s1=>?_)
 replace z1:IsZip h1 z a b .ellipsis:=z1
 refine Qc ?_
 simp only [og,List.zipIdx_nil,List.forIn_nil,qY]
 refine Qc (Qc (wpAny_onRaise ?_));show wpAny _ _ (Builtin.SmallTypes.nextOf (.ref i) >>= _) _ _ _
 cases hx:xs[k]? with
 | none =>
  refine Qc (pS hh (hi.extBut s1.extBut D.iz) (ht.but s1 tz) hx λh2 e s2 he=>?_)
  obtain⟨oe,hoe,hce⟩:=he
  have z2:IsZip h2 z a b .ellipsis:=s2 _ _ D.iz.symm z1
  have ez:e≠z:=λr=>by subst r;rw [z2] at hoe;cases hoe;simp at hce
  refine wpAny_setField_rec z2 C2 λh3 _ s3=>Qc (wpAny_isInstance (T:="StopIteration") (b:=true) ⟨oe,s3.extBut _ _ ez hoe,hce⟩ isSubtype_stop (Qd (q _ λc o hc r=>?_)))
  simp only [yag,eO,or_false,not_or] at hc
  exact s3.extBut _ _ hc.1 (s2 _ _ hc.2.2.1 (s1.extBut _ _ hc.1 r))
 | some x =>
  have hy:ys[k]?=none:=by rcases hend with r|r;rw [hx] at r;cases r;exact r
  refine Qc (qg (hi.extBut s1.extBut D.iz) (ht.but s1 tz) hx λh2 i2 s2=>Qd ?_)
  have b2:IsPair h2 b x0 y0:=s2.extBut _ _ D.bi (s1.extBut _ _ D.bz hb)
  refine Qc (wpAny_seqItems b2 rfl ?_)
  refine Qc (wpAny_updateSeq_pair b2 λh3 b3 s3=>?_)
  refine Qc (wpAny_letGo (Qd ?_));refine Qc (Qc (wpAny_onRaise ?_))
  show wpAny _ _ (Builtin.SmallTypes.nextOf (.ref j) >>= _) _ _ _
  refine Qc (pS hh (((hj.extBut s1.extBut D.jz).extBut s2.extBut D.ij.symm).extBut s3.extBut D.bj.symm) (((hu.but s1 uz).but s2 ui).but s3 ub) hy λh4 e s4 he=>?_)
  obtain⟨oe,hoe,hce⟩:=he
  have z4:IsZip h4 z a b .ellipsis:=s4 _ _ D.jz.symm (s3.extBut _ _ D.bz.symm (s2.extBut _ _ D.iz.symm z1))
  have ez:e≠z:=λr=>by subst r;rw [z4] at hoe;cases hoe;simp at hce
  refine wpAny_setField_rec z4 C2 λh5 _ s5=>Qc (wpAny_isInstance (T:="StopIteration") (b:=true) ⟨oe,s5.extBut _ _ ez hoe,hce⟩ isSubtype_stop (Qd (q _ λc o hc r=>?_)))
  simp only [yag,eO,or_false,not_or] at hc
  exact s5.extBut _ _ hc.1 (s4 _ _ hc.2.2.2 (s3.extBut _ _ hc.2.1 (s2.extBut _ _ hc.2.2.1 (s1.extBut _ _ hc.1 r))))
end
end Dw
namespace Dw
open PySem PySem.Spec PyProof.Rows L2
section
variable {X:Cx}{pins:List CA}{Z:L2.St}{H:Hp}{s:Shared}{h':Heap}{fp:List Addr}
theorem xi (I:Inv X pins Z H s) (hf:∀b∈fp,d6 X pins H b) (k:∀b o,b∉fp->s.heap.get? b=some o->h'.get? b=some o):Inv X pins Z H { s with heap:=h',toks:=t' }:=by
 have nit:∀b u,H b=some u->b∉fp:=λb u e z=>by have:=(hf b z).1;rw [this] at e;cases e
 refine I.step (g':=s.gens) (d':=s.drawn) (ch:=fp) (λb hb=>?_) (λb o _ _ hc e _=>k b o hc e) (λb o _ _ hc e _=>⟨o.slots,k b o hc e⟩) (λ_ _ _ _ n=>n) (λb o hc e=>⟨o,k b o hc e⟩) (λ_ _ e=>e) (λ_ _ _ e=>e) (λb ps e=>⟨#[],by rw [e];simp⟩) (λm hm=>?_) (λb u e=>?_) I.bare
 ·obtain⟨f0,f1,f2,f3,f4,f5⟩:=hf b hb
  exact⟨f3,f1,f4,f5⟩
 ·obtain⟨o,es,ep,ho,r⟩:=hm
  exact⟨o,es,ep,k _ o (λz=>(hf _ z).2.1 rfl) ho,r⟩
 ·refine (I.hok b u e).stay (λc v hc q=>k c v ?_ q) (λ_ q=>q) (λ_ _ q=>q) λ_ _ _ _ q _=>q
  rcases hc with z|z
  ·rw [z];exact nit b u e
  ·exact nit c _ z
theorem xh (I:Inv X pins Z H s) (hf:∀b∈fp,d6 X pins H b) (k:∀b o,b∉fp->s.heap.get? b=some o->h'.get? b=some o) (hT:s.heap.objs.size<=T) (new:ObjOk X.prog X.w (aB H T o) h' T o):Inv X pins Z (aB H T o) { s with heap:=h',toks:=t' }:=by
 have hn:H T=none:=I.hok.fresh hT
 have neT:∀b ob,s.heap.get? b=some ob->b≠T:=λb ob e=>bV (bO (Qi e) hT)
 have nit:∀b u,H b=some u->b∉fp:=λb u e z=>by have:=(hf b z).1;rw [this] at e;cases e
 refine I.step (g':=s.gens) (d':=s.drawn) (ch:=fp) (λb hb=>?_) (λb o _ _ hc e _=>k b o hc e) (λb o _ _ hc e _=>⟨o.slots,k b o hc e⟩) (λb ob _ e n=>by rw [aD (neT b ob e)];exact n) (λb o hc e=>⟨o,k b o hc e⟩)
  (λb xs e=>by rw [aD (cG e hn)];exact e) (λb ob u e=>by rw [aD (cG e hn)];exact e) (λb ps e=>⟨#[],by rw [aD (cG e hn),e];simp⟩) (λm hm=>?_) (λb u e=>?_) I.bare
 ·obtain⟨f0,f1,f2,f3,f4,f5⟩:=hf b hb
  exact⟨f3,f1,f4,f5⟩
 ·obtain⟨o,es,ep,ho,r⟩:=hm
  exact⟨o,es,ep,k _ o (λz=>(hf _ z).2.1 rfl) ho,r⟩
 ·by_cases hb:b=T
  ·subst hb;rw [dX] at e;cases e;exact new
  ·rw [aD hb] at e
   refine (I.hok b u e).stay (λc v hc q=>k c v ?_ q) (λc q=>by rw [aD (cG q hn)];exact q) (λc xs q=>by rw [aD (cG q hn)];exact q) λc ob u _ q _=>by rw [aD (cG q hn)];exact q
   rcases hc with z|z
   ·rw [z];exact nit b u e
   ·exact nit c _ z
theorem qQp (I:Inv X pins Z H s) (hf:∀b∈fp,d6 X pins H b) (h:SqT X.K H a xs):a∉fp:=λz=>by
 obtain⟨f0,f1,f2,f3,f4,f5⟩:=hf a z
 rcases h with (h|⟨o,h⟩)|⟨o,its,n,hk,_⟩
 ·rw [f0] at h;cases h
 ·rw [f0] at h;cases h
 ·have hb:=I.ok.mod.kin a o hk
  rcases f3 with q|q
  ·exact I.ok.noex a o hb q
  ·exact Qn (bO (Qi (I.ok.bs a o hb).1) q) (fR _)
end
theorem qOa {s:Shared}{fp:List Addr}(I:Inv X pins Z H s) (hf:∀b∈fp,d6 X pins H b) {a:Addr}{xs:List V}(h:SqL X.K H a xs):a∉fp:=λz=>by
 obtain⟨f0,f1,f2,f3,f4,f5⟩:=hf a z
 rcases h with (h|⟨o,h⟩)|⟨o,its,n,hk,_⟩
 ·rw [f0] at h;cases h
 ·rw [f0] at h;cases h
 ·have hb:=I.ok.mod.kin a o hk
  rcases f3 with q|q
  ·exact I.ok.noex a o hb q
  ·exact Qn (bO (Qi (I.ok.bs a o hb).1) q) (fR _)
def SqK:Bool->Qb->Hp->Addr->List V->Prop
 | true,K,H,a,xs=>SqL K H a xs
 | false,K,H,a,xs=>SqT K H a xs
section
variable {X:Cx}{pins:List CA}{Z:L2.St}{H:Hp}{s:Shared}{fp:List Addr}{a:Addr}{xs ys:List V}{kd:Bool}
theorem SqK.its (I:Inv X pins Z H s) (h:SqK kd X.K H a xs):∃its,Vals xs its/\SqH kd s.heap a its.toArray/\xs.length<=sizeLine:=by
 cases kd with
 | true=>obtain⟨its,r,p,z⟩:=I.list h;exact⟨its,r,p.isList,z⟩
 | false=>obtain⟨its,r,p,z⟩:=I.tuple h;exact⟨its,r,p,z⟩
theorem SqK.nfp (I:Inv X pins Z H s) (hf:∀b∈fp,d6 X pins H b) (h:SqK kd X.K H a xs):a∉fp:=by
 cases kd with
 | true=>exact qOa I hf h
 | false=>exact qQp I hf h
theorem SqK.inj (I:Inv X pins Z H s) (h:SqK kd X.K H a xs) (h':SqK kd X.K H a ys):xs=ys:=by
 cases kd with
 | true=>exact I.list_inj h h'
 | false=>exact I.tuple_inj h h'
end
def vm (kd ke:Bool) (K:Qb) (a b:Addr):It:=
 ⟨λi H=>∃xs ys x y,SqK kd K H a xs/\SqK ke K H b ys/\xs[i]?=some x/\ys[i]?=some y,
  λi H v H'=>∃T x y,H T=none/\v=.ref T/\(∀xs,SqK kd K H a xs->xs[i]?=some x)/\(∀ys,SqK ke K H b ys->ys[i]?=some y)/\H'=aB H T (.tup [x,y]),
  λi H=>∃xs ys,SqK kd K H a xs/\SqK ke K H b ys/\(xs.length<=i∨ys.length<=i)⟩
theorem qJV {w:World}{K:Qb}{es:List Expr}{kk:Nat}{pos:Pos}{z p q i j:Addr}(a b:Addr) (D:Zp z p q i j):Turn P w K (.Tuple es kk pos) (vm kd ke K a b) [z,p,q,i,j] z (λk h=>Zs kd ke h z p q i j a b k) where
 mem:=by simp
 obj:=λk h S c hc=>by
  obtain⟨hz,hp,⟨x,y,hq⟩,hi,hj⟩:=S
  simp only [yag,eO,or_false] at hc
  rcases hc with rfl|rfl|rfl|rfl|rfl
  ·exact⟨_,hz,λv r=>by have r':Data.fields _=Data.cell v:=r;cases r'⟩
  ·exact⟨_,hp,λv r=>by have r':Data.seq _ _=Data.cell v:=r;cases r'⟩
  ·exact⟨_,hq,λv r=>by have r':Data.seq _ _=Data.cell v:=r;cases r'⟩
  ·exact hi.rec'
  ·exact hj.rec'
 keep:=λk h h' S kp=>by
  obtain⟨hz,hp,⟨x,y,hq⟩,hi,hj⟩:=S
  exact⟨kp z C2 _ hz,kp p C2 _ hp,⟨x,y,kp q C2 _ hq⟩,hi.at λo e=>kp i C2 o e,hj.at λo e=>kp j C2 o e⟩
 item:=by
  intro X hP hw hK hc k pins s Z H E I hf S hg
  subst hP hw hK
  obtain⟨xs,ys,x,y,ha,hb,hx,hy⟩:=hg
  obtain⟨i1,r1,p1,z1⟩:=ha.its I
  obtain⟨i2,r2,p2,z2⟩:=hb.its I
  obtain⟨u,hu,ru⟩:=r1.get hx
  obtain⟨v,hv,rv⟩:=r2.get hy
  have na:=ha.nfp I hf
  have nb:=hb.nfp I hf
  refine qMH D S p1 p2 na nb (x:=u) (y:=v) (by simpa using hu) (by simpa using hv) λh' e1 e2 e3 e4 e5 e6 kp=>?_
  refine⟨_,rfl,wpAny_letOwnedTupleGo_zip e1 λh2 f1 f2=>?_⟩
  have ltz:z<s.heap.objs.size:=Qi S.hz
  have nT:s.heap.objs.size≠z:=iL ltz
  have kp2:∀c o,c∉[z,p,q,i,j]->s.heap.get? c=some o->h2.get? c=some o:=λc o hc e=>by
   simp only [yag,eO,or_false,not_or] at hc
   exact f2.extBut _ _ hc.1 (kp c o (by simp [hc]) e)
  have hpp:s.heap.get? p=some _:=S.ha
  have I2:=xh (t':=s.toks) (T:=s.heap.objs.size) (o:=.tup [x,y]) I hf kp2 (au _) ⟨by show 2<=sizeLine;decide,[u,v],.cons ru (.cons rv .nil),⟨_,f2.extBut _ _ nT e5,rfl,_,rfl⟩⟩
  have hn:H s.heap.objs.size=none:=I.hok.fresh (au _)
  obtain⟨x1,y1,e2⟩:=e2
  refine⟨.ref s.heap.objs.size,aB H s.heap.objs.size (.tup [x,y]),I2,rfl,⟨_,x,y,hn,rfl,λzs hz=>by rw [SqK.inj I hz ha];exact hx,λzs hz=>by rw [SqK.inj I hz hb];exact hy,rfl⟩,
   ⟨f1,f2.extBut _ _ D.az (kp _ _ (by simp [D.az,D.ab,D.ai,D.aj]) S.ha),⟨x1,y1,f2.extBut _ _ D.bz e2⟩,e3.extBut f2.extBut D.iz,e4.extBut f2.extBut D.jz⟩,λc hc=>?_⟩
  have hlt:c<s.heap.objs.size:=by
   obtain⟨hz,hp,⟨x,y,hq⟩,hi,hj⟩:=S
   simp only [yag,eO,or_false] at hc
   rcases hc with rfl|rfl|rfl|rfl|rfl
   ·exact Qi hz
   ·exact Qi hp
   ·exact Qi hq
   ·obtain⟨o,e,_⟩:=hi.rec';exact Qi e
   ·obtain⟨o,e,_⟩:=hj.rec';exact Qi e
  rw [aD (bV hlt)]
  exact (hf c hc).1
 done:=by
  intro X hP hw hK hc k pins s Z H E I hf S hg
  subst hP hw hK
  obtain⟨xs,ys,ha,hb,he⟩:=hg
  obtain⟨i1,r1,p1,z1⟩:=ha.its I
  obtain⟨i2,r2,p2,z2⟩:=hb.its I
  have l1:=r1.length
  have l2:=r2.length
  refine qMG (I.ok.hd hc) D S p1 p2 (ha.nfp I hf) (hb.nfp I hf) (by
   rcases he with r|r
   ·exact .inl (by simp;omega)
   ·exact .inr (by simp;omega)) λh' kp=>⟨rfl,xi (t':=s.toks) I hf λc o hc e=>kp c o (by simp at hc ⊢;simp [hc]) e⟩
 self:=λ_ _ _ _ _ S h=>wpAny_pyIter_zip S.hz h
def SqF:Bool->Qb->Hp->Fz->Addr->List V->Prop
 | true,K,H,F,a,xs=>LsR K H F a xs
 | false,K,H,_,a,xs=>SqT K H a xs
theorem SqF.keep {K:Qb}{H H':Hp}{F F':Fz}{a:Addr}{xs:List V}(h:SqF kd K H F a xs) (k:Keep H F H' F'):SqK kd K H' a xs:=by
 cases kd with
 | true=>exact LsR.sq (h.elim (λz=>.inl (k.lsts _ _ z.1 z.2)) .inr)
 | false=>exact h.elim (λz=>.inl (k.tups _ _ z)) .inr
theorem pO {K:Qb}{H:Hp}{F:Fz}{a b:Addr}{ds es:List D}{vs ws:List V}(ha:SqF kd K H F a vs) (hb:SqF ke K H F b ws) (ra:RDs K H F ds vs) (rb:RDs K H F es ws):ItOk K (vm kd ke K a b) H F (bY ds es):=by
 intro H' F' k dom
 have ha':SqK kd K H' a vs:=ha.keep k
 have hb':SqK ke K H' b ws:=hb.keep k
 have ra':=RDs.mono k ra
 have rb':=RDs.mono k rb
 have la:=RDs.length ra'
 have lb:=RDs.length rb'
 refine⟨λi d hd=>?_,⟨vs,ws,ha',hb',?_⟩⟩
 ·unfold bY at hd
  rw [List.getElem?_zipWith] at hd
  cases h1:ds[i]? with
  | none=>simp [h1] at hd
  | some d1 =>
   cases h2:es[i]? with
   | none=>simp [h1,h2] at hd
   | some d2 =>
    simp [h1,h2] at hd
    subst hd
    obtain⟨v,e1,e2⟩:=RDs.get ra' h1
    obtain⟨w,e3,e4⟩:=RDs.get rb' h2
    refine⟨⟨vs,ws,v,w,ha',hb',e1,e3⟩,λx H3 y=>?_⟩
    obtain⟨T,x1,y1,hT,rfl,q1,q2,rfl⟩:=y
    have:=q1 vs ha'
    rw [e1] at this
    cases this
    have:=q2 ws hb'
    rw [e3] at this
    cases this
    obtain⟨g,rr⟩:=lS (ds:=[d1,d2]) dom hT ⟨v,[w],rfl,e2,w,[],rfl,e4,rfl⟩
    exact⟨F',g,rr⟩
 ·unfold bY
  rw [mx]
  omega
section
variable {prog:Program}{w:World}{A:Around}{E:Value->Shared->Prop}{s:Shared}
noncomputable def Bp:Bool->String
 | true=>"list_iterator"
 | false=>"tuple_iterator"
abbrev nV (kd:Bool) (h:Heap) (a:Addr):Heap:=h.push { cls:=.type (Bp kd),data:=.fields #[.ref a,.int 0 0] }
abbrev nU (kd ke:Bool) (h:Heap) (a b:Addr):Heap:=(nV kd h a).push { cls:=.type (Bp ke),data:=.fields #[.ref b,.int 0 0] }
abbrev nS (kd ke:Bool) (h:Heap) (a b:Addr):Heap:=(nU kd ke h a b).push { cls:=.type "tuple",data:=.seq #[.ref h.objs.size,.ref (nV kd h a).objs.size] }
abbrev nR (kd ke:Bool) (h:Heap) (a b:Addr):Heap:=(nS kd ke h a b).push { cls:=.type "tuple",data:=.seq #[.none,.none] }
abbrev kD (kd ke:Bool) (h:Heap) (a b:Addr):Heap:=(nR kd ke h a b).push { cls:=.type "zip",data:=.fields #[.none,.bool false,.bool false,.ref (nU kd ke h a b).objs.size,.ref (nS kd ke h a b).objs.size] }
theorem qJN (kd ke:Bool) (a b:Addr) (xs ys:Array Value):Meets (Builtin.«zip.__new__» ⟨[.type "zip",.ref a,.ref b],[]⟩) (λ_ R s=>SqH kd s.heap a xs/\SqH ke s.heap b ys/\R (.ok (.ret (.ref (nR kd ke s.heap a b).objs.size))) { s with heap:=kD kd ke s.heap a b }):=
 .of_wp λprog w A R s h=>by
  obtain⟨hp,g,d,tk,os⟩:=s;obtain⟨h1,h2,h⟩:=h;have hsub:=sub_zip
  cases kd with
  | false =>
   cases ke with
   | false =>
    have H1:Heap.IsTuple (Shared.heap ⟨hp,g,d,tk,os⟩) a xs:=h1
    have H2:Heap.IsTuple (Shared.heap ⟨hp.push { cls:=.type "tuple_iterator",data:=.fields #[.ref a,.int 0 0] },g,d,tk,os⟩) b ys:=Heap.IsTuple.push h2 _
    wp_walk using wpAny_pyIter_tuple H1,wpAny_pyIter_tuple H2
    exact⟨_,rfl,h⟩
   | true =>
    have H1:Heap.IsTuple (Shared.heap ⟨hp,g,d,tk,os⟩) a xs:=h1
    have H2:Heap.IsList (Shared.heap ⟨hp.push { cls:=.type "tuple_iterator",data:=.fields #[.ref a,.int 0 0] },g,d,tk,os⟩) b ys:=Heap.IsList.push h2 _
    wp_walk using wpAny_pyIter_tuple H1,wpAny_pyIter_list H2
    exact⟨_,rfl,h⟩
  | true =>
   cases ke with
   | false =>
    have H1:Heap.IsList (Shared.heap ⟨hp,g,d,tk,os⟩) a xs:=h1
    have H2:Heap.IsTuple (Shared.heap ⟨hp.push { cls:=.type "list_iterator",data:=.fields #[.ref a,.int 0 0] },g,d,tk,os⟩) b ys:=Heap.IsTuple.push h2 _
    wp_walk using wpAny_pyIter_list H1,wpAny_pyIter_tuple H2
    exact⟨_,rfl,h⟩
   | true =>
    have H1:Heap.IsList (Shared.heap ⟨hp,g,d,tk,os⟩) a xs:=h1
    have H2:Heap.IsList (Shared.heap ⟨hp.push { cls:=.type "list_iterator",data:=.fields #[.ref a,.int 0 0] },g,d,tk,os⟩) b ys:=Heap.IsList.push h2 _
    wp_walk using wpAny_pyIter_list H1,wpAny_pyIter_list H2
    exact⟨_,rfl,h⟩
theorem qJP (ha:SqH kd s.heap a xs) (hb:SqH ke s.heap b ys)
  (h:∀h',Zs kd ke h' (s.heap.objs.size+4) (s.heap.objs.size+2) (s.heap.objs.size+3) s.heap.objs.size (s.heap.objs.size+1) a b 0->(∀c o,s.heap.get? c=some o->h'.get? c=some o)->Q (.ref (s.heap.objs.size+4)) { s with heap:=h' }):wpAny AT A (call (.type "zip") [.ref a,.ref b]) Q E s:=by
 refine callType_new F.called_zip At (F.typeCall_zip_2 _ _) (F.newCall_zip_2 _ _) (λobj=>F.args_object_init_3 obj _ _) F.entry_zip_new (qJN kd ke a b xs ys) ⟨ha,hb,?_⟩
 have z1:(nV kd s.heap a).objs.size=s.heap.objs.size+1:=Heap.size_push ..
 have z2:(nU kd ke s.heap a b).objs.size=s.heap.objs.size+2:=by rw [Heap.size_push,z1]
 have z3:(nS kd ke s.heap a b).objs.size=s.heap.objs.size+3:=by rw [Heap.size_push,z2]
 have z4:(nR kd ke s.heap a b).objs.size=s.heap.objs.size+4:=by rw [Heap.size_push,z3]
 have g5:(kD kd ke s.heap a b).get? (nR kd ke s.heap a b).objs.size=some _:=Qh _ rfl
 have g4:(kD kd ke s.heap a b).get? (nS kd ke s.heap a b).objs.size=some _:=Qg _ (Qh _ rfl)
 have g3:(kD kd ke s.heap a b).get? (nU kd ke s.heap a b).objs.size=some _:=Qg _ (Qg _ (Qh _ rfl))
 have g2:(kD kd ke s.heap a b).get? (nV kd s.heap a).objs.size=some _:=Qg _ (Qg _ (Qg _ (Qh _ rfl)))
 have g1:(kD kd ke s.heap a b).get? s.heap.objs.size=some _:=Qg _ (Qg _ (Qg _ (Qg _ (Qh _ rfl))))
 show _/\_
 rw [z2,z3,z4] at g5;rw [z1,z2] at g3;rw [z3] at g4;rw [z1] at g2;rw [z4]
 exact⟨⟨_,g5,rfl⟩,h _ ⟨g5,g3,⟨_,_,g4⟩,(by cases kd with|true=>exact⟨_,g1,rfl,rfl⟩|false=>exact⟨_,g1,rfl,rfl⟩),(by cases ke with|true=>exact⟨_,g2,rfl,rfl⟩|false=>exact⟨_,g2,rfl,rfl⟩)⟩ λc o x=>Qg _ (Qg _ (Qg _ (Qg _ (Qg _ x))))⟩
end
theorem qJM (n:Nat):Zp (n+4) (n+2) (n+3) n (n+1):=by
 constructor<;>(intro h;have h':(_:Nat)=_:=h;omega)
section
variable {X:Cx}
theorem qLu:Qo (Qa "zip")=some (.type "zip"):=by decide +kernel
def qT2 (K:Qb) (ta:TA):TI:=fun Z H R=>ta Z H λvs H1=>∃(kd ke:Bool) (a b:Addr) (xs ys:List V),vs=[.ref a,.ref b]/\SqK kd K H1 a xs/\SqK ke K H1 b ys/\(xs.length<=sizeLine->R (vm kd ke K a b) H1)
theorem qP1 {kk:Nat}{tp:Pos}{x:Str}{a b:Expr}{ta:TA}{p pos:Pos}(hx:x=Qa "zip") (hg:Gl X x) (hm:X.mg x=none) (ha:PA X [a,b] ta) (hs:starEach [a,b] X.env=[(false,eval a X.env),(false,eval b X.env)]) (hs2:starEach [b] X.env=[(false,eval b X.env)]) :
  PI X (.Tuple es kk tp) (.Call (.Name x p) [a,b] [] pos) (qT2 X.K ta):=by
 subst hx
 intro pins s Z H R I h
 refine Call_ (iA I hg hm qLu (jb (aC (ha pos pins s Z H _ I h) λus s1 ⟨vs,H1,I1,r1,q1⟩=>?_) (by rw [hs,hs2]) (by rw [hs2];rfl)))
 obtain⟨kd,ke,a1,b1,xs,ys,rfl,hx,hy,q⟩:=q1
 cases r1 with
 | cons ra rr =>
  cases rr with
  | cons rb rr =>
   cases rr
   cases ra
   cases rb
   obtain⟨t1,v1,p1,zl⟩:=hx.its I1
   obtain⟨t2,v2,p2,_⟩:=hy.its I1
   refine qJP p1 p2 λh' S kp=>wpAny_pyIter_zip S.hz ?_
   have I2:Inv X pins Z H1 { s1 with heap:=h' }:=I1.kept (t':=s1.toks) kp
   refine⟨_,[s1.heap.objs.size+4,s1.heap.objs.size+2,s1.heap.objs.size+3,s1.heap.objs.size,s1.heap.objs.size+1],_,_,H1,rfl,I2,qJV a1 b1 (qJM _),S,λc hc=>?_,q zl⟩
   have hge:s1.heap.objs.size<=c:=by
    simp only [yag,eO,or_false] at hc
    rcases hc with rfl|rfl|rfl|rfl|rfl<;>omega
   exact I1.fpOk hge (I1.hok.fresh hge)
end
end Dw
namespace Dw
open PySem PySem.Spec PyProof.Rows L2
section
open AutoSeq1 (wpAny_loadPart')
theorem qHc (l:Addr) (items:Array Value) (n:Nat) (dct:Option Addr) (sl:Array (Option Value)) :
  Meets (Builtin.«enumerate.__new__» ⟨[.type "enumerate",.ref l],[]⟩) (λ_ R s=>s.heap.get? l=some { cls:=.type "tuple",dict:=dct,data:=.seq items n,slots:=sl } /\
   R (.ok (.ret (.ref (s.heap.push { cls:=.type "tuple_iterator",data:=.fields #[.ref l,.int 0 0] }).objs.size)))
    { s with heap:=(s.heap.push { cls:=.type "tuple_iterator",data:=.fields #[.ref l,.int 0 0] }).push { cls:=.type "enumerate",data:=.fields #[.none,.bool false,.ref s.heap.objs.size,rawInt 0,.none,.none] } }):=
 .of_wp λprog w A R s h=>by
  obtain⟨hp,g,d,tk,os⟩:=s;obtain⟨hl,h⟩:=h
  have hsub:=sub_enumerate
  have hL:Heap.IsTuple (Shared.heap ⟨hp,g,d,tk,os⟩) l items:=⟨_,hl,rfl,n,rfl⟩
  wp_walk using wpAny_loadPart' hl
  refine wpAny_stack_any λst=>Qd ?_
  split
  ·rename_i c _ _ _ _ _
   cases (c == Value.type "enumerate")
   ·wp_walk using wpAny_loadPart' hl,wpAny_pyIter_tuple hL
    exact⟨_,rfl,h⟩
   ·wp_walk using wpAny_loadPart' hl,wpAny_pyIter_tuple hL
    exact⟨_,rfl,h⟩
  ·wp_walk using wpAny_loadPart' hl,wpAny_pyIter_tuple hL
   exact⟨_,rfl,h⟩
end
structure Es (kd:Bool) (h:Heap) (e i t:Addr) (k:Nat):Prop where
 he:∃old,IsEnum h e i ((k:Nat):Int) old
 hi:SqI kd h i t k
section
variable {prog:Program}{w:World}{A:Around}{E:Value->Shared->Prop}{s:Shared}
theorem SqH.at (x:SqH kd h t its) (e:∀o,h.get? t=some o->h'.get? t=some o):SqH kd h' t its:=by
 cases kd with
 | true=>obtain⟨o,a,b⟩:=x;exact⟨o,e _ a,b⟩
 | false=>obtain⟨o,a,b⟩:=x;exact⟨o,e _ a,b⟩
theorem qLe (hh:A.handled=none) (i t:Addr) (ne:t≠i) (its:Array Value):Draws prog w A i [i,t] its.size (λk x=>its[k]?=some x) (λk h=>SqI kd h i t k/\SqH kd h t its) where
 live:=λk h st=>by obtain⟨o,e,_⟩:=st.1.rec';exact⟨o,e⟩
 frame:=λk h h' st hk=>⟨st.1.at λo e=>hk i C2 o e,st.2.at λo e=>hk t C2 o e⟩
 item:=λk s Q E hk st q=>qg st.1 st.2 (y:=its[k]) (by simp [hk]) λh1 i1 s1=>q its[k] h1 s.toks (by simp [hk]) ⟨i1,st.2.but s1 ne⟩ s1
 done:=λs Q E st q=>pS hh st.1 st.2 C2 q
theorem qI8 (ha:SqH kd s.heap a xs)
  (h:∀h',Es kd h' (s.heap.objs.size+1) s.heap.objs.size a 0->(∀c o,s.heap.get? c=some o->h'.get? c=some o)->Q (.ref (s.heap.objs.size+1)) { s with heap:=h' }):wpAny AT A (call (.type "enumerate") [.ref a]) Q E s:=by
 cases kd with
 | true=>exact call_enumerate_list ha λh' e1 e2 _ k=>h h' ⟨⟨_,e1⟩,e2⟩ k
 | false =>
  obtain⟨⟨c,dct,dt,sl⟩,hl,hc,n,hd⟩:=ha
  replace hc:c=.type "tuple":=hc
  replace hd:dt=.seq xs n:=hd
  subst hc hd
  refine callType_new F.called_enumerate At (F.typeCall_enumerate_1 _) (F.newCall_enumerate_1 _) (λobj=>F.args_object_init_2 obj _) F.entry_enumerate_new (qHc a xs n dct sl) ⟨hl,?_⟩
  have hz:(s.heap.push { cls:=.type "tuple_iterator",data:=.fields #[.ref a,.int 0 0] }).objs.size=s.heap.objs.size+1:=Heap.size_push ..
  show _/\_
  rw [hz]
  have he:IsEnum ((s.heap.push { cls:=.type "tuple_iterator",data:=.fields #[.ref a,.int 0 0] }).push
    { cls:=.type "enumerate",data:=.fields #[.none,.bool false,.ref s.heap.objs.size,rawInt 0,.none,.none] }) (s.heap.objs.size+1) s.heap.objs.size 0 .none:=by
   have:=Qh (s.heap.push { cls:=.type "tuple_iterator",data:=.fields #[.ref a,.int 0 0] })
    (o:={ cls:=.type "enumerate",data:=.fields #[.none,.bool false,.ref s.heap.objs.size,rawInt 0,.none,.none] }) rfl
   rw [hz] at this;exact this
  exact⟨⟨_,he,rfl⟩,h _ ⟨⟨_,he⟩,⟨_,Qg _ (Qh _ rfl),rfl,rfl⟩⟩ λb o x=>Qg _ (Qg _ x)⟩
end
def vo (kd:Bool) (K:Qb) (a:Addr):It:=
 ⟨λi H=>∃xs x,SqK kd K H a xs/\xs[i]?=some x,
  λi H v H'=>∃T x,H T=none/\v=.ref T/\(∀xs,SqK kd K H a xs->xs[i]?=some x)/\H'=aB H T (.tup [.int ((i:Nat):Int),x]),
  λi H=>∃xs,SqK kd K H a xs/\xs.length<=i⟩
theorem qJW {w:World}{K:Qb}{es:List Expr}{kk:Nat}{pos:Pos}{e i:Addr}(a:Addr) (ne:e≠i):Turn P w K (.Tuple es kk pos) (vo kd K a) [e,i] e (λk h=>Es kd h e i a k) where
 mem:=by simp
 obj:=λk h S c hc=>by
  obtain⟨⟨old,he⟩,hi⟩:=S
  simp only [yag,eO,or_false] at hc
  rcases hc with rfl|rfl
  ·exact⟨_,he,λv r=>by have r':Data.fields _=Data.cell v:=r;cases r'⟩
  ·exact hi.rec'
 keep:=λk h h' S kp=>by
  obtain⟨⟨old,he⟩,hi⟩:=S
  exact⟨⟨old,kp e C2 _ he⟩,hi.at λo e=>kp i C2 o e⟩
 item:=by
  intro X hP hw hK hc k pins s Z H E I hf S hg
  subst hP hw hK
  obtain⟨xs,x,ha,hx⟩:=hg
  obtain⟨i1,r1,p1,z1⟩:=ha.its I
  obtain⟨u,hu,ru⟩:=r1.get hx
  have na:=ha.nfp I hf
  simp only [yag,eO,or_false,not_or] at na
  obtain⟨⟨old,he⟩,hi⟩:=S
  have hlt:k<i1.toArray.size:=by
   have:=(yal.mp hu).1
   simpa using this
  refine wpAny_pyNext_enum_itemD (qLe (A:=X.A.in1) (I.ok.hd hc) i a na.2 i1.toArray) he ⟨hi,p1⟩ hlt ne (by simp only [yag,eO,or_false,not_or];exact⟨ne,Ne.symm na.1⟩) λx1 h' tk hPx ho hs' hT hsz kp=>?_
  have ex:x1=u:=by
   have h2:i1[k]?=some x1:=by simpa using hPx
   rw [hu] at h2;exact (gw h2).symm
  subst ex
  refine⟨_,rfl,wpAny_letOwnedTupleGo_enum ho λh2 f1 f2=>?_⟩
  have lte:e<s.heap.objs.size:=Qi he
  have nT:s.heap.objs.size≠e:=iL lte
  have kp2:∀c o,c∉[e,i]->s.heap.get? c=some o->h2.get? c=some o:=λc o hc q=>by
   simp only [yag,eO,or_false,not_or] at hc
   exact f2.extBut _ _ hc.1 (kp c o hc.1 hc.2 q)
  have I2:=xh (t':=tk+1) (T:=s.heap.objs.size) (o:=.tup [.int ((k:Nat):Int),x]) I hf kp2 (au _) ⟨by show 2<=sizeLine;decide,[.int k tk,x1],.cons ⟨tk,rfl⟩ (.cons ru .nil),⟨_,f2.extBut _ _ nT hT,rfl,_,rfl⟩⟩
  have hn:H s.heap.objs.size=none:=I.hok.fresh (au _)
  refine⟨.ref s.heap.objs.size,aB H s.heap.objs.size (.tup [.int ((k:Nat):Int),x]),I2,rfl,⟨_,x,hn,rfl,λzs hz=>by rw [SqK.inj I hz ha];exact hx,rfl⟩,⟨⟨x1,by simpa using f1⟩,hs'.1.extBut f2.extBut (Ne.symm ne)⟩,λc hc=>?_⟩
  have hlt:c<s.heap.objs.size:=by
   simp only [yag,eO,or_false] at hc
   rcases hc with rfl|rfl
   ·exact lte
   ·obtain⟨o,q,_⟩:=hi.rec';exact Qi q
  rw [aD (bV hlt)]
  exact (hf c hc).1
 done:=by
  intro X hP hw hK hc k pins s Z H E I hf S hg
  subst hP hw hK
  obtain⟨xs,ha,hl⟩:=hg
  obtain⟨i1,r1,p1,z1⟩:=ha.its I
  have l1:=r1.length
  have na:=ha.nfp I hf
  simp only [yag,eO,or_false,not_or] at na
  obtain⟨⟨old,he⟩,hi⟩:=S
  have hT:s.TypeIs (.ref e) "enumerate":=⟨_,he,rfl⟩
  unfold pyNext
  refine Qc (wpAny_attempt (wpAny_callSpecial?_slot (name:=Qa "__next__") hT F.slot_enumerate_next
   (wpAny_call_entry F.slot_enumerate_next hT F.entry_enumerate_next ?_ (F.args_enumerate_next_1 _))))
  show wpAny _ _ (field (.ref e) 2 >>= _) _ _ _
  refine Qc (Qf he rfl (x:=.ref i) rfl ?_)
  refine Qc (pS (I.ok.hd hc) hi p1 (by simp;omega) λh' x he' hx'=>?_)
  obtain⟨o,ho,hcc⟩:=hx'
  refine Qc (wpAny_isInstance (T:="StopIteration") (b:=true) ⟨o,ho,hcc⟩ isSubtype_stop ?_)
  exact Qd ⟨rfl,xi (t':=s.toks) I hf λc o hc q=>he' c o (λr=>hc (by simp [r])) q⟩
 self:=λ_ _ _ _ _ S h=>by obtain⟨⟨old,he⟩,_⟩:=S;exact wpAny_pyIter_enum he h
theorem xD {K:Qb}{H:Hp}{F:Fz}{a:Addr}{ds:List D}{vs:List V}(ha:SqF kd K H F a vs) (ra:RDs K H F ds vs):ItOk K (vo kd K a) H F (fI 0 ds):=by
 intro H' F' k dom
 have ha':SqK kd K H' a vs:=ha.keep k
 have ra':=RDs.mono k ra
 have la:=RDs.length ra'
 refine⟨λi d hd=>?_,⟨vs,ha',?_⟩⟩
 ·rw [qI9] at hd
  cases h1:ds[i]? with
  | none=>simp [h1] at hd
  | some d1 =>
   simp only [h1,kO,rf,bI] at hd
   subst hd
   obtain⟨v,e1,e2⟩:=RDs.get ra' h1
   refine⟨⟨vs,v,ha',e1⟩,λx H3 y=>?_⟩
   obtain⟨T,x1,hT,rfl,q1,rfl⟩:=y
   have:=q1 vs ha'
   rw [e1] at this
   cases this
   obtain⟨g,rr⟩:=lS (ds:=[.int ((i:Nat):Int),d1]) dom hT ⟨.int ((i:Nat):Int),[v],rfl,rfl,v,[],rfl,e2,rfl⟩
   exact⟨F',g,rr⟩
 ·rw [uY]
  omega
section
variable {X:Cx}
theorem qLv:Qo (Qa "enumerate")=some (.type "enumerate"):=by decide +kernel
def qT4 (K:Qb) (ta:TA):TI:=fun Z H R=>ta Z H λvs H1=>∃(kd:Bool) (a:Addr) (xs:List V),vs=[.ref a]/\SqK kd K H1 a xs/\(xs.length<=sizeLine->R (vo kd K a) H1)
theorem qP2 {kk:Nat}{tp:Pos}{x:Str}{a:Expr}{ta:TA}{p pos:Pos}(hx:x=Qa "enumerate") (hg:Gl X x) (hm:X.mg x=none) (ha:PA X [a] ta) (hs:starEach [a] X.env=[(false,eval a X.env)]) :
  PI X (.Tuple es kk tp) (.Call (.Name x p) [a] [] pos) (qT4 X.K ta):=by
 subst hx
 intro pins s Z H R I h
 refine Call_ (iA I hg hm qLv (jb (aC (ha pos pins s Z H _ I h) λus s1 ⟨vs,H1,I1,r1,q1⟩=>?_) (by rw [hs];rfl) (by rfl)))
 obtain⟨kd,a1,xs,rfl,hx,q⟩:=q1
 cases r1 with
 | cons ra rr =>
  cases rr
  cases ra
  obtain⟨t1,v1,p1,zl⟩:=hx.its I1
  refine qI8 p1 λh' S kp=>?_
  obtain⟨⟨old,he⟩,hi⟩:=S
  refine wpAny_pyIter_enum he ?_
  have I2:Inv X pins Z H1 { s1 with heap:=h' }:=I1.kept (t':=s1.toks) kp
  refine⟨_,[s1.heap.objs.size+1,s1.heap.objs.size],_,_,H1,rfl,I2,qJW a1 (Nat.succ_ne_self _),⟨⟨old,he⟩,hi⟩,λc hc=>?_,q zl⟩
  have hge:s1.heap.objs.size<=c:=by
   simp only [yag,eO,or_false] at hc
   rcases hc with rfl|rfl<;>omega
  exact I1.fpOk hge (I1.hok.fresh hge)
end
end Dw
namespace Dw
open PySem PySem.Spec PyProof.Rows L2
noncomputable def eS (env:Env):List (Str×NameKind)->List (Str×Addr)->List (Str×Addr)
 | [],acc=>acc
 | (n,k)::r,acc=>eS env r (if k == .free then (n,(env.cells.lookup n).getD 0)::acc else acc)
theorem ym (env:Env):∀(l:List (Str×NameKind)) (acc:List (Str×Addr)),(∀y∈l,y.2=.free->∃c,env.cells.lookup y.1=some c) ->
  (do
   let mut cs:=acc
   for (name,kind) in l do
    if kind == .free then cs:=(name,<-cellOf env name)::cs
   return cs:Sem (List (Str×Addr)))=pure (eS env l acc)
 | [],acc,_=>rfl
 | (n,k)::r,acc,h=>by
  have ih:=λa=>ym env r a λy hy=>h y (bK _ hy)
  simp only [qY]
  cases hk:k == NameKind.free with
  | true =>
   obtain⟨c,hc⟩:=h (n,k) bq (by simpa using hk)
   have e:cellOf env n=pure c:=by unfold cellOf;rw [hc]
   simp only [if_true]
   rw [e]
   have:=ih ((n,c)::acc)
   simp only [eS,hk,if_true,hc,Option.getD_some]
   exact this
  | false =>
   simp only [eS,hk,fS,if_false]
   exact ih acc
theorem yn (sc:Scope) (env:Env) (h:∀y∈sc.names,y.2=.free->∃c,env.cells.lookup y.1=some c):closureFor sc env=pure (eS env sc.names []):=ym env sc.names [] h
theorem uw (env:Env):∀(l:List (Str×NameKind)) (acc:List (Str×Addr)) (x:Str) (c:Addr),(eS env l acc).lookup x=some c->acc.lookup x=some c∨((x,NameKind.free)∈l/\c=(env.cells.lookup x).getD 0)
 | [],acc,x,c,h=>.inl h
 | (n,k)::r,acc,x,c,h=>by
  rcases uw env r _ x c h with q|q
  ·split at q
   ·rename_i hk
    rw [i9] at q
    split at q
    ·rename_i hx
     have e1:x=n:=by simpa using hx
     have e2:k=.free:=by simpa using hk
     subst e1 e2
     cases q
     exact .inr ⟨bq,rfl⟩
    ·exact .inl q
   ·exact .inl q
  ·exact .inr ⟨bK _ q.1,q.2⟩
theorem nJ (env:Env):∀(l:List (Str×NameKind)) (acc:List (Str×Addr)) (x:Str),((x,NameKind.free)∈l∨(acc.lookup x).isSome=true)->∃c,(eS env l acc).lookup x=some c
 | [],acc,x,h=>by
  rcases h with h|h
  ·cases h
  ·exact Option.isSome_iff_exists.mp h
 | (n,k)::r,acc,x,h=>by
  refine nJ env r _ x ?_
  rcases h with h|h
  ·rcases yag.mp h with e|e
   ·cases e
    exact .inr C2
   ·exact .inl e
  ·refine .inr ?_
   split
   ·rw [i9]
    split
    ·rfl
    ·exact h
   ·exact h
theorem jU {sc:Scope}{x:Str}{c:Addr}(h:∀y∈sc.names,y.2=.free->∃c,env.cells.lookup y.1=some c) (e:(eS env sc.names []).lookup x=some c):env.cells.lookup x=some c:=by
 rcases uw env _ _ x c e with q|⟨q1,q2⟩
 ·cases q
 ·obtain⟨c',hc⟩:=h _ q1 rfl
  have hc':env.cells.lookup x=some c':=hc
  rw [q2,hc']
  rfl
theorem Be {env:Env}:∀{names:List (Str×NameKind)}{x:Str},
  (names.map λ(n,k)=>if (k == NameKind.free&&env.scope.kind == .function&&env.kindOf n == some .cell) then (n,NameKind.cell) else (n,k)).lookup x =
   (names.lookup x).map λk=>if (k == NameKind.free&&env.scope.kind == .function&&env.kindOf x == some .cell) then NameKind.cell else k
 | [],x=>rfl
 | (n,k)::r,x=>by
  have ih:=@Be env r x
  show List.lookup x ((if (k == NameKind.free&&env.scope.kind == .function&&env.kindOf n == some .cell)=true then (n,NameKind.cell) else (n,k))::_)=_
  cases hx:x == n with
  | true =>
   have e:x=n:=by simpa using hx
   subst e
   cases hc:(k == NameKind.free&&env.scope.kind == .function&&env.kindOf x == some .cell)<;>simp only [i9,hc,beq_self_eq_true,if_true,fS,if_false,kO]
  | false =>
   cases hc:(k == NameKind.free&&env.scope.kind == .function&&env.kindOf n == some .cell)<;>(simp only [i9,hx,if_true,fS,if_false];exact ih)
theorem qm (sc:Scope) (env:Env) (x:Str):(relabel sc env).names.lookup x=(sc.names.lookup x).map λk=>if (k == NameKind.free&&env.scope.kind == .function&&env.kindOf x == some .cell) then NameKind.cell else k:=Be
theorem uq (h:sc.names.lookup x=some .local):(relabel sc env).names.lookup x=some .local:=by
 rw [qm,h];rfl
theorem qNI (h:sc.names.lookup x=some .globalImplicit):(relabel sc env).names.lookup x=some .globalImplicit:=by
 rw [qm,h];rfl
theorem tq (h:sc.names.lookup x=some .free):(relabel sc env).names.lookup x=some .cell∨(relabel sc env).names.lookup x=some .free:=by
 rw [qm,h]
 simp only [kO]
 split
 ·exact .inl rfl
 ·exact .inr rfl
theorem qNJ (hc:∀y∈sc.names,y.2≠.cell) (h:(relabel sc env).names.lookup x=some .cell∨(relabel sc env).names.lookup x=some .free):sc.names.lookup x=some .free:=by
 rw [qm] at h
 cases hx:sc.names.lookup x with
 | none=>rw [hx] at h;rcases h with h|h<;>cases h
 | some k =>
  rw [hx] at h
  simp only [kO,rf] at h
  cases k with
  | free=>rfl
  | cell=>exact Qn rfl (hc _ (dF hx))
  | _=>rcases h with h|h<;>(split at h<;>first|(cases h;done)|(rename_i q;exfalso;revert q;simp;done))
def lD (X:Cx) (sc:Scope) (N:List Str) (C:Addr) (s:Shared) (H:Hp) (fp:List Addr):Cx where
 prog:=X.prog
 w:=X.w
 K:=X.K
 mg:=X.mg
 base:=X.base
 A:=X.A
 N:=N
 s₀:=s
 H₀:=H
 env:=compEnvC sc (eS X.env sc.names []) C X.env
 outer:=X.stack
 stack:=X.stack
 ex:=fp
 calm:=X.calm
 fn:=λ_=>false
 pn:=[]
 xe:=λ_ _=>False
section
variable {call:Nat->List D->Option R}{G:Gx}{k:Nat}{X:Cx}{sc sc':Scope}{N:List Str}
structure ScOk (sc:Scope):Prop where
 kind:sc.kind=.function
 cell:∀y∈sc.names,y.2≠.cell
 nd:(sc.names.map (·.1)).Nodup
 pl:∀x∈aN sc++aF sc,f6 x=true
theorem zQ (h:qo sc=true):ScOk sc:=by
 unfold qo at h
 simp only [aP,beq_iff_eq,List.all_eq_true,bne_iff_ne,ne_eq,decide_eq_true_eq] at h
 obtain⟨⟨⟨h1,h2⟩,h3⟩,h4⟩:=h
 exact⟨h1,h2,h3,h4⟩
theorem nF {l:List (Str×NameKind)}(nd:(l.map (·.1)).Nodup) {x:Str}{k:NameKind}(h:(x,k)∈l):l.lookup x=some k:=by
 induction l with
 | nil=>cases h
 | cons p r ih =>
  obtain⟨n,k'⟩:=p
  simp only [cP,ybx] at nd
  rcases yag.mp h with e|e
  ·cases e
   simp [i9]
  ·have hne:(x == n)=false:=by
    rw [beq_eq_false_iff_ne]
    intro z
    subst z
    exact nd.1 (yaO.mpr ⟨_,e,rfl⟩)
   rw [i9,hne]
   exact ih nd.2 e
theorem own_mem:x∈aN sc↔(x,NameKind.local)∈sc.names/\x≠Qa ".0":=by
 unfold aN
 simp only [yaO,ybT,aP,beq_iff_eq,bne_iff_ne,ne_eq]
 constructor
 ·rintro⟨⟨n,k⟩,⟨h1,h2,h3⟩,rfl⟩
  have h2:k=.local:=h2
  subst h2
  exact⟨h1,h3⟩
 ·rintro⟨h1,h2⟩
  exact⟨_,⟨h1,rfl,h2⟩,rfl⟩
theorem free_mem:x∈aF sc↔(x,NameKind.free)∈sc.names:=by
 unfold aF
 simp only [yaO,ybT,beq_iff_eq]
 constructor
 ·rintro⟨⟨n,k⟩,⟨h1,h2⟩,rfl⟩
  have h2:k=.free:=h2
  subst h2
  exact h1
 ·intro h
  exact⟨_,⟨h,rfl⟩,rfl⟩
theorem sZ (nd:(sc.names.map (·.1)).Nodup):((sc.names.filter p).map (·.1)).Nodup:=nd.sublist ((List.filter_sublist).map _)
theorem qKK (S:ScOk sc):(aN sc++aF sc).Nodup:=by
 rw [ycg]
 refine⟨sZ S.nd,sZ S.nd,λx hx y hy e=>?_⟩
 subst e
 have h1:=nF S.nd (own_mem.mp hx).1
 have h2:=nF S.nd (free_mem.mp hy)
 rw [h1] at h2
 cases h2
end
end Dw
namespace Dw
open PySem PySem.Spec PyProof.Rows L2
section
variable {call:Nat->List D->Option R}{G:Gx}{k:Nat}{X:Cx}{sc sc':Scope}{N:List Str}
def pf (X:Cx) (sc':Scope):Prop:=∀x,(x,NameKind.free)∈sc'.names->X.env.kindOf x=some .cell∨X.env.kindOf x=some .free
theorem nG (ok:X.Ok) (h:pf X sc'):∀y∈sc'.names,y.2=.free->∃c,X.env.cells.lookup y.1=some c:=λy hy e=>by
 obtain⟨x,kk⟩:=y
 have e:kk=.free:=e
 subst e
 exact ok.has x (h x hy)
theorem qSX (I:Inv X pins Z H s) (S:ScOk sc') (T:pf X sc') (hf:∀b∈fp,d6 X pins H b) (hl:∀b∈fp,b<s.heap.objs.size) :
  (lD X sc' N' s.heap.objs.size s H fp).Ok:=by
 have hc:=nG I.ok T
 refine⟨I.ok.mod,S.kind,I.ok.glob,I.ok.blt,au _,λx y c h1 h2=>?_,λx h=>?_,λx c h=>?_,I.ok.hd,I.ok.frames,.inl rfl,λb hb=>⟨bV (hl b hb),λx c e=>?_⟩,I.bs,aT I.ok.bsz I.sz,λb o e hb=>?_,λb hb hs=>?_,I.stack,I.stkFree⟩
 ·exact I.ok.inj x y c (jU hc h1) (jU hc h2)
 ·have hx:=qNJ S.cell h
  exact nJ X.env _ _ x (.inl (dF hx))
 ·exact Qn h (by intro z;cases z)
 ·exact (hf b hb).2.2.2.2.1 x c (jU hc e)
 ·rcases (hf b hb).2.2.2.1 with q|q
  ·exact I.ok.noex b o e q
  ·exact Qn (bO (Qi (I.ok.bs b o e).1) q) (fR _)
 ·rcases yag.mp (I.stkSub b hs) with e|e
  ·exact (hf b hb).2.1 e
  ·exact (hf b hb).2.2.1 e
theorem qLi (I:Inv X pins Z H s) (S:ScOk sc') (T:pf X sc') (hf:∀b∈fp,d6 X pins H b) (hl:∀b∈fp,b<s.heap.objs.size)
  (kp:∀b o,s.heap.get? b=some o->h'.get? b=some o) (hn:h'.Ns s.heap.objs.size m) (τ:L2.St) (hlen:τ.length=N'.length)
  (hv:∀(i:Nat) (x:Str) (v:V),N'[i]?=some x->τ[i]?=some (some v)->(x,NameKind.free)∈sc'.names/\∃j:Nat,X.N[j]?=some x/\Z[j]?=some (some v)) (hvis:∀x,(x,NameKind.free)∈sc'.names->jA X.env.scope x) :
  Inv (lD X sc' N' s.heap.objs.size s H fp) (X.pn++pins) τ H { s with heap:=h',toks:=t' }:=by
 have hc:=nG I.ok T
 refine⟨qSX I S T hf hl,rfl,I.bare,Un.kept kp,⟨m,hn,λi x v e1 e2 e3=>?_⟩,λx c e=>?_,I.hok.fresh (au _),λx c e=>I.freeC x c (jU hc e),λp hp=>?_,I.hok.kept kp,hlen⟩
 ·obtain⟨hx,j,q1,q2⟩:=hv i x v e1 e2
  obtain⟨m0,hm0,hl0⟩:=I.loc
  obtain⟨u,r,l⟩:=hl0 j x v q1 q2 (hvis x hx)
  refine⟨u,r,.inr ⟨?_,?_⟩⟩
  ·exact tq (nF S.nd hx)
  ·obtain⟨c,ec⟩:=nJ X.env _ [] x (.inl hx)
   refine⟨c,ec,?_⟩
   have ec':=jU hc ec
   rcases l with ⟨hk,_⟩|⟨hk,c',hc',hcell⟩
   ·rcases T x hx with z|z<;>(rw [hk] at z;cases z)
   ·rw [ec'] at hc'
    cases hc'
    obtain⟨o,ho,hd⟩:=hcell
    exact⟨o,kp c o ho,hd⟩
 ·obtain⟨v,o,ho,hd⟩:=I.cell x c (jU hc e)
  exact⟨v,o,kp c o ho,hd⟩
 ·have hp':p∈X.pn++pins:=hp
  obtain⟨e,n,ne,nf,d⟩:=I.pin p hp'
  refine⟨kp _ _ e,n,bV (Qi e),λhs=>?_,d⟩
  rcases yag.mp (I.stkSub p.1 hs) with z|z
  ·exact ne z
  ·exact nf z
theorem qSW (g:XG call G k X sc N) (S:ScOk sc') {C:Addr}{s:Shared}{H:Hp}{fp:List Addr}:XG call G k (lD X sc' CQ C s H fp) sc' CQ:=by
 refine⟨rfl,qKK S,λx h=>?_,λx h=>?_,λx h=>?_,λx h=>?_,g.calm,rfl,g.room,λf i h=>?_,g.blt,g.cons,g.lam⟩
 ·unfold jT at h
  simp only [eN,beq_iff_eq] at h
  rcases h with (h|h)|h
  ·exact .inl (uq h)
  ·exact Qn rfl (S.cell _ (dF h))
  ·rcases tq (env:=X.env) h with q|q
   ·exact .inr (.inl q)
   ·exact .inr (.inr q)
 ·simp only [eN,beq_iff_eq] at h
  rcases h with h|h
  ·exact⟨.inl (uq h),.inr (uq h)⟩
  ·exact Qn rfl (S.cell _ (dF h))
 ·unfold bJ at h
  rw [beq_iff_eq] at h
  exact qNI h
 ·unfold jP at h
  simp only [eN,beq_iff_eq] at h
  rcases h with h|h
  ·exact Qn rfl (S.cell _ (dF h))
  ·exact tq h
 ·obtain⟨a,fd,ps,h1,h2,h3,h4,h5⟩:=(g.defs f i h).ex
  exact⟨a,fd,ps,h1,h2,h3,h4,h5⟩
end
end Dw
namespace Dw
open PySem PySem.Spec PyProof.Rows L2
section
variable {call:Nat->List D->Option R}{G:Gx}{k:Nat}{X:Cx}{sc sc':Scope}{N:List Str}
variable (X) in
def SndI (tg iter:Expr) (b:Bool) (src:En->Option (List D)):Prop:=∃wi:TI,PI X tg iter wi/\∀(Ge:Gp) (H:Hp) (F:Fz) (Z:En) (τ:L2.St) (its:List D) (Rr:It->Hp->Prop),src Z=some its->SR X.K Ge H F Z τ ->
 (∀J H' F',Gr H F H' F'->ItOk X.K J H' F' its->(b=true->its.length<=lim)->Rr J H')->wi τ H Rr
variable (X) in
def ow (tg iter:Expr) (b:Bool) (src:En->Option (List D)):Prop:=∃wi:TI,PI X tg iter wi/\∀(Ge:Gp) (H:Hp) (F:Fz) (Z:En) (τ:L2.St) (its:List D) (Rr:It->Hp->Prop),src Z=some its->SR X.K Ge H F Z τ ->
 (∀J H' F',Gr H F H' F'->oY X.K J H' F' its->(b=true->its.length<=lim)->Rr J H')->wi τ H Rr
theorem SndI.c (h:SndI X tg iter b src):ow X tg iter b src:=let ⟨wi,p,q⟩:=h;⟨wi,p,λGe H F Z τ its Rr e s k=>q Ge H F Z τ its Rr e s λJ H' F' g ok hl=>k J H' F' g ok.g hl⟩
def qT3 (K:Qb) (tl:TE):TI:=fun Z H R=>tl Z H λx H1=>∃a xs,x=.ref a/\((SqL K H1 a xs/\(xs.length<=sizeLine->R (qU K a) H1))∨(SqT K H1 a xs/\(xs.length<=sizeLine->R (vn K a) H1)))
theorem xN (hl:PE X l tl):PI X tg l (qT3 X.K tl):=by
 intro pins s Z H R I h
 refine aC (hl pins s Z H _ I h) λv s1 ⟨x,H1,I1,r1,a,xs,e,q⟩=>?_
 subst e;cases r1
 have hf:∀b∈[s1.heap.objs.size],d6 X pins H1 b:=λb hb=>by
  have e:b=s1.heap.objs.size:=by simpa using hb
  subst e;exact I1.fpOk (au _) (I1.hok.fresh (au _))
 rcases q with ⟨hq,q⟩|⟨hq,q⟩
 ·obtain⟨its,rv,p,hz⟩:=I1.list hq
  exact wpAny_pyIter_list p.isList ⟨s1.heap.objs.size,[s1.heap.objs.size],_,_,H1,rfl,I1.kept (t':=s1.toks) λb o e=>Qg _ e,qHv a _,⟨_,Qh _ rfl,rfl,rfl⟩,hf,q hz⟩
 ·obtain⟨its,rv,p,hz⟩:=I1.tuple hq
  exact wpAny_pyIter_tuple (show s1.heap.IsTuple a its.toArray from p) ⟨s1.heap.objs.size,[s1.heap.objs.size],_,_,H1,rfl,I1.kept (t':=s1.toks) λb o e=>Qg _ e,qGS a _,⟨_,Qh _ rfl,rfl,rfl⟩,hf,q hz⟩
theorem qNr (h:SndE call X l c):SndI X tg l true (fun Z=>(aa call Z c).bind λx=>bM x.2):=by
 obtain⟨t,p,q⟩:=h
 refine⟨_,xN p,λGe H F Z τ its Rr hs hr kk=>?_⟩
 obtain⟨r,e1,e2⟩:=ah hs
 refine q Ge H F Z τ r _ e1 hr λv H1 F1 g rr=>?_
 obtain⟨F2,g2,rd⟩:=rr.fz g
 obtain⟨b,d⟩:=r
 cases d with
 | lst ds =>
  cases e2
  obtain⟨a,vs,rfl,hl,hrd⟩:=rd
  exact⟨a,vs,rfl,.inl ⟨hl.sq,λz=>kk _ H1 F2 g2 (qOn hl hrd) λ_=>by rw [<-RDs.length hrd];exact z⟩⟩
 | tup ds =>
  cases e2
  obtain⟨a,vs,rfl,hl,hrd⟩:=rd
  exact⟨a,vs,rfl,.inr ⟨hl,λz=>kk _ H1 F2 g2 (xE hl hrd) λ_=>by rw [<-RDs.length hrd];exact z⟩⟩
 | _=>cases e2
theorem qKg (h:eg call X l c):ow X tg l true (fun Z=>(pk Z c (aa call Z c)).bind bM):=by
 obtain⟨t,p,q⟩:=h
 refine⟨_,xN p,λGe H F Z τ its Rr hs hr kk=>?_⟩
 obtain⟨d,e1,e2⟩:=ah hs
 refine q Ge H F Z τ d _ e1 hr λv H1 F1 g rx=>?_
 cases d with
 | lst ds =>
  cases e2
  obtain⟨a,vs,rfl,hl,hrd⟩:=rx.lst
  exact⟨a,vs,rfl,.inl ⟨hl,λz=>kk _ H1 F1 g (qQQ hl hrd) λ_=>by rw [<-RDs.length hrd];exact z⟩⟩
 | tup ds =>
  cases e2
  obtain⟨a,vs,rfl,hl,hrd⟩:=rx.tup
  exact⟨a,vs,rfl,.inr ⟨hl,λz=>kk _ H1 F1 g (xE hl hrd).g λ_=>by rw [<-RDs.length hrd];exact z⟩⟩
 | _=>cases e2
theorem qNz (hx:x=Qa "enumerate") (hg:Gl X x) (hm:X.mg x=none) (hn:[a].all dP=true) (ha:SndE call X a ca) :
  SndI X (.Tuple es kk tp) (.Call (.Name x p) [a] [] pos) true (fun Z=>(aa call Z ca).bind λx=>(bM x.2).bind λxs=>some (fI 0 xs)):=by
 simp only [fQ,mq,jF] at hn
 have s1:starEach [a] X.env=[(false,eval a X.env)]:=cF hn
 obtain⟨ta,pa,qa⟩:=ha
 refine⟨_,qP2 hx hg hm (gd pa iB s1) s1,λGe H F Z τ its Rr hs hr kk=>?_⟩
 obtain⟨r,e1,e2⟩:=ah hs
 obtain⟨xs,e5,e6⟩:=ah e2
 cases e6
 refine qa Ge H F Z τ r _ e1 hr λv H1 F1 g1 rr1=>?_
 obtain⟨F1',g1',rd1⟩:=rr1.fz g1
 obtain⟨b1,d1⟩:=r
 cases d1 with
 | lst ds1 =>
  cases e5
  obtain⟨p1,v1,rfl,h1,q1⟩:=rd1
  exact⟨true,p1,v1,rfl,LsR.sq h1,λz=>kk _ H1 F1' g1' (xD (kd:=true) h1 q1) λ_=>by rw [uY,<-RDs.length q1];exact z⟩
 | tup ds1 =>
  cases e5
  obtain⟨p1,v1,rfl,h1,q1⟩:=rd1
  exact⟨false,p1,v1,rfl,h1,λz=>kk _ H1 F1' g1' (xD (kd:=false) h1 q1) λ_=>by rw [uY,<-RDs.length q1];exact z⟩
 | _=>cases e5
theorem qNo (hx:x=Qa "zip") (hg:Gl X x) (hm:X.mg x=none) (hn:[a,b].all dP=true) (ha:SndE call X a ca) (hb:SndE call X b cb) :
  SndI X (.Tuple es kk tp) (.Call (.Name x p) [a,b] [] pos) true (fun Z=>(aa call Z ca).bind λx=>(aa call Z cb).bind λy=>(bM x.2).bind λxs=>(fX y.2).bind λys=>some (bY xs ys)):=by
 simp only [fQ,mq,jF,aP] at hn
 have s2:starEach [b] X.env=[(false,eval b X.env)]:=cF hn.2
 have s1:starEach [a,b] X.env=[(false,eval a X.env),(false,eval b X.env)]:=(cF hn.1).trans (by rw [s2])
 obtain⟨ta,pa,qa⟩:=ha
 obtain⟨tb,pb,qb⟩:=hb
 refine⟨_,qP1 hx hg hm (gd pa (gd pb iB s2) (cF hn.1)) s1 s2,λGe H F Z τ its Rr hs hr kk=>?_⟩
 obtain⟨r,e1,e2⟩:=ah hs
 obtain⟨r',e3,e4⟩:=ah e2
 obtain⟨xs,e5,e6⟩:=ah e4
 obtain⟨ys,e7,e8⟩:=ah e6
 cases e8
 refine qa Ge H F Z τ r _ e1 hr λv H1 F1 g1 rr1=>?_
 obtain⟨F1',g1',rd1⟩:=rr1.fz g1
 refine qb Ge H1 F1' Z τ r' _ e3 (hr.grow g1') λw H2 F2 g2 rr2=>?_
 obtain⟨F2',g2',rd2⟩:=rr2.fz g2
 have rd1':=RD.mono g2'.keep rd1
 obtain⟨b1,d1⟩:=r
 obtain⟨b2,d2⟩:=r'
 cases d1 with
 | lst ds1 =>
  cases d2 with
  | tup ds2 =>
   cases e5
   cases e7
   obtain⟨p1,v1,rfl,h1,q1⟩:=rd1'
   obtain⟨p2,v2,rfl,h2,q2⟩:=rd2
   exact⟨true,false,p1,p2,v1,v2,rfl,LsR.sq h1,h2,λz=>kk _ H2 F2' (g1'.trans g2') (pO (kd:=true) (ke:=false) h1 h2 q1 q2) λ_=>by
    have:=RDs.length q1
    unfold bY
    rw [mx,<-this]
    exact aT (n9 _ _) z⟩
  | lst ds2 =>
   cases e5
   cases e7
   obtain⟨p1,v1,rfl,h1,q1⟩:=rd1'
   obtain⟨p2,v2,rfl,h2,q2⟩:=rd2
   exact⟨true,true,p1,p2,v1,v2,rfl,LsR.sq h1,LsR.sq h2,λz=>kk _ H2 F2' (g1'.trans g2') (pO (kd:=true) (ke:=true) h1 h2 q1 q2) λ_=>by
    have:=RDs.length q1
    unfold bY
    rw [mx,<-this]
    exact aT (n9 _ _) z⟩
  | _=>cases e7
 | tup ds1 =>
  cases d2 with
  | tup ds2 =>
   cases e5
   cases e7
   obtain⟨p1,v1,rfl,h1,q1⟩:=rd1'
   obtain⟨p2,v2,rfl,h2,q2⟩:=rd2
   exact⟨false,false,p1,p2,v1,v2,rfl,h1,h2,λz=>kk _ H2 F2' (g1'.trans g2') (pO (kd:=false) (ke:=false) h1 h2 q1 q2) λ_=>by
    have:=RDs.length q1
    unfold bY
    rw [mx,<-this]
    exact aT (n9 _ _) z⟩
  | lst ds2 =>
   cases e5
   cases e7
   obtain⟨p1,v1,rfl,h1,q1⟩:=rd1'
   obtain⟨p2,v2,rfl,h2,q2⟩:=rd2
   exact⟨false,true,p1,p2,v1,v2,rfl,h1,LsR.sq h2,λz=>kk _ H2 F2' (g1'.trans g2') (pO (kd:=false) (ke:=true) h1 h2 q1 q2) λ_=>by
    have:=RDs.length q1
    unfold bY
    rw [mx,<-this]
    exact aT (n9 _ _) z⟩
  | _=>cases e7
 | _=>cases e5
theorem qu:∀{cs:List C}{Z:En}{ds:List D},cu call Z cs=some ds->ds.length=cs.length
 | [],_,_,h=>by cases h;rfl
 | c::cr,Z,ds,h=>by
  obtain⟨x,e1,e2⟩:=ah (by simpa only [ux] using h)
  obtain⟨xs,e3,e4⟩:=ah e2
  cases e4
  simp [qu e3]
theorem qPR {ds its:List D}(e:eU ds=some its) (h:ds.length=1):∃i,ds=[.int i]:=by
 match ds,h with
 | [a],_=>cases a<;>first|(cases e;done)|exact⟨_,rfl⟩
theorem qPQ {ds its:List D}(e:eU ds=some its) (h:ds.length=2):∃i j,ds=[.int i,.int j]:=by
 match ds,h with
 | [a,b],_=>cases a<;>first|(cases e;done)|(cases b<;>first|(cases e;done)|exact⟨_,_,rfl⟩)
theorem qPP {ds its:List D}(e:eU ds=some its) (h:ds.length=3):∃i j k,ds=[.int i,.int j,.int k]:=by
 match ds,h with
 | [a,b,c],_=>cases a<;>first|(cases e;done)|(cases b<;>first|(cases e;done)|(cases c<;>first|(cases e;done)|exact⟨_,_,_,rfl⟩))
theorem qNs (hx:x=Qa "range") (hg:Gl X x) (hm:X.mg x=none) (hn:rs.all dP=true) (hl:rs.length=1∨rs.length=2∨rs.length=3) (hcl:cs.length=rs.length) (h:jo call X rs cs) :
  SndI X tg (.Call (.Name x p) rs [] pos) false (fun Z=>(cu call Z cs).bind eU):=by
 subst hx
 obtain⟨t,pt,q⟩:=h
 match rs,hl,hn,hcl,pt with
 | [a],_,hn,hcl,pt =>
  simp only [fQ,mq,jF] at hn
  refine⟨_,qIa hg hm pt (cF hn),λGe H F Z τ its Rr hs hr kk=>?_⟩
  obtain⟨ds,e1,e2⟩:=ah hs
  have hlen:=qu e1
  rw [hcl] at hlen
  refine q Ge H F Z τ ds _ e1 hr λvs H1 F1 g rr=>?_
  obtain⟨n,rfl⟩:=qPR e2 hlen
  obtain⟨hc,rfl⟩:=dj (show (if -(2^62)<=n/\n<2^62 then some ((List.range n.toNat).map λi=>D.int (i:Nat)) else none)=some its from e2)
  obtain⟨v,rfl,hv⟩:=RPs.one rr
  have e:(List.range n.toNat).map (λi:Nat=>D.int (i:Nat))=(List.range n.toNat).map λi:Nat=>D.int (0+(i:Nat)):=by simp
  exact⟨n,by rw [hv.int],hc.1,hc.2,kk _ H1 F1 g (by rw [e];exact qQR 0 n.toNat) λz=>nomatch z⟩
 | [a,b],_,hn,hcl,pt =>
  simp only [fQ,mq,jF,aP] at hn
  have s2:starEach [b] X.env=[(false,eval b X.env)]:=cF hn.2
  have s1:starEach [a,b] X.env=[(false,eval a X.env),(false,eval b X.env)]:=(cF hn.1).trans (by rw [s2])
  refine⟨_,qH8 hg hm pt s1 s2,λGe H F Z τ its Rr hs hr kk=>?_⟩
  obtain⟨ds,e1,e2⟩:=ah hs
  have hlen:=qu e1
  rw [hcl] at hlen
  refine q Ge H F Z τ ds _ e1 hr λvs H1 F1 g rr=>?_
  obtain⟨i,j,rfl⟩:=qPQ e2 hlen
  cases e2
  obtain⟨v,w,rfl,hv,hw⟩:=RPs.two rr
  have e:(List.range (j - i).toNat).map (λk:Nat=>D.int (i+(k:Nat)))=(List.range (j - i).toNat).map λk:Nat=>D.int (i+(k:Nat) * 1):=by
   refine ri λk _=>?_
   rw [Int.mul_one]
  exact⟨i,j,by rw [hv.int,hw.int],kk _ H1 F1 g (by rw [e];exact y6 i 1 (j - i).toNat) λz=>nomatch z⟩
 | [a,b,c],_,hn,hcl,pt =>
  simp only [fQ,mq,jF,aP] at hn
  have s3:starEach [c] X.env=[(false,eval c X.env)]:=cF hn.2.2
  have s2:starEach [b,c] X.env=[(false,eval b X.env),(false,eval c X.env)]:=(cF hn.2.1).trans (by rw [s3])
  have s1:starEach [a,b,c] X.env=[(false,eval a X.env),(false,eval b X.env),(false,eval c X.env)]:=(cF hn.1).trans (by rw [s2])
  refine⟨_,qH9 hg hm pt s1 s2,λGe H F Z τ its Rr hs hr kk=>?_⟩
  obtain⟨ds,e1,e2⟩:=ah hs
  have hlen:=qu e1
  rw [hcl] at hlen
  refine q Ge H F Z τ ds _ e1 hr λvs H1 F1 g rr=>?_
  obtain⟨i,j,k,rfl⟩:=qPP e2 hlen
  obtain⟨hc,rfl⟩:=dj (show (if -(2^62)<=i/\i<2^62/\-(2^62)<=j/\j<2^62/\k≠0/\k.natAbs<2^30 then some ((List.range (fW i j k).toNat).map λn=>D.int (i+(n:Nat) * k)) else none)=some its from e2)
  obtain⟨v,w,x,rfl,hv,hw,hx⟩:=RPs.three rr
  exact⟨i,j,k,by rw [hv.int,hw.int,hx.int],hc,kk _ H1 F1 g (y6 i k (fW i j k).toNat) λz=>nomatch z⟩
end
end Dw
namespace Dw
open PySem PySem.Spec PyProof.Rows L2
section
variable {call:Nat->List D->Option R}{G:Gx}{k:Nat}{X:Cx}{sc sc':Scope}{N:List Str}
theorem lL:∀{l:List α}{ks:List β},cI f l=some ks->ks.length=l.length/\∀(i:Nat) (x:α),l[i]?=some x->∃j,ks[i]?=some j/\f x=some j
 | [],ks,h=>by cases h;exact⟨rfl,λi x e=>by simp at e⟩
 | a::r,ks,h=>by
  obtain⟨b,e1,e2⟩:=ah (show ((f a).bind λx=>(cI f r).bind λxs=>some (x::xs))=some ks from h)
  obtain⟨bs,e3,e4⟩:=ah e2
  cases e4
  obtain⟨h1,h2⟩:=lL e3
  refine⟨by simp [h1],λi x e=>?_⟩
  cases i with
  | zero=>simp at e;subst e;exact⟨b,rfl,e1⟩
  | succ i=>simp at e;obtain⟨j,q1,q2⟩:=h2 i x e;exact⟨j,by simpa using q1,q2⟩
theorem ly (h:iu sc N x=some j):jP sc x=true/\N[j]?=some x/\jT sc x=true:=by
 unfold iu at h
 split at h
 ·rename_i hc
  unfold dw at h
  split at h
  ·rename_i hv
   rw [aP] at hv
   exact⟨hc,iJ h,hv.1⟩
  ·cases h
 ·cases h
variable {ks:List Nat}
theorem Ap (g:XG call G k X sc N) (hk:cI (iu sc N) (aF sc')=some ks):pf X sc':=λx hx=>by
 obtain⟨i,hi⟩:=yaB.mp (free_mem.mpr hx)
 obtain⟨j,e1,e2⟩:=(lL hk).2 i x hi
 exact g.cap x (ly e2).1
theorem qO3 (g:XG call G k X sc N) (hk:cI (iu sc N) (aF sc')=some ks):∀x,(x,NameKind.free)∈sc'.names->jA X.env.scope x:=λx hx=>by
 obtain⟨i,hi⟩:=yaB.mp (free_mem.mpr hx)
 obtain⟨j,e1,e2⟩:=(lL hk).2 i x hi
 exact g.vis x (ly e2).2.2
noncomputable def ir (τ:L2.St) (nl:Nat) (ks:List Nat):L2.St:=List.replicate nl none++ks.map λj=>(τ[j]?).join
theorem qJ0 (τ:L2.St) (nl:Nat):(ir τ nl ks).length=nl+ks.length:=by simp [ir]
theorem qJ1 (h:(ir τ nl ks)[i]?=some (some v)):∃m j,i=nl+m/\ks[m]?=some j/\τ[j]?=some (some v):=by
 unfold ir at h
 by_cases hi:i<nl
 ·rw [jG (by simpa using hi),kL] at h
  split at h<;>cases h
 ·rw [gU (by simpa using hi),bU] at h
  simp only [rj] at h
  cases q:ks[i - nl]? with
  | none=>rw [q] at h;cases h
  | some j =>
   rw [q] at h
   refine⟨i - nl,j,by omega,q,?_⟩
   simp only [kO,rf] at h
   cases q2:τ[j]? with
   | none=>rw [q2] at h;cases h
   | some o=>rw [q2] at h;simpa using h
theorem lG (h1:ks[m]?=some j) (h2:τ[j]?=some (some v)):(ir τ nl ks)[nl+m]?=some (some v):=by
 unfold ir
 rw [gU C2,bU]
 simp [h1,h2]
theorem j8 (h:ao (br Z nl ks) i=some r):∃m j,i=nl+m/\ks[m]?=some j/\ao Z j=some r:=by
 unfold ao br at h
 by_cases hi:i<nl
 ·rw [jG (by simpa using hi),kL] at h
  split at h<;>cases h
 ·rw [gU (by simpa using hi),bU] at h
  simp only [rj] at h
  cases q:ks[i - nl]? with
  | none=>rw [q] at h;cases h
  | some j =>
   rw [q] at h
   exact⟨i - nl,j,by omega,q,by simpa using h⟩
theorem qQF (S:ScOk sc') (hk:cI (iu sc N) (aF sc')=some ks) {m m' j:Nat}(h1:ks[m]?=some j) (h2:ks[m']?=some j):m=m':=by
 obtain⟨hl,hg⟩:=lL hk
 have get:∀{m:Nat},ks[m]?=some j->∃x,(aF sc')[m]?=some x/\N[j]?=some x:=λ{m} h=>by
  obtain⟨q,_⟩:=yal.mp h
  have hx:(aF sc')[m]?=some (aF sc')[m]:=cN AC
  obtain⟨j',e1,e2⟩:=hg m _ hx
  rw [h] at e1
  cases e1
  exact⟨_,hx,(ly e2).2.1⟩
 obtain⟨x,a1,a2⟩:=get h1
 obtain⟨y,b1,b2⟩:=get h2
 rw [a2] at b2
 cases b2
 exact ue (sZ S.nd) a1 b1
theorem qKe (S:ScOk sc') (hk:cI (iu sc N) (aF sc')=some ks) {K:Qb}{Ge:Gp}{H:Hp}{F:Fz}{Z:En}{τ:L2.St}(nl:Nat) (s:SR K Ge H F Z τ):SR K ⟨Ge.h,none,Ge.tb⟩ H F (br Z nl ks) (ir τ nl ks):=by
 refine⟨by simp [br,ir],s.ent,s.dom,λi d e=>?_,λi d e hd=>?_,λi i' d e h1 h2 h3=>?_,λi m ks' e=>?_,λp d hp=>nomatch hp⟩
 ·obtain⟨m,j,rfl,h1,h2⟩:=j8 e
  obtain⟨v,q1,q2⟩:=s.val j d h2
  exact⟨v,lG h1 q1,q2⟩
 ·obtain⟨m,j,rfl,h1,h2⟩:=j8 e
  obtain⟨a,ds,vs,q1,q2,q3⟩:=s.own j d h2 hd
  exact⟨a,ds,vs,q1,lG h1 q2,q3⟩
 ·obtain⟨m,j,rfl,a1,a2⟩:=j8 h1
  obtain⟨m',j',rfl,b1,b2⟩:=j8 h2
  obtain⟨a,u,q2,_⟩:=s.addr a2
  obtain⟨a',u',p2,_⟩:=s.addr b2
  rw [lG a1 q2,lG b1 p2] at h3
  have:j=j':=s.sep j j' d e a2 b2 (by rw [q2,p2,gw h3])
  subst this
  rw [qQF S hk a1 b1]
 ·obtain⟨m',j,rfl,h1,h2⟩:=j8 e
  obtain⟨a,q1,q2⟩:=s.dct j m ks' h2
  exact⟨a,lG h1 q1,q2⟩
theorem zf (S:ScOk sc') (Z:En) {x:Str}{i:Nat}(hx:(sc'.names.lookup x == some .local||sc'.names.lookup x == some .cell)=true) (hi:bQ CQ x=some i):ao (br Z (aN sc').length ks) i=none:=by
 cases q:ao (br Z (aN sc').length ks) i with
 | none=>rfl
 | some r =>
  obtain⟨m,j,rfl,h1,h2⟩:=j8 q
  have hs:=iJ hi
  rw [gU AC] at hs
  have hm:=free_mem.mp (cm hs)
  have:=nF S.nd hm
  rw [this] at hx
  simp at hx
theorem xV (S:ScOk sc') (h:fD sc' CQ tg=some t) (Z:En):∀i,(t=.one i∨∃j,t=.two i j∨t=.two j i)->ao (br Z (aN sc').length ks) i=none:=by
 have one:∀{x:Str} {i:Nat},(sc'.names.lookup x == some .local||sc'.names.lookup x == some .cell)=true->bQ (aN sc'++aF sc') x=some i->ao (br Z (aN sc').length ks) i=none:=λ{x i} hx hi=>zf S Z hx hi
 unfold fD at h
 split at h
 ·rename_i x pos
  split at h
  ·rename_i hx
   cases hi:bQ CQ x with
   | none=>rw [hi] at h;cases h
   | some i =>
    rw [hi] at h
    cases h
    intro i' z
    rcases z with z|⟨j,z|z⟩<;>cases z
    exact one hx hi
  ·cases h
 ·rename_i x p y p' kk pos
  split at h
  ·rename_i hx
   rw [aP,aP] at hx
   obtain⟨⟨hx,hy⟩,hne⟩:=hx
   cases hi:bQ CQ x with
   | none=>rw [hi] at h;cases h
   | some i =>
    cases hj:bQ CQ y with
    | none=>rw [hi,hj] at h;cases h
    | some j =>
     rw [hi,hj] at h
     cases h
     intro i' z
     rcases z with z|⟨j',z|z⟩<;>cases z
     ·exact one hx hi
     ·exact one hy hj
  ·cases h
 ·cases h
theorem yJ (S:ScOk sc') (Z:En):∀{es:List Expr}{is:List Nat},cI (eC sc' CQ) es=some is->∀i∈is,ao (br Z (aN sc').length ks) i=none
 | [],is,h,i,hi=>by cases h;cases hi
 | e::es,is,h,i,hi=>by
  obtain⟨b,e1,e2⟩:=ah (show ((eC sc' CQ e).bind λx=>(cI (eC sc' CQ) es).bind λxs=>some (x::xs))=some is from h)
  obtain⟨bs,e3,e4⟩:=ah e2
  cases e4
  rcases yag.mp hi with z|z
  ·subst z
   cases e with
   | Name x p =>
    have e1:(if (sc'.names.lookup x == some .local||sc'.names.lookup x == some .cell)=true then bQ CQ x else none)=some i:=e1
    split at e1
    ·rename_i hx;exact zf S Z hx e1
    ·cases e1
   | _=>cases e1
  ·exact yJ S Z e3 i z
theorem qM1 (S:ScOk sc') (h:fB sc' CQ tg=some t) (Z:En):∀i,(t=.one i∨(∃j,t=.two i j∨t=.two j i)∨∃is,t=.many is/\i∈is)->ao (br Z (aN sc').length ks) i=none:=by
 unfold fB at h
 cases ht:fD sc' CQ tg with
 | some t' =>
  rw [ht] at h
  cases h
  intro i z
  rcases z with z|z|⟨is,z,_⟩
  ·exact xV S ht Z i (.inl z)
  ·exact xV S ht Z i (.inr z)
  ·exact Qn z (qM2 ht is)
 | none =>
  rw [ht] at h
  cases tg with
  | Tuple es kk p =>
   obtain⟨is,e1,e2⟩:=yab.mp (show (cI (eC sc' CQ) es).map Tg.many=some t from h)
   subst e2
   intro i z
   rcases z with z|⟨j,z|z⟩|⟨is',z,hi⟩
   ·cases z
   ·cases z
   ·cases z
   ·cases z;exact yJ S Z e1 i hi
  | _=>cases h
end
end Dw
namespace Dw
open PySem PySem.Spec PyProof.Rows L2
section
variable {call:Nat->List D->Option R}{G:Gx}{k:Nat}{X:Cx}{sc:Scope}{N:List Str}
theorem uA {β:Type}:∀{l:List (Nat×β)}{a:Nat}{b:β},l.lookup a=some b->(a,b)∈l
 | (x,y)::r,a,b,h=>by
  rw [i9] at h
  split at h
  ·rename_i e;rw [beq_iff_eq] at e;cases h;subst e;exact bq
  ·exact bK _ (uA h)
theorem zZ (env:Env):∀(l:List (Str×NameKind)) (acc:List (Str×Addr)) (p:Str×Addr),p∈eS env l acc->p∈acc∨((p.1,NameKind.free)∈l/\p.2=(env.cells.lookup p.1).getD 0)
 | [],acc,p,h=>.inl h
 | (n,kd)::r,acc,p,h=>by
  have h:p∈eS env r (if kd == .free then (n,(env.cells.lookup n).getD 0)::acc else acc):=h
  rcases zZ env r _ p h with q|⟨q1,q2⟩
  ·split at q
   ·rename_i hk
    rcases yag.mp q with z|z
    ·subst z
     refine .inr ⟨?_,rfl⟩
     rw [beq_iff_eq] at hk
     subst hk
     exact bq
    ·exact .inl z
   ·exact .inl q
  ·exact .inr ⟨bK _ q1,q2⟩
theorem yC {K:Qb}{Ge:Gp}{H:Hp}{F:Fz}{Z:En}{τ:L2.St}(s:SR K Ge H F Z τ):∀{ks:List Nat}{ds:List D},mO Z ks=some ds->∃vs,RDs K H F ds vs/\vs.length=ks.length/\∀(m j:Nat),ks[m]?=some j->∃v,vs[m]?=some v/\τ[j]?=some (some v)
 | [],ds,h=>by cases h;exact⟨[],rfl,rfl,λm j e=>by simp at e⟩
 | q::ks,ds,h=>by
  unfold mO at h
  split at h
  ·rename_i d e
   obtain⟨ds',e1,e2⟩:=yab.mp h
   subst e2
   obtain⟨vs,h1,h2,h3⟩:=yC s e1
   obtain⟨v,t1,t2⟩:=s.val q d e
   refine⟨v::vs,⟨v,vs,rfl,t2,h1⟩,by simp [h2],λm j e=>?_⟩
   cases m with
   | zero=>simp at e;subst e;exact⟨v,rfl,t1⟩
   | succ m=>simp only [rz] at e ⊢;exact h3 m j e
  ·cases h
structure LmAt (X:Cx) (L:LamD):Prop where
 q:X.env.qual++"<lambda>"=L.q
 df:defaultsOf L.la X.env=([],[])
 cd:∃c,X.env.code=.ref c/\PySem.W.CodeHd X.base c L.P
 bm:X.base.BuiltinsAt X.mg L.P
 fn:∀y,X.fn y=true
variable (call X) in
def pd:List Expr->List C->Prop
 | [],[]=>True
 | e::es,c::cs=>dP e=true/\SndE call X e c/\pd es cs
 | _,_=>False
theorem zI {l:Expr}{tl:TE}(pl:PE X l tl) (hl:dP l=true):∀{es:List Expr}{cs:List C},pd call X es cs->∃tA:TA,PA X (es++[l]) (fun τ H Q=>tA τ H λvs H2=>tl τ H2 λvf H3=>Q (vs++[vf]) H3) /\
  (∀(Ge:Gp) (H:Hp) (F:Fz) (Z:En) (τ:L2.St) (ds:List D) (Q:List V->Hp->Prop),dC call Z cs=some ds->SR X.K Ge H F Z τ->(∀vs H' F',Gr H F H' F'->RDs X.K H' F' ds vs->Q vs H')->tA τ H Q)/\(es++[l]).all dP=true
 | [],[],_=>⟨wH,gd pl iB (cF hl),λGe H F Z τ ds Q h hs k=>by cases h;exact k [] H F (Gr.refl hs.dom) rfl,by simp [hl]⟩
 | e::es,c::cs,⟨hn,⟨te,pe,qe⟩,h⟩=>by
  obtain⟨tA,p,q,a⟩:=zI pl hl h
  refine⟨xf te tA,gd pe p (cF hn),λGe H F Z τ ds Q hd hs k=>?_,by simp [hn] at a ⊢;exact a⟩
  rw [dz] at hd
  obtain⟨r,er,hd⟩:=ah hd
  obtain⟨ds',ed,hd⟩:=ah hd
  cases hd
  refine qe Ge H F Z τ r _ er hs λv H1 F1 g rr=>?_
  obtain⟨F2,g2,rd⟩:=rr.fz g
  refine q Ge H1 F2 Z τ ds' _ ed (hs.grow g2) λvs H3 F3 g3 rs=>?_
  exact k (v::vs) H3 F3 (g2.trans g3) ⟨v,vs,rfl,RD.mono g3.keep rd,rs⟩
theorem qKi (g:XG call G k X sc N) {f:Str}{i j:Nat}{es:List Expr}{cs:List C}{ks:List Nat}{L:LamD}{p pos:Pos}(hf:G.defs.lookup f=some i) (hg:bJ sc f=true) (hd:(f == ("__debug__":Str))=false) (he:pd call X es cs)
  (hj:lamX.lookup j=some L) (S:ScOk L.sc) (hk:cI (iu sc N) (aF L.sc)=some ks) (hL:LmAt X L):SndE call X (.Call (.Name f p) (es++[.Lambda L.la L.e L.sc L.pos]) [] pos) (.lamc i cs j ks):=by
 obtain⟨a,fd,ps,hm,hkp,hb,hF,hl,_⟩:=(g.defs f i hf).ex
 obtain⟨cd,hcd,hhd⟩:=hL.cd
 have T:=Ap g hk
 have pl:PE X (.Lambda L.la L.e L.sc L.pos) (oR X L.la L.e L.sc (eS X.env L.sc.names []) L.pos L.P):=λpins s Z H Q I h=>qQb hL.df (yn L.sc X.env (nG I.ok T)) hcd hhd hL.bm pins s Z H Q I h
 have s3:dP (.Lambda L.la L.e L.sc L.pos)=true:=rfl
 obtain⟨tA,PA,qA,al⟩:=zI pl s3 he
 obtain⟨ea,er,eq⟩:=vy (l:=es++[.Lambda L.la L.e L.sc L.pos]) C2
 rw [eq] at PA al ⊢
 rw [fQ,aP] at al
 refine⟨_,qKz (CX:=fO) (E:=E0) hF g.room (g.gl f hg) hm hkp hb (λ_ _ _ _ _ _ z=>z.elim) (λok p' hp=>?_) (λy b e=>?_) hL.fn hd (cF al.1) (kh al.2) PA,λGe H F Z τ r Q hr hs kk=>?_⟩
 ·rcases zZ X.env _ _ p' hp with z|⟨z1,z2⟩
  ·cases z
  ·obtain⟨c,hc⟩:=nG ok T _ z1 rfl
   have hc:X.env.cells.lookup p'.1=some c:=hc
   rw [z2,hc];rfl
 ·rcases uw X.env _ _ y b e with z|⟨z1,z2⟩
  ·cases z
  ·exact T y z1
 ·rw [qLc] at hr
  obtain⟨xs,ex,hr⟩:=ah hr
  obtain⟨ds,ek,hr⟩:=ah hr
  obtain⟨r',ec,hr⟩:=ah hr
  unfold oH at hr
  split at hr
  ·rename_i nc
   cases hr
   refine qA Ge H F Z τ xs _ ex hs λvs0 H2 F2' g2' rd0=>?_
   have s2:=hs.grow g2'
   have hP:H2 L.P=some (.tab L.pos L.q):=s2.tbH (L.P,L.pos,L.q) (yaO.mpr ⟨(j,L),uA hj,rfl⟩)
   refine⟨by rw [hL.q];exact hP,λfa c oc fvs tk ctv H3 sub fresh hfa hca hod hov new cs ok=>?_⟩
   rw [hL.q] at hfa hov
   obtain⟨vs,v1s,v2s,v3s⟩:=yC s2 ek
   have g3:Gr H2 F2' H3 F2':=⟨sub,λ_ h=>h,λ_ h=>.inl h,λb e=>s2.dom b (by
    cases z:H2 b with
    | none=>rfl
    | some o=>rw [sub b o z] at e;cases e)⟩
   have non:∀a o,cs.lookup a=some o->H3 a=none:=ok.non
   have g4:=wR (F:=F2') g3.dom non
   obtain⟨kl,kg⟩:=lL hk
   have CI:du (cg H3 cs) cs:=λa o e=>iR e
   have clo:RD X.K (cg H3 cs) F2' (.obj ⟨CL+j,[]⟩ ds) (.ref fa):=by
    refine⟨fa,vs,rfl,?_,RDs.mono (g3.trans g4).keep v1s⟩
    unfold ObjR
    rw [Ql (show CL<=CL+j from Nat.le_add_right _ _)]
    refine⟨rfl,L,_,_,ctv,c,_,oc,_,fvs,tk,cs,by rw [gB];exact hj,g4.same _ _ hfa,g4.same _ _ hca.choose_spec,hod,hov,ok.cell,CI,ok.has,ok.inj,λy hy=>nJ X.env _ [] y (.inl (dF hy)),v2s.trans kl,λm y v e3 e4=>?_⟩
    obtain⟨jm,k1,k2⟩:=kg m y e3
    obtain⟨v',w1,w2⟩:=v3s m jm k1
    rw [e4] at w1
    cases w1
    obtain⟨b,hb'⟩:=nJ X.env L.sc.names [] y (.inl (free_mem.mp (cm e3)))
    obtain⟨o,u,o1,o2,o3⟩:=ok.val jm y v b (by rw [g.hN];exact (ly k2).2.1) w2 (g.vis y (ly k2).2.2) hb'
    exact⟨b,o,u,hb',o1,o2,o3⟩
   refine⟨by have:=hl _ _ ec;rw [aU] at this ⊢;rw [RDs.length rd0];exact this,F2',xs++[.obj ⟨CL+j,[]⟩ ds],_,s2.tbH.same (g3.trans g4).same,g4.dom,RGs.of (RDs.append (RDs.mono (g3.trans g4).keep rd0) ⟨.ref fa,[],rfl,clo,rfl⟩),ec,λv H' F' g5 rr5 CI'=>?_⟩
   have g6:=qQZ g3.dom non CI' g5
   exact kk v (bS H' cs) F' ((g2'.trans g3).trans g6) ((qPN non CI' nc rr5).back (g2'.trans g3).same)
  ·cases hr
end
end Dw
namespace Dw
open PySem PySem.Spec PyProof.Rows L2
section
variable {call:Nat->List D->Option R}{G:Gx}{k:Nat}{X:Cx}{sc sc':Scope}{N:List Str}{ks:List Nat}
structure Off (X:Cx) (pins:List CA) (H:Hp) (C:Addr) (h:Heap):Prop where
 n:H C=none
 ne:C≠X.env.locals
 ab:X.s₀.heap.objs.size<=C
 cl:∀x c,X.env.cells.lookup x=some c->c≠C
 pn:∀p∈X.pn++pins,p.1≠C
 ns:∃m,h.Ns C m
theorem Off.let {s:Shared}{C:Addr}{h':Heap}(o:Off X pins H C s.heap) (I:Inv X pins τ H s) (hs:Heap.SameBut C s.heap h'):Inv X pins τ H { s with heap:=h' }:=
 I.turned (t':=s.toks) (λb ob hb e=>hs.extBut b ob hb e) o.n o.ne (.inr o.ab) o.cl o.pn
theorem Bf {K:Qb}{Ge:Gp}{H:Hp}{F:Fz}{Q:L2.St->Hp->Prop}{Z0:En}:∀{is:List Nat}{ds:List D}{vs:List V}{Z Z':En}{τ:L2.St},SR K Ge H F Z τ->SR K Ge H F Z0 τ->fJ Z is ds=some Z'->RDs K H F ds vs->(∀i∈is,ao Z0 i=none)->(∀τ',SR K Ge H F Z' τ'->SR K Ge H F Z0 τ'->(∀j,ao Z0 j≠none->τ'[j]?=τ[j]?)->Q τ' H)->gL is vs τ H Q
 | [],ds,vs,Z,Z',τ,s,s0,hb,hv,hn,h=>by
  cases ds with
  | nil=>cases hb;have hv:vs=[]:=hv;exact⟨hv,h _ s s0 λ_ _=>rfl⟩
  | cons d r=>cases hb
 | i::is,ds,vs,Z,Z',τ,s,s0,hb,hv,hn,h=>by
  cases ds with
  | nil=>cases hb
  | cons d r =>
   obtain⟨v,w,rfl,h1,h2⟩:=hv
   have n1:=hn i bq
   exact⟨v,w,rfl,Bf (s.bind h1) (s0.skip n1) hb h2 (λj hj=>hn j (bK _ hj)) fun τ' q1 q2 q3=>h τ' q1 q2 λj hj=>(q3 j hj).trans (ck λz:i=j=>hj (by rw [<-z];exact n1))⟩
theorem qJY {K:Qb}{Ge:Gp}{H:Hp}{F:Fz}{Z Z':En}{τ:L2.St}{t:Tg}{d:D}{v:V}(s:SR K Ge H F Z τ) (hb:di Z t d=some Z') (hv:RD K H F d v)
  (hn:∀i,(t=.one i∨(∃j,t=.two i j∨t=.two j i)∨∃is,t=.many is/\i∈is)->ao Z i=none):nN K t v τ H fun τ' H'=>H'=H/\SR K Ge H F Z' τ'/\SR K Ge H F Z τ'/\∀j,ao Z j≠none->τ'[j]?=τ[j]?:=by
 cases t with
 | one i =>
  cases hb
  have n1:=hn i (.inl rfl)
  exact⟨rfl,s.bind hv,s.skip n1,λj hj=>ck λz:i=j=>hj (by rw [<-z];exact n1)⟩
 | two i j =>
  unfold di at hb
  split at hb
  ·rename_i heq;cases heq
  ·rename_i i' j' x y heq
   cases heq
   cases hb
   obtain⟨a,vs,rfl,hs,hr⟩:=hv
   obtain⟨v1,r,rfl,h1,w,r2,e2,h2,h3⟩:=hr
   have h3:r2=[]:=h3
   subst h3
   subst e2
   have n1:=hn i (.inr (.inl ⟨j,.inl rfl⟩))
   have n2:=hn j (.inr (.inl ⟨i,.inr rfl⟩))
   exact⟨a,[v1,w],rfl,hs,rfl,v1,[w],rfl,w,[],rfl,rfl,rfl,(s.bind h1).bind h2,(s.skip n1).skip n2,λq hq=>by
    rw [ck λz:j=q=>hq (by rw [<-z];exact n2),ck λz:i=q=>hq (by rw [<-z];exact n1)]⟩
  ·rename_i heq;cases heq
  ·cases hb
 | many is =>
  unfold di at hb
  split at hb
  ·rename_i heq;cases heq
  ·rename_i heq;cases heq
  ·rename_i is' ds heq
   cases heq
   obtain⟨a,vs,rfl,hs,hr⟩:=hv
   exact⟨a,vs,rfl,hs,by rw [RDs.length hr];exact ki hb,Bf s s hb hr (λi hi=>hn i (.inr (.inr ⟨_,rfl,hi⟩))) fun τ' s1 s2 s3=>⟨rfl,s1,s2,s3⟩⟩
  ·cases hb
noncomputable def nL (oc:Option (Expr×C)):List Expr:=oc.elim [] λp=>[p.1]
variable (call) in
def wI (oc:Option (Expr×C)) (Z:En):Option R:=oc.elim (some (false,.bl true)) λp=>aa call Z p.2
variable (call) in
def jL (oc:Option (Expr×C)) (e:C) (Z:En) (tg:Tg) (its:List D):Option (List D):=oc.elim (cK call e Z tg its) λp=>iE call p.2 e Z tg its
theorem qLd {oc:Option (Expr×C)}{e:C}{Z:En}{tg:Tg}:jL call oc e Z tg []=some []:=by cases oc<;>rfl
theorem qI6 {oc:Option (Expr×C)}{e:C}{Z:En}{tg:Tg}{x:D}{r:List D}:jL call oc e Z tg (x::r)=(di Z tg x).bind fun Z1=>(wI call oc Z1).bind (rS ((aa call Z1 e).bind λy=>(jL call oc e Z tg r).bind λys=>some (y.2::ys)) (jL call oc e Z tg r)):=by cases oc<;>rfl
def qQ (prog:Program) (w:World) (A:Around) (env:Env) (oc:Option (Expr×C)) (P:Bool->Shared->Prop) (E:Value->Shared->Prop) (s:Shared):Prop:=oc.elim (P true s) λp=>wpAny AT A (isTrue p.1 env (eval p.1 env)) P E s
theorem qPf {oc:Option (Expr×C)}{pn:List CA}{τ:L2.St}{H:Hp}{s:Shared}{Ge:Gp}{F:Fz}{Z:En}{x b:Bool}{P:Bool->Shared->Prop}{E:Value->Shared->Prop}(I:Inv X pn τ H s) (sn:∀p,oc=some p->dH call X p.1 p.2) (h:wI call oc Z=some (x,.bl b)) (r:SR X.K Ge H F Z τ) (ex:X.xe=λ_ _=>False)
  (f:∀s' H' F',Inv X pn τ H' s'->Gr H F H' F'->P b s'):qQ X.prog X.w X.A X.env oc P E s:=by
 cases oc with
 | none=>cases h;exact f s H F I (.refl r.dom)
 | some p =>
  obtain⟨tt,pt,qt⟩:=sn p rfl
  have q:=pt pn s τ H (λc H'=>∃F',Gr H F H' F'/\c=b) I (qt Ge H F Z τ x b _ h r λH' F' g=>⟨F',g,rfl⟩)
  rw [ex] at q
  exact Qe q (λc s' ⟨H',I',F',g,e⟩=>e▸f s' H' F' I' g) λ_ _ z=>z.elim
theorem qKZ {prog:Program}{w:World}{A:Around}{elt tg iter:Expr}{oc:Option (Expr×C)}{sc:Scope}{pos:Pos}{it acc:Value}{env:Env}{s:Shared}{Rs:Result->Shared->Prop}(J:Nat->Shared->Prop) {E:Value->Shared->Prop}(hE:E=notedBy AT A env λe s'=>Rs (.error e) s')
  (turn:∀n s,J n s->wpAny AT A (pyNext it) (λr s1=>match r with
   | none=>Rs (.ok .next) s1
   | some v=>wpAny AT A (letOwnedTupleGo tg it v) (λ_ s0=>wpAny AT A (assign tg env v) (λ_ s2=>qQ prog w A env oc (λok s3=>if ok=true then wpAny AT A (eval elt env) (λx s4=>wpAny AT A (PySem.call (.builtin "list.append") [acc,x]) (λ_ s5=>∃m,m<n/\J m s5) E s4) E s3 else ∃m,m<n/\J m s3) E s2) E s0) E s1) E s)
  (n:Nat) (h:J n s):codeAny AT A (.compLoop (.ListComp elt [⟨tg,iter,nL oc,0⟩] sc pos) 0 it acc env) Rs s:=by
 subst hE
 cases oc with
 | none=>exact PySem.W.kcp_loop J turn n h
 | some p=>exact PySem.W.kct_loop J turn n h
structure CoW (call:Nat->List D->Option R) (G:Gx) (k:Nat) (X:Cx) (sc sc':Scope) (N:List Str) (elt tg iter:Expr) (oc:Option (Expr×C)) (t:Tg) (ks:List Nat) (ce:C) (b:Bool) (src:En->Option (List D)):Prop where
 S:ScOk sc'
 ht:fB sc' CQ tg=some t
 hk:cI (iu sc N) (aF sc')=some ks
 he:∀X':Cx,XG call G k X' sc' CQ->SndE call X' elt ce
 nM:∀p,oc=some p->∀X':Cx,XG call G k X' sc' CQ->dH call X' p.1 p.2
 hi:ow X tg iter b src
 hf:∀x,foldedSetIterable iter X.env x=pure x
inductive CoI (call:Nat->List D->Option R) (G:Gx) (k:Nat) (X:Cx) (sc sc':Scope) (N:List Str) (elt:Expr) (gens:List Comprehension) (c:C):Prop
 | mk (tg iter:Expr) (oc:Option (Expr×C)) (t:Tg) (ks:List Nat) (ce:C) (b:Bool) (src:En->Option (List D)) (e:gens=[⟨tg,iter,nL oc,0⟩]) (w:CoW call G k X sc sc' N elt tg iter oc t ks ce b src)
   (hc:∀Z r,aa call Z c=some r->∃its ys,src Z=some its/\jL call oc ce (br Z (aN sc').length ks) t its=some ys/\r=(true,.lst ys)/\((b=true->its.length<=lim)->its.length<=lim)) (nv:∀i,c≠.v i)
inductive LI (call:Nat->List D->Option R) (X X':Cx) (pins:List CA) (tn:Nat->Heap->Prop) (fp:List Addr) (H2:Hp) (F2:Fz) (Da:Addr) (its ys:List D) (oc:Option (Expr×C)) (ce:C) (t:Tg) (Z:En) (Gh:Gp) (n:Nat) (s:Shared):Prop
 | mk (i:Nat) (τ:L2.St) (H:Hp) (F:Fz) (zs:List V) (y1 y2:List D) (I:Inv X' (X.pn++pins) τ H s) (st:tn i s.heap) (fr:∀c∈fp,H c=none) (gr:Gr H2 F2 H F) (hd:H Da=some (.lst zs)) (nf:¬F Da) (rd:RDs X.K H F y1 zs) (hi:i<=its.length) (hn:n=its.length - i) (he:jL call oc ce Z t (its.drop i)=some y2) (hy:ys=y1++y2) (hz:zs.length<=i) (sr:SR X.K ⟨Gh.h,none,Gh.tb⟩ H F Z τ)
  (nD:∀j d a,ao Z j=some (true,d)->τ[j]?=some (some (.ref a))->a≠Da)
theorem Aa (g:XG call G k X sc N) {elt tg iter:Expr}{oc:Option (Expr×C)}{t:Tg}{ce:C}{b:Bool}{src:En->Option (List D)}{pos p':Pos}(w:CoW call G k X sc sc' N elt tg iter oc t ks ce b src)
  (I:Inv X pins τ H s) (hS:SR X.K Ge H F Z τ) (hsrc:src Z=some its) (hev:jL call oc ce (br Z (aN sc').length ks) t its=some ys) (hlen:(b=true->its.length<=lim)->its.length<=lim)
  (hend:∀(D C:Addr) (H':Hp) (F':Fz) (s':Shared),Gr H F H' F'->RR X.K H H' F' (true,.lst ys) (.ref D)->Inv X pins τ H' s'->Off X pins H' C s'.heap->compPost C0 X.A X.xe use Qv (.ref D) C (.ok .next) s') :
  wpAny C0 X.A (comprehension (.ListComp elt [⟨tg,iter,nL oc,0⟩] sc' pos) sc' X.env p' (newList []) false (eval iter X.env) use) Qv X.xe s:=by
 obtain⟨S,ht,hk,he,nM,hi,hfs⟩:=w
 have T:=Ap g hk
 have hcl:=nG I.ok T
 refine wpAny_comprehension_free (use:=use) rfl hfs (yn sc' X.env hcl) S.kind (λx hx e=>by obtain⟨n,kk⟩:=x;have e:kk=.local:=e;subst e;exact nF S.nd hx) ?_
 obtain⟨wi,pi,qi⟩:=hi
 refine aC (pi pins s τ H (λJ H'=>∃F',Gr H F H' F'/\oY X.K J H' F' its/\its.length<=lim) I (qi Ge H F Z τ its _ hsrc hS λJ H' F' g1 ok hl=>⟨F',g1,ok,hlen hl⟩)) λv s1 h1=>aC h1 λitv s2 h2=>?_
 obtain⟨it,fp,tn,J,H2,rfl,I2,Tn,st2,f2,F2,g2,ok2,hl2⟩:=h2
 refine wpAny_newObj_type (wpAny_newFunctionEnv S.cell (by intro y hy;simp at hy) (λh3 hns hsb=>?_) S.kind)
 dsimp only at hns hsb ⊢
 have hD:H2 s2.heap.objs.size=none:=I2.hok.fresh (au _)
 generalize hDe:s2.heap.objs.size=Da at hns hsb hD ⊢
 have hD0:H Da=none:=g2.same.free hD
 have lt2:∀{c:Addr} {o:Obj},s2.heap.get? c=some o->c<Da:=λe=>by rw [<-hDe];exact Qi e
 have I3:Inv X pins τ (aB H2 Da CG) { s2 with heap:=s2.heap.push { cls:=.type "list",dict:=none,data:=.seq ([]:List Value).toArray } }:=by
  subst hDe
  exact I2.laid (t':=s2.toks) (λc u e=>Qg _ e) (au _) ⟨fP _,[],0,.nil,Qh _ rfl⟩
 generalize hHp:s2.heap.push { cls:=.type "list",dict:=none,data:=.seq ([]:List Value).toArray }=hp at hns hsb I3 ⊢
 have hCs:hp.objs.size=Da+1:=by rw [<-hHp,Heap.size_push,hDe]
 have kp:∀c o,hp.get? c=some o->h3.get? c=some o:=λc o e=>hsb.extBut c o (bV (Qi e)) (Qg _ e)
 have lfp:∀c∈fp,c<Da:=λc hc=>by obtain⟨o,e,_⟩:=Tn.obj _ _ st2 c hc;exact lt2 e
 have f3:∀c∈fp,d6 X pins (aB H2 Da CG) c:=λc hc=>⟨by rw [aD (bV (lfp c hc))];exact (f2 c hc).1,(f2 c hc).2⟩
 have lf3:∀c∈fp,c<({ s2 with heap:=hp }:Shared).heap.objs.size:=λc hc=>by show c<hp.objs.size;rw [hCs];exact Nat.lt_succ_of_lt (lfp c hc)
 obtain⟨kl,kg⟩:=lL hk
 have I4:Inv (lD X sc' CQ hp.objs.size { s2 with heap:=hp } (aB H2 Da CG) fp) (X.pn++pins) (ir τ (aN sc').length ks) (aB H2 Da CG) { s2 with heap:=h3,toks:=s2.toks+([]:List (Str×Value)).length }:=by
  refine qLi (N':=aN sc'++aF sc') I3 S T f3 lf3 kp hns _ (by rw [qJ0,aU,kl]) (λi x v e1 e2=>?_) (qO3 g hk)
  obtain⟨m,j,rfl,q1,q2⟩:=qJ1 e2
  rw [gU AC] at e1
  have e1':(aF sc')[m]?=some x:=by rw [<-e1];congr 1;omega
  obtain⟨j',r1,r2⟩:=kg m x e1'
  rw [q1] at r1
  cases r1
  exact⟨free_mem.mp (cm e1'),j,by rw [g.hN];exact (ly r2).2.1,q2⟩
 have g':XG call G k (lD X sc' CQ hp.objs.size { s2 with heap:=hp } (aB H2 Da CG) fp) sc' CQ:=qSW g S
 have se:=he _ g'
 have sn:=λp e=>nM p e _ g'
 have pg:=tD g' ht
 have tow:=qM1 (ks:=ks) S ht Z
 generalize hX':lD X sc' CQ hp.objs.size { s2 with heap:=hp } (aB H2 Da CG) fp=X' at I4 g' se sn pg
 have eP:X'.prog=X.prog:=by rw [<-hX'];rfl
 have ew:X'.w=X.w:=by rw [<-hX'];rfl
 have eK:X'.K=X.K:=by rw [<-hX'];rfl
 have eA:X'.A=X.A:=by rw [<-hX'];rfl
 have eE:X'.env=compEnvC sc' (eS X.env sc'.names []) hp.objs.size X.env:=by rw [<-hX'];rfl
 have ex:X'.xe=λ_ _=>False:=g'.xe
 have fpX:∀{H':Hp},(∀c∈fp,H' c=none)->∀c∈fp,d6 X' (X.pn++pins) H' c:=λ{H'} hn c hc=>by
  obtain⟨a0,a1,a2,a3,a4,a5⟩:=f3 c hc
  rw [<-hX']
  refine⟨hn c hc,bV (lf3 c hc),λhs=>?_,.inl hc,λx cc e=>a4 x cc (jU hcl e),λp hp=>a5 p hp⟩
  rcases yag.mp (I3.stkSub c hs) with z|z
  ·exact a1 z
  ·exact a2 z
 have loop:codeAny C0 X.A (.compLoop (.ListComp elt [⟨tg,iter,nL oc,0⟩] sc' pos) 0 (.ref it) (.ref Da) (compEnvC sc' (eS X.env sc'.names []) hp.objs.size X.env)) (compPost C0 X.A X.xe use Qv (.ref Da) hp.objs.size) { s2 with heap:=h3,toks:=s2.toks+([]:List (Str×Value)).length }:=by
  refine qKZ (LI call X X' pins tn fp H2 F2 Da its ys oc ce t (br Z (aN sc').length ks) Ge) rfl ?_ its.length ?_
  ·rintro n s' ⟨i,τ',H',F',zs,y1,y2,I',st',fr',gr',hd',nf',rd',hi,rfl,hev',hyy,hzl,sr',nD'⟩
   have hx':∀{α:Type} {tr:Sem α} {Q1:α->Shared->Prop} {E1:Value->Shared->Prop} {s0:Shared},wpAny (model X'.prog X'.w) X'.A tr Q1 X'.xe s0->wpAny C0 X.A tr Q1 E1 s0:=λ{α tr Q1 E1 s0} h=>by
    rw [eP,ew,eA,ex] at h
    exact Qe h (λ_ _ z=>z) λ_ _ z=>z.elim
   have kd:Keep H2 F2 H' F':=gr'.keep
   obtain⟨okI,okS⟩:=ok2 H' F' gr'
   by_cases hlt:i<its.length
   ·have hdi:its[i]?=some its[i]:=cN hlt
    obtain⟨go,yl⟩:=okI i _ hdi
    have hdr:its.drop i=its[i]::its.drop (i+1):=jH hlt
    rw [hdr,qI6] at hev'
    obtain⟨Z1,b1,hev'⟩:=ah hev'
    obtain⟨⟨x0,d0⟩,b0,hev'⟩:=ah hev'
    have ti:=Tn.item X' eP ew eK g'.calm i (X.pn++pins) s' τ' H' (notedBy C0 X.A (compEnvC sc' (eS X.env sc'.names []) hp.objs.size X.env) λe s'=>compPost C0 X.A X.xe use Qv (.ref Da) hp.objs.size (.error e) s') I' (fpX fr') st' go
    rw [eA] at ti
    refine aC ti λr s4 ⟨u,hr,h4⟩=>?_
    subst hr
    refine aC h4 λ_ s5 ⟨x,H5,I5,r5,y5,st5,fr5⟩=>?_
    obtain⟨F5,g5,rd5⟩:=yl x H5 y5
    have I5':=I5.pinned (fpX fr5) (Tn.obj _ _ st5)
    have sr5:=sr'.grow g5
    rw [<-eE]
    have a6:=pg _ s5 τ' H5 x u (fun τ6 H6=>H6=H5/\SR X.K ⟨Ge.h,none,Ge.tb⟩ H5 F5 Z1 τ6/\SR X.K ⟨Ge.h,none,Ge.tb⟩ H5 F5 (br Z (aN sc').length ks) τ6/\∀j,ao (br Z (aN sc').length ks) j≠none->τ6[j]?=τ'[j]?) I5' r5 (by
     rw [eK]
     exact qJY sr5 b1 rd5 tow)
    refine hx' (aC a6 λ_ s6 ⟨τ6,H6,I6,e6,sr6,sc6,sm6⟩=>?_)
    subst e6
    obtain⟨b00,rfl⟩:∃b00,d0=.bl b00:=by cases d0<;>first|exact⟨_,rfl⟩|cases hev'
    have tx:∀{P:Bool->Shared->Prop} {E:Value->Shared->Prop},qQ X'.prog X'.w X'.A X'.env oc P E s6->qQ X.prog X.w X.A X'.env oc P E s6:=by rw [eP,ew,eA];exact λh=>h
    refine tx (qPf I6 sn b0 (by rw [eK];exact sr6) g'.xe λs6b H6b F6b I6b g6b=>?_)
    have hd6:H6b Da=some (.lst zs):=g6b.same _ _ (g5.same _ _ hd')
    have g56:Gr H' F' H6b F6b:=g5.trans g6b
    have nf6:¬F6b Da:=λz=>by
     rcases g56.new Da z with q|q
     ·exact nf' q
     ·rw [hd'] at q;cases q
    cases b00 with
    | false =>
     rw [Qm At]
     refine⟨its.length - (i+1),by omega,i+1,τ6,H6b,F6b,zs,y1,y2,I6b.unpinned,?_,?_,gr'.trans g56,hd6,nf6,RDs.mono g56.keep rd',hlt,rfl,hev',hyy,by omega,sc6.grow g6b,λj d a h1 h2=>?_⟩
     ·exact Tn.keep _ _ _ st5 λc hc o e=>(I6b.pin (c,o) (dg _ (dg _ (lK hc e)))).1
     ·intro c hc
      obtain⟨o,e,d⟩:=Tn.obj _ _ st5 c hc
      exact (I6b.pin (c,o) (dg _ (dg _ (lK hc e)))).2.1
     ·exact nD' j d a h1 (by rw [<-sm6 j (by rw [h1];simp)];exact h2)
    | true =>
    rw [Ql rfl]
    obtain⟨y,b2,hev'⟩:=ah hev'
    obtain⟨ys',b3,hev'⟩:=ah hev'
    have hys:y2=y.2::ys':=(gw hev').symm
    replace sr6:=sr6.grow g6b
    replace sc6:=sc6.grow g6b
    replace I6:=I6b
    replace hd':=hd6
    replace g5:=g56
    clear hd6 g56
    obtain⟨te,pe,qe⟩:=se
    have a7:=pe _ s6b τ6 H6b (λv H7=>∃F7,Gr H6b F6b H7 F7/\RR X.K H6b H7 F7 y v) I6 (qe ⟨Ge.h,none,Ge.tb⟩ H6b F6b Z1 τ6 y _ b2 (by rw [eK];exact sr6) λv H7 F7 g7 rr=>⟨F7,g7,by rw [<-eK];exact rr⟩)
    refine hx' (aC a7 λvv s7 ⟨v,H7,I7,r7,F7,g7,rr7⟩=>?_)
    obtain⟨F8,g8,rd8⟩:=rr7.fz g7
    have hd7:H7 Da=some (.lst zs):=g7.same _ _ hd'
    have nf8:¬F8 Da:=λz=>by
     rcases g8.new Da z with q|q
     ·exact nf6 q
     ·rw [hd'] at q;cases q
    have a8:=Ay (X:=X') _ s7 τ6 H7 (.ref Da) [v] (.ref Da) [vv] (λ_ H9=>H9=aB H7 Da (.lst (zs++[v]))) I7 rfl (.cons r7 .nil) ⟨Da,zs,v,rfl,rfl,hd7,bO AC hl2,rfl⟩
    refine hx' (aC a8 λ_ s9 ⟨_,H9,I9,_,e9⟩=>?_)
    subst e9
    have k8:Keep H7 F8 (aB H7 Da (.lst (zs++[v]))) F8:=⟨λp xs h=>by
     have ne:p≠Da:=λz=>by
      subst z
      rcases h with h|⟨o,h⟩<;>(rw [hd7] at h;cases h)
     rcases h with h|⟨o,h⟩
     ·exact .inl (by rw [aD ne];exact h)
     ·exact .inr ⟨o,by rw [aD ne];exact h⟩,λp xs f h=>by
     have ne:p≠Da:=λz=>by subst z;exact nf8 f
     refine⟨f,?_⟩
     rcases h with h|⟨o,h⟩
     ·exact .inl (by rw [aD ne];exact h)
     ·exact .inr ⟨o,by rw [aD ne];exact h⟩,λp C dx fs h=>by rw [aD (λz=>by subst z;rw [hd7] at h;cases h)];exact h,λp o u h=>by rw [aD (λz=>by subst z;rw [hd7] at h;cases h)];exact h⟩
    have g58:Gr H' F' H7 F8:=g5.trans g8
    have gall:Gr H2 F2 (aB H7 Da (.lst (zs++[v]))) F8:=by
     have gg:=gr'.trans g58
     refine⟨λc o e=>?_,gg.sub,gg.new,λc e=>?_⟩
     ·rw [aD (cG e hD)];exact gg.same c o e
     ·by_cases z:c=Da
      ·subst z;rw [dX] at e;cases e
      ·rw [aD z] at e;exact gg.dom c e
    refine⟨its.length - (i+1),by omega,i+1,τ6,aB H7 Da (.lst (zs++[v])),F8,zs++[v],y1++[y.2],ys',I9.unpinned,?_,?_,gall,dX,nf8,?_,hlt,rfl,b3,(by rw [hyy,hys,bE];rfl),(by simp;omega),?_,λj d a h1 h2=>?_⟩
    ·exact Tn.keep _ _ _ st5 λc hc o e=>(I9.pin (c,o) (dg _ (dg _ (lK hc e)))).1
    ·intro c hc
     obtain⟨o,e,d⟩:=Tn.obj _ _ st5 c hc
     exact (I9.pin (c,o) (dg _ (dg _ (lK hc e)))).2.1
    ·exact RDs.append (RDs.mono (g58.keep.trans k8) rd') ⟨v,[],rfl,RD.mono k8 rd8,rfl⟩
    ·have sc8:=sc6.grow g8
     refine sc8.keep k8 ?_ gall.dom (λj d hj hd=>?_) (λj m ks' hj=>?_) (λp d hp=>nomatch hp)
     ·intro c o e
      have h7:=sc8.ent c o e
      have:c≠Da:=λz=>by
       subst z
       have:=hS.ent c o e
       rw [hD0] at this
       cases this
      rw [aD this];exact h7
     ·obtain⟨a,ds,vs,q1,q2,q3,q4,q5,q6⟩:=sc8.own j d hj hd
      have ne:a≠Da:=nD' j d a hj (by rw [<-sm6 j (by rw [hj];simp)];exact q2)
      exact⟨a,ds,vs,q1,q2,q3,q4,by rw [aD ne];exact q5,RDs.mono k8 q6⟩
     ·obtain⟨a,q1,q2,q3,q4⟩:=sc8.dct j m ks' hj
      have ne:a≠Da:=nD' j _ a hj (by rw [<-sm6 j (by rw [hj];simp)];exact q1)
      exact⟨a,q1,q2,by rw [aD ne];exact q3,q4⟩
    ·exact nD' j d a h1 (by rw [<-sm6 j (by rw [h1];simp)];exact h2)
   ·have hin:i=its.length:=by omega
    subst hin
    have td:=Tn.done X' eP ew eK g'.calm its.length (X.pn++pins) s' τ' H' (notedBy C0 X.A (compEnvC sc' (eS X.env sc'.names []) hp.objs.size X.env) λe s'=>compPost C0 X.A X.xe use Qv (.ref Da) hp.objs.size (.error e) s') I' (fpX fr') st' okS
    rw [eA] at td
    refine aC td λr s4 ⟨hr,I4'⟩=>?_
    subst hr
    rw [List.drop_of_length_le (au _),qLd] at hev'
    have hyl:y2=[]:=(gw hev').symm
    subst hyl
    rw [bR] at hyy
    subst hyy
    have Ib:=I4'.base
    rw [<-hX'] at Ib
    have Io:Inv X pins τ H' s4:=by
     refine I3.call' (ch:=fp) (by have:=I4'.os;rw [<-hX'] at this;exact this) Ib (by have:=I4'.hok;rw [eP,ew] at this;exact this) I4'.bare λc hc=>?_
     obtain⟨a0,a1,a2,a3,a4,a5⟩:=f3 c hc
     exact⟨a3,a1,a4,a5⟩
    refine hend Da hp.objs.size H' F' s4 (g2.trans gr') ⟨Da,ys,zs,rfl,rfl,hD0,nf',hd',rd'⟩ Io ⟨?_,iL I3.lt,I3.sz,λx c e=>?_,λp hp=>?_,?_⟩
    ·have:=I4'.free
     rw [eE] at this
     exact this
    ·obtain⟨v,q⟩:=I3.cell x c e
     exact bV q.lt
    ·exact bV (Qi (I3.pin p hp).1)
    ·obtain⟨m,hm,_⟩:=I4'.loc
     rw [eE] at hm
     exact⟨m,hm⟩
  ·refine⟨0,ir τ (aN sc').length ks,aB H2 Da CG,F2,[],[],ys,I4,?_,λc hc=>(f3 c hc).1,Gr.laid g2.dom hD,dX,g2.dom Da hD,rfl,fP _,rfl,by simpa using hev,rfl,au _,?_,λj d a h1 h2=>?_⟩
   ·exact Tn.keep _ _ _ st2 λc hc o e=>kp c o (by rw [<-hHp];exact Qg _ e)
   ·exact qKe S hk _ (hS.grow (g2.trans (Gr.laid g2.dom hD)))
   ·obtain⟨m,j',rfl,q1,q2⟩:=j8 h1
    obtain⟨a',u',p2,_,p5⟩:=hS.addr q2
    rw [lG q1 p2] at h2
    cases h2
    exact cG p5 hD0
 exact codeAny_compStart_list loop (Tn.self _ 0 _ _ _ (Tn.keep _ _ _ st2 λc hc o e=>kp c o (by rw [<-hHp];exact Qg _ e)) loop)
end
end Dw
namespace Dw
open PySem PySem.Spec PyProof.Rows L2
section
variable {call:Nat->List D->Option R}{G:Gx}{k:Nat}{X:Cx}{sc sc':Scope}{N:List Str}{ks:List Nat}
theorem qKk (g:XG call G k X sc N) {elt:Expr}{gens:List Comprehension}{c:C}{pos:Pos}(q:CoI call G k X sc sc' N elt gens c):SndE call X (.ListComp elt gens sc' pos) c:=by
 obtain⟨tg,iter,oc,t,ks,ce,b,src,rfl,w,hc,nv⟩:=q
 refine⟨fun τ H Q=>∃Ge F Z r,aa call Z c=some r/\SR X.K Ge H F Z τ/\∀v H' F',Gr H F H' F'->RR X.K H H' F' r v->Q v H',λpins s τ H Q I ⟨Ge,F,Z,r,h1,h2,h3⟩=>?_,λGe H F Z τ r Q h1 h2 h3=>⟨Ge,F,Z,r,h1,h2,h3⟩⟩
 obtain⟨its,ys,e1,e2,rfl,e4⟩:=hc Z r h1
 rw [eval_ListComp]
 refine Aa g w (use:=none) I h2 e1 e2 e4 λDa C H' F' s' gr rr I' o=>?_
 obtain⟨m,hm⟩:=o.ns
 exact⟨m,hm,λh' hs=>⟨.ref Da,H',o.let I' hs,rfl,h3 _ H' F' gr rr⟩⟩
theorem qLE (g:XG call G k X sc N) {elt:Expr}{gens:List Comprehension}{c:C}{pos py spos:Pos}{x:Str}{i:Nat}(q:CoI call G k X sc sc' N elt gens c)
  (hx:(sc.names.lookup x == some .local||sc.names.lookup x == some .cell)=true) (hsl:bQ N x=some i) (hsw:swapsWith (.ListComp elt gens sc' pos) (some (.Name x py)) spos.line X.env=pure true) :
  PS X (.Assign [.Name x py] (.ListComp elt gens sc' pos) spos) (λDn τ H=>∃Ge F Z r,aa call Z c=some r/\SR X.K Ge H F Z τ/\∀v H' F',Gr H F H' F'->RR X.K H H' F' r v->Dn.nx (τ.set i (some v)) H'):=by
 obtain⟨tg,iter,oc,t,ks,ce,b,src,rfl,w,hc,nv⟩:=q
 intro pins s τ H Dn I ⟨Ge,F,Z,r,h1,h2,h3⟩
 obtain⟨its,ys,e1,e2,rfl,e4⟩:=hc Z r h1
 rw [exec_Assign_Name_used _ _ _ _ hsw]
 refine Qc (wpAny_standAt (Qc ?_))
 obtain⟨l1,l2⟩:=jZ g hx
 refine Qc (Aa g (p':=firstIterPos [⟨tg,iter,nL oc,0⟩] pos) w (use:=some (assign (.Name x py) X.env)) I h2 e1 e2 e4 λDa C H' F' s' gr rr I' o=>?_)
 have q:=h3 _ H' F' gr rr
 refine wpAny_assign_Name (AF (v:=.ref Da) I' (by rw [g.hN];exact g.nd) (by rw [g.hN];exact iJ hsl) l1 rfl (λs2 I2 hch=>?_) l2)
 obtain⟨m,hm⟩:=o.ns
 obtain⟨a,hsb,ha⟩:=hch
 have hCa:C≠a:=by
  rcases ha with e|e
  ·rw [e];exact o.ne
  ·exact (o.cl _ _ e).symm
 have o2:Off X pins H' C s2.heap:=⟨o.n,o.ne,o.ab,o.cl,o.pn,⟨m,hm.sameBut hsb hCa⟩⟩
 exact⟨m,hm.sameBut hsb hCa,λh' hs=>Qd (Qd ⟨_,H',o2.let I2 hs,q⟩)⟩
theorem oO {n:Nat}{e:Expr}{c:C}(h:cE G n sc N e=some c):qp e/\dP e=true/\(∀env x,foldedSetIterable e env x=pure x)/\∀op,behindInMarks op e=false:=by
 cases n with
 | zero=>cases h
 | succ n=>cases e<;>first|exact⟨λo i=>rfl,rfl,λ_ _=>rfl,λ_=>rfl⟩|(cases h;done)|(cases n<;>cases h)
theorem qKv {n:Nat}{e:Expr}{c:C}(h:cE G n sc N e=some c):qp e:=(oO h).1
theorem hX {n:Nat}{e:Expr}{c:C}(h:cE G n sc N e=some c):dP e=true:=(oO h).2.1
theorem tW {n:Nat}{e:Expr}{c:C}(h:cE G n sc N e=some c) (env:Env):∀x,foldedSetIterable e env x=pure x:=(oO h).2.2.1 env
theorem qOb {n:Nat}{e:Expr}{c:C}(h:cE G n sc N e=some c):∀op,behindInMarks op e=false:=(oO h).2.2.2
theorem qK2 {op:CmpOp}{b:Expr}{q:Bool×Const}(h:oB op b=some q):∃j p,b=.Constant q.2 j p/\op=if q.1 then .IsNot else .Is:=by
 cases b with
 | Constant c j p=>cases op<;>cases h<;>exact⟨j,p,rfl,rfl⟩
 | _=>cases h
theorem qKo {b:Expr}{q:Option Expr×Option Expr}(h:oQ b=some q):∃p,b=.Slice q.1 q.2 none p:=by
 cases b with
 | Slice lo hi st p=>cases st<;>cases h;exact⟨p,rfl⟩
 | _=>cases h
noncomputable def Bq:C->Bool
 | .v _=>true
 | _=>false
theorem iY {c:C}(h:Bq c=false) (i:Nat):c≠.v i:=by rintro rfl;cases h
structure Ok (call:Nat->List D->Option R) (X:Cx) (e:Expr) (c:C):Prop where
 he:SndE call X e c
 hp:eg call X e c
 ht:dH call X e c
 hg:oZ call X e c
 nv:(∃x p,e=.Name x p)∨∀i,c≠.v i
theorem Ok.of (h:SndE call X e c) (ht:dH call X e c) (hc:∀i,c≠.v i):Ok call X e c:=⟨h,h.look hc,ht,h.lend hc,.inr hc⟩
theorem gh {e:Expr}{c:C}(h:SndE call X e c) (t:∀whole,isTrue e X.env whole=(do let v <-whole;standAt e.pos;holding [v] (truthy v))) (hc:Bq c=false):Ok call X e c:=.of h (h.test t) (iY hc)
structure AllE (call:Nat->List D->Option R) (G:Gx) (k n:Nat):Prop where
 e:∀(X:Cx) (sc:Scope) (N:List Str) (e:Expr) (c:C),XG call G k X sc N->cE G n sc N e=some c->Ok call X e c
 f:∀(X:Cx) (sc:Scope) (N:List Str) (f:Str) (es:List Expr) (c:C) (p pos:Pos),XG call G k X sc N->bJ sc f=true->f6 f=true->oU G n sc N f es=some c->SndE call X (.Call (.Name f p) es [] pos) c/\∀i,c≠.v i
 a:∀(X:Cx) (sc:Scope) (N:List Str) (es:List Expr) (cs:List C),XG call G k X sc N->fM G n sc N es=some cs->jN call X es cs/\jo call X es cs/\es.all dP=true/\cs.length=es.length
 o:∀(X:Cx) (sc:Scope) (N:List Str) (e:Option Expr) (c:Option C),XG call G k X sc N->cO G n sc N e=some c->mM call X e c
 x:∀(X:Cx) (sc:Scope) (N:List Str) (e:Expr) (c:C),XG call G k X sc N->cX G n sc N e=some c->Ok call X e c/\∀i,c≠.v i
 ga:∀(X:Cx) (sc:Scope) (N:List Str) (es:List Expr) (cs:List C),XG call G k X sc N->fM G n sc N es=some cs->mR call X es cs
 w:∀(X:Cx) (sc:Scope) (N:List Str) (es:List Expr) (c:C),XG call G k X sc N->jO G n sc N es=some c->SndW call X .And es c
 v:∀(X:Cx) (sc:Scope) (N:List Str) (es:List Expr) (c:C),XG call G k X sc N->kr G n sc N es=some c->SndW call X .Or es c
theorem qLH:AllE call G k 0:=by
 constructor
 ·intro X sc N e c _ h;cases h
 ·intro X sc N f es c p pos _ _ _ h;cases h
 ·intro X sc N e c _ h;cases h
 ·intro X sc N e c _ h;cases h
 ·intro X sc N e c _ h;cases h
 ·intro X sc N e c _ h;cases h
 ·intro X sc N e c _ h;cases h
 ·intro X sc N e c _ h;cases h
inductive Srk (sc:Scope):Expr->Sr->Prop where
 | seq (e:Expr):Srk sc e (.seq e)
 | rng (x:Str) (p:Pos) (as:List Expr) (pos:Pos):bJ sc x=true->x=Qa "range"->(as.length=1∨as.length=2∨as.length=3)->Srk sc (.Call (.Name x p) as [] pos) (.rng as)
 | zip (x:Str) (p:Pos) (a b:Expr) (pos:Pos):bJ sc x=true->x=Qa "zip"->Srk sc (.Call (.Name x p) [a,b] [] pos) (.zip a b)
 | enm (x:Str) (p:Pos) (a:Expr) (pos:Pos):bJ sc x=true->x=Qa "enumerate"->Srk sc (.Call (.Name x p) [a] [] pos) (.enm a)
 | rev (x y:Str) (p p2:Pos) (a:Expr) (pos pos2:Pos):bJ sc x=true->x=Qa "reversed"->bJ sc y=true->y=Qa "range"->Srk sc (.Call (.Name x p) [.Call (.Name y p2) [a] [] pos2] [] pos) (.rev [a])
theorem wd (it:Expr):Srk sc it (jR sc it):=by
 unfold jR
 split
 ·rename_i f p as pos
  split
  ·rename_i h
   simp only [aP,eN,beq_iff_eq,or_assoc] at h
   exact .rng f p as pos h.1.1 h.1.2 h.2
  ·split
   ·rename_i h
    simp only [aP,beq_iff_eq] at h
    split
    ·exact .zip f p _ _ pos h.1 h.2
    ·exact .seq _
   ·split
    ·rename_i h
     simp only [aP,beq_iff_eq] at h
     split
     ·split
      ·rename_i h'
       simp only [aP,beq_iff_eq] at h'
       exact .rev f _ p _ _ pos _ h.1 h.2 h'.1 h'.2
      ·exact .seq _
     ·exact .seq _
    ·split
     ·rename_i h
      simp only [aP,beq_iff_eq] at h
      split
      ·exact .enm f p _ pos h.1 h.2
      ·exact .seq _
     ·exact .seq _
 ·exact .seq _
theorem tX (g:XG call G k X sc N) (hG:∀x∈cf,G.defs.lookup x=none) (h:x=Qa s) (hs:s∈["len","abs","min","max","sum","all","tuple","list","int","bool","str","isinstance","range","zip","reversed","sorted","enumerate","any"]):X.mg x=none:=g.blt x (hG x (hU h hs)) (hU h hs)
theorem zt (A:AllE call G k n) (g:XG call G k X sc N) (h:cE G n sc N it=some x):SndI X tg it true (fun Z=>(aa call Z x).bind λr=>bM r.2):=qNr (A.e X sc N it x g h).he
theorem qKd (A:AllE call G k n) (g:XG call G k X sc N) (h:cE G n sc N it=some x):ow X tg it true (fun Z=>(pk Z x (aa call Z x)).bind bM):=qKg (A.e X sc N it x g h).hp
theorem zr (A:AllE call G k n) (g:XG call G k X sc N) (hG:∀x∈cf,G.defs.lookup x=none) (hg:bJ sc f=true) (hf:f=Qa "range") (hl:as.length=1∨as.length=2∨as.length=3) (h:fM G n sc N as=some xs) :
  SndI X tg (.Call (.Name f p) as [] pos) false (fun Z=>(cu call Z xs).bind eU):=by
 obtain⟨_,a2,a3,a4⟩:=A.a X sc N as xs g h
 exact qNs hf (g.gl f hg) (tX g hG hf At) a3 hl a4 a2
theorem zu (A:AllE call G k n) (g:XG call G k X sc N) (hG:∀x∈cf,G.defs.lookup x=none) (hg:bJ sc f=true) (hf:f=Qa "zip") (ha:cE G n sc N a=some x) (hb:cE G n sc N b=some y) :
  SndI X (.Tuple es kk tp) (.Call (.Name f p) [a,b] [] pos) true (fun Z=>(aa call Z x).bind λx=>(aa call Z y).bind λy=>(bM x.2).bind λxs=>(fX y.2).bind λys=>some (bY xs ys)):=
 qNo hf (g.gl f hg) (tX g hG hf At) (by simp [hX ha,hX hb]) (A.e X sc N a x g ha).he (A.e X sc N b y g hb).he
theorem qNl (A:AllE call G k n) (g:XG call G k X sc N) (hG:∀x∈cf,G.defs.lookup x=none) (hg:bJ sc f=true) (hf:f=Qa "enumerate") (ha:cE G n sc N a=some x) :
  SndI X (.Tuple es kk tp) (.Call (.Name f p) [a] [] pos) true (fun Z=>(aa call Z x).bind λx=>(bM x.2).bind λxs=>some (fI 0 xs)):=
 qNz hf (g.gl f hg) (tX g hG hf At) (by simp [hX ha]) (A.e X sc N a x g ha).he
theorem tI (h:fD sc N tg=some t) (h2:mT t=true):∃es kk tp,tg=.Tuple es kk tp:=by
 unfold fD at h
 split at h
 ·split at h
  ·rename_i x _ _
   cases hs:bQ N x with
   | none=>rw [hs] at h;cases h
   | some i=>rw [hs] at h;cases h;cases h2
  ·cases h
 ·exact⟨_,_,_,rfl⟩
 ·cases h
theorem tH (h:fB sc N tg=some t) (h2:mT t=true):fD sc N tg=some t:=by
 unfold fB at h
 cases ht:fD sc N tg with
 | some t'=>rw [ht] at h;exact h
 | none =>
  rw [ht] at h
  cases tg with
  | Tuple es kk pos =>
   have h:(cI (eC sc N) es).map Tg.many=some t:=h
   cases hx:cI (eC sc N) es with
   | none=>rw [hx] at h;cases h
   | some is=>rw [hx] at h;cases h;cases h2
  | _=>cases h
theorem qOK (h:cE G n sc N (.Name x p)=some (.v i)):dw sc N x=some i:=by
 cases n with
 | zero=>cases h
 | succ n =>
  have h:(match dw sc N x with|some i=>some (C.v i)|none=>ku G sc x)=some (.v i):=h
  cases hv:dw sc N x with
  | some j=>rw [hv] at h;cases h;rfl
  | none =>
   rw [hv] at h
   have h:ku G sc x=some (.v i):=h
   unfold ku at h
   split at h
   ·cases hc:G.cons.lookup x<;>(rw [hc] at h;cases h)
   ·cases h
theorem qMT (g:XG call G k X sc N):X.A.units+20<cLine:=by
 have:=g.room.units
 omega
theorem qRt (hl:2<=es.length) (h:jO G n sc N es=some c):∀i,c≠.v i:=by
 cases n with
 | zero=>cases h
 | succ n =>
  unfold jO at h
  split at h
  ·simp at hl
  ·obtain⟨x,e1,e2⟩:=ah h
   obtain⟨y,e3,e4⟩:=ah e2
   cases e4
   exact λi z=>nomatch z
  ·cases h
theorem qSq (hl:2<=es.length) (h:kr G n sc N es=some c):∀i,c≠.v i:=by
 cases n with
 | zero=>cases h
 | succ n =>
  unfold kr at h
  split at h
  ·simp at hl
  ·obtain⟨x,e1,e2⟩:=ah h
   obtain⟨y,e3,e4⟩:=ah e2
   cases e4
   exact λi z=>nomatch z
  ·cases h
variable {n:Nat}{elt:Expr}{gens:List Comprehension}{c:C}{pos:Pos} in
theorem z0 (hG:∀x∈cf,G.defs.lookup x=none) (A:AllE call G k n) (g:XG call G k X sc N) (h:cX G (n+1) sc N (.ListComp elt gens sc' pos)=some c):CoI call G k X sc sc' N elt gens c:=by
 obtain⟨tg,it,fs,rfl⟩:∃tg it fs,gens=[⟨tg,it,fs,0⟩]:=by
  cases gens with
  | nil=>cases h
  | cons a r =>
   obtain⟨tg,it,fs,k⟩:=a
   cases r with
   | cons b r=>cases k with
    | negSucc k=>cases h
    | ofNat k=>cases k<;>cases h
   | nil =>
    cases k with
    | negSucc k=>cases h
    | ofNat k =>
     cases k with
     | succ k=>cases h
     | zero=>exact⟨tg,it,fs,rfl⟩
 replace h:=(show (if qo sc' then _ else none)=some c from h)
 split at h
 ·rename_i hsc
  have S:=zQ hsc
  obtain⟨t,e1,e2⟩:=ah h
  obtain⟨ks,e3,e4⟩:=ah e2
  obtain⟨ce,e5,e6⟩:=ah e4
  have he:∀X':Cx,XG call G k X' sc' CQ->SndE call X' elt ce:=λX' g'=>(A.e X' sc' _ elt ce g' e5).he
  have hsr:=wd (sc:=sc) it
  generalize jR sc it=q at e6 hsr
  match fs,e6 with
  | [],e6 =>
   simp only at e6
   cases q with
   | seq s =>
    obtain⟨x,q1,q2⟩:=ah e6
    cases q2
    cases hsr
    refine⟨tg,it,none,t,ks,ce,true,_,rfl,⟨S,e1,e3,he,nofun,qKd A g q1,tW q1 X.env⟩,fun Z r hr=>?_,nofun⟩
    obtain⟨y,r1,r2⟩:=ah (by simpa only [AU] using hr)
    obtain⟨its,r3,r4⟩:=ah r2
    obtain⟨ys,r5,r6⟩:=ah r4
    cases r6
    exact⟨its,ys,by simp only [r1];exact r3,r5,rfl,λz=>z rfl⟩
   | rng rs =>
    obtain⟨xs,q1,q2⟩:=ah e6
    cases q2
    cases hsr with
    | rng f p as pos2 hg hf hl =>
     refine⟨tg,_,none,t,ks,ce,false,_,rfl,⟨S,e1,e3,he,nofun,(zr (p:=p) (pos:=pos2) A g hG hg hf hl q1).c,λ_=>rfl⟩,fun Z r hr=>?_,nofun⟩
     obtain⟨y,r1,r2⟩:=ah (by simpa only [AR] using hr)
     obtain⟨its,r3,r4⟩:=ah r2
     split at r4
     ·rename_i hle
      obtain⟨ys,r5,r6⟩:=ah r4
      cases r6
      exact⟨its,ys,by simp only [r1];exact r3,r5,rfl,λ_=>hle⟩
     ·cases r4
   | zip a b =>
    simp only at e6
    split at e6
    ·rename_i h2
     obtain⟨x,q1,q2⟩:=ah e6
     obtain⟨y,q3,q4⟩:=ah q2
     cases q4
     obtain⟨es,kk,tp,rfl⟩:=tI (tH e1 h2) h2
     cases hsr with
     | zip f p a b pos2 hg hf =>
      refine⟨_,_,none,t,ks,ce,true,_,rfl,⟨S,e1,e3,he,nofun,(zu (p:=p) (pos:=pos2) A g hG hg hf q1 q3).c,λ_=>rfl⟩,fun Z r hr=>?_,nofun⟩
      obtain⟨z,r1,r2⟩:=ah (by simpa only [AV] using hr)
      obtain⟨z2,r3,r4⟩:=ah r2
      obtain⟨xs,r5,r6⟩:=ah r4
      obtain⟨ys,r7,r8⟩:=ah r6
      obtain⟨zs,r9,r10⟩:=ah r8
      cases r10
      exact⟨bY xs ys,zs,by simp only [r1,r3,r5,r7,bN],r9,rfl,λz=>z rfl⟩
    ·cases e6
   | rev rs=>cases e6
   | enm a =>
    simp only at e6
    split at e6
    ·rename_i h2
     obtain⟨x,q1,q2⟩:=ah e6
     cases q2
     obtain⟨es,kk,tp,rfl⟩:=tI (tH e1 h2) h2
     cases hsr with
     | enm f p a pos2 hg hf =>
      refine⟨_,_,none,t,ks,ce,true,_,rfl,⟨S,e1,e3,he,nofun,(qNl (p:=p) (pos:=pos2) A g hG hg hf q1).c,λ_=>rfl⟩,fun Z r hr=>?_,nofun⟩
      obtain⟨z,r1,r2⟩:=ah (by simpa only [AQ] using hr)
      obtain⟨xs,r5,r6⟩:=ah r2
      obtain⟨zs,r9,r10⟩:=ah r6
      cases r10
      exact⟨fI 0 xs,zs,by simp only [r1,r5,bN],r9,rfl,λz=>z rfl⟩
    ·cases e6
  | [cd],e6 =>
   obtain⟨cc,e7,e8⟩:=ah e6
   cases q with
   | seq s =>
    obtain⟨x,q1,q2⟩:=ah e8
    cases q2
    cases hsr
    refine⟨tg,it,some (cd,cc),t,ks,ce,true,_,rfl,⟨S,e1,e3,he,λp z X' g'=>by cases z;exact (A.e X' sc' _ cd cc g' e7).ht,(zt A g q1).c,tW q1 X.env⟩,fun Z r hr=>?_,nofun⟩
    obtain⟨y,r1,r2⟩:=ah (by simpa only [nH] using hr)
    obtain⟨its,r3,r4⟩:=ah r2
    obtain⟨ys,r5,r6⟩:=ah r4
    cases r6
    exact⟨its,ys,by simp only [r1];exact r3,r5,rfl,λz=>z rfl⟩
   | _=>cases e8
  | _::_::_,e6=>cases e6
 ·cases h
theorem qLI (hG:∀x∈cf,G.defs.lookup x=none) (A:AllE call G k n):AllE call G k (n+1):=by
 constructor
 ·intro X sc N e c g h
  have E:∀{e c},cE G n sc N e=some c->Ok call X e c:=λh=>A.e X sc N _ _ g h
  have gx:cX G n sc N e=some c->Ok call X e c:=λh=>(A.x X sc N _ c g h).1
  cases e with
  | Name x pos =>
   replace h:=(show (match dw sc N x with|some i=>some (C.v i)|none=>ku G sc x)=some c from h)
   cases hv:dw sc N x with
   | none =>
    rw [hv] at h
    obtain⟨h1,h2⟩:=qPF (call:=call) (pos:=pos) g h
    exact .of h1 (h1.test λ_=>rfl) h2
   | some i =>
    rw [hv] at h
    cases h
    obtain⟨h1,h2,h3⟩:=zS (call:=call) (pos:=pos) g hv
    exact⟨h1,h2,h1.test λ_=>rfl,h3,.inl ⟨_,_,rfl⟩⟩
  | Constant cc j pos =>
   obtain⟨d,hv,rfl⟩:=yab.mp h
   exact gh (AB hv) (λ_=>rfl) rfl
  | BinOp a op b pos =>
   obtain⟨o,e1,e2⟩:=ah h
   obtain⟨x,e3,e4⟩:=ah e2
   obtain⟨y,e5,e6⟩:=ah e4
   cases e6
   exact gh (qNB (qQi e1) (E e3).hp (E e5).hp) (λ_=>rfl) rfl
  | UnaryOp op a pos =>
   cases op with
   | USub =>
    obtain⟨x,hx,rfl⟩:=yab.mp h
    exact gh (qNu (E hx).hp) (λ_=>rfl) rfl
   | Not =>
    obtain⟨x,hx,rfl⟩:=yab.mp h
    obtain⟨h1,h2⟩:=zo (pos:=pos) (E hx).he (E hx).ht
    exact .of h1 h2 (iY rfl)
   | _=>exact gx h
  | BoolOp op es pos =>
   cases op with
   | And =>
    replace h:=(show (if 2<=es.length then jO G n sc N es else none)=some c from h)
    split at h
    ·rename_i hl
     have h0:=A.w X sc N es c g h
     exact .of (h0 pos).1 h0.test (qRt hl h)
    ·cases h
   | Or =>
    replace h:=(show (if 2<=es.length then kr G n sc N es else none)=some c from h)
    split at h
    ·rename_i hl
     have h0:=A.v X sc N es c g h
     exact .of (h0 pos).1 h0.test (qSq hl h)
    ·cases h
  | Compare a ops bs pos =>
   obtain _|⟨op,_|⟨_,_⟩⟩:=ops
   ·exact gx h
   ·obtain _|⟨b,_|⟨_,_⟩⟩:=bs
    ·exact gx h
    ·replace h:=(show (oB op b).elim _ _=some c from h)
     cases hi:oB op b with
     | some q =>
      rw [hi] at h
      obtain⟨j,p2,rfl,ho⟩:=qK2 hi
      obtain⟨d,e1,e2⟩:=ah h
      obtain⟨x,e3,e4⟩:=ah e2
      cases e4
      obtain⟨h1,h2⟩:=qPD (pos:=pos) (pos':=p2) (j:=j) q.1 ho e1 (E e3).hp
      exact .of h1 h2 (iY rfl)
     | none =>
      rw [hi] at h
      obtain⟨o,e1,e2⟩:=ah h
      obtain⟨x,e3,e4⟩:=ah e2
      obtain⟨y,e5,e6⟩:=ah e4
      cases e6
      obtain⟨h1,h2⟩:=qNA (call:=call) (pos:=pos) (qOF (X:=X) (qMT g) e1) (qOb e5 op) (λ_ _ _ hz=>qQ7 hz) (E e3).hp (E e5).hp
      exact .of h1 h2 (iY rfl)
    ·exact gx h
   ·exact gx h
  | Subscript a b pos =>
   replace h:=(show (oQ b).elim _ _=some c from h)
   cases hi:oQ b with
   | some q =>
    rw [hi] at h
    obtain⟨p2,rfl⟩:=qKo hi
    obtain⟨x,e1,e2⟩:=ah h
    obtain⟨l,e3,e4⟩:=ah e2
    obtain⟨u,e5,e6⟩:=ah e4
    cases e6
    exact gh (qPA (E e1).hp (A.o X sc N _ l g e3) (A.o X sc N _ u g e5)) (λ_=>rfl) rfl
   | none =>
    rw [hi] at h
    obtain⟨x,e1,e2⟩:=ah h
    obtain⟨y,e3,e4⟩:=ah e2
    cases e4
    exact gh (qPC (qKv e3) (E e1).hp (E e3).hp) (λ_=>rfl) rfl
  | Tuple es kk pos =>
   obtain⟨xs,hx,rfl⟩:=yab.mp h
   exact gh (qNp (A.a X sc N es xs g hx).1) (λ_=>rfl) rfl
  | List es pos =>
   obtain⟨xs,hx,rfl⟩:=yab.mp h
   exact gh (qNv (A.a X sc N es xs g hx).1) (λ_=>rfl) rfl
  | Call f as ks pos =>
   cases f with
   | Name f p =>
    obtain _|⟨_,_⟩:=ks
    ·replace h:=(show (if bJ sc f&&f6 f then oU G n sc N f as else (dw sc N f).bind λi=>if as.isEmpty then none else (fM G n sc N as).map (.cv i))=some c from h)
     split at h
     ·rename_i hf
      rw [aP] at hf
      obtain⟨h1,h2⟩:=A.f X sc N f as c p pos g hf.1 hf.2 h
      exact .of h1 (h1.test λ_=>rfl) h2
     ·obtain⟨i,hv,h⟩:=ah h
      split at h
      ·cases h
      ·rename_i hne
       obtain⟨ca,hc,rfl⟩:=yab.mp h
       obtain⟨a1,a2,a3,a4⟩:=A.a X sc N as ca g hc
       exact gh (qPG g hv a3 (by intro z;subst z;exact hne rfl) a1) (λ_=>rfl) rfl
    ·exact gx h
   | _=>exact gx h
  | IfExp t a b pos =>
   obtain⟨ct,e1,e2⟩:=ah h
   obtain⟨x,e3,e4⟩:=ah e2
   obtain⟨y,e5,e6⟩:=ah e4
   cases e6
   exact .of (qNx (E e1).ht (E e3).he (E e5).he) (qKj (E e1).ht (E e3).ht (E e5).ht) (iY rfl)
  | _=>exact gx h
 ·intro X sc N f es c p pos g hg hp h
  unfold oU at h
  split at h
  ·rename_i i hd
   split at h
   ·cases h
   ·rename_i hne
    obtain⟨xs,hx,rfl⟩:=yab.mp h
    obtain⟨a1,a2,a3,a4⟩:=A.a X sc N es xs g hx
    exact⟨qKl g hd hg (uo hp).2 a3 (by intro z;subst z;exact hne rfl) (A.ga X sc N es xs g hx),iY rfl⟩
  ·rename_i hd
   split at h
   ·rename_i a t p2 hf
    split at h
    ·rename_i hq
     rw [aP] at hq
     obtain⟨ty,e1,e2⟩:=ah h
     obtain⟨x,e3,e4⟩:=ah e2
     cases e4
     have hdt:G.defs.lookup t=none:=by simpa using hq.2
     exact⟨qNw g (by simpa using hf) hd hdt hg hq.1 e1 (hX e3) (A.e X sc N a x g e3).hp,iY rfl⟩
    ·cases h
   ·rename_i as _ _ hf
    split at h
    ·rename_i a ha
     obtain⟨y,p2,pos2,rfl,q1,q2,q3,q4⟩:=qH0 ha
     obtain⟨x,hx,rfl⟩:=yab.mp h
     exact⟨qKh g q1 q2 hd q4 hg q3 (hX hx) (A.e X sc N a x g hx).hp,iY rfl⟩
    ·skip
     obtain⟨b,e1,e2⟩:=ah h
     obtain⟨xs,hx,rfl⟩:=yab.mp e2
     obtain⟨a1,a2,a3,a4⟩:=A.a X sc N as xs g hx
     exact⟨qHT g e1 hd hg hp a3 a2,iY rfl⟩
   ·cases h
 ·intro X sc N es cs g h
  unfold fM at h
  split at h
  ·cases h
   exact⟨qKn,qHV,rfl,rfl⟩
  ·rename_i a r
   obtain⟨x,e1,e2⟩:=ah h
   obtain⟨xs,e3,e4⟩:=ah e2
   cases e4
   have h0:=A.e X sc N a x g e1
   obtain⟨a1,a2,a3,a4⟩:=A.a X sc N r xs g e3
   have hs:=cF (env:=X.env) (es:=r) (hX e1)
   exact⟨qHW hs h0.he a1,qGX hs h0.hp a2,by simp [hX e1];simpa using a3,by simp [a4]⟩
 ·intro X sc N e c g h
  unfold cO at h
  split at h
  ·cases h;exact qHO
  ·rename_i e
   obtain⟨x,hx,rfl⟩:=yab.mp h
   exact qHN (A.e X sc N e x g hx).hp
 ·intro X sc N e c g h
  cases e with
  | ListComp elt gens sc' pos =>
   have q:=z0 hG A g h
   have h1:=qKk (pos:=pos) g q
   obtain⟨_,_,_,_,_,_,_,_,_,_,_,nv⟩:=q
   exact⟨.of h1 (h1.test λ_=>rfl) nv,nv⟩
  | _=>cases h
 ·intro X sc N es cs g h
  unfold fM at h
  split at h
  ·cases h
   exact qHS
  ·rename_i a r
   obtain⟨x,e1,e2⟩:=ah h
   obtain⟨xs,e3,e4⟩:=ah e2
   cases e4
   exact qGW (cF (env:=X.env) (es:=r) (hX e1)) (A.e X sc N a x g e1).hg (A.ga X sc N r xs g e3)
 ·intro X sc N es c g h
  unfold jO at h
  split at h
  ·rename_i a
   have h0:=A.e X sc N a c g h
   exact zp h0.he h0.ht
  ·rename_i a b r
   obtain⟨x,e1,e2⟩:=ah h
   obtain⟨y,e3,e4⟩:=ah e2
   cases e4
   have h0:=A.e X sc N a x g e1
   exact qND h0.he h0.ht (A.w X sc N (b::r) y g e3)
  ·cases h
 ·intro X sc N es c g h
  unfold kr at h
  split at h
  ·rename_i a
   have h0:=A.e X sc N a c g h
   exact zp h0.he h0.ht
  ·rename_i a b r
   obtain⟨x,e1,e2⟩:=ah h
   obtain⟨y,e3,e4⟩:=ah e2
   cases e4
   have h0:=A.e X sc N a x g e1
   exact qPB h0.he h0.ht (A.v X sc N (b::r) y g e3)
  ·cases h
theorem j3 (hG:∀x∈cf,G.defs.lookup x=none):∀n,AllE call G k n
 | 0=>qLH
 | n+1=>qLI hG (j3 hG n)
end
end Dw
namespace Dw
open PySem PySem.Spec PyProof.Rows L2
section
variable {call:Nat->List D->Option R}{G:Gx}{k:Nat}{X:Cx}{sc sc':Scope}{N:List Str}
theorem qHB (elt:Expr) (gens:List Comprehension) (sc':Scope) (pos py:Pos) (x:Str) (ln:Nat) (env:Env):∃b:Bool,swapsWith (.ListComp elt gens sc' pos) (some (.Name x py)) ln env=pure b:=⟨_,rfl⟩
theorem qOP (hG:∀x∈cf,G.defs.lookup x=none) (g:XG call G k X sc N) (h:cE G n sc N e=some c) (hx:(sc.names.lookup x == some .local||sc.names.lookup x == some .cell)=true) (hsl:bQ N x=some i) :
  ∃t:TS,PS X (.Assign [.Name x py] e spos) t/\∀(Ge:Gp) (H:Hp) (F:Fz) (Z:En) (τ:L2.St) (r:R) (Dn:Ends),aa call Z c=some r->SR X.K Ge H F Z τ->(∀v H' F',Gr H F H' F'->RR X.K H H' F' r v->Dn.nx (τ.set i (some v)) H')->t Dn τ H:=by
 obtain⟨l1,l2⟩:=jZ g hx
 have plain:swapsWith e (some (.Name x py)) spos.line X.env=pure false->∃t:TS,PS X (.Assign [.Name x py] e spos) t/\∀(Ge:Gp) (H:Hp) (F:Fz) (Z:En) (τ:L2.St) (r:R) (Dn:Ends),aa call Z c=some r->SR X.K Ge H F Z τ->(∀v H' F',Gr H F H' F'->RR X.K H H' F' r v->Dn.nx (τ.set i (some v)) H')->t Dn τ H:=λhs=>by
  obtain⟨te,pe,qe⟩:=((j3 (call:=call) (k:=k) hG n).e X sc N e c g h).he
  exact⟨_,xP (i:=i) (by rw [g.hN];exact g.nd) (by rw [g.hN];exact iJ hsl) l1 pe hs l2,λGe H F Z τ r Dn h1 h2 h3=>qe Ge H F Z τ r _ h1 h2 h3⟩
 cases n with
 | zero=>cases h
 | succ n =>
  cases e with
  | ListComp elt gens sc' pos =>
   obtain⟨b,hb⟩:=qHB elt gens sc' pos py x spos.line X.env
   cases b with
   | false=>exact plain hb
   | true =>
    cases n with
    | zero=>cases h
    | succ n =>
     exact⟨_,qLE g (z0 hG (j3 (call:=call) (k:=k) hG n) g h) hx hsl hb,λGe H F Z τ r Dn h1 h2 h3=>⟨Ge,F,Z,r,h1,h2,h3⟩⟩
  | SetComp _ _ _ _=>(cases n<;>cases h)
  | DictComp _ _ _ _ _=>(cases n<;>cases h)
  | _=>exact plain rfl
def EndsOk (K:Qb) (Ge:Gp) (F0:Fz) (H:Hp) (F:Fz) (o:Ou) (Dn:Ends):Prop:=match o with
 | .nx Z'=>∀τ' H' F',Keep H F H' F'->Gr Ge F0 H' F'->SR K Ge H' F' Z' τ'->Dn.nx τ' H'
 | .rt r=>∀v H' F',Gr Ge F0 H' F'->RR K Ge H' F' r v->Dn.rt v H'
 | .bk Z'=>∀τ' H' F',Keep H F H' F'->Gr Ge F0 H' F'->SR K Ge H' F' Z' τ'->Dn.bk τ' H'
 | .ct Z'=>∀τ' H' F',Keep H F H' F'->Gr Ge F0 H' F'->SR K Ge H' F' Z' τ'->Dn.ct τ' H'
theorem EndsOk.mv {K:Qb}{Ge:Gp}{F0:Fz}{H H1:Hp}{F F1:Fz}{o:Ou}{Dn:Ends}(h:EndsOk K Ge F0 H F o Dn) (k:Keep H F H1 F1):EndsOk K Ge F0 H1 F1 o Dn:=by
 cases o with
 | nx Z'=>exact fun τ' H' F' k' g s=>h τ' H' F' (k.trans k') g s
 | rt r=>exact h
 | bk Z'=>exact fun τ' H' F' k' g s=>h τ' H' F' (k.trans k') g s
 | ct Z'=>exact fun τ' H' F' k' g s=>h τ' H' F' (k.trans k') g s
variable (call X) in
def fU (st:List Stmt) (cs:List S):Prop:=∃t:TS,PSs X st t/\∀(Ge:Gp) (F0:Fz) (H:Hp) (F:Fz) (Z:En) (τ:L2.St) (o:Ou) (Dn:Ends),ak call Z cs=some o->SR X.K Ge H F Z τ->Gr Ge F0 H F->EndsOk X.K Ge F0 H F o Dn->t Dn τ H
variable (call X) in
def dG (st:Stmt) (cs:List S):Prop:=∃t:TS,PS X st t/\∀(Ge:Gp) (F0:Fz) (H:Hp) (F:Fz) (Z:En) (τ:L2.St) (o:Ou) (Dn:Ends),ak call Z cs=some o->SR X.K Ge H F Z τ->Gr Ge F0 H F->EndsOk X.K Ge F0 H F o Dn->t Dn τ H
theorem qFK (cx cy:List S):∀Z:En,ak call Z (cx++cy)=(ak call Z cx).bind (sH fun Z'=>ak call Z' cy):=by
 induction cx with
 | nil=>intro Z;rfl
 | cons a r ih =>
  intro Z
  rw [qZ,eY,eY]
  rcases dQ call Z a with _|(Z1|r1|Z1|Z1)
  ·rfl
  ·exact ih Z1
  ·rfl
  ·rfl
  ·rfl
theorem zm:fU call X [] []:=⟨_,qNP,λGe F0 H F Z τ o Dn h s g e=>by cases h;exact e τ H F Keep.refl g s⟩
theorem uJ {st:Stmt}{rest:List Stmt}{cx cy:List S}(h1:dG call X st cx) (h2:fU call X rest cy):fU call X (st::rest) (cx++cy):=by
 obtain⟨t1,p1,q1⟩:=h1
 obtain⟨t2,p2,q2⟩:=h2
 refine⟨_,qKt p1 p2,λGe F0 H F Z τ o Dn h s g e=>?_⟩
 rw [qFK] at h
 obtain⟨o1,e1,e2⟩:=ah h
 cases o1 with
 | nx Z1=>exact q1 Ge F0 H F Z τ (.nx Z1) { Dn with nx:=t2 Dn } e1 s g fun τ' H' F' k' g' s'=>q2 Ge F0 H' F' Z1 τ' o Dn e2 s' g' (e.mv k')
 | rt r=>cases e2;exact q1 Ge F0 H F Z τ (.rt r) { Dn with nx:=t2 Dn } e1 s g e
 | bk Z1=>cases e2;exact q1 Ge F0 H F Z τ (.bk Z1) { Dn with nx:=t2 Dn } e1 s g e
 | ct Z1=>cases e2;exact q1 Ge F0 H F Z τ (.ct Z1) { Dn with nx:=t2 Dn } e1 s g e
theorem SR.frz1 {K:Qb}{Ge:Gp}{H:Hp}{F F0:Fz}{Z:En}{τ:L2.St}(s:SR K Ge H F Z τ) (g:Gr Ge F0 H F) (i:Nat):∃F',SR K Ge H F' (Dw.frz1 Z i) τ/\Keep H F H F'/\Gr Ge F0 H F':=by
 unfold Dw.frz1
 split
 ·rename_i ds0 hd
  obtain⟨a,ds,vs,eq0,h2,h3,h4,h5,h6⟩:=s.own i _ hd rfl
  cases eq0
  have kp:Keep H F H (λb=>b=a∨F b):=⟨λ_ _ h=>h,λ_ _ f h=>⟨.inr f,h⟩,λ_ _ _ _ h=>h,λ_ _ _ h=>h⟩
  refine⟨λb=>b=a∨F b,?_,kp,⟨g.same,λb f=>.inr (g.sub b f),λb f=>f.elim (λz=>.inr (z▸h3)) (g.new b),λb e f=>f.elim (λz=>by subst z;rw [h5] at e;cases e) (g.dom b e)⟩⟩
  have hl:=gH hd
  refine⟨by simp [s.len],s.ent,λb e f=>f.elim (λz=>by subst z;rw [h5] at e;cases e) (s.dom b e),λj e hj=>?_,λj e hj hde=>?_,λj l e e' hj hl' hjl=>?_,λj m ks hj=>?_,λp e hp hj=>?_⟩
  ·by_cases hij:i=j
   ·subst hij
    rw [eZ hl] at hj
    cases hj
    exact⟨.ref a,h2,a,vs,rfl,.inl ⟨.inl rfl,.inl h5⟩,RDs.mono kp h6⟩
   ·rw [cL hij] at hj
    obtain⟨v,q1,q2⟩:=s.val j e hj
    exact⟨v,q1,RD.mono kp q2⟩
  ·have hij:i≠j:=λz=>by subst z;rw [eZ hl] at hj;cases hj
   rw [cL hij] at hj
   obtain⟨a',ds',vs',p1,p2,p3,p4,p5,p6⟩:=s.own j e hj hde
   refine⟨a',ds',vs',p1,p2,p3,λf=>f.elim (λz=>?_) p4,p5,RDs.mono kp p6⟩
   subst z
   exact hij (s.sep i j _ _ hd hj (by rw [h2,p2]))
  ·have ne:∀{j:Nat} {e:D},ao (Z.set i (some (false,.lst ds0))) j=some (true,e)->i≠j:=λ{j e} hj z=>by subst z;rw [eZ hl] at hj;cases hj
   have n1:=ne hj
   have n2:=ne hl'
   rw [cL n1] at hj
   rw [cL n2] at hl'
   exact s.sep j l e e' hj hl' hjl
  ·have hij:i≠j:=λz=>by subst z;rw [eZ hl] at hj;cases hj
   rw [cL hij] at hj
   obtain⟨a',p1,p2,p3,p4⟩:=s.dct j m ks hj
   refine⟨a',p1,λf=>f.elim (λz=>?_) p2,p3,p4⟩
   subst z
   rw [h5] at p3
   cases p3
  ·have hij:i≠0:=λz=>by subst z;rw [eZ hl] at hj;cases hj
   rw [cL hij] at hj
   exact s.pin p e hp hj
 ·exact⟨F,s,Keep.refl,g⟩
theorem SR.frzs {K:Qb}{Ge:Gp}{H:Hp}{F0:Fz}{τ:L2.St}:∀(js:List Nat) {Z:En}{F:Fz},SR K Ge H F Z τ->Gr Ge F0 H F->∃F',SR K Ge H F' (js.foldl Dw.frz1 Z) τ/\Keep H F H F'/\Gr Ge F0 H F'
 | [],Z,F,s,g=>⟨F,s,Keep.refl,g⟩
 | j::js,Z,F,s,g=>by
  obtain⟨F1,s1,k1,g1⟩:=SR.frz1 s g j
  obtain⟨F2,s2,k2,g2⟩:=SR.frzs js s1 g1
  exact⟨F2,s2,k1.trans k2,g2⟩
theorem h9 {st:Stmt}{mt is:List Nat}{s:S}(h:dG call X st [s]):dG call X st (gG mt is s):=by
 unfold gG
 split
 ·exact h
 ·obtain⟨t,p,q⟩:=h
  refine⟨t,p,λGe F0 H F Z τ o Dn hv hs g e=>?_⟩
  obtain⟨F',s',k',g'⟩:=SR.frzs (is.filter (mt.contains ·)) hs g
  exact q Ge F0 H F' _ τ o Dn hv s' g' (e.mv k')
end
end Dw
namespace Dw
open PySem PySem.Spec PyProof.Rows L2
section
variable {call:Nat->List D->Option R}{G:Gx}{k:Nat}{X:Cx}{sc sc':Scope}{N:List Str}
theorem hZ (Z:En) (s:S):ak call Z [s]=dQ call Z s:=by
 rw [eY]
 rcases dQ call Z s with _|(_|_|_|_)<;>rfl
theorem SR.bindOwn {K:Qb}{Ge:Gp}{H H1:Hp}{F F1:Fz}{Z:En}{τ:L2.St}{i:Nat}{d:D}{v:V}(h0:i≠0) (s0:SR K Ge H F Z τ) (s:SR K Ge H1 F1 Z τ) (h:RR K H H1 F1 (true,d) v):SR K Ge H1 F1 (Z.set i (some (true,d))) (τ.set i (some v)):=by
 obtain⟨a,ds,vs,rfl,rfl,h3,h4,h5,h6⟩:=h
 have hne:∀{j:Nat} {e:D} {a':Addr},ao Z j=some (true,e)->τ[j]?=some (some (.ref a'))->a'≠a:=λ{j e a'} hj ht z=>by
  obtain⟨b,u,q2,_,q5⟩:=s0.addr hj
  rw [ht] at q2
  cases q2
  subst z
  rw [h3] at q5
  cases q5
 refine⟨by simp [s.len],s.ent,s.dom,λj e hj=>?_,λj e hj hde=>?_,λj l e e' hj hl hjl=>?_,λj m ks hj=>?_,λp e hp hj=>?_⟩
 ·have hij:i≠j:=λz=>by
   subst z
   rw [eZ (by simpa using gH hj)] at hj
   cases hj
  rw [cL hij] at hj
  obtain⟨u,q1,q2⟩:=s.val j e hj
  exact⟨u,by rw [ck hij];exact q1,q2⟩
 ·by_cases hij:i=j
  ·subst hij
   have hl:i<Z.length:=by simpa using gH hj
   rw [eZ hl] at hj
   cases hj
   exact⟨a,ds,vs,rfl,by rw [kK (by rw [<-s.len];exact hl)],s0.ent.free h3,h4,h5,h6⟩
  ·rw [cL hij] at hj
   obtain⟨a',ds',vs',q1,q2,q3⟩:=s.own j e hj hde
   exact⟨a',ds',vs',q1,by rw [ck hij];exact q2,q3⟩
 ·by_cases n1:i=j
  ·by_cases n2:i=l
   ·rw [<-n1,<-n2]
   ·subst n1
    have hl':i<Z.length:=by simpa using gH hj
    rw [cL n2] at hl
    obtain⟨b,u,q2,_⟩:=s.addr hl
    rw [kK (by rw [<-s.len];exact hl'),ck n2,q2] at hjl
    cases hjl
    exact Qn rfl (hne hl q2)
  ·rw [cL n1] at hj
   by_cases n2:i=l
   ·subst n2
    have hl':i<Z.length:=by simpa using gH hl
    obtain⟨b,u,q2,_⟩:=s.addr hj
    rw [kK (by rw [<-s.len];exact hl'),ck n1,q2] at hjl
    cases hjl
    exact Qn rfl (hne hj q2)
   ·rw [cL n2] at hl
    rw [ck n1,ck n2] at hjl
    exact s.sep j l e e' hj hl hjl
 ·have hij:i≠j:=λz=>by
   subst z
   rw [eZ (by simpa using gH hj)] at hj
   cases hj
  rw [cL hij] at hj
  obtain⟨a',q1,q2⟩:=s.dct j m ks hj
  exact⟨a',by rw [ck hij];exact q1,q2⟩
 ·rw [cL h0] at hj
  rw [ck h0]
  exact s.pin p e hp hj
theorem yh {i:Nat}{keep:Bool}{x:Str}{e:Expr}{c:C}{py spos:Pos}(h0:keep=true->i≠0) (h:∃t:TS,PS X (.Assign [.Name x py] e spos) t/\∀(Ge:Gp) (H:Hp) (F:Fz) (Z:En) (τ:L2.St) (r:R) (Dn:Ends),aa call Z c=some r->SR X.K Ge H F Z τ->(∀v H' F',Gr H F H' F'->RR X.K H H' F' r v->Dn.nx (τ.set i (some v)) H')->t Dn τ H) :
  dG call X (.Assign [.Name x py] e spos) [.set i keep c]:=by
 obtain⟨t,p,q⟩:=h
 refine⟨t,p,λGe F0 H F Z τ o Dn hv hs gr en=>?_⟩
 rw [hZ,yR] at hv
 obtain⟨r,e1,e2⟩:=ah hv
 cases e2
 refine q Ge H F Z τ r Dn e1 hs λv H' F' g' rr=>?_
 obtain⟨b,d⟩:=r
 have froz:eI keep (b,d)=(false,d)->Dn.nx (τ.set i (some v)) H':=λhk=>by
  obtain⟨F2,g2,rd⟩:=rr.fz g'
  have en':∀τ' H' F',Keep H F H' F'->Gr Ge F0 H' F'->SR X.K Ge H' F' (Z.set i (some (eI keep (b,d)))) τ'->Dn.nx τ' H':=en
  rw [hk] at en'
  exact en' _ H' F2 g2.keep (gr.trans g2) ((hs.grow g2).bind rd)
 cases b with
 | false=>exact froz (by cases keep<;>rfl)
 | true =>
  cases keep with
  | false=>exact froz rfl
  | true=>exact en _ H' F' g'.keep (gr.trans g') (SR.bindOwn (h0 rfl) hs (hs.grow g') rr)
theorem qNq (hG:∀x∈cf,G.defs.lookup x=none) (g:XG call G k X sc N) (h0:keep=true->i≠0) (h:cE G n sc N e=some c) (hx:(sc.names.lookup x == some .local||sc.names.lookup x == some .cell)=true) (hsl:bQ N x=some i) :
  dG call X (.Assign [.Name x py] e spos) [.set i keep c]:=yh h0 (qOP (py:=py) (spos:=spos) hG g h hx hsl)
theorem nq (h:H a=some (.lst vs)) (hf:¬F a):Keep H F (aB H a (.lst ws)) F:=⟨λp xs q=>by
  have ne:p≠a:=λz=>by subst z;rcases q with q|⟨o,q⟩<;>(rw [h] at q;cases q)
  rcases q with q|⟨o,q⟩
  ·exact .inl (by rw [aD ne];exact q)
  ·exact .inr ⟨o,by rw [aD ne];exact q⟩,λp xs f q=>by
  have ne:p≠a:=λz=>by subst z;exact hf f
  refine⟨f,?_⟩
  rcases q with q|⟨o,q⟩
  ·exact .inl (by rw [aD ne];exact q)
  ·exact .inr ⟨o,by rw [aD ne];exact q⟩,λp C dx fs q=>by rw [aD (λz=>by subst z;rw [h] at q;cases q)];exact q,λp o u q=>by rw [aD (λz=>by subst z;rw [h] at q;cases q)];exact q⟩
theorem lg (g:Gr Ge F0 H F) (h:H a=some (.lst vs)) (hg:Ge a=none):Gr Ge F0 (aB H a (.lst ws)) F:=⟨λb o e=>by rw [aD (cG e hg)];exact g.same b o e,g.sub,g.new,λb e=>by
  by_cases z:b=a
  ·subst z;rw [dX] at e;cases e
  ·rw [aD z] at e;exact g.dom b e⟩
theorem pT {K:Qb}{Ge:Gp}{H:Hp}{F0 F:Fz}{Z:En}{τ:L2.St}{i:Nat}{a:Addr}{ds es:List D}{vs ws:List V}(s:SR K Ge H F Z τ) (g:Gr Ge F0 H F) (hi:ao Z i=some (true,.lst ds)) (ht:τ[i]?=some (some (.ref a))) (hg:Ge a=none) (hf:¬F a) (h:H a=some (.lst vs)) (r:RDs K H F es ws) :
  SR K Ge (aB H a (.lst ws)) F (Z.set i (some (true,.lst es))) τ:=by
 have kp:=nq (ws:=ws) h hf
 have hl:=gH hi
 refine⟨by simp [s.len],(lg (ws:=ws) g h hg).same,(lg (ws:=ws) g h hg).dom,λj e hj=>?_,λj e hj hde=>?_,λj l e e' hj hl' hjl=>?_,λj m ks hj=>?_,λp e hp hj=>?_⟩
 ·have hij:i≠j:=λz=>by subst z;rw [eZ hl] at hj;cases hj
  rw [cL hij] at hj
  obtain⟨v,q1,q2⟩:=s.val j e hj
  exact⟨v,q1,RD.mono kp q2⟩
 ·by_cases hij:i=j
  ·subst hij
   rw [eZ hl] at hj
   cases hj
   exact⟨a,es,ws,rfl,ht,hg,hf,dX,RDs.mono kp r⟩
  ·rw [cL hij] at hj
   obtain⟨a',ds',vs',p1,p2,p3,p4,p5,p6⟩:=s.own j e hj hde
   have ne:a'≠a:=λz=>by subst z;exact hij (s.sep i j _ _ hi hj (by rw [ht,p2]))
   exact⟨a',ds',vs',p1,p2,p3,p4,by rw [aD ne];exact p5,RDs.mono kp p6⟩
 ·have back:∀{j:Nat} {e:D},ao (Z.set i (some (true,.lst es))) j=some (true,e)->∃e',ao Z j=some (true,e'):=λ{j e} hj=>by
   by_cases hij:i=j
   ·subst hij;exact⟨_,hi⟩
   ·rw [cL hij] at hj;exact⟨e,hj⟩
  obtain⟨_,b1⟩:=back hj
  obtain⟨_,b2⟩:=back hl'
  exact s.sep j l _ _ b1 b2 hjl
 ·have hij:i≠j:=λz=>by subst z;rw [eZ hl] at hj;cases hj
  rw [cL hij] at hj
  obtain⟨a',p1,p2,p3,p4⟩:=s.dct j m ks hj
  have ne:a'≠a:=λz=>by subst z;rw [h] at p3;cases p3
  exact⟨a',p1,p2,by rw [aD ne];exact p3,p4⟩
 ·by_cases hij:i=0
  ·subst hij;exact s.pin p _ hp hi
  ·rw [cL hij] at hj;exact s.pin p e hp hj
theorem kf {K:Qb}{Ge:Gp}{H:Hp}{F:Fz}{Z:En}{τ:L2.St}{i:Nat}{ds:List D}(s:SR K Ge H F Z τ) (h:ao Z i=some (true,.lst ds)):∃a vs,τ[i]?=some (some (.ref a))/\Ge a=none/\¬F a/\H a=some (.lst vs)/\RDs K H F ds vs:=by
 obtain⟨a,ds',vs,e,h2,h3,h4,h5,h6⟩:=s.own i _ h rfl
 cases e
 exact⟨a,vs,h2,h3,h4,h5,h6⟩
theorem qNC {n:Nat}(A:AllE call G k n) (g:XG call G k X sc N) {x m:Str}{i:Nat}{p p2 p3 spos:Pos}{e:Expr}{c:C}(hm:m=Qa "append") (hln:(p2.endLine == p3.line)=true) (hv:dw sc N x=some i) (h:cE G n sc N e=some c) :
  dG call X (.Expr (.Call (.Attribute (.Name x p) m p2) [e] [] p3) spos) [.app i c]:=by
 subst hm
 obtain⟨h1,h2,h3,h4⟩:=mY g hv
 obtain⟨te,pe,qe⟩:=(A.e X sc N e c g h).he
 have pn:PE X (.Name x p) (mP i):=ju h1 h2 h3 h4
 have hst:=cF (env:=X.env) (es:=[]) (hX h)
 refine⟨_,zx (wV rp PySem.F.slot_list_append PySem.F.type_list_append Ay pn (gd pe iB hst) (hfew:=by rw [hst];rfl) (hline:=hln) (hs:=hst)),λGe F0 H F Z τ o Dn hvv hs gr en=>?_⟩
 rw [hZ,yO] at hvv
 obtain⟨r,e1,e2⟩:=ah hvv
 unfold iO at e2
 split at e2
 ·rename_i xs hg
  split at e2
  ·rename_i hlt
   cases e2
   obtain⟨a,vs,q1,q2,q3,q4,q5⟩:=kf hs hg
   refine⟨.ref a,q1,.inl ⟨rfl,_,SqL.of q4⟩,?_⟩
   refine qe Ge H F Z τ r _ e1 hs λv H1 F1 g1 rr=>?_
   obtain⟨F2,g2,rd⟩:=rr.fz g1
   have s2:=hs.grow g2
   obtain⟨a',vs',q1',q2',q3',q4',q5'⟩:=kf s2 hg
   rw [q1] at q1'
   cases q1'
   have gr2:=gr.trans g2
   refine⟨a,vs',v,rfl,rfl,q4',by rw [RDs.length q5'];exact hlt,?_⟩
   exact en _ _ F2 (g2.keep.trans (nq q4' q3')) (lg gr2 q4' q2') (pT s2 gr2 hg q1 q2' q3' q4' (RDs.append q5' ⟨v,[],rfl,rd,rfl⟩))
  ·cases e2
 ·cases e2
section
open AutoSeq1
theorem qOv (l:Addr) (items:Array Value) (n:Nat) (b:Addr) (items2:Array Value) (n2:Nat) (dd:Option Addr) (sl:Array (Option Value)) (hs0:¬(!items.isEmpty&&Builtin.List.listTooLong (items.size+items2.size))=true) (hs1:items.size<=sizeLine) (hs2:items.size+items2.size<=sizeLine+1) :
  Meets (Builtin.«list.extend» ⟨[.ref l,.ref b],[]⟩) (λ_ R s=>s.heap.get? l=some { cls:=.type "list",dict:=none,data:=.seq items n,slots:=#[] }/\s.heap.get? b=some { cls:=.type "tuple",dict:=dd,data:=.seq items2 n2,slots:=sl }/\R (.ok (.ret Value.none)) { s with heap:=s.heap.update l (Obj.mapSeq λx=>x++items2),toks:=s.toks }):=
 .of_wp λprog w A R s h=>by
  obtain⟨hp,g,d,tk,os⟩:=s;obtain⟨hl,hb,h⟩:=h;have f1:=idx_int;have f2:=AutoSeq1.sub_tuple_tuple;have f3:=AutoSeq1.sub_list_list;have f4:=AutoSeq1.sub_tuple_list;have f5:=AutoSeq1.sub_list_tuple
  have hz':(items++items2).size<=sizeLine+1:=by rw [Array.size_append];exact hs2
  wp_walk using (wpAny_updateSeq hl rfl (hz:=hs1) (_hz':=hz')),wpAny_loadPart' hl,wpAny_loadPart' hb;exact⟨_,rfl,h⟩
end
theorem qQh {id:String}{r r':V->List V->Hp->VK->Prop}(h:kB X id r) (h':kB X id r'):kB X id (λx vs H Q=>r x vs H Q∨r' x vs H Q):=
 λpins s Z H x vs v us Q I rx rv z=>z.elim (h pins s Z H x vs v us Q I rx rv) (h' pins s Z H x vs v us Q I rx rv)
theorem qOd:kB X "list.extend" (λx vs H Q=>∃l b xs zs,x=.ref l/\vs=[.ref b]/\H l=some (.lst xs)/\SqT X.K H b zs/\xs.length+zs.length<=sizeLine/\Q .non (aB H l (.lst (xs++zs)))):=by
 intro pins s Z H x vs v us Q I rx rv h
 obtain⟨l,b,xs,zs,rfl,rfl,hH,hB,hz,q⟩:=h
 cases rx
 obtain⟨u,rfl,ru⟩:=gF rv
 cases ru
 obtain⟨z,its,n,r,hl,e⟩:=I.lstM hH
 obtain⟨its2,r2,⟨⟨cls,dd,data,sl⟩,e2,hc2,n2,hd2⟩,z2⟩:=I.tuple hB
 simp only at hc2 hd2
 subst hc2 hd2
 have hl2:=r2.length
 have hsz:its.toArray.size+its2.toArray.size<=sizeLine:=by rw [aO,aO];omega
 have hlong:¬(!its.toArray.isEmpty&&Builtin.List.listTooLong (its.toArray.size+its2.toArray.size))=true:=by
  rw [ug hsz,jD]
  exact fA
 refine call_meets F.slot_list_extend ⟨_,e,rfl⟩ F.entry_list_extend (F.args_list_extend_2 _ _)
  (qOv l its.toArray n b its2.toArray n2 dd sl hlong (by rw [aO];omega) AC) ⟨e,e2,?_⟩
 refine⟨.non,_,I.lset (its':=its++its2) hH e C2 (r.append r2) ?_,rfl,q⟩
 rw [aU]
 omega
theorem qNy (A:AllE call G k n) (g:XG call G k X sc N) {x m:Str}{i:Nat}{p p2 p3 spos:Pos}{e:Expr}{c:C}(hm:m=Qa "extend") (hln:(p2.endLine == p3.line)=true) (hv:dw sc N x=some i) (h:cE G n sc N e=some c) :
  dG call X (.Expr (.Call (.Attribute (.Name x p) m p2) [e] [] p3) spos) [.ext i c]:=by
 subst hm
 obtain⟨h1,h2,h3,h4⟩:=mY g hv
 obtain⟨te,pe,qe⟩:=(A.e X sc N e c g h).he
 have pn:PE X (.Name x p) (mP i):=ju h1 h2 h3 h4
 have hst:=cF (env:=X.env) (es:=[]) (hX h)
 refine⟨_,zx (wV rp PySem.F.slot_list_extend PySem.F.type_list_extend (qQh qIp qOd) pn (gd pe iB hst) (hfew:=by rw [hst];rfl) (hline:=hln) (hs:=hst)),λGe F0 H F Z τ o Dn hvv hs gr en=>?_⟩
 rw [hZ,tS] at hvv
 obtain⟨r,e1,e2⟩:=ah hvv
 unfold oA at e2
 split at e2
 ·rename_i ys
  split at e2
  ·rename_i xs hg
   split at e2
   ·rename_i hlt
    cases e2
    obtain⟨a,vs,q1,q2,q3,q4,q5⟩:=kf hs hg
    refine⟨.ref a,q1,.inl ⟨rfl,_,SqL.of q4⟩,?_⟩
    refine qe Ge H F Z τ _ _ e1 hs λv H1 F1 g1 rr=>?_
    have rr0:=rr
    obtain⟨b,ds,ws,ed,rfl,r1,r2,r3,r4⟩:=rr0
    cases ed
    have s2:=hs.grow g1
    obtain⟨a',vs',q1',q2',q3',q4',q5'⟩:=kf s2 hg
    rw [q1] at q1'
    cases q1'
    have gr2:=gr.trans g1
    refine .inl ⟨a,b,vs',ws,rfl,rfl,q4',r3,by rw [RDs.length q5',RDs.length r4];exact hlt,?_⟩
    exact en _ _ F1 (g1.keep.trans (nq q4' q3')) (lg gr2 q4' q2') (pT s2 gr2 hg q1 q2' q3' q4' (RDs.append q5' r4))
   ·cases e2
  ·cases e2
 ·rename_i ys
  split at e2
  ·rename_i xs hg
   split at e2
   ·rename_i hlt
    cases e2
    obtain⟨a,vs,q1,q2,q3,q4,q5⟩:=kf hs hg
    refine⟨.ref a,q1,.inl ⟨rfl,_,SqL.of q4⟩,?_⟩
    refine qe Ge H F Z τ _ _ e1 hs λv H1 F1 g1 rr=>?_
    obtain⟨b,ws,rfl,r3,r4⟩:=rr
    have s2:=hs.grow g1
    obtain⟨a',vs',q1',q2',q3',q4',q5'⟩:=kf s2 hg
    rw [q1] at q1'
    cases q1'
    have gr2:=gr.trans g1
    refine .inr ⟨a,b,vs',ws,rfl,rfl,q4',r3,by rw [RDs.length q5',RDs.length r4];exact hlt,?_⟩
    exact en _ _ F1 (g1.keep.trans (nq q4' q3')) (lg gr2 q4' q2') (pT s2 gr2 hg q1 q2' q3' q4' (RDs.append q5' r4))
   ·cases e2
  ·cases e2
 ·cases e2
theorem xn {X:Cx}{e:Expr}{t1 t2:TG}(h1:PG X e t1) (h2:PG X e t2):PG X e (λv Z H Q=>t1 v Z H Q∨t2 v Z H Q):=
 λpins s Z H v u Q I r hw=>hw.elim (h1 pins s Z H v u Q I r) (h2 pins s Z H v u Q I r)
theorem qKm (A:AllE call G k n) (g:XG call G k X sc N) {f:Expr}{as:List Expr}{ks:List Keyword}{pc:Pos}{p spos:Pos}{kk:Nat}{es:List Expr}{is:List Nat}{c:C}(ht:cI (eC sc N) es=some is) (h:cE G n sc N (.Call f as ks pc)=some c) :
  dG call X (.Assign [.Tuple es kk p] (.Call f as ks pc) spos) [.asgL is c]:=by
 obtain⟨te,pe,qe⟩:=(A.e X sc N _ c g h).he
 obtain⟨q1,q2,q3⟩:=pR g ht
 refine⟨_,tf pe (xn (xm g.calm q1 q2 q3) (lh g.calm q1 q2 q3)),λGe F0 H F Z τ o Dn hvv hs gr en=>?_⟩
 rw [hZ,tZ] at hvv
 obtain⟨⟨b,d⟩,e1,e2⟩:=ah hvv
 cases d with
 | lst ds =>
  obtain⟨Z',e3,e4⟩:=yab.mp (show (fJ Z is ds).map Ou.nx=some o from e2)
  subst e4
  refine qe Ge H F Z τ _ _ e1 hs λv H1 F1 g1 rr=>?_
  obtain⟨F2,g2,rd⟩:=rr.fz g1
  obtain⟨a,vs,rfl,hs1,hr⟩:=(show RP X.K H1 F2 (.lst ds) v from .inl rd).lst
  exact .inl ⟨a,vs,rfl,hs1,by rw [RDs.length hr];exact ki e3,lV (hs.grow g2) e3 hr fun τ' s'=>en τ' H1 F2 g2.keep (gr.trans g2) s'⟩
 | tup ds =>
  obtain⟨Z',e3,e4⟩:=yab.mp (show (fJ Z is ds).map Ou.nx=some o from e2)
  subst e4
  refine qe Ge H F Z τ _ _ e1 hs λv H1 F1 g1 rr=>?_
  obtain⟨F2,g2,rd⟩:=rr.fz g1
  obtain⟨a,vs,rfl,hs1,hr⟩:=rd
  exact .inr ⟨a,vs,rfl,hs1,by rw [RDs.length hr];exact ki e3,lV (hs.grow g2) e3 hr fun τ' s'=>en τ' H1 F2 g2.keep (gr.trans g2) s'⟩
 | _=>cases e2
theorem qHU (A:AllE call G k n) (g:XG call G k X sc N) {x:Str}{pn:Pos}{p spos:Pos}{kk:Nat}{es:List Expr}{is:List Nat}{c:C}(ht:cI (eC sc N) es=some is) (h:cE G n sc N (.Name x pn)=some c) :
  dG call X (.Assign [.Tuple es kk p] (.Name x pn) spos) [.asgL is c]:=by
 obtain⟨te,pe,qe⟩:=(A.e X sc N _ c g h).he
 obtain⟨q1,q2,q3⟩:=pR g ht
 refine⟨_,tf pe (xn (xm g.calm q1 q2 q3) (lh g.calm q1 q2 q3)),λGe F0 H F Z τ o Dn hvv hs gr en=>?_⟩
 rw [hZ,tZ] at hvv
 obtain⟨⟨b,d⟩,e1,e2⟩:=ah hvv
 cases d with
 | lst ds =>
  obtain⟨Z',e3,e4⟩:=yab.mp (show (fJ Z is ds).map Ou.nx=some o from e2)
  subst e4
  refine qe Ge H F Z τ _ _ e1 hs λv H1 F1 g1 rr=>?_
  obtain⟨F2,g2,rd⟩:=rr.fz g1
  obtain⟨a,vs,rfl,hs1,hr⟩:=(show RP X.K H1 F2 (.lst ds) v from .inl rd).lst
  exact .inl ⟨a,vs,rfl,hs1,by rw [RDs.length hr];exact ki e3,lV (hs.grow g2) e3 hr fun τ' s'=>en τ' H1 F2 g2.keep (gr.trans g2) s'⟩
 | tup ds =>
  obtain⟨Z',e3,e4⟩:=yab.mp (show (fJ Z is ds).map Ou.nx=some o from e2)
  subst e4
  refine qe Ge H F Z τ _ _ e1 hs λv H1 F1 g1 rr=>?_
  obtain⟨F2,g2,rd⟩:=rr.fz g1
  obtain⟨a,vs,rfl,hs1,hr⟩:=rd
  exact .inr ⟨a,vs,rfl,hs1,by rw [RDs.length hr];exact ki e3,lV (hs.grow g2) e3 hr fun τ' s'=>en τ' H1 F2 g2.keep (gr.trans g2) s'⟩
 | _=>cases e2
theorem RDs.last {K:Qb}{H:Hp}{F:Fz}{ds:List D}{vs:List V}{d:D}(h:RDs K H F ds vs) (e:ds.getLast?=some d):∃v,vs[vs.length - 1]?=some v/\RD K H F d v:=by
 rw [List.getLast?_eq_getElem?] at e
 obtain⟨v,e1,e2⟩:=RDs.get h e
 exact⟨v,by rw [RDs.length h];exact e1,e2⟩
theorem RDs.init {K:Qb}{H:Hp}{F:Fz}{ds:List D}{vs:List V}(h:RDs K H F ds vs):RDs K H F ds.dropLast vs.dropLast:=by
 rw [List.dropLast_eq_take,List.dropLast_eq_take,RDs.length h]
 exact RDs.take _ h
theorem zq (g:XG call G k X sc N) (hm:m=Qa "pop") (hln:(p2.endLine == p3.line)=true) (ht:fB sc N tg=some t) (hv:dw sc N x=some i) (h1':swapsWithSole [tg] (.Call (.Attribute (.Name x p) m p2) [] [] p3) spos.line X.env=pure false) (h2':swappedStores [tg] (.Call (.Attribute (.Name x p) m p2) [] [] p3) X.env=pure none) (h3':(assignEach [tg] X.env).map (·.2)=[assign tg X.env]) :
  dG call X (.Assign [tg] (.Call (.Attribute (.Name x p) m p2) [] [] p3) spos) [.pop t i]:=by
 subst hm
 obtain⟨h1,h2,h3,h4⟩:=mY g hv
 have pn:PE X (.Name x p) (mP i):=ju h1 h2 h3 h4
 refine⟨_,tf (qQd rp PySem.F.slot_list_pop PySem.F.type_list_pop qQz pn (hline:=hln)) (tD g ht) h1' h2' h3',λGe F0 H F Z τ o Dn hvv hs gr en=>?_⟩
 rw [hZ,yQ] at hvv
 unfold oP at hvv
 split at hvv
 ·rename_i xs hg
  obtain⟨d,e1,e2⟩:=ah hvv
  obtain⟨Z',e3,e4⟩:=yab.mp e2
  subst e4
  obtain⟨a,vs,q1,q2,q3,q4,q5⟩:=kf hs hg
  obtain⟨y,l1,l2⟩:=RDs.last q5 e1
  refine⟨.ref a,q1,.inl ⟨rfl,_,SqL.of q4⟩,a,vs,y,rfl,rfl,q4,l1,?_⟩
  have kp:=nq (ws:=vs.dropLast) q4 q3
  have gr2:=lg (ws:=vs.dropLast) gr q4 q2
  exact nz (pT hs gr hg q1 q2 q3 q4 (RDs.init q5)) e3 (RD.mono kp l2) fun τ' s'=>en τ' _ F kp gr2 s'
 ·cases hvv
theorem qHL (A:AllE call G k n) (g:XG call G k X sc N) (h:cE G n sc N t=some c) (hb:fU call X body cb):dG call X (.While t body [] spos) [.whl c cb]:=by
 obtain⟨tt,pt,qt⟩:=(A.e X sc N t c g h).ht
 obtain⟨tb,pb,qb⟩:=hb
 refine⟨_,qKu (by rw [g.xe];exact PassesOwn.never) pt pb,λGe F0 H F Z τ o Dn hvv hs gr en=>?_⟩
 rw [hZ,yS] at hvv
 refine⟨λm τ' H'=>∃F' Z',SR X.K Ge H' F' Z' τ'/\Gr Ge F0 H' F'/\Keep H F H' F'/\iw (fun Z'=>aa call Z' c) (fun Z'=>ak call Z' cb) m Z'=some o,⟨jy,F,Z,hs,gr,Keep.refl,hvv⟩,?_⟩
 rintro m τ' H' ⟨F',Z',sr',gr',kp',ev'⟩
 cases m with
 | zero=>cases ev'
 | succ m =>
  obtain⟨⟨x,d⟩,e1,e2⟩:=ah (show ((aa call Z' c).bind (sg Z' ((ak call Z' cb).bind (k0 (iw (fun Z'=>aa call Z' c) (fun Z'=>ak call Z' cb) m)))))=some o from ev')
  cases d with
  | bl b =>
   refine qt Ge H' F' Z' τ' x b _ e1 sr' λH1 F1 g1=>?_
   cases b with
   | false =>
    cases e2
    exact oC (en τ' H1 F1 (kp'.trans g1.keep) (gr'.trans g1) (sr'.grow g1))
   | true =>
    obtain⟨o1,b2,e3⟩:=ah (show ((ak call Z' cb).bind (k0 (iw (fun Z'=>aa call Z' c) (fun Z'=>ak call Z' cb) m)))=some o from e2)
    refine oD ?_
    cases o1 with
    | nx Z2=>exact⟨fun τ2 H2=>∃F2,SR X.K Ge H2 F2 Z2 τ2/\Gr Ge F0 H2 F2/\Keep H F H2 F2,fun τ2 H2 ⟨F2,q1,q2,q3⟩=>⟨m,by omega,F2,Z2,q1,q2,q3,e3⟩,qb Ge F0 H1 F1 Z' τ' (.nx Z2) _ b2 (sr'.grow g1) (gr'.trans g1) fun τ5 H5 F5 k5 g5 s5=>⟨F5,s5,g5,(kp'.trans g1.keep).trans k5⟩⟩
    | ct Z2=>exact⟨fun τ2 H2=>∃F2,SR X.K Ge H2 F2 Z2 τ2/\Gr Ge F0 H2 F2/\Keep H F H2 F2,fun τ2 H2 ⟨F2,q1,q2,q3⟩=>⟨m,by omega,F2,Z2,q1,q2,q3,e3⟩,qb Ge F0 H1 F1 Z' τ' (.ct Z2) _ b2 (sr'.grow g1) (gr'.trans g1) fun τ5 H5 F5 k5 g5 s5=>⟨F5,s5,g5,(kp'.trans g1.keep).trans k5⟩⟩
    | bk Z2 =>
     cases e3
     exact⟨λ_ _=>False,λ_ _ z=>z.elim,qb Ge F0 H1 F1 Z' τ' (.bk Z2) _ b2 (sr'.grow g1) (gr'.trans g1) fun τ5 H5 F5 k5 g5 s5=>en τ5 H5 F5 ((kp'.trans g1.keep).trans k5) g5 s5⟩
    | rt r =>
     cases e3
     exact⟨λ_ _=>False,λ_ _ z=>z.elim,qb Ge F0 H1 F1 Z' τ' (.rt r) _ b2 (sr'.grow g1) (gr'.trans g1) en⟩
  | _=>cases e2
theorem yd {e:Expr}{c:C}{spos:Pos}(h:SndE call X e c) (hc:¬∃i,c=.v i):dG call X (.Return (some e) spos) [.ret c]:=by
 obtain⟨te,pe,qe⟩:=h
 refine⟨_,xO pe,λGe F0 H F Z τ o Dn hvv hs gr en=>?_⟩
 rw [hZ,qd] at hvv
 obtain⟨r,e1,e2⟩:=ah hvv
 cases e2
 have e1':aa call Z c=some r:=by
  cases c with
  | v i=>exact Qn ⟨i,rfl⟩ hc
  | _=>exact e1
 exact qe Ge H F Z τ r _ e1' hs λv H' F' g' rr=>en v H' F' (gr.trans g') (rr.back hs.ent)
theorem qNt (hG:∀x∈cf,G.defs.lookup x=none) (g:XG call G k X sc N) (h:cE G n sc N e=some c):dG call X (.Return (some e) spos) [.ret c]:=by
 have ok:=(j3 (call:=call) (k:=k) hG n).e X sc N e c g h
 by_cases hc:∃i,c=.v i
 ·obtain⟨i,rfl⟩:=hc
  cases n with
  | zero=>cases h
  | succ n =>
   have hn:∃x p,e=.Name x p/\dw sc N x=some i:=by
    rcases ok.nv with ⟨x,p,rfl⟩|z
    ·exact⟨x,p,rfl,qOK h⟩
    ·exact Qn rfl (z i)
   obtain⟨x,p,rfl,hv⟩:=hn
   obtain⟨h1,h2,h3,h4⟩:=mY g hv
   refine⟨_,xO (ju h1 h2 h3 h4),λGe F0 H F Z τ o Dn hvv hs gr en=>?_⟩
   rw [hZ,qd] at hvv
   obtain⟨r,e1,e2⟩:=ah hvv
   cases e2
   have e1:(ao Z i).bind wg=some r:=e1
   obtain⟨⟨b,d⟩,e0,e1⟩:=ah e1
   cases b with
   | false =>
    cases e1
    obtain⟨v,q1,q2⟩:=hs.val i d e0
    exact⟨v,q1,en v H F gr q2⟩
   | true =>
    cases d with
    | lst ds0 =>
     cases e1
     obtain⟨a,ds,vs,q1,q2,q3,q4,q5,q6⟩:=hs.own i _ e0 rfl
     exact⟨.ref a,q2,en _ H F gr ⟨a,ds,vs,q1,rfl,q3,q4,q5,q6⟩⟩
    | _=>cases e1
 ·exact yd ok.he hc
theorem wW {t:Expr}{c:C}{a b:List Stmt}{ca cb:List S}{spos:Pos}(h:dH call X t c) (ha:fU call X a ca) (hb:fU call X b cb):dG call X (.If t a b spos) [.ite c ca cb]:=by
 obtain⟨tt,pt,qt⟩:=h
 obtain⟨ta,pa,qa⟩:=ha
 obtain⟨tb,pb,qb⟩:=hb
 refine⟨_,qSj pt pa pb,λGe F0 H F Z τ o Dn hvv hs gr en=>?_⟩
 rw [hZ,yP] at hvv
 obtain⟨r,e1,e2⟩:=ah hvv
 obtain⟨x,d⟩:=r
 cases d with
 | bl bb =>
  refine qt Ge H F Z τ x bb _ e1 hs λH' F' g'=>?_
  cases bb with
  | true=>exact oD (qa Ge F0 H' F' Z τ o Dn e2 (hs.grow g') (gr.trans g') (en.mv g'.keep))
  | false=>exact oC (qb Ge F0 H' F' Z τ o Dn e2 (hs.grow g') (gr.trans g') (en.mv g'.keep))
 | _=>cases e2
theorem qPE (A:AllE call G k n) (g:XG call G k X sc N) (h:cE G n sc N t=some c) (ha:fU call X a ca) (hb:fU call X b cb):dG call X (.If t a b spos) [.ite c ca cb]:=wW (A.e X sc N t c g h).ht ha hb
theorem tw (g:XG call G k X sc N) (ht:fB sc N tg=some t) (hi:SndI X tg it b src) (hf:∀x,foldedSetIterable it X.env x=pure x) (hb:fU call X body cb)
  (hv:∀Z o,dQ call Z s=some o->∃its,src Z=some its/\cB call cb t its Z=some o):dG call X (.For tg it body [] spos) [s]:=by
 obtain⟨wi,pi,qi⟩:=hi
 obtain⟨tb,pb,qb⟩:=hb
 have pg:=tD g ht
 refine⟨_,qPZ (by rw [g.xe];exact PassesOwn.never) g.calm pi pg pb hf,λGe F0 H F Z τ o Dn hvv hs gr en=>?_⟩
 rw [hZ] at hvv
 obtain⟨its,e1,e2⟩:=hv Z o hvv
 refine qi Ge H F Z τ its _ e1 hs λJ H1 F1 g1 gh _=>?_
 refine⟨λi m τ' H'=>i<=its.length/\m=its.length - i/\∃F' Z',SR X.K Ge H' F' Z' τ'/\Gr Ge F0 H' F'/\Keep H1 F1 H' F'/\cB call cb t (its.drop i) Z'=some o,⟨its.length,fP _,rfl,F1,Z,hs.grow g1,gr.trans g1,Keep.refl,by simpa using e2⟩,?_⟩
 rintro i m τ' H' ⟨hi,rfl,F',Z',sr',gr',kp',ev'⟩
 obtain⟨okI,okS⟩:=gh H' F' kp' gr'.dom
 by_cases hlt:i<its.length
 ·refine .inr ?_
  have hdi:its[i]?=some its[i]:=cN hlt
  obtain⟨go,yl⟩:=okI i _ hdi
  have hdr:its.drop i=its[i]::its.drop (i+1):=jH hlt
  rw [hdr,A0] at ev'
  obtain⟨Z1,b1,ev'⟩:=ah ev'
  obtain⟨o1,b2,ev'⟩:=ah ev'
  cases o1 with
  | nx Z2 =>
   refine⟨go,fun τ2 H2=>∃F2,SR X.K Ge H2 F2 Z2 τ2/\Gr Ge F0 H2 F2/\Keep H1 F1 H2 F2,fun τ2 H2 ⟨F2,q1,q2,q3⟩=>⟨its.length - (i+1),by omega,hlt,rfl,F2,Z2,q1,q2,q3,ev'⟩,λx H3 y=>?_⟩
   obtain⟨F3,g3,rd3⟩:=yl x H3 y
   refine nz (sr'.grow g3) b1 rd3 fun τ4 s4=>?_
   exact qb Ge F0 H3 F3 Z1 τ4 (.nx Z2) _ b2 s4 (gr'.trans g3) fun τ5 H5 F5 k5 g5 s5=>⟨F5,s5,g5,(kp'.trans g3.keep).trans k5⟩
  | rt r =>
   cases ev'
   refine⟨go,λ_ _=>False,λ_ _ z=>z.elim,λx H3 y=>?_⟩
   obtain⟨F3,g3,rd3⟩:=yl x H3 y
   refine nz (sr'.grow g3) b1 rd3 fun τ4 s4=>?_
   exact qb Ge F0 H3 F3 Z1 τ4 (.rt r) _ b2 s4 (gr'.trans g3) en
  | ct Z2 =>
   refine⟨go,fun τ2 H2=>∃F2,SR X.K Ge H2 F2 Z2 τ2/\Gr Ge F0 H2 F2/\Keep H1 F1 H2 F2,fun τ2 H2 ⟨F2,q1,q2,q3⟩=>⟨its.length - (i+1),by omega,hlt,rfl,F2,Z2,q1,q2,q3,ev'⟩,λx H3 y=>?_⟩
   obtain⟨F3,g3,rd3⟩:=yl x H3 y
   refine nz (sr'.grow g3) b1 rd3 fun τ4 s4=>?_
   exact qb Ge F0 H3 F3 Z1 τ4 (.ct Z2) _ b2 s4 (gr'.trans g3) fun τ5 H5 F5 k5 g5 s5=>⟨F5,s5,g5,(kp'.trans g3.keep).trans k5⟩
  | bk Z2 =>
   cases ev'
   refine⟨go,λ_ _=>False,λ_ _ z=>z.elim,λx H3 y=>?_⟩
   obtain⟨F3,g3,rd3⟩:=yl x H3 y
   refine nz (sr'.grow g3) b1 rd3 fun τ4 s4=>?_
   exact qb Ge F0 H3 F3 Z1 τ4 (.bk Z2) _ b2 s4 (gr'.trans g3) fun τ5 H5 F5 k5 g5 s5=>en τ5 H5 F5 (((g1.keep.trans kp').trans g3.keep).trans k5) g5 s5
 ·have hin:i=its.length:=by omega
  subst hin
  rw [List.drop_of_length_le (au _)] at ev'
  cases ev'
  exact .inl ⟨okS,en τ' H' F' (g1.keep.trans kp') gr' sr'⟩
end
end Dw
namespace Dw
open PySem PySem.Spec PyProof.Rows L2
section
variable {call:Nat->List D->Option R}{G:Gx}{k:Nat}
structure AllS (call:Nat->List D->Option R) (G:Gx) (k n:Nat):Prop where
 o:∀(X:Cx) (sc:Scope) (N:List Str) (mt:List Nat) (st:Stmt) (cs:List S),XG call G k X sc N->cS G n sc N mt st=some cs->dG call X st cs
 s:∀(X:Cx) (sc:Scope) (N:List Str) (mt:List Nat) (st:List Stmt) (cs:List S),XG call G k X sc N->fx G n sc N mt st=some cs->fU call X st cs
theorem qJZ (h:fB sc N tg=some t):(∃y q,tg=.Name y q)∨∃es kk q,tg=.Tuple es kk q:=by
 unfold fB at h
 cases ht:fD sc N tg with
 | some t' =>
  cases tg with
  | Name y q=>exact .inl ⟨y,q,rfl⟩
  | Tuple es kk q=>exact .inr ⟨es,kk,q,rfl⟩
  | _=>cases ht
 | none =>
  rw [ht] at h
  cases tg with
  | Name y q=>exact .inl ⟨y,q,rfl⟩
  | Tuple es kk q=>exact .inr ⟨es,kk,q,rfl⟩
  | _=>cases h
theorem yz {e:Expr}{x m:Str}{p2:Pos}(h:oy e=some (x,m,p2)):∃p,e=.Attribute (.Name x p) m p2:=by
 unfold oy at h
 split at h
 ·cases h;exact⟨_,rfl⟩
 ·cases h
theorem qNQ {e:Expr}{x m:Str}{p2 p3:Pos}(h:rR e=some (x,m,p2,p3)):∃p,e=.Call (.Attribute (.Name x p) m p2) [] [] p3:=by
 unfold rR at h
 split at h
 ·obtain⟨⟨a,b,c⟩,e1,e2⟩:=yab.mp h
  obtain⟨p,rfl⟩:=yz e1
  cases e2
  exact⟨_,rfl⟩
 ·cases h
theorem zL {e:Expr}{x:Str}(h:pD e=some x):∃p,e=.Name x p:=by
 unfold pD at h
 split at h
 ·cases h;exact⟨_,rfl⟩
 ·cases h
theorem qMX {tg e:Expr}{es:List Expr}(h:sh tg e=some es):∃kk q,tg=.Tuple es kk q/\((∃f as ks pc,e=.Call f as ks pc)∨∃x p,e=.Name x p):=by
 unfold sh at h
 split at h
 ·cases h
  exact⟨_,_,rfl,.inl ⟨_,_,_,_,rfl⟩⟩
 ·cases h
  exact⟨_,_,rfl,.inr ⟨_,_,rfl⟩⟩
 ·cases h
theorem zR (hG:∀x∈cf,G.defs.lookup x=none) (g:XG call G k X sc N) {mt:List Nat}{x:Str}{e:Expr}{cs:List S}{p pos:Pos}(h:oz G n sc N mt x e=some cs):dG call X (.Assign [.Name x p] e pos) cs:=by
 unfold oz at h
 split at h
 ·rename_i hx
  obtain⟨i,e1,e2⟩:=ah h
  split at e2
  ·cases e2
  ·rename_i h0
   obtain⟨c,e3,e4⟩:=ah e2
   cases e4
   exact h9 (qNq hG g (λz y=>h0 (by rw [z,y];rfl)) e3 hx e1)
 ·cases h
theorem qNi (hG:∀x∈cf,G.defs.lookup x=none) (B:AllS call G k n):AllS call G k (n+1):=by
 have A:=j3 (call:=call) (k:=k) hG n
 constructor
 ·intro X sc N mt st cs g h
  unfold cS at h
  split at h
  ·rename_i tg e pos
   unfold Bv at h
   split at h
   ·rename_i x m p2 p3 hp
    obtain⟨p,rfl⟩:=qNQ hp
    split at h
    ·rename_i hm
     rw [aP] at hm
     obtain⟨t,e1,e2⟩:=ah h
     obtain⟨i,e3,e4⟩:=ah e2
     cases e4
     have hk:=qJZ e1
     rcases hk with ⟨y,q,rfl⟩|⟨es,kk,q,rfl⟩
     ·exact zq g (by simpa using hm.1) hm.2 e1 e3 rfl rfl rfl
     ·exact zq g (by simpa using hm.1) hm.2 e1 e3 rfl rfl rfl
    ·obtain⟨y,e1,h⟩:=ah h
     obtain⟨q,rfl⟩:=zL e1
     exact zR hG g h
   ·split at h
    ·rename_i es ht
     obtain⟨is,e1,e2⟩:=ah h
     obtain⟨c,e3,e4⟩:=ah e2
     cases e4
     obtain⟨kk,q,rfl,⟨f,as,ks,pc,rfl⟩|⟨x,p,rfl⟩⟩:=qMX ht
     ·exact h9 (qKm A g e1 e3)
     ·exact h9 (qHU A g e1 e3)
    obtain⟨x,e1,h2⟩:=ah h
    clear h
    obtain⟨q,rfl⟩:=zL e1
    exact zR hG g h2
  ·rename_i f e p3 pos
   split at h
   ·rename_i x m p2 hp
    obtain⟨p,rfl⟩:=yz hp
    split at h
    ·rename_i hm
     rw [aP] at hm
     obtain⟨i,e1,e2⟩:=ah h
     obtain⟨c,e3,e4⟩:=ah e2
     cases e4
     exact h9 (qNC A g (by simpa using hm.1) hm.2 e1 e3)
    ·split at h
     ·rename_i hm
      rw [aP] at hm
      obtain⟨i,e1,e2⟩:=ah h
      obtain⟨c,e3,e4⟩:=ah e2
      cases e4
      exact h9 (qNy A g (by simpa using hm.1) hm.2 e1 e3)
     ·cases h
   ·cases h
  ·rename_i t body pos
   obtain⟨c,e1,e2⟩:=ah h
   obtain⟨cb,e3,e4⟩:=ah e2
   cases e4
   exact h9 (qHL A g e1 (B.s X sc N mt body cb g e3))
  ·rename_i e pos
   obtain⟨c,e1,e2⟩:=ah h
   cases e2
   exact h9 (qNt hG g e1)
  ·rename_i t a b pos
   obtain⟨c,e1,e2⟩:=ah h
   obtain⟨ca,e3,e4⟩:=ah e2
   obtain⟨cb,e5,e6⟩:=ah e4
   cases e6
   exact h9 (qPE A g e1 (B.s X sc N mt a ca g e3) (B.s X sc N mt b cb g e5))
  ·rename_i tg it body pos
   obtain⟨t,e1,e2⟩:=ah h
   obtain⟨cb,e3,e4⟩:=ah e2
   have hb:=B.s X sc N mt body cb g e3
   have hsr:=wd (sc:=sc) it
   cases hq:jR sc it with
   | seq s =>
    rw [hq] at e4 hsr
    obtain⟨x,q1,q2⟩:=ah e4
    cases q2
    cases hsr
    refine h9 (tw g e1 (zt A g q1) (tW q1 X.env) hb fun Z o hv=>?_)
    rw [zD] at hv
    obtain⟨r,r1,r2⟩:=ah hv
    obtain⟨its,r3,r4⟩:=ah r2
    exact⟨its,by simp only [r1];exact r3,r4⟩
   | rng rs =>
    rw [hq] at e4 hsr
    obtain⟨xs,q1,q2⟩:=ah e4
    cases q2
    cases hsr with
    | rng f p as pos2 hg hf hl =>
     refine h9 (tw g e1 (zr (p:=p) (pos:=pos2) A g hG hg hf hl q1) (λ_=>rfl) hb fun Z o hv=>?_)
     rw [zC] at hv
     obtain⟨r,r1,r2⟩:=ah hv
     obtain⟨its,r3,r4⟩:=ah r2
     exact⟨its,by simp only [r1];exact r3,r4⟩
   | zip a b =>
    rw [hq] at e4 hsr
    simp only at e4
    split at e4
    ·rename_i h2
     obtain⟨x,q1,q2⟩:=ah e4
     obtain⟨y,q3,q4⟩:=ah q2
     cases q4
     obtain⟨es,kk,tp,rfl⟩:=tI (tH e1 h2) h2
     cases hsr with
     | zip f p a b pos2 hg hf =>
      refine h9 (tw g e1 (zu (p:=p) (pos:=pos2) A g hG hg hf q1 q3) (λ_=>rfl) hb fun Z o hv=>?_)
      rw [zE] at hv
      obtain⟨z,r1,r2⟩:=ah hv
      obtain⟨z2,r3,r4⟩:=ah r2
      obtain⟨xs,r5,r6⟩:=ah r4
      obtain⟨ys,r7,r8⟩:=ah r6
      exact⟨bY xs ys,by simp only [r1,r3,r5,r7,bN],r8⟩
    ·cases e4
   | enm a=>rw [hq] at e4;cases e4
   | rev rs=>rw [hq] at e4;cases e4
  ·cases h
 ·intro X sc N mt st cs g h
  unfold fx at h
  split at h
  ·cases h;exact zm
  ·rename_i a r
   obtain⟨x,e1,e2⟩:=ah h
   obtain⟨y,e3,e4⟩:=ah e2
   cases e4
   exact uJ (B.o X sc N mt a x g e1) (B.s X sc N mt r y g e3)
theorem qNh:AllS call G k 0:=by
 constructor
 ·intro X sc N mt st cs _ h;cases h
 ·intro X sc N mt st cs _ h;cases h
theorem pV (hG:∀x∈cf,G.defs.lookup x=none):∀n,AllS call G k n
 | 0=>qNh
 | n+1=>qNi hG (pV hG n)
end
structure FunD (K:Qb) (x qual:Str) (st:Stmt) (f:Addr) (fd:FuncData):Prop where
 ex:∃(oc:Value) (od:Option Addr) (dV kV doc pm:Value) (an:Option Addr) (cdv ct:Value) (osl:Array (Option Value)),
  fd=PySem.W.fnOf x qual (f9 st) (cw st) (aE st) dV kV doc pm an cdv ct/\K.lookup f=some ⟨oc,od,.func fd,osl⟩/\PySem.W.codeIn K cdv qual=true
 kp:PySem.W.keepIn K (.ref f)=true
theorem yX {K:Qb}{x qual:Str}{st:Stmt}{f:Addr}{fd:FuncData}(F:Fun K x qual st f fd):FunD K x qual st f fd:=by
 obtain⟨⟨oc,od,kV,doc,pm,an,cdv,ct,osl,h1,h2,h3⟩,kp⟩:=F
 exact⟨⟨oc,od,.none,kV,doc,pm,an,cdv,ct,osl,h1,h2,h3⟩,kp⟩
theorem FunD.ok {w:World}{K:Qb}{mg:Str->Option Value}{base:Heap}{x qual:Str}{st:Stmt}{f:Addr}{fd:FuncData}{N ps:List Str}{k:Nat}{sp:Sp}(F:FunD K x qual st f fd) (S:FnScope N ps (aE st)) (len:∀vs H Q E,sp vs H Q E->vs.length=ps.length)
  (body:∀(cdv:Value) (A:Around) (outer:List Env) (s:Shared) (H:Hp) (vs:List V) (Q:VK) (E:XK),Room k (A.deeper (envOfC qual (aE st) s.heap.objs.size f cdv))->sp vs H Q E ->
   ∃t,PSs (je fO P w K mg base N qual (aE st) f cdv A outer s H E).nox (cw st) t/\t { nx:=λ_ H'=>Q .non H',rt:=Q } (start N vs) H):FnOk P w K mg base fO (k+1) f fd ps sp:=by
 obtain⟨oc,od,dV,kV,doc,pm,an,cdv,ct,osl,rfl,lk,hcd⟩:=F.ex
 refine xb lk hcd S len λA outer s H vs Q E hr h=>?_
 obtain⟨t,h1,h2⟩:=body cdv A outer s H vs Q E hr h
 exact⟨t,h1.nox,h2⟩
structure DefIn (K:Qb) (mg:Str->Option Value) (G:Gx) (tab:List Fd) (fuel:Nat) (x:Str) (i:Nat):Prop where
 ex:∃(a:Addr) (fdt:FuncData) (st:Stmt) (ps:List Str) (fd:Fd),mg x=some (.ref a)/\FunD K x x st a fdt/\Binds K fdt ps []/\FnScope (bZ (aE st)) ps (aE st) /\
  fx G fuel (aE st) (bZ (aE st)) (gY fuel (bZ (aE st)) (cw st)) (cw st)=some fd.body/\tab[i]?=some fd/\fd.np=ps.length/\fd.ns=(bZ (aE st)).length/\∀m d,G.dfl.lookup x=some (m,d)->∃t,Binds K fdt ps [.int d t]
theorem uH (ht:tab[i]?=some fd) (h:aH tab n i ds=some r):ds.length=fd.np:=by
 cases n with
 | zero=>cases h
 | succ n =>
  rw [nC ht] at h
  unfold jl at h
  split at h
  ·assumption
  ·cases h
section
variable {P:Program}{w:World}{K:Qb}{mg:Str->Option Value}{base:Heap}{G:Gx}{tab:List Fd}{fuel:Nat}
theorem pZ:∀{b:Bool}{ds:List D}{m i:Nat}{r:R},ao (cj b ds++List.replicate m none) i=some r->∃d,ds[i]?=some d/\r=(jM d,d)
 | b,[],m,i,r,h=>by
  unfold ao at h
  rw [show cj b []=[] by cases b<;>rfl,ie,kL] at h
  split at h<;>cases h
 | b,d::ds,m,i,r,h=>by
  cases i with
  | zero =>
   refine⟨d,rfl,?_⟩
   cases b<;>cases d<;>first|(cases h;rfl)|cases h
  | succ i =>
   have:∃b',ao (cj b' ds++List.replicate m none) i=some r:=by
    cases b<;>cases d<;>first|exact⟨false,h⟩|exact⟨true,h⟩
   obtain⟨b',h'⟩:=this
   obtain⟨d',q1,q2⟩:=pZ h'
   exact⟨d',by simpa using q1,q2⟩
theorem tK:∀{ds:List D}{m i:Nat}{d:D},ao (cj true ds++List.replicate m none) i=some (true,d)->False
 | [],m,i,d,h=>by
  unfold ao at h
  rw [show cj true []=[] from rfl,ie,kL] at h
  split at h<;>cases h
 | x::ds,m,i,d,h=>by
  cases i with
  | zero=>cases x<;>cases h
  | succ i=>exact tK (ds:=ds) (m:=m) (i:=i) (d:=d) (by cases x<;>exact h)
theorem yw:∀{ds:List D}{m i j:Nat}{d e:D},ao (cj false ds++List.replicate m none) i=some (true,d)->ao (cj false ds++List.replicate m none) j=some (true,e)->i=j
 | [],m,i,j,d,e,h,h'=>by
  unfold ao at h
  rw [show cj false []=[] from rfl,ie,kL] at h
  split at h<;>cases h
 | x::ds,m,i,j,d,e,h,h'=>by
  cases hx:jM x with
  | true =>
   cases x with
   | dct m' ks =>
    cases i with
    | zero =>
     cases j with
     | zero=>rfl
     | succ j=>exact Qn h' (λz=>tK (ds:=ds) (m:=m) (i:=j) z)
    | succ i=>exact Qn h (λz=>tK (ds:=ds) (m:=m) (i:=i) z)
   | _=>cases hx
  | false =>
   have e1:cj false (x::ds)=some (false,x)::cj false ds:=by cases x<;>first|rfl|cases hx
   rw [e1] at h h'
   cases i with
   | zero=>cases h
   | succ i =>
    cases j with
    | zero=>cases h'
    | succ j=>rw [yw (ds:=ds) (m:=m) (i:=i) (j:=j) h h']
theorem yv:∀(b:Bool) (ds:List D),(cj b ds).length=ds.length
 | b,[]=>by cases b<;>rfl
 | b,d::ds=>by cases b<;>cases d<;>(show (cj _ ds).length+1=_;rw [yv];rfl)
theorem uK (tb:TB H) (dom:∀a,H a=none->¬F a) (h:RGs K H F ds vs) (hm:m=N.length - vs.length):SR K ⟨H,none,tb⟩ H F (cj false ds++List.replicate m none) (L2.start N vs):=by
 have hl:=RGs.length h
 have at_:∀{i:Nat} {v:V},vs[i]?=some v->(L2.start N vs)[i]?=some (some v):=λ{i v} q1=>by
  unfold L2.start
  obtain⟨hi,_⟩:=yal.mp q1
  rw [jG (by simpa using hi),bU,q1]
  rfl
 refine⟨by simp [L2.start,hl,hm,yv],Same.refl H,dom,λi d e=>?_,λi d e hd=>?_,λi j d e h1 h2 _=>yw h1 h2,λi m' ks e=>?_,λ_ _ z=>nomatch z⟩
 ·obtain⟨d',e1,e2⟩:=pZ e
  have hd:jM d'=false:=(mi e2).1.symm
  have hd2:d=d':=(mi e2).2
  subst hd2
  obtain⟨v,q1,q2⟩:=RGs.get h e1
  refine⟨v,at_ q1,q2.elim (λz=>z) λ⟨a,ks,z,_⟩=>?_⟩
  subst z
  cases hd
 ·obtain⟨d',e1,e2⟩:=pZ e
  have hd1:true=jM d':=(mi e2).1
  have hd2:d=d':=(mi e2).2
  subst hd2
  rw [hd] at hd1
  cases hd1
 ·obtain⟨d',e1,e2⟩:=pZ e
  have hd2:D.dct m' ks=d':=(mi e2).2
  subst hd2
  obtain⟨v,q1,q2⟩:=RGs.get h e1
  rcases q2 with z|⟨a,ks',z1,z2,z3,z4⟩
  ·exact False.elim z
  ·cases z1
   subst z2
   exact⟨a,at_ q1,z3,z4,λz=>nomatch z⟩
theorem yW:FnOk P w K mg base fO 2 a fdt ps (jI K ps.length (aH tab 0 i)):=
 ⟨λ_ _ _ _ h=>h.1,λA outer s H args us vs Q E _ _ _ _ h=>by obtain⟨_,F,ds,r,_,_,_,z,_⟩:=h;cases z⟩
structure LamIn (G:Gx) (tab:List Fd) (fuel:Nat) (j:Nat) (L:LamD):Prop where
 ex:∃(ps:List Str) (ce:C) (fd:Fd),tab[j]?=some fd/\fd.body=[.ret ce]/\fd.np=ps.length+(aF L.sc).length/\fd.ns=ps.length+(aF L.sc).length/\cE G fuel L.sc (ps++aF L.sc) L.e=some ce/\(ps++aF L.sc).Nodup/\(∀i,ce≠.v i) /\
  L.sc.kind=.function/\L.sc.isCoroutine=false/\L.sc.isGenerator=false/\(∀y∈L.sc.names,y.2≠.cell)/\(∀x∈ps,L.sc.names.lookup x=some .local)/\(∀y∈aF L.sc,L.sc.names.lookup y=some .free) /\
  ∀clos pm c ctv (us:List Value),us.length=ps.length->bindArgs (PySem.W.kla_fn "<lambda>" L.q L.la L.e L.sc clos pm (.ref c) ctv) ⟨us,[]⟩=pure (ps.zip us)
theorem qLh {call:Nat->List D->Option R}{k:Nat}{j:Nat}{L:LamD}(hn:∀as,call j as=none) (hL:LamIn G tab fuel j L):Dfl call k P w K mg base j L:=by
 obtain⟨ps,ce,fd,t1,t2,t3,t4,t5,t6,t7,s1,s2,s3,s4,s5,s6,s7⟩:=hL.ex
 exact⟨ps,s1,s2,s3,s4,s5,s6,(ycg.mp t6).1,s7,λas r h=>(by rw [hn] at h;cases h),λf c clos A outer s H0 hr=>⟨λ_ _ _=>False,λ_ _ _ _ _ _ z=>z.elim,λH F es ds ws vs r Q tb dom hcall=>by rw [hn] at hcall;cases hcall⟩⟩
variable {P:Program}{w:World}{K:Qb}{mg:Str->Option Value}{base:Heap}{G:Gx}{tab:List Fd}{fuel:Nat} in
theorem qO0 (hb:∀x∈cf,mg x=none) (hc:CnD P w K mg G) {call:Nat->List D->Option R}{k:Nat}
  (hdf:∀x i,G.defs.lookup x=some i->∀X:Cx,X.prog=P->X.w=w->X.K=K->X.mg=mg->X.base=base->Dfn G call k X x i) (hlf:∀i L,lamX.lookup i=some L->Dfl call k P w K mg base i L)
  {L:LamD} {ps:List Str} (nd:(ps++aF L.sc).Nodup) (nc:∀y∈L.sc.names,y.2≠.cell) {f c:Addr} {clos:List (Str×Addr)} {A:Around} {outer:List Env} {s:Shared} {H0:Hp} (hr:Room k (A.deeper (PySem.W.envX L.q L.sc s.heap.objs.size f (.ref c) clos))) :
  XG call G k (kW P w K mg base (ps++aF L.sc) L.q L.sc f (.ref c) clos A outer s H0) L.sc (ps++aF L.sc):=by
 refine⟨rfl,nd,λy h=>?_,λy h=>?_,λy h=>?_,λy h=>?_,rfl,rfl,hr,λy j h=>hdf y j h _ rfl rfl rfl rfl rfl,λy _ h=>hb y h,hc,hlf⟩
 ·unfold jT at h
  simp only [eN,beq_iff_eq] at h
  rcases h with (h|h)|h
  ·exact .inl h
  ·exact .inr (.inl h)
  ·exact .inr (.inr h)
 ·simp only [eN,beq_iff_eq] at h
  rcases h with h|h
  ·exact⟨.inl h,.inr h⟩
  ·exact Qn rfl (nc _ (dF h))
 ·unfold bJ at h
  rw [beq_iff_eq] at h
  exact h
 ·unfold jP at h
  simp only [eN,beq_iff_eq] at h
  exact h
theorem qKX (hG:∀x∈cf,G.defs.lookup x=none) (hb:∀x∈cf,mg x=none) (hc:CnD P w K mg G) {n:Nat}
  (hdf:∀x i,G.defs.lookup x=some i->∀X:Cx,X.prog=P->X.w=w->X.K=K->X.mg=mg->X.base=base->Dfn G (aH tab n) (n+2) X x i) (hlf:∀i L,lamX.lookup i=some L->Dfl (aH tab n) (n+2) P w K mg base i L)
  {j:Nat} {L:LamD} (hL:LamIn G tab fuel j L):Dfl (aH tab (n+1)) (n+3) P w K mg base j L:=by
 obtain⟨px,ce,fd,t1,t2,t3,t4,t5,t6,t7,s1,s2,s3,s4,s5,s6,s7⟩:=hL.ex
 refine⟨px,s1,s2,s3,s4,s5,s6,(ycg.mp t6).1,s7,λas r h=>(uH t1 h).trans t3,λf c clos A outer s H0 hr=>?_⟩
 have g:XG (aH tab n) G (n+2) (kW P w K mg base (px++aF L.sc) L.q L.sc f (.ref c) clos A outer s H0) L.sc (px++aF L.sc):=qO0 hb hc hdf hlf t6 s4 (hr.deeper _)
 obtain⟨t,pt,qt⟩:=((j3 (call:=aH tab n) (k:=n+2) hG fuel).e _ _ _ _ _ g t5).he
 refine⟨t,pt,λH F es ds ws vs r Q tb dom hcall rd rds hw hlen hq=>?_⟩
 rw [nC t1] at hcall
 unfold jl at hcall
 split at hcall
 ·rename_i hal
  obtain⟨o,e1,e2⟩:=ah hcall
  rw [t2,eY] at e1
  obtain⟨o1,e3,e4⟩:=ah e1
  rw [qd] at e3
  obtain⟨r1,e5,e6⟩:=ah e3
  cases e6
  cases e4
  cases e2
  have e5:aa (aH tab n) (cj false (es++ds)++List.replicate (fd.ns - fd.np) none) ce=some r:=by
   cases ce<;>first|exact e5|exact Qn rfl (t7 _)
  have hv:(ws++vs).length=(px++aF L.sc).length:=by simp [hlen,hw]
  have st:L2.start (px++aF L.sc) (ws++vs)=ws.map some++vs.map some:=by
   unfold L2.start
   rw [hv,nY]
   simp
  have sr:=uK (K:=K) (N:=px++aF L.sc) (vs:=ws++vs) (ds:=es++ds) (m:=fd.ns - fd.np) tb dom (RGs.of (RDs.append rd rds)) (by rw [t3,t4,hv];simp)
  rw [st] at sr
  exact qt ⟨H,none,tb⟩ H F _ _ r Q e5 sr hq
 ·cases hcall
def wm (K:Qb) (mg:Str->Option Value) (Pt:Addr):Prop:=∃bm o,mg "__builtins__"=some (.ref bm)/\bm≠builtinsNs/\bm≠mainGlobals/\bm≠Pt/\K.lookup bm=some o/\o.cls=.type "module"/\o.dict=some builtinsNs/\o.data=.plain
def wK (G:Gx) (fuel:Nat) (sc:Scope) (N:List Str) (mt:List Nat) (sL:Stmt) (sC:List S) (e:Expr) (c:C):Prop:=
 (∃p,sL=.Return (some e) p/\sC=[.ret c])∨(∃x py sp i keep,sL=.Assign [.Name x py] e sp/\sC=[.set i keep c]/\(sc.names.lookup x == some .local||sc.names.lookup x == some .cell)=true/\bQ N x=some i/\(keep=true->i≠0)) ∨
 ∃q sp a ca,sL=.If (.UnaryOp .Not e q) a [] sp/\sC=[.ite (.not c) ca []]/\fx G fuel sc N mt a=some ca
def vp (G:Gx) (fuel:Nat) (sc:Scope) (N:List Str):List Expr->List C->Prop
 | [],[]=>True
 | e::es,c::cs=>cE G fuel sc N e=some c/\vp G fuel sc N es cs
 | _,_=>False
structure LamBody (G:Gx) (fuel:Nat) (sc:Scope) (N:List Str) (mt:List Nat) (body:List Stmt) (cb:List S) (L:LamD) (j:Nat):Prop where
 ex:∃(pre post:List Stmt) (pre' post':List S) (sL:Stmt) (sC:List S) (g:Str) (p1 p2:Pos) (es:List Expr) (cs:List C) (ig:Nat) (ks:List Nat),body=pre++sL::post/\cb=pre'++(sC++post')/\fx G fuel sc N mt pre=some pre'/\fx G fuel sc N mt post=some post' /\
  wK G fuel sc N mt sL sC (.Call (.Name g p1) (es++[.Lambda L.la L.e L.sc L.pos]) [] p2) (.lamc ig cs j ks)/\G.defs.lookup g=some ig/\bJ sc g=true/\(g == ("__debug__":Str))=false/\vp G fuel sc N es cs/\cI (iu sc N) (aF L.sc)=some ks
structure LdIn (K:Qb) (mg:Str->Option Value) (G:Gx) (tab:List Fd) (fuel:Nat) (x:Str) (i:Nat):Prop where
 ex:∃(a c:Addr) (st:Stmt) (ps:List Str) (fd:Fd) (oc dV kV doc pm ct:Value) (od an:Option Addr) (osl:Array (Option Value)) (j:Nat) (L:LamD),mg x=some (.ref a)/\PySem.W.keepIn K (.ref a)=true /\
  K.lookup a=some ⟨oc,od,.func Ch,osl⟩/\Binds K Ch ps []/\PySem.W.codeIn K (.ref c) x=true/\PySem.W.codeHdIn K c L.P=true/\wm K mg L.P /\
  FnScope (bZ (aE st)) ps (aE st)/\tab[i]?=some fd/\fd.np=ps.length/\fd.ns=(bZ (aE st)).length /\
  LamBody G fuel (aE st) (bZ (aE st)) (gY fuel (bZ (aE st)) (cw st)) (cw st) fd.body L j/\lamX.lookup j=some L/\ScOk L.sc/\x++".<locals>.<lambda>"=L.q/\(∀env,defaultsOf L.la env=([],[])) /\
  ∀m d,G.dfl.lookup x=some (m,d)->∃t,Binds K Ch ps [.int d t]
structure Stp (P:Program) (w:World) (K:Qb) (mg:Str->Option Value) (base:Heap) (G:Gx) (tab:List Fd) (n:Nat):Prop where
 d:∀x i,G.defs.lookup x=some i->∀X:Cx,X.prog=P->X.w=w->X.K=K->X.mg=mg->X.base=base->Dfn G (aH tab n) (n+2) X x i
 l:∀i L,lamX.lookup i=some L->Dfl (aH tab n) (n+2) P w K mg base i L
theorem yV (hG:∀x∈cf,G.defs.lookup x=none) (hb:∀x∈cf,mg x=none) (hc:CnD P w K mg G) {n:Nat}(S:Stp P w K mg base G tab n) {x qn:Str}{i:Nat}{a:Addr}{fdt:FuncData}{st:Stmt}{ps:List Str}{fd:Fd}(Fn:FunD K x qn st a fdt)
  (Sc:FnScope (bZ (aE st)) ps (aE st)) (hcs:fx G fuel (aE st) (bZ (aE st)) (gY fuel (bZ (aE st)) (cw st)) (cw st)=some fd.body) (ht:tab[i]?=some fd) (hp:fd.np=ps.length) (hn:fd.ns=(bZ (aE st)).length) :
  FnOk P w K mg base fO (n+3) a fdt ps (jI K ps.length (aH tab (n+1) i)):=by
 have gg:∀(cdv:Value) (A:Around) (outer:List Env) (s:Shared) (H:Hp) (E:XK),Room (n+2) (A.deeper (envOfC qn (aE st) s.heap.objs.size a cdv))->XG (aH tab n) G (n+2) (je fO P w K mg base (bZ (aE st)) qn (aE st) a cdv A outer s H E).nox (aE st) (bZ (aE st)):=λcdv A outer s H E hr=>by
  refine⟨rfl,Sc.nd,λy h=>?_,λy h=>?_,λy h=>?_,λy h=>?_,rfl,rfl,hr,λy j h=>S.d y j h _ rfl rfl rfl rfl rfl,λy _ h=>hb y h,hc,S.l⟩
  ·unfold jT at h
   simp only [eN,beq_iff_eq] at h
   rcases h with (h|h)|h
   ·exact .inl h
   ·exact .inr (.inl h)
   ·exact .inr (.inr h)
  ·simp only [eN,beq_iff_eq] at h
   exact⟨h,.inl rfl⟩
  ·unfold bJ at h
   rw [beq_iff_eq] at h
   exact h
  ·unfold jP at h
   simp only [eN,beq_iff_eq] at h
   exact h
 refine Fn.ok Sc (λvs H Q E h=>h.1) (λcdv A outer s H vs Q E hr h=>?_)
 obtain⟨hvl,F,ds,r,tb,dom,rds,hcall,hq⟩:=h
 have hlen:=RGs.length rds
 rw [nC ht] at hcall
 unfold jl at hcall
 split at hcall
 ·rename_i hal
  obtain⟨o,e1,e2⟩:=ah hcall
  obtain⟨t,pt,qt⟩:=(pV (call:=aH tab n) (k:=n+2) hG fuel).s _ _ _ _ _ _ (gg cdv A outer s H E hr) hcs
  refine⟨t,pt,qt ⟨H,none,tb⟩ F H F _ _ o _ e1 (uK tb dom rds (by rw [hp,hn,hvl])) (Gr.refl dom) ?_⟩
  cases o with
  | nx Z' =>
   cases e2
   exact fun τ' H' F' _ g' _=>hq .non H' F' g' rfl
  | rt r' =>
   cases e2
   exact λv H' F' g' rr=>hq v H' F' g' rr
  | bk _=>cases e2
  | ct _=>cases e2
 ·cases hcall
theorem xp {call:Nat->List D->Option R}{k:Nat}{X:Cx}{sc:Scope}{N:List Str}(AE:∀(X:Cx) (sc:Scope) (N:List Str) (e:Expr) (c:C),XG call G k X sc N->cE G fuel sc N e=some c->Ok call X e c) (g:XG call G k X sc N):∀{es:List Expr}{cs:List C},vp G fuel sc N es cs->pd call X es cs
 | [],[],_=>trivial
 | _::_,_::_,⟨h,r⟩=>⟨hX h,(AE _ _ _ _ _ g h).he,xp AE g r⟩
theorem qQE {call:Nat->List D->Option R}{k:Nat}{X:Cx}{sc:Scope}{N:List Str}{mt:List Nat}{sL:Stmt}{sC:List S}{f:Str}{p sp:Pos}{as:List Expr}{i j:Nat}{cs:List C}{ks:List Nat}(g:XG call G k X sc N) (AS:∀(X:Cx) (sc:Scope) (N:List Str) (mt:List Nat) (st:List Stmt) (cs:List S),XG call G k X sc N->fx G fuel sc N mt st=some cs->fU call X st cs)
  (he:SndE call X (.Call (.Name f p) as [] sp) (.lamc i cs j ks)) (h:wK G fuel sc N mt sL sC (.Call (.Name f p) as [] sp) (.lamc i cs j ks)):dG call X sL sC:=by
 rcases h with ⟨q,rfl,rfl⟩|⟨x,py,sq,m,keep,rfl,rfl,hx,hsl,h0⟩|⟨q,sq,a,ca,rfl,rfl,ha⟩
 ·exact yd he (λ⟨_,z⟩=>nomatch z)
 ·obtain⟨l1,l2⟩:=jZ g hx
  obtain⟨te,pe,qe⟩:=he
  exact yh h0 ⟨_,xP (i:=m) (by rw [g.hN];exact g.nd) (by rw [g.hN];exact iJ hsl) l1 pe rfl l2,λGe H F Z τ r Dn h1 h2 h3=>qe Ge H F Z τ r _ h1 h2 h3⟩
 ·exact wW (zo he (he.test λ_=>rfl)).2 (AS _ _ _ _ _ _ g ha) zm
theorem zw {call:Nat->List D->Option R}{k:Nat}{X:Cx}{sc:Scope}{N:List Str}{mt:List Nat}(hG:∀x∈cf,G.defs.lookup x=none) (g:XG call G k X sc N) {rest:List Stmt}{rc:List S}:∀{n:Nat}{pre:List Stmt}{pc:List S},fx G n sc N mt pre=some pc->fU call X rest rc->fU call X (pre++rest) (pc++rc)
 | n,[],pc,h,hr=>by
  cases n with
  | zero=>cases h
  | succ n=>cases h;exact hr
 | n,s::pre,pc,h,hr=>by
  cases n with
  | zero=>cases h
  | succ n =>
   obtain⟨x,e1,e2⟩:=ah h
   obtain⟨y,e3,e4⟩:=ah e2
   cases e4
   rw [bE]
   exact uJ ((pV hG n).o _ _ _ _ _ _ g e1) (zw hG g e3 hr)
theorem qOi (hG:∀x∈cf,G.defs.lookup x=none) (hb:∀x∈cf,mg x=none) (hc:CnD P w K mg G) (kb:K.In base) {n:Nat}(S:Stp P w K mg base G tab n) {x:Str}{i:Nat}{a c:Addr}{st:Stmt}{ps:List Str}{fd:Fd}{oc dV kV doc pm ct:Value}{od an:Option Addr}{osl:Array (Option Value)}{j:Nat}{L:LamD}
  (lk:K.lookup a=some ⟨oc,od,.func Ch,osl⟩) (hcd:PySem.W.codeIn K (.ref c) x=true) (hch:PySem.W.codeHdIn K c L.P=true) (hbm:wm K mg L.P)
  (Sc:FnScope (bZ (aE st)) ps (aE st)) (ht:tab[i]?=some fd) (hp:fd.np=ps.length) (hn:fd.ns=(bZ (aE st)).length)
  (b1:LamBody G fuel (aE st) (bZ (aE st)) (gY fuel (bZ (aE st)) (cw st)) (cw st) fd.body L j) (b8:lamX.lookup j=some L) (b9:ScOk L.sc) (b11:x++".<locals>.<lambda>"=L.q) (b12:∀env,defaultsOf L.la env=([],[])) :
  FnOk P w K mg base fO (n+3) a Ch ps (jI K ps.length (aH tab (n+1) i)):=by
 have gg:∀(A:Around) (outer:List Env) (s:Shared) (H:Hp) (E:XK),Room (n+2) (A.deeper (envOfC x (aE st) s.heap.objs.size a (.ref c)))->XG (aH tab n) G (n+2) (je fO P w K mg base (bZ (aE st)) x (aE st) a (.ref c) A outer s H E).nox (aE st) (bZ (aE st)):=λA outer s H E hr=>by
  refine⟨rfl,Sc.nd,λy h=>?_,λy h=>?_,λy h=>?_,λy h=>?_,rfl,rfl,hr,λy j h=>S.d y j h _ rfl rfl rfl rfl rfl,λy _ h=>hb y h,hc,S.l⟩
  ·unfold jT at h
   simp only [eN,beq_iff_eq] at h
   rcases h with (h|h)|h
   ·exact .inl h
   ·exact .inr (.inl h)
   ·exact .inr (.inr h)
  ·simp only [eN,beq_iff_eq] at h
   exact⟨h,.inl rfl⟩
  ·unfold bJ at h
   rw [beq_iff_eq] at h
   exact h
  ·unfold jP at h
   simp only [eN,beq_iff_eq] at h
   exact h
 refine xb lk hcd Sc (λvs H Q E h=>h.1) (λA outer s H vs Q E hr h=>?_)
 obtain⟨hvl,F,ds,r,tb,dom,rds,hcall,hq⟩:=h
 rw [nC ht] at hcall
 unfold jl at hcall
 split at hcall
 ·rename_i hal
  obtain⟨o,e3,e4⟩:=ah hcall
  have xg:=gg A outer s H E hr
  have AE:=(j3 (call:=aH tab n) (k:=n+2) hG fuel).e
  obtain⟨bm,bo,m1,m2,m3,m4,m5,m6,m7,m8⟩:=hbm
  obtain⟨pre,post,pre',post',sL,sC,g,p1,p2,es,cs,ig,ks,q1,q2,q3,q4,q5,q6,q7,q8,q9,q10⟩:=b1.ex
  have AS:=(pV (call:=aH tab n) (k:=n+2) hG fuel).s
  have he:=qKi (p:=p1) (pos:=p2) xg q6 q7 q8 (xp AE xg q9) b8 b9 q10 ⟨by rw [<-b11];rfl,b12 _,⟨c,rfl,PySem.W.codeHd_of_K kb hch⟩,⟨bm,bo,m1,m2,m3,m4,kb _ _ m5,m6,m7,m8⟩,λ_=>rfl⟩
  have h1:=qQE (sp:=p2) xg AS he q5
  obtain⟨t,pt,qt⟩:=zw hG xg q3 (uJ h1 (AS _ _ _ _ _ _ xg q4))
  rw [<-q1] at pt
  rw [q2] at e3
  refine⟨t,pt.nox,qt ⟨H,none,tb⟩ F H F _ _ o _ e3 (uK tb dom rds (by rw [hp,hn,hvl])) (Gr.refl dom) ?_⟩
  cases o with
  | nx Z' =>
   cases e4
   exact fun τ' H' F' _ g' _=>hq .non H' F' g' rfl
  | rt r' =>
   cases e4
   exact λv H' F' g' rr=>hq v H' F' g' rr
  | bk _=>cases e4
  | ct _=>cases e4
 ·cases hcall
theorem stp (hG:∀x∈cf,G.defs.lookup x=none) (hb:∀x∈cf,mg x=none) (hc:CnD P w K mg G) (kb:K.In base) (hd:∀x i,G.defs.lookup x=some i->DefIn K mg G tab fuel x i∨LdIn K mg G tab fuel x i) (qH:∀j L,lamX.lookup j=some L->LamIn G tab fuel j L) (n:Nat):Stp P w K mg base G tab n:=by
 induction n with
 | zero =>
  refine⟨λx i h X e1 e2 e3 e4 e5=>?_,λi L h=>qLh (λ_=>rfl) (qH i L h)⟩
  ·subst e1 e2 e3 e4 e5
   rcases hd x i h with h|h
   ·obtain⟨a2,fdt2,st2,ps2,fd2,q1,q2,q3,q4,q5,q6,q7,q8,q9⟩:=h.ex
    exact⟨a2,fdt2,ps2,q1,q2.kp,q3,yW,λds r hr=>(nomatch hr),q9⟩
   ·obtain⟨a,c,st,ps,fd,oc,dV,kV,doc,pm,ct,od,an,osl,j,L,q1,q2,q3,q4,q5,q6,q7,q8,q9,q10,q11,b1,b8,b9,b11,b12,b13⟩:=h.ex
    exact⟨a,_,ps,q1,q2,q4,yW,λds r hr=>(nomatch hr),b13⟩
 | succ n S =>
  refine⟨λx i h X e1 e2 e3 e4 e5=>?_,λi L h=>qKX hG hb hc S.d S.l (qH i L h)⟩
  ·subst e1 e2 e3 e4 e5
   rcases hd x i h with h|h
   ·obtain⟨a2,fdt2,st2,ps2,fd2,q1,q2,q3,q4,q5,q6,q7,q8,q9⟩:=h.ex
    exact⟨a2,fdt2,ps2,q1,q2.kp,q3,yV hG hb hc S q2 q4 q5 q6 q7 q8,λds r hr=>(uH q6 hr).trans q7,q9⟩
   ·obtain⟨a,c,st,ps,fd,oc,dV,kV,doc,pm,ct,od,an,osl,j,L,q1,q2,q3,q4,q5,q6,q7,q8,q9,q10,q11,b1,b8,b9,b11,b12,b13⟩:=h.ex
    exact⟨a,_,ps,q1,q2,q4,qOi hG hb hc kb S q3 q5 q6 q7 q8 q9 q10 q11 b1 b8 b9 b11 b12,λds r hr=>(uH q9 hr).trans q10,b13⟩
theorem qQD {n i:Nat}(h:∀ns:List Int,ns.length<=63->(∀i∈ns,2 * i.natAbs<jg)->aH tab n i [.lst CC]=some (false,.bl true)) (H:Hp) (tb:TB H) (a:Addr) (ns:List Int) (hl:ns.length<=63) (hw:∀i∈ns,2 * i.natAbs<jg) (hS:SqL K H a (ns.map V.int)) (E:XK):jI K 1 (aH tab n i) [.ref a] H (λv H'=>v=.bl true/\TB H') E:=by
 rcases hS with hS|hS
 ·refine⟨rfl,λb=>b=a,[.lst CC],(false,.bl true),tb,λb e z=>?_,⟨.ref a,[],rfl,.inl ⟨a,ns.map V.int,rfl,.inl ⟨rfl,hS⟩,RDs.of_ints ns⟩,rfl⟩,h ns hl hw,λv H' F' g rr=>⟨rr,tb.same g.same⟩⟩
  subst z
  rcases hS with q|⟨o,q⟩<;>(rw [e] at q;cases q)
 ·exact⟨rfl,λ_=>False,[.lst CC],(false,.bl true),tb,λ_ _ z=>z,⟨.ref a,[],rfl,.inl ⟨a,ns.map V.int,rfl,.inr hS,RDs.of_ints ns⟩,rfl⟩,h ns hl hw,λv H' F' g rr=>⟨rr,tb.same g.same⟩⟩
end
def kU (b:Addr):Option HO:=(tbs.find? λt=>t.1 == b).map λt=>.tab t.2.1 t.2.2
theorem AH {b:Addr}{u:HO}(h:kU b=some u):∃t∈tbs,t.1=b/\u=.tab t.2.1 t.2.2:=by
 obtain⟨t,e1,e2⟩:=yab.mp h
 exact⟨t,List.mem_of_find?_eq_some e1,by simpa using List.find?_some e1,e2.symm⟩
theorem qIw {P:Program}{w:World}{K:Qb}{mg mb:Str->Option Value}{k:Nat}{fa a:Addr}{fd:FuncData}{x:Str}{sp:Sp}{s₁:Shared}{vs:List Value}{ns:List Int}
  (KX:K.In s₁.heap) (hns:s₁.heap.Ns mainGlobals mg) (hb:s₁.heap.Ns builtinsNs mb) (hbb:∀x:Str,x≠"__name__"->mb x=Qo x) (hlim:s₁.heap.NoLimit) (hg:s₁.gens=#[])
  (ha:s₁.heap.get? a=some { cls:=.type "list",data:=.seq vs.toArray }) (hi:IntsAre vs ns) (hl:ns.length<=sizeLine) (hr:Room k callerA)
  (htb:TB kU) (hto:∀t∈tbs,s₁.heap.get? t.1=some (PySem.W.tabObj #[])/\isCodeTable s₁.heap t.1/\K.lookup t.1=none)
  (F:∀base:Heap,K.In base->base.Ns mainGlobals mg->FnOk P w K mg base fO k fa fd [x] sp) (hbind:∀(s:Shared) (u:Value),BindsTo s fd ⟨[u],[]⟩ [(x,u)])
  (hsp:∀H:Hp,TB H->SqL K H a (ns.map V.int)->sp [.ref a] H (λv H'=>v=.bl true/\TB H') λ_ _ _=>False) :
  codeAny (model P w) callerA (.call (.ref fa) ⟨[.ref a],[]⟩) (λr s'=>r=.ok (.ret (.bool true))/\OldK s₁.heap s'.heap/\s'.os=s₁.os/\AllBare s'.gens) s₁:=by
 have rv:=uF hi
 have nt:kU a=none:=by
  cases q:kU a with
  | none=>rfl
  | some u =>
   obtain⟨t,hm,rfl,_⟩:=AH q
   rw [(hto t hm).1] at ha
   cases ha
 let o0:Obj:={ cls:=.type "list",data:=.seq vs.toArray }
 let H:Hp:=λb=>if b=a/\K.lookup a=none then some (.frz o0 (.lst (ns.map V.int))) else kU b
 have cs:∀b u,H b=some u->(b=a/\K.lookup a=none/\u=.frz o0 (.lst (ns.map V.int)))∨∃t∈tbs,t.1=b/\u=.tab t.2.1 t.2.2:=λb u e=>by
  by_cases z:b=a/\K.lookup a=none
  ·have e':=(Ql z).symm.trans e
   cases e'
   exact .inl ⟨z.1,z.2,rfl⟩
  ·exact .inr (AH ((Qm z).symm.trans e))
 have tb:TB H:=λt hm=>by
  have:¬(t.1=a/\K.lookup a=none):=λz=>by have:=htb t hm;rw [z.1,nt] at this;cases this
  exact (Qm this).trans (htb t hm)
 have hok:HOk P w H s₁.heap:=λb u e=>by
  rcases cs b u e with ⟨rfl,_,rfl⟩|⟨t,hm,rfl,rfl⟩
  ·exact⟨ha,by rw [aw];exact hl,vs,_,rv,ha⟩
  ·exact⟨#[],(hto t hm).1,trivial,.inl rfl⟩
 have nsK:∀{b:Addr} {m:Str->Option Value},s₁.heap.Ns b m->(jf s₁.heap H).Ns b m:=λ{b m} ⟨o,es,ep,e,d,r⟩=>⟨o,es,ep,zH e (by
  cases q:H b with
  | none=>rfl
  | some u =>
   rcases cs b u q with ⟨rfl,_,_⟩|⟨t,hm,rfl,_⟩
   ·rw [ha] at e;cases e;cases d
   ·rw [(hto t hm).1] at e;cases e;cases d),d,r⟩
 have hKb:K.In (jf s₁.heap H):=λb o e=>zH (KX b o e) (by
  cases q:H b with
  | none=>rfl
  | some u =>
   rcases cs b u q with ⟨rfl,z,_⟩|⟨t,hm,rfl,_⟩
   ·rw [z] at e;cases e
   ·rw [(hto t hm).2.2] at e;cases e)
 have hS:SqL K H a (ns.map V.int):=by
  cases hk:K.lookup a with
  | none=>exact .inl (.inr ⟨o0,Ql ⟨rfl,hk⟩⟩)
  | some o =>
   have e:=KX a o hk
   rw [ha] at e
   cases e
   exact .inr ⟨_,vs.toArray,_,hk,rfl,rfl,rfl,by rw [aO,hi.length];exact hl,by simpa using rv⟩
 have hM:Mod K mg (jf s₁.heap H):=⟨hKb,nsK hns,⟨mb,nsK hb,hbb⟩,let ⟨mc,h1,h2⟩:=hlim;⟨mc,nsK h1,h2⟩⟩
 have e0:Env0 P w K mg (jf s₁.heap H) callerA [] s₁ H:=⟨rfl,hM,λb o e=>qN8 e,Nat.le_of_eq (qIG _ _),trivial,λb hb=>Qn (show b∈([]:List Addr) from hb) C2,hok,.of_eq hg⟩
 refine codeAny_mono ((F _ hKb (nsK hns)).run callerA [] s₁ H ⟨[.ref a],[]⟩ [.ref a] [.ref a] _ _ hr e0 (hbind s₁ (.ref a)) (.cons rfl .nil) (hsp H tb hS)) λr s' h=>?_
 cases r with
 | error e=>exact False.elim h
 | ok fl =>
  cases fl with
  | next=>exact False.elim h
  | brk=>exact False.elim h
  | cont=>exact False.elim h
  | ret u =>
   obtain⟨v,H',os,bare,un,hok',r',rfl,tb'⟩:=h
   obtain rfl:u=Value.bool true:=r'
   have old:∀b o,s₁.heap.get? b=some o->asItWas s₁.heap s'.heap b o/\∃o',s'.heap.get? b=some o':=λb o e=>by
    cases q:H b with
    | none =>
     have:=un.keep b o e q (by intro z;exact Qn (show b∈([]:List Addr) from z) C2) C2
     exact⟨.inl this,_,this⟩
    | some u =>
     rcases cs b u q with ⟨rfl,_,rfl⟩|⟨t,hm,rfl,rfl⟩
     ·have z2:=un.frzs b _ _ q
      obtain⟨e1,_⟩:=hok b _ q
      obtain⟨e2,_⟩:=hok' b _ z2
      rw [e] at e1
      cases e1
      exact⟨.inl e2,_,e2⟩
     ·obtain⟨e1,e2,_⟩:=hto t hm
      rw [e] at e1
      cases e1
      obtain⟨ps,e3,_⟩:=hok' t.1 _ (tb' t hm)
      exact⟨.inr (.inl ⟨e2,rfl,#[],ps,rfl,by rw [e3];simp⟩),_,e3⟩
   exact⟨rfl,⟨λb o e=>(old b o e).1,λb o e=>(old b o e).2⟩,os,bare⟩
theorem yb:∀(ns:List Int) (i:Int),i∈ns->PySem.W.WData.weight (.int i)+1<=PySem.W.WData.weightAll (ns.map PySem.W.WData.int)
 | [],i,h=>nomatch h
 | n::ns,i,h=>by
  rw [cP,PySem.W.WData.weightAll]
  rcases yag.mp h with rfl|h
  ·omega
  ·have:=yb ns i h
   omega
theorem qKW {ns:List Int}(h:PySem.W.WData.layableAll [.list (ns.map PySem.W.WData.int)]=true) (i:Int) (hi:i∈ns):2 * i.natAbs<jg:=by
 unfold PySem.W.WData.layableAll at h
 rw [fQ,aP] at h
 have h1:=h.1
 unfold PySem.W.WData.layable at h1
 rw [aP] at h1
 have h2:PySem.W.WData.weight (.list (ns.map PySem.W.WData.int))<=2^20:=Qp h1.2
 rw [PySem.W.WData.weight] at h2
 have h3:=yb ns i hi
 rw [PySem.W.WData.weight] at h3
 by_cases hz:i=0
 ·subst hz
  exact Nat.pow_pos At
 ·rw [Qm (by simpa using hz)] at h3
  have h4:i.natAbs<2^(i.natAbs.log2+1):=Nat.lt_log2_self
  have h5:2 * i.natAbs<2^(i.natAbs.log2+2):=by rw [Nat.pow_succ];omega
  exact bO h5 (oj At AC)
theorem dw_walk {l:PySem.W.OpenLaw}{q:Program}{loose:List Str}{XP:(Str->Option Value)->Heap->Prop}{YP:World->Heap->Prop}{d:DefRec}{K:Params->Qb}{tab:List Fd}{n i:Nat}(hlaw:∀ns:List Int,ns.length<=63->(∀i∈ns,2 * i.natAbs<jg)->aH tab n i [.lst CC]=some (false,.bl true))
  (hn:l.most=some 63) (hdf:d.params.defaults=[]) (hr:Room (n+2) callerA) (hY:∀(w:World) (h:Heap),YP w h->(K w.params).In h) (htb:TB kU) (hT:∀(w:World) (h:Heap),YP w h->∀t∈tbs,h.get? t.1=some (PySem.W.tabObj #[])) (hC:∀(w:World),∀t∈tbs,(∃c,PySem.W.codeHdIn (K w.params) c t.1=true)/\(K w.params).lookup t.1=none)
  (F:∀(w:World) (mg:Str->Option Value) (fa:Addr) (h:Heap),(K w.params).In h->h.Ns mainGlobals mg->mg d.name=some (.ref fa) ->
   ∃fd:FuncData,(∀(s:Shared) (u:Value),BindsTo s fd ⟨[u],[]⟩ [("script",u)])/\∀base:Heap,(K w.params).In base->base.Ns mainGlobals mg->FnOk l.prog w (K w.params) mg base fO (n+2) fa fd ["script"] (jI (K w.params) 1 (aH tab n i))) :
  PySem.W.WalkO q loose XP YP l.row.toRowW d [] (λf vs=>PySem.call f vs):=by
 intro w t₀ t₁ mg mb g y fa o pm cd doc v₁ v₂ ho hd hc e1 e2 e3 args vals as e4 lay e5 e6 e7
 obtain rfl:v₁=.none:=PySem.W.Dflts.none e1 hdf
 obtain rfl:v₂=.none:=PySem.W.Dflts.noKw e1
 obtain⟨a,vs,ns,rfl,rfl,s1,s2,s3⟩:=Att.script_of hn e4 e6
 have kx:=hY w _ y
 obtain⟨fd,hb,hF⟩:=F w mg fa _ kx g.T.g e2
 refine PySem.W.enter_call (codeAny_mono (qIw kx g.T.g g.T.b g.T.builtins g.T.nolimit e3 s1 s2 (aT s3 At) hr htb (λt hm=>⟨hT w _ y t hm,?_,(hC w t hm).2⟩) hF hb λH tb hS=>qQD hlaw H tb a ns s3 (qKW lay) hS _) λr s' z=>?_)
 ·obtain⟨c,hc⟩:=(hC w t hm).1
  obtain⟨o,vs,_,_,_,_,_,_,_,q1,q2,q3,q4,_⟩:=PySem.W.codeHd_of_K kx hc
  exact⟨c,o,vs,q1,q2,q3,q4⟩
 obtain⟨rfl,z2,z3,z4⟩:=z
 exact⟨.inl ⟨.bool true,.bool true,[],rfl,λ_=>rfl,.bool true,Att.post_true l _,λ_=>⟨List.Pairwise.nil,λ_ hm=>(nomatch hm)⟩⟩,z2,z3,z4⟩
end Dw
set_option exponentiation.threshold 6000
namespace Dw.T
open Dw
noncomputable abbrev tx (s:String):D:=.str (Qa s)
noncomputable abbrev kI (n:Int):C:=.k (.int n)
noncomputable abbrev V0:C:=.v 0
noncomputable abbrev V1:C:=.v 1
noncomputable abbrev V2:C:=.v 2
noncomputable abbrev V3:C:=.v 3
noncomputable abbrev V4:C:=.v 4
noncomputable abbrev V5:C:=.v 5
noncomputable abbrev V6:C:=.v 6
noncomputable abbrev V7:C:=.v 7
noncomputable abbrev V8:C:=.v 8
noncomputable abbrev V9:C:=.v 9
noncomputable abbrev i0:C:=.v 10
noncomputable abbrev kA:C:=.v 11
noncomputable abbrev kz:C:=.v 12
noncomputable abbrev Cd:C:=.v 13
noncomputable abbrev Cb:C:=.v 14
abbrev AZ:List S:=[.ext 1 (.call 12 [V2])]
abbrev Bl:List S:=[.ext 1 (.compS (.bin .add V1 V0) 1 [3] (.one 0) V2)]
abbrev A5:List S:=[.pop (.one 5) 3,.set 6 false (.cv 2 [(.call 10 [(.ix V5 (kI 1))]),(.call 10 [(.ix V5 (kI 3))])]),.app 4 (.tup [V5,V6]),.ite (.cmp .eq V6 (.k (tx "open"))) [.ext 3 (.revL (.call 16 [V5]))] []]
abbrev Bj:List S:=[.ext 4 (.compF (.tup [(.call 1 [V1,(.ix V0 (kI 1))]),V2,(.ix V0 (kI 0))]) (.cmp .ne CP V2) 1 [6,5] (.one 0) V3)]
abbrev Bk:List S:=[.set 5 false (.call 4 [V2]),.ext 4 (.compF (.tup [V1,V0]) (.cmp .ne V0 V1) 1 [5] (.one 0) V3)]
abbrev Bb:List S:=[.ite (.cmp .eq V5 (.k (tx "whole"))) [.ext 3 (.call 25 [(.ix V4 (kI 1)),(.ix V4 (kI 3))])] [],.ite (.call 19 [V4,V5]) [.set 6 false (.call 21 [(.ix V4 (kI 1)),(.ix V4 (kI 3)),V2]),.ext 3 (.compF (.tup [(.ix V0 (kI 1)),(.ix V0 (kI 2))]) (.cmp .le CP V1) 1 [1] (.one 0) V6)] []]
abbrev AX:List S:=[.ite (.not (.call 29 [(.ix V0 V2),(.ix V1 V2)])) [.ret (.k (.bl false))] []]
abbrev AY:List S:=[.set 10 false (.bin .sub (.call 30 [V5,V9,(.bin .add (.bin .mul (kI 2) V6) (kI 1))]) V6),.set 11 false (.call 30 [V5,(.bin .add V9 (kI 7)),(.ix (.lst [(kI 1),(kI 9),(.bin .add V6 (kI 1))]) (.bin .mod (.bin .fdiv V3 (kI 9)) (kI 3)))]),.set 12 false (.bin .sub (.call 30 [V5,(.bin .add V9 (kI 14)),(.bin .add (.bin .mul (kI 2) V7) (kI 1))]) V7),.app 8 (.tup [i0,(.bi .min [V6,(.bin .add i0 kA)]),kz,kz])]
abbrev A6:List S:=[.set 8 false (.bin .bor V8 (.ix V4 (kI 2))),.set 9 false (.bin .band V9 (.ix V4 (kI 2)))]
abbrev A7:List S:=[.set 5 false (.compS (.ix (.ix (.ix V0 (kI 1)) V1) (kI 0)) 1 [3] (.one 0) V0),.set 6 false (.compS (.ix (.ix (.ix V0 (kI 1)) V1) (kI 1)) 1 [3] (.one 0) V0),.set 7 false (.compS (.ix (.ix (.ix V0 (kI 1)) V1) (kI 2)) 1 [3] (.one 0) V0),.app 1 (.tup [(.bi .min [V5]),(.bi .max [V6]),(.bi .min [V7]),(.bi .max [V7])]),.app 2 (.tup [(.bi .max [V5]),(.bi .min [V6]),(.bi .max [V7]),(.bi .min [V7])])]
abbrev uR:List S:=[.set 8 false (.bin .add V8 (.ix V9 (kI 1)))]
abbrev uS:List S:=[.set 8 false CG,.forS (.one 9) (.sl V3 (some V5) (some V6)) uR,.app 7 (.tup [(.tup [(.k (tx "fork")),(.call 32 [V8]),(.bi .tuple [(.compS CP 1 [] (.one 0) (.sl V3 (some V5) (some V6)))])]),V8])]
abbrev A8:List S:=[.set 7 true CG,.set 4 false (.call 33 [(.bi .len [V3]),V1,(.bin .fdiv V2 (kI 7))]),.forZ (.two 5 6) (.sl V4 none (some (.neg (kI 1)))) (.sl V4 (some (kI 1)) none) uS,.frz [7],.set 3 true V7]
abbrev uT:List S:=[.app 3 (.tup [(.tup [(.k (tx "leaf")),(.call 32 [(.sl V0 (some V5) (some V6))]),(.bi .tuple [(.sl V0 (some V5) (some V6))])]),(.sl V0 (some V5) (some V6))])]
abbrev AM:List S:=[.set 5 false (.bi .max [(kI 0),(.bin .sub (.ix V3 (kI 0)) (.ix V4 (kI 1))),(.bin .sub (.ix V4 (kI 0)) (.ix V3 (kI 1)))]),.set 2 false (.bin .add V2 (.bin .mul V5 V5))]
abbrev Bg:List S:=[.app 5 (.bin .add V6 V7)]
abbrev Bh:List S:=[.forS (.one 7) (.call 40 [V3,V4]) Bg]
abbrev Bi:List S:=[.ext 1 (.call 42 [V2])]
abbrev A9:List S:=[.ite (.cmp .le (.call 37 [V7,(.call 36 [(.ix V8 (kI 1)),V3])]) V2) [.app 4 (.tup [(.ix V6 (kI 0)),(.ix V8 (kI 0))])] [.app 5 (.tup [(.ix V6 (kI 0)),(.ix V8 (kI 0))])]]
abbrev Ba:List S:=[.set 7 false (.call 36 [(.ix V6 (kI 1)),V3]),.forS (.one 8) (.call 42 [V1]) A9]
abbrev Bc:List S:=[.ite (.cmp .eq (.bi .len [V5]) (kI 0)) [.ret (.k .non)] [],.set 8 false (.ix V5 (kI 0)),.set 9 false (.call 43 [(.ix (.ix V8 (kI 0)) (kI 1)),(.ix (.ix V8 (kI 2)) (kI 1)),V3,V4]),.ite (.not (.call 29 [V7,(.tup [(.ix V8 (kI 1)),(.ix V8 (kI 3)),V9])])) [.ret (.k .non)] [],.set 10 false (.call 45 [V8,V9,V3,V4]),.ite (.isC false i0 .non) [.ret (.k .non)] [],.set 6 false (.bin .add V6 i0),.set 5 false (.sl V5 (some (kI 1)) none),.ite (.cmp .eq V9 (.k (tx "open"))) [.set 5 false (.bin .add (.call 41 [V8]) V5)] []]
def f_side_gap:Fd:=⟨2,2,[.ret (.bi .max [(kI 0),(.bin .sub CP (.ix V1 (kI 1))),(.bin .sub (.ix V1 (kI 0)) (.ix V0 (kI 1)))])]⟩
def f_box_gap:Fd:=⟨2,3,[.set 2 false (.compZ (.call 0 [V0,V1]) 2 [] (.two 0 1) V0 V1),.ret (.bi .sum [(.compS (.bin .mul V0 V0) 1 [] (.one 0) V2)])]⟩
def f_side_at:Fd:=⟨2,2,[.ret (.tup [(.bin .add CP (.bin .mul (.ix V0 (kI 2)) V1)),(.bin .add (.ix V0 (kI 1)) (.bin .mul (.ix V0 (kI 3)) V1))])]⟩
def f_frame_at:Fd:=⟨2,2,[.ret (.bi .tuple [(.compS (.call 2 [V0,V1]) 1 [1] (.one 0) V0)])]⟩
def uU:Fd:=⟨1,1,[.ret CP]⟩
def uX:Fd:=⟨1,1,[.ret (.ix V0 (kI 1))]⟩
def uN:Fd:=⟨2,2,[.ret (.call 3 [(.call 5 [V0]),V1])]⟩
def uV:Fd:=⟨1,1,[.ret CP]⟩
def uW:Fd:=⟨1,1,[.ret (.ix V0 (kI 1))]⟩
def f_is_leaf:Fd:=⟨1,1,[.ret (.cmp .eq CP (.k (tx "leaf")))]⟩
def f_page_told:Fd:=⟨1,1,[.ret (.ix V0 (kI 1))]⟩
def f_page_parts:Fd:=⟨1,1,[.ret (.ix V0 (kI 2))]⟩
def f_things_in:Fd:=⟨1,3,[.ite (.call 9 [V0]) [.ret (.call 11 [V0])] [],.set 1 true CG,.forS (.one 2) (.call 11 [V0]) AZ,.ret (.bi .tuple [V1])]⟩
def uO:Fd:=⟨2,2,[.ret (.call 3 [(.call 7 [V0]),V1])]⟩
def uP:Fd:=⟨2,2,[.ret (.call 3 [(.call 8 [V0]),V1])]⟩
def f_parts_or_itself:Fd:=⟨2,2,[.ite (.call 9 [V1]) [.ret (.lst [(.tup [V0,V1])])] [],.ret (.compE (.tup [(.bin .add V2 (.tup [V0])),V1]) 2 [0] (.two 0 1) (.call 11 [V1]))]⟩
def f_places_behind:Fd:=⟨1,4,[.ite (.and (.call 9 [(.ix V0 (kI 1))]) (.call 9 [(.ix V0 (kI 3))])) [.ret CG] [],.set 1 true CG,.set 2 false (.call 15 [(.ix V0 (kI 2)),(.ix V0 (kI 3))]),.forS (.one 3) (.call 15 [(.ix V0 (kI 0)),(.ix V0 (kI 1))]) Bl,.ret V1]⟩
def f_join_cut:Fd:=⟨3,7,[.set 3 true (.lst [(.tup [(.tup []),V0,(.tup []),V1])]),.set 4 true CG,.whl (.cmp .gt (.bi .len [V3]) (kI 0)) A5,.ret V4]⟩
def f_join_paper:Fd:=⟨1,1,[.ret (.bi .tuple [(.compS (.tup [(.ix V0 (kI 0)),(.ix V0 (kI 2)),V1]) 2 [] (.two 0 1) V0)])]⟩
def f_is_open_leaves:Fd:=⟨2,2,[.ret (.and (.cmp .eq V1 (.k (tx "open"))) (.and (.call 9 [(.ix V0 (kI 1))]) (.call 9 [(.ix V0 (kI 3))])))]⟩
def f_boxes_of:Fd:=⟨2,2,[.ret (.compS (.tup [(.call 4 [V0]),(.call 6 [V0,V1])]) 1 [1] (.one 0) V0)]⟩
def f_gaps_of_leaves:Fd:=⟨3,7,[.set 3 false (.call 20 [(.call 11 [V1]),V2]),.set 4 true CG,.forS (.two 5 6) (.call 20 [(.call 11 [V0]),V2]) Bj,.ret V4]⟩
def f_is_apart:Fd:=⟨4,4,[.ite (.or (.isC false V0 .non) (.isC false V1 .non)) [.ret (.k (.bl true))] [],.ret (.cmp .gt (.call 1 [(.call 13 [V0,V3]),(.call 13 [V1,V3])]) V2)]⟩
def f_is_whole_near:Fd:=⟨4,4,[.ret (.cmp .le (.call 1 [(.call 14 [V0,V3]),(.call 14 [V1,V3])]) V2)]⟩
def f_pairs_word:Fd:=⟨4,4,[.ite (.call 22 [V0,V1,V2,V3]) [.ret (.k (tx "apart"))] [],.ret (.ifx (.call 23 [V0,V1,V2,V3]) (.k (tx "whole")) (.k (tx "open")))]⟩
def f_pairs_of_whole:Fd:=⟨2,6,[.set 3 false (.compS (.call 4 [V0]) 1 [] (.one 0) (.call 12 [V1])),.set 4 true CG,.forS (.one 2) (.call 12 [V0]) Bk,.ret V4]⟩
def f_pairs_of_rows:Fd:=⟨3,7,[.set 3 true CG,.forS (.two 4 5) V0 Bb,.ret (.bi .tuple [(.bi .sorted [V3])])]⟩
def f_near_pairs:Fd:=⟨4,5,[.set 4 false (.lamc 17 [V0,V1] 48 [3,2]),.ret (.tup [(.call 26 [V4,V2,V3]),(.call 18 [V4])])]⟩
def f_law_cell_at:Fd:=⟨2,2,[.ite (.cmp .lt V1 (.bi .len [V0])) [.ret (.ix V0 V1)] [],.ret (kI 0)]⟩
def f_law_alike:Fd:=⟨2,3,[.ite (.isi V1 .tuple) [.ite (.or (.not (.isi V0 .tuple)) (.cmp .ne (.bi .len [V0]) (.bi .len [V1]))) [.ret (.k (.bl false))] [],.forR (.one 2) [(.bi .len [V1])] AX,.ret (.k (.bl true))] [],.ite (.isC false V1 .non) [.ret (.isC false V0 .non)] [],.ite (.isi V1 .str) [.ret (.and (.isi V0 .str) (.cmp .eq V0 V1))] [],.ret (.and (.isi V0 .int) (.and (.not (.isi V0 .bool)) (.cmp .eq V0 V1)))]⟩
def f_law_draw:Fd:=⟨3,3,[.ret (.bin .mod (.bin .fdiv (.bin .mul (.bin .mul (.bin .add (.bin .add V0 (kI 3)) V1) (.bin .add (.bin .add V0 (.bin .mul (kI 5) V1)) (kI 11))) (.bin .add (.bin .pow (kI 10) (kI 33)) (kI 7))) (kI 13)) V2)]⟩
def f_law_thing:Fd:=⟨5,15,[.set 5 false (.bin .add (.bin .mod V0 (.bin .pow (kI 10) (kI 40))) (.bin .mul (.bin .mul (kI 7919) V1) V1)),.set 6 false (.ix (.lst [(kI 12),(kI 90),(.bin .sub (.bin .pow (kI 10) (kI 30)) (kI 1))]) (.bin .mod V3 (kI 3))),.set 7 false (.ix (.lst [(kI 0),(kI 4),(.bin .pow (kI 10) (kI 15))]) (.bin .mod (.bin .fdiv V3 (kI 3)) (kI 3))),.set 8 true CG,.forR (.one 9) [V2] AY,.set 13 false (.bin .add (.bin .mul V4 (kI 1000)) V1),.ite (.cmp .eq (.bin .mod V3 (kI 2)) (kI 1)) [.set 13 false (.bin .add (.bin .mul V1 (.bin .pow (kI 10) (kI 14))) V4)] [],.set 14 false (.bin .sub (.call 30 [V5,(kI 28),(.bin .add (.bin .mul (kI 2) V6) (kI 1))]) V6),.ret (.tup [Cd,(.bi .tuple [V8]),(.call 30 [V5,(kI 35),(.ix (.lst [(kI 4),(kI 65536)]) (.bin .mod (.bin .fdiv V3 (kI 2)) (kI 2)))]),Cb])]⟩
def f_law_told:Fd:=⟨1,11,[.ite (.cmp .eq (.bi .len [V0]) (kI 0)) [.ret (.k .non)] [],.set 1 true CG,.set 2 true CG,.forR (.one 3) [(.bi .len [(.ix CP (kI 1))])] A7,.set 8 false (kI 0),.set 9 false (kI 65535),.forS (.one 4) V0 A6,.set 10 false (.compS (.ix V0 (kI 3)) 1 [] (.one 0) V0),.ret (.tup [(.bi .tuple [V1]),(.bi .tuple [V2]),V8,V9,(.bi .len [V0]),(.bi .min [i0]),(.bi .max [i0]),(.bi .sum [i0])])]⟩
def f_law_cuts:Fd:=⟨3,6,[.set 3 false (.bi .max [(kI 1),(.bin .fdiv (.bin .sub (.bin .add V0 V1) (kI 1)) V1)]),.set 4 false (.bi .max [V3,(.bin .fdiv V0 (.bin .fdiv V1 (kI 2)))]),.set 5 false (.bin .add V3 (.bin .mod V2 (.bin .add (.bin .sub V4 V3) (kI 1)))),.ret (.compR (.bin .fdiv (.bin .mul V2 V0) V1) 1 [5,0] (.one 0) [(.bin .add V5 (kI 1))])]⟩
def f_law_tree:Fd:=⟨3,10,[.set 3 true CG,.set 4 false (.call 33 [(.bi .len [V0]),V1,V2]),.forZ (.two 5 6) (.sl V4 none (some (.neg (kI 1)))) (.sl V4 (some (kI 1)) none) uT,.whl (.cmp .gt (.bi .len [V3]) (kI 1)) A8,.ret (.ix (.ix V3 (kI 0)) (kI 0))]⟩
def f_law_two_rows:Fd:=⟨3,9,[.set 3 false (.sl V0 (some (kI 6)) (some (kI 66))),.set 4 false (.bin .mod (.bin .fdiv (.call 28 [V0,(kI 2)]) (kI 12)) (.bin .pow (kI 10) (kI 14))),.set 5 false (.lst [V4,V4]),.ite (.cmp .eq (.bin .mod (.bin .fdiv (.call 28 [V0,(kI 2)]) (kI 4)) (kI 3)) (kI 1)) [.set 5 false (.lst [V4,(.bin .mod (.bin .add (.bin .add V4 (kI 1)) (.bin .mod (.call 28 [V0,(kI 4)]) (kI 1000))) (.bin .pow (kI 10) (kI 14)))])] [],.set 6 false (.bin .fdiv (.bi .len [V3]) (kI 2)),.ite (.cmp .eq (.bin .mod (.call 28 [V0,(kI 4)]) (kI 4)) (kI 1)) [.set 6 false (.bin .mod (.bin .fdiv (.call 28 [V0,(kI 4)]) (kI 4)) (.bin .add (.bi .len [V3]) (kI 1)))] [],.set 7 false (.compR (.call 31 [(.ix V2 V0),V0,V3,V4,(.ix V1 (kI 0))]) 1 [5,3,1,2] (.one 0) [V6]),.set 8 false (.compR (.call 31 [(.ix V2 (.bin .add V3 V0)),V0,V4,V5,(.ix V1 (kI 1))]) 1 [5,3,6,1,2] (.one 0) [(.bin .sub (.bi .len [V3]) V6)]),.ite (.cmp .eq (.bin .mod (.bin .fdiv (.call 28 [V0,(kI 2)]) (kI 4)) (kI 3)) (kI 2)) [.set 8 false V7] [],.ret (.lst [V7,V8])]⟩
def f_law_frame_at:Fd:=⟨2,2,[.ret (.compS (.tup [(.bin .add CP (.bin .mul (.ix V0 (kI 2)) V1)),(.bin .add (.ix V0 (kI 1)) (.bin .mul (.ix V0 (kI 3)) V1))]) 1 [1] (.one 0) V0)]⟩
def f_law_gap:Fd:=⟨2,6,[.set 2 false (kI 0),.forZ (.two 3 4) V0 V1 AM,.ret V2]⟩
def f_law_beat:Fd:=⟨1,1,[.ite (.cmp .eq (.bin .mod V0 (kI 3)) (kI 0)) [.ret (kI 0)] [],.ite (.cmp .eq (.bin .mod V0 (kI 3)) (kI 1)) [.ret (.bin .mod (.bin .fdiv V0 (kI 3)) (kI 20))] [],.ret (.bin .mod (.bin .fdiv V0 (kI 3)) (.bin .add (.bin .pow (kI 10) (kI 15)) (kI 1)))]⟩
def f_law_far:Fd:=⟨4,8,[.set 4 false (.call 28 [V0,(kI 5)]),.ite (.cmp .eq (.bin .mod V4 (kI 4)) (kI 0)) [.ret (.bin .mod (.bin .fdiv V4 (kI 4)) (kI 300))] [],.ite (.or (.cmp .eq (.bin .mod V4 (kI 4)) (kI 1)) (.or (.cmp .eq (.bi .len [V1]) (kI 0)) (.cmp .eq (.bi .len [V2]) (kI 0)))) [.ret (.bin .mod (.bin .fdiv V4 (kI 4)) (.bin .add (.bin .pow (kI 10) (kI 62)) (kI 1)))] [],.set 5 false (.ix V1 (.bin .mod (.bin .fdiv V4 (kI 8)) (.bi .len [V1]))),.set 6 false (.ix V2 (.bin .mod (.bin .fdiv V4 (kI 31)) (.bi .len [V2]))),.set 7 false (.call 37 [(.call 36 [(.ix V5 (kI 1)),V3]),(.call 36 [(.ix V6 (kI 1)),V3])]),.ret (.bi .max [(kI 0),(.bin .sub V7 (.bin .mod (.bin .fdiv V4 (kI 4)) (kI 2)))])]⟩
def f_law_under:Fd:=⟨2,2,[.ite (.cmp .eq CP (.k (tx "leaf"))) [.ret (.lst [(.tup [V0,V1])])] [],.ret (.compR (.tup [(.ix (.ix V1 (kI 2)) V0),(.bin .add V2 (.tup [V0]))]) 1 [0,1] (.one 0) [(.bi .len [(.ix V0 (kI 2))])])]⟩
def f_law_behind:Fd:=⟨1,8,[.asgL [1,2,3,4] V0,.ite (.and (.cmp .eq (.ix V1 (kI 0)) (.k (tx "leaf"))) (.cmp .eq (.ix V3 (kI 0)) (.k (tx "leaf")))) [.ret CG] [],.set 5 true CG,.forS (.one 6) (.call 40 [V1,V2]) Bh,.ret V5]⟩
def f_law_things:Fd:=⟨1,3,[.ite (.cmp .eq CP (.k (tx "leaf"))) [.ret (.bi .list [(.ix V0 (kI 2))])] [],.set 1 true CG,.forS (.one 2) (.ix V0 (kI 2)) Bi,.ret V1]⟩
def f_law_word:Fd:=⟨4,4,[.ite (.or (.isC false V0 .non) (.isC false V1 .non)) [.ret (.k (tx "apart"))] [],.ite (.cmp .gt (.call 37 [(.call 36 [(.ix V0 (kI 0)),V3]),(.call 36 [(.ix V1 (kI 0)),V3])]) V2) [.ret (.k (tx "apart"))] [],.ite (.cmp .le (.call 37 [(.call 36 [(.ix V0 (kI 1)),V3]),(.call 36 [(.ix V1 (kI 1)),V3])]) V2) [.ret (.k (tx "whole"))] [],.ret (.k (tx "open"))]⟩
def f_law_near_ones:Fd:=⟨4,9,[.set 4 true CG,.set 5 true CG,.forS (.one 6) (.call 42 [V0]) Ba,.frz [4,5],.ret (.tup [V4,V5])]⟩
def f_law_led_to:Fd:=⟨4,6,[.set 4 false CG,.set 5 false CG,.ite (.or (.cmp .ne V1 (.k (tx "open"))) (.and (.cmp .eq (.ix CP (kI 0)) (.k (tx "leaf"))) (.cmp .eq (.ix (.ix V0 (kI 2)) (kI 0)) (.k (tx "leaf"))))) [.asgL [4,5] (.call 44 [(.ix V0 (kI 0)),(.ix V0 (kI 2)),V2,V3])] [],.ite (.or (.and (.cmp .eq V1 (.k (tx "apart"))) (.cmp .gt (.bi .len [V4]) (kI 0))) (.and (.cmp .eq V1 (.k (tx "whole"))) (.cmp .gt (.bi .len [V5]) (kI 0)))) [.ret (.k .non)] [],.ret (.compF V0 (.cmp .ne CP (.ix V0 (kI 1))) 1 [] (.one 0) V4)]⟩
def f_law_walked:Fd:=⟨5,11,[.set 5 false (.lst [(.tup [V1,(.tup []),V2,(.tup [])])]),.set 6 false CG,.forS (.one 7) V0 Bc,.ite (.cmp .gt (.bi .len [V5]) (kI 0)) [.ret (.k .non)] [],.ret V6]⟩
def f_law:Fd:=⟨1,13,[.set 1 false (.bin .add (kI 2) (.bi .int [(.cmp .eq (.bin .mod (.call 28 [V0,(kI 0)]) (kI 4)) (kI 1))])),.set 2 false (.bin .mod (.call 28 [V0,(kI 1)]) (kI 54)),.set 3 false (.bin .add (kI 4) (.bin .mod (.call 28 [V0,(kI 2)]) (kI 4))),.asgL [4,5] (.call 35 [V0,V1,V2]),.set 6 false (.call 38 [(.call 28 [V0,(kI 3)])]),.set 7 false (.call 39 [V0,V4,V5,V6]),.set 8 false (.bin .mod (.bin .fdiv (.call 28 [V0,(kI 0)]) (kI 4)) (kI 1000)),.set 9 false (.call 34 [V4,V3,V8]),.set 10 false (.call 34 [V5,V3,(.bin .fdiv V8 (kI 2))]),.set 11 false (.call 27 [V9,i0,V7,V6]),.ite (.or (.not (.isi kA .tuple)) (.or (.cmp .ne (.bi .len [kA]) (kI 2)) (.not (.isi (.ix kA (kI 1)) .tuple)))) [.ret (.k (.bl false))] [],.set 12 false (.call 46 [(.ix kA (kI 1)),V9,i0,V7,V6]),.ret (.and (.isC true kz .non) (.call 29 [(.ix kA (kI 0)),(.bi .tuple [(.bi .sorted [kz])])]))]⟩
def sj:Fd:=⟨4,4,[.ret (.call 24 [V0,V1,V3,V2])]⟩
def tab:List Fd:=[f_side_gap,f_box_gap,f_side_at,f_frame_at,uU,uX,uN,uV,uW,f_is_leaf,f_page_told,f_page_parts,f_things_in,uO,uP,f_parts_or_itself,f_places_behind,f_join_cut,f_join_paper,f_is_open_leaves,f_boxes_of,f_gaps_of_leaves,f_is_apart,f_is_whole_near,f_pairs_word,f_pairs_of_whole,f_pairs_of_rows,f_near_pairs,f_law_cell_at,f_law_alike,f_law_draw,f_law_thing,f_law_told,f_law_cuts,f_law_tree,f_law_two_rows,f_law_frame_at,f_law_gap,f_law_beat,f_law_far,f_law_under,f_law_behind,f_law_things,f_law_word,f_law_near_ones,f_law_led_to,f_law_walked,f_law,sj]
theorem t0:tab[0]?=some f_side_gap:=rfl
theorem t1:tab[1]?=some f_box_gap:=rfl
theorem t2:tab[2]?=some f_side_at:=rfl
theorem t3:tab[3]?=some f_frame_at:=rfl
theorem t4:tab[4]?=some uU:=rfl
theorem t5:tab[5]?=some uX:=rfl
theorem t6:tab[6]?=some uN:=rfl
theorem t7:tab[7]?=some uV:=rfl
theorem t8:tab[8]?=some uW:=rfl
theorem t9:tab[9]?=some f_is_leaf:=rfl
theorem wc:tab[10]?=some f_page_told:=rfl
theorem wb:tab[11]?=some f_page_parts:=rfl
theorem rH:tab[12]?=some f_things_in:=rfl
theorem wa:tab[13]?=some uO:=rfl
theorem v9:tab[14]?=some uP:=rfl
theorem v8:tab[15]?=some f_parts_or_itself:=rfl
theorem v7:tab[16]?=some f_places_behind:=rfl
theorem v5:tab[17]?=some f_join_cut:=rfl
theorem v3:tab[18]?=some f_join_paper:=rfl
theorem vZ:tab[19]?=some f_is_open_leaves:=rfl
theorem vY:tab[20]?=some f_boxes_of:=rfl
theorem vX:tab[21]?=some f_gaps_of_leaves:=rfl
theorem vW:tab[22]?=some f_is_apart:=rfl
theorem vV:tab[23]?=some f_is_whole_near:=rfl
theorem vU:tab[24]?=some f_pairs_word:=rfl
theorem vT:tab[25]?=some f_pairs_of_whole:=rfl
theorem vS:tab[26]?=some f_pairs_of_rows:=rfl
theorem t27:tab[27]?=some f_near_pairs:=rfl
theorem vR:tab[28]?=some f_law_cell_at:=rfl
theorem jc:tab[29]?=some f_law_alike:=rfl
theorem vQ:tab[30]?=some f_law_draw:=rfl
theorem vP:tab[31]?=some f_law_thing:=rfl
theorem vO:tab[32]?=some f_law_told:=rfl
theorem vN:tab[33]?=some f_law_cuts:=rfl
theorem vM:tab[34]?=some f_law_tree:=rfl
theorem vL:tab[35]?=some f_law_two_rows:=rfl
theorem vK:tab[36]?=some f_law_frame_at:=rfl
theorem vJ:tab[37]?=some f_law_gap:=rfl
theorem vI:tab[38]?=some f_law_beat:=rfl
theorem vH:tab[39]?=some f_law_far:=rfl
theorem vG:tab[40]?=some f_law_under:=rfl
theorem vF:tab[41]?=some f_law_behind:=rfl
theorem rG:tab[42]?=some f_law_things:=rfl
theorem vE:tab[43]?=some f_law_word:=rfl
theorem vD:tab[44]?=some f_law_near_ones:=rfl
theorem vC:tab[45]?=some f_law_led_to:=rfl
theorem vB:tab[46]?=some f_law_walked:=rfl
theorem rF:tab[47]?=some f_law:=rfl
theorem t48:tab[48]?=some sj:=rfl
end Dw.T
namespace Dw
noncomputable abbrev zF (d:D):Option R:=some (false,d)
noncomputable abbrev zT (d:D):Option R:=some (true,d)
abbrev bD:=@List.getElem?_cons_zero
abbrev bC:=@List.getElem?_cons_succ
abbrev bw:=@Option.bind_some
abbrev bu:=@Option.join_some
abbrev bg:=@Option.map_some
abbrev gS:=@List.set_cons_zero
abbrev gR:=@List.set_cons_succ
abbrev i6:=@List.length_cons
abbrev qX:=@List.length_map
abbrev gQ:=@Bool.and_false
abbrev i4:=@List.length_nil
abbrev zAl:=@List.map_cons
abbrev vx:=@List.take_of_length_le
abbrev zAt:=@List.getElem?_map
abbrev zBa:=@List.mem_range
abbrev zBe:=@Int.fmod_eq_emod_of_nonneg
abbrev jC:=@Int.fdiv_eq_ediv_of_nonneg
abbrev vw:=@Int.mul_le_mul_of_nonneg_right
abbrev zBo:=@List.getElem?_eq_some_iff
abbrev zBt:=@List.drop_eq_nil_of_le
abbrev qW:=@Nat.min_eq_right
abbrev vt:=@Nat.pow_le_pow_right
abbrev vq:=@Nat.min_eq_left
abbrev zCj:=@List.map_drop
abbrev zCk:=@List.map_take
theorem cA {n:Nat}(h:n<=16777216):n<=lim:=h
theorem iT {n:Nat}(h:n<16777216):n<lim:=h
theorem qTY:(1<=lim)=True:=eq_true (cA At)
theorem wA:(2<=lim)=True:=eq_true (cA At)
def gC:=fV
def fj:=gW
def cZ:=lZ
def bH:=vg
def we:=rJ
def gN:=iZ
def eT:=gD
def isP:=lX
def wB:=rN
def jk:=eU
def jn:=bM
def ou:=fX
def rL:=iO
section
variable (a b:Int) (x y z:D) (xs ys:List D)
@[simp] theorem iH:gC .add (.int a) (.int b)=some (false,.int (a+b)):=rfl
@[simp] theorem lP:gC .sub (.int a) (.int b)=some (false,.int (a - b)):=rfl
@[simp] theorem lE:gC .mul (.int a) (.int b)=if iv a b then some (false,.int (a * b)) else none:=rfl
@[simp] theorem dO:gC .fdiv (.int a) (.int b)=if bf b then some (false,.int (a.fdiv b)) else none:=rfl
@[simp] theorem cz:gC .mod (.int a) (.int b)=if bf b then some (false,.int (a.fmod b)) else none:=rfl
@[simp] theorem jw:gC .pow (.int a) (.int b)=if hJ a b then some (false,.int (a^b.toNat)) else none:=rfl
@[simp] theorem qJy:gC .band (.int a) (.int b)=if 0<=a/\0<=b then some (false,.int ((a.toNat &&& b.toNat:Nat):Int)) else none:=rfl
@[simp] theorem qLy:gC .bor (.int a) (.int b)=if 0<=a/\0<=b then some (false,.int ((a.toNat ||| b.toNat:Nat):Int)) else none:=rfl
@[simp] theorem uG:gC .add (.lst xs) (.lst ys)=if xs.length+ys.length<=lim then some (true,.lst (xs++ys)) else none:=rfl
@[simp] theorem qS2:fj .eq x y=if (cR 20 x||cR 20 y)&&(cH x&&cH y) then some (false,.bl (aY x y)) else none:=rfl
@[simp] theorem qSY:fj .ne x y=if (cR 20 x||cR 20 y)&&(cH x&&cH y) then some (false,.bl (!aY x y)) else (oJ x y).map λe=>(false,.bl (!e)):=rfl
@[simp] theorem j9:fj .eq (.int a) (.int b)=some (false,.bl (aY (.int a) (.int b))):=rfl
@[simp] theorem qRS:fj .ne (.int a) (.int b)=some (false,.bl (!aY (.int a) (.int b))):=rfl
@[simp] theorem qLq (c d:PySem.Str):fj .eq (.str c) (.str d)=some (false,.bl (aY (.str c) (.str d))):=rfl
@[simp] theorem qLp (c d:PySem.Str):fj .ne (.str c) (.str d)=some (false,.bl (!aY (.str c) (.str d))):=rfl
@[simp] theorem yo:fj .lt (.int a) (.int b)=some (false,.bl (decide (a<b))):=rfl
@[simp] theorem qSZ:fj .le (.int a) (.int b)=some (false,.bl (decide (a<=b))):=rfl
@[simp] theorem qS0:fj .gt (.int a) (.int b)=some (false,.bl (decide (b<a))):=rfl
@[simp] theorem qS1:fj .ge (.int a) (.int b)=some (false,.bl (decide (b<=a))):=rfl
theorem qQW (i j:Int):(if j<i then j else i)=min i j:=by omega
theorem sT (i j:Int):(if i<j then j else i)=max i j:=by omega
@[simp] theorem qLD:cZ .len [.tup xs]=some (false,.int xs.length):=rfl
@[simp] theorem fK:cZ .len [.lst xs]=some (false,.int xs.length):=rfl
@[simp] theorem qTa:cZ .min [.int a,.int b]=some (false,.int (min a b)):=by rw [<-qQW];rfl
@[simp] theorem tL:cZ .max [.int a,.int b]=some (false,.int (max a b)):=by rw [<-sT];rfl
@[simp] theorem zV (c:Int):cZ .max [.int a,.int b,.int c]=some (false,.int (max (max a b) c)):=by rw [<-sT,<-sT];rfl
@[simp] theorem yA:cZ .sum [.lst xs]=(eH xs).map λis=>(false,.int is.sum):=rfl
@[simp] theorem qTb:cZ .all [.lst xs]=(oT xs).map λbs=>(false,.bl (bs.all id)):=rfl
@[simp] theorem qLA:cZ .tuple [.lst xs]=some (false,.tup xs):=rfl
@[simp] theorem qRU:cZ .list [.lst xs]=some (true,.lst xs):=rfl
@[simp] theorem pJ:bH (.lst xs) (.int a)=(gN xs a).map (false,·):=rfl
@[simp] theorem wZ:bH Ci (.int a)=(gN xs a).map (false,·):=rfl
@[simp] theorem qSE:gN (x::xs) 0=some x:=by simp [gN]
@[simp] theorem qSD:gN (x::y::xs) 1=some y:=by
 simp only [gN,iZ,ixN,de];rw [Ql AC,Ql AC];rfl
theorem qOl (j:Nat):gN xs (j:Int)=xs[j]?:=by
 simp only [gN,iZ,ixN];rw [Ql AC]
 by_cases h:j<xs.length
 ·rw [Ql AC];simp
 ·rw [Qm AC];simp;omega
@[simp] theorem qTM (l h):we l h (.lst xs)=some (true,.lst (eT xs l h)):=rfl
@[simp] theorem qRI:wB (.int a)=some (false,.int (-a)):=rfl
@[simp] theorem ye:jk [.int a]=if -(2^62)<=a/\a<2^62 then some ((List.range a.toNat).map λi=>.int (i:Nat)) else none:=rfl
@[simp] theorem qOY:cZ .sorted [.lst xs]=jS xs:=rfl
@[simp] theorem qLB:cZ .min [.lst xs]=kR xs:=rfl
theorem qIs {xs:List D}{is:List Int}{m:Int}(h:eH xs=some is) (hm:km is=some m):kR xs=some (false,.int m):=by
 unfold kR;rw [h];simp only [hm,kO]
@[simp] theorem qLC:cZ .max [.lst xs]=(eH xs).bind λis=>(kj is).map λm=>(false,.int m):=rfl
theorem qPS (n:Nat) (h:n<=10000):jk [.int n]=some ((List.range n).map λi=>.int (i:Nat)):=by
 rw [ye,Ql AC];simp
end
section
variable (call:Nat->List D->Option R) (Z:En)
@[simp 5000] theorem wJ (i):aa call Z (.v i)=k4 (ao Z i):=rfl
@[simp 5000] theorem bF (d):aa call Z (.k d)=some (false,d):=rfl
@[simp 5000] theorem aV (o a b):aa call Z (.bin o a b)=match pk Z a CM with
 | none=>none|some x=>match pk Z b (aa call Z b) with|none=>none|some y=>gC o x y:=by
 rw [y9];cases pk Z a CM<;>first|rfl|(cases pk Z b (aa call Z b)<;>rfl)
@[simp 5000] theorem qTi (a):aa call Z (.neg a)=match pk Z a CM with|none=>none|some x=>wB x:=by
 rw [zb];cases pk Z a CM<;>rfl
@[simp 5000] theorem iC (o a b):aa call Z (.cmp o a b)=match pk Z a CM with
 | none=>none|some x=>match pk Z b (aa call Z b) with|none=>none|some y=>fj o x y:=by
 rw [tP];cases pk Z a CM<;>first|rfl|(cases pk Z b (aa call Z b)<;>rfl)
@[simp 5000] theorem qTj (n a d):aa call Z (.isC n a d)=match pk Z a CM with|none=>none|some x=>isP n x d:=by
 rw [tR];cases pk Z a CM<;>rfl
@[simp 5000] theorem xZ (a b):aa call Z (.and a b)=match aa call Z a with
 | none=>none|some (_,.bl c)=>(if c=true then aa call Z b else some (false,.bl false))|some _=>none:=by
 rw [y8];rcases aa call Z a with _|⟨x,d⟩<;>first|rfl|(cases d<;>first|rfl|(rename_i c;cases c<;>rfl))
@[simp 5000] theorem pK (a b):aa call Z (.or a b)=match aa call Z a with
 | none=>none|some (_,.bl c)=>(if c=true then some (false,.bl true) else aa call Z b)|some _=>none:=by
 rw [xw];rcases aa call Z a with _|⟨x,d⟩<;>first|rfl|(cases d<;>first|rfl|(rename_i c;cases c<;>rfl))
@[simp 5000] theorem x5 (a):aa call Z (.not a)=match aa call Z a with
 | none=>none|some (_,.bl c)=>some (false,.bl (!c))|some _=>none:=by
 rw [zc];rcases aa call Z a with _|⟨x,d⟩<;>first|rfl|(cases d<;>rfl)
@[simp 5000] theorem fF (a b):aa call Z (.ix a b)=match pk Z a CM with
 | none=>none|some x=>match pk Z b (aa call Z b) with|none=>none|some y=>bH x y:=by
 rw [xu];cases pk Z a CM<;>first|rfl|(cases pk Z b (aa call Z b)<;>rfl)
@[simp 5000] theorem xo (a lo hi):aa call Z (.sl a lo hi)=match pk Z a CM with
 | none=>none|some x=>match gO call Z lo with|none=>none|some l=>match gO call Z hi with|none=>none|some h=>we l h x:=by
 rw [xy];cases pk Z a CM<;>first|rfl|(cases gO call Z lo<;>first|rfl|(cases gO call Z hi<;>rfl))
@[simp 5000] theorem lu (as):aa call Z (.tup as)=match dC call Z as with|none=>none|some xs=>if xs.length<=lim then some (false,.tup xs) else none:=by
 rw [iF];cases dC call Z as<;>rfl
@[simp 5000] theorem sV (as):aa call Z (.lst as)=match dC call Z as with|none=>none|some xs=>if xs.length<=lim then some (true,.lst xs) else none:=by
 rw [za];cases dC call Z as<;>rfl
@[simp 5000] theorem zg (f as):aa call Z (.call f as)=match fv call Z as with|none=>none|some xs=>call f xs:=by
 rw [lR];cases fv call Z as<;>rfl
@[simp 5000] theorem fY (b as):aa call Z (.bi b as)=match cu call Z as with|none=>none|some xs=>cZ b xs:=by
 rw [sU];cases cu call Z as<;>rfl
@[simp 5000] theorem qO8 (c a b):aa call Z (.ifx c a b)=match aa call Z c with
 | none=>none|some (_,.bl t)=>(if t=true then aa call Z a else aa call Z b)|some _=>none:=by
 rw [tQ];rcases aa call Z c with _|⟨x,d⟩<;>first|rfl|(cases d<;>first|rfl|(rename_i c;cases c<;>rfl))
@[simp 5000] theorem qJU (e nl ks tg rs):aa call Z (.compR e nl ks tg rs)=match cu call Z rs with
 | none=>none|some x=>match jk x with|none=>none|some its=>if its.length<=lim then (match cK call e (br Z nl ks) tg its with|none=>none|some ys=>some (true,.lst ys)) else none:=by
 rw [AR]
 cases cu call Z rs with
 | none=>rfl
 | some x => show (eU x).bind _ = match eU x with | none => none | some its => _
             cases eU x with
             | none=>rfl
             | some its => show (if its.length <= lim then (cK call e (br Z nl ks) tg its).bind _ else none) = if its.length <= lim then (match cK call e (br Z nl ks) tg its with | none => none | some ys => _) else none
                           cases cK call e (br Z nl ks) tg its<;>rfl
@[simp 5000] theorem qJT (e nl ks tg a b):aa call Z (.compZ e nl ks tg a b)=match aa call Z a with
 | none=>none|some x=>match aa call Z b with|none=>none|some y=>match jn x.2 with|none=>none|some xs=>match ou y.2 with|none=>none|some ys=>match cK call e (br Z nl ks) tg (bY xs ys) with|none=>none|some zs=>some (true,.lst zs):=by
 rw [AV]
 cases aa call Z a with
 | none=>rfl
 | some x =>
  cases aa call Z b with
  | none=>rfl
  | some y =>
   show (bM x.2).bind _=match bM x.2 with|none=>none|some its=>_
   cases bM x.2 with
   | none=>rfl
   | some xs =>
    show (fX y.2).bind _=match fX y.2 with|none=>none|some its=>_
    cases fX y.2 with
    | none=>rfl
    | some ys =>
     show (cK call e (br Z nl ks) tg (bY xs ys)).bind _=match cK call e (br Z nl ks) tg (bY xs ys) with|none=>none|some ys=>_
     cases cK call e (br Z nl ks) tg (bY xs ys)<;>rfl
@[simp 5000] theorem qMS (a):aa call Z (.revL a)=match pk Z a CM with|none=>none|some d=>sD d:=by
 rw [zA];cases pk Z a CM<;>rfl
@[simp 5000] theorem iG (a r):dC call Z (a::r)=match aa call Z a with|none=>none|some x=>match dC call Z r with|none=>none|some xs=>some (x.2::xs):=by
 rw [dz];cases aa call Z a<;>first|rfl|(cases dC call Z r<;>rfl)
@[simp 5000] theorem zh (a r):fv call Z (a::r)=match ag Z a CM with|none=>none|some x=>match fv call Z r with|none=>none|some xs=>some (x::xs):=by
 rw [iU];cases ag Z a CM<;>first|rfl|(cases fv call Z r<;>rfl)
@[simp 5000] theorem fb (a r):cu call Z (a::r)=match pk Z a CM with|none=>none|some x=>match cu call Z r with|none=>none|some xs=>some (x::xs):=by
 rw [ux];cases pk Z a CM<;>first|rfl|(cases cu call Z r<;>rfl)
@[simp 5000] theorem qRZ (c):gO call Z (some c)=match pk Z c (aa call Z c) with|none=>none|some x=>rO x:=by
 rw [zB];cases pk Z c (aa call Z c)<;>rfl
variable (rest:List S)
@[simp 5000] theorem x6 (is):ak call Z (.frz is::rest)=ak call (is.foldl frz1 Z) rest:=rfl
@[simp 5000] theorem qO4 (i keep e):ak call Z (.set i keep e::rest)=match aa call Z e with|none=>none|some r=>ak call (Z.set i (some (eI keep r))) rest:=by
 rw [eY,yR];cases aa call Z e<;>rfl
@[simp 5000] theorem qO6 (i e):ak call Z (.app i e::rest)=match aa call Z e with|none=>none|some x=>match rL Z i x.2 with|some (.nx Z')=>ak call Z' rest|some (.rt r)=>some (.rt r)|some (.bk q)=>some (.bk q)|some (.ct q)=>some (.ct q)|none=>none:=by
 rw [eY,yO]
 cases aa call Z e with
 | none=>rfl
 | some x =>
  show (iO Z i x.2).bind _=match iO Z i x.2 with|some (.nx Z')=>_|some (.rt r)=>_|some (.bk q)=>_|some (.ct q)=>_|none=>_
  rcases iO Z i x.2 with _|(_|_|_|_)<;>rfl
@[simp 5000] theorem qO5 (e):ak call Z (.ret e::rest)=match fi Z e (aa call Z e) with|none=>none|some r=>some (.rt r):=by
 rw [eY,qd];cases fi Z e (aa call Z e)<;>rfl
@[simp 5000] theorem sW (c a b):ak call Z (.ite c a b::rest)=match aa call Z c with
 | none=>none
 | some (_,.bl t)=>if t=true then (match ak call Z a with|some (.nx Z')=>ak call Z' rest|some (.rt r)=>some (.rt r)|some (.bk q)=>some (.bk q)|some (.ct q)=>some (.ct q)|none=>none)
   else (match ak call Z b with|some (.nx Z')=>ak call Z' rest|some (.rt r)=>some (.rt r)|some (.bk q)=>some (.bk q)|some (.ct q)=>some (.ct q)|none=>none)
 | some _=>none:=by
 rw [eY,yP]
 rcases aa call Z c with _|⟨x,d⟩
 ·rfl
 ·cases d with
  | bl t =>
   cases t with
   | true => show (ak call Z a).bind _ = match ak call Z a with | some (.nx Z') => _ | some (.rt r) => _ | some (.bk q) => _ | some (.ct q) => _ | none => _
             rcases ak call Z a with _|(_|_|_|_)<;>rfl
   | false => show (ak call Z b).bind _ = match ak call Z b with | some (.nx Z') => _ | some (.rt r) => _ | some (.bk q) => _ | some (.ct q) => _ | none => _
              rcases ak call Z b with _|(_|_|_|_)<;>rfl
  | _=>rfl
@[simp 5000] theorem qMQ (tg src body):ak call Z (.forS tg src body::rest)=match aa call Z src with|none=>none|some x=>match jn x.2 with|none=>none|some its=>match cB call body tg its Z with|some (.nx Z')=>ak call Z' rest|some (.rt r)=>some (.rt r)|some (.bk q)=>some (.bk q)|some (.ct q)=>some (.ct q)|none=>none:=by
 rw [eY,zD]
 cases aa call Z src with
 | none=>rfl
 | some x =>
  show ((bM x.2).bind _).bind _=match bM x.2 with|none=>none|some its=>_
  cases bM x.2 with
  | none=>rfl
  | some its =>
   show (cB call body tg its Z).bind _=match cB call body tg its Z with|some (.nx Z')=>_|some (.rt r)=>_|some (.bk q)=>_|some (.ct q)=>_|none=>_
   rcases cB call body tg its Z with _|(_|_|_|_)<;>rfl
@[simp 5000] theorem qMR (tg rs body):ak call Z (.forR tg rs body::rest)=match cu call Z rs with|none=>none|some x=>match jk x with|none=>none|some its=>match cB call body tg its Z with|some (.nx Z')=>ak call Z' rest|some (.rt r)=>some (.rt r)|some (.bk q)=>some (.bk q)|some (.ct q)=>some (.ct q)|none=>none:=by
 rw [eY,zC]
 cases cu call Z rs with
 | none=>rfl
 | some x =>
  show ((eU x).bind _).bind _=match eU x with|none=>none|some its=>_
  cases eU x with
  | none=>rfl
  | some its =>
   show (cB call body tg its Z).bind _=match cB call body tg its Z with|some (.nx Z')=>_|some (.rt r)=>_|some (.bk q)=>_|some (.ct q)=>_|none=>_
   rcases cB call body tg its Z with _|(_|_|_|_)<;>rfl
@[simp 5000] theorem qMP (tg a b body):ak call Z (.forZ tg a b body::rest)=match aa call Z a with|none=>none|some x=>match aa call Z b with|none=>none|some y=>match jn x.2 with|none=>none|some xs=>match ou y.2 with|none=>none|some ys=>match cB call body tg (bY xs ys) Z with|some (.nx Z')=>ak call Z' rest|some (.rt r)=>some (.rt r)|some (.bk q)=>some (.bk q)|some (.ct q)=>some (.ct q)|none=>none:=by
 rw [eY,zE]
 cases aa call Z a with
 | none=>rfl
 | some x =>
  cases aa call Z b with
  | none=>rfl
  | some y =>
   show ((bM x.2).bind _).bind _=match bM x.2 with|none=>none|some its=>_
   cases bM x.2 with
   | none=>rfl
   | some xs =>
    show ((fX y.2).bind _).bind _=match fX y.2 with|none=>none|some its=>_
    cases fX y.2 with
    | none=>rfl
    | some ys =>
     show (cB call body tg (bY xs ys) Z).bind _=match cB call body tg (bY xs ys) Z with|some (.nx Z')=>_|some (.rt r)=>_|some (.bk q)=>_|some (.ct q)=>_|none=>_
     rcases cB call body tg (bY xs ys) Z with _|(_|_|_|_)<;>rfl
theorem qLF {Z:En}{i:Nat}{xs:List D}{e:D}(h:ao Z i=some (true,.lst xs)) (hl:xs.length<lim):rL Z i e=some (.nx (Z.set i (some (true,.lst (xs++[e]))))):=by
 show iO Z i e=_
 unfold iO;rw [h];simp only;rw [Ql hl]
section
variable {call:Nat->List D->Option R}{Z:En}{rest:List S}{z:Option Ou}
theorem av {i:Nat}{keep:Bool}{e:C}(r:R) (h:aa call Z e=some r) (k:ak call (Z.set i (some (eI keep r))) rest=z):ak call Z (.set i keep e::rest)=z:=by
 rw [qO4,h];exact k
theorem iS {i:Nat}{e:C}{xs:List D}(r:R) (h:aa call Z e=some r) (ho:ao Z i=some (true,.lst xs)) (hl:xs.length<lim) (k:ak call (Z.set i (some (true,.lst (xs++[r.2])))) rest=z):ak call Z (.app i e::rest)=z:=by
 rw [qO6,h];show (match rL Z i r.2 with|some (.nx Z')=>ak call Z' rest|some (.rt r)=>some (.rt r)|some (.bk q)=>some (.bk q)|some (.ct q)=>some (.ct q)|none=>none)=z
 rw [qLF ho hl];exact k
theorem iq {c:C}{a b:List S}{x:Bool}{Z':En}(h:aa call Z c=some (x,.bl true)) (ha:ak call Z a=some (.nx Z')) (k:ak call Z' rest=z):ak call Z (.ite c a b::rest)=z:=by
 rw [sW,h];simp only [if_true];rw [ha];exact k
theorem wF {c:C}{a b:List S}{x:Bool}{Z':En}(h:aa call Z c=some (x,.bl false)) (ha:ak call Z b=some (.nx Z')) (k:ak call Z' rest=z):ak call Z (.ite c a b::rest)=z:=by
 rw [sW,h];simp only [fS,if_false];rw [ha];exact k
theorem aX {c:C}{a:List S}{x:Bool}(h:aa call Z c=some (x,.bl false)) (k:ak call Z rest=z):ak call Z (.ite c a []::rest)=z:=wF h rfl k
theorem cV {c:C}{a b:List S}{x:Bool}{r:R}(h:aa call Z c=some (x,.bl true)) (ha:ak call Z a=some (.rt r)) (k:some (.rt r)=z):ak call Z (.ite c a b::rest)=z:=by
 rw [sW,h];simp only [if_true];rw [ha];exact k
theorem tF {tg:Tg}{rs:List C}{body:List S}{ds its:List D}{Z':En}(h:cu call Z rs=some ds) (hr:jk ds=some its) (hf:cB call body tg its Z=some (.nx Z')) (k:ak call Z' rest=z):ak call Z (.forR tg rs body::rest)=z:=by
 rw [qMR,h];simp only;rw [hr];simp only;rw [hf];exact k
theorem j0 {i:Nat}{e:C}{xs ys:List D}(h:aa call Z e=some (true,.lst ys)) (ho:ao Z i=some (true,.lst xs)) (hl:xs.length+ys.length<=lim) (k:ak call (Z.set i (some (true,.lst (xs++ys)))) rest=z):ak call Z (.ext i e::rest)=z:=by
 rw [eY,tS,h]
 simp only [bN,oA]
 rw [ho]
 simp only
 rw [Ql hl]
 exact k
theorem qPy {tg:Tg}{i:Nat}{xs:List D}{d:D}{Z':En}(ho:ao Z i=some (true,.lst (xs++[d]))) (hb:di (Z.set i (some (true,.lst xs))) tg d=some Z') (k:ak call Z' rest=z):ak call Z (.pop tg i::rest)=z:=by
 rw [eY,yQ]
 unfold oP
 rw [ho]
 simp only [List.getLast?_append,List.getLast?_singleton,bN,List.dropLast_concat,Option.some_or]
 rw [hb]
 exact k
theorem yi {c:C}{body:List S}{o:Ou}(h:iw (fun Z'=>aa call Z' c) (fun Z'=>ak call Z' body) jy Z=some o) (k:(match o with|.nx Z'=>ak call Z' rest|.rt r=>some (.rt r)|.bk q=>some (.bk q)|.ct q=>some (.ct q))=z):ak call Z (.whl c body::rest)=z:=by
 rw [eY,yS,h]
 cases o<;>exact k
theorem gf {tg:Tg}{src:C}{body:List S}{r:R}{its:List D}{Z':En}(h:aa call Z src=some r) (hr:jn r.2=some its) (hf:cB call body tg its Z=some (.nx Z')) (k:ak call Z' rest=z):ak call Z (.forS tg src body::rest)=z:=by
 rw [qMQ,h];simp only;rw [hr];simp only;rw [hf];exact k
theorem ay {e:C}{r:R}(h:fi Z e (aa call Z e)=some r) (k:some (.rt r)=z):ak call Z (.ret e::rest)=z:=by
 rw [qO5,h];exact k
theorem qc {e:C}{nl:Nat}{ks:List Nat}{tg:Tg}{rs:List C}{ds its ys:List D}{Z':En}(h:cu call Z rs=some ds) (hr:jk ds=some its) (hl:its.length<=lim) (hc:br Z nl ks=Z') (hf:cK call e Z' tg its=some ys):aa call Z (.compR e nl ks tg rs)=some (true,.lst ys):=by
 subst hc
 rw [qJU,h];simp only;rw [hr];simp only;rw [Ql hl,hf]
theorem fq {c:C}{r:R}(h:aa call Z c=some r):pk Z c (aa call Z c)=some r.2:=by
 cases c with
 | v i =>
  rw [w9] at h
  show (ao Z i).bind aQ=_
  cases hg:ao Z i with
  | none=>rw [hg] at h;cases h
  | some q =>
   rw [hg] at h
   obtain⟨b,d⟩:=q
   cases b with
   | false=>cases h;rfl
   | true=>cases h
 | _=>rw [h];rfl
theorem iD {e:C}{nl:Nat}{ks:List Nat}{tg:Tg}{src:C}{r:R}{its ys:List D}{Z':En}(h:aa call Z src=some r) (hr:jn r.2=some its) (hc:br Z nl ks=Z') (hf:cK call e Z' tg its=some ys):aa call Z (.compS e nl ks tg src)=some (true,.lst ys):=by
 subst hc
 rw [AU,fq h,bN,show bM r.2=some its from hr,bN,hf]
 rfl
end
theorem qTx (fd:Fd) (as:List D) (h:as.length=fd.np):jl call fd as=match ak call (cj false as++List.replicate (fd.ns - fd.np) none) fd.body with|some (.nx _)=>some (false,.non)|some (.rt r)=>some r|some (.bk _)=>none|some (.ct _)=>none|none=>none:=by
 unfold jl;rw [Ql h]
 rcases ak call (cj false as++List.replicate (fd.ns - fd.np) none) fd.body with _|(_|_|_|_)<;>rfl
end
theorem qJt {tab:List Fd}{f:Nat}{fd:Fd}(h:tab[f]?=some fd) (n:Nat) (as:List D) (hl:as.length=fd.np):aH tab (n+1) f as =
  match ak (aH tab n) (cj false as++List.replicate (fd.ns - fd.np) none) fd.body with|some (.nx _)=>some (false,.non)|some (.rt r)=>some r|some (.bk _)=>none|some (.ct _)=>none|none=>none:=by
 rw [nC h,qTx _ _ _ hl]
theorem aI {tab:List Fd}{f:Nat}{fd:Fd}{as:List D}{n:Nat}{r:R}{Z:En}(h:tab[f]?=some fd) (hl:as.length=fd.np) (hZ:cj false as++List.replicate (fd.ns - fd.np) none=Z) (hb:ak (aH tab n) Z fd.body=some (.rt r)):aH tab (n+1) f as=some r:=by
 subst hZ
 rw [qJt h n as hl,hb]
end Dw
namespace Dw.T
open Dw
section
variable {call:Nat->List D->Option R}{body:List S}{tg:Tg}
theorem ft (I:Nat->En->Prop):∀(its:List D) (a:Nat) (Z:En),I a Z ->
  (∀(k:Nat) (d:D) (Z:En),its[k]?=some d->I (a+k) Z->∃Z1 Z2,di Z tg d=some Z1/\ak call Z1 body=some (.nx Z2)/\I (a+k+1) Z2) ->
  ∃Z',cB call body tg its Z=some (.nx Z')/\I (a+its.length) Z'
 | [],a,Z,h,_=>⟨Z,rfl,by simpa using h⟩
 | d::r,a,Z,h,st=>by
  obtain⟨Z1,Z2,h1,h2,h3⟩:=st 0 d Z rfl (by simpa using h)
  obtain⟨Z',e,h'⟩:=ft I r (a+1) Z2 (by simpa using h3) λk d Z hk hi=>by
   have:=st (k+1) d Z (by simpa using hk) (by rw [show a+(k+1)=a+1+k by omega];exact hi)
   rw [show a+(k+1)+1=a+1+k+1 by omega] at this
   exact this
  refine⟨Z',?_,?_⟩
  ·rw [A0,h1];simp [h2,e]
  ·rw [show a+(d::r).length=a+1+r.length by simp;omega];exact h'
theorem lN (I:Nat->En->Prop) (m:Nat) (f:Nat->D) (Z:En) (h:I 0 Z)
  (st:∀(k:Nat) (Z:En),k<m->I k Z->∃Z1 Z2,di Z tg (f k)=some Z1/\ak call Z1 body=some (.nx Z2)/\I (k+1) Z2) :
  ∃Z',cB call body tg ((List.range m).map f) Z=some (.nx Z')/\I m Z':=by
 obtain⟨Z',e,h'⟩:=ft (call:=call) (body:=body) (tg:=tg) I ((List.range m).map f) 0 Z h λk d Z hk hi=>by
  rw [zAt] at hk
  cases q:(List.range m)[k]? with
  | none=>rw [q] at hk;cases hk
  | some j =>
   rw [q] at hk
   obtain⟨hl,ej⟩:=zBo.mp q
   simp at hl ej
   subst ej
   cases hk
   simpa using st k Z hl (by simpa using hi)
 exact⟨Z',e,by simpa using h'⟩
end
noncomputable def bx (m:Nat) (f:Nat->D):List D:=(List.range m).map f
@[simp] theorem lM (m f):(bx m f).length=m:=by simp [bx]
theorem qRd {m:Nat}(f:Nat->D) {j:Nat}(h:j<m):(bx m f)[j]?=some (f j):=by simp [bx,h]
theorem qQN {m:Nat}(f:Nat->D) {j:Nat}(h:j<m):gN (bx m f) (j:Int)=some (f j):=by
 rw [qOl,qRd f h]
theorem pY (m:Nat) (f g:Nat->D):bY (bx m f) (bx m g)=(List.range m).map λj=>.tup [f j,g j]:=by
 unfold bx
 generalize List.range m=l
 induction l with
 | nil=>rfl
 | cons x r ih=>simp only [zAl,bY,List.zipWith_cons_cons] at ih ⊢;rw [ih]
noncomputable def fH (ns:List Int) (k:Nat):Int:=(ns[k]?).getD 0
abbrev P2:=Int×Int
noncomputable def side (p:P2):D:=.tup [.int p.1,.int p.2]
def bP (m:Nat) (f:Nat->P2):D:=.tup (bx m λj=>side (f j))
theorem qLn {call:Nat->List D->Option R}{e:C}{m:Nat}{F G:Nat->D}(g:Nat->D)
  (h:∀j,j<m->∃b,aa call [some (false,F j),some (false,G j)] e=some (b,g j)) :
  cK call e [none,none] (.two 0 1) (bY (bx m F) (bx m G))=some (bx m g):=by
 rw [pY]
 exact f7 call [none,none] (e:=e) (tg:=.two 0 1) (λj=>.tup [F j,G j]) g (List.range m) λj hj=>by
  obtain⟨b,hb⟩:=h j (zBa.mp hj)
  exact⟨_,b,rfl,hb⟩
theorem xF (p:P2):bH (side p) (.int 0)=some (false,.int p.1):=rfl
theorem xG (p:P2):bH (side p) (.int 1)=some (false,.int p.2):=rfl
theorem qK0 {m j:Nat}(f:Nat->D) (h:j<m):bH (.tup (bx m f)) (.int (j:Int))=some (false,f j):=by
 rw [wZ,qQN _ h];rfl
theorem qKp (m:Nat) (f:Nat->P2):jn (bP m f)=some (bx m λj=>side (f j)):=rfl
theorem z9 {call:Nat->List D->Option R}{e:C}{m:Nat}{r:List (Option R)}(g:Nat->D) (h:∀j:Nat,j<m->∃b,aa call (some (false,.int (j:Int))::r) e=some (b,g j)) :
  cK call e (none::r) (.one 0) ((List.range m).map λi=>.int (i:Nat))=some (bx m g):=
 f7 call (none::r) (e:=e) (tg:=.one 0) (λi:Nat=>.int (i:Nat)) g (List.range m) λj hj=>by
  obtain⟨b,hb⟩:=h j (zBa.mp hj)
  exact⟨_,b,rfl,hb⟩
theorem tY {call:Nat->List D->Option R}{e:C}{m:Nat}{r:List (Option R)}(f g:Nat->D) (h:∀j:Nat,j<m->∃b,aa call (some (false,f j)::r) e=some (b,g j)) :
  cK call e (none::r) (.one 0) (bx m f)=some (bx m g):=
 f7 call (none::r) (e:=e) (tg:=.one 0) f g (List.range m) λj hj=>by
  obtain⟨b,hb⟩:=h j (zBa.mp hj)
  exact⟨_,b,rfl,hb⟩
theorem tO (xs:List D) (a b:Nat) (h:a<=b):eT xs (some (a:Int)) (some (b:Int))=(xs.drop a).take (b - a):=by
 simp only [eT,gD,cutAt]
 rw [Qm AC,Qm AC]
 simp only [kF]
 by_cases h1:a<=xs.length
 ·rw [vq h1]
  by_cases h2:b<=xs.length
  ·rw [vq h2]
  ·rw [qW AC]
   rw [vx C2,vx (by simp;omega)]
 ·rw [qW (by omega:xs.length<=a),qW (by omega:xs.length<=b)]
  simp [zBt (show xs.length<=a by omega)]
theorem qLk (ns:List Int) (a b:Nat) (h:a<=b):eT CC (some (a:Int)) (some (b:Int))=((ns.drop a).take (b - a)).map .int:=by
 rw [tO _ _ _ h,<-zCj,<-zCk]
section
variable {call:Nat->List D->Option R}{Z:En}
theorem bL {o:COp}{a b:C}{x y:D}{r:Option R}(ha:pk Z a CM=some x) (hb:pk Z b (aa call Z b)=some y) (h:fj o x y=r):aa call Z (.cmp o a b)=r:=by
 rw [iC,ha];simp only;rw [hb];exact h
theorem cD {o:BI}{a:C}{x:D}{r:Option R}(ha:pk Z a CM=some x) (h:cZ o [x]=r):aa call Z (.bi o [a])=r:=by
 rw [fY,fb,ha];exact h
theorem um {e nl ks tg rs}{r:R}(h:aa call Z (.compS e nl ks tg rs)=some r):pk Z (.compS e nl ks tg rs) (aa call Z (.compS e nl ks tg rs))=some r.2:=by rw [h];rfl
theorem dN {o as}{r:R}(h:aa call Z (.bi o as)=some r):pk Z (.bi o as) (aa call Z (.bi o as))=some r.2:=by rw [h];rfl
theorem eM {o as}{r:R}(h:aa call Z (.call o as)=some r):pk Z (.call o as) (aa call Z (.call o as))=some r.2:=by rw [h];rfl
theorem dD {a b}{r:R}(h:aa call Z (.ix a b)=some r):pk Z (.ix a b) (aa call Z (.ix a b))=some r.2:=by rw [h];rfl
theorem qP0 {a}{r:R}(h:aa call Z (.tup a)=some r):pk Z (.tup a) (aa call Z (.tup a))=some r.2:=by rw [h];rfl
theorem bt {a b:C}{x y:D}{r:Option R}(ha:pk Z a CM=some x) (hb:pk Z b (aa call Z b)=some y) (h:bH x y=r):aa call Z (.ix a b)=r:=by
 rw [fF,ha];simp only;rw [hb];exact h
theorem qQ4 {a b:C}{x:Bool}(ha:aa call Z a=some (x,.bl false)):aa call Z (.and a b)=some (false,.bl false):=by
 rw [xZ,ha];rfl
theorem mZ {a b:C}{x:Bool}{r:Option R}(ha:aa call Z a=some (x,.bl true)) (hb:aa call Z b=r):aa call Z (.and a b)=r:=by
 rw [xZ,ha];exact hb
theorem jV {a b:C}{x y:Bool}{p q:Bool}(ha:aa call Z a=some (x,.bl p)) (hb:aa call Z b=some (false,.bl q)):aa call Z (.and a b)=some (false,.bl (p&&q)):=by
 cases p with
 | true=>exact mZ ha hb
 | false=>exact qQ4 ha
theorem qOA {e:C}{nl:Nat}{ks:List Nat}{tg:Tg}{a b:C}{x y:R}{xs ys zs:List D}{Z':En}(ha:aa call Z a=some x) (hb:aa call Z b=some y) (hx:jn x.2=some xs) (hy:ou y.2=some ys) (hc:br Z nl ks=Z') (hf:cK call e Z' tg (bY xs ys)=some zs):aa call Z (.compZ e nl ks tg a b)=some (true,.lst zs):=by
 subst hc
 rw [qJT,ha];simp only;rw [hb];simp only;rw [hx];simp only;rw [hy];simp only;rw [hf]
end
section
variable {call:Nat->List D->Option R}{Z:En}{rest:List S}{z:Option Ou}
theorem lj {m:Nat}(hs:m<=10000):jk [.int (m:Int)]=some ((List.range m).map λi=>.int (i:Nat)):=qPS m hs
end
theorem tT (l j:Nat) (h:j<l):ixN l (j:Int)=some j:=by
 unfold ixN;rw [Ql AC,Ql AC];simp
end Dw.T
namespace Dw.T
open Dw PySem
abbrev Q4:=Int×Int×Int×Int
def q4 (q:Q4):D:=.tup [.int q.1,.int q.2.1,.int q.2.2.1,.int q.2.2.2]
theorem kS (a b:Int) (h:a.natAbs<2^64):iv a b=true:=Qk (.inr (.inl h))
theorem kT (a b:Int) (h:b.natAbs<2^64):iv a b=true:=Qk (.inr (.inr (.inl h)))
theorem rY (a b:Int) (h:a.natAbs<2^240) (h':b.natAbs<2^240):iv a b=true:=Qk (.inl ⟨h,h'⟩)
theorem qTX (a b:Int) (h:a.natAbs<jj) (h':b.natAbs<jj):iv a b=true:=Qk (.inr (.inr (.inr ⟨h,h'⟩)))
theorem qMN:jj=jg * 2^64:=by unfold jj jg;rw [<-Nat.pow_add]
theorem qOr:2^200<=jg:=vt At At
theorem jQ (b:Int) (h0:b≠0) (h:b.natAbs<2^240):bf b=true:=Qk ⟨h0,.inl h⟩
theorem dW (a m:Int) (h:0<m):0<=a.fmod m/\a.fmod m<m:=by
 rw [zBe _ (by omega:0<=m)]
 exact⟨Int.emod_nonneg _ AC,Int.emod_lt_of_pos _ h⟩
section
variable {call:Nat->List D->Option R}
theorem qPq (ns:List Int) (k:Nat):ak call [zF C8,zF (.int (k:Int))] f_law_cell_at.body=some (.rt (false,.int (fH ns k))):=by
 by_cases h:k<ns.length
 ·have h1:decide ((k:Int)<((ns.length:Nat):Int))=true:=Qk AC
  refine cV (x:=false) (r:=(false,.int (fH ns k))) (by simp only [iC,pk,ao,bC,bD,bu,bw,aQ,fY,fb,gI,fK,qX,bg,yo,h1]) ?_ rfl
  refine ay (r:=(false,.int (fH ns k))) (bt rfl rfl ?_) rfl
  rw [pJ]
  unfold gN iZ
  rw [qX,tT _ _ h]
  simp [fH,h]
 ·have h1:decide ((k:Int)<((ns.length:Nat):Int))=false:=Qj AC
  have e:fH ns k=0:=by simp [fH,List.getElem?_eq_none (Nat.le_of_not_lt h)]
  refine aX (x:=false) (by simp only [iC,pk,ao,bC,bD,bu,bw,aQ,fY,fb,gI,fK,qX,bg,yo,h1]) ?_
  rw [e]
  exact ay (r:=(false,.int 0)) rfl rfl
end
theorem u9 (q:Q4):bH (q4 q) (.int 0)=zF (.int q.1):=rfl
theorem u7 (q:Q4):bH (q4 q) (.int 1)=zF (.int q.2.1):=rfl
theorem uZ (q:Q4):bH (q4 q) (.int 2)=zF (.int q.2.2.1):=rfl
theorem Bn (q:Q4):bH (q4 q) (.int 3)=zF (.int q.2.2.2):=rfl
theorem xJ {a b A B:Int}(h:-A<=a/\a<=A) (h':0<=b/\b<=B) (hA:0<=A):-(A * B)<=a * b/\a * b<=A * B:=by
 have h1:a * b<=A * b:=vw h.2 h'.1
 have h2:(-A) * b<=a * b:=vw h.1 h'.1
 have h3:A * b<=A * B:=Int.mul_le_mul_of_nonneg_left h'.2 hA
 rw [Int.neg_mul] at h2
 omega
abbrev Fr:=Nat->Q4
def cC (m:Nat) (c:Fr):D:=.tup (bx m λj=>q4 (c j))
noncomputable def qA (c:Fr) (t:Int) (j:Nat):P2:=((c j).1+(c j).2.2.1 * t,(c j).2.1+(c j).2.2.2 * t)
def qV (q:Q4):Prop:=(-(10^31)<=q.1/\q.1<=10^31)/\(-(10^31)<=q.2.1/\q.2.1<=10^31)/\(-(10^15)<=q.2.2.1/\q.2.2.1<=10^15)/\(-(10^15)<=q.2.2.2/\q.2.2.2<=10^15)
def cT (c:Fr):Prop:=∀j,qV (c j)
def gp (p q:P2):Int:=max (max 0 (p.1 - q.2)) (q.1 - p.2)
def aM (m:Nat) (g f:Nat->P2):Int:=((List.range m).map λj=>gp (g j) (f j) * gp (g j) (f j)).sum
theorem qPw (m:Nat) (p:Nat->Int):cZ .sum [.lst (bx m λj=>.int (p j))]=zF (.int ((List.range m).map p).sum):=by
 rw [yA,show (bx m λj=>D.int (p j))=(List.range m).map λj=>.int (p j) from rfl,uQ]
 rfl
def d5 (q:P2):Prop:=(-(10^33)<=q.1/\q.1<=10^33)/\(-(10^33)<=q.2/\q.2<=10^33)
theorem fE {c:Fr}(hc:cT c) {t:Int}(ht:0<=t/\t<=10^15) (j:Nat):d5 (qA c t j):=by
 have h:=hc j
 unfold qV at h
 have h1:=xJ (A:=10^15) (B:=10^15) h.2.2.1 ht At
 have h2:=xJ (A:=10^15) (B:=10^15) h.2.2.2 ht At
 show (-(10^33)<=(c j).1+(c j).2.2.1 * t/\(c j).1+(c j).2.2.1 * t<=10^33)/\(-(10^33)<=(c j).2.1+(c j).2.2.2 * t/\(c j).2.1+(c j).2.2.2 * t<=10^33)
 omega
theorem xc {p q:P2}(hp:d5 p) (hq:d5 q):(gp p q).natAbs<2^200:=by
 unfold d5 at hp hq
 unfold gp
 omega
section
variable {call:Nat->List D->Option R}
theorem qTy (p q:P2):ak call [zF (side p),zF (side q)] f_side_gap.body=some (.rt (false,.int (gp p q))):=
 ay (by simp only [fi,fY,fb,pk,bF,bg,aV,fF,ao,bD,bu,bw,aQ,xF,bC,xG,lP,gI,zV];rfl) rfl
end
section
variable {call:Nat->List D->Option R}
theorem qTB (m:Nat) (g f:Nat->P2) (hg:∀j,d5 (g j)) (hf:∀j,d5 (f j)) (C3:∀p q,call 0 [side p,side q]=zF (.int (gp p q))):ak call [zF (bP m g),zF (bP m f),none] f_box_gap.body=some (.rt (false,.int (aM m g f))):=by
 have hc:=qOA (call:=call) (Z:=[zF (bP m g),zF (bP m f),none]) (e:=(.call 0 [V0,V1])) (nl:=2) (ks:=[]) (a:=.v 0) (b:=.v 1) rfl rfl (qKp m g) rfl rfl
  (qLn (F:=λj=>side (g j)) (G:=λj=>side (f j)) (λj=>.int (gp (g j) (f j))) λj hj=>⟨false,by have:=C3 (g j) (f j);simp [this]⟩)
 refine av _ hc ?_
 have hd:=iD (call:=call) (Z:=[zF (bP m g),zF (bP m f),zF (.lst (bx m λj=>.int (gp (g j) (f j))))]) (e:=(.bin .mul V0 V0)) (nl:=1) (ks:=[]) (src:=.v 2) rfl rfl rfl
  (tY (λj=>.int (gp (g j) (f j))) (λj=>.int (gp (g j) (f j) * gp (g j) (f j))) λj hj=>⟨false,by
   have:=xc (hg j) (hf j)
   have m1:=rY (gp (g j) (f j)) (gp (g j) (f j)) AC AC
   simp [m1]⟩)
 exact ay (cD (um hd) (qPw m _)) rfl
end
section
variable {call:Nat->List D->Option R}
theorem qTz (q:Q4) (t:Int) (ht:t.natAbs<2^64):ak call [zF (q4 q),zF (.int t)] f_side_at.body=some (.rt (false,side (q.1+q.2.2.1 * t,q.2.1+q.2.2.2 * t))):=by
 have m1:=kT q.2.2.1 t ht
 have m2:=kT q.2.2.2 t ht
 exact ay (by simp only [fi,lu,iG,aV,pk,fF,ao,bD,bu,bw,aQ,bF,bg,u9,uZ,bC,lE,m1,↓reduceIte,iH,u7,Bn,m2,jx,i6,i4,Nat.reduceAdd,wA];rfl) rfl
end
section
variable {call:Nat->List D->Option R}
theorem qTA (m:Nat) (c:Fr) (t:Int) (C10:∀q:Q4,call 2 [q4 q,.int t]=zF (side (q.1+q.2.2.1 * t,q.2.1+q.2.2.2 * t))):ak call [zF (cC m c),zF (.int t)] f_frame_at.body=some (.rt (false,bP m (qA c t))):=by
 have hc:=iD (call:=call) (Z:=[zF (cC m c),zF (.int t)]) (e:=(.call 2 [V0,V1])) (nl:=1) (ks:=[1]) (src:=.v 0) rfl rfl rfl
  (tY (λj=>q4 (c j)) (λj=>side (qA c t j)) λj hj=>⟨false,by have:=C10 (c j);simp [this];rfl⟩)
 exact ay (cD (um hc) rfl) rfl
end
theorem take_one {α:Type}{l:List α}{k:Nat}{x:α}(h:l[k]?=some x):l.take (k+1)=l.take k++[x]:=by rw [rg,h];rfl
theorem m9 (x:Str) (y:String):fj .eq (.str x) (tx y)=zF (.bl (decide (x=Qa y))):=by
 show some (false,D.bl (x == Qa y))=some (false,_)
 congr 3
section
variable {call:Nat->List D->Option R}
theorem sX {c:C}{body:List S}(I:Nat->En->Prop)
  (st:∀m Z,I m Z->(∃x,aa call Z c=some (x,.bl false))∨∃x,aa call Z c=some (x,.bl true)/\∃Z2,ak call Z body=some (.nx Z2)/\∃m',m'<m/\I m' Z2) :
  ∀fuel m Z,m<fuel->I m Z->∃m' Z',iw (fun Z'=>aa call Z' c) (fun Z'=>ak call Z' body) fuel Z=some (.nx Z')/\I m' Z'/\∃x,aa call Z' c=some (x,.bl false)
 | 0,m,Z,h,_=>by omega
 | fuel+1,m,Z,h,hi=>by
  rcases st m Z hi with ⟨x,e⟩|⟨x,e,Z2,e2,m',hm,hi2⟩
  ·exact⟨m,Z,by show (aa call Z c).bind _=_;rw [e];rfl,hi,x,e⟩
  ·obtain⟨m3,Z',e3,r⟩:=sX I st fuel m' Z2 AC hi2
   refine⟨m3,Z',?_,r⟩
   show (aa call Z c).bind (sg Z ((ak call Z body).bind (k0 (iw _ _ fuel))))=_
   rw [e]
   show (ak call Z body).bind (k0 (iw _ _ fuel))=_
   rw [e2]
   exact e3
end
end Dw.T
namespace Dw.T
open Dw PySem
structure Th where
 hd:Int
 sw:Fr
 mr:Int
 wo:Int
structure To where
 cov:Fr
 hrt:Fr
 rest:List D
def af (m:Nat) (u:Th):D:=.tup [.int u.hd,cC m u.sw,.int u.mr,.int u.wo]
def aW (m:Nat) (o:To):D:=.tup (cC m o.cov::cC m o.hrt::o.rest)
def aL (m:Nat):Option To->D
 | none=>.non
 | some o=>aW m o
inductive Tr where
 | leaf (o:Option To) (ts:List Th)
 | fork (o:Option To) (ps:List Tr)
mutual
noncomputable def und:Tr->List Th
 | .leaf _ ts=>ts
 | .fork _ ps=>aA ps
noncomputable def aA:List Tr->List Th
 | []=>[]
 | p::ps=>und p++aA ps
end
mutual
noncomputable def nd:Tr->Nat
 | .leaf _ _=>1
 | .fork _ ps=>bT ps+1
noncomputable def bT:List Tr->Nat
 | []=>0
 | p::ps=>nd p+bT ps
end
mutual
noncomputable def hg:Tr->Nat
 | .leaf _ _=>0
 | .fork _ ps=>ko ps+1
noncomputable def ko:List Tr->Nat
 | []=>0
 | p::ps=>max (hg p) (ko ps)
end
mutual
def ae (m:Nat):Tr->D
 | .leaf o ts=>.tup [tx "leaf",aL m o,.tup (ts.map (af m))]
 | .fork o ps=>.tup [tx "fork",aL m o,.tup (ip m ps)]
def ip (m:Nat):List Tr->List D
 | []=>[]
 | p::ps=>ae m p::ip m ps
end
theorem uh (m:Nat):∀ps,ip m ps=ps.map (ae m)
 | []=>rfl
 | p::ps=>by rw [ip,uh m ps];rfl
noncomputable def tl:Tr->Option To
 | .leaf o _=>o
 | .fork o _=>o
noncomputable def ax:Tr->Bool
 | .leaf _ _=>true
 | .fork _ _=>false
def nQ (c h:Q4):Prop:=c.1<=h.1/\h.2.1<=c.2.1/\c.2.2.1<=h.2.2.1/\h.2.2.2<=c.2.2.2
def GO (o:Option To) (ts:List Th):Prop:=match o with
 | none=>ts=[]
 | some o=>cT o.cov/\cT o.hrt/\∀u∈ts,∀j,nQ (o.cov j) (u.sw j)/\nQ (u.sw j) (o.hrt j)
def mN (u:Th):Prop:=cT u.sw
def me (o:Option To):Prop:=∀x,o=some x->dM x.rest=true
mutual
def Good:Tr->Prop
 | .leaf o ts=>(GO o ts/\me o)/\∀u∈ts,mN u
 | .fork o ps=>(GO o (aA ps)/\me o)/\Goods ps
def Goods:List Tr->Prop
 | []=>True
 | p::ps=>Good p/\Goods ps
end
theorem Goods.mem:∀{ps:List Tr},Goods ps->∀p∈ps,Good p
 | q::ps,h,p,hp=>by
  rw [Goods] at h
  rcases yag.mp hp with rfl|hp
  ·exact h.1
  ·exact h.2.mem p hp
theorem Good.o:∀{p:Tr},Good p->GO (tl p) (und p)
 | .leaf o ts,h=>by rw [Good] at h;rw [und];exact h.1.1
 | .fork o ps,h=>by rw [Good] at h;rw [und];exact h.1.1
theorem Good.nc:∀{p:Tr},Good p->me (tl p)
 | .leaf o ts,h=>by rw [Good] at h;exact h.1.2
 | .fork o ps,h=>by rw [Good] at h;exact h.1.2
mutual
theorem Good.th:∀{p:Tr},Good p->∀u∈und p,mN u
 | .leaf o ts,h,u,hu=>by rw [Good] at h;rw [und] at hu;exact h.2 u hu
 | .fork o ps,h,u,hu=>by rw [Good] at h;rw [und] at hu;exact Goods.th h.2 u hu
theorem Goods.th:∀{ps:List Tr},Goods ps->∀u∈aA ps,mN u
 | [],_,u,hu=>by rw [aA] at hu;cases hu
 | p::ps,h,u,hu=>by
  rw [Goods] at h
  rw [aA] at hu
  rcases yaC.mp hu with hu|hu
  ·exact Good.th h.1 u hu
  ·exact Goods.th h.2 u hu
end
theorem qSM (p q:P2):0<=gp p q:=by unfold gp;omega
theorem qNn {a b:Int}(h0:0<=a) (h:a<=b):a * a<=b * b:=nZ h h h0 AC
theorem Am {f g:Nat->Int}:∀l:List Nat,(∀j∈l,f j<=g j)->(l.map f).sum<=(l.map g).sum
 | [],_=>mj _
 | x::l,h=>by
  rw [cP,cP,gT,gT]
  have h1:=h x bq
  have h2:=Am l λj hj=>h j (bK _ hj)
  omega
def mh (c b:P2):Prop:=c.1<=b.1/\b.2<=c.2
theorem qSN {c b c' b':P2}(h:mh c b) (h':mh c' b'):gp c c'<=gp b b':=by
 unfold mh at h h'
 unfold gp
 omega
theorem pN (m:Nat) {c b c' b':Nat->P2}(h:∀j,mh (c j) (b j)) (h':∀j,mh (c' j) (b' j)):aM m c c'<=aM m b b':=
 Am _ λj _=>qNn (qSM _ _) (qSN (h j) (h' j))
theorem iP {c b:Fr}{t:Int}(ht:0<=t) {j:Nat}(h:nQ (c j) (b j)):mh (qA c t j) (qA b t j):=by
 obtain⟨h1,h2,h3,h4⟩:=h
 have a1:=Int.mul_le_mul_of_nonneg_right h3 ht
 have a2:=Int.mul_le_mul_of_nonneg_right h4 ht
 constructor
 ·show (c j).1+(c j).2.2.1 * t<=(b j).1+(b j).2.2.1 * t
  omega
 ·show (b j).2.1+(b j).2.2.2 * t<=(c j).2.1+(c j).2.2.2 * t
  omega
section
variable (m:Nat) (t far:Int)
def near (a b:Th):Bool:=decide (aM m (qA a.sw t) (qA b.sw t)<=far)
def dU (a:Th) (B:List Th):List (Int×Int):=(B.filter λb=>decide (b.hd≠a.hd)&&near m t far a b).map λb=>(a.hd,b.hd)
def due (A B:List Th):List (Int×Int):=A.flatMap λa=>dU m t far a B
theorem qLg (a:Th) (B C:List Th):dU m t far a (B++C)=dU m t far a B++dU m t far a C:=by unfold dU;rw [mw,List.map_append]
theorem qLf (A B C:List Th):due m t far (A++B) C=due m t far A C++due m t far B C:=fh
theorem Ac:∀A:List Th,due m t far A []=[]
 | []=>rfl
 | a::A=>by show dU m t far a []++due m t far A []=[];rw [Ac A];rfl
theorem Ab:∀(A B C:List Th),(due m t far A (B++C)).Perm (due m t far A B++due m t far A C)
 | [],_,_=>List.Perm.refl _
 | a::A,B,C=>by
  show (dU m t far a (B++C)++due m t far A (B++C)).Perm ((dU m t far a B++due m t far A B)++(dU m t far a C++due m t far A C))
  rw [qLg]
  refine (List.Perm.append_left _ (Ab A B C)).trans ?_
  rw [bE,bE]
  refine List.Perm.append_left _ ?_
  rw [<-bE,<-bE]
  exact List.Perm.append_right _ List.perm_append_comm
theorem Ad:∀(A:List Th) (qs:List Tr),(due m t far A (aA qs)).Perm (qs.flatMap λq=>due m t far A (und q))
 | A,[]=>by rw [aA,Ac];exact List.Perm.refl _
 | A,q::qs=>by
  rw [aA,gA]
  exact (Ab m t far A _ _).trans (List.Perm.append_left _ (Ad A qs))
theorem xj (B:List Th):∀ps:List Tr,due m t far (aA ps) B=ps.flatMap λp=>due m t far (und p) B
 | []=>by rw [aA];rfl
 | p::ps=>by rw [aA,qLf,xj B ps,gA]
def word:Option To->Option To->Str
 | some a,some b=>if aM m (qA a.cov t) (qA b.cov t) > far then Qa "apart" else if aM m (qA a.hrt t) (qA b.hrt t)<=far then Qa "whole" else Qa "open"
 | _,_=>Qa "apart"
noncomputable def ji (A B:List Th):List (Int×Int):=A.flatMap λa=>(B.filter λb=>decide (b.hd≠a.hd)).map λb=>(a.hd,b.hd)
theorem AN {a b:Option To}{A B:List Th}(ht:0<=t) (ha:GO a A) (hb:GO b B) (h:word m t far a b=Qa "apart"):due m t far A B=[]:=by
 unfold due
 rw [List.flatMap_eq_nil_iff]
 intro u hu
 unfold dU
 rw [List.map_eq_nil_iff,rn]
 intro v hv
 cases a with
 | none=>have ha:A=[]:=ha;rw [ha] at hu;cases hu
 | some a =>
  cases b with
  | none=>have hb:B=[]:=hb;rw [hb] at hv;cases hv
  | some b =>
   have hg:aM m (qA a.cov t) (qA b.cov t) > far:=by
    have h:(if aM m (qA a.cov t) (qA b.cov t) > far then Qa "apart" else if aM m (qA a.hrt t) (qA b.hrt t)<=far then Qa "whole" else Qa "open")=Qa "apart":=h
    split at h
    ·assumption
    ·split at h
     ·exact Qn h At
     ·exact Qn h At
   have:=pN m (c:=qA a.cov t) (b:=qA u.sw t) (c':=qA b.cov t) (b':=qA v.sw t) (λj=>iP ht (ha.2.2 u hu j).1) λj=>iP ht (hb.2.2 v hv j).1
   unfold near
   rw [Qj (show ¬aM m (qA u.sw t) (qA v.sw t)<=far by omega),jD]
   exact fA
theorem AO {a b:Option To}{A B:List Th}(ht:0<=t) (ha:GO a A) (hb:GO b B) (h:word m t far a b=Qa "whole"):due m t far A B=ji A B:=by
 unfold due ji
 rw [List.flatMap_def,List.flatMap_def]
 congr 1
 refine ri λu hu=>?_
 unfold dU
 congr 1
 refine List.filter_congr λv hv=>?_
 cases a with
 | none=>have ha:A=[]:=ha;rw [ha] at hu;cases hu
 | some a =>
  cases b with
  | none=>have hb:B=[]:=hb;rw [hb] at hv;cases hv
  | some b =>
   have hg:aM m (qA a.hrt t) (qA b.hrt t)<=far:=by
    have h:(if aM m (qA a.cov t) (qA b.cov t) > far then Qa "apart" else if aM m (qA a.hrt t) (qA b.hrt t)<=far then Qa "whole" else Qa "open")=Qa "whole":=h
    split at h
    ·exact Qn h At
    ·split at h
     ·assumption
     ·exact Qn h At
   have:=pN m (c:=qA u.sw t) (b:=qA a.hrt t) (c':=qA v.sw t) (b':=qA b.hrt t) (λj=>iP ht (ha.2.2 u hu j).2) λj=>iP ht (hb.2.2 v hv j).2
   unfold near
   rw [Qk (show aM m (qA u.sw t) (qA v.sw t)<=far by omega),jF]
end
end Dw.T
namespace Dw.T
open Dw PySem
theorem iV:∀ps qs,aA (ps++qs)=aA ps++aA qs
 | [],qs=>by rw [aA];rfl
 | p::ps,qs=>by rw [qZ,aA,aA,iV ps qs,bE]
theorem qz (ps:List Tr) (k:Nat):(aA (ps.take k)).length<=(aA ps).length:=by
 have:=iV (ps.take k) (ps.drop k)
 rw [fT] at this
 rw [this,aU]
 omega
theorem sR {ps:List Tr}{p:Tr}(h:p∈ps):hg p<=ko ps:=by
 induction ps with
 | nil=>cases h
 | cons q ps ih =>
  rw [ko]
  rcases yag.mp h with rfl|h
  ·omega
  ·have:=ih h;omega
theorem qMU {ps:List Tr}{p:Tr}{u:Th}(h:p∈ps) (hu:u∈und p):u∈aA ps:=by
 induction ps with
 | nil=>cases h
 | cons q ps ih =>
  rw [aA]
  rcases yag.mp h with rfl|h
  ·exact iM _ hu
  ·exact dg _ (ih h)
theorem iQ (p:Tr):1<=nd p:=by cases p<;>simp [nd]
theorem yD:∀ps:List Tr,ps.length<=bT ps
 | []=>au _
 | p::ps=>by have:=iQ p;have:=yD ps;rw [bT,de];omega
noncomputable def aJ (p:List Int):D:=.tup (p.map .int)
theorem zU (q:List Int) (k:Nat) (h:q.length<=1000):gC .add (aJ q) (.tup [.int (k:Int)])=zF (aJ (q++[(k:Int)])):=by
 cases q with
 | nil=>rfl
 | cons x a =>
  show (if (a.map D.int).length+1+1<=lim then zF (D.tup (D.int x::a.map .int++[.int (k:Int)])) else none)=_
  rw [de] at h
  rw [Ql (cA (by rw [aw];omega))]
  simp [aJ]
def jq (m:Nat):Tr->List D
 | .leaf _ ts=>ts.map (af m)
 | .fork _ ps=>ps.map (ae m)
theorem qF (m:Nat) (p:Tr):bH (ae m p) (.int 0)=zF (if ax p then tx "leaf" else tx "fork"):=by cases p<;>rfl
theorem vd (m:Nat) (p:Tr):bH (ae m p) (.int 1)=zF (aL m (tl p)):=by cases p<;>rfl
theorem vc (m:Nat) (p:Tr):bH (ae m p) (.int 2)=zF (.tup (jq m p)):=by
 cases p with
 | leaf o ts=>rfl
 | fork o ps =>
  show bH (D.tup [tx "fork",aL m o,.tup (ip m ps)]) (.int 2)=_
  rw [uh]
  rfl
theorem lh (m:Nat) (p:Tr):∃ds,ae m p=.tup ds:=by cases p<;>exact⟨_,by rw [ae]⟩
theorem dv (m:Nat) (p:Tr) (ds:List D):cj false (ae m p::ds)=zF (ae m p)::cj false ds:=by
 obtain⟨xs,e⟩:=lh m p
 rw [e]
 rfl
theorem jh (m:Nat) (o:Option To) (ds:List D):cj false (aL m o::ds)=zF (aL m o)::cj false ds:=by cases o<;>rfl
theorem qJ (a b:Int):fj .ne (.int a) (.int b)=zF (.bl (decide (a≠b))):=by
 show zF (D.bl (!(a == b)))=_
 by_cases h:a=b<;>simp [h]
theorem Bu (a b:Int):fj .le (.int a) (.int b)=zF (.bl (decide (a<=b))):=rfl
section
variable {call:Nat->List D->Option R}
theorem eJ {Z:En}{f:Nat}{as:List C}{r:R}(h:aa call Z (.call f as)=some r):ag Z (.call f as) (aa call Z (.call f as))=some r.2:=by rw [h];rfl
theorem eL {Z:En}{f:Nat}{a b:C}{x y:D}{r:Option R}(ha:ag Z a CM=some x) (hb:ag Z b (aa call Z b)=some y) (hc:call f [x,y]=r):aa call Z (.call f [a,b])=r:=by
 rw [lR,iU,ha,bN,iU,hb]
 exact hc
theorem qKa (m:Nat) (p:Tr):ak call [zF (ae m p)] f_is_leaf.body=some (.rt (false,.bl (ax p))):=by
 refine ay (bL (dD (bt rfl rfl (qF m p))) rfl ?_) rfl
 cases p<;>rfl
theorem qM6 (m:Nat) (p:Tr):ak call [zF (ae m p)] f_page_told.body=some (.rt (false,aL m (tl p))):=ay (bt rfl rfl (vd m p)) rfl
theorem qJ6 (m:Nat) (p:Tr):ak call [zF (ae m p)] f_page_parts.body=some (.rt (false,.tup (jq m p))):=ay (bt rfl rfl (vc m p)) rfl
theorem xU (m:Nat) (p:Tr) (hl:(und p).length<=1000) (C22:call 9 [ae m p]=zF (.bl (ax p))) (C24:call 11 [ae m p]=zF (.tup (jq m p))) (C29:∀q,hg q<hg p->(und q).length<=1000->call 12 [ae m q]=zF (.tup ((und q).map (af m)))) :
  ak call [zF (ae m p),none,none] f_things_in.body=some (.rt (false,.tup ((und p).map (af m)))):=by
 cases p with
 | leaf o ts=>exact cV C22 (ay C24 rfl) rfl
 | fork o ps =>
  have hl:(aA ps).length<=1000:=by rw [und] at hl;exact hl
  obtain⟨Z',h,o2,rfl⟩:=ft (call:=call) (tg:=.one 2) (body:=AZ)
   (λk Z=>∃(o2:Option R),Z=[zF (ae m (.fork o ps)),zT (.lst ((aA (ps.take k)).map (af m))),o2]) (ps.map (ae m)) 0
   [zF (ae m (.fork o ps)),zT CG,none] ⟨none,rfl⟩ (by
    rintro k d Z hk ⟨o2,rfl⟩
    rw [bU] at hk
    obtain⟨q,hq,rfl⟩:=yab.mp hk
    have hm:=cm hq
    have h1:aA (ps.take (0+k+1))=aA (ps.take (0+k))++und q:=by rw [bI,take_one hq,iV];simp [aA]
    have h2:=qz ps (0+k+1)
    rw [h1,aU] at h2
    have hb:=C29 q (by have:=sR hm;rw [hg];omega) AC
    refine⟨_,_,rfl,?_,zF (ae m q),rfl⟩
    rw [h1,List.map_append]
    rw [eY,tS,show aa call _ (.call 12 [.v 2])=zF (.tup ((und q).map (af m))) from by simp [hb],bN]
    show ((if _+_<=lim then _ else _):Option Ou).bind _=_
    rw [Ql (cA (by rw [aw,aw];omega))]
    rfl)
  rw [aw,bI,cM (au _)] at h
  refine aX C22 ?_
  refine av _ rfl ?_
  refine gf C24 rfl h ?_
  exact ay rfl rfl
end
def Ca (m:Nat) (t far:Int):Option To->Option To->Bool
 | some a,some b=>decide (aM m (qA a.cov t) (qA b.cov t) > far)
 | _,_=>true
section
variable {call:Nat->List D->Option R}
theorem qNf (m:Nat) (t far:Int) (ht:0<=t/\t<=10^15) (a b:Option To) (ha:∀o,a=some o->cT o.cov) (hb:∀o,b=some o->cT o.cov) (C13:∀o,call 13 [aW m o,.int t]=zF (bP m (qA o.cov t))) (C1:∀f g:Nat->P2,(∀j,d5 (f j))->(∀j,d5 (g j))->call 1 [bP m f,bP m g]=zF (.int (aM m f g))) :
  ak call [zF (aL m a),zF (aL m b),zF CB,zF (.int t)] f_is_apart.body=some (.rt (false,.bl (Ca m t far a b))):=by
 cases a with
 | none=>exact cV (x:=false) rfl (ay rfl rfl) rfl
 | some a =>
  cases b with
  | none=>exact cV (x:=false) rfl (ay rfl rfl) rfl
  | some b =>
   refine aX (x:=false) rfl (ay ?_ rfl)
   have c1:=C13 a
   have c2:=C13 b
   have c3:=C1 (qA a.cov t) (qA b.cov t) (fE (ha a rfl) ht) (fE (hb b rfl) ht)
   show aa call [zF (aW m a),zF (aW m b),zF CB,zF (.int t)] (.cmp .gt (.call 1 [(.call 13 [V0,V3]),(.call 13 [V1,V3])]) V2)=_
   have q1:aa call [zF (aW m a),zF (aW m b),zF CB,zF (.int t)] (.call 1 [(.call 13 [V0,V3]),(.call 13 [V1,V3])])=zF (.int (aM m (qA a.cov t) (qA b.cov t))):=eL (eJ c1) (eJ c2) c3
   exact bL (eM q1) rfl rfl
theorem qM3 (m:Nat) (t far:Int) (ht:0<=t/\t<=10^15) (a b:To) (ha:cT a.hrt) (hb:cT b.hrt) (C14:∀o,call 14 [aW m o,.int t]=zF (bP m (qA o.hrt t))) (C1:∀f g:Nat->P2,(∀j,d5 (f j))->(∀j,d5 (g j))->call 1 [bP m f,bP m g]=zF (.int (aM m f g))) :
  ak call [zF (aW m a),zF (aW m b),zF CB,zF (.int t)] f_is_whole_near.body=some (.rt (false,.bl (decide (aM m (qA a.hrt t) (qA b.hrt t)<=far)))):=by
 have c1:=C14 a
 have c2:=C14 b
 have c3:=C1 (qA a.hrt t) (qA b.hrt t) (fE ha ht) (fE hb ht)
 have q1:aa call [zF (aW m a),zF (aW m b),zF CB,zF (.int t)] (.call 1 [(.call 14 [V0,V3]),(.call 14 [V1,V3])])=zF (.int (aM m (qA a.hrt t) (qA b.hrt t))):=eL (eJ c1) (eJ c2) c3
 exact ay (bL (eM q1) rfl rfl) rfl
theorem qPg (m:Nat) (t far:Int) (a b:Option To) (C22:call 22 [aL m a,aL m b,.int far,.int t]=zF (.bl (Ca m t far a b)))
  (C23:∀x y,a=some x->b=some y->call 23 [aW m x,aW m y,.int far,.int t]=zF (.bl (decide (aM m (qA x.hrt t) (qA y.hrt t)<=far)))) :
  ak call [zF (aL m a),zF (aL m b),zF CB,zF (.int t)] f_pairs_word.body=some (.rt (false,.str (word m t far a b))):=by
 cases a with
 | none=>exact cV C22 (ay rfl rfl) rfl
 | some a =>
  cases b with
  | none=>exact cV C22 (ay rfl rfl) rfl
  | some b =>
   have qN:=C23 a b rfl rfl
   show _=some (Ou.rt (false,D.str (if aM m (qA a.cov t) (qA b.cov t) > far then Qa "apart" else if aM m (qA a.hrt t) (qA b.hrt t)<=far then Qa "whole" else Qa "open")))
   by_cases h:aM m (qA a.cov t) (qA b.cov t) > far
   ·rw [Ql h]
    have C22:call 22 [aL m (some a),aL m (some b),.int far,.int t]=zF (.bl true):=by rw [C22];show zF (D.bl (decide _))=_;rw [Qk h]
    exact cV C22 (ay rfl rfl) rfl
   ·rw [Qm h]
    have C22:call 22 [aL m (some a),aL m (some b),.int far,.int t]=zF (.bl false):=by rw [C22];show zF (D.bl (decide _))=_;rw [Qj h]
    refine aX C22 (ay ?_ rfl)
    show aa call [zF (aW m a),zF (aW m b),zF CB,zF (.int t)] (.ifx (.call 23 [V0,V1,V2,V3]) (.k (tx "whole")) (.k (tx "open")))=_
    rw [qO8,show aa call [zF (aW m a),zF (aW m b),zF CB,zF (.int t)] (.call 23 [V0,V1,V2,V3])=zF (.bl (decide (aM m (qA a.hrt t) (qA b.hrt t)<=far))) from qN]
    by_cases h2:aM m (qA a.hrt t) (qA b.hrt t)<=far
    ·rw [Qk h2,Ql h2];rfl
    ·rw [Qj h2,Qm h2];rfl
def gn (m:Nat) (t:Int) (u:Th):D:=.tup [.int u.hd,bP m (qA u.sw t)]
theorem qNd (m:Nat) (t:Int) (ts:List Th) (C4:∀u,call 4 [af m u]=zF (.int u.hd)) (C6:∀u,call 6 [af m u,.int t]=zF (bP m (qA u.sw t))) :
  ak call [zF (.tup (ts.map (af m))),zF (.int t)] f_boxes_of.body=some (.rt (true,.lst (ts.map (gn m t)))):=by
 refine ay (r:=(true,.lst (ts.map (gn m t)))) (iD rfl rfl rfl (f7 call _ (af m) (gn m t) ts λu _=>⟨_,false,rfl,?_⟩)) rfl
 have c4:=C4 u
 have c6:=C6 u
 have q1:aa call [zF (af m u),zF (.int t)] (.call 4 [V0])=zF (.int u.hd):=c4
 have q2:aa call [zF (af m u),zF (.int t)] (.call 6 [V0,V1])=zF (bP m (qA u.sw t)):=c6
 show aa call [zF (af m u),zF (.int t)] (.tup [.call 4 [V0],.call 6 [V0,V1]])=_
 rw [iF,dz,q1,bN,dz,q2]
 rfl
noncomputable def g3 (r:Int×Int×Int):D:=.tup [.int r.1,.int r.2.1,.int r.2.2]
def dI (m:Nat) (t:Int) (a:Th) (B:List Th):List (Int×Int×Int):=(B.filter λb=>decide (b.hd≠a.hd)).map λb=>(aM m (qA a.sw t) (qA b.sw t),a.hd,b.hd)
theorem qPn (m:Nat) (t:Int) (p q:Tr) (hp:ax p=true) (hq:ax q=true) (ht:0<=t/\t<=10^15) (gp':∀u∈und p,mN u) (gq:∀u∈und q,mN u) (hl:(und p).length * (und q).length<=100000) (C11:∀p,call 11 [ae m p]=zF (.tup (jq m p)))
  (C20:∀ts:List Th,call 20 [.tup (ts.map (af m)),.int t]=zT (.lst (ts.map (gn m t)))) (C1:∀f g:Nat->P2,(∀j,d5 (f j))->(∀j,d5 (g j))->call 1 [bP m f,bP m g]=zF (.int (aM m f g))) :
  ak call [zF (ae m p),zF (ae m q),zF (.int t),none,none,none,none] f_gaps_of_leaves.body=some (.rt (true,.lst (((und p).flatMap λa=>dI m t a (und q)).map g3))):=by
 have ep:jq m p=(und p).map (af m):=by cases p with|leaf o ts=>rfl|fork o ps=>cases hp
 have eq:jq m q=(und q).map (af m):=by cases q with|leaf o ts=>rfl|fork o ps=>cases hq
 have c1:=C11 p
 have c2:=C11 q
 rw [ep] at c1
 rw [eq] at c2
 generalize und p=A at *
 generalize und q=B at *
 have lenB:∀a,(dI m t a B).length<=B.length:=λa=>by unfold dI;rw [aw];exact List.length_filter_le _ _
 have lenA:∀l:List Th,(l.flatMap λa=>dI m t a B).length<=l.length * B.length:=λl=>by
  induction l with
  | nil=>simp
  | cons a l ih=>rw [gA,aU,de,mH];have:=lenB a;omega
 refine av (true,.lst (B.map (gn m t))) (eL (eJ c2) rfl (C20 B)) ?_
 refine av (true,.lst []) rfl ?_
 obtain⟨Z',h,o5,o6,rfl⟩:=ft (call:=call) (tg:=.two 5 6) (body:=Bj)
  (λk Z=>∃(o5 o6:Option R),Z=[zF (ae m p),zF (ae m q),zF (.int t),zF (.lst (B.map (gn m t))),zT (.lst (((A.take k).flatMap λa=>dI m t a B).map g3)),o5,o6]) (A.map (gn m t)) 0
  [zF (ae m p),zF (ae m q),zF (.int t),zF (.lst (B.map (gn m t))),zT CG,none,none] ⟨none,none,rfl⟩ (by
   rintro k d Z hk ⟨o5,o6,rfl⟩
   rw [bU] at hk
   obtain⟨a,ha,rfl⟩:=yab.mp hk
   have hm:=cm ha
   have h1:(A.take (0+k+1)).flatMap (λa=>dI m t a B)=(A.take (0+k)).flatMap (λa=>dI m t a B)++dI m t a B:=by rw [bI,take_one ha,fh];simp
   have h2:=lenA (A.take (0+k))
   have h3:=lenB a
   have h4:(A.take (0+k)).length * B.length<=A.length * B.length:=Nat.mul_le_mul_right _ (by rw [eQ];omega)
   have h5:B.length<=100000:=by
    have:1<=A.length:=List.length_pos_iff.mpr (List.ne_nil_of_mem hm)
    have:=Nat.mul_le_mul_right B.length this
    omega
   refine⟨[zF (ae m p),zF (ae m q),zF (.int t),zF (.lst (B.map (gn m t))),zT (.lst (((A.take (0+k)).flatMap λa=>dI m t a B).map g3)),zF (.int a.hd),zF (bP m (qA a.sw t))],_,rfl,?_,zF (.int a.hd),zF (bP m (qA a.sw t)),rfl⟩
   rw [h1,List.map_append]
   refine j0 (ys:=(dI m t a B).map g3) ?_ rfl (cA (by rw [aw,aw];omega)) rfl
   rw [nH]
   show (iE call (.cmp .ne CP V2) (.tup [(.call 1 [V1,(.ix V0 (kI 1))]),V2,(.ix V0 (kI 0))]) [none,zF (bP m (qA a.sw t)),zF (.int a.hd)] (.one 0) (B.map (gn m t))).bind _=_
   rw [nK (gn m t) (λb=>g3 (aM m (qA a.sw t) (qA b.sw t),a.hd,b.hd)) (λb=>decide (b.hd≠a.hd)) B λb hb=>⟨_,rfl,bL (dD (r:=(false,.int b.hd)) (bt rfl rfl rfl)) rfl (qJ _ _),λ_=>⟨false,?_⟩⟩]
   ·unfold dI
    rw [List.map_map]
    rfl
   ·have c3:=C1 (qA a.sw t) (qA b.sw t) (fE (gp' a hm) ht) (fE (gq b hb) ht)
    have q1:aa call [zF (gn m t b),zF (bP m (qA a.sw t)),zF (.int a.hd)] (.call 1 [V1,(.ix V0 (kI 1))])=zF (.int (aM m (qA a.sw t) (qA b.sw t))):=c3
    show aa call [zF (gn m t b),zF (bP m (qA a.sw t)),zF (.int a.hd)] (.tup [(.call 1 [V1,(.ix V0 (kI 1))]),V2,(.ix V0 (kI 0))])=_
    rw [iF,dz,q1,bN]
    rfl)
 rw [aw,bI,cM (au _)] at h
 refine gf (eL (eJ c1) rfl (C20 A)) rfl h ?_
 exact ay rfl rfl
end
end Dw.T
namespace Dw.T
open Dw PySem
abbrev Pp:=List Int×Tr
abbrev Pl:=Pp×Pp
def gJ (m:Nat) (x:Pp):D:=.tup [aJ x.1,ae m x.2]
def aK (m:Nat) (x:Pl):D:=.tup [aJ x.1.1,ae m x.1.2,aJ x.2.1,ae m x.2.2]
noncomputable def prt (x:Pp):List Pp:=match x.2 with
 | .leaf o ts=>[x]
 | .fork _ ps=>(ps.zipIdx 0).map λy=>(x.1++[(y.2:Int)],y.1)
def behind (x:Pl):List Pl:=if ax x.1.2=true/\ax x.2.2=true then [] else (prt x.1).flatMap λa=>(prt x.2).map λb=>(a,b)
theorem Ae (f:Tr->D):∀(ps:List Tr) (a:Nat),fI a (ps.map f)=(ps.zipIdx a).map λx=>.tup [.int (x.2:Int),f x.1]
 | [],a=>rfl
 | p::ps,a=>by rw [cP,fI,Ae f ps (a+1)];rfl
theorem Az {α β:Type}{f g:α->List β}:∀l:List α,(∀x∈l,(f x).Perm (g x))->(l.flatMap f).Perm (l.flatMap g)
 | [],_=>List.Perm.refl _
 | x::l,h=>by
  rw [gA,gA]
  exact (h x bq).append (Az l λy hy=>h y (bK _ hy))
theorem uM {β:Type}(f:Tr->List β):∀(ps:List Tr) (a:Nat),((ps.zipIdx a).flatMap λy=>f y.1)=ps.flatMap f
 | [],_=>rfl
 | p::ps,a=>by rw [og,gA,gA,uM f ps (a+1)]
theorem zi (f:Tr->Nat):∀(ps:List Tr) (a:Nat),((ps.zipIdx a).map λy=>f y.1).sum=(ps.map f).sum
 | [],_=>rfl
 | p::ps,a=>by rw [og,cP,cP,gT,gT,zi f ps (a+1)]
theorem qMI {ps:List Tr}{a:Nat}{y:Tr×Nat}(h:y∈ps.zipIdx a):y.1∈ps:=by
 obtain⟨p,k⟩:=y
 exact (List.mem_zipIdx h).2.2▸i8 _
theorem yI:∀ps:List Tr,bT ps=(ps.map nd).sum
 | []=>by rw [bT];rfl
 | p::ps=>by rw [bT,yI ps,cP,gT]
section
variable (m:Nat) (t far:Int)
def fk (x:Pl):List (Int×Int):=due m t far (und x.1.2) (und x.2.2)
theorem qTV (x:Pp) (B:List Th):(prt x).flatMap (λa=>due m t far (und a.2) B)=due m t far (und x.2) B:=by
 obtain⟨q,p⟩:=x
 cases p with
 | leaf o ts=>simp [prt]
 | fork o ps =>
  show ((ps.zipIdx 0).map λy=>((q++[(y.2:Int)],y.1):Pp)).flatMap _=_
  rw [List.flatMap_map,und,xj]
  exact uM (λp=>due m t far (und p) B) ps 0
theorem qTU (x:Pp) (A:List Th):((prt x).flatMap λb=>due m t far A (und b.2)).Perm (due m t far A (und x.2)):=by
 obtain⟨q,p⟩:=x
 cases p with
 | leaf o ts=>simp [prt]
 | fork o ps =>
  show (((ps.zipIdx 0).map λy=>((q++[(y.2:Int)],y.1):Pp)).flatMap _).Perm _
  rw [List.flatMap_map,und]
  rw [show ((ps.zipIdx 0).flatMap λy=>due m t far A (und (((q++[(y.2:Int)],y.1):Pp)).2))=ps.flatMap λp=>due m t far A (und p) from uM (λp=>due m t far A (und p)) ps 0]
  exact (Ad m t far A ps).symm
theorem qHf (x:Pl) (h:¬(ax x.1.2=true/\ax x.2.2=true)):((behind x).flatMap (fk m t far)).Perm (fk m t far x):=by
 unfold behind
 rw [Qm h,List.flatMap_assoc]
 unfold fk
 rw [<-qTV m t far x.1 (und x.2.2)]
 refine Az _ λa _=>?_
 rw [List.flatMap_map]
 exact qTU m t far x.2 (und a.2)
def W (x:Pl):Str:=word m t far (tl x.1.2) (tl x.2.2)
def aS (r:Pl×Str):List (Int×Int):=if r.2=Qa "whole" then ji (und r.1.1.2) (und r.1.2.2) else if r.2=Qa "open"/\ax r.1.1.2=true/\ax r.1.2.2=true then fk m t far r.1 else []
def fL (x:Pl):List Pl:=if W m t far x=Qa "open" then behind x else []
theorem tJ (a b:Option To):word m t far a b=Qa "apart"∨word m t far a b=Qa "whole"∨word m t far a b=Qa "open":=by
 cases a with
 | none=>exact .inl rfl
 | some a =>
  cases b with
  | none=>exact .inl rfl
  | some b =>
   show (if _ then _ else _)=_∨(if _ then _ else _)=_∨(if _ then _ else _)=_
   split
   ·exact .inl rfl
   ·split
    ·exact .inr (.inl rfl)
    ·exact .inr (.inr rfl)
theorem qLm (ht:0<=t) (x:Pl) (h1:Good x.1.2) (h2:Good x.2.2):(aS m t far CO++(fL m t far x).flatMap (fk m t far)).Perm (fk m t far x):=by
 unfold aS fL
 dsimp only
 rcases tJ m t far (tl x.1.2) (tl x.2.2) with e|e|e
 ·have e':W m t far x=Qa "apart":=e
  rw [e',Qm At,Qm (λz=>Qn z.1 At),Qm At]
  have:=AN m t far ht h1.o h2.o e
  show List.Perm [] _
  unfold fk
  rw [this]
 ·have e':W m t far x=Qa "whole":=e
  rw [e',Ql rfl,Qm At,List.flatMap_nil,bR]
  unfold fk
  rw [AO m t far ht h1.o h2.o e]
 ·have e':W m t far x=Qa "open":=e
  rw [e',Qm At,Ql rfl]
  by_cases hl:ax x.1.2=true/\ax x.2.2=true
  ·rw [Ql ⟨rfl,hl⟩]
   unfold behind
   rw [Ql hl,List.flatMap_nil,bR]
  ·rw [Qm (λz=>hl z.2),ie]
   exact qHf m t far x hl
def wt (x:Pl):Nat:=nd x.1.2 * nd x.2.2
def ms (l:List Pl):Nat:=(l.map wt).sum
theorem pQ (a b:List Pl):ms (a++b)=ms a+ms b:=by unfold ms;rw [List.map_append,List.sum_append]
theorem sY (x:Pl):1<=wt x:=Nat.mul_pos (iQ _) (iQ _)
theorem jt:∀l:List Pl,l.length<=ms l
 | []=>au _
 | x::l=>by
  have:=jt l
  have:=sY x
  show l.length+1<=((x::l).map wt).sum
  rw [cP,gT]
  unfold ms at *
  omega
def pw (x:Pp):Nat:=((prt x).map λa=>nd a.2).sum
theorem xk (x:Pp):pw x<=nd x.2/\(ax x.2=false->pw x<nd x.2):=by
 obtain⟨q,p⟩:=x
 cases p with
 | leaf o ts=>exact⟨by simp [pw,prt],λz=>by cases z⟩
 | fork o ps =>
  have:pw (q,.fork o ps)=bT ps:=by
   show (((ps.zipIdx 0).map λy=>((q++[(y.2:Int)],y.1):Pp)).map λa=>nd a.2).sum=_
   rw [List.map_map,yI]
   exact zi nd ps 0
  rw [this]
  show bT ps<=nd (.fork o ps)/\(_->bT ps<nd (.fork o ps))
  rw [nd]
  exact⟨by omega,λ_=>by omega⟩
theorem zv (c:Nat):∀l:List Nat,(l.map λx=>c * x).sum=c * l.sum
 | []=>rfl
 | x::l=>by rw [cP,gT,gT,zv c l,Nat.mul_add]
theorem yG:∀(l k:List Pp),ms (l.flatMap λa=>k.map λb=>(a,b))=(l.map λa=>nd a.2).sum * (k.map λa=>nd a.2).sum
 | [],k=>by simp [ms]
 | a::l,k=>by
  rw [gA,pQ,yG l k,cP,gT,Nat.add_mul]
  congr 1
  unfold ms
  rw [List.map_map]
  have:=zv (nd a.2) (k.map λb=>nd b.2)
  rw [List.map_map] at this
  exact this
theorem lO (x:Pl):ms (behind x)<wt x:=by
 unfold behind
 by_cases hl:ax x.1.2=true/\ax x.2.2=true
 ·rw [Ql hl]
  exact sY x
 ·rw [Qm hl,yG]
  show pw x.1 * pw x.2<nd x.1.2 * nd x.2.2
  obtain⟨a1,a2⟩:=xk x.1
  obtain⟨b1,b2⟩:=xk x.2
  have n1:=iQ x.1.2
  have n2:=iQ x.2.2
  rcases Bool.eq_false_or_eq_true (ax x.1.2) with e1|e1
  ·have e2:ax x.2.2=false:=by cases e:ax x.2.2 with|false=>rfl|true=>exact Qn ⟨e1,e⟩ hl
   exact Nat.lt_of_le_of_lt (Nat.mul_le_mul_right _ a1) (Nat.mul_lt_mul_of_pos_left (b2 e2) AC)
  ·exact bO (Nat.lt_of_le_of_lt (Nat.mul_le_mul_left _ b1) (Nat.mul_lt_mul_of_pos_right (a2 e1) AC)) (au _)
theorem xI (x:Pl):ms (fL m t far x)<wt x:=by
 unfold fL
 split
 ·exact lO x
 ·exact sY x
end
structure PpOk (x:Pp):Prop where
 good:Good x.2
 path:x.1.length+hg x.2<=1000
 high:hg x.2<=8
 few:(und x.2).length<=100
theorem qMV {ps:List Tr}{p:Tr}(h:p∈ps):(und p).length<=(aA ps).length:=by
 induction ps with
 | nil=>cases h
 | cons q ps ih =>
  rw [aA,aU]
  rcases yag.mp h with rfl|h
  ·omega
  ·have:=ih h;omega
theorem PpOk.prt {x:Pp}(h:PpOk x):∀y∈prt x,PpOk y:=by
 obtain⟨q,p⟩:=x
 obtain⟨h1,h2,h3,h4⟩:=h
 cases p with
 | leaf o ts=>intro y hy;rw [yaz.mp hy];exact⟨h1,h2,h3,h4⟩
 | fork o ps =>
  intro y hy
  have hy:y∈(ps.zipIdx 0).map λz=>((q++[(z.2:Int)],z.1):Pp):=hy
  obtain⟨z,hz,rfl⟩:=yaO.mp hy
  have hm:=qMI hz
  have hh:=sR hm
  dsimp only at h1 h2 h3 h4
  rw [Good] at h1
  rw [hg] at h2 h3
  rw [und] at h4
  have:=qMV hm
  exact⟨h1.2.mem _ hm,by show (q++[(z.2:Int)]).length+hg z.1<=1000;rw [aU,n5];omega,by show hg z.1<=8;omega,by show (und z.1).length<=100;omega⟩
def PlOk (x:Pl):Prop:=PpOk x.1/\PpOk x.2
theorem PlOk.behind {x:Pl}(h:PlOk x):∀y∈behind x,PlOk y:=by
 intro y hy
 unfold Dw.T.behind at hy
 split at hy
 ·cases hy
 ·obtain⟨a,ha,hy⟩:=List.mem_flatMap.mp hy
  obtain⟨b,hb,rfl⟩:=yaO.mp hy
  exact⟨h.1.prt a ha,h.2.prt b hb⟩
end Dw.T
namespace Dw.T
open Dw PySem
theorem ni:∀ds:List D,dM ds=true↔∀d∈ds,bW d=true
 | []=>⟨λ_ _ h=>(nomatch h),λ_=>rfl⟩
 | d::ds=>by
  show (bW d&&dM ds)=true↔_
  rw [aP,ni ds]
  simp
theorem sN (m:Nat) (c:Fr):bW (cC m c)=true:=(ni _).mpr λd hd=>by
 obtain⟨j,_,rfl⟩:=yaO.mp hd
 rfl
theorem pE (m:Nat) (o:Option To) (h:me o):bW (aL m o)=true:=by
 cases o with
 | none=>rfl
 | some o =>
  show (bW (cC m o.cov)&&(bW (cC m o.hrt)&&dM o.rest))=true
  rw [sN,sN,h o rfl]
  rfl
section
variable {call:Nat->List D->Option R}
theorem qM8 (m:Nat) (x:Pp) (hx:x.1.length<=1000) (hn:nd x.2<=100000) (C9:call 9 [ae m x.2]=zF (.bl (ax x.2))) (C11:call 11 [ae m x.2]=zF (.tup (jq m x.2))):ak call [zF (aJ x.1),zF (ae m x.2)] f_parts_or_itself.body=some (.rt (true,.lst ((prt x).map (gJ m)))):=by
 obtain⟨q,p⟩:=x
 cases p with
 | leaf o ts=>exact cV C9 (ay rfl rfl) rfl
 | fork o ps =>
  refine aX C9 (ay ?_ rfl)
  show aa call [zF (aJ q),zF (ae m (.fork o ps))] (.compE (.tup [(.bin .add V2 (.tup [V0])),V1]) 2 [0] (.two 0 1) (.call 11 [V1]))=zT (.lst (((ps.zipIdx 0).map λy=>((q++[(y.2:Int)],y.1):Pp)).map (gJ m)))
  rw [AQ,show aa call [zF (aJ q),zF (ae m (.fork o ps))] (.call 11 [V1])=zF (.tup (ps.map (ae m))) from C11,bN]
  show (cK call (.tup [(.bin .add V2 (.tup [V0])),V1]) [none,none,zF (aJ q)] (.two 0 1) (fI 0 (ps.map (ae m)))).bind _=_
  rw [Ae,f7 call _ (λx:Tr×Nat=>D.tup [.int (x.2:Int),ae m x.1]) (λx=>gJ m (q++[(x.2:Int)],x.1)) (ps.zipIdx 0) λy _=>⟨[zF (.int (y.2:Int)),zF (ae m y.1),zF (aJ q)],false,rfl,?_⟩]
  ·rw [List.map_map]
   rfl
  ·have ha:=zU q y.2 hx
   simp only [lu,iG,aV,pk,ao,bD,bC,bw,bu,aQ,wJ,jx,i6,i4,Nat.reduceAdd,qTY,wA,↓reduceIte,ha,bg,k4]
   rfl
theorem qKb (m:Nat) (x:Pl) (hn:wt x<=100000) (C9:∀p,call 9 [ae m p]=zF (.bl (ax p))) (C15:∀y:Pp,y=x.1∨y=x.2->call 15 [aJ y.1,ae m y.2]=zT (.lst ((prt y).map (gJ m)))) :
  ak call [zF (aK m x),none,none,none] f_places_behind.body=some (.rt (true,.lst ((behind x).map (aK m)))):=by
 have hb:ms (behind x)<=100000:=fg (bO (lO x) hn)
 have hb':=aT (jt (behind x)) hb
 have e1:aa call [zF (aK m x),none,none,none] (.and (.call 9 [(.ix V0 (kI 1))]) (.call 9 [(.ix V0 (kI 3))]))=zF (.bl (ax x.1.2&&ax x.2.2)):=jV (x:=false) (y:=false) (C9 x.1.2) (C9 x.2.2)
 unfold behind at hb' ⊢
 by_cases hl:ax x.1.2=true/\ax x.2.2=true
 ·rw [Ql hl]
  rw [hl.1,hl.2] at e1
  exact cV e1 (ay rfl rfl) rfl
 ·rw [Qm hl] at hb' ⊢
  have:(ax x.1.2&&ax x.2.2)=false:=by cases a:ax x.1.2<;>cases b:ax x.2.2<;>first|rfl|exact Qn ⟨a,b⟩ hl
  rw [this] at e1
  refine aX e1 ?_
  refine av (true,.lst []) rfl ?_
  have c1:=C15 x.1 (.inl rfl)
  have c2:=C15 x.2 (.inr rfl)
  refine av (true,.lst ((prt x.2).map (gJ m))) c2 ?_
  generalize prt x.1=A at *
  generalize prt x.2=B at *
  obtain⟨Z',h,o3,rfl⟩:=ft (call:=call) (tg:=.one 3) (body:=Bl)
   (λk Z=>∃o3:Option R,Z=[zF (aK m x),zT (.lst (((A.take k).flatMap λa=>B.map λb=>((a,b):Pl)).map (aK m))),zF (.lst (B.map (gJ m))),o3]) (A.map (gJ m)) 0
   [zF (aK m x),zT CG,zF (.lst (B.map (gJ m))),none] ⟨none,rfl⟩ (by
    rintro k d Z hk ⟨o3,rfl⟩
    rw [bU] at hk
    obtain⟨a,ha,rfl⟩:=yab.mp hk
    have h1:(A.take (0+k+1)).flatMap (λa=>B.map λb=>((a,b):Pl))=(A.take (0+k)).flatMap (λa=>B.map λb=>((a,b):Pl))++B.map λb=>((a,b):Pl):=by rw [bI,take_one ha,fh];simp
    have h2:((A.take (0+k+1)).flatMap (λa=>B.map λb=>((a,b):Pl))).length<=(A.flatMap λa=>B.map λb=>((a,b):Pl)).length:=by
     rw [<-fT (0+k+1) A,fh,aU,fT];omega
    rw [h1,aU] at h2
    refine⟨[zF (aK m x),zT (.lst (((A.take (0+k)).flatMap λa=>B.map λb=>((a,b):Pl)).map (aK m))),zF (.lst (B.map (gJ m))),zF (gJ m a)],_,rfl,?_,zF (gJ m a),rfl⟩
    rw [h1,List.map_append]
    refine j0 (ys:=(B.map λb=>((a,b):Pl)).map (aK m)) ?_ rfl (cA (by rw [aw,aw];omega)) rfl
    rw [List.map_map]
    refine iD rfl rfl rfl (f7 call _ (gJ m) (aK m ∘ λb=>((a,b):Pl)) B λb _=>⟨_,false,rfl,?_⟩)
    rfl)
  rw [aw,bI,cM (au _)] at h
  refine gf c1 rfl h ?_
  exact ay rfl rfl
def ba (m:Nat) (r:Pl×Str):D:=.tup [aK m r.1,.str r.2]
def fw (t far:Int):D:=.obj ⟨CL+48,[]⟩ [.int t,.int far]
inductive Wf (m:Nat) (t far:Int):List Pl->List (Pl×Str)->Prop
 | nil:Wf m t far [] []
 | cons {x:Pl} {st:List Pl} {rows:List (Pl×Str)}:Wf m t far (fL m t far x++st) rows->Wf m t far (x::st) ((x,W m t far x)::rows)
structure Wk (m:Nat) (t far:Int) (M:Nat) (x0:Pl) (A B:List Th) (st:List Pl) (rows:List (Pl×Str)):Prop where
 ok:∀x∈st,PlOk x
 row:∀r∈rows,PlOk r.1
 perm:(rows.flatMap Cj++st.flatMap (fk m t far)).Perm (due m t far A B)
 few:rows.length+ms st<=M
 wf:∀rest,Wf m t far st rest->Wf m t far [x0] (rows++rest)
theorem qPm (m:Nat) (t far:Int) (ht:0<=t) (l r:Tr) (hl:PpOk ([],l)) (hr:PpOk ([],r)) (hM:nd l * nd r<=100000) (C10:∀p,call 10 [ae m p]=zF (aL m (tl p))) (CL1:∀a b:Tr,Good a->Good b->call 48 [aL m (tl a),aL m (tl b),.int t,.int far]=zF (.str (word m t far (tl a) (tl b))))
  (C16:∀x:Pl,PlOk x->wt x<=100000->call 16 [aK m x]=zT (.lst ((behind x).map (aK m)))) :
  ∃rows:List (Pl×Str),(∀x∈rows,PlOk x.1)/\(rows.flatMap Cj).Perm (due m t far (und l) (und r))/\rows.length<=100000/\Wf m t far [(([],l),([],r))] rows/\ak call [zF (ae m l),zF (ae m r),zF (fw t far),none,none,none,none] f_join_cut.body=some (.rt (true,.lst (rows.map (ba m)))):=by
 have w0:Wk m t far (nd l * nd r) (([],l),([],r)) (und l) (und r) [(([],l),([],r))] []:=⟨λx hx=>by rw [yaz.mp hx];exact⟨hl,hr⟩,λr hr=>(nomatch hr),by simp [fk],by show 0+(wt _+0)<=_;show 0+(nd l * nd r+0)<=_;omega,λrest h=>h⟩
 have loop:=sX (call:=call) (c:=.cmp .gt (.bi .len [V3]) (kI 0)) (body:=A5)
  (λM Z=>∃st rows o5 o6,Z=[zF (ae m l),zF (ae m r),zF (fw t far),zT (.lst ((st.map (aK m)).reverse)),zT CF,o5,o6]/\Wk m t far (nd l * nd r) (([],l),([],r)) (und l) (und r) st rows/\ms st=M) (by
   rintro M Z ⟨st,rows,o5,o6,rfl,wk,hms⟩
   have hlen:aa call [zF (ae m l),zF (ae m r),zF (fw t far),zT (.lst ((st.map (aK m)).reverse)),zT CF,o5,o6] (.cmp .gt (.bi .len [V3]) (kI 0))=zF (.bl (decide ((st.length:Int) > 0))):=by
    refine bL (dN (r:=(false,.int (st.length:Int))) (cD rfl ?_)) rfl rfl
    show some (false,D.int ((((st.map (aK m)).reverse).length:Nat):Int))=_
    rw [oh,aw]
   cases st with
   | nil=>exact .inl ⟨false,by rw [hlen];rfl⟩
   | cons x st =>
    refine .inr ⟨false,by rw [hlen,Qk (by rw [de];omega)],?_⟩
    have hx:=wk.ok x bq
    have few:=wk.few
    have hms':ms (x::st)=wt x+ms st:=by unfold ms;rw [cP,gT]
    have c10a:=C10 x.1.2
    have c10b:=C10 x.2.2
    have cl:=CL1 x.1.2 x.2.2 hx.1.good hx.2.good
    have qO:=C16 x hx (by rw [hms'] at few;omega)
    have hW:word m t far (tl x.1.2) (tl x.2.2)=W m t far x:=rfl
    rw [hW] at cl
    have hpop:((x::st).map (aK m)).reverse=(st.map (aK m)).reverse++[aK m x]:=by simp
    have mn:=xI m t far x
    have wk':Wk m t far (nd l * nd r) (([],l),([],r)) (und l) (und r) (fL m t far x++st) (rows++[(x,W m t far x)]):=by
     refine⟨λy hy=>?_,λy hy=>?_,?_,?_,λrest h=>?_⟩
     ·rcases yaC.mp hy with hy|hy
      ·unfold fL at hy
       split at hy
       ·exact hx.behind y hy
       ·cases hy
      ·exact wk.ok y (bK _ hy)
     ·rcases yaC.mp hy with hy|hy
      ·exact wk.row y hy
      ·rw [yaz.mp hy];exact hx
     ·refine List.Perm.trans ?_ wk.perm
      rw [fh,fh,gA,gA,List.flatMap_nil,bR,bE]
      refine List.Perm.append_left _ ?_
      rw [<-bE]
      exact List.Perm.append_right _ (qLm m t far ht x hx.1.good hx.2.good)
     ·rw [aU,n5,pQ]
      rw [hms'] at few
      omega
     ·rw [bE]
      exact wk.wf _ (.cons h)
    have hrl:rows.length<=100000:=by omega
    have q1:aa call [zF (ae m l),zF (ae m r),zF (fw t far),zT (.lst ((st.map (aK m)).reverse)),zT CF,zF (aK m x),o6] (.cv 2 [(.call 10 [(.ix V5 (kI 1))]),(.call 10 [(.ix V5 (kI 3))])])=zF (.str (W m t far x)):=by
     rw [xt,dz,show aa call [zF (ae m l),zF (ae m r),zF (fw t far),zT (.lst ((st.map (aK m)).reverse)),zT CF,zF (aK m x),o6] (.call 10 [(.ix V5 (kI 1))])=zF (aL m (tl x.1.2)) from c10a,bN,dz,show aa call [zF (ae m l),zF (ae m r),zF (fw t far),zT (.lst ((st.map (aK m)).reverse)),zT CF,zF (aK m x),o6] (.call 10 [(.ix V5 (kI 3))])=zF (aL m (tl x.2.2)) from c10b]
     show (if (decide (CL<=CL+48)&&((bW (aL m (tl x.1.2))&&(bW (aL m (tl x.2.2))&&true))&&(true&&(true&&true))))=true then call (CL+48 - CL) [aL m (tl x.1.2),aL m (tl x.2.2),.int t,.int far] else none)=_
     rw [pE m _ hx.1.good.nc,pE m _ hx.2.good.nc,Ql (by rw [Qk (Nat.le_add_right _ _)];rfl),gB,cl]
    refine⟨[zF (ae m l),zF (ae m r),zF (fw t far),zT (.lst (((fL m t far x++st).map (aK m)).reverse)),zT (.lst ((rows++[(x,W m t far x)]).map (ba m))),zF (aK m x),zF (.str (W m t far x))],?_,ms (fL m t far x++st),?_,fL m t far x++st,rows++[(x,W m t far x)],_,_,rfl,wk',rfl⟩
    ·refine qPy (by show ao [zF (ae m l),zF (ae m r),zF (fw t far),zT (.lst (((x::st).map (aK m)).reverse)),zT CF,o5,o6] 3=_;rw [hpop];rfl) rfl ?_
     refine av _ q1 ?_
     refine iS (false,ba m CO) rfl rfl (iT (by rw [aw];omega)) ?_
     have e2:aa call [zF (ae m l),zF (ae m r),zF (fw t far),zT (.lst ((st.map (aK m)).reverse)),zT (.lst (rows.map (ba m)++[ba m CO])),zF (aK m x),zF (.str (W m t far x))] (.cmp .eq V6 (.k (tx "open")))=zF (.bl (decide (W m t far x=Qa "open"))):=bL rfl rfl (m9 _ "open")
     have er:(rows++[(x,W m t far x)]).map (ba m)=rows.map (ba m)++[ba m CO]:=by simp
     rw [er]
     unfold fL
     by_cases ho:W m t far x=Qa "open"
     ·rw [Qk ho] at e2
      rw [Ql ho,List.map_append,my]
      refine iq e2 (j0 (ys:=((behind x).map (aK m)).reverse) ?_ rfl (cA ?_) rfl) rfl
      ·have q2:aa call [zF (ae m l),zF (ae m r),zF (fw t far),zT (.lst ((st.map (aK m)).reverse)),zT (.lst (rows.map (ba m)++[ba m CO])),zF (aK m x),zF (.str (W m t far x))] (.call 16 [V5])=zT (.lst ((behind x).map (aK m))):=qO
       have q3:aa call [zF (ae m l),zF (ae m r),zF (fw t far),zT (.lst ((st.map (aK m)).reverse)),zT (.lst (rows.map (ba m)++[ba m CO])),zF (aK m x),zF (.str (W m t far x))] (.revL (.call 16 [V5]))=zT (.lst (((behind x).map (aK m)).reverse)):=by
        rw [qMS,eM q2]
        show (if ((behind x).map (aK m)).length<=lim then zT (D.lst ((behind x).map (aK m)).reverse) else none)=_
        rw [Ql (cA (by rw [aw];have b1:=jt (behind x);have b2:=lO x;rw [hms'] at few;omega))]
       exact q3
      ·have b1:=jt (behind x)
       have b2:=lO x
       have b3:=jt st
       rw [hms'] at few
       simp only [oh,aw]
       omega
     ·rw [Qj ho] at e2
      rw [Qm ho]
      exact aX e2 rfl
    ·rw [pQ,<-hms,hms']
     omega)
 obtain⟨M',Z',h1,⟨st,rows,o5,o6,rfl,wk,_⟩,z,h2⟩:=loop jy (nd l * nd r) [zF (ae m l),zF (ae m r),zF (fw t far),zT (.lst [aK m (([],l),([],r))]),zT CG,none,none] (Nat.lt_of_le_of_lt hM (bO (show 100000<2^100 by decide) (oj At At))) ⟨[(([],l),([],r))],[],none,none,rfl,w0,by show nd l * nd r+0=_;omega⟩
 have hst:st=[]:=by
  have hlen:aa call [zF (ae m l),zF (ae m r),zF (fw t far),zT (.lst ((st.map (aK m)).reverse)),zT CF,o5,o6] (.cmp .gt (.bi .len [V3]) (kI 0))=zF (.bl (decide ((st.length:Int) > 0))):=by
   refine bL (dN (r:=(false,.int (st.length:Int))) (cD rfl ?_)) rfl rfl
   show some (false,D.int ((((st.map (aK m)).reverse).length:Nat):Int))=_
   rw [oh,aw]
  rw [hlen] at h2
  cases st with
  | nil=>rfl
  | cons x st=>rw [Qk (by rw [de];omega)] at h2;cases h2
 subst hst
 have few:=wk.few
 refine⟨rows,wk.row,by have:=wk.perm;simpa using this,by omega,by have:=wk.wf [] .nil;rwa [bR] at this,?_⟩
 refine av (true,.lst [aK m (([],l),([],r))]) rfl ?_
 refine av (true,.lst []) rfl ?_
 refine yi h1 ?_
 exact ay rfl rfl
end
end Dw.T
namespace Dw.T
open Dw PySem
noncomputable def ar (r:Int×Int):D:=.tup [.int r.1,.int r.2]
def sP (l:List (Int×Int)):List D:=(g9 (l.map λr=>[r.1,r.2])).map λt=>.tup (t.map .int)
theorem A4:∀l:List (Int×Int),lr (l.map ar)=some (l.map λr=>[r.1,r.2])
 | []=>rfl
 | r::l=>by
  show ((eH [.int r.1,.int r.2]).bind λis=>(lr (l.map ar)).map (is::·))=_
  rw [A4 l]
  rfl
theorem AD (l:List (Int×Int)):cZ .sorted [.lst (l.map ar)]=zT (.lst (sP l)):=by
 show jS (l.map ar)=_
 cases l with
 | nil =>
  unfold sP g9
  simp [jS,eH,g0]
 | cons r l =>
  have h:eH ((r::l).map ar)=none:=rfl
  unfold jS
  rw [h]
  show (lr ((r::l).map ar)).bind _=_
  rw [A4,bN,Ql]
  ·rfl
  ·intro t ht
   obtain⟨x,_,rfl⟩:=yaO.mp ht
   exact List.cons_ne_nil _ _
theorem yt (m:Nat) (t far:Int):∀A B:List Th,(due m t far A B).length<=A.length * B.length
 | [],B=>by simp [due]
 | a::A,B=>by
  show (dU m t far a B++due m t far A B).length<=_
  have h1:(dU m t far a B).length<=B.length:=by unfold dU;rw [aw];exact List.length_filter_le _ _
  have:=yt m t far A B
  rw [aU,de,mH]
  omega
theorem qOs (m:Nat) (t far:Int) (a:Th) (B:List Th):((dI m t a B).filter λr=>decide (r.1<=far)).map (λr=>(r.2.1,r.2.2))=dU m t far a B:=by
 unfold dI dU
 rw [List.filter_map,List.map_map,List.filter_filter]
 congr 1
 refine List.filter_congr λb _=>?_
 rw [Bool.and_comm]
 rfl
theorem qK8 (m:Nat) (t far:Int) (A B:List Th):((A.flatMap λa=>dI m t a B).filter λr=>decide (r.1<=far)).map (λr=>(r.2.1,r.2.2))=due m t far A B:=by
 induction A with
 | nil=>rfl
 | cons a A ih =>
  rw [gA,mw,List.map_append,ih,qOs]
  rfl
theorem qQv (m:Nat) (u:Th):bW (af m u)=true:=by
 show (true&&(bW (cC m u.sw)&&(true&&(true&&true))))=true
 rw [sN]
 rfl
mutual
theorem sO (m:Nat):∀p:Tr,Good p->bW (ae m p)=true
 | .leaf o ts,h=>by
  rw [ae]
  show (true&&(bW (aL m o)&&(dM (ts.map (af m))&&true)))=true
  rw [pE m o h.nc,(ni _).mpr λd hd=>by obtain⟨u,_,rfl⟩:=yaO.mp hd;exact qQv m u]
  rfl
 | .fork o ps,h=>by
  have h2:Goods ps:=by rw [Good] at h;exact h.2
  rw [ae]
  show (true&&(bW (aL m o)&&(dM (ip m ps)&&true)))=true
  rw [pE m o h.nc,yH m ps h2]
  rfl
theorem yH (m:Nat):∀ps:List Tr,Goods ps->dM (ip m ps)=true
 | [],_=>by rw [ip];rfl
 | p::ps,h=>by
  rw [Goods] at h
  rw [ip]
  show (bW (ae m p)&&dM (ip m ps))=true
  rw [sO m p h.1,yH m ps h.2]
  rfl
end
theorem xK (q:List Int):bW (aJ q)=true:=(ni _).mpr λd hd=>by
 obtain⟨j,_,rfl⟩:=yaO.mp hd
 rfl
theorem qQw (m:Nat) (r:Pl×Str) (h:PlOk r.1):bW (ba m r)=true:=by
 show ((bW (aJ r.1.1.1)&&(bW (ae m r.1.1.2)&&(bW (aJ r.1.2.1)&&(bW (ae m r.1.2.2)&&true))))&&(true&&true))=true
 rw [xK,xK,sO m _ h.1.good,sO m _ h.2.good]
 rfl
section
variable {call:Nat->List D->Option R}
theorem qM9 (m:Nat) (x:Pl) (w:Str) (C9:∀p,call 9 [ae m p]=zF (.bl (ax p))):ak call [zF (aK m x),zF (.str w)] f_is_open_leaves.body=some (.rt (false,.bl (decide (w=Qa "open")&&(ax x.1.2&&ax x.2.2)))):=by
 refine ay (jV (x:=false) (y:=false) (bL rfl rfl (m9 _ "open")) (jV (x:=false) (y:=false) (C9 x.1.2) (C9 x.2.2))) rfl
def bp (r:Pl×Str):D:=.tup [aJ r.1.1.1,aJ r.1.2.1,.str r.2]
theorem qJ9 (m:Nat) (rows:List (Pl×Str)):ak call [zF CF] f_join_paper.body=some (.rt (false,.tup (rows.map bp))):=by
 have hc:=iD (call:=call) (Z:=[zF CF]) (e:=(.tup [(.ix V0 (kI 0)),(.ix V0 (kI 2)),V1])) (nl:=2) (ks:=[]) (tg:=.two 0 1) (src:=V0) rfl rfl rfl (f7 call _ (ba m) bp rows λr _=>⟨[zF (aK m r.1),zF (.str r.2)],false,rfl,rfl⟩)
 exact ay (cD (um hc) rfl) rfl
theorem qJ5 (m:Nat) (p q:Tr) (hl:(und p).length * (und q).length<=100000) (C12:∀x,x=p∨x=q->call 12 [ae m x]=zF (.tup ((und x).map (af m)))) (C4:∀u,call 4 [af m u]=zF (.int u.hd)) :
  ak call [zF (ae m p),zF (ae m q),none,none,none,none] f_pairs_of_whole.body=some (.rt (true,.lst ((ji (und p) (und q)).map ar))):=by
 have c1:=C12 p (.inl rfl)
 have c2:=C12 q (.inr rfl)
 unfold ji
 generalize und p=A at *
 generalize und q=B at *
 have h0:aa call [zF (ae m p),zF (ae m q),none,none,none,none] (.compS (.call 4 [V0]) 1 [] (.one 0) (.call 12 [V1]))=zT (.lst (B.map λb=>.int b.hd)):=
  iD (r:=(false,.tup (B.map (af m)))) c2 rfl rfl (f7 call _ (af m) (λb=>.int b.hd) B λu _=>⟨_,false,rfl,C4 u⟩)
 refine av _ h0 ?_
 refine av (true,.lst []) rfl ?_
 have lenB:∀a:Th,((B.filter λb=>decide (b.hd≠a.hd)).map λb=>(a.hd,b.hd)).length<=B.length:=λa=>by rw [aw];exact List.length_filter_le _ _
 have lenA:∀l:List Th,(l.flatMap λa=>(B.filter λb=>decide (b.hd≠a.hd)).map λb=>(a.hd,b.hd)).length<=l.length * B.length:=λl=>by
  induction l with
  | nil=>simp
  | cons a l ih=>rw [gA,aU,de,mH];have:=lenB a;omega
 obtain⟨Z',h,o2,o5,rfl⟩:=ft (call:=call) (tg:=.one 2) (body:=Bk)
  (λk Z=>∃(o2 o5:Option R),Z=[zF (ae m p),zF (ae m q),o2,zF (.lst (B.map λb=>.int b.hd)),zT (.lst (((A.take k).flatMap λa=>(B.filter λb=>decide (b.hd≠a.hd)).map λb=>(a.hd,b.hd)).map ar)),o5]) (A.map (af m)) 0
  [zF (ae m p),zF (ae m q),none,zF (.lst (B.map λb=>.int b.hd)),zT CG,none] ⟨none,none,rfl⟩ (by
   rintro k d Z hk ⟨o2,o5,rfl⟩
   rw [bU] at hk
   obtain⟨a,ha,rfl⟩:=yab.mp hk
   have hm:=cm ha
   have h1:((A.take (0+k+1)).flatMap λa=>(B.filter λb=>decide (b.hd≠a.hd)).map λb=>(a.hd,b.hd))=((A.take (0+k)).flatMap λa=>(B.filter λb=>decide (b.hd≠a.hd)).map λb=>(a.hd,b.hd))++(B.filter λb=>decide (b.hd≠a.hd)).map λb=>(a.hd,b.hd):=by rw [bI,take_one ha,fh];simp
   have h2:=lenA (A.take (0+k))
   have h3:=lenB a
   have h4:(A.take (0+k)).length * B.length<=A.length * B.length:=Nat.mul_le_mul_right _ (by rw [eQ];omega)
   have h5:B.length<=100000:=by
    have:1<=A.length:=List.length_pos_iff.mpr (List.ne_nil_of_mem hm)
    have:=Nat.mul_le_mul_right B.length this
    omega
   have c4:=C4 a
   refine⟨[zF (ae m p),zF (ae m q),zF (af m a),zF (.lst (B.map λb=>.int b.hd)),zT (.lst (((A.take (0+k)).flatMap λa=>(B.filter λb=>decide (b.hd≠a.hd)).map λb=>(a.hd,b.hd)).map ar)),o5],_,rfl,?_,zF (af m a),zF (.int a.hd),rfl⟩
   rw [h1,List.map_append]
   refine av (false,.int a.hd) c4 ?_
   refine j0 (ys:=((B.filter λb=>decide (b.hd≠a.hd)).map λb=>(a.hd,b.hd)).map ar) ?_ rfl (cA (by rw [aw,aw];omega)) rfl
   rw [nH]
   show (iE call (.cmp .ne V0 V1) (.tup [V1,V0]) [none,zF (.int a.hd)] (.one 0) (B.map λb=>.int b.hd)).bind _=_
   rw [nK (λb:Th=>D.int b.hd) (λb=>ar (a.hd,b.hd)) (λb=>decide (b.hd≠a.hd)) B λb hb=>⟨_,rfl,bL rfl rfl (qJ _ _),λ_=>⟨false,rfl⟩⟩,List.map_map]
   rfl)
 rw [aw,bI,cM (au _)] at h
 refine gf c1 rfl h ?_
 exact ay rfl rfl
theorem qM7 (m:Nat) (t far:Int) (rows:List (Pl×Str)) (ok:∀r∈rows,PlOk r.1) (N:(rows.flatMap Cj).length<=10000)
  (C25:∀p q,PpOk p->PpOk q->call 25 [ae m p.2,ae m q.2]=zT (.lst ((ji (und p.2) (und q.2)).map ar)))
  (C19:∀(x:Pl) (w:Str),call 19 [aK m x,.str w]=zF (.bl (decide (w=Qa "open")&&(ax x.1.2&&ax x.2.2))))
  (C21:∀p q,PpOk p->PpOk q->ax p.2=true->ax q.2=true->call 21 [ae m p.2,ae m q.2,.int t]=zT (.lst (((und p.2).flatMap λa=>dI m t a (und q.2)).map g3))) :
  ak call [zF CF,zF CB,zF (.int t),none,none,none,none] f_pairs_of_rows.body=some (.rt (false,.tup (sP (rows.flatMap Cj)))):=by
 refine av (true,.lst []) rfl ?_
 obtain⟨Z',h,o4,o5,o6,rfl⟩:=ft (call:=call) (tg:=.two 4 5) (body:=Bb)
  (λk Z=>∃(o4 o5 o6:Option R),Z=[zF CF,zF CB,zF (.int t),zT (.lst (((rows.take k).flatMap Cj).map ar)),o4,o5,o6]) (rows.map (ba m)) 0
  [zF CF,zF CB,zF (.int t),zT CG,none,none,none] ⟨none,none,none,rfl⟩ (by
   rintro k d Z hk ⟨o4,o5,o6,rfl⟩
   rw [bU] at hk
   obtain⟨r,hr,rfl⟩:=yab.mp hk
   have hm:=cm hr
   obtain⟨gh,ok2⟩:=ok r hm
   have h1:(rows.take (0+k+1)).flatMap Cj=(rows.take (0+k)).flatMap Cj++aS m t far r:=by rw [bI,take_one hr,fh];simp
   have h2:((rows.take (0+k+1)).flatMap Cj).length<=(rows.flatMap Cj).length:=by
    conv=>rhs;rw [<-fT (0+k+1) rows,fh,aU]
    omega
   rw [h1,aU] at h2
   generalize hK:((rows.take (0+k)).flatMap Cj)=K at *
   obtain⟨x,w⟩:=r
   have e1:∀o6,aa call [zF CF,zF CB,zF (.int t),zT Cl,zF (aK m x),zF (.str w),o6] (.cmp .eq V5 (.k (tx "whole")))=zF (.bl (decide (w=Qa "whole"))):=λo6=>bL rfl rfl (m9 _ "whole")
   by_cases hw:w=Qa "whole"
   ·have ec:aS m t far (x,w)=ji (und x.1.2) (und x.2.2):=by unfold aS;rw [Ql hw]
    rw [ec] at h1 h2
    refine⟨[zF CF,zF CB,zF (.int t),zT Cl,zF (aK m x),zF (.str w),o6],_,rfl,?_,zF (aK m x),zF (.str w),o6,rfl⟩
    rw [h1,List.map_append]
    have c:=C25 x.1 x.2 gh ok2
    refine iq (by rw [e1,Qk hw]) (j0 (xs:=K.map ar) c rfl (cA (by rw [aw,aw];omega)) rfl) ?_
    refine aX (x:=false) ?_ rfl
    have:=C19 x w
    rw [Qj (show ¬w=Qa "open" by rw [hw];decide)] at this
    exact this
   ·have ec:aS m t far (x,w)=if w=Qa "open"/\ax x.1.2=true/\ax x.2.2=true then fk m t far x else []:=by unfold aS;rw [Qm hw]
    rw [ec] at h1 h2
    have kv:=C19 x w
    by_cases ho:w=Qa "open"/\ax x.1.2=true/\ax x.2.2=true
    ·rw [Ql ho] at h1 h2
     rw [Qk ho.1,ho.2.1,ho.2.2] at kv
     refine⟨[zF CF,zF CB,zF (.int t),zT Cl,zF (aK m x),zF (.str w),o6],_,rfl,?_,zF (aK m x),zF (.str w),zF (.lst (((und x.1.2).flatMap λa=>dI m t a (und x.2.2)).map g3)),rfl⟩
     rw [h1,List.map_append]
     refine aX (by rw [e1,Qj hw]) ?_
     have c:=C21 x.1 x.2 gh ok2 ho.2.1 ho.2.2
     refine iq (x:=false) kv (av (true,.lst (((und x.1.2).flatMap λa=>dI m t a (und x.2.2)).map g3)) c (j0 (xs:=K.map ar) (ys:=(fk m t far x).map ar) ?_ rfl (cA (by rw [aw,aw];omega)) rfl)) rfl
     rw [nH]
     show (iE call (.cmp .le CP V1) (.tup [(.ix V0 (kI 1)),(.ix V0 (kI 2))]) [none,zF CB] (.one 0) (((und x.1.2).flatMap λa=>dI m t a (und x.2.2)).map g3)).bind _=_
     rw [nK g3 (λr=>ar (r.2.1,r.2.2)) (λr=>decide (r.1<=far)) _ λb hb=>⟨_,rfl,bL (dD (r:=(false,.int b.1)) (bt rfl rfl rfl)) rfl (Bu _ _),λ_=>⟨false,rfl⟩⟩]
     unfold fk
     rw [<-qK8,List.map_map]
     rfl
    ·rw [Qm ho] at h1 h2
     refine⟨[zF CF,zF CB,zF (.int t),zT Cl,zF (aK m x),zF (.str w),o6],_,rfl,?_,zF (aK m x),zF (.str w),o6,rfl⟩
     rw [h1,bR]
     refine aX (by rw [e1,Qj hw]) (aX (x:=false) ?_ rfl)
     have:(decide (w=Qa "open")&&(ax x.1.2&&ax x.2.2))=false:=by
      cases e:(decide (w=Qa "open")&&(ax x.1.2&&ax x.2.2)) with
      | false=>rfl
      | true =>
       rw [aP,aP] at e
       exact Qn ⟨Qp e.1,e.2⟩ ho
     rw [this] at kv
     exact kv)
 rw [aw,bI,cM (au _)] at h
 refine gf (r:=(false,.lst (rows.map (ba m)))) rfl rfl h ?_
 exact ay (cD (dN (cD rfl (AD _))) rfl) rfl
theorem qJ7 (m:Nat) (t far:Int) (l r:Tr) (d1 d2:D) (rows:List (Pl×Str)) (ok:∀x∈rows,PlOk x.1)
  (C17:call 17 [ae m l,ae m r,fw t far]=zT CF) (C26:call 26 [.lst (rows.map (ba m)),.int far,.int t]=zF d1) (C18:call 18 [.lst (rows.map (ba m))]=zF d2) :
  ak call [zF (ae m l),zF (ae m r),zF CB,zF (.int t),none] f_near_pairs.body=some (.rt (false,.tup [d1,d2])):=by
 have q1:aa call [zF (ae m l),zF (ae m r),zF CB,zF (.int t),none] (.lamc 17 [V0,V1] 48 [3,2])=zT CF:=by
  show (call 17 [ae m l,ae m r,fw t far]).bind oH=_
  rw [C17]
  show (if dM (rows.map (ba m))=true then _ else _)=_
  rw [Ql ((ni _).mpr λd hd=>by obtain⟨x,hx,rfl⟩:=yaO.mp hd;exact qQw m x (ok x hx))]
 refine av _ q1 (ay ?_ rfl)
 show fi [zF (ae m l),zF (ae m r),zF CB,zF (.int t),zF CF] _ (aa call [zF (ae m l),zF (ae m r),zF CB,zF (.int t),zF CF] (.tup [(.call 26 [V4,V2,V3]),(.call 18 [V4])]))=_
 rw [iF,dz,show aa call [zF (ae m l),zF (ae m r),zF CB,zF (.int t),zF CF] (.call 26 [V4,V2,V3])=zF d1 from C26,bN,dz,show aa call [zF (ae m l),zF (ae m r),zF CB,zF (.int t),zF CF] (.call 18 [V4])=zF d2 from C18]
 rfl
end
end Dw.T
namespace Dw.T
open Dw PySem
theorem kZ (xs:List D) (k:Nat) (d:D) (h:xs[k]?=some d):bH Ci (.int (k:Int))=zF d:=by
 have hl:k<xs.length:=(yal.mp h).1
 rw [wZ]
 unfold gN iZ
 rw [tT _ _ hl,bN,h]
 rfl
theorem k9 (xs:List D) (k:Nat) (d:D) (h:xs[k]?=some d):bH (.lst xs) (.int (k:Int))=zF d:=by
 have hl:k<xs.length:=(yal.mp h).1
 rw [pJ]
 unfold gN iZ
 rw [tT _ _ hl,bN,h]
 rfl
theorem mQ (n m:Nat) (p:Tr):aH tab (n+1) 9 [ae m p]=zF (.bl (ax p)):=aI (n:=n) t9 rfl (by rw [dv];rfl) (qKa m p)
theorem qOI (n m:Nat) (p:Tr):aH tab (n+1) 10 [ae m p]=zF (aL m (tl p)):=aI (n:=n) wc rfl (by rw [dv];rfl) (qM6 m p)
theorem qq (n m:Nat) (p:Tr):aH tab (n+1) 11 [ae m p]=zF (.tup (jq m p)):=aI (n:=n) wb rfl (by rw [dv];rfl) (qJ6 m p)
theorem xT (m:Nat):∀(k:Nat) (p:Tr),hg p<=k->(und p).length<=1000->∀n,aH tab (n+k+2) 12 [ae m p]=zF (.tup ((und p).map (af m)))
 | 0,p,hk,hl,n=>aI (n:=n+1) rH rfl (by rw [dv];rfl) (xU m p hl (mQ n m p) (qq n m p) λq hq _=>Qn hq AC)
 | k+1,p,hk,hl,n=>aI (n:=n+k+2) rH rfl (by rw [dv];rfl) (xU m p hl (mQ (n+k+1) m p) (qq (n+k+1) m p) λq hq hl'=>xT m k q AC hl' n)
theorem sd (n m:Nat) (f g:Nat->P2) (hf:∀j,d5 (f j)) (hg:∀j,d5 (g j)):aH tab (n+2) 1 [bP m f,bP m g]=zF (.int (aM m f g)):=
 aI (n:=n+1) t1 rfl rfl (qTB m f g hf hg λp q=>aI (n:=n) t0 rfl rfl (qTy p q))
section
variable (t:Int) (ht:0<=t/\t<=10^15)
include ht
theorem sA (n m:Nat) (c:Fr):aH tab (n+2) 3 [cC m c,.int t]=zF (bP m (qA c t)):=
 aI (n:=n+1) t3 rfl rfl (qTA m c t λq=>aI (n:=n) t2 rfl rfl (qTz q t AC))
theorem qS7 (n m:Nat) (o:To):aH tab (n+3) 13 [aW m o,.int t]=zF (bP m (qA o.cov t)):=
 aI (n:=n+2) wa rfl rfl (ay (eL (eJ (r:=(false,cC m o.cov)) (aI (n:=n+1) (as:=[aW m o]) t7 rfl rfl (ay (bt rfl rfl (kZ _ 0 _ rfl)) rfl))) rfl (sA t ht n m o.cov)) rfl)
theorem qS6 (n m:Nat) (o:To):aH tab (n+3) 14 [aW m o,.int t]=zF (bP m (qA o.hrt t)):=
 aI (n:=n+2) v9 rfl rfl (ay (eL (eJ (r:=(false,cC m o.hrt)) (aI (n:=n+1) (as:=[aW m o]) t8 rfl rfl (ay (bt rfl rfl (kZ _ 1 _ rfl)) rfl))) rfl (sA t ht n m o.hrt)) rfl)
theorem qRa (n m:Nat) (u:Th):aH tab (n+3) 6 [af m u,.int t]=zF (bP m (qA u.sw t)):=
 aI (n:=n+2) t6 rfl rfl (ay (eL (eJ (r:=(false,cC m u.sw)) (aI (n:=n+1) (as:=[af m u]) t5 rfl rfl (ay (bt rfl rfl rfl) rfl))) rfl (sA t ht n m u.sw)) rfl)
omit ht in
theorem xS (n m:Nat) (u:Th):aH tab (n+1) 4 [af m u]=zF (.int u.hd):=aI (n:=n) t4 rfl rfl (ay (bt rfl rfl rfl) rfl)
theorem qQ9 (n m:Nat) (far:Int) (a b:Tr) (ha:Good a) (hb:Good b):aH tab (n+5) 24 [aL m (tl a),aL m (tl b),.int far,.int t]=zF (.str (word m t far (tl a) (tl b))):=by
 have ca:∀o,tl a=some o->cT o.cov/\cT o.hrt:=λo e=>by have:=ha.o;rw [e] at this;exact⟨this.1,this.2.1⟩
 have cb:∀o,tl b=some o->cT o.cov/\cT o.hrt:=λo e=>by have:=hb.o;rw [e] at this;exact⟨this.1,this.2.1⟩
 refine aI (n:=n+4) vU rfl (by rw [jh,jh];rfl) (qPg m t far (tl a) (tl b) ?_ λx y ex ey=>?_)
 ·exact aI (n:=n+3) vW rfl (by rw [jh,jh];rfl) (qNf m t far ht (tl a) (tl b) (λo e=>(ca o e).1) (λo e=>(cb o e).1) (λo=>qS7 t ht n m o) λf g hf hg=>sd (n+1) m f g hf hg)
 ·exact aI (n:=n+3) vV rfl rfl (qM3 m t far ht x y (ca x ex).2 (cb y ey).2 (λo=>qS6 t ht n m o) λf g hf hg=>sd (n+1) m f g hf hg)
theorem qS5 (n m:Nat) (far:Int) (a b:Tr) (ha:Good a) (hb:Good b):aH tab (n+6) 48 [aL m (tl a),aL m (tl b),.int t,.int far]=zF (.str (word m t far (tl a) (tl b))):=by
 have c:=qQ9 t ht n m far a b ha hb
 refine aI (n:=n+5) t48 rfl (by rw [jh,jh];rfl) (ay (Z:=[zF (aL m (tl a)),zF (aL m (tl b)),zF (.int t),zF CB]) (show aa _ [zF (aL m (tl a)),zF (aL m (tl b)),zF (.int t),zF CB] (.call 24 [V0,V1,V3,V2])=zF (.str (word m t far (tl a) (tl b))) from c) rfl)
theorem qLs (n m:Nat) (x:Pl) (hx:PlOk x) (hw:wt x<=100000):aH tab (n+3) 16 [aK m x]=zT (.lst ((behind x).map (aK m))):=by
 have n1:=iQ x.1.2
 have n2:=iQ x.2.2
 have w1:nd x.1.2<=100000:=aT (Nat.le_mul_of_pos_right _ n2) hw
 have w2:nd x.2.2<=100000:=aT (Nat.le_mul_of_pos_left _ n1) hw
 refine aI (n:=n+2) v7 rfl rfl (qKb m x hw (λp=>mQ (n+1) m p) λy hy=>?_)
 have hy':PpOk y/\nd y.2<=100000:=by
  rcases hy with rfl|rfl
  ·exact⟨hx.1,w1⟩
  ·exact⟨hx.2,w2⟩
 exact aI (n:=n+1) v8 rfl (by show zF (aJ y.1)::cj false [ae m y.2]++_=_;rw [dv];rfl) (qM8 m y (by have:=hy'.1.path;omega) hy'.2 (mQ n m y.2) (qq n m y.2))
theorem qRc (n m:Nat) (p q:Pp) (hp:PpOk p) (hq:PpOk q) (lp:ax p.2=true) (lq:ax q.2=true):aH tab (n+5) 21 [ae m p.2,ae m q.2,.int t]=zT (.lst (((und p.2).flatMap λa=>dI m t a (und q.2)).map g3)):=by
 have h1:=Nat.mul_le_mul hp.few hq.few
 exact aI (n:=n+4) vX rfl (by rw [dv,dv];rfl) (qPn m t p.2 q.2 lp lq ht hp.good.th hq.good.th AC (λp=>qq (n+3) m p) (λts=>aI (n:=n+3) vY rfl rfl (qNd m t ts (λu=>xS (n+2) m u) λu=>qRa t ht n m u)) λf g hf hg=>sd (n+2) m f g hf hg)
omit ht in
theorem qLr (n m:Nat) (p q:Pp) (hp:PpOk p) (hq:PpOk q):aH tab (n+11) 25 [ae m p.2,ae m q.2]=zT (.lst ((ji (und p.2) (und q.2)).map ar)):=by
 have h1:=Nat.mul_le_mul hp.few hq.few
 refine aI (n:=n+10) vT rfl (by rw [dv,dv];rfl) (qJ5 m p.2 q.2 AC (λx hx=>?_) λu=>xS (n+9) m u)
 have hx':hg x<=8/\(und x).length<=1000:=by
  rcases hx with rfl|rfl
  ·exact⟨hp.high,by have:=hp.few;omega⟩
  ·exact⟨hq.high,by have:=hq.few;omega⟩
 exact xT m 8 x hx'.1 hx'.2 n
theorem qRb (n m:Nat) (far:Int) (l r:Tr) (hl:PpOk ([],l)) (hr:PpOk ([],r)) (hM:nd l * nd r<=100000):∃rows:List (Pl×Str),rows.length<=100000/\Wf m t far [(([],l),([],r))] rows/\(rows.flatMap Cj).length<=10000/\aH tab (n+13) 27 [ae m l,ae m r,.int far,.int t]=zF (.tup [.tup (sP (rows.flatMap Cj)),.tup (rows.map bp)]):=by
 obtain⟨rows,ok,pm,few,wf,e⟩:=qPm (call:=aH tab (n+11)) m t far ht.1 l r hl hr hM (λp=>qOI (n+10) m p) (λa b ha hb=>qS5 t ht (n+5) m far a b ha hb) λx hx hw=>qLs t ht (n+8) m x hx hw
 have N:(rows.flatMap Cj).length<=10000:=by
  rw [pm.length_eq]
  exact aT (yt m t far _ _) (Nat.mul_le_mul hl.few hr.few)
 refine⟨rows,few,wf,N,aI (n:=n+12) t27 rfl (by rw [dv,dv];rfl) (qJ7 m t far l r _ _ rows ok (aI (n:=n+11) v5 rfl (by rw [dv,dv];rfl) e) ?_ (aI (n:=n+11) v3 rfl rfl (qJ9 m rows)))⟩
 exact aI (n:=n+11) vS rfl rfl (qM7 m t far rows ok N (λp q hp hq=>qLr n m p q hp hq) (λx w=>aI (n:=n+10) vZ rfl rfl (qM9 m x w λp=>mQ (n+9) m p)) λp q hp hq lp lq=>qRc t ht (n+6) m p q hp hq lp lq)
end
end Dw.T
namespace Dw.T
open Dw PySem
noncomputable def dZ (s j n:Int):Int:=(((s+3+j) * (s+5 * j+11) * (10^33+7)).fdiv 13).fmod n
theorem pW (s j n:Int) (h:0<n):0<=dZ s j n/\dZ s j n<n:=dW _ _ h
theorem xX {x:Int}(h:0<=x/\x<2):x=0∨x=1:=by omega
theorem lU {x:Int}(h:0<=x/\x<3):x=0∨x=1∨x=2:=by omega
theorem oE (a b c x:Int) (h:0<=x/\x<3):bH (.lst [.int a,.int b,.int c]) (.int x)=zF (.int (if x=0 then a else if x=1 then b else c)):=by
 rcases lU h with rfl|rfl|rfl<;>rfl
theorem qT0 (a b x:Int) (h:0<=x/\x<2):bH (.lst [.int a,.int b]) (.int x)=zF (.int (if x=0 then a else b)):=by
 rcases xX h with rfl|rfl<;>rfl
structure ThW (u:Th):Prop where
 ok:cT u.sw
 sp:∀j,(u.sw j).2.2.2=(u.sw j).2.2.1
 mr:0<=u.mr/\u.mr<65536
section
variable {call:Nat->List D->Option R}
theorem qPo (s j n:Int) (hs:0<=s/\s<=10^41) (hj:0<=j/\j<=100) (hn:0<n/\n<2^200):ak call [zF (.int s),zF (.int j),zF (.int n)] f_law_draw.body=some (.rt (false,.int (dZ s j n))):=by
 have m1:=kS 5 j At
 have m2:=rY (s+3+j) (s+5 * j+11) AC AC
 have p:hJ 10 33=true:=by decide
 have v1:=qMN
 have v2:=qOr
 have h1:0<=(s+3+j) * (s+5 * j+11)/\(s+3+j) * (s+5 * j+11)<=(10^41+1000) * (10^41+1000):=⟨Int.mul_nonneg AC AC,nZ AC AC AC At⟩
 have h2:((s+3+j) * (s+5 * j+11)).natAbs<jj:=by
  have:(10^41+1000) * (10^41+1000)<2^300:=by decide
  have:2^260 * 2^64 ≥ 2^300:=by decide
  have h3:2^260<=jg:=vt At At
  omega
 have m3:=qTX ((s+3+j) * (s+5 * j+11)) (10^(33:Int).toNat+7) h2 (by show 1000000000000000000000000000000007<jj;omega)
 have d1:bf 13=true:=by decide
 have dn:bf n=true:=jQ n AC AC
 exact ay (by simp only [fi,aV,pk,ao,bD,bu,bw,aQ,bF,bg,bC,iH,lE,m1,↓reduceIte,m2,jw,p,m3,dO,d1,cz,dn];rfl) rfl
end
def Cg (call:Nat->List D->Option R):Prop:=∀s j n:Int,(0<=s/\s<=10^41)->(0<=j/\j<=100)->(0<n/\n<2^200)->call 30 [.int s,.int j,.int n]=zF (.int (dZ s j n))
theorem p0 (k:Nat) (f:Nat->D):bx (k+1) f=bx k f++[f k]:=by unfold bx;rw [List.range_succ,List.map_append];rfl
section
variable {call:Nat->List D->Option R}
def jJ (s F V W:Int) (j:Nat):Q4:=(dZ s j (2 * F+1) - F,min F (dZ s j (2 * F+1) - F+dZ s (j+7) W),dZ s (j+14) (2 * V+1) - V,dZ s (j+14) (2 * V+1) - V)
theorem qPJ (s F V W:Int) (hF:0<F/\F<=10^30) (hV:0<=V/\V<=10^15) (hW:0<W/\W<=10^30) (j:Nat):qV (jJ s F V W j):=by
 have h1:=pW s j (2 * F+1) AC
 have h2:=pW s (j+7) W AC
 have h3:=pW s (j+14) (2 * V+1) AC
 unfold qV jJ
 dsimp only
 omega
theorem qM5 (c:Int) (k m:Nat) (w b:Int) (hk:k<=100) (hm:m<=3) (hw:0<=w) (hb:0<=b/\b<=10^14) (dr:Cg call) :
  ∃u:Th,ThW u/\ak call [zF (.int c),zF (.int (k:Int)),zF CJ,zF (.int w),zF (.int b),none,none,none,none,none,none,none,none,none,none] f_law_thing.body=some (.rt (false,af m u)):=by
 have hs0:=dW c (10^40) At
 have m1:=kS 7919 (k:Int) At
 have m2:=kT (7919 * (k:Int)) (k:Int) AC
 have p40:hJ 10 40=true:=by decide
 have p30:hJ 10 30=true:=by decide
 have p15:hJ 10 15=true:=by decide
 have p14:hJ 10 14=true:=by decide
 have d40:bf (10^(40:Int).toNat)=true:=by decide
 have d3:bf 3=true:=by decide
 have d9:bf 9=true:=by decide
 have d2:bf 2=true:=by decide
 have l3:3<=lim:=cA At
 have l2:2<=lim:=cA At
 have l4:4<=lim:=cA At
 have kk:0<=7919 * (k:Int) * (k:Int)/\7919 * (k:Int) * (k:Int)<=7919 * 100 * 100:=by
  have h1:7919 * (k:Int)<=7919 * 100:=by omega
  exact⟨Int.mul_nonneg AC AC,nZ h1 AC AC At⟩
 obtain⟨s,hs,es⟩:∃s:Int,(0<=s/\s<=10^41)/\c.fmod (10^(40:Int).toNat)+7919 * (k:Int) * (k:Int)=s:=⟨_,by show 0<=c.fmod (10^40)+_/\c.fmod (10^40)+_<=_;omega,rfl⟩
 have x0:=dW w 3 At
 obtain⟨F,hF,eF⟩:∃F:Int,(0<F/\F<=10^30)/\bH (.lst [.int 12,.int 90,.int (10^(30:Int).toNat - 1)]) (.int (w.fmod 3))=zF (.int F):=by
  refine⟨_,?_,oE 12 90 (10^(30:Int).toNat - 1) _ x0⟩
  rcases lU x0 with e|e|e<;>rw [e]<;>decide
 have x1:=dW (w.fdiv 3) 3 At
 obtain⟨V,hV,eV⟩:∃V:Int,(0<=V/\V<=10^15)/\bH (.lst [.int 0,.int 4,.int (10^(15:Int).toNat)]) (.int ((w.fdiv 3).fmod 3))=zF (.int V):=by
  refine⟨_,?_,oE 0 4 (10^(15:Int).toNat) _ x1⟩
  rcases lU x1 with e|e|e<;>rw [e]<;>decide
 have x2:=dW (w.fdiv 9) 3 At
 obtain⟨W,hW,eW⟩:∃W:Int,(0<W/\W<=10^30)/\bH (.lst [.int 1,.int 9,.int (F+1)]) (.int ((w.fdiv 9).fmod 3))=zF (.int W):=by
  refine⟨if (w.fdiv 9).fmod 3=0 then 1 else if (w.fdiv 9).fmod 3=1 then 9 else F+1,?_,oE 1 9 (F+1) _ x2⟩
  have:F+1<=10^30:=by
   have:F=12∨F=90∨F=10^30 - 1:=by
    have:=oE 12 90 (10^(30:Int).toNat - 1) _ x0
    rw [this] at eF
    injection eF with eF
    injection eF with _ eF
    injection eF with eF
    rcases lU x0 with e|e|e<;>rw [e] at eF
    ·exact .inl eF.symm
    ·exact .inr (.inl eF.symm)
    ·exact .inr (.inr eF.symm)
   omega
  rcases lU x2 with e|e|e<;>rw [e]
  ·show (0:Int)<1/\(1:Int)<=10^30
   decide
  ·show (0:Int)<9/\(9:Int)<=10^30
   decide
  ·exact⟨show 0<F+1 by omega,this⟩
 obtain⟨Z',h,o9,o10,o11,o12,rfl⟩:=lN (call:=call) (tg:=.one 9) (body:=AY)
  (λi Z=>∃(o9 o10 o11 o12:Option R),Z=[zF (.int c),zF (.int (k:Int)),zF CJ,zF (.int w),zF (.int b),zF (.int s),zF (.int F),zF (.int V),zT (.lst (bx i λj=>q4 (jJ s F V W j))),o9,o10,o11,o12,none,none]) m (λi=>.int (i:Nat))
  [zF (.int c),zF (.int (k:Int)),zF CJ,zF (.int w),zF (.int b),zF (.int s),zF (.int F),zF (.int V),zT CG,none,none,none,none,none,none] ⟨none,none,none,none,rfl⟩ (by
   rintro i Z hi ⟨o9,o10,o11,o12,rfl⟩
   have m3:∀x,iv 2 x=true:=λx=>kS 2 x At
   have r1:=dr s i (2 * F+1) hs AC AC
   have r2:=dr s (i+7) W hs AC AC
   have r3:=dr s (i+14) (2 * V+1) hs AC AC
   refine⟨_,_,rfl,?_,zF (.int (i:Int)),zF (.int (dZ s i (2 * F+1) - F)),zF (.int (dZ s (i+7) W)),zF (.int (dZ s (i+14) (2 * V+1) - V)),rfl⟩
   refine av (false,.int (dZ s i (2 * F+1) - F)) (by simp [m3,r1]) ?_
   refine av (false,.int (dZ s (i+7) W)) (by simp [l3,d9,d3,eW,r2]) ?_
   refine av (false,.int (dZ s (i+14) (2 * V+1) - V)) (by simp [m3,r3]) ?_
   rw [p0]
   exact iS (false,q4 (jJ s F V W i)) (by simp [l4];rfl) rfl (iT (by rw [lM];omega)) rfl)
 obtain⟨hd,eh⟩:∃hd:Int,∀z,ak call [zF (.int c),zF (.int (k:Int)),zF (.int (m:Int)),zF (.int w),zF (.int b),zF (.int s),zF (.int F),zF (.int V),zT (.lst (bx m λj=>q4 (jJ s F V W j))),o9,o10,o11,o12,zF (.int hd),none] [.set 14 false (.bin .sub (.call 30 [V5,(kI 28),(.bin .add (.bin .mul (kI 2) V6) (kI 1))]) V6),.ret (.tup [Cd,(.bi .tuple [V8]),(.call 30 [V5,(kI 35),(.ix (.lst [(kI 4),(kI 65536)]) (.bin .mod (.bin .fdiv V3 (kI 2)) (kI 2)))]),Cb])]=z->ak call [zF (.int c),zF (.int (k:Int)),zF (.int (m:Int)),zF (.int w),zF (.int b),zF (.int s),zF (.int F),zF (.int V),zT (.lst (bx m λj=>q4 (jJ s F V W j))),o9,o10,o11,o12,none,none] (f_law_thing.body.drop 5)=z:=by
  have mk:=kT b 1000 At
  have mk2:=kS (k:Int) 100000000000000 AC
  by_cases hp:w.fmod 2=1
  ·refine⟨(k:Int) * 100000000000000+b,λz hz=>?_⟩
   refine av (false,.int (b * 1000+(k:Int))) (by simp [mk]) ?_
   refine iq (x:=false) (by simp [d2,hp]) (av (false,.int ((k:Int) * 100000000000000+b)) (by simp [p14,mk2]) rfl) hz
  ·refine⟨b * 1000+(k:Int),λz hz=>?_⟩
   refine av (false,.int (b * 1000+(k:Int))) (by simp [mk]) ?_
   exact aX (x:=false) (by simp [d2];exact hp) hz
 have x3:=dW (w.fdiv 2) 2 At
 obtain⟨G,hG,eG⟩:∃G:Int,(0<G/\G<=65536)/\bH (.lst [.int 4,.int 65536]) (.int ((w.fdiv 2).fmod 2))=zF (.int G):=by
  refine⟨_,?_,qT0 4 65536 _ x3⟩
  rcases xX x3 with e|e<;>rw [e]<;>decide
 have m3:∀x,iv 2 x=true:=λx=>kS 2 x At
 have r1:=dr s 28 (2 * F+1) hs AC AC
 have r2:=dr s 35 G hs AC AC
 have b2:=pW s 35 G AC
 refine⟨⟨hd,jJ s F V W,dZ s 35 G,dZ s 28 (2 * F+1) - F⟩,⟨qPJ s F V W hF hV hW,λj=>rfl,by dsimp only;omega⟩,?_⟩
 refine av (false,.int s) (by simp only [aV,pk,ao,bD,bu,bw,aQ,bF,bg,bC,jw,p40,↓reduceIte,cz,d40,lE,m1,m2,iH,es]) ?_
 refine av (false,.int F) (by simp only [eI,gQ,gR,gS,fF,sV,iG,jx,aV,pk,ao,bD,bu,bw,aQ,bF,bg,bC,jw,p30,↓reduceIte,lP,i6,i4,Nat.reduceAdd,l3,cz,d3,eF]) ?_
 refine av (false,.int V) (by simp only [eI,gQ,gR,gS,fF,sV,iG,jx,aV,pk,ao,bD,bu,bw,aQ,bF,bg,bC,jw,p15,↓reduceIte,dO,d3,i6,i4,Nat.reduceAdd,l3,cz,eV]) ?_
 refine av (true,.lst []) rfl ?_
 refine tF rfl (lj AC) h ?_
 refine eh _ ?_
 refine av (false,.int (dZ s 28 (2 * F+1) - F)) (by simp [m3,r1]) ?_
 exact ay (by simp [l2,d2,eG,r2,l4];rfl) rfl
end
end Dw.T
namespace Dw.T
open Dw PySem
theorem sk (l:List Int):eH (l.map .int)=some l:=by have:=uQ (λi:Int=>i) l;rwa [List.map_id'] at this
def gM (l:List Int):Int:=(km l).getD 0
def gK (l:List Int):Int:=(kj l).getD 0
theorem w6:∀(r:List Int) (a:Int),(r.foldl (λm x=>if x<m then x else m) a=a∨r.foldl (λm x=>if x<m then x else m) a∈r)/\r.foldl (λm x=>if x<m then x else m) a<=a/\∀y∈r,r.foldl (λm x=>if x<m then x else m) a<=y
 | [],a=>⟨.inl rfl,mj _,λy hy=>(nomatch hy)⟩
 | x::r,a=>by
  rw [mJ]
  obtain⟨h1,h2,h3⟩:=w6 r (if x<a then x else a)
  refine⟨?_,?_,λy hy=>?_⟩
  ·rcases h1 with h1|h1
   ·rw [h1]
    split
    ·exact .inr bq
    ·exact .inl rfl
   ·exact .inr (bK _ h1)
  ·refine kM h2 ?_
   split<;>omega
  ·rcases yag.mp hy with rfl|hy
   ·refine kM h2 ?_
    split<;>omega
   ·exact h3 y hy
theorem wO:∀(r:List Int) (a:Int),(r.foldl (λm x=>if m<x then x else m) a=a∨r.foldl (λm x=>if m<x then x else m) a∈r)/\a<=r.foldl (λm x=>if m<x then x else m) a/\∀y∈r,y<=r.foldl (λm x=>if m<x then x else m) a
 | [],a=>⟨.inl rfl,mj _,λy hy=>(nomatch hy)⟩
 | x::r,a=>by
  rw [mJ]
  obtain⟨h1,h2,h3⟩:=wO r (if a<x then x else a)
  refine⟨?_,?_,λy hy=>?_⟩
  ·rcases h1 with h1|h1
   ·rw [h1]
    split
    ·exact .inr bq
    ·exact .inl rfl
   ·exact .inr (bK _ h1)
  ·refine kM ?_ h2
   split<;>omega
  ·rcases yag.mp hy with rfl|hy
   ·refine kM ?_ h2
    split<;>omega
   ·exact h3 y hy
theorem jX {l:List Int}(h:l≠[]):km l=some (gM l)/\gM l∈l/\∀y∈l,gM l<=y:=by
 cases l with
 | nil=>exact Qn rfl h
 | cons a r =>
  obtain⟨h1,h2,h3⟩:=w6 r a
  refine⟨rfl,?_,λy hy=>?_⟩
  ·show r.foldl _ a∈_
   rcases h1 with h1|h1
   ·rw [h1];exact bq
   ·exact bK _ h1
  ·show r.foldl _ a<=_
   rcases yag.mp hy with rfl|hy
   ·exact h2
   ·exact h3 y hy
theorem jY {l:List Int}(h:l≠[]):kj l=some (gK l)/\gK l∈l/\∀y∈l,y<=gK l:=by
 cases l with
 | nil=>exact Qn rfl h
 | cons a r =>
  obtain⟨h1,h2,h3⟩:=wO r a
  refine⟨rfl,?_,λy hy=>?_⟩
  ·show r.foldl _ a∈_
   rcases h1 with h1|h1
   ·rw [h1];exact bq
   ·exact bK _ h1
  ·show _<=r.foldl _ a
   rcases yag.mp hy with rfl|hy
   ·exact h2
   ·exact h3 y hy
theorem pC {l:List Int}(h:l≠[]):cZ .min [.lst (l.map .int)]=zF (.int (gM l)):=by
 rw [qLB]
 exact qIs (sk l) (jX h).1
theorem pB {l:List Int}(h:l≠[]):cZ .max [.lst (l.map .int)]=zF (.int (gK l)):=by
 rw [qLC,sk,bN,(jY h).1]
 rfl
noncomputable def cQ (f:Q4->Int) (ts:List Th) (j:Nat):List Int:=ts.map λu=>f (u.sw j)
def s0 (q:Q4):Int:=q.1
def s1 (q:Q4):Int:=q.2.1
def s2 (q:Q4):Int:=q.2.2.1
def gX (ts:List Th) (j:Nat):Q4:=(gM (cQ s0 ts j),gK (cQ s1 ts j),gM (cQ s2 ts j),gK (cQ s2 ts j))
def gZ (ts:List Th) (j:Nat):Q4:=(gK (cQ s0 ts j),gM (cQ s1 ts j),gK (cQ s2 ts j),gM (cQ s2 ts j))
theorem dY {f:Q4->Int}{ts:List Th}(h:ts≠[]) (j:Nat):cQ f ts j≠[]:=by
 cases ts with
 | nil=>exact Qn rfl h
 | cons u ts=>exact List.cons_ne_nil _ _
theorem ll {f:Q4->Int}{ts:List Th}{j:Nat}{x:Int}(h:x∈cQ f ts j):∃u∈ts,x=f (u.sw j):=by
 obtain⟨u,hu,e⟩:=yaO.mp h
 exact⟨u,hu,e.symm⟩
theorem k7 {f:Q4->Int}{ts:List Th}(j:Nat) {u:Th}(h:u∈ts):f (u.sw j)∈cQ f ts j:=yaO.mpr ⟨u,h,rfl⟩
theorem qMZ {ts:List Th}(hn:ts≠[]) (ok:∀u∈ts,ThW u):cT (gX ts)/\cT (gZ ts)/\∀u∈ts,∀j,nQ (gX ts j) (u.sw j)/\nQ (u.sw j) (gZ ts j):=by
 have key:∀j,∃a b c d e f:Th,(a∈ts/\b∈ts/\c∈ts/\d∈ts/\e∈ts/\f∈ts)/\gM (cQ s0 ts j)=(a.sw j).1/\gK (cQ s1 ts j)=(b.sw j).2.1/\gM (cQ s2 ts j)=(c.sw j).2.2.1/\gK (cQ s2 ts j)=(d.sw j).2.2.1/\gK (cQ s0 ts j)=(e.sw j).1/\gM (cQ s1 ts j)=(f.sw j).2.1:=λj=>by
  obtain⟨a,ha,ea⟩:=ll (jX (dY (f:=s0) hn j)).2.1
  obtain⟨b,hb,eb⟩:=ll (jY (dY (f:=s1) hn j)).2.1
  obtain⟨c,hc,ec⟩:=ll (jX (dY (f:=s2) hn j)).2.1
  obtain⟨d,hd,ed⟩:=ll (jY (dY (f:=s2) hn j)).2.1
  obtain⟨e,he,ee⟩:=ll (jY (dY (f:=s0) hn j)).2.1
  obtain⟨f,hf,ef⟩:=ll (jX (dY (f:=s1) hn j)).2.1
  exact⟨a,b,c,d,e,f,⟨ha,hb,hc,hd,he,hf⟩,ea,eb,ec,ed,ee,ef⟩
 refine⟨λj=>?_,λj=>?_,λu hu j=>?_⟩
 ·obtain⟨a,b,c,d,e,f,⟨ha,hb,hc,hd,he,hf⟩,ea,eb,ec,ed,ee,ef⟩:=key j
  unfold gX
  rw [ea,eb,ec,ed]
  have h1:=(ok a ha).ok j
  have h2:=(ok b hb).ok j
  have h3:=(ok c hc).ok j
  have h4:=(ok d hd).ok j
  exact⟨h1.1,h2.2.1,h3.2.2.1,h4.2.2.1⟩
 ·obtain⟨a,b,c,d,e,f,⟨ha,hb,hc,hd,he,hf⟩,ea,eb,ec,ed,ee,ef⟩:=key j
  unfold gZ
  rw [ee,ef,ec,ed]
  have h1:=(ok e he).ok j
  have h2:=(ok f hf).ok j
  have h3:=(ok c hc).ok j
  have h4:=(ok d hd).ok j
  exact⟨h1.1,h2.2.1,h4.2.2.1,h3.2.2.1⟩
 ·have a1:=(jX (dY (f:=s0) hn j)).2.2 _ (k7 j hu)
  have a2:=(jY (dY (f:=s1) hn j)).2.2 _ (k7 j hu)
  have a3:=(jX (dY (f:=s2) hn j)).2.2 _ (k7 j hu)
  have a4:=(jY (dY (f:=s2) hn j)).2.2 _ (k7 j hu)
  have a5:=(jY (dY (f:=s0) hn j)).2.2 _ (k7 j hu)
  have a6:=(jX (dY (f:=s1) hn j)).2.2 _ (k7 j hu)
  have sp:=(ok u hu).sp j
  refine⟨⟨a1,a2,a3,?_⟩,⟨a5,a6,a4,?_⟩⟩
  ·rw [sp];exact a4
  ·rw [sp];exact a3
theorem th1 (m:Nat) (u:Th):bH (af m u) (.int 1)=zF (cC m u.sw):=rfl
theorem th2 (m:Nat) (u:Th):bH (af m u) (.int 2)=zF (.int u.mr):=rfl
theorem th3 (m:Nat) (u:Th):bH (af m u) (.int 3)=zF (.int u.wo):=rfl
theorem qSS (m:Nat) (c:Fr) {j:Nat}(h:j<m):bH (cC m c) (.int (j:Int))=zF (q4 (c j)):=qK0 _ h
section
variable {call:Nat->List D->Option R}
theorem sf (m:Nat) (ts:List Th) {j:Nat}(hj:j<m) (f:Q4->Int) (i:Int) (hf:∀q,bH (q4 q) (.int i)=zF (.int (f q))) (rest:En) (o1 o2:Option R) :
  aa call (zF BT::o1::o2::zF (.int (j:Int))::rest) (.compS (.ix (.ix (.ix V0 (kI 1)) V1) (kI i)) 1 [3] (.one 0) V0)=zT (.lst ((cQ f ts j).map .int)):=by
 refine iD (r:=(false,.lst (ts.map (af m)))) rfl rfl rfl ?_
 rw [show (cQ f ts j).map D.int=ts.map λu=>.int (f (u.sw j)) by unfold cQ;rw [List.map_map];rfl]
 refine f7 call _ (af m) (λu=>.int (f (u.sw j))) ts λu _=>⟨[zF (af m u),zF (.int (j:Int))],false,rfl,?_⟩
 have h1:=qSS m u.sw hj
 have h2:=hf (u.sw j)
 exact bt (dD (r:=(false,q4 (u.sw j))) (bt (dD (r:=(false,cC m u.sw)) (bt rfl rfl rfl)) rfl h1)) rfl h2
theorem qPi (m:Nat) (ts:List Th) (ok:∀u∈ts,ThW u) (hm:m<=3) :
  ∃o:Option To,GO o ts/\me o/\ak call [zF BT,none,none,none,none,none,none,none,none,none,none] f_law_told.body=some (.rt (false,aL m o)):=by
 have hlen:∀rest:En,aa call (zF BT::rest) (.cmp .eq (.bi .len [V0]) (kI 0))=zF (.bl (decide (ts.length=0))):=λrest=>by
  refine bL (dN (r:=(false,.int (ts.length:Int))) (cD rfl ?_)) rfl ?_
  ·show some (false,D.int (((ts.map (af m)).length:Nat):Int))=_
   rw [aw]
  ·show zF (D.bl ((ts.length:Int) == 0))=_
   congr 3
   by_cases h:ts.length=0
   ·rw [h];rfl
   ·rw [Qj h];exact beq_eq_false_iff_ne.mpr AC
 by_cases hn:ts=[]
 ·refine⟨none,hn,(λx h=>(nomatch h)),?_⟩
  refine cV (by rw [hlen];rw [hn];rfl) (ay rfl rfl) rfl
 ·obtain⟨g1,g2,g3⟩:=qMZ hn ok
  obtain⟨Z',h,o3,o5,o6,o7,rfl⟩:=lN (call:=call) (tg:=.one 3) (body:=A7)
   (λi Z=>∃(o3 o5 o6 o7:Option R),Z=[zF BT,zT (.lst (bx i λj=>q4 (gX ts j))),zT (.lst (bx i λj=>q4 (gZ ts j))),o3,none,o5,o6,o7,none,none,none]) m (λi=>.int (i:Nat))
   [zF BT,zT CG,zT CG,none,none,none,none,none,none,none,none] ⟨none,none,none,none,rfl⟩ (by
    rintro i Z hi ⟨o3,o5,o6,o7,rfl⟩
    refine⟨[zF BT,zT (.lst (bx i λj=>q4 (gX ts j))),zT (.lst (bx i λj=>q4 (gZ ts j))),zF (.int (i:Int)),none,o5,o6,o7,none,none,none],_,rfl,?_,zF (.int (i:Int)),zF (.lst ((cQ s0 ts i).map .int)),zF (.lst ((cQ s1 ts i).map .int)),zF (.lst ((cQ s2 ts i).map .int)),rfl⟩
    refine av _ (sf m ts hi s0 0 u9 _ _ _) ?_
    refine av _ (sf m ts hi s1 1 u7 _ _ _) ?_
    refine av _ (sf m ts hi s2 2 uZ _ _ _) ?_
    have l4:4<=lim:=cA At
    have a1:=pC (dY (f:=s0) hn i)
    have a2:=pB (dY (f:=s0) hn i)
    have a3:=pC (dY (f:=s1) hn i)
    have a4:=pB (dY (f:=s1) hn i)
    have a5:=pC (dY (f:=s2) hn i)
    have a6:=pB (dY (f:=s2) hn i)
    refine iS (false,q4 (gX ts i)) (by simp only [eI,gQ,gR,gS,n4,lu,iG,jx,fY,fb,gI,pk,ao,bD,bu,bw,aQ,bC,a1,a4,a5,a6,i6,i4,Nat.reduceAdd,l4,↓reduceIte];rfl) rfl (iT (by rw [lM];omega)) ?_
    refine iS (false,q4 (gZ ts i)) (by simp only [eI,gQ,gR,gS,n4,lu,iG,jx,fY,fb,gI,pk,ao,bD,bu,bw,aQ,bC,a2,a3,a5,a6,i6,i4,Nat.reduceAdd,l4,↓reduceIte];rfl) rfl (iT (by rw [lM];omega)) ?_
    rw [p0,p0]
    rfl)
  obtain⟨Z2,h2,o4,a,b,ha,hb,rfl⟩:=ft (call:=call) (tg:=.one 4) (body:=A6)
   (λk Z=>∃(o4:Option R) (a b:Int),0<=a/\0<=b/\Z=[zF BT,zT (.lst (bx m λj=>q4 (gX ts j))),zT (.lst (bx m λj=>q4 (gZ ts j))),o3,o4,o5,o6,o7,zF (.int a),zF (.int b),none]) (ts.map (af m)) 0
   [zF BT,zT (.lst (bx m λj=>q4 (gX ts j))),zT (.lst (bx m λj=>q4 (gZ ts j))),o3,none,o5,o6,o7,zF (.int 0),zF (.int 65535),none] ⟨none,0,65535,by decide,by decide,rfl⟩ (by
    rintro k d Z hk ⟨o4,a,b,ha,hb,rfl⟩
    rw [bU] at hk
    obtain⟨u,hu,rfl⟩:=yab.mp hk
    have hm:=(ok u (cm hu)).mr
    have e2:=th2 m u
    refine⟨[zF BT,zT (.lst (bx m λj=>q4 (gX ts j))),zT (.lst (bx m λj=>q4 (gZ ts j))),o3,zF (af m u),o5,o6,o7,zF (.int a),zF (.int b),none],_,rfl,?_,zF (af m u),((a.toNat ||| u.mr.toNat:Nat):Int),((b.toNat &&& u.mr.toNat:Nat):Int),by omega,by omega,rfl⟩
    have c1:0<=a/\0<=u.mr:=⟨ha,hm.1⟩
    have c2:0<=b/\0<=u.mr:=⟨hb,hm.1⟩
    refine av (false,.int ((a.toNat ||| u.mr.toNat:Nat):Int)) (by simp only [aV,pk,ao,bD,bu,bw,aQ,fF,bF,bg,bC,e2,qLy,c1,and_self,↓reduceIte]) ?_
    exact av (false,.int ((b.toNat &&& u.mr.toNat:Nat):Int)) (by simp only [eI,gQ,gR,gS,aV,pk,ao,bD,bu,bw,aQ,fF,bF,bg,bC,e2,qJy,c2,and_self,↓reduceIte]) rfl)
  have hne:(ts.map λu=>u.wo)≠[]:=by
   cases ts with
   | nil=>exact Qn rfl hn
   | cons u ts=>exact List.cons_ne_nil _ _
  refine⟨some ⟨gX ts,gZ ts,[.int a,.int b,.int (ts.length:Int),.int (gM (ts.map λu=>u.wo)),.int (gK (ts.map λu=>u.wo)),.int (ts.map λu=>u.wo).sum]⟩,⟨g1,g2,g3⟩,λx h=>by injection h with h;subst h;rfl,?_⟩
  refine aX (by rw [hlen,Qj (by intro h;exact hn (ybl.mp h))]) ?_
  refine av (true,.lst []) rfl (av (true,.lst []) rfl ?_)
  have hm':cu call [zF BT,zT CG,zT CG,none,none,none,none,none,none,none,none] [(.bi .len [(.ix CP (kI 1))])]=some [.int (m:Int)]:=by
   cases ts with
   | nil=>exact Qn rfl hn
   | cons u ts =>
    have e0:=k9 ((u::ts).map (af m)) 0 (af m u) rfl
    have e1:=th1 m u
    have e3:cZ .len [cC m u.sw]=zF CJ:=by show some (false,D.int (((bx m λj=>q4 (u.sw j)).length:Nat):Int))=_;rw [lM]
    have q0:aa call [zF (.lst ((u::ts).map (af m))),zT CG,zT CG,none,none,none,none,none,none,none,none] CP=zF (af m u):=bt rfl rfl e0
    have q1:aa call [zF (.lst ((u::ts).map (af m))),zT CG,zT CG,none,none,none,none,none,none,none,none] (.ix CP (kI 1))=zF (cC m u.sw):=bt (dD q0) rfl e1
    have q2:aa call [zF (.lst ((u::ts).map (af m))),zT CG,zT CG,none,none,none,none,none,none,none,none] (.bi .len [(.ix CP (kI 1))])=zF CJ:=cD (dD q1) e3
    rw [fb,dN q2]
    rfl
  refine tF hm' (lj AC) h ?_
  refine av (false,.int 0) rfl (av (false,.int 65535) rfl ?_)
  refine gf (r:=(false,.lst (ts.map (af m)))) rfl rfl h2 ?_
  have hc:aa call [zF BT,zT (.lst (bx m λj=>q4 (gX ts j))),zT (.lst (bx m λj=>q4 (gZ ts j))),o3,o4,o5,o6,o7,zF (.int a),zF (.int b),none] (.compS (.ix V0 (kI 3)) 1 [] (.one 0) V0)=zT (.lst ((ts.map λu=>u.wo).map .int)):=by
   refine iD (r:=(false,.lst (ts.map (af m)))) rfl rfl rfl ?_
   rw [List.map_map]
   exact f7 call _ (af m) _ ts λu _=>⟨[zF (af m u)],false,rfl,bt rfl rfl (th3 m u)⟩
  refine av _ hc ?_
  have a1:=pC hne
  have a2:=pB hne
  have a3:cZ .sum [.lst ((ts.map λu=>u.wo).map .int)]=zF (.int (ts.map λu=>u.wo).sum):=by rw [yA,sk];rfl
  have a4:cZ .len [.lst (ts.map (af m))]=zF (.int (ts.length:Int)):=by rw [fK,aw]
  have l8:8<=lim:=cA At
  exact ay (by simp only [fi,eI,gQ,gR,gS,n4,lu,iG,jx,fY,fb,gI,pk,ao,bD,bu,bw,aQ,bC,bg,wJ,k4,qLA,a1,a2,a3,a4,i6,i4,Nat.reduceAdd,l8,↓reduceIte];rfl) rfl
end
end Dw.T
namespace Dw.T
open Dw PySem
def ct (n q k:Nat):Nat:=n * k / q
theorem tN (n q:Nat):ct n q 0=0:=by unfold ct;rw [Nat.mul_zero,Nat.zero_div]
theorem xr (n q:Nat) (h:0<q):ct n q q=n:=Nat.mul_div_cancel _ h
theorem yp (n q k:Nat):ct n q k<=ct n q (k+1):=Nat.div_le_div_right (Nat.mul_le_mul_left _ (Nat.le_succ _))
def bh (n q:Nat):List D:=bx (q+1) λk=>.int (ct n q k:Nat)
theorem qLl (n q:Nat):eT (bh n q) none (some (-1))=bx q λk=>.int (ct n q k:Nat):=by
 have hl:(bh n q).length=q+1:=by unfold bh;rw [lM]
 simp only [eT,gD,cutAt,hl]
 rw [Ql At]
 unfold bh
 rw [p0]
 have:(-1+((q:Int)+1)).toNat=q:=by omega
 simp [bx,this]
theorem qLj (n q:Nat):eT (bh n q) (some 1) none=bx q λk=>.int (ct n q (k+1):Nat):=by
 have hl:(bh n q).length=q+1:=by unfold bh;rw [lM]
 simp only [eT,gD,cutAt,hl]
 rw [Qm At]
 unfold bh bx
 rw [List.range_succ_eq_map,cP,List.map_map]
 have h1:min ((1:Int).toNat) (q+1)=1:=by simp
 simp
 rw [cM C2]
 rfl
def rD (m:Nat) (p:Tr):D:=.tup [ae m p,.lst ((und p).map (af m))]
theorem wj (m:Nat) (p:Tr):bH (rD m p) (.int 0)=zF (ae m p):=rfl
theorem rD1 (m:Nat) (p:Tr):bH (rD m p) (.int 1)=zF (.lst ((und p).map (af m))):=rfl
theorem tV:∀a b:List Tr,bT (a++b)=bT a+bT b
 | [],b=>by rw [bT];simp
 | p::a,b=>by rw [qZ,bT,bT,tV a b,Nat.add_assoc]
theorem xB {k:Nat}:∀ps:List Tr,(∀p∈ps,hg p<=k)->ko ps<=k
 | [],_=>by rw [ko];exact fP _
 | p::ps,h=>by
  rw [ko]
  have h1:=h p bq
  have h2:=xB ps λq hq=>h q (bK _ hq)
  omega
theorem zG:∀ps:List Tr,(∀p∈ps,Good p)->Goods ps
 | [],_=>by rw [Goods];trivial
 | p::ps,h=>by
  rw [Goods]
  exact⟨h p bq,zG ps λq hq=>h q (bK _ hq)⟩
theorem zd {α:Type}(l:List α) {a b:Nat}(h:a<=b):l.take b=l.take a++(l.drop a).take (b - a):=by
 obtain⟨c,rfl⟩:=Nat.le.dest h
 rw [List.take_add,gB]
def qUc (call:Nat->List D->Option R) (R:Int):Prop:=∀(n:Nat) (x:Int),n<=100->0<=x->∃q:Nat,1<=q/\(2<=n->2 * q<=n)/\(n<=1->q=1)/\call 33 [.int (n:Int),.int R,.int x]=zT (.lst (bh n q))
def sv (call:Nat->List D->Option R) (m:Nat):Prop:=∀ts:List Th,(∀u∈ts,ThW u)->∃o:Option To,GO o ts/\me o/\call 32 [.lst (ts.map (af m))]=zF (aL m o)
section
variable {call:Nat->List D->Option R}
theorem yu {Z:En}{f:Nat}{a:C}{x:D}{r:Option R}(ha:ag Z a CM=some x) (hc:call f [x]=r):aa call Z (.call f [a])=r:=by
 rw [lR,iU,ha]
 exact hc
theorem qTg {Z:En}{a:C}{lo hi:Option C}{r:R}(h:aa call Z (.sl a lo hi)=some r):ag Z (.sl a lo hi) (aa call Z (.sl a lo hi))=some r.2:=by rw [h];rfl
theorem qPp (n:Nat) (R x:Int) (hn:n<=100) (hR:R=4∨R=5∨R=6∨R=7) (hx:0<=x) :
  ∃q:Nat,1<=q/\(2<=n->2 * q<=n)/\(n<=1->q=1)/\ak call [zF (.int (n:Int)),zF (.int R),zF (.int x),none,none,none] f_law_cuts.body=some (.rt (true,.lst (bh n q))):=by
 obtain⟨a,ha,ea⟩:∃a:Nat,(1<=a/\(2<=n->2 * a<=n)/\(n<=1->a=1))/\max 1 (((n:Int)+R - 1).fdiv R)=(a:Int):=by
  refine⟨(max 1 (((n:Int)+R - 1).fdiv R)).toNat,?_,?_⟩
  ·rw [jC _ AC]
   rcases hR with rfl|rfl|rfl|rfl<;>omega
  ·omega
 obtain⟨b,hb,eb⟩:∃b:Nat,(a<=b/\(2<=n->2 * b<=n)/\(n<=1->b=1))/\max (a:Int) ((n:Int).fdiv (R.fdiv 2))=(b:Int):=by
  have e2:R.fdiv 2=R / 2:=jC _ At
  have e3:R / 2=2∨R / 2=3:=by rcases hR with rfl|rfl|rfl|rfl<;>decide
  rw [e2]
  refine⟨(max (a:Int) ((n:Int).fdiv (R / 2))).toNat,?_,?_⟩
  ·rw [jC _ AC]
   rcases e3 with e3|e3<;>rw [e3]<;>omega
  ·omega
 have dR:bf R=true:=jQ R AC AC
 have d2:bf 2=true:=by decide
 have e3:R.fdiv 2=2∨R.fdiv 2=3:=by rcases hR with rfl|rfl|rfl|rfl<;>decide
 have dh:bf (R.fdiv 2)=true:=by rcases e3 with e|e<;>rw [e]<;>decide
 have bm:=dW x ((b:Int) - (a:Int)+1) AC
 have dm:bf ((b:Int) - (a:Int)+1)=true:=jQ _ AC AC
 obtain⟨q,hq,eq⟩:∃q:Nat,(a<=q/\q<=b)/\(a:Int)+x.fmod ((b:Int) - (a:Int)+1)=(q:Int):=⟨((a:Int)+x.fmod ((b:Int) - (a:Int)+1)).toNat,by omega,by omega⟩
 refine⟨q,by omega,λh=>by omega,λh=>by omega,?_⟩
 refine av (false,.int (a:Int)) (by simp only [fY,fb,gI,aV,pk,ao,bD,bu,bw,aQ,bF,bg,bC,iH,lP,dO,dR,↓reduceIte,tL,ea]) ?_
 refine av (false,.int (b:Int)) (by simp only [eI,gQ,gR,gS,fY,fb,gI,aV,pk,ao,bD,bu,bw,aQ,bF,bg,bC,dO,d2,dh,↓reduceIte,tL,eb]) ?_
 refine av (false,.int (q:Int)) (by simp only [eI,gQ,gR,gS,aV,pk,ao,bD,bu,bw,aQ,bF,bg,bC,iH,lP,cz,dm,↓reduceIte,eq]) ?_
 have hc:aa call [zF (.int (n:Int)),zF (.int R),zF (.int x),zF (.int (a:Int)),zF (.int (b:Int)),zF (.int (q:Int))] (.compR (.bin .fdiv (.bin .mul V2 V0) V1) 1 [5,0] (.one 0) [(.bin .add V5 (kI 1))])=zT (.lst (bh n q)):=by
  refine qc (ds:=[.int ((q+1:Nat):Int)]) (Z':=[none,zF (.int (q:Int)),zF (.int (n:Int))]) rfl (lj AC) (by rw [aw,List.length_range];exact cA AC) rfl ?_
  refine z9 (r:=[zF (.int (q:Int)),zF (.int (n:Int))]) (λk=>.int (ct n q k:Nat)) λj hj=>⟨false,?_⟩
  have m1:=kS (n:Int) (j:Int) AC
  have dq:bf (q:Int)=true:=jQ _ AC AC
  have e:((n:Int) * (j:Int)).fdiv (q:Int)=((ct n q j:Nat):Int):=by
   rw [jC _ AC]
   unfold ct
   rw [Int.natCast_ediv,Int.natCast_mul]
  simp only [aV,pk,ao,bD,bu,bw,aQ,bC,bg,lE,m1,↓reduceIte,dO,dq,e]
 exact ay hc rfl
structure Rws (ts:List Th) (rows:List Tr):Prop where
 ne:1<=rows.length
 good:∀p∈rows,Good p
 und:aA rows=ts
 few:bT rows+rows.length<=120
 high:∃h,(∀p∈rows,hg p<=h)/\rows.length * 2^h<=60
theorem qJ8 (m:Nat) (ts:List Th) (rm x:Int) (q:Nat) (hq:1<=q) (hl:ts.length<=60) (hq2:q<=60) (ok:∀u∈ts,ThW u) (told:sv call m) :
  ∃(ls:List Tr) (o5 o6:Option R),ls.length=q/\(∀p∈ls,Good p/\hg p=0/\nd p=1)/\aA ls=ts/\cB call uT (.two 5 6) ((List.range q).map λk=>.tup [.int (ct ts.length q k:Nat),.int (ct ts.length q (k+1):Nat)]) [zF BT,zF CW,zF (.int x),zT CG,zF (.lst (bh ts.length q)),none,none,none,none,none]=some (.nx [zF BT,zF CW,zF (.int x),zT (.lst (ls.map (rD m))),zF (.lst (bh ts.length q)),o5,o6,none,none,none]):=by
 obtain⟨Z',h,ls,o5,o6,h1,h2,h3,rfl⟩:=lN (call:=call) (tg:=.two 5 6) (body:=uT)
  (λk Z=>∃(ls:List Tr) (o5 o6:Option R),ls.length=k/\(∀p∈ls,Good p/\hg p=0/\nd p=1)/\aA ls=ts.take (ct ts.length q k)/\Z=[zF BT,zF CW,zF (.int x),zT (.lst (ls.map (rD m))),zF (.lst (bh ts.length q)),o5,o6,none,none,none])
  q (λk=>.tup [.int (ct ts.length q k:Nat),.int (ct ts.length q (k+1):Nat)])
  [zF BT,zF CW,zF (.int x),zT CG,zF (.lst (bh ts.length q)),none,none,none,none,none] ⟨[],none,none,rfl,(λp hp=>(nomatch hp)),by rw [tN,i7,aA],rfl⟩ (by
   rintro k Z hk ⟨ls,o5,o6,h1,h2,h3,rfl⟩
   have hab:=yp ts.length q k
   generalize ct ts.length q k=a at *
   generalize ct ts.length q (k+1)=b at *
   have hW:∀u∈(ts.drop a).take (b - a),ThW u:=λu hu=>ok u (kJ (kH hu))
   obtain⟨o,g1,g2,e⟩:=told ((ts.drop a).take (b - a)) hW
   have hsl:∀o5 o6:Option R,aa call [zF BT,zF CW,zF (.int x),zT (.lst (ls.map (rD m))),zF (.lst (bh ts.length q)),zF (.int (a:Int)),zF (.int (b:Int)),none,none,none] (.sl V0 (some V5) (some V6))=zT (.lst (((ts.drop a).take (b - a)).map (af m))):=λ_ _=>by
    have c:=tO (ts.map (af m)) a b hab
    rw [<-List.map_drop,<-List.map_take] at c
    show zT (.lst (eT (ts.map (af m)) (some (a:Int)) (some (b:Int))))=_
    rw [c]
   have tk:=zd ts hab
   generalize (ts.drop a).take (b - a)=g at *
   refine⟨[zF BT,zF CW,zF (.int x),zT (.lst (ls.map (rD m))),zF (.lst (bh ts.length q)),zF (.int (a:Int)),zF (.int (b:Int)),none,none,none],_,rfl,?_,ls++[.leaf o g],zF (.int (a:Int)),zF (.int (b:Int)),by rw [aU,h1];rfl,λp hp=>?_,?_,rfl⟩
   ·have q1:=hsl none none
    have q2:aa call [zF BT,zF CW,zF (.int x),zT (.lst (ls.map (rD m))),zF (.lst (bh ts.length q)),zF (.int (a:Int)),zF (.int (b:Int)),none,none,none] (.call 32 [(.sl V0 (some V5) (some V6))])=zF (aL m o):=by
     exact yu (qTg q1) e
    have q3:aa call [zF BT,zF CW,zF (.int x),zT (.lst (ls.map (rD m))),zF (.lst (bh ts.length q)),zF (.int (a:Int)),zF (.int (b:Int)),none,none,none] (.bi .tuple [(.sl V0 (some V5) (some V6))])=zF (.tup (g.map (af m))):=cD (fq q1) rfl
    rw [List.map_append]
    refine iS (false,rD m (.leaf o g)) ?_ rfl (iT (by rw [aw];omega)) rfl
    rw [iF,dz,iF,dz,show aa call [zF BT,zF CW,zF (.int x),zT (.lst (ls.map (rD m))),zF (.lst (bh ts.length q)),zF (.int (a:Int)),zF (.int (b:Int)),none,none,none] (.k (tx "leaf"))=zF (tx "leaf") from rfl,bN,dz,q2,bN,dz,q3,bN]
    rw [dz,q1]
    rfl
   ·rcases yaC.mp hp with hp|hp
    ·exact h2 p hp
    ·rw [yaz.mp hp]
     refine⟨?_,by rw [hg],by rw [nd]⟩
     rw [Good]
     exact⟨⟨g1,g2⟩,λu hu=>(hW u hu).ok⟩
   ·rw [iV,h3,aA,aA,und,bR,tk])
 rw [xr _ _ hq,cM (au _)] at h3
 exact⟨ls,o5,o6,h1,h2,h3,h⟩
end
end Dw.T
namespace Dw.T
open Dw PySem
section
variable {call:Nat->List D->Option R}
theorem qNe (m:Nat) (g:List Tr) (hl:(aA g).length<=1000) (a0 a1 a2 a3 a4 a5 a6 a7 a9:Option R) :
  ∃o9:Option R,cB call uR (.one 9) (g.map (rD m)) [a0,a1,a2,a3,a4,a5,a6,a7,zF CG,a9]=some (.nx [a0,a1,a2,a3,a4,a5,a6,a7,zF (.lst ((aA g).map (af m))),o9]):=by
 obtain⟨Z',h,o9,rfl⟩:=ft (call:=call) (tg:=.one 9) (body:=uR)
  (λk Z=>∃o9:Option R,Z=[a0,a1,a2,a3,a4,a5,a6,a7,zF (.lst ((aA (g.take k)).map (af m))),o9]) (g.map (rD m)) 0
  [a0,a1,a2,a3,a4,a5,a6,a7,zF CG,a9] ⟨a9,by rw [i7,aA];rfl⟩ (by
   rintro k d Z hk ⟨o9,rfl⟩
   rw [bU] at hk
   obtain⟨p,hp,rfl⟩:=yab.mp hk
   have h1:aA (g.take (0+k+1))=aA (g.take (0+k))++und p:=by rw [bI,take_one hp,iV,aA,aA,bR]
   have h2:=qz g (0+k+1)
   rw [h1,aU] at h2
   refine⟨[a0,a1,a2,a3,a4,a5,a6,a7,zF (.lst ((aA (g.take (0+k))).map (af m))),zF (rD m p)],_,rfl,?_,zF (rD m p),rfl⟩
   rw [h1,List.map_append]
   refine av (true,.lst ((aA (g.take (0+k))).map (af m)++(und p).map (af m))) ?_ rfl
   have e1:=rD1 m p
   simp only [aV,pk,ao,bD,bu,bw,aQ,fF,bF,bg,bC,e1,uG]
   rw [Ql (cA (by rw [aw,aw];omega))])
 rw [aw,bI,cM (au _)] at h
 exact⟨o9,h⟩
theorem qNc (m:Nat) (ts:List Th) (rm x:Int) (rows:List Tr) (h q:Nat) (f3:Bool) (hq:1<=q) (hq2:q<=60) (hl:ts.length<=60) (ok:∀u∈ts,ThW u) (hu:aA rows=ts) (hg0:∀p∈rows,Good p/\hg p<=h) (told:sv call m) (o5 o6 o8 o9:Option R) :
  ∃(fs:List Tr) (o5' o6' o8' o9':Option R),fs.length=q/\(∀p∈fs,Good p/\hg p<=h+1)/\aA fs=ts/\bT fs=bT rows+q /\
    cB call uS (.two 5 6) ((List.range q).map λk=>.tup [.int (ct rows.length q k:Nat),.int (ct rows.length q (k+1):Nat)]) [zF BT,zF CW,zF (.int x),some CH,zF CZ,o5,o6,zT CG,o8,o9]
      = some (.nx [zF BT,zF CW,zF (.int x),some CH,zF CZ,o5',o6',zT (.lst (fs.map (rD m))),o8',o9']):=by
 obtain⟨Z',hh,fs,o5',o6',o8',o9',h1,h2,h3,h4,rfl⟩:=lN (call:=call) (tg:=.two 5 6) (body:=uS)
  (λk Z=>∃(fs:List Tr) (o5 o6 o8 o9:Option R),fs.length=k/\(∀p∈fs,Good p/\hg p<=h+1)/\aA fs=aA (rows.take (ct rows.length q k))/\bT fs=bT (rows.take (ct rows.length q k))+k/\Z=[zF BT,zF CW,zF (.int x),some CH,zF CZ,o5,o6,zT (.lst (fs.map (rD m))),o8,o9])
  q (λk=>.tup [.int (ct rows.length q k:Nat),.int (ct rows.length q (k+1):Nat)])
  [zF BT,zF CW,zF (.int x),some CH,zF CZ,o5,o6,zT CG,o8,o9]
  ⟨[],o5,o6,o8,o9,rfl,(λp hp=>(nomatch hp)),by rw [tN,i7],by rw [tN,i7,bT],rfl⟩ (by
   rintro k Z hk ⟨fs,o5,o6,o8,o9,h1,h2,h3,h4,rfl⟩
   have hab:=yp rows.length q k
   generalize ct rows.length q k=a at *
   generalize ct rows.length q (k+1)=b at *
   have tk:=zd rows hab
   have gm:∀p∈(rows.drop a).take (b - a),p∈rows:=λp hp=>kJ (kH hp)
   have hsl:∀o8 o9:Option R,aa call [zF BT,zF CW,zF (.int x),some CH,zF CZ,zF (.int (a:Int)),zF (.int (b:Int)),zT (.lst (fs.map (rD m))),o8,o9] (.sl V3 (some V5) (some V6))=zT (.lst (((rows.drop a).take (b - a)).map (rD m))):=λ_ _=>by
    have c:=tO (rows.map (rD m)) a b hab
    rw [<-List.map_drop,<-List.map_take] at c
    cases f3
    ·show zT (.lst (eT (rows.map (rD m)) (some (a:Int)) (some (b:Int))))=_
     rw [c]
    ·show zT (.lst (eT (rows.map (rD m)) (some (a:Int)) (some (b:Int))))=_
     rw [c]
   generalize (rows.drop a).take (b - a)=g at *
   have hW:∀u∈aA g,ThW u:=λu hu'=>by
    refine ok u ?_
    rw [<-hu]
    clear hsl tk h1 h2 h3 h4
    induction g with
    | nil=>rw [aA] at hu';cases hu'
    | cons p g ih =>
     rw [aA] at hu'
     rcases yaC.mp hu' with h|h
     ·exact qMU (gm p bq) h
     ·exact ih (λp hp=>gm p (bK _ hp)) h
   have hlen:(aA g).length<=1000:=by
    have e1:=congrArg aA tk
    rw [iV] at e1
    have e2:=congrArg List.length e1
    rw [aU] at e2
    have e3:=qz rows b
    rw [hu] at e3
    omega
   obtain⟨o,g1,g2,e⟩:=told (aA g) hW
   obtain⟨o9',hb⟩:=qNe (call:=call) m g hlen (zF BT) (zF CW) (zF (.int x)) (some CH) (zF CZ) (zF (.int (a:Int))) (zF (.int (b:Int))) (zT (.lst (fs.map (rD m)))) o9
   refine⟨[zF BT,zF CW,zF (.int x),some CH,zF CZ,zF (.int (a:Int)),zF (.int (b:Int)),zT (.lst (fs.map (rD m))),o8,o9],_,rfl,?_,fs++[.fork o g],zF (.int (a:Int)),zF (.int (b:Int)),zF (.lst ((aA g).map (af m))),o9',by rw [aU,h1];rfl,λp hp=>?_,?_,?_,rfl⟩
   ·refine av (true,.lst []) rfl ?_
    refine gf (hsl _ _) rfl hb ?_
    have q1:=hsl (zF (.lst ((aA g).map (af m)))) o9'
    have q2:aa call [zF BT,zF CW,zF (.int x),some CH,zF CZ,zF (.int (a:Int)),zF (.int (b:Int)),zT (.lst (fs.map (rD m))),zF (.lst ((aA g).map (af m))),o9'] (.call 32 [V8])=zF (aL m o):=e
    have q4:aa call [zF BT,zF CW,zF (.int x),some CH,zF CZ,zF (.int (a:Int)),zF (.int (b:Int)),zT (.lst (fs.map (rD m))),zF (.lst ((aA g).map (af m))),o9'] (.compS CP 1 [] (.one 0) (.sl V3 (some V5) (some V6)))=zT (.lst (g.map (ae m))):=
     iD q1 rfl rfl (f7 call _ (rD m) (ae m) g λp _=>⟨[zF (rD m p)],false,rfl,bt rfl rfl (wj m p)⟩)
    have q3:aa call [zF BT,zF CW,zF (.int x),some CH,zF CZ,zF (.int (a:Int)),zF (.int (b:Int)),zT (.lst (fs.map (rD m))),zF (.lst ((aA g).map (af m))),o9'] (.bi .tuple [(.compS CP 1 [] (.one 0) (.sl V3 (some V5) (some V6)))])=zF (.tup (g.map (ae m))):=cD (fq q4) rfl
    rw [List.map_append]
    refine iS (false,rD m (.fork o g)) ?_ rfl (iT (by rw [aw];omega)) rfl
    have er:rD m (.fork o g)=.tup [.tup [tx "fork",aL m o,.tup (g.map (ae m))],.lst ((aA g).map (af m))]:=by
     unfold rD
     rw [ae,und,uh]
    rw [er,iF,dz,iF,dz,show aa call [zF BT,zF CW,zF (.int x),some CH,zF CZ,zF (.int (a:Int)),zF (.int (b:Int)),zT (.lst (fs.map (rD m))),zF (.lst ((aA g).map (af m))),o9'] (.k (tx "fork"))=zF (tx "fork") from rfl,bN,dz,q2,bN,dz,q3,bN]
    rfl
   ·rcases yaC.mp hp with hp|hp
    ·exact h2 p hp
    ·rw [yaz.mp hp]
     constructor
     ·rw [Good]
      exact⟨⟨g1,g2⟩,zG g λp hp=>(hg0 p (gm p hp)).1⟩
     ·rw [hg]
      have:=xB g λp hp=>(hg0 p (gm p hp)).2
      omega
   ·rw [iV,h3,aA,aA,und,bR,tk,iV]
   ·rw [tV,h4,bT,bT,nd,tk,tV]
    omega)
 rw [xr _ _ hq,cM (au _)] at h3 h4
 exact⟨fs,o5',o6',o8',o9',h1,h2,by rw [h3,hu],h4,hh⟩
theorem zj {Z:En}{n q:Nat}(h:ao Z 4=zF (.lst (bh n q))):aa call Z (.sl V4 none (some (.neg (kI 1))))=zT (.lst (bx q λk=>.int (ct n q k:Nat))):=by
 rw [xo,show pk Z V4 (aa call Z V4)=(ao Z 4).bind aQ from rfl,h]
 show zT (D.lst (eT (bh n q) none (some (-1))))=_
 rw [qLl]
theorem zk {Z:En}{n q:Nat}(h:ao Z 4=zF (.lst (bh n q))):aa call Z (.sl V4 (some (kI 1)) none)=zT (.lst (bx q λk=>.int (ct n q (k+1):Nat))):=by
 rw [xo,show pk Z V4 (aa call Z V4)=(ao Z 4).bind aQ from rfl,h]
 show zT (D.lst (eT (bh n q) (some 1) none))=_
 rw [qLj]
theorem tG {tg:Tg}{a b:C}{body:List S}{x y:R}{xs ys:List D}{Z Z':En}{rest:List S}{z:Option Ou}(ha:aa call Z a=some x) (hb:aa call Z b=some y) (hx:jn x.2=some xs) (hy:ou y.2=some ys) (hf:cB call body tg (bY xs ys) Z=some (.nx Z')) (k:ak call Z' rest=z):ak call Z (.forZ tg a b body::rest)=z:=by
 rw [qMP,ha,hb]
 dsimp only
 rw [hx,hy]
 dsimp only
 rw [hf]
 exact k
theorem qPh (m:Nat) (ts:List Th) (rm x:Int) (hx:0<=x) (hl:ts.length<=60) (ok:∀u∈ts,ThW u) (told:sv call m) (cuts:qUc call rm) :
  ∃p:Tr,PpOk ([],p)/\und p=ts/\nd p<=200/\ak call [zF BT,zF CW,zF (.int x),none,none,none,none,none,none,none] f_law_tree.body=some (.rt (false,ae m p)):=by
 obtain⟨q,hq,hq2,hq3,eq⟩:=cuts ts.length x AC hx
 have hq60:q<=30∨q=1:=by
  by_cases h:2<=ts.length
  ·have:=hq2 h;omega
  ·exact .inr (hq3 AC)
 obtain⟨ls,o5,o6,l1,l2,l3,lf⟩:=qJ8 (call:=call) m ts rm x q hq hl AC ok told
 have d7:bf 7=true:=by decide
 have x7:0<=x.fdiv 7:=by rw [jC _ At];exact oa hx At
 have nd1:∀ls:List Tr,(∀p∈ls,nd p=1)->bT ls=ls.length:=λls=>by
  induction ls with
  | nil=>intro _;rw [bT];rfl
  | cons p ls ih=>intro h;rw [bT,h p bq,ih λp hp=>h p (bK _ hp),de];omega
 have r0:Rws ts ls:=⟨by omega,λp hp=>(l2 p hp).1,l3,by rw [nd1 ls λp hp=>(l2 p hp).2.2];omega,0,λp hp=>by rw [(l2 p hp).2.1];exact au _,by omega⟩
 have loop:=sX (call:=call) (c:=.cmp .gt (.bi .len [V3]) (kI 1)) (body:=A8)
  (λM Z=>∃(f3:Bool) (rows:List Tr) (o4 o5 o6 o7 o8 o9:Option R),Z=[zF BT,zF CW,zF (.int x),some CH,o4,o5,o6,o7,o8,o9]/\Rws ts rows/\rows.length=M) (by
   rintro M Z ⟨f3,rows,o4,o5,o6,o7,o8,o9,rfl,rw',hM⟩
   have hpk:∀Z':En,ao Z' 3=some (f3,D.lst (rows.map (rD m)))->aa call Z' (.bi .len [V3])=zF (.int (rows.length:Int)):=fun Z' h=>by
    refine cD (x:=.lst (rows.map (rD m))) ?_ (by rw [fK,aw])
    show (ao Z' 3).bind aQ=_
    rw [h]
    cases f3<;>rfl
   have hlen:aa call [zF BT,zF CW,zF (.int x),some CH,o4,o5,o6,o7,o8,o9] (.cmp .gt (.bi .len [V3]) (kI 1))=zF (.bl (decide ((rows.length:Int) > 1))):=bL (dN (hpk _ rfl)) rfl rfl
   by_cases h1:rows.length<=1
   ·exact .inl ⟨false,by rw [hlen,Qj AC]⟩
   ·refine .inr ⟨false,by rw [hlen,Qk AC],?_⟩
    obtain⟨h,hh,hp⟩:=rw'.high
    have r60:rows.length<=60:=aT (Nat.le_mul_of_pos_right _ (Nat.two_pow_pos h)) hp
    obtain⟨q,hq,hq2,hq3,eq⟩:=cuts rows.length (x.fdiv 7) AC x7
    have q2:=hq2 AC
    obtain⟨fs,p5,p6,p8,p9,f1,f2,f4,f5,ff⟩:=qNc (call:=call) m ts rm x rows h q f3 hq AC hl ok rw'.und (λp hp=>⟨rw'.good p hp,hh p hp⟩) told o5 o6 o8 o9
    refine⟨[zF BT,zF CW,zF (.int x),zF (.lst (fs.map (rD m))),zF CZ,p5,p6,zF (.lst (fs.map (rD m))),p8,p9],?_,fs.length,by omega,false,fs,_,_,_,_,_,_,rfl,?_,rfl⟩
    ·refine av (true,.lst []) rfl ?_
     have q4:aa call [zF BT,zF CW,zF (.int x),some CH,o4,o5,o6,zT CG,o8,o9] (.call 33 [(.bi .len [V3]),V1,(.bin .fdiv V2 (kI 7))])=zT CZ:=by
      rw [lR,iU,show ag [zF BT,zF CW,zF (.int x),some CH,o4,o5,o6,zT CG,o8,o9] (.bi .len [V3]) (aa call [zF BT,zF CW,zF (.int x),some CH,o4,o5,o6,zT CG,o8,o9] (.bi .len [V3]))=some (.int (rows.length:Int)) from by rw [hpk _ rfl];rfl]
      exact eq
     refine av _ q4 ?_
     refine tG (zj rfl) (zk rfl) rfl rfl (by rw [pY];exact ff) ?_
     rw [x6]
     exact av (false,.lst (fs.map (rD m))) rfl rfl
    ·refine⟨by omega,λp hp=>(f2 p hp).1,f4,?_,h+1,λp hp=>(f2 p hp).2,?_⟩
     ·have:=rw'.few
      omega
     ·rw [f1,Nat.pow_succ]
      have:q * (2^h * 2)=(2 * q) * 2^h:=by rw [Nat.mul_comm (2^h) 2,<-Nat.mul_assoc,Nat.mul_comm q 2]
      rw [this]
      exact aT (Nat.mul_le_mul_right _ q2) hp)
 obtain⟨M',Z',h1,⟨f3,rows,o4,o5',o6',o7,o8,o9,rfl,rw',hM⟩,z,h2⟩:=loop jy ls.length [zF BT,zF CW,zF (.int x),zT (.lst (ls.map (rD m))),zF (.lst (bh ts.length q)),o5,o6,none,none,none] (Nat.lt_of_le_of_lt (show ls.length<=100000 by omega) (bO (show 100000<2^100 by decide) (oj At At))) ⟨true,ls,_,_,_,_,_,_,rfl,r0,rfl⟩
 have hone:rows.length=1:=by
  have hlen:aa call [zF BT,zF CW,zF (.int x),some CH,o4,o5',o6',o7,o8,o9] (.cmp .gt (.bi .len [V3]) (kI 1))=zF (.bl (decide ((rows.length:Int) > 1))):=by
   refine bL (dN (r:=(false,.int (rows.length:Int))) (cD (x:=.lst (rows.map (rD m))) ?_ (by rw [fK,aw]))) rfl rfl
   show (ao [zF BT,zF CW,zF (.int x),some CH,o4,o5',o6',o7,o8,o9] 3).bind aQ=_
   cases f3<;>rfl
  rw [hlen] at h2
  injection h2 with h2
  injection h2 with _ h2
  injection h2 with h2
  have:=of_decide_eq_false h2
  have:=rw'.ne
  omega
 cases rows with
 | nil=>cases hone
 | cons p rows =>
  cases rows with
  | cons _ _=>simp at hone
  | nil =>
   have hu:und p=ts:=by have:=rw'.und;rw [aA,aA,bR] at this;exact this
   obtain⟨h,hh,hp⟩:=rw'.high
   have hgp:=hh p bq
   have h6:h<6:=by
    have e:(1:Nat) * 2^h<=60:=hp
    refine Nat.lt_of_not_le λh6=>?_
    have:=oj (show 0<2 by decide) h6
    omega
   refine⟨p,⟨rw'.good p bq,by show ([]:List Int).length+hg p<=1000;rw [mI];omega,by show hg p<=8;omega,by show (und p).length<=100;rw [hu];omega⟩,hu,?_,?_⟩
   ·have:=rw'.few
    rw [bT,bT] at this
    omega
   ·refine av (true,.lst []) rfl ?_
    have q4:aa call [zF BT,zF CW,zF (.int x),zT CG,none,none,none,none,none,none] (.call 33 [(.bi .len [V0]),V1,V2])=zT (.lst (bh ts.length q)):=by
     rw [lR,iU,show ag [zF BT,zF CW,zF (.int x),zT CG,none,none,none,none,none,none] (.bi .len [V0]) (aa call [zF BT,zF CW,zF (.int x),zT CG,none,none,none,none,none,none] (.bi .len [V0]))=some (.int (ts.length:Int)) from by rw [show aa call [zF BT,zF CW,zF (.int x),zT CG,none,none,none,none,none,none] (.bi .len [V0])=zF (.int (ts.length:Int)) from cD rfl (by rw [fK,aw])];rfl]
     exact eq
    refine av _ q4 ?_
    refine tG (zj rfl) (zk rfl) rfl rfl (by rw [pY];exact lf) ?_
    refine yi h1 ?_
    have e0:=k9 [rD m p] 0 (rD m p) rfl
    refine ay (bt (dD (r:=(false,rD m p)) (bt (x:=.lst [rD m p]) (y:=.int 0) ?_ rfl e0)) rfl (wj m p)) rfl
    show (ao [zF BT,zF CW,zF (.int x),some (f3,.lst ([p].map (rD m))),o4,o5',o6',o7,o8,o9] 3).bind aQ=_
    cases f3<;>rfl
end
end Dw.T
namespace Dw.T
open Dw PySem
def Dt (call:Nat->List D->Option R) (m:Nat) (t:Int):Prop:=∀c:Fr,call 36 [cC m c,.int t]=zT (.lst (bx m λj=>side (qA c t j)))
def Gt (call:Nat->List D->Option R) (m:Nat):Prop:=∀f g:Nat->P2,(∀j,d5 (f j))->(∀j,d5 (g j))->call 37 [.lst (bx m λj=>side (f j)),.lst (bx m λj=>side (g j))]=zF (.int (aM m f g))
def Ce (call:Nat->List D->Option R) (ns:List Int):Prop:=∀k:Nat,call 28 [.lst CC,.int (k:Int)]=zF (.int (fH ns k))
section
variable {call:Nat->List D->Option R}
theorem qR1 (m:Nat) (c:Fr) (t:Int) (ht:t.natAbs<2^64):ak call [zF (cC m c),zF (.int t)] f_law_frame_at.body=some (.rt (true,.lst (bx m λj=>side (qA c t j)))):=by
 have l2:2<=lim:=cA At
 refine ay (r:=(true,.lst (bx m λj=>side (qA c t j)))) (iD (r:=(false,cC m c)) (its:=bx m λj=>q4 (c j)) (Z':=[none,zF (.int t)]) rfl rfl rfl (tY (λj=>q4 (c j)) (λj=>side (qA c t j)) λj hj=>⟨false,?_⟩)) rfl
 have m1:=kT (c j).2.2.1 t ht
 have m2:=kT (c j).2.2.2 t ht
 simp only [lu,iG,jx,aV,fF,pk,ao,bD,bu,bw,aQ,bF,bg,bC,u9,u7,uZ,Bn,lE,m1,m2,↓reduceIte,iH,i6,i4,Nat.reduceAdd,l2]
 rfl
theorem qPk (m:Nat) (f g:Nat->P2) (hf:∀j,d5 (f j)) (hg:∀j,d5 (g j)):ak call [zF (.lst (bx m λj=>side (f j))),zF (.lst (bx m λj=>side (g j))),none,none,none,none] f_law_gap.body=some (.rt (false,.int (aM m f g))):=by
 obtain⟨Z',h,o3,o4,o5,rfl⟩:=lN (call:=call) (tg:=.two 3 4) (body:=AM)
  (λk Z=>∃(o3 o4 o5:Option R),Z=[zF (.lst (bx m λj=>side (f j))),zF (.lst (bx m λj=>side (g j))),zF (.int (aM k f g)),o3,o4,o5]) m (λj=>.tup [side (f j),side (g j)])
  [zF (.lst (bx m λj=>side (f j))),zF (.lst (bx m λj=>side (g j))),zF (.int 0),none,none,none] ⟨none,none,none,rfl⟩ (by
   rintro k Z hk ⟨o3,o4,o5,rfl⟩
   have hb:=xc (hf k) (hg k)
   have m1:=rY (gp (f k) (g k)) (gp (f k) (g k)) AC AC
   have e:aM (k+1) f g=aM k f g+gp (f k) (g k) * gp (f k) (g k):=by unfold aM;rw [List.range_succ,List.map_append,List.sum_append];simp
   refine⟨[zF (.lst (bx m λj=>side (f j))),zF (.lst (bx m λj=>side (g j))),zF (.int (aM k f g)),zF (side (f k)),zF (side (g k)),o5],_,rfl,?_,zF (side (f k)),zF (side (g k)),zF (.int (gp (f k) (g k))),rfl⟩
   rw [e]
   refine av (false,.int (gp (f k) (g k))) (by simp only [fY,fb,pk,bF,bg,aV,fF,ao,bD,bu,bw,aQ,xF,bC,xG,lP,gI,zV];rfl) ?_
   exact av (false,.int (aM k f g+gp (f k) (g k) * gp (f k) (g k))) (by simp only [eI,gQ,gR,gS,aV,pk,ao,bD,bu,bw,aQ,bC,bg,lE,m1,↓reduceIte,iH]) rfl)
 refine av (false,.int 0) rfl ?_
 refine tG (x:=(false,.lst (bx m λj=>side (f j)))) (y:=(false,.lst (bx m λj=>side (g j)))) rfl rfl rfl rfl (by rw [pY];exact h) ?_
 exact ay rfl rfl
theorem qPr (c:Int):∃t:Int,(0<=t/\t<=10^15)/\ak call [zF (.int c)] f_law_beat.body=some (.rt (false,.int t)):=by
 have d3:bf 3=true:=by decide
 have d20:bf 20=true:=by decide
 have p15:hJ 10 15=true:=by decide
 have dd:bf (10^(15:Int).toNat+1)=true:=by decide
 have x0:=dW c 3 At
 have b1:=dW (c.fdiv 3) 20 At
 have b2:=dW (c.fdiv 3) (10^(15:Int).toNat+1) At
 have e0:aa call [zF (.int c)] (.cmp .eq (.bin .mod V0 (kI 3)) (kI 0))=zF (.bl (c.fmod 3 == 0)):=by simp only [iC,aV,pk,ao,bD,bu,bw,aQ,bF,bg,bC,cz,d3,↓reduceIte,j9];rfl
 have e1:aa call [zF (.int c)] (.cmp .eq (.bin .mod V0 (kI 3)) (kI 1))=zF (.bl (c.fmod 3 == 1)):=by simp only [iC,aV,pk,ao,bD,bu,bw,aQ,bF,bg,bC,cz,d3,↓reduceIte,j9];rfl
 rcases lU x0 with e|e|e<;>rw [e] at e0 e1
 ·exact⟨0,by decide,cV e0 (ay rfl rfl) rfl⟩
 ·exact⟨(c.fdiv 3).fmod 20,by omega,aX e0 (cV e1 (ay (by simp only [fi,aV,pk,ao,bD,bu,bw,aQ,bF,bg,bC,dO,cz,d3,d20,↓reduceIte]) rfl) rfl)⟩
 ·exact⟨(c.fdiv 3).fmod (10^(15:Int).toNat+1),⟨b2.1,Int.le_of_lt_add_one b2.2⟩,aX e0 (aX e1 (ay (by simp only [fi,aV,pk,ao,bD,bu,bw,aQ,bF,bg,bC,dO,cz,jw,p15,iH,d3,dd,↓reduceIte]) rfl))⟩
theorem qPl (m:Nat) (t:Int) (ht:0<=t/\t<=10^15) (ns:List Int) (A B:List Th) (hA:∀u∈A,ThW u) (hB:∀u∈B,ThW u) (lA:A.length<=100) (lB:B.length<=100) (ce:Ce call ns) (dt:Dt call m t) (gt:Gt call m) :
  ∃far:Int,ak call [zF C8,zF CK,zF CN,zF (.int t),none,none,none,none] f_law_far.body=some (.rt (false,.int far)):=by
 have c5:=ce 5
 generalize fH ns 5=c at c5
 have d4:bf 4=true:=by decide
 have d8:bf 8=true:=by decide
 have d31:bf 31=true:=by decide
 have d2:bf 2=true:=by decide
 have d300:bf 300=true:=by decide
 have p62:hJ 10 62=true:=by decide
 have d62:bf (10^(62:Int).toNat+1)=true:=by decide
 have s0:∀z,ak call [zF C8,zF CK,zF CN,zF (.int t),zF (.int c),none,none,none] (f_law_far.body.drop 1)=z->ak call [zF C8,zF CK,zF CN,zF (.int t),none,none,none,none] f_law_far.body=z:=λz hz=>av (false,.int c) c5 hz
 have e0:aa call [zF C8,zF CK,zF CN,zF (.int t),zF (.int c),none,none,none] (.cmp .eq (.bin .mod V4 (kI 4)) (kI 0))=zF (.bl (c.fmod 4 == 0)):=by simp only [iC,aV,pk,ao,bD,bu,bw,aQ,bF,bg,bC,cz,d4,↓reduceIte,j9];rfl
 have e1:aa call [zF C8,zF CK,zF CN,zF (.int t),zF (.int c),none,none,none] (.cmp .eq (.bin .mod V4 (kI 4)) (kI 1))=zF (.bl (c.fmod 4 == 1)):=by simp only [iC,aV,pk,ao,bD,bu,bw,aQ,bF,bg,bC,cz,d4,↓reduceIte,j9];rfl
 have la:aa call [zF C8,zF CK,zF CN,zF (.int t),zF (.int c),none,none,none] (.cmp .eq (.bi .len [V1]) (kI 0))=zF (.bl ((A.length:Int) == 0)):=bL (dN (r:=(false,.int (A.length:Int))) (cD rfl (by rw [fK,aw]))) rfl rfl
 have lb:aa call [zF C8,zF CK,zF CN,zF (.int t),zF (.int c),none,none,none] (.cmp .eq (.bi .len [V2]) (kI 0))=zF (.bl ((B.length:Int) == 0)):=bL (dN (r:=(false,.int (B.length:Int))) (cD rfl (by rw [fK,aw]))) rfl rfl
 have or3:aa call [zF C8,zF CK,zF CN,zF (.int t),zF (.int c),none,none,none] (.or (.cmp .eq (.bin .mod V4 (kI 4)) (kI 1)) (.or (.cmp .eq (.bi .len [V1]) (kI 0)) (.cmp .eq (.bi .len [V2]) (kI 0))))=zF (.bl ((c.fmod 4 == 1)||((A.length:Int) == 0||(B.length:Int) == 0))):=by
  rw [pK,e1]
  cases c.fmod 4 == 1 with
  | true=>rfl
  | false =>
   show aa call _ (.or (.cmp .eq (.bi .len [V1]) (kI 0)) (.cmp .eq (.bi .len [V2]) (kI 0)))=_
   rw [pK,la]
   cases (A.length:Int) == 0 with
   | true=>rfl
   | false=>exact lb
 cases h0:(c.fmod 4 == 0) with
 | true =>
  rw [h0] at e0
  exact⟨_,s0 _ (cV e0 (ay (r:=(false,.int ((c.fdiv 4).fmod 300))) (by simp only [fi,aV,pk,ao,bD,bu,bw,aQ,bF,bg,bC,dO,cz,d4,d300,↓reduceIte]) rfl) rfl)⟩
 | false =>
  rw [h0] at e0
  cases h1:((c.fmod 4 == 1)||((A.length:Int) == 0||(B.length:Int) == 0)) with
  | true =>
   rw [h1] at or3
   exact⟨_,s0 _ (aX e0 (cV or3 (ay (r:=(false,.int ((c.fdiv 4).fmod (10^(62:Int).toNat+1)))) (by simp only [fi,aV,pk,ao,bD,bu,bw,aQ,bF,bg,bC,dO,cz,jw,p62,iH,d4,d62,↓reduceIte]) rfl) rfl))⟩
  | false =>
   rw [h1] at or3
   rw [Bool.or_eq_false_iff,Bool.or_eq_false_iff] at h1
   have nA:A.length≠0:=λh=>by have:=h1.2.1;rw [h] at this;cases this
   have nB:B.length≠0:=λh=>by have:=h1.2.2;rw [h] at this;cases this
   have dA:bf (A.length:Int)=true:=jQ _ AC AC
   have dB:bf (B.length:Int)=true:=jQ _ AC AC
   have bA:=dW (c.fdiv 8) (A.length:Int) AC
   have bB:=dW (c.fdiv 31) (B.length:Int) AC
   obtain⟨i,ei⟩:∃i:Nat,(c.fdiv 8).fmod (A.length:Int)=(i:Int):=⟨((c.fdiv 8).fmod (A.length:Int)).toNat,by omega⟩
   obtain⟨j,ej⟩:∃j:Nat,(c.fdiv 31).fmod (B.length:Int)=(j:Int):=⟨((c.fdiv 31).fmod (B.length:Int)).toNat,by omega⟩
   have hi:i<A.length:=by omega
   have hj:j<B.length:=by omega
   have gi:=k9 (A.map (af m)) i (af m A[i]) (by rw [bU,cN hi];rfl)
   have gj:=k9 (B.map (af m)) j (af m B[j]) (by rw [bU,cN hj];rfl)
   have oki:=hA A[i] (i8 hi)
   have okj:=hB B[j] (i8 hj)
   generalize A[i]=a at gi oki
   generalize B[j]=b at gj okj
   have lenA:cZ .len [.lst (A.map (af m))]=zF (.int (A.length:Int)):=by rw [fK,aw]
   have lenB:cZ .len [.lst (B.map (af m))]=zF (.int (B.length:Int)):=by rw [fK,aw]
   have f1:=dt a.sw
   have f2:=dt b.sw
   have f3:=gt (qA a.sw t) (qA b.sw t) (fE oki.ok ht) (fE okj.ok ht)
   refine⟨max 0 (aM m (qA a.sw t) (qA b.sw t) - (c.fdiv 4).fmod 2),s0 _ (aX e0 (aX or3 ?_))⟩
   refine av (false,af m a) (by simp only [fF,aV,fY,fb,gI,pk,ao,bD,bu,bw,aQ,bF,bg,bC,dO,d8,↓reduceIte,lenA,cz,dA,ei,gi]) ?_
   refine av (false,af m b) (by simp only [eI,gQ,gR,gS,fF,aV,fY,fb,gI,pk,ao,bD,bu,bw,aQ,bF,bg,bC,dO,d31,↓reduceIte,lenB,cz,dB,ej,gj]) ?_
   have q1:aa call [zF C8,zF CK,zF CN,zF (.int t),zF (.int c),zF (af m a),zF (af m b),none] (.call 36 [(.ix V5 (kI 1)),V3])=zT CY:=f1
   have q2:aa call [zF C8,zF CK,zF CN,zF (.int t),zF (.int c),zF (af m a),zF (af m b),none] (.call 36 [(.ix V6 (kI 1)),V3])=zT (.lst (bx m λj=>side (qA b.sw t j))):=f2
   refine av (false,.int (aM m (qA a.sw t) (qA b.sw t))) (eL (eJ q1) (eJ q2) f3) ?_
   exact ay (by simp only [fi,eI,gQ,gR,gS,fY,fb,gI,aV,pk,ao,bD,bu,bw,aQ,bF,bg,bC,dO,d4,d2,↓reduceIte,cz,lP,tL]) rfl
end
end Dw.T
namespace Dw.T
open Dw PySem
section
variable {call:Nat->List D->Option R}
theorem fm {Z:En}{o:BOp}{a b:C}{x y:D}{r:Option R}(ha:pk Z a CM=some x) (hb:pk Z b (aa call Z b)=some y) (h:gC o x y=r):aa call Z (.bin o a b)=r:=by
 rw [aV,ha,hb]
 exact h
theorem An (a:Int):ak call [zF (.int a),zF (.int a),none] f_law_alike.body=some (.rt (false,.bl true)):=by
 refine aX (x:=false) rfl (aX (x:=false) rfl (aX (x:=false) rfl (ay ?_ rfl)))
 refine mZ (x:=false) rfl (mZ (x:=false) rfl ?_)
 refine bL rfl rfl ?_
 show zF (D.bl (a == a))=_
 rw [beq_self_eq_true]
theorem qx (xs:List D) (hl:xs.length<=10000) (h:∀d∈xs,call 29 [d,d]=zF (.bl true)):ak call [zF Ci,zF Ci,none] f_law_alike.body=some (.rt (false,.bl true)):=by
 refine cV (x:=false) rfl ?_ rfl
 have e0:aa call [zF Ci,zF Ci,none] (.or (.not (.isi V0 .tuple)) (.cmp .ne (.bi .len [V0]) (.bi .len [V1])))=zF (.bl false):=by
  show aa call [zF Ci,zF Ci,none] (.cmp .ne (.bi .len [V0]) (.bi .len [V1]))=_
  have q:∀i,ao [zF Ci,zF Ci,none] i=zF Ci->aa call [zF Ci,zF Ci,none] (.bi .len [.v i])=zF (.int (xs.length:Int)):=λi hi=>cD (x:=.tup xs) (by show (ao _ i).bind aQ=_;rw [hi];rfl) rfl
  refine bL (dN (q 0 rfl)) (dN (q 1 rfl)) ?_
  rw [qJ]
  simp
 refine aX e0 ?_
 obtain⟨Z',hh,o2,rfl⟩:=lN (call:=call) (tg:=.one 2) (body:=AX) (λk Z=>∃o2:Option R,Z=[zF Ci,zF Ci,o2]) xs.length (λi=>.int (i:Nat)) [zF Ci,zF Ci,none] ⟨none,rfl⟩ (by
  rintro k Z hk ⟨o2,rfl⟩
  have e:=kZ xs k xs[k] (cN hk)
  have c:=h xs[k] (i8 hk)
  generalize xs[k]=d at e c
  refine⟨[zF Ci,zF Ci,zF (.int (k:Int))],_,rfl,?_,zF (.int (k:Int)),rfl⟩
  have q0:aa call [zF Ci,zF Ci,zF (.int (k:Int))] (.ix V0 V2)=zF d:=bt rfl rfl e
  have q1:aa call [zF Ci,zF Ci,zF (.int (k:Int))] (.ix V1 V2)=zF d:=bt rfl rfl e
  have q2:aa call [zF Ci,zF Ci,zF (.int (k:Int))] (.call 29 [(.ix V0 V2),(.ix V1 V2)])=zF (.bl true):=eL (by rw [q0];rfl) (by rw [q1];rfl) c
  refine aX (x:=false) ?_ rfl
  rw [x5,q2]
  rfl)
 refine tF (ds:=[.int (xs.length:Int)]) rfl (lj hl) hh ?_
 exact ay rfl rfl
def xl (m:Nat) (A B:List Th):D:=.lst [.lst (A.map (af m)),.lst (B.map (af m))]
def su (A B:List Th):Prop:=A.length<=60/\B.length<=60/\(∀u∈A,ThW u)/\∀u∈B,ThW u
theorem AL (m cut:Nat) (rs:En) (e:C) (hc:cut<=60) (h:∀k:Nat,k<cut->∃u:Th,ThW u/\aa call (zF (.int (k:Int))::rs) e=zF (af m u)) :
  ∃A:List Th,A.length=cut/\(∀u∈A,ThW u)/\cK call e (none::rs) (.one 0) ((List.range cut).map λi=>.int (i:Nat))=some (A.map (af m)):=by
 obtain⟨f,hf⟩:=Classical.axiomOfChoice (r:=λ(k:Nat) (u:Th)=>k<cut->(ThW u/\aa call (zF (.int (k:Int))::rs) e=zF (af m u))) λk=>by
  by_cases hk:k<cut
  ·obtain⟨u,hu⟩:=h k hk
   exact⟨u,λ_=>hu⟩
  ·exact⟨⟨0,λ_=>(0,0,0,0),0,0⟩,λz=>Qn z hk⟩
 refine⟨(List.range cut).map f,by rw [aw,List.length_range],λu hu=>?_,?_⟩
 ·obtain⟨k,hk,rfl⟩:=yaO.mp hu
  exact (hf k (List.mem_range.mp hk)).1
 ·rw [List.map_map]
  exact z9 (r:=rs) (λk=>af m (f k)) λj hj=>⟨false,(hf j hj).2⟩
theorem qPj (ns:List Int) (hn:ns.length<=63) (m:Nat) (hm:m<=3) (w:Int) (hw:0<=w) (ce:Ce call ns)
  (C31:∀(c:Int) (k:Nat) (b:Int),k<=100->(0<=b/\b<=10^14)->∃u:Th,ThW u/\call 31 [.int c,.int (k:Int),.int (m:Int),.int w,.int b]=zF (af m u)) :
  ∃A B:List Th,su A B/\ak call [zF C8,zF CJ,zF (.int w),none,none,none,none,none,none] f_law_two_rows.body=some (.rt (true,xl m A B)):=by
 have c2:=ce 2
 have c4:=ce 4
 generalize fH ns 2=x2 at c2
 generalize fH ns 4=x4 at c4
 have d12:bf 12=true:=by decide
 have d4:bf 4=true:=by decide
 have d3:bf 3=true:=by decide
 have d2:bf 2=true:=by decide
 have d1000:bf 1000=true:=by decide
 have p14:hJ 10 14=true:=by decide
 have d14:bf (10^(14:Int).toNat)=true:=by decide
 have l2:2<=lim:=cA At
 have bb:=dW (x2.fdiv 12) (10^(14:Int).toNat) At
 obtain⟨b,hb,eb⟩:∃b:Int,(0<=b/\b<=10^14)/\(x2.fdiv 12).fmod (10^(14:Int).toNat)=b:=⟨_,⟨bb.1,Int.le_of_lt bb.2⟩,rfl⟩
 have b2:=dW (b+1+x4.fmod 1000) (10^(14:Int).toNat) At
 have hcut:=qLk ns 6 66 At
 generalize hcs:(ns.drop 6).take (66 - 6)=cs at hcut
 have lcs:cs.length<=57:=by rw [<-hcs,eQ,ik];omega
 obtain⟨b',hb',eb'⟩:∃b':Int,(0<=b'/\b'<=10^14)/\∀z,ak call [zF (.lst (ns.map .int)),zF (.int (m:Int)),zF (.int w),zF (.lst (cs.map .int)),zF (.int b),zF (.lst [.int b,.int b']),none,none,none] (f_law_two_rows.body.drop 4)=z->ak call [zF (.lst (ns.map .int)),zF (.int (m:Int)),zF (.int w),none,none,none,none,none,none] f_law_two_rows.body=z:=by
  have st:∀z,ak call [zF C8,zF CJ,zF (.int w),zF CS,zF (.int b),zF (.lst [.int b,.int b]),none,none,none] (f_law_two_rows.body.drop 3)=z->ak call [zF C8,zF CJ,zF (.int w),none,none,none,none,none,none] f_law_two_rows.body=z:=λz hz=>by
   refine av (true,.lst (cs.map .int)) (by rw [<-hcut];rfl) ?_
   have q:aa call [zF C8,zF CJ,zF (.int w),zF CS,none,none,none,none,none] (.call 28 [V0,(kI 2)])=zF (.int x2):=c2
   refine av (false,.int b) (fm (fq (r:=(false,.int (x2.fdiv 12))) (fm (eM q) rfl (by rw [dO,Ql d12]))) (fq (r:=(false,.int (10^(14:Int).toNat))) (fm rfl rfl (by rw [jw,Ql p14]))) (by rw [cz,Ql d14,eb])) (av (true,.lst [.int b,.int b]) rfl hz)
  have q:aa call [zF C8,zF CJ,zF (.int w),zF CS,zF (.int b),zF (.lst [.int b,.int b]),none,none,none] (.call 28 [V0,(kI 2)])=zF (.int x2):=c2
  have q':aa call [zF C8,zF CJ,zF (.int w),zF CS,zF (.int b),zF (.lst [.int b,.int b]),none,none,none] (.call 28 [V0,(kI 4)])=zF (.int x4):=c4
  have e0:aa call [zF C8,zF CJ,zF (.int w),zF CS,zF (.int b),zF (.lst [.int b,.int b]),none,none,none] (.cmp .eq (.bin .mod (.bin .fdiv (.call 28 [V0,(kI 2)]) (kI 4)) (kI 3)) (kI 1))=zF (.bl ((x2.fdiv 4).fmod 3 == 1)):=by
   rw [iC,aV,aV,eM q]
   simp only [pk,bF,bg,dO,d4,↓reduceIte,cz,d3,j9]
   rfl
  cases h1:((x2.fdiv 4).fmod 3 == 1) with
  | true =>
   rw [h1] at e0
   refine⟨(b+1+x4.fmod 1000).fmod (10^(14:Int).toNat),⟨b2.1,Int.le_of_lt b2.2⟩,λz hz=>st z (iq e0 (av (true,.lst [.int b,.int ((b+1+x4.fmod 1000).fmod (10^(14:Int).toNat))]) ?_ rfl) hz)⟩
   have q3:aa call [zF C8,zF CJ,zF (.int w),zF CS,zF (.int b),zF (.lst [.int b,.int b]),none,none,none] (.bin .mod (.call 28 [V0,(kI 4)]) (kI 1000))=zF (.int (x4.fmod 1000)):=by
    rw [aV,eM q']
    simp only [pk,bF,bg,cz,d1000,↓reduceIte]
   have q4:aa call [zF C8,zF CJ,zF (.int w),zF CS,zF (.int b),zF (.lst [.int b,.int b]),none,none,none] (.bin .add (.bin .add V4 (kI 1)) (.bin .mod (.call 28 [V0,(kI 4)]) (kI 1000)))=zF (.int (b+1+x4.fmod 1000)):=by
    rw [aV,fq (r:=(false,.int (b+1))) rfl,fq q3]
    rfl
   have q5:aa call [zF C8,zF CJ,zF (.int w),zF CS,zF (.int b),zF (.lst [.int b,.int b]),none,none,none] (.bin .mod (.bin .add (.bin .add V4 (kI 1)) (.bin .mod (.call 28 [V0,(kI 4)]) (kI 1000))) (.bin .pow (kI 10) (kI 14)))=zF (.int ((b+1+x4.fmod 1000).fmod (10^(14:Int).toNat))):=by
    rw [aV,fq q4]
    simp only [pk,aV,bF,bg,jw,p14,↓reduceIte,cz,d14]
   rw [sV,iG,iG,q5]
   rfl
  | false =>
   rw [h1] at e0
   exact⟨b,hb,λz hz=>st z (aX e0 hz)⟩
 obtain⟨cut,hcl,ec⟩:∃cut:Nat,cut<=cs.length/\∀z,ak call [zF (.lst (ns.map .int)),zF (.int (m:Int)),zF (.int w),zF (.lst (cs.map .int)),zF (.int b),zF (.lst [.int b,.int b']),zF (.int (cut:Int)),none,none] (f_law_two_rows.body.drop 6)=z->ak call [zF (.lst (ns.map .int)),zF (.int (m:Int)),zF (.int w),none,none,none,none,none,none] f_law_two_rows.body=z:=by
  have hlen:∀Z:En,ao Z 3=zF CS->aa call Z (.bi .len [V3])=zF (.int (cs.length:Int)):=fun Z h=>cD (x:=.lst (cs.map .int)) (by show (ao Z 3).bind aQ=_;rw [h];rfl) (by rw [fK,aw])
  have h2:((cs.length:Int)).fdiv 2=((cs.length / 2:Nat):Int):=by rw [jC _ At];omega
  have st:∀z,ak call [zF C8,zF CJ,zF (.int w),zF CS,zF (.int b),zF (.lst [.int b,.int b']),zF (.int ((cs.length / 2:Nat):Int)),none,none] (f_law_two_rows.body.drop 5)=z->ak call [zF C8,zF CJ,zF (.int w),none,none,none,none,none,none] f_law_two_rows.body=z:=λz hz=>eb' z (av (false,.int ((cs.length / 2:Nat):Int)) (by
   rw [aV,dN (hlen _ rfl)]
   simp only [pk,bF,bg,dO,d2,↓reduceIte,h2]) hz)
  have q':aa call [zF C8,zF CJ,zF (.int w),zF CS,zF (.int b),zF (.lst [.int b,.int b']),zF (.int ((cs.length / 2:Nat):Int)),none,none] (.call 28 [V0,(kI 4)])=zF (.int x4):=c4
  have e0:aa call [zF C8,zF CJ,zF (.int w),zF CS,zF (.int b),zF (.lst [.int b,.int b']),zF (.int ((cs.length / 2:Nat):Int)),none,none] (.cmp .eq (.bin .mod (.call 28 [V0,(kI 4)]) (kI 4)) (kI 1))=zF (.bl (x4.fmod 4 == 1)):=by
   rw [iC,aV,eM q']
   simp only [pk,bF,bg,↓reduceIte,cz,d4,j9]
   rfl
  cases h1:(x4.fmod 4 == 1) with
  | true =>
   rw [h1] at e0
   have b3:=dW (x4.fdiv 4) ((cs.length:Int)+1) AC
   have dl:bf ((cs.length:Int)+1)=true:=jQ _ AC AC
   obtain⟨j,ej⟩:∃j:Nat,(x4.fdiv 4).fmod ((cs.length:Int)+1)=(j:Int):=⟨((x4.fdiv 4).fmod ((cs.length:Int)+1)).toNat,by omega⟩
   refine⟨j,by omega,λz hz=>st z (iq e0 (av (false,.int (j:Int)) ?_ rfl) hz)⟩
   rw [aV,fq (r:=(false,.int (x4.fdiv 4))) (by rw [aV,eM q'];simp only [pk,bF,bg,dO,d4,↓reduceIte]),fq (r:=(false,.int ((cs.length:Int)+1))) (by rw [aV,dN (hlen _ rfl)];rfl)]
   simp only [cz,dl,↓reduceIte,ej]
  | false =>
   rw [h1] at e0
   exact⟨cs.length / 2,by omega,λz hz=>st z (aX e0 hz)⟩
 have gcs:∀k:Nat,(h:k<cs.length)->bH CS (.int (k:Int))=zF (.int cs[k]):=λk h=>k9 _ k _ (by rw [bU,cN h];rfl)
 obtain⟨A,lA,hA,eA⟩:=AL (call:=call) m cut [zF (.lst [.int b,.int b']),zF CS,zF CJ,zF (.int w)] (.call 31 [(.ix V2 V0),V0,V3,V4,(.ix V1 (kI 0))]) AC (λk hk=>by
  obtain⟨u,hu,e⟩:=C31 (cs[k]'(by omega)) k b AC hb
  refine⟨u,hu,?_⟩
  have g:=gcs k AC
  simp only [zg,zh,yN,ag,qP,fF,pk,ao,bD,bu,bw,aQ,bF,bg,bC,g,pJ,qSE]
  exact e)
 obtain⟨B,lB,hB,eB⟩:=AL (call:=call) m (cs.length - cut) [zF (.lst [.int b,.int b']),zF CS,zF (.int (cut:Int)),zF CJ,zF (.int w)] (.call 31 [(.ix V2 (.bin .add V3 V0)),V0,V4,V5,(.ix V1 (kI 1))]) AC (λk hk=>by
  obtain⟨u,hu,e⟩:=C31 (cs[cut+k]'(by omega)) k b' AC hb'
  refine⟨u,hu,?_⟩
  have g:=gcs (cut+k) AC
  rw [show ((cut+k:Nat):Int)=(cut:Int)+(k:Int) from Int.natCast_add _ _] at g
  simp only [zg,zh,yN,ag,qP,fF,aV,iH,pk,ao,bD,bu,bw,aQ,bF,bg,bC,g,pJ,qSD]
  exact e)
 have qA:aa call [zF C8,zF CJ,zF (.int w),zF CS,zF (.int b),zF (.lst [.int b,.int b']),zF (.int (cut:Int)),none,none] (.compR (.call 31 [(.ix V2 V0),V0,V3,V4,(.ix V1 (kI 0))]) 1 [5,3,1,2] (.one 0) [V6])=zT CK:=
  qc (ds:=[.int (cut:Int)]) rfl (lj AC) (by rw [aw,List.length_range];exact cA AC) rfl eA
 have qB:aa call [zF C8,zF CJ,zF (.int w),zF CS,zF (.int b),zF (.lst [.int b,.int b']),zF (.int (cut:Int)),zF CK,none] (.compR (.call 31 [(.ix V2 (.bin .add V3 V0)),V0,V4,V5,(.ix V1 (kI 1))]) 1 [5,3,6,1,2] (.one 0) [(.bin .sub (.bi .len [V3]) V6)])=zT CN:=by
  refine qc (ds:=[.int ((cs.length - cut:Nat):Int)]) ?_ (lj AC) (by rw [aw,List.length_range];exact cA AC) rfl eB
  rw [fb,fq (r:=(false,.int ((cs.length - cut:Nat):Int)))]
  ·rfl
  ·rw [aV,dN (r:=(false,.int (cs.length:Int))) (cD rfl (by rw [fK,aw]))]
   show zF (D.int ((cs.length:Int) - (cut:Int)))=_
   rw [Int.ofNat_sub hcl]
 have q:aa call [zF C8,zF CJ,zF (.int w),zF CS,zF (.int b),zF (.lst [.int b,.int b']),zF (.int (cut:Int)),zF CK,zF CN] (.call 28 [V0,(kI 2)])=zF (.int x2):=c2
 have e0:aa call [zF C8,zF CJ,zF (.int w),zF CS,zF (.int b),zF (.lst [.int b,.int b']),zF (.int (cut:Int)),zF CK,zF CN] (.cmp .eq (.bin .mod (.bin .fdiv (.call 28 [V0,(kI 2)]) (kI 4)) (kI 3)) (kI 2))=zF (.bl ((x2.fdiv 4).fmod 3 == 2)):=by
  rw [iC,aV,aV,eM q]
  simp only [pk,bF,bg,dO,d4,↓reduceIte,cz,d3,j9]
  rfl
 cases h1:((x2.fdiv 4).fmod 3 == 2) with
 | true =>
  rw [h1] at e0
  exact⟨A,A,⟨by omega,by omega,hA,hA⟩,ec _ (av _ qA (av _ qB (iq e0 (av (false,.lst (A.map (af m))) rfl rfl) (ay rfl rfl))))⟩
 | false =>
  rw [h1] at e0
  exact⟨A,B,⟨by omega,by omega,hA,hB⟩,ec _ (av _ qA (av _ qB (aX e0 (ay rfl rfl))))⟩
end
end Dw.T
namespace Dw.T
open Dw PySem
def aG (m:Nat) (x:Pl):D:=.tup [ae m x.1.2,aJ x.1.1,ae m x.2.2,aJ x.2.1]
def gk (m:Nat) (y:Pp):D:=.tup [ae m y.2,aJ y.1]
def dJ (m:Nat) (t far:Int) (A B:List Th):List (Int×Int):=A.flatMap λa=>(B.filter λb=>near m t far a b).map λb=>(a.hd,b.hd)
noncomputable def eD (m:Nat) (t far:Int) (A B:List Th):List (Int×Int):=A.flatMap λa=>(B.filter λb=>!near m t far a b).map λb=>(a.hd,b.hd)
theorem qKI (m:Nat) (t far:Int) (A B:List Th):(dJ m t far A B).filter (λr=>decide (r.1≠r.2))=due m t far A B:=by
 induction A with
 | nil=>rfl
 | cons a A ih =>
  show ((B.filter λb=>near m t far a b).map (λb=>(a.hd,b.hd))++dJ m t far A B).filter _=dU m t far a B++due m t far A B
  rw [mw,ih]
  congr 1
  unfold dU
  rw [List.filter_map,List.filter_filter]
  congr 1
  refine List.filter_congr λb _=>?_
  show (decide (a.hd≠b.hd)&&near m t far a b)=(decide (b.hd≠a.hd)&&near m t far a b)
  congr 1
  by_cases h:a.hd=b.hd<;>simp [h,eq_comm]
theorem qIL (m:Nat) (t far:Int) (ht:0<=t) {a b:Option To}{A B:List Th}(ha:GO a A) (hb:GO b B):(word m t far a b=Qa "apart"->dJ m t far A B=[])/\(word m t far a b=Qa "whole"->eD m t far A B=[]):=by
 cases a with
 | none =>
  have ha:A=[]:=ha
  subst ha
  exact⟨λ_=>rfl,λ_=>rfl⟩
 | some a =>
  cases b with
  | none =>
   have hb:B=[]:=hb
   subst hb
   exact⟨λ_=>List.flatMap_eq_nil_iff.mpr λ_ _=>rfl,λ_=>List.flatMap_eq_nil_iff.mpr λ_ _=>rfl⟩
  | some b =>
   have ew:word m t far (some a) (some b)=if aM m (qA a.cov t) (qA b.cov t) > far then Qa "apart" else if aM m (qA a.hrt t) (qA b.hrt t)<=far then Qa "whole" else Qa "open":=rfl
   constructor
   ·intro h
    have hg:aM m (qA a.cov t) (qA b.cov t) > far:=by
     rw [ew] at h
     split at h
     ·assumption
     ·split at h
      ·exact Qn h At
      ·exact Qn h At
    refine List.flatMap_eq_nil_iff.mpr λu hu=>?_
    rw [List.map_eq_nil_iff,rn]
    intro v hv
    have:=pN m (c:=qA a.cov t) (b:=qA u.sw t) (c':=qA b.cov t) (b':=qA v.sw t) (λj=>iP ht (ha.2.2 u hu j).1) λj=>iP ht (hb.2.2 v hv j).1
    unfold near
    rw [Qj (show ¬aM m (qA u.sw t) (qA v.sw t)<=far by omega)]
    exact fA
   ·intro h
    have hg:aM m (qA a.hrt t) (qA b.hrt t)<=far:=by
     rw [ew] at h
     split at h
     ·exact Qn h At
     ·split at h
      ·assumption
      ·exact Qn h At
    refine List.flatMap_eq_nil_iff.mpr λu hu=>?_
    rw [List.map_eq_nil_iff,rn]
    intro v hv
    have:=pN m (c:=qA u.sw t) (b:=qA a.hrt t) (c':=qA v.sw t) (b':=qA b.hrt t) (λj=>iP ht (ha.2.2 u hu j).2) λj=>iP ht (hb.2.2 v hv j).2
    unfold near
    rw [Qk (show aM m (qA u.sw t) (qA v.sw t)<=far by omega)]
    exact fA
theorem qQ6 (m:Nat) (t far:Int) (ht:0<=t) (x:Pl) (h1:Good x.1.2) (h2:Good x.2.2):aS m t far CO=if W m t far x=Qa "open"/\¬(ax x.1.2=true/\ax x.2.2=true) then [] else fk m t far x:=by
 unfold aS
 dsimp only
 rcases tJ m t far (tl x.1.2) (tl x.2.2) with e|e|e
 ·have e':W m t far x=Qa "apart":=e
  have e2:¬W m t far x=Qa "open":=by rw [e'];decide
  rw [Qm (by rw [e'];decide),Qm (λz=>e2 z.1),Qm (λz=>e2 z.1)]
  exact (AN m t far ht h1.o h2.o e).symm
 ·have e':W m t far x=Qa "whole":=e
  rw [Ql e',Qm (λz=>Qn z.1 (by rw [e'];decide))]
  exact (AO m t far ht h1.o h2.o e).symm
 ·have e':W m t far x=Qa "open":=e
  rw [Qm (by rw [e'];decide)]
  by_cases hl:ax x.1.2=true/\ax x.2.2=true
  ·rw [Ql ⟨e',hl⟩,Qm (λz=>z.2 hl)]
  ·rw [Qm (λz=>hl z.2),Ql ⟨e',hl⟩]
section
variable {call:Nat->List D->Option R}
theorem tE {is:List Nat}{e:C}{b:Bool}{ds:List D}{Z Z':En}{rest:List S}{z:Option Ou}(h:aa call Z e=some (b,.lst ds)∨aa call Z e=some (b,.tup ds)) (hs:fJ Z is ds=some Z') (k:ak call Z' rest=z):ak call Z (.asgL is e::rest)=z:=by
 rcases h with h|h<;>rw [eY,tZ,h]<;>show (((fJ Z is ds).map Ou.nx)).bind _=_<;>rw [hs]<;>exact k
theorem pX {Z:En}{i m:Nat}{p:Tr}(h:ao Z i=zF (ae m p)):aa call Z (.cmp .eq (.ix (.v i) (kI 0)) (.k (tx "leaf")))=zF (.bl (ax p)):=by
 refine bL (dD (bt (x:=ae m p) (by show (ao Z i).bind aQ=_;rw [h];rfl) rfl (qF m p))) rfl ?_
 cases p<;>rfl
theorem qM4 (m:Nat) (x:Pp) (hx:x.1.length<=1000) (hn:nd x.2<=100000):ak call [zF (ae m x.2),zF (aJ x.1)] f_law_under.body=some (.rt (true,.lst ((prt x).map (gk m)))):=by
 obtain⟨q,p⟩:=x
 have hc:=pX (call:=call) (Z:=[zF (ae m p),zF (aJ q)]) (i:=0) (m:=m) (p:=p) rfl
 cases p with
 | leaf o ts=>exact cV hc (ay rfl rfl) rfl
 | fork o ps =>
  refine aX hc ?_
  have hps:ps.length<=100000:=by
   have:=yD ps
   dsimp only at hn
   rw [nd] at hn
   omega
  have p2:bH (ae m (.fork o ps)) (.int 2)=zF (.tup (ps.map (ae m))):=vc m (.fork o ps)
  have ql:cu call [zF (ae m (.fork o ps)),zF (aJ q)] [(.bi .len [(.ix V0 (kI 2))])]=some [.int (ps.length:Int)]:=by
   rw [fb,dN (r:=(false,.int (ps.length:Int))) (cD (dD (r:=(false,.tup (ps.map (ae m)))) (bt rfl rfl p2)) (by rw [qLD,aw]))]
   rfl
  have er:((List.range ps.length).map λi=>D.int (i:Nat))=(ps.zipIdx 0).map λy=>D.int (y.2:Int):=by
   rw [List.range_eq_range',<-List.zipIdx_map_snd 0 ps,List.map_map]
   rfl
  have hz:aa call [zF (ae m (.fork o ps)),zF (aJ q)] (.compR (.tup [(.ix (.ix V1 (kI 2)) V0),(.bin .add V2 (.tup [V0]))]) 1 [0,1] (.one 0) [(.bi .len [(.ix V0 (kI 2))])])=zT (.lst (((ps.zipIdx 0).map λy=>((q++[(y.2:Int)],y.1):Pp)).map (gk m))):=by
   refine qc ql (show jk [.int (ps.length:Int)]=some ((List.range ps.length).map λi=>.int (i:Nat)) by rw [ye,Ql ⟨by omega,by omega⟩,kF]) (by rw [aw,List.length_range];exact cA AC) (Z':=[none,zF (ae m (.fork o ps)),zF (aJ q)]) rfl ?_
   rw [er,List.map_map]
   refine f7 call _ (λy:Tr×Nat=>D.int (y.2:Int)) (gk m ∘ λy=>((q++[(y.2:Int)],y.1):Pp)) (ps.zipIdx 0) λy hy=>⟨[zF (.int (y.2:Int)),zF (ae m (.fork o ps)),zF (aJ q)],false,rfl,?_⟩
   have hg:ps[y.2]?=some y.1:=by
    obtain⟨p,k⟩:=y
    exact List.mk_mem_zipIdx_iff_getElem?.mp hy
   have g:=kZ (ps.map (ae m)) y.2 (ae m y.1) (by rw [bU,hg];rfl)
   have ha:=zU q y.2 hx
   have q1:aa call [zF (.int (y.2:Int)),zF (ae m (.fork o ps)),zF (aJ q)] (.ix (.ix V1 (kI 2)) V0)=zF (ae m y.1):=bt (dD (r:=(false,.tup (ps.map (ae m)))) (bt rfl rfl p2)) rfl g
   have q2:aa call [zF (.int (y.2:Int)),zF (ae m (.fork o ps)),zF (aJ q)] (.bin .add V2 (.tup [V0]))=zF (aJ (q++[(y.2:Int)])):=fm rfl (qP0 (r:=(false,.tup [.int (y.2:Int)])) rfl) ha
   rw [iF,dz,q1,bN,dz,q2]
   rfl
  exact ay hz rfl
theorem qHA (m:Nat) (x:Pl) (hn:wt x<=100000) (C:∀y:Pp,y=x.1∨y=x.2->call 40 [ae m y.2,aJ y.1]=zT (.lst ((prt y).map (gk m)))) :
  ak call [zF (aG m x),none,none,none,none,none,none,none] f_law_behind.body=some (.rt (true,.lst ((behind x).map (aG m)))):=by
 have hb:ms (behind x)<=100000:=fg (bO (lO x) hn)
 have hb':=aT (jt (behind x)) hb
 refine tE (b:=false) (ds:=[ae m x.1.2,aJ x.1.1,ae m x.2.2,aJ x.2.1]) (Z':=[zF (aG m x),zF (ae m x.1.2),zF (aJ x.1.1),zF (ae m x.2.2),zF (aJ x.2.1),none,none,none]) (.inr rfl) rfl ?_
 have e1:aa call [zF (aG m x),zF (ae m x.1.2),zF (aJ x.1.1),zF (ae m x.2.2),zF (aJ x.2.1),none,none,none] (.and (.cmp .eq (.ix V1 (kI 0)) (.k (tx "leaf"))) (.cmp .eq (.ix V3 (kI 0)) (.k (tx "leaf"))))=zF (.bl (ax x.1.2&&ax x.2.2)):=jV (x:=false) (y:=false) (pX rfl) (pX rfl)
 unfold behind at hb' ⊢
 by_cases hl:ax x.1.2=true/\ax x.2.2=true
 ·rw [Ql hl]
  rw [hl.1,hl.2] at e1
  exact cV e1 (ay rfl rfl) rfl
 ·rw [Qm hl] at hb' ⊢
  have:(ax x.1.2&&ax x.2.2)=false:=by cases a:ax x.1.2<;>cases b:ax x.2.2<;>first|rfl|exact Qn ⟨a,b⟩ hl
  rw [this] at e1
  refine aX e1 ?_
  refine av (true,.lst []) rfl ?_
  have c1:=C x.1 (.inl rfl)
  have c2:=C x.2 (.inr rfl)
  generalize prt x.1=A at *
  generalize prt x.2=B at *
  obtain⟨Z',h,o6,o7,rfl⟩:=ft (call:=call) (tg:=.one 6) (body:=Bh)
   (λk Z=>∃o6 o7:Option R,Z=[zF (aG m x),zF (ae m x.1.2),zF (aJ x.1.1),zF (ae m x.2.2),zF (aJ x.2.1),zT (.lst (((A.take k).flatMap λa=>B.map λb=>((a,b):Pl)).map (aG m))),o6,o7]) (A.map (gk m)) 0
   [zF (aG m x),zF (ae m x.1.2),zF (aJ x.1.1),zF (ae m x.2.2),zF (aJ x.2.1),zT CG,none,none] ⟨none,none,rfl⟩ (by
    rintro k d Z hk ⟨o6,o7,rfl⟩
    rw [bU] at hk
    obtain⟨a,ha,rfl⟩:=yab.mp hk
    have h1:(A.take (0+k+1)).flatMap (λa=>B.map λb=>((a,b):Pl))=(A.take (0+k)).flatMap (λa=>B.map λb=>((a,b):Pl))++B.map λb=>((a,b):Pl):=by rw [bI,take_one ha,fh];simp
    have h2:((A.take (0+k+1)).flatMap (λa=>B.map λb=>((a,b):Pl))).length<=(A.flatMap λa=>B.map λb=>((a,b):Pl)).length:=by
     conv=>rhs;rw [<-fT (0+k+1) A,fh,aU]
     omega
    rw [h1,aU,aw] at h2
    generalize (A.take (0+k)).flatMap (λa=>B.map λb=>((a,b):Pl))=K at *
    obtain⟨Z2,hh,o7',rfl⟩:=ft (call:=call) (tg:=.one 7) (body:=Bg)
     (λj Z=>∃o7:Option R,Z=[zF (aG m x),zF (ae m x.1.2),zF (aJ x.1.1),zF (ae m x.2.2),zF (aJ x.2.1),zT (.lst ((K++(B.take j).map λb=>((a,b):Pl)).map (aG m))),zF (gk m a),o7]) (B.map (gk m)) 0
     [zF (aG m x),zF (ae m x.1.2),zF (aJ x.1.1),zF (ae m x.2.2),zF (aJ x.2.1),zT (.lst (K.map (aG m))),zF (gk m a),o7] ⟨o7,by rw [i7,List.map_nil,bR]⟩ (by
      rintro j d Z hj ⟨o7,rfl⟩
      rw [bU] at hj
      obtain⟨b,hb,rfl⟩:=yab.mp hj
      have h3:(B.take (0+j+1)).map (λb=>((a,b):Pl))=(B.take (0+j)).map (λb=>((a,b):Pl))++[(a,b)]:=by rw [bI,take_one hb,List.map_append];rfl
      refine⟨[zF (aG m x),zF (ae m x.1.2),zF (aJ x.1.1),zF (ae m x.2.2),zF (aJ x.2.1),zT (.lst ((K++(B.take (0+j)).map λb=>((a,b):Pl)).map (aG m))),zF (gk m a),zF (gk m b)],_,rfl,?_,zF (gk m b),rfl⟩
      rw [h3,<-bE,List.map_append (l₁:=K++_)]
      refine iS (false,aG m (a,b)) (fm rfl rfl ?_) rfl (iT ?_) rfl
      ·show (if 1+1+2<=lim then zF (aG m (a,b)) else none)=_
       rw [Ql (cA At)]
      ·have:=eQ (i:=0+j) (l:=B)
       rw [aw,aU,aw]
       omega)
    rw [aw,bI,cM (au _)] at hh
    refine⟨[zF (aG m x),zF (ae m x.1.2),zF (aJ x.1.1),zF (ae m x.2.2),zF (aJ x.2.1),zT (.lst (K.map (aG m))),zF (gk m a),o7],_,rfl,?_,zF (gk m a),o7',rfl⟩
    rw [h1]
    exact gf c2 rfl hh rfl)
  rw [aw,bI,cM (au _)] at h
  refine gf c1 rfl h ?_
  exact ay rfl rfl
theorem AG (m:Nat) (p:Tr) (hl:(und p).length<=1000) (C:∀q,hg q<hg p->(und q).length<=1000->call 42 [ae m q]=zT (.lst ((und q).map (af m)))) :
  ak call [zF (ae m p),none,none] f_law_things.body=some (.rt (true,.lst ((und p).map (af m)))):=by
 have hc:=pX (call:=call) (Z:=[zF (ae m p),none,none]) (i:=0) (m:=m) (p:=p) rfl
 cases p with
 | leaf o ts=>exact cV hc (ay (cD (dD (r:=(false,.tup (ts.map (af m)))) (bt rfl rfl rfl)) rfl) rfl) rfl
 | fork o ps =>
  have hl:(aA ps).length<=1000:=by rw [und] at hl;exact hl
  obtain⟨Z',h,o2,rfl⟩:=ft (call:=call) (tg:=.one 2) (body:=Bi)
   (λk Z=>∃(o2:Option R),Z=[zF (ae m (.fork o ps)),zT (.lst ((aA (ps.take k)).map (af m))),o2]) (ps.map (ae m)) 0
   [zF (ae m (.fork o ps)),zT CG,none] ⟨none,rfl⟩ (by
    rintro k d Z hk ⟨o2,rfl⟩
    rw [bU] at hk
    obtain⟨q,hq,rfl⟩:=yab.mp hk
    have hm:=cm hq
    have h1:aA (ps.take (0+k+1))=aA (ps.take (0+k))++und q:=by rw [bI,take_one hq,iV];simp [aA]
    have h2:=qz ps (0+k+1)
    rw [h1,aU] at h2
    have hb:=C q (by have:=sR hm;rw [hg];omega) AC
    refine⟨[zF (ae m (.fork o ps)),zT (.lst ((aA (ps.take (0+k))).map (af m))),zF (ae m q)],_,rfl,?_,zF (ae m q),rfl⟩
    rw [h1,List.map_append]
    exact j0 hb rfl (cA (by rw [aw,aw];omega)) rfl)
  rw [aw,bI,cM (au _)] at h
  refine aX hc ?_
  refine av (true,.lst []) rfl ?_
  refine gf (r:=(false,.tup (ps.map (ae m)))) (bt rfl rfl (vc m (.fork o ps))) rfl h ?_
  exact ay rfl rfl
theorem qNa (m:Nat) (t far:Int) (ht:0<=t/\t<=10^15) (a b:Option To) (ha:∀o,a=some o->cT o.cov/\cT o.hrt) (hb:∀o,b=some o->cT o.cov/\cT o.hrt) (dt:Dt call m t) (gt:Gt call m) :
  ak call [zF (aL m a),zF (aL m b),zF CB,zF (.int t)] f_law_word.body=some (.rt (false,.str (word m t far a b))):=by
 cases a with
 | none=>exact cV (x:=false) rfl (ay rfl rfl) rfl
 | some a =>
  cases b with
  | none=>exact cV (x:=false) rfl (ay rfl rfl) rfl
  | some b =>
   refine aX (x:=false) rfl ?_
   have f1:=dt a.cov
   have f2:=dt b.cov
   have f3:=dt a.hrt
   have f4:=dt b.hrt
   have g1:=gt (qA a.cov t) (qA b.cov t) (fE (ha a rfl).1 ht) (fE (hb b rfl).1 ht)
   have g2:=gt (qA a.hrt t) (qA b.hrt t) (fE (ha a rfl).2 ht) (fE (hb b rfl).2 ht)
   have x0:∀o:To,bH (aW m o) (.int 0)=zF (cC m o.cov):=λo=>kZ _ 0 _ rfl
   have x1:∀o:To,bH (aW m o) (.int 1)=zF (cC m o.hrt):=λo=>kZ _ 1 _ rfl
   have q1:aa call [zF (aW m a),zF (aW m b),zF CB,zF (.int t)] (.call 36 [(.ix V0 (kI 0)),V3])=zT (.lst (bx m λj=>side (qA a.cov t j))):=eL (by rw [show aa call [zF (aW m a),zF (aW m b),zF CB,zF (.int t)] CP=zF (cC m a.cov) from bt rfl rfl (x0 a)];rfl) rfl f1
   have q2:aa call [zF (aW m a),zF (aW m b),zF CB,zF (.int t)] (.call 36 [(.ix V1 (kI 0)),V3])=zT (.lst (bx m λj=>side (qA b.cov t j))):=eL (by rw [show aa call [zF (aW m a),zF (aW m b),zF CB,zF (.int t)] (.ix V1 (kI 0))=zF (cC m b.cov) from bt rfl rfl (x0 b)];rfl) rfl f2
   have q3:aa call [zF (aW m a),zF (aW m b),zF CB,zF (.int t)] (.call 36 [(.ix V0 (kI 1)),V3])=zT (.lst (bx m λj=>side (qA a.hrt t j))):=eL (by rw [show aa call [zF (aW m a),zF (aW m b),zF CB,zF (.int t)] (.ix V0 (kI 1))=zF (cC m a.hrt) from bt rfl rfl (x1 a)];rfl) rfl f3
   have q4:aa call [zF (aW m a),zF (aW m b),zF CB,zF (.int t)] (.call 36 [(.ix V1 (kI 1)),V3])=zT (.lst (bx m λj=>side (qA b.hrt t j))):=eL (by rw [show aa call [zF (aW m a),zF (aW m b),zF CB,zF (.int t)] (.ix V1 (kI 1))=zF (cC m b.hrt) from bt rfl rfl (x1 b)];rfl) rfl f4
   have c1:aa call [zF (aW m a),zF (aW m b),zF CB,zF (.int t)] (.cmp .gt (.call 37 [(.call 36 [(.ix V0 (kI 0)),V3]),(.call 36 [(.ix V1 (kI 0)),V3])]) V2)=zF (.bl (decide (aM m (qA a.cov t) (qA b.cov t) > far))):=bL (eM (eL (eJ q1) (eJ q2) g1)) rfl rfl
   have c2:aa call [zF (aW m a),zF (aW m b),zF CB,zF (.int t)] (.cmp .le (.call 37 [(.call 36 [(.ix V0 (kI 1)),V3]),(.call 36 [(.ix V1 (kI 1)),V3])]) V2)=zF (.bl (decide (aM m (qA a.hrt t) (qA b.hrt t)<=far))):=bL (eM (eL (eJ q3) (eJ q4) g2)) rfl rfl
   show _=some (Ou.rt (false,D.str (if aM m (qA a.cov t) (qA b.cov t) > far then Qa "apart" else if aM m (qA a.hrt t) (qA b.hrt t)<=far then Qa "whole" else Qa "open")))
   by_cases h:aM m (qA a.cov t) (qA b.cov t) > far
   ·rw [Ql h]
    rw [Qk h] at c1
    exact cV c1 (ay rfl rfl) rfl
   ·rw [Qm h]
    rw [Qj h] at c1
    refine aX c1 ?_
    by_cases h2:aM m (qA a.hrt t) (qA b.hrt t)<=far
    ·rw [Ql h2]
     rw [Qk h2] at c2
     exact cV c2 (ay rfl rfl) rfl
    ·rw [Qm h2]
     rw [Qj h2] at c2
     exact aX c2 (ay rfl rfl)
end
end Dw.T
namespace Dw.T
open Dw PySem
theorem qOD (d:D) (ds:List D):eT (d::ds) (some 1) none=ds:=by
 simp only [eT,gD,cutAt,de]
 rw [Qm At]
 have h1:min ((1:Int).toNat) (ds.length+1)=1:=by show min 1 _=1;omega
 rw [h1,List.drop_one,List.tail_cons]
 exact cM AC
section
variable {call:Nat->List D->Option R}
def Ltc (call:Nat->List D->Option R) (m:Nat):Prop:=∀p:Tr,hg p<=8->(und p).length<=1000->call 42 [ae m p]=zT (.lst ((und p).map (af m)))
theorem uB (m:Nat) (t far:Int):∀A B:List Th,(dJ m t far A B).length<=A.length * B.length/\(eD m t far A B).length<=A.length * B.length
 | [],B=>by simp [dJ,eD]
 | a::A,B=>by
  have h:=uB m t far A B
  have h1:((B.filter λb=>near m t far a b).map λb=>(a.hd,b.hd)).length<=B.length:=by rw [aw];exact List.length_filter_le _ _
  have h2:((B.filter λb=>!near m t far a b).map λb=>(a.hd,b.hd)).length<=B.length:=by rw [aw];exact List.length_filter_le _ _
  rw [de,mH]
  constructor
  ·show ((B.filter λb=>near m t far a b).map (λb=>(a.hd,b.hd))++dJ m t far A B).length<=_
   rw [aU]
   omega
  ·show ((B.filter λb=>!near m t far a b).map (λb=>(a.hd,b.hd))++eD m t far A B).length<=_
   rw [aU]
   omega
theorem qGV (m:Nat) (t far:Int) (ht:0<=t/\t<=10^15) (p q:Tr) (hp:PpOk ([],p)) (hq:PpOk ([],q)) (lt:Ltc call m) (dt:Dt call m t) (gt:Gt call m) :
  ak call [zF (ae m p),zF (ae m q),zF CB,zF (.int t),none,none,none,none,none] f_law_near_ones.body=some (.rt (false,.tup [.lst ((dJ m t far (und p) (und q)).map ar),.lst ((eD m t far (und p) (und q)).map ar)])):=by
 have c1:=lt p hp.high (by have:=hp.few;dsimp only at this;omega)
 have c2:=lt q hq.high (by have:=hq.few;dsimp only at this;omega)
 have hA:=hp.good.th
 have hB:=hq.good.th
 have lA:(und p).length<=100:=hp.few
 have lB:(und q).length<=100:=hq.few
 dsimp only at hA hB
 generalize und p=A at *
 generalize und q=B at *
 refine av (true,.lst []) rfl (av (true,.lst []) rfl ?_)
 obtain⟨Z',h,o6,o7,o8,rfl⟩:=ft (call:=call) (tg:=.one 6) (body:=Ba)
  (λk Z=>∃(o6 o7 o8:Option R),Z=[zF (ae m p),zF (ae m q),zF CB,zF (.int t),zT (.lst ((dJ m t far (A.take k) B).map ar)),zT (.lst ((eD m t far (A.take k) B).map ar)),o6,o7,o8]) (A.map (af m)) 0
  [zF (ae m p),zF (ae m q),zF CB,zF (.int t),zT CG,zT CG,none,none,none] ⟨none,none,none,rfl⟩ (by
   rintro k d Z hk ⟨o6,o7,o8,rfl⟩
   rw [bU] at hk
   obtain⟨a,ha,rfl⟩:=yab.mp hk
   have oka:=hA a (cm ha)
   have h1:dJ m t far (A.take (0+k+1)) B=dJ m t far (A.take (0+k)) B++dJ m t far [a] B:=by rw [bI,take_one ha];exact fh
   have h1':eD m t far (A.take (0+k+1)) B=eD m t far (A.take (0+k)) B++eD m t far [a] B:=by rw [bI,take_one ha];exact fh
   have h2:=uB m t far (A.take (0+k)) B
   have h3:(A.take (0+k)).length * B.length<=100 * 100:=Nat.mul_le_mul (by rw [eQ];omega) lB
   generalize dJ m t far (A.take (0+k)) B=K at *
   generalize eD m t far (A.take (0+k)) B=K' at *
   obtain⟨Z2,hh,o8',rfl⟩:=ft (call:=call) (tg:=.one 8) (body:=A9)
    (λi Z=>∃(o8:Option R),Z=[zF (ae m p),zF (ae m q),zF CB,zF (.int t),zT (.lst ((K++dJ m t far [a] (B.take i)).map ar)),zT (.lst ((K'++eD m t far [a] (B.take i)).map ar)),zF (af m a),zF CY,o8]) (B.map (af m)) 0
    [zF (ae m p),zF (ae m q),zF CB,zF (.int t),zT Cl,zT (.lst (K'.map ar)),zF (af m a),zF CY,o8] ⟨o8,by rw [i7];show _=[_,_,_,_,zT (.lst ((K++[]).map ar)),zT (.lst ((K'++[]).map ar)),_,_,_];rw [bR,bR]⟩ (by
     rintro i d Z hi ⟨o8,rfl⟩
     rw [bU] at hi
     obtain⟨b,hb,rfl⟩:=yab.mp hi
     have okb:=hB b (cm hb)
     have e1:dJ m t far [a] (B.take (0+i+1))=dJ m t far [a] (B.take (0+i))++if near m t far a b=true then [(a.hd,b.hd)] else []:=by
      rw [bI,take_one hb]
      show (((B.take i++[b]).filter λb=>near m t far a b).map λb=>(a.hd,b.hd))++[]=((((B.take i).filter λb=>near m t far a b).map λb=>(a.hd,b.hd))++[])++_
      rw [bR,bR,mw,List.map_append,List.filter_cons]
      split<;>rfl
     have e1':eD m t far [a] (B.take (0+i+1))=eD m t far [a] (B.take (0+i))++if near m t far a b=true then [] else [(a.hd,b.hd)]:=by
      rw [bI,take_one hb]
      show (((B.take i++[b]).filter λb=>!near m t far a b).map λb=>(a.hd,b.hd))++[]=((((B.take i).filter λb=>!near m t far a b).map λb=>(a.hd,b.hd))++[])++_
      rw [bR,bR,mw,List.map_append,List.filter_cons]
      cases near m t far a b<;>rfl
     have h4:=uB m t far [a] (B.take (0+i))
     have h5:(B.take (0+i)).length<=100:=by rw [eQ];omega
     rw [n5,Nat.one_mul] at h4
     generalize dJ m t far [a] (B.take (0+i))=L at *
     generalize eD m t far [a] (B.take (0+i))=L' at *
     have f2:=dt b.sw
     have f3:=gt (qA a.sw t) (qA b.sw t) (fE oka ht) (fE okb ht)
     have q0:aa call [zF (ae m p),zF (ae m q),zF CB,zF (.int t),zT (.lst ((K++L).map ar)),zT (.lst ((K'++L').map ar)),zF (af m a),zF CY,zF (af m b)] (.call 36 [(.ix V8 (kI 1)),V3])=zT (.lst (bx m λj=>side (qA b.sw t j))):=f2
     have q1:aa call [zF (ae m p),zF (ae m q),zF CB,zF (.int t),zT (.lst ((K++L).map ar)),zT (.lst ((K'++L').map ar)),zF (af m a),zF CY,zF (af m b)] (.cmp .le (.call 37 [V7,(.call 36 [(.ix V8 (kI 1)),V3])]) V2)=zF (.bl (near m t far a b)):=bL (eM (eL rfl (eJ q0) f3)) rfl (Bu _ _)
     have qt:aa call [zF (ae m p),zF (ae m q),zF CB,zF (.int t),zT (.lst ((K++L).map ar)),zT (.lst ((K'++L').map ar)),zF (af m a),zF CY,zF (af m b)] (.tup [(.ix V6 (kI 0)),(.ix V8 (kI 0))])=zF (ar (a.hd,b.hd)):=rfl
     refine⟨[zF (ae m p),zF (ae m q),zF CB,zF (.int t),zT (.lst ((K++L).map ar)),zT (.lst ((K'++L').map ar)),zF (af m a),zF CY,zF (af m b)],_,rfl,?_,zF (af m b),rfl⟩
     rw [e1,e1']
     cases hn:near m t far a b with
     | true =>
      rw [hn] at q1
      rw [Ql rfl,Ql rfl,bR,<-bE,List.map_append (l₁:=K++L)]
      exact iq q1 (iS _ qt rfl (iT (by rw [aw,aU];omega)) rfl) rfl
     | false =>
      rw [hn] at q1
      rw [Qm At,Qm At,bR,<-bE,List.map_append (l₁:=K'++L')]
      exact wF q1 (iS _ qt rfl (iT (by rw [aw,aU];omega)) rfl) rfl)
   rw [aw,bI,cM (au _)] at hh
   have f1:=dt a.sw
   refine⟨[zF (ae m p),zF (ae m q),zF CB,zF (.int t),zT Cl,zT (.lst (K'.map ar)),zF (af m a),o7,o8],_,rfl,?_,zF (af m a),zF CY,o8',rfl⟩
   rw [h1,h1']
   have q1:aa call [zF (ae m p),zF (ae m q),zF CB,zF (.int t),zT Cl,zT (.lst (K'.map ar)),zF (af m a),o7,o8] (.call 36 [(.ix V6 (kI 1)),V3])=zT CY:=f1
   exact av _ q1 (gf c2 rfl hh rfl))
 rw [aw,bI,cM (au _)] at h
 refine gf c1 rfl h ?_
 rw [x6]
 exact ay rfl rfl
theorem qNb (m:Nat) (t far:Int) (ht:0<=t/\t<=10^15) (x:Pl) (hx:PlOk x) (C:call 44 [ae m x.1.2,ae m x.2.2,.int far,.int t]=zF (.tup [.lst ((dJ m t far (und x.1.2) (und x.2.2)).map ar),.lst ((eD m t far (und x.1.2) (und x.2.2)).map ar)])) :
  ak call [zF (aG m x),zF (.str (W m t far x)),zF CB,zF (.int t),none,none] f_law_led_to.body=some (.rt (true,.lst ((aS m t far CO).map ar))):=by
 have g1:=hx.1.good
 have g2:=hx.2.good
 rw [qQ6 m t far ht.1 x g1 g2]
 obtain⟨w1,w2⟩:=qIL m t far ht.1 g1.o g2.o
 have w1:W m t far x=Qa "apart"->dJ m t far (und x.1.2) (und x.2.2)=[]:=w1
 have w2:W m t far x=Qa "whole"->eD m t far (und x.1.2) (und x.2.2)=[]:=w2
 have nd:=qKI m t far (und x.1.2) (und x.2.2)
 have hw:=tJ m t far (tl x.1.2) (tl x.2.2)
 have hw:W m t far x=Qa "apart"∨W m t far x=Qa "whole"∨W m t far x=Qa "open":=hw
 unfold fk
 rw [<-nd]
 generalize W m t far x=w at *
 generalize dJ m t far (und x.1.2) (und x.2.2)=N at *
 generalize eD m t far (und x.1.2) (und x.2.2)=P at *
 refine av (true,.lst []) rfl (av (true,.lst []) rfl ?_)
 have l1:∀o4 o5:Option R,aa call [zF (aG m x),zF (.str w),zF CB,zF (.int t),o4,o5] (.cmp .eq (.ix CP (kI 0)) (.k (tx "leaf")))=zF (.bl (ax x.1.2)):=λ_ _=>by
  refine bL (dD (bt (dD (r:=(false,ae m x.1.2)) rfl) rfl (qF m x.1.2))) rfl ?_
  cases x.1.2<;>rfl
 have l2:∀o4 o5:Option R,aa call [zF (aG m x),zF (.str w),zF CB,zF (.int t),o4,o5] (.cmp .eq (.ix (.ix V0 (kI 2)) (kI 0)) (.k (tx "leaf")))=zF (.bl (ax x.2.2)):=λ_ _=>by
  refine bL (dD (bt (dD (r:=(false,ae m x.2.2)) rfl) rfl (qF m x.2.2))) rfl ?_
  cases x.2.2<;>rfl
 have ew:∀(s:String) (o4 o5:Option R),aa call [zF (aG m x),zF (.str w),zF CB,zF (.int t),o4,o5] (.cmp .eq V1 (.k (tx s)))=zF (.bl (decide (w=Qa s))):=λs _ _=>bL rfl rfl (m9 _ s)
 have en:∀o4 o5:Option R,aa call [zF (aG m x),zF (.str w),zF CB,zF (.int t),o4,o5] (.cmp .ne V1 (.k (tx "open")))=zF (.bl (!decide (w=Qa "open"))):=λ_ _=>by
  refine bL rfl rfl ?_
  rw [qLp]
  show zF (D.bl (!(w == Qa "open")))=_
  rfl
 have c1:aa call [zF (aG m x),zF (.str w),zF CB,zF (.int t),zF CG,zF CG] (.or (.cmp .ne V1 (.k (tx "open"))) (.and (.cmp .eq (.ix CP (kI 0)) (.k (tx "leaf"))) (.cmp .eq (.ix (.ix V0 (kI 2)) (kI 0)) (.k (tx "leaf")))))=zF (.bl (!decide (w=Qa "open")||(ax x.1.2&&ax x.2.2))):=by
  rw [pK,en]
  cases decide (w=Qa "open") with
  | false=>rfl
  | true=>exact jV (x:=false) (y:=false) (l1 _ _) (l2 _ _)
 have lenE:∀(i:Nat) (Z:En) (l:List (Int×Int)),ao Z i=zF (.lst (l.map ar))->aa call Z (.cmp .gt (.bi .len [.v i]) (kI 0))=zF (.bl (decide (0<l.length))):=λi Z l h=>by
  refine bL (dN (r:=(false,.int (l.length:Int))) (cD (x:=.lst (l.map ar)) (by show (ao Z i).bind aQ=_;rw [h];rfl) (by rw [fK,aw]))) rfl ?_
  show zF (D.bl (decide (0<(l.length:Int))))=_
  rw [show decide (0<(l.length:Int))=decide (0<l.length) from decide_eq_decide.mpr ⟨λh=>by omega,λh=>by omega⟩]
 have fin:∀N P:List (Int×Int),(w=Qa "apart"->N=[])->(w=Qa "whole"->P=[])->ak call [zF (aG m x),zF (.str w),zF CB,zF (.int t),zF (.lst (N.map ar)),zF (.lst (P.map ar))] (f_law_led_to.body.drop 3)=some (.rt (true,.lst ((N.filter λr=>decide (r.1≠r.2)).map ar))):=λN P h1 h2=>by
  have c2:aa call [zF (aG m x),zF (.str w),zF CB,zF (.int t),zF (.lst (N.map ar)),zF (.lst (P.map ar))] (.or (.and (.cmp .eq V1 (.k (tx "apart"))) (.cmp .gt (.bi .len [V4]) (kI 0))) (.and (.cmp .eq V1 (.k (tx "whole"))) (.cmp .gt (.bi .len [V5]) (kI 0))))=zF (.bl false):=by
   have a1:=jV (x:=false) (y:=false) (ew "apart" (zF (.lst (N.map ar))) (zF (.lst (P.map ar)))) (lenE 4 _ N rfl)
   have a2:=jV (x:=false) (y:=false) (ew "whole" (zF (.lst (N.map ar))) (zF (.lst (P.map ar)))) (lenE 5 _ P rfl)
   have b1:(decide (w=Qa "apart")&&decide (0<N.length))=false:=by
    by_cases h:w=Qa "apart"
    ·rw [h1 h];simp
    ·simp [h]
   have b2:(decide (w=Qa "whole")&&decide (0<P.length))=false:=by
    by_cases h:w=Qa "whole"
    ·rw [h2 h];simp
    ·simp [h]
   rw [b1] at a1
   rw [b2] at a2
   rw [pK,a1]
   exact a2
  refine aX c2 (ay ?_ rfl)
  show aa call [zF (aG m x),zF (.str w),zF CB,zF (.int t),zF (.lst (N.map ar)),zF (.lst (P.map ar))] (.compF V0 (.cmp .ne CP (.ix V0 (kI 1))) 1 [] (.one 0) V4)=_
  rw [nH]
  show (iE call (.cmp .ne CP (.ix V0 (kI 1))) V0 [none] (.one 0) (N.map ar)).bind _=_
  rw [nK ar ar (λr=>decide (r.1≠r.2)) N λr _=>⟨[zF (ar r)],rfl,bL (dD (r:=(false,.int r.1)) rfl) (dD (r:=(false,.int r.2)) rfl) (qJ _ _),λ_=>⟨false,rfl⟩⟩]
  rfl
 by_cases hs:w=Qa "open"/\¬(ax x.1.2=true/\ax x.2.2=true)
 ·rw [Ql hs]
  have:(!decide (w=Qa "open")||(ax x.1.2&&ax x.2.2))=false:=by
   rw [Qk hs.1]
   cases a:ax x.1.2<;>cases b:ax x.2.2<;>first|rfl|exact Qn ⟨a,b⟩ hs.2
  rw [this] at c1
  exact aX c1 (fin [] [] (λ_=>rfl) λ_=>rfl)
 ·rw [Qm hs]
  have:(!decide (w=Qa "open")||(ax x.1.2&&ax x.2.2))=true:=by
   by_cases ho:w=Qa "open"
   ·cases a:ax x.1.2<;>cases b:ax x.2.2<;>first|(exfalso;exact hs ⟨ho,λz=>by rw [a] at z;exact Qn z.1 At⟩)|(exfalso;exact hs ⟨ho,λz=>by rw [b] at z;exact Qn z.2 At⟩)|simp
   ·rw [Qj ho];rfl
  rw [this] at c1
  refine iq c1 (tE (b:=false) (ds:=[.lst (N.map ar),.lst (P.map ar)]) (Z':=[zF (aG m x),zF (.str w),zF CB,zF (.int t),zF (.lst (N.map ar)),zF (.lst (P.map ar))]) (.inr C) rfl rfl) (fin N P w1 w2)
theorem qKc (w:Str):ak call [zF (.str w),zF (.str w),none] f_law_alike.body=some (.rt (false,.bl true)):=by
 refine aX (x:=false) rfl (aX (x:=false) rfl (cV (x:=false) rfl (ay (mZ (x:=false) rfl (bL rfl rfl ?_)) rfl) rfl))
 rw [qLq]
 show zF (D.bl (w == w))=_
 rw [beq_self_eq_true]
theorem qJ4 (m:Nat) (t far:Int) (l r:Tr) (hl:PpOk ([],l)) (hr:PpOk ([],r)) (hM:nd l * nd r<=100000) (rows:List (Pl×Str)) (wf:Wf m t far [(([],l),([],r))] rows) (N:(rows.flatMap Cj).length<=10000)
  (C43:∀a b:Tr,Good a->Good b->call 43 [aL m (tl a),aL m (tl b),.int far,.int t]=zF (.str (word m t far (tl a) (tl b))))
  (C29:∀(p q:List Int) (w:Str),p.length<=1000->q.length<=1000->call 29 [.tup [aJ p,aJ q,.str w],.tup [aJ p,aJ q,.str w]]=zF (.bl true))
  (C45:∀x:Pl,PlOk x->call 45 [aG m x,.str (W m t far x),.int far,.int t]=zT (.lst ((aS m t far CO).map ar)))
  (C41:∀x:Pl,PlOk x->wt x<=100000->call 41 [aG m x]=zT (.lst ((behind x).map (aG m)))) :
  ak call [zF (.tup (rows.map bp)),zF (ae m l),zF (ae m r),zF CB,zF (.int t),none,none,none,none,none,none] f_law_walked.body=some (.rt (false,.lst ((rows.flatMap Cj).map ar))):=by
 refine av (true,.lst [aG m (([],l),([],r))]) rfl (av (true,.lst []) rfl ?_)
 obtain⟨Z',h,st,o7,o8,o9,o10,wf',ok',ms',rfl⟩:=ft (call:=call) (tg:=.one 7) (body:=Bc)
  (λk Z=>∃(st:List Pl) (o7 o8 o9 o10:Option R),Wf m t far st (rows.drop k)/\(∀x∈st,PlOk x)/\ms st<=100000/\Z=[zF (.tup (rows.map bp)),zF (ae m l),zF (ae m r),zF CB,zF (.int t),zF (.lst (st.map (aG m))),zF (.lst (((rows.take k).flatMap Cj).map ar)),o7,o8,o9,o10]) (rows.map bp) 0
  [zF (.tup (rows.map bp)),zF (ae m l),zF (ae m r),zF CB,zF (.int t),zF (.lst [aG m (([],l),([],r))]),zF CG,none,none,none,none] ⟨[(([],l),([],r))],none,none,none,none,wf,λx hx=>by rw [yaz.mp hx];exact⟨hl,hr⟩,by show nd l * nd r+0<=100000;omega,rfl⟩ (by
   rintro k d Z hk ⟨st,o7,o8,o9,o10,wf,ok,hms,rfl⟩
   rw [bU] at hk
   obtain⟨rw0,hrw,rfl⟩:=yab.mp hk
   have hk2:k<rows.length:=(yal.mp hrw).1
   have ed:rows.drop (0+k)=rw0::rows.drop (0+k+1):=by
    rw [bI,jH hk2,(yal.mp hrw).2]
   rw [ed] at wf
   have h1:(rows.take (0+k+1)).flatMap Cj=(rows.take (0+k)).flatMap Cj++aS m t far rw0:=by rw [bI,take_one hrw,fh];simp
   have h2:((rows.take (0+k+1)).flatMap Cj).length<=(rows.flatMap Cj).length:=by
    conv=>rhs;rw [<-fT (0+k+1) rows,fh,aU]
    omega
   rw [h1,aU] at h2
   generalize hrest:rows.drop (0+k+1)=rest at wf
   generalize (rows.take (0+k)).flatMap Cj=K at *
   cases wf with
   | @cons x st _ wf =>
    have hx:=ok x bq
    have hms':ms (x::st)=wt x+ms st:=by unfold ms;rw [cP,gT]
    rw [hms'] at hms
    have mn:=xI m t far x
    have lY:=C43 x.1.2 x.2.2 hx.1.good hx.2.good
    have lY:call 43 [aL m (tl x.1.2),aL m (tl x.2.2),.int far,.int t]=zF (.str (W m t far x)):=lY
    have qM:=C29 x.1.1 x.2.1 (W m t far x) (by have:=hx.1.path;omega) (by have:=hx.2.path;omega)
    have qK:=C45 x hx
    have qL:=C41 x hx AC
    have t1:=vd m x.1.2
    have t2:=vd m x.2.2
    refine⟨[zF (.tup (rows.map bp)),zF (ae m l),zF (ae m r),zF CB,zF (.int t),zF (.lst ((x::st).map (aG m))),zF Cl,zF (bp CO),o8,o9,o10],_,rfl,?_,fL m t far x++st,zF (bp CO),zF (aG m x),zF (.str (W m t far x)),zF (.lst ((aS m t far CO).map ar)),by first|exact wf|(rw [hrest];exact wf),λy hy=>?_,by rw [pQ];omega,rfl⟩
    ·rw [h1,List.map_append (l₁:=K)]
     refine aX (x:=false) ?_ ?_
     ·refine bL (dN (r:=(false,.int (((x::st).length:Nat):Int))) (cD rfl (by rw [fK,aw]))) rfl ?_
      show zF (D.bl ((((x::st).length:Nat):Int) == 0))=_
      rw [beq_eq_false_iff_ne.mpr (by rw [de];omega)]
     have e0:=k9 ((x::st).map (aG m)) 0 (aG m x) rfl
     refine av (false,aG m x) (bt rfl rfl e0) ?_
     have q1:aa call [zF (.tup (rows.map bp)),zF (ae m l),zF (ae m r),zF CB,zF (.int t),zF (.lst ((x::st).map (aG m))),zF Cl,zF (bp CO),zF (aG m x),o9,o10] (.ix (.ix V8 (kI 0)) (kI 1))=zF (aL m (tl x.1.2)):=bt (dD (r:=(false,ae m x.1.2)) rfl) rfl t1
     have q2:aa call [zF (.tup (rows.map bp)),zF (ae m l),zF (ae m r),zF CB,zF (.int t),zF (.lst ((x::st).map (aG m))),zF Cl,zF (bp CO),zF (aG m x),o9,o10] (.ix (.ix V8 (kI 2)) (kI 1))=zF (aL m (tl x.2.2)):=bt (dD (r:=(false,ae m x.2.2)) rfl) rfl t2
     have q3:aa call [zF (.tup (rows.map bp)),zF (ae m l),zF (ae m r),zF CB,zF (.int t),zF (.lst ((x::st).map (aG m))),zF Cl,zF (bp CO),zF (aG m x),o9,o10] (.call 43 [(.ix (.ix V8 (kI 0)) (kI 1)),(.ix (.ix V8 (kI 2)) (kI 1)),V3,V4])=zF (.str (W m t far x)):=by
      rw [lR,iU,show ag [zF (.tup (rows.map bp)),zF (ae m l),zF (ae m r),zF CB,zF (.int t),zF (.lst ((x::st).map (aG m))),zF Cl,zF (bp CO),zF (aG m x),o9,o10] (.ix (.ix V8 (kI 0)) (kI 1)) _=some (aL m (tl x.1.2)) from by rw [q1];rfl,bN,iU,show ag [zF (.tup (rows.map bp)),zF (ae m l),zF (ae m r),zF CB,zF (.int t),zF (.lst ((x::st).map (aG m))),zF Cl,zF (bp CO),zF (aG m x),o9,o10] (.ix (.ix V8 (kI 2)) (kI 1)) _=some (aL m (tl x.2.2)) from by rw [q2];rfl]
      exact lY
     refine av _ q3 ?_
     refine aX (x:=false) ?_ ?_
     ·have q4:aa call [zF (.tup (rows.map bp)),zF (ae m l),zF (ae m r),zF CB,zF (.int t),zF (.lst ((x::st).map (aG m))),zF Cl,zF (bp CO),zF (aG m x),zF (.str (W m t far x)),o10] (.not (.call 29 [V7,(.tup [(.ix V8 (kI 1)),(.ix V8 (kI 3)),V9])]))=zF (.bl false):=by
       rw [x5,show aa call [zF (.tup (rows.map bp)),zF (ae m l),zF (ae m r),zF CB,zF (.int t),zF (.lst ((x::st).map (aG m))),zF Cl,zF (bp CO),zF (aG m x),zF (.str (W m t far x)),o10] (.call 29 [V7,(.tup [(.ix V8 (kI 1)),(.ix V8 (kI 3)),V9])])=zF (.bl true) from qM]
       rfl
      exact q4
     have q5:aa call [zF (.tup (rows.map bp)),zF (ae m l),zF (ae m r),zF CB,zF (.int t),zF (.lst ((x::st).map (aG m))),zF Cl,zF (bp CO),zF (aG m x),zF (.str (W m t far x)),o10] (.call 45 [V8,V9,V3,V4])=zT (.lst ((aS m t far CO).map ar)):=qK
     refine av _ q5 ?_
     refine aX (x:=false) rfl ?_
     refine av (true,.lst (K.map ar++(aS m t far CO).map ar)) (fm rfl rfl (by rw [uG,Ql (cA (by rw [aw,aw];omega))])) ?_
     have ls:=jt st
     have lb:=jt (behind x)
     have mb:=lO x
     have hsl:eT ((x::st).map (aG m)) (some 1) none=st.map (aG m):=by
      rw [cP]
      exact qOD _ _
     refine av (true,.lst (st.map (aG m))) (by rw [<-hsl];rfl) ?_
     have e2:aa call [zF (.tup (rows.map bp)),zF (ae m l),zF (ae m r),zF CB,zF (.int t),zF (.lst (st.map (aG m))),zF (.lst (K.map ar++(aS m t far CO).map ar)),zF (bp CO),zF (aG m x),zF (.str (W m t far x)),zF (.lst ((aS m t far CO).map ar))] (.cmp .eq V9 (.k (tx "open")))=zF (.bl (decide (W m t far x=Qa "open"))):=bL rfl rfl (m9 _ "open")
     have q7:aa call [zF (.tup (rows.map bp)),zF (ae m l),zF (ae m r),zF CB,zF (.int t),zF (.lst (st.map (aG m))),zF (.lst (K.map ar++(aS m t far CO).map ar)),zF (bp CO),zF (aG m x),zF (.str (W m t far x)),zF (.lst ((aS m t far CO).map ar))] (.call 41 [V8])=zT (.lst ((behind x).map (aG m))):=qL
     unfold fL
     by_cases ho:W m t far x=Qa "open"
     ·rw [Qk ho] at e2
      rw [Ql ho,List.map_append]
      exact iq e2 (av (true,.lst ((behind x).map (aG m)++st.map (aG m))) (fm (eM q7) rfl (by rw [uG,Ql (cA (by rw [aw,aw];omega))])) rfl) rfl
     ·rw [Qj ho] at e2
      rw [Qm ho,ie]
      exact aX e2 rfl
    ·rcases yaC.mp hy with hy|hy
     ·unfold fL at hy
      split at hy
      ·exact hx.behind y hy
      ·cases hy
     ·exact ok y (bK _ hy))
 rw [aw,bI] at wf' h
 rw [cM (au _)] at h
 rw [List.drop_eq_nil_of_le (au _)] at wf'
 cases wf'
 refine gf (r:=(false,.tup (rows.map bp))) rfl rfl h ?_
 exact aX (x:=false) rfl (ay rfl rfl)
end
end Dw.T
namespace Dw.T
open Dw PySem
structure La (call:Nat->List D->Option R) (ns:List Int):Prop where
 ce:Ce call ns
 rows:∀(m:Nat) (w:Int),(m=2∨m=3)->0<=w->∃A B:List Th,su A B/\call 35 [.lst CC,.int (m:Int),.int w]=zT (xl m A B)
 beat:∀c:Int,∃t:Int,(0<=t/\t<=10^15)/\call 38 [.int c]=zF (.int t)
 far:∀(m:Nat) (t:Int) (A B:List Th),(0<=t/\t<=10^15)->su A B->∃far:Int,call 39 [.lst CC,.lst (A.map (af m)),.lst (B.map (af m)),.int t]=zF CB
 tree:∀(m:Nat) (A:List Th) (rm x:Int),m<=3->(rm=4∨rm=5∨rm=6∨rm=7)->0<=x->A.length<=60->(∀u∈A,ThW u)->∃p:Tr,PpOk ([],p)/\und p=A/\nd p<=200/\call 34 [.lst (A.map (af m)),.int rm,.int x]=zF (ae m p)
 near:∀(m:Nat) (t far:Int) (l r:Tr),(0<=t/\t<=10^15)->PpOk ([],l)->PpOk ([],r)->nd l * nd r<=100000->∃rows:List (Pl×Str),Wf m t far [(([],l),([],r))] rows/\(rows.flatMap Cj).length<=10000/\call 27 [ae m l,ae m r,.int far,.int t]=zF (.tup [.tup (sP (rows.flatMap Cj)),.tup (rows.map bp)])
 walk:∀(m:Nat) (t far:Int) (l r:Tr) (rows:List (Pl×Str)),(0<=t/\t<=10^15)->PpOk ([],l)->PpOk ([],r)->nd l * nd r<=100000->Wf m t far [(([],l),([],r))] rows->(rows.flatMap Cj).length<=10000->call 46 [.tup (rows.map bp),ae m l,ae m r,.int far,.int t]=zF (.lst ((rows.flatMap Cj).map ar))
 like:∀k:List (Int×Int),k.length<=10000->call 29 [.tup (sP k),.tup (sP k)]=zF (.bl true)
section
variable {call:Nat->List D->Option R}
theorem qR2 (ns:List Int) (L:La call ns):ak call [zF C8,none,none,none,none,none,none,none,none,none,none,none,none] f_law.body=some (.rt (false,.bl true)):=by
 have c0:=L.ce 0
 have c1:=L.ce 1
 have c2:=L.ce 2
 have c3:=L.ce 3
 generalize fH ns 0=x0 at c0
 generalize fH ns 1=x1 at c1
 generalize fH ns 2=x2 at c2
 generalize fH ns 3=x3 at c3
 have d4:bf 4=true:=by decide
 have d54:bf 54=true:=by decide
 have d1000:bf 1000=true:=by decide
 have d2:bf 2=true:=by decide
 obtain⟨m,hm,em⟩:∃m:Nat,(m=2∨m=3)/\2+(if (x0.fmod 4 == 1)=true then (1:Int) else 0)=(m:Int):=by
  cases x0.fmod 4 == 1 with
  | true=>exact⟨3,.inr rfl,rfl⟩
  | false=>exact⟨2,.inl rfl,rfl⟩
 have b1:=dW x1 54 At
 have b2:=dW x2 4 At
 have hrm:4+x2.fmod 4=4∨4+x2.fmod 4=5∨4+x2.fmod 4=6∨4+x2.fmod 4=7:=by omega
 have b3:=dW (x0.fdiv 4) 1000 At
 generalize hw:x1.fmod 54=w at b1
 generalize hrm':4+x2.fmod 4=rm at hrm
 generalize htn:(x0.fdiv 4).fmod 1000=tn at b3
 obtain⟨A,B,hR,eR⟩:=L.rows m w hm b1.1
 obtain⟨t,ht,et⟩:=L.beat x3
 obtain⟨far,ef⟩:=L.far m t A B ht hR
 obtain⟨l,ol,ul,nl,el⟩:=L.tree m A rm tn AC hrm b3.1 hR.1 hR.2.2.1
 have x2':0<=tn.fdiv 2:=by rw [jC _ At];exact oa b3.1 At
 obtain⟨r,or',ur,nr,er⟩:=L.tree m B rm (tn.fdiv 2) AC hrm x2' hR.2.1 hR.2.2.2
 have hM:nd l * nd r<=100000:=aT (Nat.mul_le_mul nl nr) At
 obtain⟨rows,wf,N,en⟩:=L.near m t far l r ht ol or' hM
 have ew:=L.walk m t far l r rows ht ol or' hM wf N
 have ek:=L.like _ N
 have es:=AD (rows.flatMap Cj)
 generalize rows.flatMap Cj=K at en ew ek es
 have q0:aa call [zF C8,none,none,none,none,none,none,none,none,none,none,none,none] (.call 28 [V0,(kI 0)])=zF (.int x0):=c0
 have q1:aa call [zF C8,none,none,none,none,none,none,none,none,none,none,none,none] (.cmp .eq (.bin .mod (.call 28 [V0,(kI 0)]) (kI 4)) (kI 1))=zF (.bl (x0.fmod 4 == 1)):=bL (fq (fm (eM q0) rfl (by rw [cz,Ql d4]))) rfl rfl
 refine av (false,.int (m:Int)) (fm rfl (dN (cD (fq q1) rfl)) (by rw [<-em];rfl)) ?_
 have q2:aa call [zF C8,zF CJ,none,none,none,none,none,none,none,none,none,none,none] (.call 28 [V0,(kI 1)])=zF (.int x1):=c1
 refine av (false,.int w) (fm (eM q2) rfl (by rw [cz,Ql d54,hw])) ?_
 have q3:aa call [zF C8,zF CJ,zF (.int w),none,none,none,none,none,none,none,none,none,none] (.call 28 [V0,(kI 2)])=zF (.int x2):=c2
 refine av (false,.int rm) (fm rfl (fq (fm (eM q3) rfl (by rw [cz,Ql d4]))) (by rw [<-hrm'];rfl)) ?_
 refine tE (b:=true) (ds:=[.lst (A.map (af m)),.lst (B.map (af m))]) (Z':=[zF C8,zF CJ,zF (.int w),zF CW,zF CK,zF CN,none,none,none,none,none,none,none]) (.inl eR) rfl ?_
 have q4:aa call [zF C8,zF CJ,zF (.int w),zF CW,zF CK,zF CN,none,none,none,none,none,none,none] (.call 28 [V0,(kI 3)])=zF (.int x3):=c3
 refine av (false,.int t) (yu (eJ q4) et) ?_
 refine av (false,.int far) ef ?_
 have q5:aa call [zF C8,zF CJ,zF (.int w),zF CW,zF CK,zF CN,zF (.int t),zF CB,none,none,none,none,none] (.call 28 [V0,(kI 0)])=zF (.int x0):=c0
 refine av (false,.int tn) (fm (fq (fm (eM q5) rfl (by rw [dO,Ql d4]))) rfl (by rw [cz,Ql d1000,htn])) ?_
 refine av (false,ae m l) el ?_
 have q6:aa call [zF C8,zF CJ,zF (.int w),zF CW,zF CK,zF CN,zF (.int t),zF CB,zF (.int tn),zF (ae m l),none,none,none] (.bin .fdiv V8 (kI 2))=zF (.int (tn.fdiv 2)):=fm rfl rfl (by rw [dO,Ql d2])
 have q7:aa call [zF C8,zF CJ,zF (.int w),zF CW,zF CK,zF CN,zF (.int t),zF CB,zF (.int tn),zF (ae m l),none,none,none] (.call 34 [V5,V3,(.bin .fdiv V8 (kI 2))])=zF (ae m r):=er
 refine av (false,ae m r) q7 ?_
 refine av (false,.tup [.tup (sP K),.tup (rows.map bp)]) en ?_
 refine aX (x:=false) rfl ?_
 refine av (false,.lst (K.map ar)) ew (ay ?_ rfl)
 have q9:aa call [zF C8,zF CJ,zF (.int w),zF CW,zF CK,zF CN,zF (.int t),zF CB,zF (.int tn),zF (ae m l),zF (ae m r),zF (.tup [.tup (sP K),.tup (rows.map bp)]),zF Cl] (.bi .tuple [(.bi .sorted [kz])])=zF (.tup (sP K)):=cD (dN (cD rfl es)) rfl
 show aa call [zF C8,zF CJ,zF (.int w),zF CW,zF CK,zF CN,zF (.int t),zF CB,zF (.int tn),zF (ae m l),zF (ae m r),zF (.tup [.tup (sP K),.tup (rows.map bp)]),zF Cl] (.and (.isC true kz .non) (.call 29 [(.ix kA (kI 0)),(.bi .tuple [(.bi .sorted [kz])])]))=_
 refine mZ (x:=false) rfl (eL (x:=.tup (sP K)) rfl ?_ ek)
 rw [q9]
 rfl
end
theorem qPK (l:List (Int×Int)):(sP l).length=l.length:=by
 unfold sP
 rw [aw,(uE _).length_eq,aw]
theorem qSb {l:List (Int×Int)}{d:D}(h:d∈sP l):∃r:Int×Int,d=ar r:=by
 obtain⟨t,ht,rfl⟩:=yaO.mp h
 obtain⟨r,_,rfl⟩:=yaO.mp ((uE _).mem_iff.mp ht)
 exact⟨r,rfl⟩
theorem yk (m:Nat):∀(k:Nat) (p:Tr),hg p<=k->(und p).length<=1000->∀n,aH tab (n+k+1) 42 [ae m p]=zT (.lst ((und p).map (af m)))
 | 0,p,hk,hl,n=>aI (n:=n) rG rfl (by rw [dv];rfl) (AG m p hl λq hq _=>Qn hq AC)
 | k+1,p,hk,hl,n=>aI (n:=n+k+1) rG rfl (by rw [dv];rfl) (AG m p hl λq hq hl'=>yk m k q AC hl' n)
theorem yj (n:Nat) (q:List Int) (h:q.length<=1000):aH tab (n+2) 29 [aJ q,aJ q]=zF (.bl true):=
 aI (n:=n+1) jc rfl rfl (qx (q.map .int) (by rw [aw];omega) λd hd=>by
  obtain⟨a,_,rfl⟩:=yaO.mp hd
  exact aI (n:=n) jc rfl rfl (An a))
theorem c_law49 (n:Nat) (ns:List Int) (hn:ns.length<=63):aH tab (n+16) 47 [.lst CC]=zF (.bl true):=by
 have ce:∀k,Ce (aH tab (k+1)) ns:=λk j=>aI (n:=k) vR rfl rfl (qPq ns j)
 have dr:∀k,Cg (aH tab (k+1)):=λk s j x h1 h2 h3=>aI (n:=k) vQ rfl rfl (qPo s j x h1 h2 h3)
 have dt:∀k m t,(0<=t/\t<=10^15)->Dt (aH tab (k+1)) m t:=λk m t h c=>aI (n:=k) vK rfl rfl (qR1 m c t AC)
 have gt:∀k m,Gt (aH tab (k+1)) m:=λk m f g hf hg=>aI (n:=k) vJ rfl rfl (qPk m f g hf hg)
 refine aI (n:=n+15) rF rfl rfl (qR2 ns ⟨ce (n+14),λm w hm hw=>?_,λc=>?_,λm t A B ht hR=>?_,λm A rm x hm hr hx hl hA=>?_,λm t far l r ht hl hr hM=>?_,λm t far l r rows ht hl hr hM wf N=>?_,λk hk=>?_⟩)
 ·obtain⟨A,B,hR,e⟩:=qPj (call:=aH tab (n+14)) ns hn m AC w hw (ce (n+13)) λc k b hk hb=>by
   obtain⟨u,hu,e⟩:=qM5 (call:=aH tab (n+13)) c k m w b hk AC hw hb (dr (n+12))
   exact⟨u,hu,aI (n:=n+13) vP rfl rfl e⟩
  exact⟨A,B,hR,aI (n:=n+14) vL rfl rfl e⟩
 ·obtain⟨t,ht,e⟩:=qPr (call:=aH tab (n+14)) c
  exact⟨t,ht,aI (n:=n+14) vI rfl rfl e⟩
 ·obtain⟨far,e⟩:=qPl (call:=aH tab (n+14)) m t ht ns A B hR.2.2.1 hR.2.2.2 (by have:=hR.1;omega) (by have:=hR.2.1;omega) (ce (n+13)) (dt (n+13) m t ht) (gt (n+13) m)
  exact⟨far,aI (n:=n+14) vH rfl rfl e⟩
 ·obtain⟨p,h1,h2,h3,e⟩:=qPh (call:=aH tab (n+14)) m A rm x hx hl hA (λts ok=>by
   obtain⟨o,g1,g2,e⟩:=qPi (call:=aH tab (n+13)) m ts ok hm
   exact⟨o,g1,g2,aI (n:=n+13) vO rfl rfl e⟩) (λk y hk hy=>by
   obtain⟨q,g1,g2,g3,e⟩:=qPp (call:=aH tab (n+13)) k rm y hk hr hy
   exact⟨q,g1,g2,g3,aI (n:=n+13) vN rfl rfl e⟩)
  exact⟨p,h1,h2,h3,aI (n:=n+14) vM rfl rfl e⟩
 ·obtain⟨rows,_,wf,N,e⟩:=qRb t ht (n+2) m far l r hl hr hM
  exact⟨rows,wf,N,e⟩
 ·refine aI (n:=n+14) vB rfl (by show zF (.tup (rows.map bp))::cj false [ae m l,ae m r,.int far,.int t]++_=_;rw [dv,dv];rfl) (qJ4 m t far l r hl hr hM rows wf N (λa b ha hb=>?_) (λp q w hp hq=>?_) (λx hx=>?_) λx hx hw=>?_)
  ·have ca:∀o,tl a=some o->cT o.cov/\cT o.hrt:=λo e=>by have:=ha.o;rw [e] at this;exact⟨this.1,this.2.1⟩
   have cb:∀o,tl b=some o->cT o.cov/\cT o.hrt:=λo e=>by have:=hb.o;rw [e] at this;exact⟨this.1,this.2.1⟩
   exact aI (n:=n+13) vE rfl (by rw [jh,jh];rfl) (qNa m t far ht (tl a) (tl b) ca cb (dt (n+12) m t ht) (gt (n+12) m))
  ·refine aI (n:=n+13) jc rfl rfl (qx [aJ p,aJ q,.str w] (show 3<=10000 by decide) λd hd=>?_)
   rcases yag.mp hd with rfl|hd
   ·exact yj (n+11) p hp
   ·rcases yag.mp hd with rfl|hd
    ·exact yj (n+11) q hq
    ·rcases yag.mp hd with rfl|hd
     ·exact aI (n:=n+12) jc rfl rfl (qKc w)
     ·cases hd
  ·have h1:PpOk ([],x.1.2):=⟨hx.1.good,by have:=hx.1.high;show ([]:List Int).length+hg x.1.2<=1000;rw [mI];omega,hx.1.high,hx.1.few⟩
   have h2:PpOk ([],x.2.2):=⟨hx.2.good,by have:=hx.2.high;show ([]:List Int).length+hg x.2.2<=1000;rw [mI];omega,hx.2.high,hx.2.few⟩
   refine aI (n:=n+13) vC rfl rfl (qNb m t far ht x hx ?_)
   exact aI (n:=n+12) vD rfl (by rw [dv,dv];rfl) (qGV m t far ht x.1.2 x.2.2 h1 h2 (λp h1 h2=>yk m 8 p h1 h2 (n+3)) (dt (n+11) m t ht) (gt (n+11) m))
  ·have n1:=iQ x.1.2
   have n2:=iQ x.2.2
   refine aI (n:=n+13) vF rfl rfl (qHA m x hw λy hy=>?_)
   have hy':PpOk y:=by
    rcases hy with rfl|rfl
    ·exact hx.1
    ·exact hx.2
   have wy:nd y.2<=100000:=by
    rcases hy with rfl|rfl
    ·exact aT (Nat.le_mul_of_pos_right _ n2) hw
    ·exact aT (Nat.le_mul_of_pos_left _ n1) hw
   exact aI (n:=n+12) vG rfl (by rw [dv];rfl) (qM4 m y (by have:=hy'.path;omega) wy)
 ·refine aI (n:=n+14) jc rfl rfl (qx _ (by rw [qPK];exact hk) λd hd=>?_)
  obtain⟨r,rfl⟩:=qSb hd
  refine aI (n:=n+13) jc rfl rfl (qx [.int r.1,.int r.2] (show 2<=10000 by decide) λd hd=>?_)
  have:∃a:Int,d=.int a:=by
   rcases yag.mp hd with rfl|hd
   ·exact⟨_,rfl⟩
   ·rcases yag.mp hd with rfl|hd
    ·exact⟨_,rfl⟩
    ·cases hd
  obtain⟨a,rfl⟩:=this
  exact aI (n:=n+12) jc rfl rfl (An a)
end Dw.T
namespace Dw.K49
open PySem L2 Dw Dw.T
open PySem.W (nsIn fnOf codeIn keepIn findIn mg_of mg_none_of Frag)
noncomputable def gx:Gx:=⟨("near_pairs",27)::("side_gap",0)::("box_gap",1)::("side_at",2)::("frame_at",3)::("thing_handle",4)::("thing_swath",5)::("thing_box",6)::("told_cover",7)::("told_heart",8)::("is_leaf",9)::("page_told",10)::("page_parts",11)::("things_in",12)::("cover_at",13)::("heart_at",14)::("parts_or_itself",15)::("places_behind",16)::("join_cut",17)::("join_paper",18)::("is_open_leaves",19)::("boxes_of",20)::("gaps_of_leaves",21)::("is_apart",22)::("is_whole_near",23)::("pairs_word",24)::("pairs_of_whole",25)::("pairs_of_rows",26)::("_law_cell_at",28)::("_law_alike",29)::("_law_draw",30)::("_law_thing",31)::("_law_told",32)::("_law_cuts",33)::("_law_tree",34)::("_law_two_rows",35)::("_law_frame_at",36)::("_law_gap",37)::("_law_beat",38)::("_law_far",39)::("_law_under",40)::("_law_behind",41)::("_law_things",42)::("_law_word",43)::("_law_near_ones",44)::("_law_led_to",45)::("_law_walked",46)::("law",47)::[],[],[]⟩
theorem yZ:∀x∈cf,gx.defs.lookup x=none:=by decide +kernel
abbrev cq (s:Stmt):=fx gx 60 (aE s) (bZ (aE s)) (gY 60 (bZ (aE s)) (cw s)) (cw s)
def rK (s:Stmt) (ps:List Str):Bool:=(aE s).kind == .function&&!(aE s).isCoroutine&&!(aE s).isGenerator&&decide (bZ (aE s)).Nodup&&decide ((bZ (aE s)).take ps.length=ps)&&ps.all (λx=>(aE s).names.lookup x == some .local||(aE s).names.lookup x == some .cell)&&(aE s).names.all λy=>y.2 != .free
theorem sF {s:Stmt}{ps:List Str}(h:rK s ps=true):FnScope (bZ (aE s)) ps (aE s):=by
 unfold rK at h
 simp only [aP,List.all_eq_true,eN,beq_iff_eq,bne_iff_ne,rh,decide_eq_true_eq] at h
 obtain⟨⟨⟨⟨⟨⟨h1,h2⟩,h3⟩,h4⟩,h5⟩,h6⟩,h7⟩:=h
 exact⟨h1,h2,h3,h4,h5,h6,h7⟩
theorem us1 {P:List Value->Prop}(h:∀a,P [a]) (us:List Value) (hl:us.length=1):P us:=by
 obtain⟨a,rfl⟩:=List.length_eq_one_iff.mp hl
 exact h a
theorem us2 {P:List Value->Prop}(h:∀a0 a1,P [a0,a1]) (us:List Value) (hl:us.length=2):P us:=by
 cases us with
 | nil=>cases hl
 | cons a r=>exact us1 (P:=λr=>P (a::r)) (h a) r (nX hl)
theorem vz {P:List Value->Prop}(h:∀a0 a1 a2,P [a0,a1,a2]) (us:List Value) (hl:us.length=3):P us:=by
 cases us with
 | nil=>cases hl
 | cons a r=>exact us2 (P:=λr=>P (a::r)) (h a) r (nX hl)
theorem rB {P:List Value->Prop}(h:∀a0 a1 a2 a3,P [a0,a1,a2,a3]) (us:List Value) (hl:us.length=4):P us:=by
 cases us with
 | nil=>cases hl
 | cons a r=>exact vz (P:=λr=>P (a::r)) (h a) r (nX hl)
theorem us5 {P:List Value->Prop}(h:∀a0 a1 a2 a3 a4,P [a0,a1,a2,a3,a4]) (us:List Value) (hl:us.length=5):P us:=by
 cases us with
 | nil=>cases hl
 | cons a r=>exact rB (P:=λr=>P (a::r)) (h a) r (nX hl)
theorem B9 {fd:FuncData}{ps:List Str}(hp:ps.length=1) (h:∀a0,bindArgs fd ⟨[a0],[]⟩=pure (ps.zip [a0])) (us:List Value) (hl:us.length=ps.length):bindArgs fd ⟨us,[]⟩=pure (ps.zip us):=us1 (P:=λus=>bindArgs fd ⟨us,[]⟩=pure (ps.zip us)) h us (hl.trans hp)
theorem B8 {fd:FuncData}{ps:List Str}(hp:ps.length=2) (h:∀a0 a1,bindArgs fd ⟨[a0,a1],[]⟩=pure (ps.zip [a0,a1])) (us:List Value) (hl:us.length=ps.length):bindArgs fd ⟨us,[]⟩=pure (ps.zip us):=us2 (P:=λus=>bindArgs fd ⟨us,[]⟩=pure (ps.zip us)) h us (hl.trans hp)
theorem B7 {fd:FuncData}{ps:List Str}(hp:ps.length=3) (h:∀a0 a1 a2,bindArgs fd ⟨[a0,a1,a2],[]⟩=pure (ps.zip [a0,a1,a2])) (us:List Value) (hl:us.length=ps.length):bindArgs fd ⟨us,[]⟩=pure (ps.zip us):=vz (P:=λus=>bindArgs fd ⟨us,[]⟩=pure (ps.zip us)) h us (hl.trans hp)
theorem B6 {fd:FuncData}{ps:List Str}(hp:ps.length=4) (h:∀a0 a1 a2 a3,bindArgs fd ⟨[a0,a1,a2,a3],[]⟩=pure (ps.zip [a0,a1,a2,a3])) (us:List Value) (hl:us.length=ps.length):bindArgs fd ⟨us,[]⟩=pure (ps.zip us):=rB (P:=λus=>bindArgs fd ⟨us,[]⟩=pure (ps.zip us)) h us (hl.trans hp)
theorem B5 {fd:FuncData}{ps:List Str}(hp:ps.length=5) (h:∀a0 a1 a2 a3 a4,bindArgs fd ⟨[a0,a1,a2,a3,a4],[]⟩=pure (ps.zip [a0,a1,a2,a3,a4])) (us:List Value) (hl:us.length=ps.length):bindArgs fd ⟨us,[]⟩=pure (ps.zip us):=us5 (P:=λus=>bindArgs fd ⟨us,[]⟩=pure (ps.zip us)) h us (hl.trans hp)
theorem fc {α:Type}{p:α->Prop}{a:α}{l:List α}(h:p a) (t:∀x∈l,p x):∀x∈a::l,p x:=List.forall_mem_cons.mpr ⟨h,t⟩
section
variable {K:Frag}{h:Heap}{mg:Str->Option Value}
abbrev Bd (x q:Str) (s:Stmt) (ps:List Str):Prop:=∀(kV doc pm:Value) (an:Option Addr) (cdv ct:Value) (us:List Value),us.length=ps.length->bindArgs (fnOf x q (f9 s) (cw s) (aE s) .none kV doc pm an cdv ct) ⟨us,[]⟩=pure (ps.zip us)
theorem aR (X:K.In h) (G:h.Ns mainGlobals mg) {x:Str}(m:Str) (t:Tok) (i f c:Nat) {g:Nat}(ps:List Str) (fd:Fd) (tt:tab[g]?=some fd) (a:nsIn K mainGlobals x=some (some (.ref f))) (l:K.lookup f=some (fo x x (aq i) m t c)) (cc:codeIn K (.ref c) x=true) (k:keepIn K (.ref f)=true) (nd:gx.dfl.lookup x=none) (b:Bd x x (aq i) ps) (sc:rK (aq i) ps=true) (cs:cq (aq i)=some fd.body) (np:fd.np=ps.length) (ns:fd.ns=(bZ (aE (aq i))).length):DefIn K mg gx tab 60 x g∨LdIn K mg gx tab 60 x g:=
 .inl ⟨⟨f,_,aq i,ps,fd,mg_of X G a,yX (sQ (st:=aq i) l cc k),(sQ (st:=aq i) l cc k).binds b,sF sc,cs,tt,np,ns,λm_ d_ e=>nomatch (nd.symm.trans e)⟩⟩
end
section
variable {h:Heap}{mg:Str->Option Value}{P:Params}(X:(heap P).In h) (G:h.Ns mainGlobals mg)
include X G
omit X G in
theorem hLb:LamBody gx 60 (aE (aq 33)) (bZ (aE (aq 33))) (gY 60 (bZ (aE (aq 33))) (cw (aq 33))) (cw (aq 33)) f_near_pairs.body lamL 48:=by
 refine⟨⟨[],[(cw (aq 33)).getD 1 (.Pass ⟨0,0,0,0⟩)],[],f_near_pairs.body.drop 1,.Assign [.Name "rows" ⟨104,4,104,8⟩] (.Call (.Name "join_cut" ⟨104,11,104,19⟩) ([.Name "one" ⟨104,20,104,23⟩,.Name "two" ⟨104,25,104,28⟩]++[.Lambda lamL.la lamL.e lamL.sc lamL.pos]) [] ⟨104,11,104,85⟩) ⟨104,4,104,85⟩,[.set 4 false (.lamc 17 [V0,V1] 48 [3,2])],"join_cut",⟨104,11,104,19⟩,⟨104,11,104,85⟩,[.Name "one" ⟨104,20,104,23⟩,.Name "two" ⟨104,25,104,28⟩],[V0,V1],17,[3,2],?_,?_,?_,?_,.inr (.inl ⟨"rows",_,_,4,false,rfl,rfl,?_,?_,λz=>nomatch z⟩),?_,?_,?_,⟨?_,?_,trivial⟩,?_⟩⟩
 all_goals kernel_rfl
theorem hLd:LdIn (heap P) mg gx tab 60 "near_pairs" 27:=by
 have l:(heap P).lookup 193=some (Bs "near_pairs" "near_pairs" (aq 33) mF 307 192 186):=by kernel_rfl
 refine⟨⟨193,192,aq 33,["one","two","far","beat"],f_near_pairs,_,_,_,_,_,_,_,_,_,48,lamL,mg_of X G ?_,?_,l,(λs us hK hl=>rB (P:=λus=>BindsTo s _ ⟨us,[]⟩ (List.zip ["one","two","far","beat"] (us++[]))) (λ_ _ _ _=>BindsTo.of_defaults rfl (hK 186 ({ cls:=.type "tuple",data:=.seq #[.int 0 402] }) (by kernel_rfl)) rfl rfl rfl) us (by simpa using hl)),?_,?_,⟨4,_,mg_of X G ?_,by decide,by decide,by decide,(by kernel_rfl:(heap P).lookup 4=some { cls:=.type "module",dict:=some 0,data:=.plain }),rfl,rfl,rfl⟩,sF ?_,?_,?_,?_,hLb,?_,zQ ?_,?_,λenv=>?_,(λ_ _ e=>nomatch ((by kernel_rfl:gx.dfl.lookup ("near_pairs":Str)=none).symm.trans e))⟩⟩
 all_goals first|kernel_rfl|exact λ_ _ _ _ _ _=>B9 rfl λ_=>rfl|exact λ_ _ _ _ _ _=>B8 rfl λ_ _=>rfl|exact λ_ _ _ _ _ _=>B7 rfl λ_ _ _=>rfl|exact λ_ _ _ _ _ _=>B6 rfl λ_ _ _ _=>rfl|exact λ_ _ _ _ _ _=>B5 rfl λ_ _ _ _ _=>rfl
theorem hd:∀p∈gx.defs,DefIn (heap P) mg gx tab 60 p.1 p.2∨LdIn (heap P) mg gx tab 60 p.1 p.2:=by
 refine fc (.inr (hLd X G)) (
  fc (aR X G mA 187 1 21 20 ["one","two"] f_side_gap t0 ?_ ?_ ?_ ?_ ?_ ?_ ?_ ?_ ?_ ?_) (
  fc (aR X G mA 187 2 26 25 ["one","two"] f_box_gap t1 ?_ ?_ ?_ ?_ ?_ ?_ ?_ ?_ ?_ ?_) (
  fc (aR X G mB 203 4 33 32 ["side","beat"] f_side_at t2 ?_ ?_ ?_ ?_ ?_ ?_ ?_ ?_ ?_ ?_) (
  fc (aR X G mB 203 5 38 37 ["frame","beat"] f_frame_at t3 ?_ ?_ ?_ ?_ ?_ ?_ ?_ ?_ ?_ ?_) (
  fc (aR X G mC 219 7 45 44 ["thing"] uU t4 ?_ ?_ ?_ ?_ ?_ ?_ ?_ ?_ ?_ ?_) (
  fc (aR X G mC 219 8 52 51 ["thing"] uX t5 ?_ ?_ ?_ ?_ ?_ ?_ ?_ ?_ ?_ ?_) (
  fc (aR X G mC 219 9 59 58 ["thing","beat"] uN t6 ?_ ?_ ?_ ?_ ?_ ?_ ?_ ?_ ?_ ?_) (
  fc (aR X G mC 219 10 66 65 ["told"] uV t7 ?_ ?_ ?_ ?_ ?_ ?_ ?_ ?_ ?_ ?_) (
  fc (aR X G mC 219 11 73 72 ["told"] uW t8 ?_ ?_ ?_ ?_ ?_ ?_ ?_ ?_ ?_ ?_) (
  fc (aR X G mD 257 13 80 79 ["page"] f_is_leaf t9 ?_ ?_ ?_ ?_ ?_ ?_ ?_ ?_ ?_ ?_) (
  fc (aR X G mD 257 14 87 86 ["page"] f_page_told wc ?_ ?_ ?_ ?_ ?_ ?_ ?_ ?_ ?_ ?_) (
  fc (aR X G mD 257 15 94 93 ["page"] f_page_parts wb ?_ ?_ ?_ ?_ ?_ ?_ ?_ ?_ ?_ ?_) (
  fc (aR X G mD 257 16 101 100 ["page"] f_things_in rH ?_ ?_ ?_ ?_ ?_ ?_ ?_ ?_ ?_ ?_) (
  fc (aR X G mE 289 18 108 107 ["told","beat"] uO wa ?_ ?_ ?_ ?_ ?_ ?_ ?_ ?_ ?_ ?_) (
  fc (aR X G mE 289 19 115 114 ["told","beat"] uP v9 ?_ ?_ ?_ ?_ ?_ ?_ ?_ ?_ ?_ ?_) (
  fc (aR X G mF 307 21 120 119 ["path","page"] f_parts_or_itself v8 ?_ ?_ ?_ ?_ ?_ ?_ ?_ ?_ ?_ ?_) (
  fc (aR X G mF 307 22 125 124 ["place"] f_places_behind v7 ?_ ?_ ?_ ?_ ?_ ?_ ?_ ?_ ?_ ?_) (
  fc (aR X G mF 307 23 132 131 ["one","two","word_of"] f_join_cut v5 ?_ ?_ ?_ ?_ ?_ ?_ ?_ ?_ ?_ ?_) (
  fc (aR X G mF 307 24 137 136 ["rows"] f_join_paper v3 ?_ ?_ ?_ ?_ ?_ ?_ ?_ ?_ ?_ ?_) (
  fc (aR X G mF 307 25 144 143 ["place","word"] f_is_open_leaves vZ ?_ ?_ ?_ ?_ ?_ ?_ ?_ ?_ ?_ ?_) (
  fc (aR X G mF 307 26 149 148 ["things","beat"] f_boxes_of vY ?_ ?_ ?_ ?_ ?_ ?_ ?_ ?_ ?_ ?_) (
  fc (aR X G mF 307 27 154 153 ["page","other","beat"] f_gaps_of_leaves vX ?_ ?_ ?_ ?_ ?_ ?_ ?_ ?_ ?_ ?_) (
  fc (aR X G mF 307 28 161 160 ["told","other","far","beat"] f_is_apart vW ?_ ?_ ?_ ?_ ?_ ?_ ?_ ?_ ?_ ?_) (
  fc (aR X G mF 307 29 168 167 ["told","other","far","beat"] f_is_whole_near vV ?_ ?_ ?_ ?_ ?_ ?_ ?_ ?_ ?_ ?_) (
  fc (aR X G mF 307 30 175 174 ["told","other","far","beat"] f_pairs_word vU ?_ ?_ ?_ ?_ ?_ ?_ ?_ ?_ ?_ ?_) (
  fc (aR X G mF 307 31 180 179 ["page","other"] f_pairs_of_whole vT ?_ ?_ ?_ ?_ ?_ ?_ ?_ ?_ ?_ ?_) (
  fc (aR X G mF 307 32 185 184 ["rows","far","beat"] f_pairs_of_rows vS ?_ ?_ ?_ ?_ ?_ ?_ ?_ ?_ ?_ ?_) (
  fc (aR X G mG 416 35 200 199 ["script","k"] f_law_cell_at vR ?_ ?_ ?_ ?_ ?_ ?_ ?_ ?_ ?_ ?_) (
  fc (aR X G mG 416 36 207 206 ["found","due"] f_law_alike jc ?_ ?_ ?_ ?_ ?_ ?_ ?_ ?_ ?_ ?_) (
  fc (aR X G mG 416 37 214 213 ["seed","j","many"] f_law_draw vQ ?_ ?_ ?_ ?_ ?_ ?_ ?_ ?_ ?_ ?_) (
  fc (aR X G mG 416 38 221 220 ["cell","k","sides","way","base"] f_law_thing vP ?_ ?_ ?_ ?_ ?_ ?_ ?_ ?_ ?_ ?_) (
  fc (aR X G mG 416 39 226 225 ["things"] f_law_told vO ?_ ?_ ?_ ?_ ?_ ?_ ?_ ?_ ?_ ?_) (
  fc (aR X G mG 416 40 231 230 ["many","room","cell"] f_law_cuts vN ?_ ?_ ?_ ?_ ?_ ?_ ?_ ?_ ?_ ?_) (
  fc (aR X G mG 416 41 236 235 ["things","room","cell"] f_law_tree vM ?_ ?_ ?_ ?_ ?_ ?_ ?_ ?_ ?_ ?_) (
  fc (aR X G mG 416 42 241 240 ["script","sides","way"] f_law_two_rows vL ?_ ?_ ?_ ?_ ?_ ?_ ?_ ?_ ?_ ?_) (
  fc (aR X G mG 416 43 246 245 ["frame","beat"] f_law_frame_at vK ?_ ?_ ?_ ?_ ?_ ?_ ?_ ?_ ?_ ?_) (
  fc (aR X G mG 416 44 253 252 ["ones","others"] f_law_gap vJ ?_ ?_ ?_ ?_ ?_ ?_ ?_ ?_ ?_ ?_) (
  fc (aR X G mG 416 45 260 259 ["cell"] f_law_beat vI ?_ ?_ ?_ ?_ ?_ ?_ ?_ ?_ ?_ ?_) (
  fc (aR X G mG 416 46 267 266 ["script","ones","others","beat"] f_law_far vH ?_ ?_ ?_ ?_ ?_ ?_ ?_ ?_ ?_ ?_) (
  fc (aR X G mG 416 47 272 271 ["page","path"] f_law_under vG ?_ ?_ ?_ ?_ ?_ ?_ ?_ ?_ ?_ ?_) (
  fc (aR X G mG 416 48 279 278 ["row"] f_law_behind vF ?_ ?_ ?_ ?_ ?_ ?_ ?_ ?_ ?_ ?_) (
  fc (aR X G mG 416 49 286 285 ["page"] f_law_things rG ?_ ?_ ?_ ?_ ?_ ?_ ?_ ?_ ?_ ?_) (
  fc (aR X G mG 416 50 293 292 ["one","two","far","beat"] f_law_word vE ?_ ?_ ?_ ?_ ?_ ?_ ?_ ?_ ?_ ?_) (
  fc (aR X G mG 416 51 300 299 ["one","two","far","beat"] f_law_near_ones vD ?_ ?_ ?_ ?_ ?_ ?_ ?_ ?_ ?_ ?_) (
  fc (aR X G mG 416 52 305 304 ["row","word","far","beat"] f_law_led_to vC ?_ ?_ ?_ ?_ ?_ ?_ ?_ ?_ ?_ ?_) (
  fc (aR X G mG 416 53 312 311 ["paper","left","right","far","beat"] f_law_walked vB ?_ ?_ ?_ ?_ ?_ ?_ ?_ ?_ ?_ ?_) (
  fc (aR X G mG 416 54 319 318 ["script"] f_law rF ?_ ?_ ?_ ?_ ?_ ?_ ?_ ?_ ?_ ?_) (
  λ_ h=>nomatch h))))))))))))))))))))))))))))))))))))))))))))))))
 all_goals first|kernel_rfl|exact λ_ _ _ _ _ _=>B9 rfl λ_=>rfl|exact λ_ _ _ _ _ _=>B8 rfl λ_ _=>rfl|exact λ_ _ _ _ _ _=>B7 rfl λ_ _ _=>rfl|exact λ_ _ _ _ _ _=>B6 rfl λ_ _ _ _=>rfl|exact λ_ _ _ _ _ _=>B5 rfl λ_ _ _ _ _=>rfl
theorem hb:∀x∈cf,mg x=none:=by
 refine fc CU (fc CU (fc CU (fc CU (fc CU (fc CU (fc CU (fc CU (fc CU (fc CU (fc CU (fc CU (fc CU (fc CU (fc CU (fc CU (fc CU (fc CU (λ_ h=>nomatch h))))))))))))))))))
 all_goals kernel_rfl
end
theorem qH:∀j L,lamX.lookup j=some L->LamIn gx tab 60 j L:=by
 intro j L h
 have e:=yaz.mp (show (j,L)∈[(48,lamL)] from uA h)
 cases e
 refine⟨⟨["told","other"],(.call 24 [V0,V1,V3,V2]),sj,?_,?_,?_,?_,?_,?_,λi z=>(nomatch z),?_,?_,?_,?_,?_,?_,λclos pm c ctv us hl=>us2 (P:=λus=>bindArgs (PySem.W.kla_fn "<lambda>" lamL.q lamL.la lamL.e lamL.sc clos pm (.ref c) ctv) ⟨us,[]⟩=pure (List.zip (["told","other"]:List Str) us)) (λ_ _=>rfl) us hl⟩⟩
 all_goals first|kernel_rfl|decide +kernel
theorem nM {l:Program}{w:World}{h:Heap}{mg:Str->Option Value}(X:(heap w.params).In h) (G:h.Ns mainGlobals mg):CnD l w (heap w.params) mg gx:=by
 exact⟨λx i h=>(nomatch h)⟩
theorem fin {l:PySem.W.OpenLaw}{w:World}{h:Heap}{mg:Str->Option Value}{fa:Addr}(X:(heap w.params).In h) (G:h.Ns mainGlobals mg) (hfa:mg "law"=some (.ref fa)):∃fd:FuncData,(∀(s:Shared) (v:Value),BindsTo s fd ⟨[v],[]⟩ [("script",v)])/\∀base:Heap,(heap w.params).In base->base.Ns mainGlobals mg->FnOk l.prog w (heap w.params) mg base fO 18 fa fd ["script"] (jI (heap w.params) 1 (aH tab 16 47)):=by
 have e:=hfa.symm.trans (mg_of X G (n:="law") (v:=.ref 319) (by kernel_rfl))
 cases e
 have l0:(heap w.params).lookup 319=some (fo "law" "law" (aq 54) mG 416 318):=by kernel_rfl
 exact⟨_,λs v=>.of_eq rfl,λbase kb _=>yV (fuel:=60) yZ (hb X G) (nM X G) (stp yZ (hb X G) (nM X G) kb (λx i h=>hd X G (x,i) (dF h)) qH 15) (x:="law") (qn:="law") (st:=aq 54) (ps:=["script"]) (fd:=f_law) (yX (sQ (st:=aq 54) l0 (by kernel_rfl) (by kernel_rfl))) (sF (by kernel_rfl)) (by kernel_rfl) rF rfl (by kernel_rfl)⟩
end Dw.K49
open PySem PySem.W PyProof.Rows
set_option maxRecDepth 100000 in
set_option maxHeartbeats 0 in
theorem PySem.Challenge.cw_driftwood_k49_near_pairs_on_paper_holds : PySem.Challenge.rw_driftwood_k49_near_pairs_on_paper.Holds := by
 rw [Dw.K49.lw_eq]
 w_on
 refine holds_law Dw.K49.said λsaid=>?_
 refine holds_open (q:=Dw.K49.q) (loose:=Dw.K49.lo) (Xt:=λs=>xlAt Dw.K49.q [] s&&recOk (RowW.records Dw.K49.lw.row.toRowW) s) (XP:=XL Dw.K49.q []) (Yf:=Hook.obs Dw.K49.hk) (Ya:=Hook.val Dw.K49.hk) (YP:=Hook.says Dw.K49.hk) (N:=4000) Dw.K49.hl (Hook.of Dw.K49.hk) (Hook.keeps Dw.K49.hk) (λs e=>xl_of s (Bool.and_eq_true_iff.mp e).1) XL.keeps (by rfl) (by rfl) (by rfl) (λs e=>recFacts_of (Bool.and_eq_true_iff.mp e).2) (by rfl) (by assumption) (by kernel_rfl) ⟨rfl,rfl,rfl,rfl,rfl,by kernel_rfl⟩ ?hw ?hc
 case hw=>w_witness2
 exact Dw.dw_walk (l:=Dw.K49.lw) (tab:=Dw.T.tab) (n:=16) (i:=47) (λns h _=>Dw.T.c_law49 0 ns h) rfl rfl ⟨rfl,by decide,by decide⟩ (λw h Y=>PySem.W.km_in_of Y) (λt hm=>by have e:=yaz.mp (show t∈[_] from hm);subst e;rfl) (λw h Y t hm=>PySem.W.km_tabs_of Y t.1 (by have e:=yaz.mp (show t∈[_] from hm);subst e;decide)) (λw t hm=>by have e:=yaz.mp (show t∈[_] from hm);subst e;exact⟨⟨192,by kernel_rfl⟩,by kernel_rfl⟩) λw mg fa h KX G hmg=>Dw.K49.fin KX G hmg
